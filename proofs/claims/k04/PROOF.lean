import PyProof.Rows.All
import Wide.All
import OpenK.AllK
import Wide.FinOn
import PyProof.EqAt
import PyProof.EqKinds
import PyProof.TupleCall
import PyProof.ReprReads
import KE.KExcInit
import HandS.ForMost
import HandS.ForExc
import HandS.ExcField
import HandS.Flow
import HandS.Style
import PyProof.ReprRoads
import HandS.ExcIs
import KE.KExcIs
import HandS.Defaults
import HandS.Walk
import HandS.IsInst
import HandS.Codes
import HandS.StrMore
import KE.GoesMore
import HandS.CallLocal
import HandS.More
import PyProof.StrOps2
import PySem.Challenge.RW_millhands_k04_letters_that_go
import HandS.Replace
import KE.KSortTupG
import KE.KDictSum
import HandS.Iter
import HandS.Dict
import HandS.Conv
import HandS.TupLe
import HandS.OwnEq
import PyProof.ReprLen
import HandS.Text
import HandS.Set
import HandS.SetFor
import HandS.SetTxt0
import HandS.Strs
import HandS.SetTxtIn
import HandS.TupAny
import PyProof.ListStr
import PyProof.ListMulRight
import PyProof.AutoIntG3
import HandS.MakeKwOnly
import HandS.ExcValue
import HandS.HeadEnd
import HandS.Head0
import HandS.Head1
import HandS.Head2
import HandS.HeadHook1
import HandS.HeadHook2
set_option Elab.async false
set_option linter.all false
set_option maxRecDepth 100000
set_option maxHeartbeats 0
namespace Mq
open PySem PySem.Spec PyProof.Rows L2

/-! ### defs that are entered where no repr is under way -/
def Still (A : Around) : Prop := A.guards = some []

structure FnG (P : Program) (w : World) (K : PySem.W.Frag) (mg : Str → Option Value)
    (base : Heap) (CX : CXT) (k : Nat) (f : Addr) (fd : FuncData) (ps : List Str) (sp : Sp) : Prop where
  many : ∀ vs H Q E, sp vs H Q E → vs.length = ps.length
  go : ∀ (A : Around) (outer : List Env) (s : Shared) (H : Hp) (args : Args)
    (us : List Value) (vs : List V) (Q : VK) (E : XK), Still A → Room k A →
    Env0 P w K mg base A outer s H → BindsTo s fd args (ps.zip us) → Vals vs us → sp vs H Q E →
    codeAny (model P w) A (.call (.ref f) args) (CR CX outer P w H s Q E) s

theorem FnG.of {P : Program} {w : World} {K : PySem.W.Frag} {mg : Str → Option Value}
    {base : Heap} {CX : CXT} {k : Nat} {f : Addr} {fd : FuncData} {ps : List Str} {sp : Sp}
    (F : FnOk P w K mg base CX k f fd ps sp) : FnG P w K mg base CX k f fd ps sp :=
  ⟨F.len, fun A outer s H args us vs Q E _ => F.run A outer s H args us vs Q E⟩

section
variable {P : Program} {w : World} {K : PySem.W.Frag} {mg : Str → Option Value} {base : Heap}

theorem Fun.okG {CX : CXT} {x qual : Str} {st : Stmt} {f : Addr} {fd : FuncData} {N ps : List Str}
    {k : Nat} {sp : Sp} (F : L2.Fun K x qual st f fd) (S : FnScope N ps (defScope st))
    (many : ∀ vs H Q E, sp vs H Q E → vs.length = ps.length)
    (body : ∀ (cdv : Value) (A : Around) (outer : List Env) (s : Shared) (H : Hp) (vs : List V) (Q : VK) (E : XK),
      Still (A.deeper (envOfC qual (defScope st) s.heap.objs.size f cdv)) →
      Room k (A.deeper (envOfC qual (defScope st) s.heap.objs.size f cdv)) → sp vs H Q E →
      ∃ t, PSs (cxOf CX P w K mg base N qual (defScope st) f cdv A outer s H E) (defBody st) t ∧
        t { nx := fun _ H' => Q .non H', rt := Q } (start N vs) H) :
    FnG P w K mg base CX (k + 1) f fd ps sp := by
  obtain ⟨oc, od, kV, doc, pm, an, cdv, ct, osl, rfl, lk, hcd⟩ := F.ex
  refine ⟨many, fun A outer s H args us vs Q E gA hr e0 hb r h => ?_⟩
  have old : ∀ b o, base.get? b = some o → s.heap.get? b = some o := fun b o e => (e0.bs b o e).1
  have KX := e0.mod.kin.keeps old
  have lim := e0.mod.nolimit.keeps old
  have hlen := many _ _ _ _ h
  have kinds : ∀ y ∈ ps.zip us, (defScope st).names.lookup y.1 = some .local ∨
      ((defScope st).names.lookup y.1 = some .cell ∧
        ((cellsFrom (s.heap.objs.size + 1) (defScope st).names []).lookup y.1).isSome = true) := by
    rintro ⟨n, v⟩ hy
    rcases S.par n (List.of_mem_zip hy).1 with q | q
    · exact Or.inl q
    · exact Or.inr ⟨q, PySem.W.cellsFrom_some _ _ _ (Or.inl q)⟩
  refine codeAny_call_function hr.depth (KX _ _ lk) rfl S.co S.gen rfl
    (PySem.W.codeRec_of KX hcd) (hb _ _ _ _ ?_)
  refine wpAny_newFunctionEnv_cells S.kind kinds (fun env he s1 x => ?_)
  subst he
  refine ⟨lim.keeps x.toInCall.keep, codeAny_func ?_⟩
  obtain ⟨t, ht, hq⟩ := body cdv A outer s H vs Q E gA (hr.deeper _) h
  have I := inv_start (CX := CX) (E := E) S hr.hd e0 hlen r x
  refine wpAny_mono (ht.run [] s1 (start N vs) H _ I hq) (fun fl s' hs => ?_) (fun e s' hs => hs)
  cases fl with
  | ret u =>
    obtain ⟨v, σ', H', J, rv, q⟩ := hs
    exact ⟨v, H', J.os, J.bare, J.base, J.hok, rv, q⟩
  | next =>
    obtain ⟨σ', H', J, q⟩ := hs
    exact ⟨V.non, H', J.os, J.bare, J.base, J.hok, rfl, q⟩
  | brk =>
    obtain ⟨_, _, _, q⟩ := hs
    exact q.elim
  | cont =>
    obtain ⟨_, _, _, q⟩ := hs
    exact q.elim
end

section
variable {X : Cx} {CX : CXT} {k : Nat} {f : Addr} {fd : FuncData} {ps : List Str} {sp : Sp}
  {E : XK} {x : Str} {p pos : Pos} {e : Expr} {es : List Expr} {t : TA}

theorem run_G {pins : List (Addr × Obj)} {σ : L2.St} {H : Hp} {s : Shared} {Q : VK} {us : List Value} {vs : List V}
    (F : FnG X.prog X.w X.K X.mg X.base CX k f fd ps sp) (gA : Still X.A) (hr : Room k X.A)
    (hb : Binds X.K fd ps []) (hx : Passes CX X E) (I : Inv X pins σ H s) (r : Vals vs us) (h : sp vs H Q E) :
    wpAny (model X.prog X.w) X.A (call (.ref f) us) (EP X pins σ Q) X.xe s := by
  have hl : us.length = ps.length := by rw [← r.length]; exact F.many _ _ _ _ h
  have b := hb s us I.kIn (by rw [List.append_nil]; exact hl)
  rw [List.append_nil] at b
  refine wpAny_call (codeAny_mono (F.go X.A X.stack s H ⟨us, []⟩ us vs Q E gA hr I.env0 b r h) (fun r s' hq => ?_))
  match r, hq with
  | .error er, hq => exact hx pins σ H s er s' I hq
  | .ok (.ret u), hq => exact I.after hq
  | .ok .next, hq => exact hq.elim
  | .ok .brk, hq => exact hq.elim
  | .ok .cont, hq => exact hq.elim

/-- f(e, ..) where no repr is under way -/
theorem pe_callG (F : FnG X.prog X.w X.K X.mg X.base CX k f fd ps sp) (gA : Still X.A) (hr : Room k X.A)
    (hg : Gl X x) (hm : X.mg x = some (.ref f)) (hk : PySem.W.keepIn X.K (.ref f) = true)
    (hb : Binds X.K fd ps []) (hx : Passes CX X E) (ha : PA X (e :: es) t)
    (hdb : (x == ("__debug__" : Str)) = false := by decide)
    (he : starEach (e :: es) X.env = (false, eval e X.env) :: starEach es X.env := by rfl)
    (hpl : (backTo pos (starEach es X.env)).any (·.1) = false := by rfl) :
    PE X (.Call (.Name x p) (e :: es) [] pos) (tCall sp [] E t) := by
  refine ⟨fun pins s σ H Q I h => wpAny_Call_Name_kw (ld_glob I hg hm ?_ hdb)⟩
  refine PySem.W.callWith_K (h₀ := X.base) I.ok.mod.kin hk (thn (ha.run pos pins s σ H _ I h) ?_) he hpl
  rintro us s1 ⟨vs, H1, I1, r, q⟩
  rw [List.append_nil] at q
  exact ⟨I1.kIn, run_G F gA hr hb hx I1 r q⟩
end

/-! ### the law's own call -/
theorem law_callG {P : Program} {w : World} {K : PySem.W.Frag} {mg mb : Str → Option Value} {CX : CXT} {k : Nat}
    {fa a : Addr} {fd : FuncData} {x : Str} {sp : Sp} {s₁ : Shared} {vs : List Value} {ns : List Int}
    (KX : K.In s₁.heap) (hns : s₁.heap.Ns mainGlobals mg) (hb : s₁.heap.Ns builtinsNs mb)
    (hbb : ∀ x : Str, x ≠ "__name__" → mb x = bootBuiltins x) (hlim : s₁.heap.NoLimit) (hg : s₁.gens = #[])
    (ha : s₁.heap.get? a = some { cls := .type "list", data := .seq vs.toArray }) (hi : IntsAre vs ns)
    (hl : ns.length ≤ sizeLine) (hr : Room k callerA)
    (F : ∀ base : Heap, K.In base → base.Ns mainGlobals mg → FnG P w K mg base CX k fa fd [x] sp)
    (hbind : ∀ (s : Shared) (u : Value), BindsTo s fd ⟨[u], []⟩ [(x, u)])
    (hsp : ∀ H : Hp, Only H → SqL K H a (ns.map V.int) → sp [.ref a] H (fun v _ => v = .bl true) fun _ _ _ => False)
    (hCX : ∀ H e s', CX [] H s₁ (fun _ _ _ => False) e s' → False) :
    codeAny (model P w) callerA (.call (.ref fa) ⟨[.ref a], []⟩)
      (fun r s' => r = .ok (.ret (.bool true)) ∧ OldK s₁.heap s'.heap ∧ s'.os = s₁.os ∧ AllBare s'.gens) s₁ := by
  have rv := vals_ints hi
  have core : ∀ H : Hp, Only H → SqL K H a (ns.map V.int) → HOk P w H s₁.heap →
      (∀ b, H b ≠ none → b = a) → (H a ≠ none → K.lookup a = none) →
      codeAny (model P w) callerA (.call (.ref fa) ⟨[.ref a], []⟩)
        (fun r s' => r = .ok (.ret (.bool true)) ∧ OldK s₁.heap s'.heap ∧ s'.os = s₁.os ∧ AllBare s'.gens) s₁ := by
    intro H hO hS hok hA hK
    have only : ∀ {b : Addr} {u : HO}, H b = some u → b = a := fun {b u} q => hA b (by rw [q]; exact fun z => by cases z)
    have noD : ∀ {b : Addr} {o : Obj} {es : Array DictEntry} {ep : Nat}, s₁.heap.get? b = some o →
        o.data = .dict es ep → H b = none := by
      intro b o es ep e d
      cases q : H b with
      | none => rfl
      | some u =>
        have e' := only q
        subst e'
        rw [ha] at e
        cases e
        cases d
    have nsK : ∀ {b : Addr} {m : Str → Option Value}, s₁.heap.Ns b m → (hidT s₁.heap H).Ns b m := by
      rintro b m ⟨o, es, ep, e, d, r⟩
      exact ⟨o, es, ep, hidT_get e (noD e d), d, r⟩
    have hKb : K.In (hidT s₁.heap H) := by
      intro b o e
      refine hidT_get (KX b o e) ?_
      cases q : H b with
      | none => rfl
      | some u =>
        have e' := only q
        subst e'
        rw [hK (by rw [q]; exact fun z => by cases z)] at e
        cases e
    obtain ⟨mc, l1, l2⟩ := hlim
    have hM : Mod K mg (hidT s₁.heap H) := ⟨hKb, nsK hns, ⟨mb, nsK hb, hbb⟩, ⟨mc, nsK l1, l2⟩⟩
    have nil : ∀ {b : Addr}, b ∉ ([] : List Addr) := fun h => by cases h
    have e0 : Env0 P w K mg (hidT s₁.heap H) callerA [] s₁ H :=
      ⟨rfl, hM, fun b o e => of_hidT e, Nat.le_of_eq (hidT_size _ _), trivial, fun b hb => (nil hb).elim, hok, .of_eq hg⟩
    refine codeAny_mono ((F _ hKb (nsK hns)).go callerA [] s₁ H ⟨[.ref a], []⟩ [.ref a] [.ref a] _ _ rfl hr e0
      (hbind s₁ (.ref a)) (.cons rfl .nil) (hsp H hO hS)) (fun r s' h => ?_)
    match r, h with
    | .error e, h => exact (hCX H e s' h).elim
    | .ok .next, h => exact h.elim
    | .ok .brk, h => exact h.elim
    | .ok .cont, h => exact h.elim
    | .ok (.ret u), h =>
      obtain ⟨v, H', os, bare, un, hok', r', q⟩ := h
      have q' : v = .bl true := q
      subst q'
      cases (show u = Value.bool true from r')
      refine ⟨rfl, OldK.of_keep (fun b o e => ?_), os, bare⟩
      rcases hO b with z | ⟨ob, xs, z⟩
      · exact un.keep b o e z nil nil
      · obtain ⟨e1, _⟩ := hok b _ z
        obtain ⟨e2, _⟩ := hok' b _ (un.frzs b ob _ z)
        rw [e] at e1
        cases e1
        exact e2
  cases hk : K.lookup a with
  | some o =>
    have e := KX a o hk
    rw [ha] at e
    cases e
    refine core (fun _ => none) (fun _ => Or.inl rfl) (Or.inr ⟨_, vs.toArray, _, hk, rfl, rfl, rfl, ?_, by simpa using rv⟩)
      (fun b u z => by cases (show (none : Option HO) = some u from z)) (fun b z => (z rfl).elim) (fun z => (z rfl).elim)
    rw [List.size_toArray, hi.length]
    exact hl
  | none =>
    let o0 : Obj := { cls := .type "list", data := .seq vs.toArray }
    refine core (fun b => if b = a then some (.frz o0 (.lst (ns.map V.int))) else none) (fun b => ?_)
      (Or.inl (Or.inr ⟨o0, if_pos rfl⟩)) (fun b u z => ?_) (fun b z => ?_) (fun _ => hk)
    · by_cases hb : b = a
      · exact Or.inr ⟨_, _, if_pos hb⟩
      · exact Or.inl (if_neg hb)
    · by_cases hb : b = a
      · cases (if_pos hb).symm.trans z
        subst hb
        exact ⟨ha, by rw [List.length_map]; exact hl, vs, _, rv, ha⟩
      · cases (if_neg hb).symm.trans z
    · by_cases hb : b = a
      · exact hb
      · exact (z (if_neg hb)).elim

theorem walk_ofG {l : PySem.W.OpenLaw} {n k : Nat} {q : Program} {loose : List Str}
    {XP : (Str → Option Value) → Heap → Prop} {YP : World → Heap → Prop} {d : DefRec}
    {K : Params → PySem.W.Frag} {CX : World → CXT} {sp : World → Sp} {x : Str}
    (hn : l.most = some n) (hn2 : n ≤ sizeLine) (hdf : d.params.defaults = []) (hr : Room k callerA)
    (hY : ∀ (w : World) (h : Heap), YP w h → (K w.params).In h)
    (F : ∀ (w : World) (mg : Str → Option Value) (fa : Addr) (h : Heap), (K w.params).In h →
      h.Ns mainGlobals mg → mg d.name = some (.ref fa) →
      ∃ fd : FuncData, (∀ (s : Shared) (u : Value), BindsTo s fd ⟨[u], []⟩ [(x, u)]) ∧
        ∀ base : Heap, (K w.params).In base → base.Ns mainGlobals mg →
          FnG l.prog w (K w.params) mg base (CX w) k fa fd [x] (sp w))
    (hsp : ∀ (w : World) (H : Hp) (a : Addr) (ns : List Int), ns.length ≤ n → Only H →
      SqL (K w.params) H a (ns.map V.int) → sp w [.ref a] H (fun v _ => v = .bl true) fun _ _ _ => False)
    (hCX : ∀ (w : World) (H : Hp) (s : Shared) (e : Value) (s' : Shared), CX w [] H s (fun _ _ _ => False) e s' → False) :
    PySem.W.WalkO q loose XP YP l.row.toRowW d [] (fun f vs => PySem.call f vs) := by
  refine Att.attach_call hn hdf ?_
  intro w s₀ s₁ mg mb fa o pm cd doc a vs ns G Y ho hd hcd hmg hobj hints hlen hg
  obtain ⟨fd, hb, hF⟩ := F w mg fa _ (hY w _ Y) G.T.g hmg
  exact law_callG (hY w _ Y) G.T.g G.T.b G.T.builtins G.T.nolimit hg hobj hints (Nat.le_trans hlen hn2) hr hF hb
    (fun H hO hS => hsp w H a ns hlen hO hS) (fun H e s' => hCX w H s₁ e s')
end Mq

namespace Mq
open PySem PySem.Spec PyProof.Rows L2

/-! ### repr of data, dicts among them -/
def keyD : Key → PyData
  | .inl i => .int i
  | .inr x => .str x
mutual
inductive Dg (K : PySem.W.Frag) (H : Hp) : V → PyData → Prop
  | non : Dg K H .non .none
  | bl (b : Bool) : Dg K H (.bl b) (.bool b)
  | int (i : Int) : Dg K H (.int i) (.int i)
  | str (x : Str) : Dg K H (.str x) (.str x)
  | lst {a : Addr} {xs : List V} {ds : List PyData} : a ≠ sysModules → SqL K H a xs → DgAll K H xs ds → Dg K H (.ref a) (.list ds)
  | tup {a : Addr} {xs : List V} {ds : List PyData} : SqT K H a xs → DgAll K H xs ds → Dg K H (.ref a) (.tuple ds)
  | dct {a : Addr} {kvs : List (Key × V)} {ds : List (PyData × PyData)} : H a = some (.dK kvs) → DgKv K H kvs ds → Dg K H (.ref a) (.dict ds)
inductive DgAll (K : PySem.W.Frag) (H : Hp) : List V → List PyData → Prop
  | nil : DgAll K H [] []
  | cons {v : V} {vs : List V} {d : PyData} {ds : List PyData} : Dg K H v d → DgAll K H vs ds → DgAll K H (v :: vs) (d :: ds)
inductive DgKv (K : PySem.W.Frag) (H : Hp) : List (Key × V) → List (PyData × PyData) → Prop
  | nil : DgKv K H [] []
  | cons {k : Key} {v : V} {vs : List (Key × V)} {d : PyData} {ds : List (PyData × PyData)} : Dg K H v d → DgKv K H vs ds → DgKv K H ((k, v) :: vs) ((keyD k, d) :: ds)
end
section
variable {X : Cx} {pins : List (Addr × Obj)} {σ : L2.St} {H : Hp} {s : Shared}
theorem reads_key {h : Heap} {k : Key} {u : Value} (e : keyIs k u = true) : Reads h u (keyD k) [] := by
  rcases keyIs_shape e with ⟨i, t, rfl, rfl⟩ | ⟨x, t, rfl, rfl⟩
  · exact Reads.int i t
  · exact Reads.str x t
mutual
theorem Dg.rd (I : Inv X pins σ H s) : ∀ {d : PyData} {v : V} {u : Value}, Dg X.K H v d → RelV v u →
    ∃ as, Reads s.heap u d as ∧ sysModules ∉ as
  | _, _, _, .non, r => by cases r; exact ⟨[], .none, fun h => by cases h⟩
  | _, _, _, .bl b, r => by cases r; exact ⟨[], .bool b, fun h => by cases h⟩
  | _, _, _, .int i, r => by obtain ⟨t, rfl⟩ := r; exact ⟨[], .int i t, fun h => by cases h⟩
  | _, _, _, .str x, r => by obtain ⟨t, rfl⟩ := r; exact ⟨[], .str x t, fun h => by cases h⟩
  | _, _, _, .lst ne hs ha, r => by
    cases r
    obtain ⟨its, rv, ⟨o, n, ho, hc, _, hd⟩, _⟩ := I.list hs
    obtain ⟨as, hr, hn⟩ := DgAll.rd I ha rv
    refine ⟨_, Reads.list ho hc hd hr, fun hm => ?_⟩
    rcases List.mem_cons.mp hm with e | e
    · exact ne e.symm
    · exact hn e
  | _, _, _, .tup hs ha, r => by
    cases r
    obtain ⟨its, rv, ⟨o, ho, hc, n, hd⟩, _⟩ := I.tuple hs
    obtain ⟨as, hr, hn⟩ := DgAll.rd I ha rv
    exact ⟨_, Reads.tuple ho hc hd hr, hn⟩
  | _, _, _, .dct (a := a) hs ha, r => by
    cases r
    obtain ⟨_, ns, us, rk, o, es, ep, ho, hx, hd, _, hp, _⟩ := I.hok a _ hs
    obtain ⟨as, bs, r1, r2, n1, n2⟩ := DgKv.rd I ha rk hp
    refine ⟨_, Reads.dict ho hx.1 hd r1 r2, fun hm => ?_⟩
    rcases List.mem_append.mp hm with hm | hm
    · rcases List.mem_cons.mp hm with e | e
      · rw [← e] at ns
        simp at ns
      · exact n1 e
    · exact n2 hm
theorem DgAll.rd (I : Inv X pins σ H s) : ∀ {ds : List PyData} {vs : List V} {us : List Value}, DgAll X.K H vs ds → Vals vs us →
    ∃ as, ReadsAll s.heap us ds as ∧ sysModules ∉ as
  | _, _, _, .nil, r => by cases r; exact ⟨[], .nil, fun h => by cases h⟩
  | _, _, _, .cons h1 h2, r => by
    cases r with
    | cons r1 r2 =>
      obtain ⟨as, q1, n1⟩ := Dg.rd I h1 r1
      obtain ⟨bs, q2, n2⟩ := DgAll.rd I h2 r2
      exact ⟨_, ReadsAll.cons q1 q2, fun hm => (List.mem_append.mp hm).elim n1 n2⟩
theorem DgKv.rd (I : Inv X pins σ H s) : ∀ {ds : List (PyData × PyData)} {vs : List (Key × V)} {us : List (Key × Value)} {es : List DictEntry}, DgKv X.K H vs ds → KV vs us →
    Pairs (mixKind X.prog X.w) es us →
    ∃ as bs, ReadsAll s.heap (es.map (·.key)) (ds.map (·.1)) as ∧ ReadsAll s.heap (es.map (·.val)) (ds.map (·.2)) bs ∧ sysModules ∉ as ∧ sysModules ∉ bs
  | _, _, _, _, .nil, r, p => by
    cases r
    cases p
    exact ⟨[], [], ReadsAll.nil, ReadsAll.nil, (fun h => by cases h), (fun h => by cases h)⟩
  | _, _, _, _, .cons h1 h2, r, p => by
    cases r with
    | cons r1 r2 =>
      cases p with
      | cons p3 p4 p2 =>
        obtain ⟨e1, e2⟩ := r1
        obtain ⟨as, q1, n1⟩ := Dg.rd I h1 e2
        obtain ⟨bs, cs, q2, q3, n2, n3⟩ := DgKv.rd I h2 r2 p2
        rw [← p4] at q1
        have p3' := p3
        rw [← e1] at p3'
        exact ⟨_, _, ReadsAll.cons (reads_key p3') q2, ReadsAll.cons q1 q3, fun hm => (List.mem_append.mp hm).elim (fun z => by cases z) n2,
          fun hm => (List.mem_append.mp hm).elim n1 n3⟩
end
/-- repr(v), v data -/
def rRep (K : PySem.W.Frag) : List V → Hp → VK → Prop := fun xs H Q => ∃ v d, xs = [v] ∧ Dg K H v d ∧ d.showable = true ∧
  d.depth ≤ 40 ∧ d.shown.length ≤ sizeLine ∧ Q (.str d.shown) H
theorem call_rep {k : Nat} (hr : Room k X.A) (gA : Still X.A) : CallR X (.builtin "repr") (rRep X.K) := by
  intro pins s σ H xs us Q I r h
  obtain ⟨v, d, rfl, hd, hs, hz, hl, q⟩ := h
  cases r with
  | cons rx rr =>
    cases rr
    have hu := hr.units
    obtain ⟨as, rd, hn⟩ := Dg.rd I hd rx
    have leaf : ∀ {d : PyData} {t : Tok}, Q (.str d.shown) H → EP X pins σ Q (.str d.shown t) { s with toks := s.toks + 1 } :=
      fun {d t} q => ⟨.str d.shown, H, I.tok _, ⟨_, rfl⟩, q⟩
    cases hd with
    | non =>
      cases rx
      exact PySem.P.repr_of_none (leaf (d := .none) q)
    | bl b =>
      cases rx
      exact PySem.P.repr_of_bool (leaf (d := .bool b) q)
    | int i =>
      obtain ⟨t, rfl⟩ := rx
      exact PySem.P.repr_of_int (by simpa [PyData.showable] using hs) (leaf (d := .int i) q)
    | str x =>
      obtain ⟨t, rfl⟩ := rx
      refine PySem.P.repr_of_str (leaf (d := .str x) q) ?_
      simpa only [PyData.shown] using hl
    | lst ne h1 h2 =>
      cases rx
      exact repr_of_reads' rd hs (fun _ => hn) gA (by omega) (fun _ _ e => e) (fun h' u tk k => ⟨.str _, H, I.kept k, ⟨_, rfl⟩, q⟩) hl
    | tup h1 h2 =>
      cases rx
      exact repr_of_reads' rd hs (fun _ => hn) gA (by omega) (fun _ _ e => e) (fun h' u tk k => ⟨.str _, H, I.kept k, ⟨_, rfl⟩, q⟩) hl
    | dct h1 h2 =>
      cases rx
      exact repr_of_reads' rd hs (fun _ => hn) gA (by omega) (fun _ _ e => e) (fun h' u tk k => ⟨.str _, H, I.kept k, ⟨_, rfl⟩, q⟩) hl
/-- no new object stands where the modules stand -/
theorem Inv.low (I : Inv X pins σ H s) : sysModules < s.heap.objs.size := by
  have h1 := I.mod.glob.lt
  have h2 := I.ok.bsz
  have h3 := I.sz
  have h4 : sysModules < mainGlobals := by decide
  exact Nat.lt_of_lt_of_le (Nat.lt_trans h4 h1) (Nat.le_trans h2 h3)
/-- a list display, told to stand elsewhere than the modules -/
def tLs (t : TA) : TE := fun σ H Q => t σ H fun xs H1 => xs.length ≤ sizeLine ∧ ∀ p, H1 p = none → p ≠ sysModules → Q (.ref p) (upd H1 p (.lst xs))
theorem pe_ls {es : List Expr} {t : TA} {pos : Pos} (h : PA X es t) : PE X (.List es pos) (tLs t) := by
  refine ⟨fun pins s σ H Q I hq => wpAny_List_spliced (thn (h.run pos pins s σ H _ I hq) ?_)⟩
  rintro us s1 ⟨xs, H1, I1, r, z, q⟩
  have hz : us.length ≤ sizeLine := by rw [← r.length]; exact z
  have nw : H1 s1.heap.objs.size = none := I1.hok.fresh (Nat.le_refl _)
  refine ⟨hz, .ref s1.heap.objs.size, upd H1 s1.heap.objs.size (.lst xs), ?_, rfl, q _ nw (Nat.ne_of_gt (Inv.low I1))⟩
  exact I1.laid (t' := s1.toks) (fun b u e => Heap.get?_push_of_some _ e) (Nat.le_refl _) ⟨z, us, 0, r, Heap.get?_push_size _ rfl⟩
end
end Mq

namespace Mq
open PySem PySem.Spec PyProof.Rows L2
open PySem.W (Frag)
open PySem.Builtin.ObjectAttr
/-! ### own errors over Exception, with one field -/
abbrev exTail : List Value := [.type "Exception", .type "BaseException", .type "object"]
section
variable {prog : Program} {w : World} {A : Around} {E : Value → Shared → Prop} {R : Result → Shared → Prop}
  {hp : Heap} {g : Array GenState} {d : Drawn} {t : Nat} {os : OsState} {K : Frag}
theorem osa_first {name : Str} {tk : Tok} {v : Value} {x C t1 : Addr} (X : K.In hp)
    (hx : hp.get? x = some (PySem.W.excObj C t1 none .none)) (ho : PySem.W.excOver K C exTail = true)
    (hh : PySem.W.hasDictIn K C = true) (ht : PySem.W.takerIn K C name = some none)
    (hq : ∀ h' tk' dx, (∀ b o, b ≠ x → hp.get? b = some o → h'.get? b = some o) → hp.objs.size ≤ dx → dx ≠ x →
      h'.get? x = some (PySem.W.excObj C t1 (some dx) .none) → h'.Ns1 dx (fun y => if y = name then some v else none) →
      R (.ok (.ret .none)) ⟨h', g, d, tk', os⟩) :
    codeAny (model prog w) A (.call (.builtin "object.__setattr__") ⟨[.ref x, .str name tk, v], []⟩) R ⟨hp, g, d, t, os⟩ := by
  refine PySem.W.osa_openX (od := none) (s := ⟨hp, g, d, t, os⟩) F.store_Exception X ⟨hx, rfl, rfl, trivial⟩ ho ht (fun b => ?_)
  obtain ⟨cd, hc, hd'⟩ := PySem.W.any_some hh
  refine wpAny_bind (wpAny_pure (wpAny_bind (PySem.W.instanceDict_exc hx (PySem.W.looks_clsIn X hc) hd' ?_)))
  show wpAny _ _ (storeInDict hp.objs.size (.str name tk) name v) _ _ _
  have hxs : x ≠ hp.objs.size := Nat.ne_of_lt (Heap.lt_size hx)
  have hx1 : (hp.push (PySem.W.dictOf [] 0)).get? x = some (PySem.W.excObj C t1 none .none) := Heap.get?_push_of_some _ hx
  refine PySem.HandSPX.store_in_new ?_ ?_
  · exact ⟨_, #[], _, (Heap.get?_update_ne _ _ _ _ hxs.symm).trans (Heap.get?_push_at rfl rfl), rfl, (fun e he => absurd he (by simp)), fun _ => rfl⟩
  · intro h' tk' hn' hs
    refine hq h' tk' hp.objs.size (fun b o hb ho => ?_) (Nat.le_refl _) hxs.symm ?_ hn'
    · exact (hs.2 b (Nat.ne_of_lt (Heap.lt_size ho))).trans ((Heap.get?_update_ne _ _ _ _ hb).trans (Heap.get?_push_of_some _ ho))
    · exact (hs.2 x hxs).trans (Heap.get?_update_self _ hx1 rfl)
end
end Mq

namespace Mq
open PySem PySem.Spec PyProof.Rows L2
/-! ### the error that a suite holds: its class, its field -/
/-- what the class at D says, so that isinstance asks its errors rightly -/
structure HeldC (K : PySem.W.Frag) (D : Addr) : Prop where
  cl : (PySem.W.clsIn K D).isSome = true
  ga : PySem.W.findIn K (.ref D) "__getattribute__" = some (some (.builtin "BaseException.__getattribute__"))
  gg : PySem.W.findIn K (.ref D) "__getattr__" = some none
  sb : PySem.W.subIn K (.ref D) (.type "BaseException") = some true
  ca : PySem.W.findIn K (.ref D) "__class__" = some (some (.builtin "object.__class__"))
  sp : PySem.W.specialIn K (.builtin "object.__class__") "__get__" = some (some (.builtin "getset_descriptor.__get__"))
  tk : PySem.W.takesIn K (.builtin "object.__class__") = some true
  mo : PySem.W.mroIn K D (.type "object") = some true
/-- isinstance(e, c), e the error at a -/
def rHeld (K : PySem.W.Frag) (D a : Addr) (d : Option Addr) : List V → Hp → VK → Prop := fun xs H Q => ∃ (dd c : Addr) (fs : List (Str × V)) (b : Bool),
  xs = [.ref a, .ref c] ∧ d = some dd ∧ H dd = some (.xd fs) ∧ PySem.W.kitOne K (.ref D) (.ref c) = some b ∧ Q (.bl b) H
theorem call_held {X : Cx} {a D : Addr} {oe : Obj} {d : Option Addr} {pn : List (Addr × Obj)} (C : HeldC X.K D) (hz : Zc (.ref D) d oe)
    (hf : ∃ vs, oe.data = .fields vs) : CallR (X.suite a ((a, oe) :: pn)) (.builtin "isinstance") (rHeld X.K D a d) := by
  intro pins s σ H xs us Q I r h
  obtain ⟨dd, c, fs, b, rfl, rfl, hd, e, q⟩ := h
  cases r with
  | cons rx rr =>
    cases rr with
    | cons rt rr =>
      cases rr
      cases rx
      cases rt
      obtain ⟨hget, _⟩ := I.pin (a, oe) (List.mem_append.mpr (Or.inl List.mem_cons_self))
      obtain ⟨vs, hv⟩ := hf
      obtain ⟨mA, ⟨od, es, ep, ho, _⟩, _⟩ := (show ObjOk X.prog X.w H s.heap dd (.xd fs) from I.hok dd _ hd)
      have J : PySem.W.InstAt s.heap a oe D (some od) := by
        refine ⟨hget, hz.1, ?_, ?_⟩
        · unfold PySem.W.notCls
          rw [hv]
        · rw [hz.2]
          exact ho
      refine PySem.W.kia_one (PySem.W.kitx_exc C.cl C.ga C.gg C.sb C.ca C.sp C.tk C.mo) I.kIn J e (fun z => by cases z) (fun tk => ?_)
      exact ⟨.bl b, H, I.kept (t' := tk) (fun _ _ z => z), rfl, q⟩
/-! ### methods that raise, called within a try -/
section
variable {X : Cx} {CX : CXT} {k : Nat} {f C : Addr} {fd : FuncData} {ps : List Str} {sp : Sp}
  {E : L2.St → XK} {m : Str} {pos apos : Pos} {e o : Expr} {es : List Expr} {kws : List Keyword} {ta : TE} {t tk : TA}
def tMethT (C : Addr) (m : Str) (sp : Sp) (E : L2.St → XK) (ta : TE) (t : TA) : TE := fun σ H Q => ta σ H fun x H1 => ∃ a dx fs,
  x = .ref a ∧ H1 a = some (.ins C dx fs) ∧ fs.lookup m = none ∧ t σ H1 fun vs H2 => sp (x :: vs) H2 Q (E σ)
theorem pe_methT {pl : Sem Bool} (he : PE X o ta) (c : Cls X.K C) (hm : Meth X.K C m f)
    (F : FnOk X.prog X.w X.K X.mg X.base CX k f fd ps sp) (hr : Room k X.A) (hb : Binds X.K fd ps [])
    (hx : ∀ σ, PassesAt CX X σ (E σ)) (ha : PA X (e :: es) t)
    (hst : starEach (e :: es) X.env = (false, eval e X.env) :: starEach es X.env := by rfl)
    (hpl : (backTo pos (starEach es X.env)).any (·.1) = false := by rfl)
    (ht : eval (.Call (.Attribute o m apos) (e :: es) [] pos) X.env = (do
      let ov ← eval o X.env
      standAt apos.atName
      let (f, first) ← holding [ov] (getMethod ov m pl)
      callWith pos f first (backTo pos (starEach (e :: es) X.env)) (backToKw pos (keywordEach [] X.env))) := by rfl) :
    PE X (.Call (.Attribute o m apos) (e :: es) [] pos) (tMethT C m sp E ta t) := by
  refine ⟨fun pins s σ H Q I h => PySem.W.methodCall_KW (pl := pl) (thn (he.run pins s σ H _ I h) ?_) ht⟩
  rintro u s1 ⟨x, H1, I1, rx, a, dx, fs, rfl, ea, l, q⟩
  cases rx
  refine getmeth_ok I1 ea c hm l ?_
  refine PySem.W.callWith_K (first := [.ref a]) (h₀ := X.base) I.ok.mod.kin hm.kp (thn (ha.run pos pins s1 σ H1 _ I1 q) ?_) hst hpl
  rintro us s2 ⟨vs, H2, I2, r, q2⟩
  exact ⟨I2.kIn, run_fnS (us := .ref a :: us) (vs := .ref a :: vs) F hr hb (hx σ) I2 (.cons rfl r) q2⟩
end
end Mq
namespace Mq
open PySem PySem.Spec PyProof.Rows L2
section
variable {X : Cx} {CX : CXT} {k : Nat} {f C : Addr} {fd : FuncData} {ps ks : List Str} {sp : Sp}
  {E : L2.St → XK} {m : Str} {pos apos : Pos} {o : Expr} {kws : List Keyword} {ta : TE} {tk : TA}
  {g : List Value → List Value → List Value} {gV : List V → List V → List V}
def tMethK (C : Addr) (m : Str) (many : Nat) (sp : Sp) (gV : List V → List V → List V) (E : L2.St → XK) (ta : TE) (tk : TA) : TE := fun σ H Q => ta σ H fun x H1 => ∃ a dx fs,
  x = .ref a ∧ H1 a = some (.ins C dx fs) ∧ fs.lookup m = none ∧ tk σ H1 fun zs H2 => zs.length = many ∧ sp (gV [x] zs) H2 Q (E σ)
/-- o.m(k = v, ..), what is raised being wished for at the slots as they stand -/
theorem pe_methK {pl : Sem Bool} (he : PE X o ta) (c : Cls X.K C) (hm : Meth X.K C m f)
    (F : FnOk X.prog X.w X.K X.mg X.base CX k f fd ps sp) (hr : Room k X.A) (hb : KBn X.K fd ps 1 ks g gV)
    (hx : ∀ σ, PassesAt CX X σ (E σ)) (hkw : PK X kws tk)
    (hall : (backToKw pos (keywordEach kws X.env)).all (·.1.isSome) = true := by rfl)
    (hks : (backToKw pos (keywordEach kws X.env)).filterMap (·.1) = ks := by rfl)
    (hpl : ((backTo pos (starEach [] X.env)).any (·.1) || (backToKw pos (keywordEach kws X.env)).any (·.1.isNone)) = false := by rfl)
    (ht : eval (.Call (.Attribute o m apos) [] kws pos) X.env = (do
      let ov ← eval o X.env
      standAt apos.atName
      let (f, first) ← holding [ov] (getMethod ov m pl)
      callWith pos f first (backTo pos (starEach [] X.env)) (backToKw pos (keywordEach kws X.env))) := by rfl) :
    PE X (.Call (.Attribute o m apos) [] kws pos) (tMethK C m ks.length sp gV E ta tk) := by
  refine ⟨fun pins s σ H Q I h => PySem.W.methodCall_KW (pl := pl) (thn (he.run pins s σ H _ I h) ?_) ht⟩
  rintro u s1 ⟨x, H1, I1, rx, a, dx, fs, rfl, ea, l, q⟩
  cases rx
  refine getmeth_ok I1 ea c hm l ?_
  refine PySem.W.callWith_KW0 (first := [.ref a]) (h₀ := X.base) I.ok.mod.kin hm.kp hall (thn (hkw.run pos pins s1 σ H1 _ I1 q) ?_) hpl
  rintro ws s2 ⟨zs, H2, I2, rz, hl, q2⟩
  refine ⟨I2.kIn, ?_⟩
  rw [hks]
  have r1 : Vals [V.ref a] [Value.ref a] := .cons rfl .nil
  have r2 := hb.rel r1 rz
  have lw : ws.length = ks.length := rz.length.symm.trans hl
  show wpAny _ _ (call (.ref f) [.ref a] (ks.zip ws)) _ _ _
  refine wpAny_call (codeAny_mono (F.run X.A X.stack s2 H2 ⟨[.ref a], ks.zip ws⟩ (g [.ref a] ws) (gV [.ref a] zs) Q (E σ) hr I2.env0
    (hb.to s2 [.ref a] ws I2.kIn rfl lw) r2 q2) (fun r s' hq => ?_))
  match r, hq with
  | .error er, hq => exact hx σ pins H2 s2 er s' I2 hq
  | .ok (.ret u), hq => exact I2.after hq
  | .ok .next, hq => exact hq.elim
  | .ok .brk, hq => exact hq.elim
  | .ok .cont, hq => exact hq.elim
end
end Mq

namespace Mq
open PySem PySem.Spec PyProof.Rows L2
open SX (S)
/-! ### what the module leaves of the built-in names -/
structure Blt (mg : Str → Option Value) : Prop where
  len : mg "len" = none
  range : mg "range" = none
  isi : mg "isinstance" = none
  all : mg "all" = none
  any : mg "any" = none
  int : mg "int" = none
  str : mg "str" = none
  bool : mg "bool" = none
  tuple : mg "tuple" = none
  list : mg "list" = none
  repr : mg "repr" = none
  enumerate : mg "enumerate" = none
/-! ### heaps that keep what was told -/
theorem same_new {H : Hp} {p : Addr} {o : HO} (h : H p = none) : Same H (upd H p o) := fun b u e => by
  rw [upd_ne (ne_of_none e h)]
  exact e
theorem Same.tup {K : PySem.W.Frag} {H H' : Hp} {a : Addr} {xs : List V} (e : Same H H') (h : SqT K H a xs) : SqT K H' a xs := by
  rcases h with (h | ⟨o, h⟩) | h
  · exact Or.inl (Or.inl (e _ _ h))
  · exact Or.inl (Or.inr ⟨o, e _ _ h⟩)
  · exact Or.inr h
mutual
theorem Dg.same {K : PySem.W.Frag} {H H' : Hp} (e : Same H H') : ∀ {v : V} {d : PyData}, Dg K H v d → Dg K H' v d
  | _, _, .non => .non
  | _, _, .bl b => .bl b
  | _, _, .int i => .int i
  | _, _, .str x => .str x
  | _, _, .lst n h a => .lst n (e.seq h) (DgAll.same e a)
  | _, _, .tup h a => .tup (Same.tup e h) (DgAll.same e a)
  | _, _, .dct h a => .dct (e _ _ h) (DgKv.same e a)
theorem DgAll.same {K : PySem.W.Frag} {H H' : Hp} (e : Same H H') : ∀ {v : List V} {d : List PyData}, DgAll K H v d → DgAll K H' v d
  | _, _, .nil => .nil
  | _, _, .cons a b => .cons (Dg.same e a) (DgAll.same e b)
theorem DgKv.same {K : PySem.W.Frag} {H H' : Hp} (e : Same H H') : ∀ {v : List (Key × V)} {d : List (PyData × PyData)}, DgKv K H v d → DgKv K H' v d
  | _, _, .nil => .nil
  | _, _, .cons a b => .cons (Dg.same e a) (DgKv.same e b)
end
mutual
theorem Dp.same {K : PySem.W.Frag} {H H' : Hp} (e : Same H H') : ∀ {v : V} {d : PyData}, Dp K H v d → Dp K H' v d
  | _, _, .non => .non
  | _, _, .bl b => .bl b
  | _, _, .int i => .int i
  | _, _, .str x => .str x
  | _, _, .lst h a => .lst (e.seq h) (DpAll.same e a)
  | _, _, .tup h a => .tup (Same.tup e h) (DpAll.same e a)
theorem DpAll.same {K : PySem.W.Frag} {H H' : Hp} (e : Same H H') : ∀ {v : List V} {d : List PyData}, DpAll K H v d → DpAll K H' v d
  | _, _, .nil => .nil
  | _, _, .cons a b => .cons (Dp.same e a) (DpAll.same e b)
end
/-! ### the kind of a value -/
def kindOf : PyData → String
  | .none => "NoneType"
  | .bool _ => "bool"
  | .int _ => "int"
  | .str _ => "str"
  | .list _ => "list"
  | .tuple _ => "tuple"
  | .dict _ => "dict"
theorem ty_list {K : PySem.W.Frag} {H : Hp} {a : Addr} {xs : List V} (h : SqL K H a xs) : TyX K H (.ref a) (.type "list") := by
  rcases h with (h | ⟨o, h⟩) | ⟨o, its, n, h, hc, _⟩
  · exact .base (.lst h)
  · exact .base (.frz h)
  · exact .kList h hc
theorem ty_tup {K : PySem.W.Frag} {H : Hp} {a : Addr} {xs : List V} (h : SqT K H a xs) : TyX K H (.ref a) (.type "tuple") := by
  rcases h with (h | ⟨o, h⟩) | ⟨o, its, n, h, hc, _⟩
  · exact .base (.tup h)
  · exact .fTuple h
  · exact .kTuple h hc
theorem Dg.ty {K : PySem.W.Frag} {H : Hp} {v : V} {d : PyData} (h : Dg K H v d) : TyX K H v (.type (kindOf d)) := by
  cases h with
  | non => exact .base .non
  | bl b => exact .base (.bl b)
  | int i => exact .base (.int i)
  | str x => exact .base (.str x)
  | lst _ h _ => exact ty_list h
  | tup h _ => exact ty_tup h
  | dct h _ => exact .base (.dK h)
theorem Dp.ty {K : PySem.W.Frag} {H : Hp} {v : V} {d : PyData} (h : Dp K H v d) : TyX K H v (.type (kindOf d)) := by
  cases h with
  | non => exact .base .non
  | bl b => exact .base (.bl b)
  | int i => exact .base (.int i)
  | str x => exact .base (.str x)
  | lst h _ => exact ty_list h
  | tup h _ => exact ty_tup h
/-- isinstance(x, T), T a built-in class -/
theorem isi_ty {K : PySem.W.Frag} {x : V} {a b : String} {r : Bool} {H : Hp} {Q : VK} (h : TyX K H x (.type a)) (e : kitB a b = some r) (q : Q (.bl r) H) :
    rIsi K [x, .ty b] H Q := ⟨x, .ty b, _, _, r, rfl, .ty b, h, kit_ty e, q⟩
theorem kit_known (a b : String) (ha : a ∈ ["NoneType", "bool", "int", "str", "list", "tuple", "dict"]) (hb : b ∈ ["str", "tuple", "list", "bool", "dict"]) :
    kitB a b = some (decide (a = b)) := by
  have h : (["NoneType", "bool", "int", "str", "list", "tuple", "dict"].all fun a => ["str", "tuple", "list", "bool", "dict"].all fun b =>
      decide (kitB a b = some (decide (a = b)))) = true := by decide +kernel
  have h1 := List.all_eq_true.mp h a ha
  have h2 := List.all_eq_true.mp h1 b hb
  exact of_decide_eq_true h2
theorem kind_in (d : PyData) : kindOf d ∈ ["NoneType", "bool", "int", "str", "list", "tuple", "dict"] := by
  cases d <;> simp [kindOf]
/-! ### comprehensions whose turns change nothing -/
theorem walk_rng {n : Nat} : Walk (Itr 0 n) n (fun _ => True) (YFn fun i => .int (i : Nat)) :=
  walk_range.mono (fun _ h => h) (fun i H x H' _ _ y => ⟨y.1, by rw [y.2]; show V.int (0 + (i : Int)) = V.int (i : Int); rw [Int.zero_add]⟩)
theorem lc_map {wi : TI} {J : It} {n : Nat} {G : Hp → Prop} {Y : Nat → Hp → V → Hp → Prop} (w : Walk J n G Y) {g : TG} {te : TE} {vs : List Nat} {σ : L2.St} {H0 : Hp} {Q : VK}
    (f : Nat → V) (hn : n ≤ 1000000) (hw : ∀ R : It → Hp → Prop, (∀ H, Same H0 H → G H → R J H) → wi σ H0 R) (hG : ∀ H H', Same H0 H → G H → Same H H' → G H')
    (hs : ∀ i x H H' (R : V → Hp → Prop), i < n → Same H0 H → Y i H x H' → (∀ H4, Same H H4 → R (f i) H4) →
      g x (wipe σ vs) H' fun σ2 H2 => wipe σ2 vs = wipe σ vs ∧ te σ2 H2 R)
    (hd : ∀ D H', H0 D = none → Same H0 H' → H' D = some (.lst ((List.range n).map f)) → Q (.ref D) H') : tLc wi g tYes te vs σ H0 Q := by
  refine hw _ (fun H sm0 hg0 D hD => ?_)
  have hD0 := sm0.free hD
  let Nx : Nat → Hp → Prop := fun i H' => Same H H' ∧ H' D = some (.lst ((List.range i).map f))
  refine ⟨fun i m H' => m = n - i ∧ i ≤ n ∧ Nx i H', ⟨n, by simp, Nat.zero_le _, same_new hD, upd_same⟩, ?_⟩
  rintro i m H' ⟨rfl, hi, sm, hl⟩
  have hg := hG H H' sm0 hg0 sm
  have sm' := sm0.trans sm
  by_cases hlt : i < n
  · refine Or.inr ⟨w.goes i H' hlt hg, Nx (i + 1), fun H'' p => ⟨n - (i + 1), by omega, rfl, hlt, p⟩, fun x H'' y => ?_⟩
    refine hs i x H' H'' _ hlt sm' (w.yields i H' x H'' hlt hg y) (fun H4 s4 => ?_)
    refine ⟨_, s4 D _ hl, ?_, fun b o e => ?_, ?_⟩
    · rw [List.length_map, List.length_range]
      exact Nat.lt_of_lt_of_le (Nat.lt_of_lt_of_le hlt hn) (by decide)
    · rw [upd_ne (ne_of_none e hD)]
      exact s4 b o (sm b o e)
    · rw [upd_same, List.range_succ, List.map_append]
      rfl
  · have e : i = n := by omega
    subst e
    exact Or.inl ⟨w.stops H' hg, hd D H' hD0 sm' hl⟩
end Mq

namespace Mq
open PySem PySem.Spec PyProof.Rows L2
/-! ### enumerate(v), v a tuple -/
theorem meets_enumT (l : Addr) (items : Array Value) :
    Meets (Builtin.«enumerate.__new__» ⟨[.type "enumerate", .ref l], []⟩) (fun _ R s => s.heap.IsTuple l items ∧
      R (.ok (.ret (.ref (s.heap.push { cls := .type "tuple_iterator", data := .fields #[.ref l, .int 0 0] }).objs.size)))
        { s with heap := (s.heap.push { cls := .type "tuple_iterator", data := .fields #[.ref l, .int 0 0] }).push { cls := .type "enumerate", data := .fields #[.none, .bool false, .ref s.heap.objs.size, rawInt 0, .none, .none] } }) :=
  .of_wp fun prog w A R s h => by
    obtain ⟨hp, g, d, tk, os⟩ := s; obtain ⟨hl, h⟩ := h
    have hsub := sub_enumerate
    have hL : Heap.IsTuple (Shared.heap ⟨hp, g, d, tk, os⟩) l items := hl
    obtain ⟨o, ho, _⟩ := id hl
    wp_walk using AutoSeq1.wpAny_loadPart' ho
    refine wpAny_stack_any fun st => wpAny_pure ?_
    split
    · rename_i c _ _ _ _ _
      cases (c == Value.type "enumerate")
      · wp_walk using AutoSeq1.wpAny_loadPart' ho, wpAny_pyIter_tuple hL
        exact ⟨_, rfl, h⟩
      · wp_walk using AutoSeq1.wpAny_loadPart' ho, wpAny_pyIter_tuple hL
        exact ⟨_, rfl, h⟩
    · wp_walk using AutoSeq1.wpAny_loadPart' ho, wpAny_pyIter_tuple hL
      exact ⟨_, rfl, h⟩
theorem call_enumT {prog : Program} {w : World} {A : Around} {E : Value → Shared → Prop} {s : Shared} {l : Addr} {items : Array Value} {Q : Value → Shared → Prop} (hL : s.heap.IsTuple l items)
    (h : ∀ h', IsEnum h' (s.heap.objs.size + 1) s.heap.objs.size 0 .none → h'.IsTupleIter s.heap.objs.size l 0 → h'.objs.size = s.heap.objs.size + 2 →
      (∀ b o, s.heap.get? b = some o → h'.get? b = some o) → Q (.ref (s.heap.objs.size + 1)) { s with heap := h' }) :
    wpAny (model prog w) A (call (.type "enumerate") [.ref l]) Q E s := by
  refine callType_new F.called_enumerate (by decide) (F.typeCall_enumerate_1 _) (F.newCall_enumerate_1 _) (fun obj => F.args_object_init_2 obj _) F.entry_enumerate_new
    (meets_enumT l items) ⟨hL, ?_⟩
  have hz : (s.heap.push { cls := .type "tuple_iterator", data := .fields #[.ref l, .int 0 0] }).objs.size = s.heap.objs.size + 1 := Heap.size_push ..
  show _ ∧ _
  rw [hz]
  have he : IsEnum ((s.heap.push { cls := .type "tuple_iterator", data := .fields #[.ref l, .int 0 0] }).push
      { cls := .type "enumerate", data := .fields #[.none, .bool false, .ref s.heap.objs.size, rawInt 0, .none, .none] }) (s.heap.objs.size + 1) s.heap.objs.size 0 .none := by
    have := Heap.get?_push_size (s.heap.push { cls := .type "tuple_iterator", data := .fields #[.ref l, .int 0 0] })
      (o := { cls := .type "enumerate", data := .fields #[.none, .bool false, .ref s.heap.objs.size, rawInt 0, .none, .none] }) rfl
    rw [hz] at this; exact this
  refine ⟨⟨_, he, rfl⟩, h _ he ⟨_, Heap.get?_push_of_some _ (Heap.get?_push_size _ rfl), rfl, rfl⟩ (by rw [Heap.size_push, hz]) fun b o x => Heap.get?_push_of_some _ (Heap.get?_push_of_some _ x)⟩
/-- the tuple at a, each item in a new pair -/
def Iee (K : PySem.W.Frag) (a : Addr) : It :=
  ⟨fun i H => ∃ (xs : List V) (x : V), SqT K H a xs ∧ xs[i]? = some x, fun i H v H' => ∃ T x, v = .ref T ∧ H T = none ∧ H' = upd H T (.tup [.int (i : Nat), x]) ∧ ∀ xs, SqT K H a xs → xs[i]? = some x, fun i H => ∃ xs : List V, SqT K H a xs ∧ xs.length ≤ i⟩
theorem turn_enumT {P : Program} {w : World} {K : PySem.W.Frag} {elts : List Expr} {kk : Nat} {tpos : Pos} (a e it : Addr) (ha : a ≠ it) (hae : a ≠ e) :
    Turn P w K (.Tuple elts kk tpos) (Iee K a) [e, it] e (fun i h => (∃ old, IsEnum h e it ((i : Nat) : Int) old) ∧ h.IsTupleIter it a i ∧ e ≠ it) where
  mem := by simp
  obj := fun i h st b hb => by
    obtain ⟨⟨old, he⟩, ⟨o, ho, hc, hd⟩, _⟩ := st
    have e' : b = e ∨ b = it := by simpa using hb
    rcases e' with z | z
    · rw [z]; exact ⟨_, he, fun v q => nomatch q⟩
    · rw [z]; exact ⟨o, ho, fun v q => by rw [hd] at q; cases q⟩
  keep := fun i h h' st k => let ⟨⟨old, he⟩, hi, hne⟩ := st; ⟨⟨old, k e (by simp) _ he⟩, hi.at fun o q => k it (by simp) o q, hne⟩
  item := by
    intro X hP hw hK hc i pins s σ H E I hf st hg
    subst hP hw hK
    obtain ⟨⟨old, he⟩, hit, hne⟩ := st
    obtain ⟨xs, x, hq, hx⟩ := hg
    obtain ⟨its, rv, p, hz⟩ := I.tuple hq
    obtain ⟨u, hu, ru⟩ := rv.get hx
    have hel : e < s.heap.objs.size := Heap.lt_size he
    have hil : it < s.heap.objs.size := by obtain ⟨_, q, _⟩ := hit; exact Heap.lt_size q
    have hp : s.heap.IsTuple a its.toArray := p
    have hu' : its.toArray[i]? = some u := by simpa using hu
    have hlt : i < its.toArray.size := by
      rw [List.size_toArray]
      rcases Nat.lt_or_ge i its.length with h | h
      · exact h
      · rw [List.getElem?_eq_none h] at hu
        cases hu
    refine wpAny_pyNext_enum_itemD (n := its.toArray.size) (Draws.tuple (show X.A.in1.handled = none from I.ok.hd hc) it a ha its.toArray) he ⟨hit, hp⟩ hlt hne (by simp only [List.mem_cons, List.not_mem_nil, or_false, not_or]; exact ⟨hne, fun z => hae z.symm⟩) fun x' h' tk hP' ho hst' hT hsz hk => ?_
    have ex : x' = u := by
      have h1 : some x' = some u := by rw [← hP', hu']
      exact Option.some.inj h1
    subst ex
    refine ⟨_, rfl, wpAny_letOwnedTupleGo_enum (s := { s with heap := h', toks := tk + 1 }) ho fun h'' he' sb => ?_⟩
    have hT2 : h''.get? s.heap.objs.size = some { cls := .type "tuple", data := .seq #[.int i tk, x'] } := (sb.2 _ (Nat.ne_of_gt hel)).trans hT
    have new : ObjOk X.prog X.w (upd H s.heap.objs.size (.tup [.int (i : Nat), x])) h'' s.heap.objs.size (.tup [.int (i : Nat), x]) :=
      ⟨by show 2 ≤ sizeLine; decide, [.int i tk, x'], .cons ⟨_, rfl⟩ (.cons ru .nil), ⟨_, hT2, rfl, _, rfl⟩⟩
    have I1 : Inv X pins σ (upd H s.heap.objs.size (.tup [.int (i : Nat), x])) { s with heap := h'', toks := tk + 1 } :=
      I.turnedNew (ch := [e, it]) (fun b ob hb q => (sb.2 b (fun z => hb (by simp [z]))).trans (hk b ob (fun z => hb (by simp [z])) (fun z => hb (by simp [z])) q)) hf (Nat.le_refl _) new
    refine ⟨.ref s.heap.objs.size, _, I1, rfl, ⟨_, x, rfl, I.hok.fresh (Nat.le_refl _), rfl, fun ys hy => by rw [I.tuple_inj hy hq]; exact hx⟩, ⟨⟨x', ?_⟩, hst'.1.at fun o q => (sb.2 it (Ne.symm hne)).trans q, hne⟩, fun b hb => ?_⟩
    · have e1 : ((i + 1 : Nat) : Int) = (i : Int) + 1 := by omega
      rw [e1]; exact he'
    · have hb' : b < s.heap.objs.size := by
        have e' : b = e ∨ b = it := by simpa using hb
        rcases e' with z | z
        · rw [z]; exact hel
        · rw [z]; exact hil
      rw [upd_ne (Nat.ne_of_lt hb')]
      exact (hf b hb).1
  done := by
    intro X hP hw hK hc i pins s σ H E I hf st hg
    subst hP hw hK
    obtain ⟨⟨old, he⟩, hit, hne⟩ := st
    obtain ⟨xs, hq, hx⟩ := hg
    obtain ⟨its, rv, p, hz⟩ := I.tuple hq
    obtain ⟨f0, f1, f2, f3, f4, f5⟩ := hf it (by simp)
    have hl := rv.length
    have hp : s.heap.IsTuple a its.toArray := p
    have D : Draws X.prog X.w X.A.in1 it [it, a] i (fun _ _ => False) (fun j h => j = i ∧ h.IsTupleIter it a i ∧ h.IsTuple a its.toArray) :=
      { live := fun _ _ st => let ⟨o, ho, _⟩ := st.2.1; ⟨o, ho⟩
        frame := fun _ _ _ st hk => ⟨st.1, st.2.1.at fun o e => hk it (by simp) o e, st.2.2.at fun o e => hk a (by simp) o e⟩
        item := fun j s Q E hi st hQ => absurd hi (by rw [st.1]; exact Nat.lt_irrefl i)
        done := fun s Q E st hE => wpAny_nextOf_tuple_end (show X.A.in1.handled = none from I.ok.hd hc) st.2.1 st.2.2 (by simp; omega) hE }
    exact wpAny_pyNext_enum_endD D he ⟨rfl, hit, hp⟩ fun h' eb => ⟨rfl, I.turned (t' := s.toks) (fun b o hb q => eb b o hb q) f0 f1 f3 f4 f5⟩
  self := fun A i s Q E st h => let ⟨⟨_, he⟩, _⟩ := st; wpAny_pyIter_enum he h
def iEnumT (K : PySem.W.Frag) (ta : TA) : TI := fun σ H R => ta σ H fun vs H1 => ∃ a xs, vs = [.ref a] ∧ SqT K H1 a xs ∧ R (Iee K a) H1
theorem pi_enumT {X : Cx} {e : Expr} {ta : TA} {p pos tpos : Pos} {elts : List Expr} {kk : Nat} (hg : Gl X "enumerate") (hm : X.mg "enumerate" = none) (ha : PA X [e] ta) (hs : starEach [e] X.env = [(false, eval e X.env)] := by rfl) :
    PI X (.Tuple elts kk tpos) (.Call (.Name "enumerate" p) [e] [] pos) (iEnumT X.K ta) := by
  refine ⟨fun pins s σ H R I h => ?_⟩
  refine Call_ (ld_blt I hg hm boot_enumerate (PyProof.Rows.callWith_type1 (thn (ha.run pos pins s σ H _ I h) fun us s1 ⟨vs, H1, I1, r1, q1⟩ => ?_) hs rfl))
  obtain ⟨a, xs, ex, hq, q⟩ := q1
  subst ex
  cases r1 with
  | cons r rr =>
    cases rr
    cases r
    obtain ⟨its, rv, p', hz⟩ := I1.tuple hq
    have hp : s1.heap.IsTuple a its.toArray := p'
    have hal : a < s1.heap.objs.size := by obtain ⟨_, q, _⟩ := hp; exact Heap.lt_size q
    refine call_enumT hp fun h' he hit hsz hk => wpAny_pyIter_enum he ?_
    have I2 : Inv X pins σ H1 { s1 with heap := h' } := I1.kept (t' := s1.toks) hk
    refine ⟨s1.heap.objs.size + 1, [s1.heap.objs.size + 1, s1.heap.objs.size], _, _, H1, rfl, I2, turn_enumT a (s1.heap.objs.size + 1) s1.heap.objs.size (Nat.ne_of_lt hal) (Nat.ne_of_lt (Nat.lt_succ_of_lt hal)), ⟨⟨.none, he⟩, hit, Nat.succ_ne_self _⟩, fun b hb => ?_, q⟩
    have e' : b = s1.heap.objs.size + 1 ∨ b = s1.heap.objs.size := by simpa using hb
    have hle : s1.heap.objs.size ≤ b := by
      rcases e' with z | z
      · rw [z]; exact Nat.le_add_right _ _
      · rw [z]; exact Nat.le_refl _
    exact I1.fpOk hle (I1.hok.fresh hle)
/-- the same, where what is walked is laid on the way -/
theorem lc_mapJ {wi : TI} {n : Nat} {Y : Nat → Hp → V → Hp → Prop} {g : TG} {te : TE} {vs : List Nat} {σ : L2.St} {H0 : Hp} {Q : VK}
    (f : Nat → V) (hn : n ≤ 1000000) (hw : ∀ R : It → Hp → Prop, (∀ (J : It) (G : Hp → Prop) (H : Hp), Walk J n G Y → (∀ H', G H → Same H H' → G H') → Same H0 H → G H → R J H) → wi σ H0 R)
    (hs : ∀ i x H H' (R : V → Hp → Prop), i < n → Same H0 H → Y i H x H' → (∀ H4, Same H H4 → R (f i) H4) →
      g x (wipe σ vs) H' fun σ2 H2 => wipe σ2 vs = wipe σ vs ∧ te σ2 H2 R)
    (hd : ∀ D H', H0 D = none → Same H0 H' → H' D = some (.lst ((List.range n).map f)) → Q (.ref D) H') : tLc wi g tYes te vs σ H0 Q := by
  refine hw _ (fun J G H w hG sm0 hg0 D hD => ?_)
  have hD0 := sm0.free hD
  let Nx : Nat → Hp → Prop := fun i H' => Same H H' ∧ H' D = some (.lst ((List.range i).map f))
  refine ⟨fun i m H' => m = n - i ∧ i ≤ n ∧ Nx i H', ⟨n, by simp, Nat.zero_le _, same_new hD, upd_same⟩, ?_⟩
  rintro i m H' ⟨rfl, hi, sm, hl⟩
  have hg := hG H' hg0 sm
  have sm' := sm0.trans sm
  by_cases hlt : i < n
  · refine Or.inr ⟨w.goes i H' hlt hg, Nx (i + 1), fun H'' p => ⟨n - (i + 1), by omega, rfl, hlt, p⟩, fun x H'' y => ?_⟩
    refine hs i x H' H'' _ hlt sm' (w.yields i H' x H'' hlt hg y) (fun H4 s4 => ?_)
    refine ⟨_, s4 D _ hl, ?_, fun b o e => ?_, ?_⟩
    · rw [List.length_map, List.length_range]
      exact Nat.lt_of_lt_of_le (Nat.lt_of_lt_of_le hlt hn) (by decide)
    · rw [upd_ne (ne_of_none e hD)]
      exact s4 b o (sm b o e)
    · rw [upd_same, List.range_succ, List.map_append]
      rfl
  · have e : i = n := by omega
    subst e
    exact Or.inl ⟨w.stops H' hg, hd D H' hD0 sm' hl⟩
end Mq

namespace Mq
open PySem PySem.Spec PyProof.Rows L2
/-- a comprehension without a test over what w walks -/
theorem lc_yes {J : It} {n : Nat} {G : Hp → Prop} {Y : Nat → Hp → V → Hp → Prop} (w : Walk J n G Y) {g : TG} {te : TE} {vs : List Nat} {σ : L2.St} {H1 : Hp} {D : Addr} {Qd : Hp → Prop} (Pv : Nat → Hp → Prop)
    (h0 : Pv 0 (upd H1 D (.lst []))) (hG : ∀ i H, i ≤ n → Pv i H → G H)
    (hs : ∀ i x H H', i < n → Pv i H → Y i H x H' → g x (wipe σ vs) H' fun σ2 H2 => wipe σ2 vs = wipe σ vs ∧ te σ2 H2 fun y H4 => ∃ acc, H4 D = some (.lst acc) ∧ acc.length < sizeLine ∧ Pv (i + 1) (upd H4 D (.lst (acc ++ [y]))))
    (hd : ∀ H, Pv n H → Qd H) :
    ∃ W : Nat → Nat → Hp → Prop, (∃ m, W 0 m (upd H1 D (.lst []))) ∧ ∀ i m H, W i m H →
      (J.stop i H ∧ Qd H) ∨ (J.go i H ∧ ∃ Nx : Hp → Prop, (∀ H', Nx H' → ∃ m', m' < m ∧ W (i + 1) m' H') ∧ ∀ x H', J.yld i H x H' → g x (wipe σ vs) H' fun σ2 H2 => wipe σ2 vs = wipe σ vs ∧ tYes σ2 H2 fun b H3 =>
        if b = true then te σ2 H3 fun y H4 => ∃ acc, H4 D = some (.lst acc) ∧ acc.length < sizeLine ∧ Nx (upd H4 D (.lst (acc ++ [y]))) else Nx H3) :=
  lc_it (tt := tYes) w Pv h0 hG hs hd
end Mq

namespace Mq
open PySem PySem.Spec PyProof.Rows L2
/-- isinstance(e, c), the held error's class being told among the values -/
theorem call_heldX {X : Cx} {a D : Addr} {oe : Obj} {cls : Value} {d : Option Addr} {pn : List (Addr × Obj)} (C : HeldC X.K D) (hz : Zc cls d oe)
    (hf : ∃ vs, oe.data = .fields vs) : CallR (X.suite a ((a, oe) :: pn)) (.builtin "isinstance") (fun xs H Q => cls = .ref D ∧ rHeld X.K D a d xs H Q) := by
  intro pins s σ H xs us Q I r h
  obtain ⟨rfl, h⟩ := h
  exact call_held C hz hf pins s σ H xs us Q I r h
/-! ### lists whose items are equal, told by != and == -/
theorem op_neFl {X : Cx} (hu : X.A.units + 64 < cLine) : OpR X (compareOp .NotEq) (fun x y H Q => ∃ a b xs, x = .ref a ∧ y = .ref b ∧ SqL X.K H a xs ∧ SqL X.K H b xs ∧ (∀ v ∈ xs, flatB v = true) ∧ Q (.bl false) H) := by
  intro pins s σ H x y v u Q I rx ry h
  obtain ⟨a, b, xs, rfl, rfl, ha, hb, hf, q⟩ := h
  cases (show v = Value.ref a from rx)
  cases (show u = Value.ref b from ry)
  obtain ⟨us, r1, p1, _⟩ := I.list ha
  obtain ⟨ws, r2, p2, _⟩ := I.list hb
  have hsz : us.toArray.size = ws.toArray.size := by
    rw [List.size_toArray, List.size_toArray, ← r1.length, ← r2.length]
  have he : ∀ j (h1 : j < us.toArray.size) (h2 : j < ws.toArray.size), SeqAt.EqAt X.A.in1 s us.toArray[j] ws.toArray[j] true := by
    intro j h1 h2
    have h1' : j < us.length := by simpa using h1
    have h2' : j < ws.length := by simpa using h2
    have e1 : xs.length = us.length := r1.length
    obtain ⟨u1, g1, k1⟩ := r1.get (i := j) (x := xs[j]'(by omega)) (List.getElem?_eq_getElem (by omega))
    obtain ⟨u2, g2, k2⟩ := r2.get (i := j) (x := xs[j]'(by omega)) (List.getElem?_eq_getElem (by omega))
    rw [List.getElem?_eq_getElem h1'] at g1
    rw [List.getElem?_eq_getElem h2'] at g2
    have k := eqAt_same (A := X.A.in1) (s := s) k1 k2 (hf _ (List.getElem_mem _))
    cases g1
    cases g2
    simpa using k
  have k := SeqAt.RcNeAt.lists (A := X.A) (s := s) (e := fun _ => true) p1.isList p2.isList hsz (by omega) he
  have z : (!(List.range us.toArray.size).all fun _ => true) = false := by rw [show ((List.range us.toArray.size).all fun _ => true) = true from List.all_eq_true.mpr fun _ _ => rfl]; rfl
  rw [z] at k
  exact k X.prog X.w _ _ ⟨.bl false, H, I, rfl, q⟩
/-- list(v), v a tuple: the new list is told to stand elsewhere than the modules -/
theorem call_lsN {X : Cx} : CallR X (.type "list") (fun xs H Q => ∃ p ys, xs = [.ref p] ∧ SqT X.K H p ys ∧ ∀ l, H l = none → l ≠ sysModules → Q (.ref l) (upd H l (.lst ys))) := by
  intro pins s σ H xs us Q I r hw
  obtain ⟨t, ys, rfl, ht, k⟩ := hw
  cases r with
  | cons r0 rr =>
    cases rr
    cases r0
    obtain ⟨its, rv, pl, hz⟩ := I.tuple ht
    have hlen := rv.length
    obtain ⟨o, ho, hc, n, hd⟩ := pl
    refine call_list_seq t (.inr rfl) ho hc hd (fun h2 c2 kp e => ?_) (by rw [List.size_toArray]; omega)
    have new : ObjOk X.prog X.w (upd H s.heap.objs.size (.lst ys)) h2 s.heap.objs.size (.lst ys) := ⟨hz, its, c2, rv, e⟩
    refine ⟨.ref _, upd H s.heap.objs.size (.lst ys), ?_, rfl, ?_⟩
    · exact I.laid (t' := s.toks) kp (Nat.le_refl _) new
    · exact k _ (I.hok.fresh (Nat.le_refl _)) (Nat.ne_of_gt (Inv.low I))
/-! ### how long what is shown can be -/
theorem small_short : ∀ n : Nat, n ≤ 1000 → (PyData.int (n : Nat)).shown.length ≤ 13 ∧ (PyData.int (n : Nat)).showable = true ∧ (PyData.int (n : Nat)).weight ≤ 20 := by
  have h : ((List.range 1001).all fun n => decide ((PyData.int (n : Nat)).shown.length ≤ 13) && ((PyData.int (n : Nat)).showable && decide ((PyData.int (n : Nat)).weight ≤ 20))) = true := by decide +kernel
  intro n hn
  have h1 := List.all_eq_true.mp h n (List.mem_range.mpr (by omega))
  obtain ⟨a, b⟩ := Bool.and_eq_true_iff.mp h1
  obtain ⟨b, c⟩ := Bool.and_eq_true_iff.mp b
  exact ⟨of_decide_eq_true a, b, of_decide_eq_true c⟩
theorem shown_fits {d : PyData} (h1 : d.canLay0 = true) (h2 : d.depth ≤ 64) (h3 : d.weight ≤ 1000000) (h4 : d.intsShort 13 = true) : d.shown.length ≤ sizeLine := by
  have h5 : d.weight ≤ 2 ^ 20 := Nat.le_trans h3 (by decide)
  have hl : PyData.layable0 d = true := by
    unfold PyData.layable0
    rw [h1, decide_eq_true h2, decide_eq_true h5]
    rfl
  exact Nat.le_trans (PyProof.Rows.shown_le13 hl h4) (by decide)
end Mq

namespace Mq
open PySem PySem.Spec PyProof.Rows L2
/-! ### a text, so many times -/
def repS (x : Str) (n : Nat) : Str := ⟨(List.replicate n x.cps).foldl (· ++ ·) #[]⟩
theorem op_mulS {X : Cx} : OpR X (binaryOp .Mult) (fun x y H Q => ∃ (z : Str) (n : Nat), x = .str z ∧ y = .int (n : Nat) ∧ 2 ≤ n ∧ n ≤ 1000 ∧ 1 ≤ z.length ∧ z.length ≤ 1000 ∧ (repS z n).length ≤ sizeLine ∧ Q (.str (repS z n)) H) := by
  intro pins s σ H x y v u Q I rx ry h
  obtain ⟨z, n, rfl, rfl, h1, h2, h3, h4, h5, q⟩ := h
  obtain ⟨t, rfl⟩ := rx
  obtain ⟨t', rfl⟩ := ry
  have hm : z.length * n ≤ 1000 * 1000 := Nat.mul_le_mul h4 h2
  have e1 : decide (((n : Nat) : Int) < -(2 ^ 63 : Int)) = false := decide_eq_false (by omega)
  have e2 : decide (((n : Nat) : Int) ≥ 2 ^ 63) = false := decide_eq_false (by omega)
  have e3 : (((n : Nat) : Int) == 1) = false := by
    rw [beq_eq_false_iff_ne]
    omega
  have e4 : (z.length == 0) = false := by
    rw [beq_eq_false_iff_ne]
    omega
  refine P.mul_str (by rw [e1, e2]; rfl) (fun _ _ => ?_) (fun _ _ => ?_) ?_
  · have hd : (1000 : Int) ≤ (2 ^ 63 - 1) / ((n : Nat) : Int) := by
      refine (Int.le_ediv_iff_mul_le (by omega)).mpr ?_
      omega
    omega
  · rw [Int.toNat_natCast]
    unfold Builtin.Str.tooLong
    exact decide_eq_false (by have : (1000 * 1000 : Nat) ≤ sizeLine := by decide
                              omega)
  · rw [if_neg (show ¬ ((n : Nat) : Int) < 1 by omega), e3, e4]
    exact ⟨h5, .str (repS z n), H, I.tok _, ⟨_, rfl⟩, q⟩
end Mq


namespace MqE_thing
open PySem PySem.Spec PyProof.Rows L2 Mq PySem.W PySem.Calls
/-! ### errors whose one parameter is thing -/
def iA (p1 p2 : Pos) : Arguments := { posonlyargs := [], args := [{ arg := "self", annotation := none, pos := p1 }, { arg := "thing", annotation := none, pos := p2 }], vararg := none, kwonlyargs := [], kw_defaults := [], kwarg := none, defaults := [] }
def iB (q1 q2 q3 q4 : Pos) : List Stmt := [.Assign [.Attribute (.Name "self" q1) "thing" q2] (.Name "thing" q3) q4]
def iS : Scope := { kind := .function, names := [(PySem.Str.ofString "self", .local), (PySem.Str.ofString "thing", .local)], isGenerator := false, isCoroutine := false, more := [] }
/-- what the written part says of the class x at C, and of its __init__ at fI -/
structure Txt (K : Frag) (mg : Str → Option Value) (x qual : Str) (C fI : Addr) : Prop where
  gC : mg x = some (.ref C)
  kC : keepIn K (.ref C) = true
  ex : excInitIn K C exTail "Exception.__new__" = true
  ov : excOver K C exTail = true
  hdC : hasDictIn K C = true
  tk : takerIn K C "thing" = some none
  sa : findIn K (.ref C) "__setattr__" = some (some (.builtin "object.__setattr__"))
  iC : findIn K (.ref C) "__init__" = some (some (.ref fI))
  tC : typeIn K (.ref fI) = some (.type "function")
  exC : subIn K (.ref C) (.type "BaseException") = some true
  tyC : typeIn K (.ref C) = some (.type "type")
  fn : ∃ (oc : Value) (od : Option Addr) (doc pm : Value) (an : Option Addr) (cdv ct : Value) (osl : Array (Option Value)) (p1 p2 q1 q2 q3 q4 : Pos),
    K.lookup fI = some ⟨oc, od, .func (fnOf "__init__" qual (iA p1 p2) (iB q1 q2 q3 q4) iS .none .none doc pm an cdv ct), osl⟩ ∧ codeIn K cdv qual = true
theorem ld_loc {M : Model} {s : Shared} {name : Str} {scope : Scope} {L a : Addr} {cd : Value} {m : Str → Option Value} {y : Str} {pos : Pos} {v : Value}
    {Q : Value → Shared → Prop} {A : Around} {E : Value → Shared → Prop} (hn : s.heap.Ns L m) (hv : m y = some v) (h : Q v s)
    (hk : scope.kind = .function := by rfl) (hl : (envOfC name scope L a cd).kindOf y = some .local := by rfl) (hd : (y == ("__debug__" : Str)) = false := by decide) :
    wpAny M A (eval (.Name y pos) (envOfC name scope L a cd)) Q E s := wpAny_Name (wpAny_loadName_local hk hl hn hv h) hd
/-- what __init__ leaves of a new error at e -/
structure Filled (h h' : Heap) (e C dx t1 : Addr) (v : Value) : Prop where
  keep : ∀ b o, b ≠ e → h.get? b = some o → h'.get? b = some o
  obj : h'.get? e = some (excObj C t1 (some dx) .none)
  big : h.objs.size ≤ dx
  ne : dx ≠ e
  ns : h'.Ns1 dx (fun y => if y = "thing" then some v else none)
/-- a made error -/
structure Made (h h' : Heap) (e C d : Addr) (v : Value) : Prop where
  keep : ∀ b o, h.get? b = some o → h'.get? b = some o
  new : h.objs.size ≤ e
  obj : ∃ oe vs, h'.get? e = some oe ∧ oe.cls = .ref C ∧ oe.dict = some d ∧ oe.data = .fields vs ∧ vs[1]? = some .none
  big : h.objs.size ≤ d
  ne : d ≠ e
  ns : h'.Ns1 d (fun y => if y = "thing" then some v else none)
section
variable {prog : Program} {w : World} {A : Around} {E : Value → Shared → Prop} {R : Result → Shared → Prop} {s : Shared} {K : Frag} {mg : Str → Option Value} {x qual : Str} {C fI : Addr}
theorem init_run (T : Txt K mg x qual C fI) {e t0 : Addr} {v : Value} (X : K.In s.heap) (lim : s.heap.NoLimit) (he : s.heap.get? e = some (excObj C t0 none .none)) (room : A.depth < recursionLimit)
    (hq : ∀ h' tk dx, Filled s.heap h' e C dx t0 v → R (.ok (.ret .none)) { s with heap := h', toks := tk }) :
    codeAny (model prog w) A (.call (.ref fI) ⟨[.ref e, v], []⟩) R s := by
  obtain ⟨oc, od, doc, pm, an, cdv, ct, osl, p1, p2, q1, q2, q3, q4, ho, hcd⟩ := T.fn
  refine Att.call_fn (binds := [("self", .ref e), ("thing", v)]) X lim ho hcd room (BindsTo.of_eq (by first | rfl | with_unfolding_all rfl)) (by first | rfl | decide | with_unfolding_all rfl) (fun s₁ IC => ?_) rfl rfl rfl
  obtain ⟨h₁, tk₁, rfl⟩ := IC.toInCall.same
  have k : ∀ b o, s.heap.get? b = some o → h₁.get? b = some o := IC.toInCall.keep
  have hn := IC.toInCall.ns
  have X₁ : K.In h₁ := X.keeps k
  have he₁ := k _ _ he
  show wpAny _ _ (execs _ _) _ _ _
  refine wpAny_execs_cons (plainObj_wpAny_Assign_Attribute ?_)
  refine ld_loc (v := v) hn (by first | rfl | with_unfolding_all rfl | kernel_rfl) (ld_loc (v := .ref e) hn (by first | rfl | with_unfolding_all rfl | kernel_rfl) ?_)
  refine set_plain X₁ (ox := excObj C t0 none .none) (od := none) ⟨he₁, rfl, rfl, trivial⟩ T.sa ?_
  refine osa_first X₁ he₁ T.ov T.hdC T.tk (fun h₃ tk₃ dx k₃ dn dne he₃ hn₃ => ?_)
  show wpAny _ _ (execs _ _) _ _ _
  have z : s.heap.objs.size < h₁.objs.size := hn.lt
  exact wpAny_execs_nil (hq h₃ tk₃ dx ⟨fun b o hb e => k₃ b o hb (k b o e), he₃, Nat.le_of_lt (Nat.lt_of_lt_of_le z dn), dne, hn₃⟩)
theorem made_run (T : Txt K mg x qual C fI) {v : Value} (X : K.In s.heap) (lim : s.heap.NoLimit) (room : A.depth + 1 < recursionLimit)
    (hq : ∀ h' tk e d, Made s.heap h' e C d v → R (.ok (.ret (.ref e))) { s with heap := h', toks := tk }) :
    codeAny (model prog w) A (.call (.ref C) ⟨[v], []⟩) R s := by
  obtain ⟨nm, N, qn, bs, bm, hdct, sn, sub, ab, col, dd, k0, k1, k2, k3, k5, hC, hT⟩ := excInit_of X T.ex
  obtain ⟨hp, g, dr, tk, os⟩ := s
  have k : ∀ b o, hp.get? b = some o → ((hp.push (kdv_tup [v])).push (HandSPX.excO C hp.objs.size)).get? b = some o := fun b o e => Heap.get?_push_of_some _ (Heap.get?_push_of_some _ e)
  have hget : ((hp.push (kdv_tup [v])).push (HandSPX.excO C hp.objs.size)).get? (hp.objs.size + 1) = some (excObj C hp.objs.size none .none) := by heap_get
  refine HandSPX.call_own F.excBase_Exception hT hC (looks_findIn X T.iC) (fun self => bind_fn X self T.tC) (by rw [sizeLine_eq]; exact (by decide : 1 ≤ 16777216)) ?_
  refine init_run (s := ⟨(hp.push (kdv_tup [v])).push (HandSPX.excO C hp.objs.size), g, dr, tk, os⟩) T (X.keeps k) (lim.keeps k) hget ?_ (fun h' tk' dx M => ?_)
  · show A.depth + 1 < recursionLimit
    exact room
  · obtain ⟨k', hx, dn, dne, hns⟩ := M
    have old : ∀ b o, hp.get? b = some o → h'.get? b = some o := fun b o e => k' b o (Nat.ne_of_lt (Nat.lt_succ_of_lt (Heap.lt_size e))) (k b o e)
    have z : hp.objs.size + 1 + 1 ≤ dx := by
      have q := dn
      rw [Heap.size_push, Heap.size_push] at q
      exact q
    exact ⟨rfl, hq h' tk' (hp.objs.size + 1) dx ⟨old, Nat.le_succ _, ⟨_, _, hx, rfl, rfl, rfl, rfl⟩, Nat.le_trans (Nat.le_trans (Nat.le_succ _) (Nat.le_succ _)) z, dne, hns⟩⟩
end
theorem relO_f {v : V} {v' : Value} (r : RelV v v') (f : Str) : RelO (List.lookup f [(("thing" : Str), v)]) (if f = "thing" then some v' else none) := by
  by_cases hw : f = "thing"
  · subst hw
    rw [if_pos rfl]
    have q : List.lookup ("thing" : Str) [(("thing" : Str), v)] = some v := by simp [List.lookup]
    rw [q]
    exact r
  · rw [if_neg hw]
    have qw : (f == ("thing" : Str)) = false := by simpa using hw
    have q2 : List.lookup f [(("thing" : Str), v)] = none := by simp [List.lookup, qw]
    rw [q2]
    trivial
section
variable {X : Cx} {C fI : Addr} {x qual : Str}
/-- x(e) -/
def tMk (C : Addr) (ta : TA) : L2.St → Hp → XK → Prop := fun σ H Q => ta σ H fun vs H1 => ∃ v, vs = [v] ∧ ∀ d, H1 d = none → Q (.ref C) (some d) (upd H1 d (.xd [(("thing" : Str), v)]))
theorem pmk {a : Expr} {ta : TA} {p pos : Pos} {k : Nat} (T : Txt X.K X.mg x qual C fI) (hr : Room k X.A) (ha : PA X [a] ta) (hg : Gl X x := by rfl) (hdb : (x == ("__debug__" : Str)) = false := by decide)
    (he : starEach (a :: []) X.env = (false, eval a X.env) :: starEach [] X.env := by rfl) (hpl : (backTo pos (starEach [] X.env)).any (·.1) = false := by rfl) :
    PMk X (.Call (.Name x p) [a] [] pos) (tMk C ta) := by
  intro pins s σ H Q I h
  refine wpAny_Call_Name_kw (ld_glob I hg T.gC ?_ hdb)
  refine callWith_K (h₀ := X.base) I.ok.mod.kin T.kC (thn (ha.run pos pins s σ H _ I h) fun us s1 hh => ?_) he hpl
  obtain ⟨vs, H1, I1, r1, v, ev, q1⟩ := hh
  subst ev
  refine ⟨I1.kIn, ?_⟩
  cases r1 with
  | cons rv rn =>
    rename_i v' us'
    cases rn
    show wpAny _ _ (call (.ref C) [v']) _ _ _
    have hlim := I1.nolimit
    obtain ⟨hp, g, dr, tk, os⟩ := s1
    refine wpAny_call (made_run T I1.kIn hlim (by have := hr.dp; omega) (fun h' tk' e d M => ?_))
    show MkP X pins σ Q (.ref e) ⟨h', g, dr, tk', os⟩
    obtain ⟨oe, fv, hoe, hc, hd, hdat, h1⟩ := M.obj
    have hns := M.ns
    obtain ⟨G', g1, g2⟩ := restrict h' fun b => decide (b ≠ e)
    have gk : ∀ b, b ≠ e → G'.get? b = h'.get? b := fun b hb => g1 b (decide_eq_true hb)
    have ge : G'.get? e = none := g2 e (by simp)
    have old : ∀ b o, hp.get? b = some o → G'.get? b = some o := fun b o q => (gk b (Nat.ne_of_lt (Nat.lt_of_lt_of_le (Heap.lt_size q) M.new))).trans (M.keep b o q)
    have ob : ObjOk X.prog X.w (upd H1 d (.xd [(("thing" : Str), v)])) G' d (.xd [(("thing" : Str), v)]) :=
      ⟨_, hns.at (fun o q => (gk d M.ne).trans q), fun f => relO_f rv f⟩
    have J : L2.Inv X pins σ (upd H1 d (.xd [(("thing" : Str), v)])) ⟨G', g, dr, tk', os⟩ := I1.laid (t' := tk') old M.big ob
    refine ⟨e, oe, fv, ⟨G', g, dr, tk', os⟩, _, .ref C, some d, rfl, J, (fun b o q => ?_), ge, hoe, ⟨hc, hd⟩, hdat, h1, ?_, rfl, I1.bare, raises_own T.exC T.tyC, q1 d (I1.hok.fresh M.big)⟩
    · by_cases hb : b = e
      · have q' : G'.get? b = some o := q
        rw [hb, ge] at q'
        cases q'
      · exact (gk b hb).symm.trans q
    · rw [upd_ne (Ne.symm M.ne)]
      exact I1.hok.fresh M.new
/-- raise x(e) -/
def tRaise (C : Addr) (W : WX) (ta : TA) : TS := fun _ σ H => tMk C ta σ H fun cls d H' => W cls d σ H'
theorem ps_raise {a : Expr} {ta : TA} {W : WX} {p pos pos2 : Pos} {k : Nat} (hc : X.calm = true) (T : Txt X.K X.mg x qual C fI) (hr : Room k X.A) (tk : Takes X W) (ha : PA X [a] ta) (hg : Gl X x := by rfl) (hdb : (x == ("__debug__" : Str)) = false := by decide)
    (he : starEach (a :: []) X.env = (false, eval a X.env) :: starEach [] X.env := by rfl) (hpl : (backTo pos (starEach [] X.env)).any (·.1) = false := by rfl) :
    PS X (.Raise (some (.Call (.Name x p) [a] [] pos)) none pos2) (tRaise C W ta) := L2.ps_raise hc tk (pmk T hr ha hg hdb he hpl)
end
end MqE_thing

namespace Lw
open PySem PySem.Spec PyProof.Rows L2 Mq
/-! ### where the defs stand -/
def topS (i : Nat) : Stmt := PySem.Challenge.pw_millhands_k04_letters_that_go.main.body.getD i (.Pass ⟨0, 0, 0, 0⟩)
abbrev s_BadBook___init__ : Stmt := inClass (topS 2) 0
theorem sc_BadBook___init__ : FnScope ["self", "part"] ["self", "part"] (defScope s_BadBook___init__) := ⟨rfl, rfl, rfl, by decide +kernel, rfl, by decide +kernel, by decide +kernel⟩
abbrev s_BadText___init__ : Stmt := inClass (topS 3) 0
theorem sc_BadText___init__ : FnScope ["self", "line"] ["self", "line"] (defScope s_BadText___init__) := ⟨rfl, rfl, rfl, by decide +kernel, rfl, by decide +kernel, by decide +kernel⟩
abbrev s_is_letters : Stmt := topS 6
theorem sc_is_letters : FnScope ["thing", "letter"] ["thing"] (defScope s_is_letters) := ⟨rfl, rfl, rfl, by decide +kernel, rfl, by decide +kernel, by decide +kernel⟩
abbrev s_is_letter : Stmt := topS 7
theorem sc_is_letter : FnScope ["letters", "thing"] ["letters", "thing"] (defScope s_is_letter) := ⟨rfl, rfl, rfl, by decide +kernel, rfl, by decide +kernel, by decide +kernel⟩
abbrev s_is_word : Stmt := topS 8
theorem sc_is_word : FnScope ["letters", "thing", "letter"] ["letters", "thing"] (defScope s_is_word) := ⟨rfl, rfl, rfl, by decide +kernel, rfl, by decide +kernel, by decide +kernel⟩
abbrev s_is_ascending : Stmt := topS 9
theorem sc_is_ascending : FnScope ["parts", "k"] ["parts"] (defScope s_is_ascending) := ⟨rfl, rfl, rfl, by decide +kernel, rfl, by decide +kernel, by decide +kernel⟩
abbrev s_is_paper : Stmt := topS 10
theorem sc_is_paper : FnScope ["thing", "word", "many"] ["thing", "word", "many"] (defScope s_is_paper) := ⟨rfl, rfl, rfl, by decide +kernel, rfl, by decide +kernel, by decide +kernel⟩
abbrev s_text_parts : Stmt := topS 11
theorem sc_text_parts : FnScope ["word", "text", "lines", "words"] ["word", "text"] (defScope s_text_parts) := ⟨rfl, rfl, rfl, by decide +kernel, rfl, by decide +kernel, by decide +kernel⟩
abbrev s_Book___init__ : Stmt := inClass (topS 13) 0
theorem sc_Book___init__ : FnScope ["self", "letters", "folds", "table", "ahead", "number", "fold"] ["self", "letters", "folds"] (defScope s_Book___init__) := ⟨rfl, rfl, rfl, by decide +kernel, rfl, by decide +kernel, by decide +kernel⟩
abbrev s_Book___len__ : Stmt := inClass (topS 13) 1
theorem sc_Book___len__ : FnScope ["self"] ["self"] (defScope s_Book___len__) := ⟨rfl, rfl, rfl, by decide +kernel, rfl, by decide +kernel, by decide +kernel⟩
abbrev s_Book___eq__ : Stmt := inClass (topS 13) 2
theorem sc_Book___eq__ : FnScope ["self", "other"] ["self", "other"] (defScope s_Book___eq__) := ⟨rfl, rfl, rfl, by decide +kernel, rfl, by decide +kernel, by decide +kernel⟩
abbrev s_Book___str__ : Stmt := inClass (topS 13) 3
theorem sc_Book___str__ : FnScope ["self", "lines", "last", "laid", "left"] ["self"] (defScope s_Book___str__) := ⟨rfl, rfl, rfl, by decide +kernel, rfl, by decide +kernel, by decide +kernel⟩
abbrev s_Book_read : Stmt := inClass (topS 13) 4
theorem sc_Book_read : FnScope ["cls", "text", "letters", "lines", "folds", "line", "fold"] ["cls", "text"] (defScope s_Book_read) := ⟨rfl, rfl, rfl, by decide +kernel, rfl, by decide +kernel, by decide +kernel⟩
abbrev s_Book_left_of : Stmt := inClass (topS 13) 5
theorem sc_Book_left_of : FnScope ["self", "last", "laid"] ["self", "last", "laid"] (defScope s_Book_left_of) := ⟨rfl, rfl, rfl, by decide +kernel, rfl, by decide +kernel, by decide +kernel⟩
abbrev s_is_fold : Stmt := topS 14
theorem sc_is_fold : FnScope ["letters", "thing"] ["letters", "thing"] (defScope s_is_fold) := ⟨rfl, rfl, rfl, by decide +kernel, rfl, by decide +kernel, by decide +kernel⟩
abbrev s_fold_read : Stmt := topS 15
theorem sc_fold_read : FnScope ["letters", "line", "words", "fold"] ["letters", "line"] (defScope s_fold_read) := ⟨rfl, rfl, rfl, by decide +kernel, rfl, by decide +kernel, by decide +kernel⟩
abbrev s_is_ahead : Stmt := topS 16
theorem sc_is_ahead : FnScope ["one", "other"] ["one", "other"] (defScope s_is_ahead) := ⟨rfl, rfl, rfl, by decide +kernel, rfl, by decide +kernel, by decide +kernel⟩
abbrev s_turning_rows : Stmt := topS 18
theorem sc_turning_rows : FnScope ["book", "letter", "rows", "queue", "at", "last", "laid", "left"] ["book", "letter"] (defScope s_turning_rows) := ⟨rfl, rfl, rfl, by decide +kernel, rfl, by decide +kernel, by decide +kernel⟩
abbrev s_can_go : Stmt := topS 19
theorem sc_can_go : FnScope ["book", "letter"] ["book", "letter"] (defScope s_can_go) := ⟨rfl, rfl, rfl, by decide +kernel, rfl, by decide +kernel, by decide +kernel⟩
abbrev s_going_row : Stmt := topS 20
theorem sc_going_row : FnScope ["book", "letter", "best", "last", "row", "laid"] ["book", "letter"] (defScope s_going_row) := ⟨rfl, rfl, rfl, by decide +kernel, rfl, by decide +kernel, by decide +kernel⟩
abbrev s_judge_going : Stmt := topS 21
theorem sc_judge_going : FnScope ["book", "letter", "row"] ["book", "letter"] (defScope s_judge_going) := ⟨rfl, rfl, rfl, by decide +kernel, rfl, by decide +kernel, by decide +kernel⟩
abbrev s_going_holds : Stmt := topS 22
theorem sc_going_holds : FnScope ["book", "letter", "thing"] ["book", "letter", "thing"] (defScope s_going_holds) := ⟨rfl, rfl, rfl, by decide +kernel, rfl, by decide +kernel, by decide +kernel⟩
abbrev s_does_row_go : Stmt := topS 23
theorem sc_does_row_go : FnScope ["book", "letter", "row", "standing", "laid"] ["book", "letter", "row"] (defScope s_does_row_go) := ⟨rfl, rfl, rfl, by decide +kernel, rfl, by decide +kernel, by decide +kernel⟩
abbrev s_does_lot_stay : Stmt := topS 24
theorem sc_does_lot_stay : FnScope ["book", "letter", "lot", "last", "_", "left"] ["book", "letter", "lot"] (defScope s_does_lot_stay) := ⟨rfl, rfl, rfl, by decide +kernel, rfl, by decide +kernel, by decide +kernel⟩
abbrev s_turned_into : Stmt := topS 25
theorem sc_turned_into : FnScope ["book", "letter"] ["book", "letter"] (defScope s_turned_into) := ⟨rfl, rfl, rfl, by decide +kernel, rfl, by decide +kernel, by decide +kernel⟩
abbrev s__law_deck : Stmt := topS 27
theorem sc__law_deck : FnScope ["_law_script", "_law_cells", "_law_mixed", "_law_cell"] ["_law_script"] (defScope s__law_deck) := ⟨rfl, rfl, rfl, by decide +kernel, rfl, by decide +kernel, by decide +kernel⟩
abbrev s__law_draw : Stmt := topS 28
theorem sc__law_draw : FnScope ["_law_deck_here", "_law_below", "_law_mixed", "_law_cell"] ["_law_deck_here", "_law_below"] (defScope s__law_draw) := ⟨rfl, rfl, rfl, by decide +kernel, rfl, by decide +kernel, by decide +kernel⟩
abbrev s__law_pick : Stmt := topS 29
theorem sc__law_pick : FnScope ["_law_deck_here", "_law_some"] ["_law_deck_here", "_law_some"] (defScope s__law_pick) := ⟨rfl, rfl, rfl, by decide +kernel, rfl, by decide +kernel, by decide +kernel⟩
abbrev s__law_world : Stmt := topS 30
theorem sc__law_world : FnScope ["_law_deck_here", "_law_letters", "_law_left", "_law_some", "_law_menu", "_law_x", "_law_y", "_law_it"] ["_law_deck_here"] (defScope s__law_world) := ⟨rfl, rfl, rfl, by decide +kernel, rfl, by decide +kernel, by decide +kernel⟩
abbrev s__law_code : Stmt := topS 31
theorem sc__law_code : FnScope ["_law_w", "_law_x", "_law_y"] ["_law_w"] (defScope s__law_code) := ⟨rfl, rfl, rfl, by decide +kernel, rfl, by decide +kernel, by decide +kernel⟩
abbrev s__law_web : Stmt := topS 32
theorem sc__law_web : FnScope ["_law_deck_here", "_law_w", "_law_most", "_law_k"] ["_law_deck_here", "_law_w", "_law_most"] (defScope s__law_web) := ⟨rfl, rfl, rfl, by decide +kernel, rfl, by decide +kernel, by decide +kernel⟩
abbrev s__law_ways : Stmt := topS 33
theorem sc__law_ways : FnScope ["_law_w", "_law_x", "_law_is_going", "_law_found", "_law_edge", "_law_later", "_law_row", "_law_y", "_law_c", "_law_left", "_law_both"] ["_law_w", "_law_x", "_law_is_going"] (defScope s__law_ways) := ⟨rfl, rfl, rfl, by decide +kernel, rfl, by decide +kernel, by decide +kernel⟩
abbrev s__law_is_paper : Stmt := topS 34
theorem sc__law_is_paper : FnScope ["_law_w", "_law_x", "_law_it", "_law_y", "_law_c", "_law_left"] ["_law_w", "_law_x", "_law_it"] (defScope s__law_is_paper) := ⟨rfl, rfl, rfl, by decide +kernel, rfl, by decide +kernel, by decide +kernel⟩
abbrev s__law_odd : Stmt := topS 35
theorem sc__law_odd : FnScope ["_law_deck_here", "_law_it", "_law_some"] ["_law_deck_here", "_law_it"] (defScope s__law_odd) := ⟨rfl, rfl, rfl, by decide +kernel, rfl, by decide +kernel, by decide +kernel⟩
abbrev s__law_bent : Stmt := topS 36
theorem sc__law_bent : FnScope ["_law_deck_here", "_law_it", "_law_at", "_law_way"] ["_law_deck_here", "_law_it"] (defScope s__law_bent) := ⟨rfl, rfl, rfl, by decide +kernel, rfl, by decide +kernel, by decide +kernel⟩
abbrev s__law_papers : Stmt := topS 37
theorem sc__law_papers : FnScope ["_law_deck_here", "_law_w", "_law_x", "_law_some", "_law_go", "_law_kind", "_law_row", "_law_y"] ["_law_deck_here", "_law_w", "_law_x"] (defScope s__law_papers) := ⟨rfl, rfl, rfl, by decide +kernel, rfl, by decide +kernel, by decide +kernel⟩
abbrev s__law_letter_right : Stmt := topS 38
theorem sc__law_letter_right : FnScope ["_law_deck_here", "_law_w", "_law_code_here", "_law_x", "_law_ways_here", "_law_due", "_law_told", "_law_sheets", "_law_it", "_law_was", "_law_held"] ["_law_deck_here", "_law_w", "_law_code_here", "_law_x"] (defScope s__law_letter_right) := ⟨rfl, rfl, rfl, by decide +kernel, rfl, by decide +kernel, by decide +kernel⟩
abbrev s_law : Stmt := topS 39
theorem sc_law : FnScope ["_law_script", "_law_deck_here", "_law_go", "_law_w", "_law_code_here", "_law_far", "_law_x"] ["_law_script"] (defScope s_law) := ⟨rfl, rfl, rfl, by decide +kernel, rfl, by decide +kernel, by decide +kernel⟩
end Lw

namespace Lw
open PySem PySem.Spec PyProof.Rows L2 Mq
open SX (S)
/-! ### letters -/
def ascB (l : List Nat) : Bool := ((List.range (l.length - 1)).map fun k => decide (l.getD k 0 < l.getD (k + 1) 0)).all id
theorem lt_sign (c d : Nat) : decide ((S [c]).cps.toList < (S [d]).cps.toList) = decide (c < d) := by
  have h : ((S [c]).cps.toList < (S [d]).cps.toList) ↔ c < d := by
    show ([c] : List Nat) < [d] ↔ c < d
    rw [List.cons_lt_cons_iff]
    simp
  exact decide_eq_decide.mpr h
theorem sz_le {n : Nat} (h : n ≤ 1000000) : n ≤ sizeLine := Nat.le_trans h (by decide)
theorem sz_lt {n : Nat} (h : n ≤ 1000000) : n < sizeLine := Nat.lt_of_le_of_lt h (by decide)
theorem at_get {l : List Nat} {k : Nat} (h : k < l.length) : atI (S l).cps.toList (k : Int) = some (l.getD k 0) := by
  refine atI_nat ?_
  show l[k]? = _
  rw [List.getElem?_eq_getElem h, List.getD_eq_getElem?_getD, List.getElem?_eq_getElem h]
  rfl
theorem ix_sign {l : List Nat} {k : Nat} {H : Hp} {Q : VK} (hl : l.length ≤ 100000) (h : k < l.length) (q : Q (.str (S [l.getD k 0])) H) : rIxS (.str (S l)) (.int (k : Int)) H Q :=
  ⟨S l, (k : Int), l.getD k 0, rfl, rfl, sz_le (by rw [SX.S_len]; omega), at_get h, q⟩
theorem len_S {K : PySem.W.Frag} {H : Hp} {l : List Nat} (hl : l.length ≤ 100000) : LenV K (.str (S l)) H (l.length : Nat) := by
  have hz := SX.S_len l
  refine ⟨?_, ?_⟩
  · rw [hz]
    exact sz_le (by omega)
  · rw [hz]
def spAsc : Sp := fun vs H Q _ => ∃ l : List Nat, vs = [.str (S l)] ∧ l.length ≤ 100000 ∧ ∀ H', Same H H' → Q (.bl (ascB l)) H'
section
variable {P : Program} {w : World} {K : PySem.W.Frag} {mg : Str → Option Value} {base : Heap}
theorem ok_is_ascending {f : Addr} {fd : FuncData} (F : Fun K "is_ascending" "is_ascending" s_is_ascending f fd) (B : Blt mg) :
    FnOk P w K mg base CX0 1 f fd ["parts"] spAsc := by
  refine F.ok sc_is_ascending (fun vs H Q E h => ?_) (fun cdv A outer s H vs Q E hr h => ?_)
  · obtain ⟨l, rfl, _⟩ := h
    rfl
  · obtain ⟨l, rfl, hl, q⟩ := h
    have hz : (S l).length = l.length := SX.S_len l
    refine ⟨_, pss_one (ps_ret (pe_callB (cr_all rfl) (by rfl) B.all (by decide +kernel) (pa_cons (pe_lc (own := [("k", 1)]) (g := gName 1) (tt := tYes) rfl sc_is_ascending.nd
      (pi_range1 (by rfl) B.range (pa_cons (pe_op op_sub (pe_callB call_len (by rfl) B.len (by decide +kernel) (pa_cons (pv 0) pa_nil)) pe_int) pa_nil))
      (blkOk_by (own := [("k", 1)]) (N := ["parts", "k"]) (sc := defScope s_is_ascending) (by decide +kernel)) (fun _ _ _ _ _ => pg_name (i := 1) sc_is_ascending.nd rfl (Or.inl rfl)) (fun _ _ _ _ _ => pts_nil)
      (fun _ _ _ _ _ => pe_cmpR op_lt_str (pe_ix ix_str (pv 0) (pv 1) (fun _ _ => rfl)) (pe_ix ix_str (pv 0) (pe_op op_add (pv 1) pe_int) (fun _ _ => rfl)) (nomark _))) pa_nil))), ?_⟩
    have e1 : ((l.length : Int) - 1).toNat = l.length - 1 := by omega
    unfold tRet tCB tCons
    refine lc_map (n := l.length - 1) walk_rng (fun k => .bl (decide (l.getD k 0 < l.getD (k + 1) 0))) (by omega) (fun R k => ?_) (fun _ _ _ _ _ => trivial) ?_ ?_
    · refine ⟨.str (S l), rfl, .str (S l), l.length, rfl, len_S hl, _, _, rfl, rfl, (l.length : Int) - 1, rfl, by omega, by omega, ?_⟩
      rw [e1]
      exact k _ (Same.refl _) trivial
    · rintro i x H' H'' R hi sm ⟨rfl, rfl⟩ k
      refine ⟨rfl, .str (S l), rfl, .int (i : Nat), rfl, ?_⟩
      refine ix_sign hl (by omega) ⟨.str (S l), rfl, .int (i : Nat), rfl, _, _, rfl, rfl, ?_⟩
      refine ix_sign (k := i + 1) hl (by omega) ?_
      refine ⟨S [l.getD i 0], S [l.getD (i + 1) 0], rfl, rfl, ?_⟩
      rw [lt_sign]
      exact k _ (Same.refl _)
    · intro D H' hD sm hl'
      refine ⟨D, (List.range (l.length - 1)).map fun k => decide (l.getD k 0 < l.getD (k + 1) 0), rfl, SqL.of ?_, q H' sm⟩
      rw [List.map_map]
      exact hl'
end
end Lw

namespace Lw
open PySem PySem.Spec PyProof.Rows L2 Mq
open SX (S)
def alpha : List Nat := List.range' 97 26
theorem alpha_is : ("abcdefghijklmnopqrstuvwxyz" : Str) = S alpha := by decide +kernel
def inB (c : Nat) (l : List Nat) : Bool := decide (c ∈ l)
def allB (l s : List Nat) : Bool := ((List.range l.length).map fun k => inB (l.getD k 0) s).all id
def lettersB (l : List Nat) : Bool := !decide (l = []) && (ascB l && allB l alpha)
/-- a value of a known kind that is no text -/
def NoStr (K : PySem.W.Frag) (H : Hp) (v : V) : Prop := ∃ a, TyX K H v (.type a) ∧ a ∈ ["NoneType", "bool", "int", "str", "list", "tuple", "dict"] ∧ a ≠ "str"
theorem kit_no {K : PySem.W.Frag} {a : String} (m : a ∈ ["NoneType", "bool", "int", "str", "list", "tuple", "dict"]) (n : a ≠ "str") : PySem.W.kitOne K (.type a) (.type "str") = some false :=
  kit_ty (by rw [kit_known a "str" m (by simp), decide_eq_false n])
theorem kit_self {K : PySem.W.Frag} : PySem.W.kitOne K (.type "str") (.type "str") = some true := kit_ty (by decide +kernel)
theorem str_is_nil (l : List Nat) : decide (V.str (S l) = V.str "") = decide (l = []) := by
  refine decide_eq_decide.mpr ⟨fun h => ?_, fun h => by rw [h]; rfl⟩
  have h1 : S l = S [] := V.str.inj h
  exact SX.S_inj h1
theorem walk_S (l : List Nat) : Walk (Its (S l)) l.length (fun _ => True) (YFn fun i => .str (S [l.getD i 0])) := by
  refine walk_str.mono (fun _ h => h) (fun i H x H' hi _ y => ⟨y.1, ?_⟩)
  obtain ⟨_, c, hc, rfl⟩ := y
  have hc' : l[i]? = some c := by simpa using hc
  show V.str (S [c]) = V.str (S [l.getD i 0])
  rw [List.getD_eq_getElem?_getD, hc']
  rfl
/-- what a name is looked up in: letters, signs -/
def spLetters (K : PySem.W.Frag) : Sp := fun vs H Q _ => ∃ v, vs = [v] ∧
  ((∃ l : List Nat, v = .str (S l) ∧ l.length ≤ 100000 ∧ ∀ H', Same H H' → Q (.bl (lettersB l)) H') ∨ (NoStr K H v ∧ ∀ H', Same H H' → Q (.bl false) H'))
def spWord (K : PySem.W.Frag) : Sp := fun vs H Q _ => ∃ (s : List Nat) (v : V), vs = [.str (S s), v] ∧
  ((∃ l : List Nat, v = .str (S l) ∧ l.length ≤ 100000 ∧ ∀ H', Same H H' → Q (.bl (allB l s)) H') ∨ (NoStr K H v ∧ ∀ H', Same H H' → Q (.bl false) H'))
section
variable {P : Program} {w : World} {K : PySem.W.Frag} {mg : Str → Option Value} {base : Heap}
theorem ok_is_letters {f fA : Addr} {fd fdA : FuncData} (F : Fun K "is_letters" "is_letters" s_is_letters f fd) (B : Blt mg)
    (FA : Fun K "is_ascending" "is_ascending" s_is_ascending fA fdA) (gA : mg "is_ascending" = some (.ref fA)) (bA : Binds K fdA ["parts"] [])
    (al : ∃ t, mg "ALPHABET" = some (.str "abcdefghijklmnopqrstuvwxyz" t)) :
    FnOk P w K mg base CX0 2 f fd ["thing"] (spLetters K) := by
  have GA : FnOk P w K mg base CX0 1 fA fdA ["parts"] spAsc := ok_is_ascending FA B
  obtain ⟨ta, al⟩ := al
  refine F.ok sc_is_letters (fun vs H Q E h => ?_) (fun cdv A outer s H vs Q E hr h => ?_)
  · obtain ⟨v, rfl, _⟩ := h
    rfl
  · obtain ⟨v, rfl, h⟩ := h
    refine ⟨_, pss_cons (ps_if (PW.pt (pw_or (pt_not (pt_val (pe_callB call_isi (by rfl) B.isi (by decide +kernel) (pa_cons (pv 0) (pa_cons (pe_bltn (v := .ty "str") (by rfl) B.str (by decide +kernel) rfl) pa_nil)))))
        (pw_or1 (pt_cmpR op_eq (pv 0) pe_str (nomark _))))) (pss_one (ps_ret pe_bl)) pss_nil)
      (pss_one (ps_ret (pe_and (pe_call GA (hr.mono (by decide)) (by rfl) gA FA.kp bA .nil pass0 (pa_cons (pv 0) pa_nil))
        (pe_one (pe_callB (cr_all rfl) (by rfl) B.all (by decide +kernel) (pa_cons (pe_lc (own := [("letter", 1)]) (g := gName 1) (tt := tYes) rfl sc_is_letters.nd (pi_str (pv 0))
          (blkOk_by (own := [("letter", 1)]) (N := ["thing", "letter"]) (sc := defScope s_is_letters) (by decide +kernel)) (fun _ _ _ _ _ => pg_name (i := 1) sc_is_letters.nd rfl (Or.inl rfl)) (fun _ _ _ _ _ => pts_nil)
          (fun _ _ _ _ _ => pe_cmpR op_in_sign (pv 1) (pe_glob (v := .str "abcdefghijklmnopqrstuvwxyz") rfl al ⟨_, rfl⟩) rfl)) pa_nil)))))), ?_⟩
    rcases h with ⟨l, rfl, hl, q⟩ | ⟨hn, q⟩
    · refine ⟨.str (S l), rfl, .str (S l), .ty "str", _, _, true, rfl, .ty _, .base (.str _), kit_self, true, rfl, iteF ⟨.str (S l), rfl, rfl, _, rfl, ?_⟩⟩
      rw [str_is_nil]
      cases e : decide (l = []) with
      | true =>
        refine iteT ?_
        have q' := q H (Same.refl H)
        unfold lettersB at q'
        rw [e] at q'
        exact q'
      | false =>
        refine iteF ⟨.str (S l), rfl, l, rfl, hl, fun H1 s1 => ⟨_, rfl, ?_⟩⟩
        have q' : ∀ H', Same H H' → Q (.bl (ascB l && allB l alpha)) H' := fun H' sm => by
          have z := q H' sm
          unfold lettersB at z
          rw [e] at z
          exact z
        cases ea : ascB l with
        | false =>
          refine iteF ?_
          have z := q' H1 s1
          rw [ea] at z
          exact z
        | true =>
          refine iteT ?_
          rw [ea] at q'
          unfold tCB tCons
          refine lc_map (n := l.length) (walk_S l) (fun k => .bl (inB (l.getD k 0) alpha)) (by omega) (fun R k => ⟨_, rfl, S l, rfl, k _ (Same.refl _) trivial⟩) (fun _ _ _ _ _ => trivial) ?_ ?_
          · rintro i x H' H'' R hi sm ⟨rfl, rfl⟩ k
            refine ⟨rfl, .str (S [l.getD i 0]), rfl, ?_⟩
            rw [alpha_is]
            exact ⟨l.getD i 0, S alpha, rfl, rfl, k _ (Same.refl _)⟩
          · intro D H' hD sm hl'
            refine ⟨D, (List.range l.length).map fun k => inB (l.getD k 0) alpha, rfl, SqL.of ?_, q' H' (s1.trans sm)⟩
            rw [List.map_map]
            exact hl'
    · obtain ⟨a, t, m, n⟩ := hn
      exact ⟨v, rfl, v, .ty "str", .type a, _, false, rfl, .ty _, t, kit_no m n, false, rfl, iteT (iteT (q H (Same.refl H)))⟩
theorem ok_is_word {f : Addr} {fd : FuncData} (F : Fun K "is_word" "is_word" s_is_word f fd) (B : Blt mg) : FnOk P w K mg base CX0 1 f fd ["letters", "thing"] (spWord K) := by
  refine F.ok sc_is_word (fun vs H Q E h => ?_) (fun cdv A outer s H vs Q E hr h => ?_)
  · obtain ⟨s, v, rfl, _⟩ := h
    rfl
  · obtain ⟨sg, v, rfl, h⟩ := h
    refine ⟨_, pss_one (ps_ret (pe_and (pe_callB call_isi (by rfl) B.isi (by decide +kernel) (pa_cons (pv 1) (pa_cons (pe_bltn (v := .ty "str") (by rfl) B.str (by decide +kernel) rfl) pa_nil)))
      (pe_one (pe_callB (cr_all rfl) (by rfl) B.all (by decide +kernel) (pa_cons (pe_lc (own := [("letter", 2)]) (g := gName 2) (tt := tYes) rfl sc_is_word.nd (pi_str (pv 1))
        (blkOk_by (own := [("letter", 2)]) (N := ["letters", "thing", "letter"]) (sc := defScope s_is_word) (by decide +kernel)) (fun _ _ _ _ _ => pg_name (i := 2) sc_is_word.nd rfl (Or.inl rfl)) (fun _ _ _ _ _ => pts_nil)
        (fun _ _ _ _ _ => pe_cmpR op_in_sign (pv 2) (pv 0) rfl)) pa_nil))))), ?_⟩
    rcases h with ⟨l, rfl, hl, q⟩ | ⟨hn, q⟩
    · refine ⟨.str (S l), rfl, .str (S l), .ty "str", _, _, true, rfl, .ty _, .base (.str _), kit_self, true, rfl, iteT ?_⟩
      unfold tCB tCons
      refine lc_map (n := l.length) (walk_S l) (fun k => .bl (inB (l.getD k 0) sg)) (by omega) (fun R k => ⟨_, rfl, S l, rfl, k _ (Same.refl _) trivial⟩) (fun _ _ _ _ _ => trivial) ?_ ?_
      · rintro i x H' H'' R hi sm ⟨rfl, rfl⟩ k
        exact ⟨rfl, .str (S [l.getD i 0]), rfl, .str (S sg), rfl, l.getD i 0, S sg, rfl, rfl, k _ (Same.refl _)⟩
      · intro D H' hD sm hl'
        refine ⟨D, (List.range l.length).map fun k => inB (l.getD k 0) sg, rfl, SqL.of ?_, q H' sm⟩
        rw [List.map_map]
        exact hl'
    · obtain ⟨a, t, m, n⟩ := hn
      exact ⟨v, rfl, v, .ty "str", .type a, _, false, rfl, .ty _, t, kit_no m n, false, rfl, iteF (q H (Same.refl H))⟩
end
end Lw

namespace Lw
open PySem PySem.Spec PyProof.Rows L2 Mq
open SX (S)
theorem ifF {c : Bool} {p q : Prop} (h : c = false) (hq : q) : (if c = true then p else q) := by rw [h]; exact hq
theorem ifT {c : Bool} {p q : Prop} (h : c = true) (hp : p) : (if c = true then p else q) := by rw [h]; exact hp
theorem len_tup {K : PySem.W.Frag} {H : Hp} {a : Addr} {xs : List V} (h : SqT K H a xs) : LenV K (.ref a) H xs.length := Or.inr ⟨xs, h, rfl⟩
theorem ps_dead {X : Cx} {st : Stmt} : PS X st (fun _ _ _ => False) := ⟨fun _ _ _ _ _ _ h => h.elim⟩
theorem pos_of {α : Type} {l : List α} (h : l ≠ []) : 0 < l.length := by
  cases l with
  | nil => exact (h rfl).elim
  | cons a l => exact Nat.zero_lt_succ _
theorem allB_of {sg w : List Nat} (h : ∀ c ∈ w, c ∈ sg) : allB w sg = true := by
  unfold allB
  rw [List.all_map, List.all_eq_true]
  intro k hk
  have hk' := List.mem_range.mp hk
  refine decide_eq_true (h _ ?_)
  rw [List.getD_eq_getElem?_getD, List.getElem?_eq_getElem hk']
  exact List.getElem_mem hk'
def wordOk (sg w : List Nat) : Prop := (∀ c ∈ w, c ∈ sg) ∧ w.length ≤ 1000
end Lw

namespace Lw
open PySem PySem.Spec PyProof.Rows L2 Mq
open SX (S)
/-! ### the deck -/
def deckKv (c : Addr) (m : Int) (t : Nat) : List (Key × V) := [(.inr "cells", .ref c), (.inr "mixed", .int m), (.inr "turn", .int (t : Nat))]
structure DeckAt (D C : Addr) (T : Nat) (H : Hp) : Prop where
  ex : ∃ (m : Int) (t : Nat) (js : List Int), H D = some (.dK (deckKv C m t)) ∧ H C = some (.lst (js.map V.int)) ∧ js.length ≤ 100 ∧ t ≤ T
def Off (D C : Addr) (H H' : Hp) : Prop := ∀ b o, b ≠ D → b ≠ C → H b = some o → H' b = some o
theorem Off.refl (D C : Addr) (H : Hp) : Off D C H H := fun _ _ _ _ e => e
theorem Off.trans {D C : Addr} {H H' H'' : Hp} (a : Off D C H H') (b : Off D C H' H'') : Off D C H H'' := fun x o h1 h2 e => b x o h1 h2 (a x o h1 h2 e)
theorem Off.same {D C : Addr} {H H' : Hp} (e : Same H H') : Off D C H H' := fun b o _ _ h => e b o h
theorem DeckAt.same {D C : Addr} {T : Nat} {H H' : Hp} (h : DeckAt D C T H) (e : Same H H') : DeckAt D C T H' := let ⟨m, t, js, a, b, c, d⟩ := h.ex; ⟨m, t, js, e _ _ a, e _ _ b, c, d⟩
theorem DeckAt.mono {D C : Addr} {T T' : Nat} {H : Hp} (h : DeckAt D C T H) (e : T ≤ T') : DeckAt D C T' H := let ⟨m, t, js, a, b, c, d⟩ := h.ex; ⟨m, t, js, a, b, c, Nat.le_trans d e⟩
theorem DeckAt.ne {D C : Addr} {T : Nat} {H : Hp} (h : DeckAt D C T H) : C ≠ D := by
  obtain ⟨m, t, js, a, b, c, d⟩ := h.ex
  rintro rfl
  rw [a] at b
  cases b
/-- what is no list and no dict is none of the deck's -/
theorem Off.at {D C : Addr} {T : Nat} {H H' : Hp} {a : Addr} {o : HO} (f : Off D C H H') (k : DeckAt D C T H) (h : H a = some o) (n : (∀ xs, o ≠ .lst xs) ∧ ∀ kvs, o ≠ .dK kvs) : H' a = some o := by
  obtain ⟨m, t, js, x, y, _, _⟩ := k.ex
  refine f a o ?_ ?_ h
  · rintro rfl
    rw [x] at h
    cases h
    exact n.2 _ rfl
  · rintro rfl
    rw [y] at h
    cases h
    exact n.1 _ rfl
theorem Off.tup {K : PySem.W.Frag} {D C : Addr} {T : Nat} {H H' : Hp} {a : Addr} {xs : List V} (f : Off D C H H') (k : DeckAt D C T H) (h : SqT K H a xs) : SqT K H' a xs := by
  rcases h with (h | ⟨o, h⟩) | h
  · exact Or.inl (Or.inl (f.at k h ⟨(fun _ z => nomatch z), (fun _ z => nomatch z)⟩))
  · exact Or.inl (Or.inr ⟨o, f.at k h ⟨(fun _ z => nomatch z), (fun _ z => nomatch z)⟩⟩)
  · exact Or.inr h
theorem dp_ints' {K : PySem.W.Frag} {H : Hp} : ∀ js : List Int, DpAll K H (js.map V.int) (js.map PyData.int)
  | [] => .nil
  | t :: ts => .cons (.int _) (dp_ints' ts)
theorem lay_ints' (js : List Int) : PyData.canLayAll0 (js.map PyData.int) = true ∧ PyData.depthAll (js.map PyData.int) = 0 := by
  induction js with
  | nil => exact ⟨rfl, rfl⟩
  | cons t ts ih =>
    refine ⟨ih.1, ?_⟩
    show max 0 _ = 0
    rw [ih.2]
    rfl
theorem shaped_ints (js : List Int) : SeqAt.shaped (.list (js.map PyData.int)) = true := by
  unfold SeqAt.shaped
  obtain ⟨a, b⟩ := lay_ints' js
  rw [show (PyData.list (js.map PyData.int)).canLay0 = true from a]
  have : (PyData.list (js.map PyData.int)).depth ≤ 64 := by
    show PyData.depthAll _ + 1 ≤ 64
    omega
  rw [decide_eq_true this]
  rfl
def spDraw : Sp := fun vs H Q _ => ∃ (D C : Addr) (T b : Nat), vs = [.ref D, .int (b : Nat)] ∧ DeckAt D C T H ∧ T ≤ 1000000 ∧ 0 < b ∧ b ≤ 1000 ∧
  ∀ H' (r : Nat), r < b → DeckAt D C (T + 1) H' → Off D C H H' → Q (.int (r : Nat)) H'
theorem fmod_nat (i : Int) {b : Nat} (h : 0 < b) : ∃ r : Nat, i.fmod (b : Int) = (r : Nat) ∧ r < b := by
  have h1 : 0 ≤ i.fmod (b : Int) := Int.fmod_nonneg_of_pos i (by omega)
  have h2 : i.fmod (b : Int) < b := Int.fmod_lt_of_pos i (by omega)
  exact ⟨(i.fmod b).toNat, by omega, by omega⟩
theorem bound_mod (i : Int) : -(2 ^ 64) < i.fmod 2147483647 ∧ i.fmod 2147483647 < 2 ^ 64 := by
  obtain ⟨r, e, l⟩ := fmod_nat i (b := 2147483647) (by decide)
  have e' : i.fmod 2147483647 = (r : Nat) := e
  rw [e']
  omega
theorem mod_fin {b : Nat} (h : 0 < b) (i : Int) {H : Hp} {Q : VK} (k : ∀ r : Nat, r < b → Q (.int (r : Nat)) H) : Q (.int (i.fmod (b : Nat))) H := by
  obtain ⟨r, e, l⟩ := fmod_nat i h
  rw [e]
  exact k r l
section
variable {P : Program} {w : World} {K : PySem.W.Frag} {mg : Str → Option Value} {base : Heap}
theorem ok_draw {f : Addr} {fd : FuncData} (F : Fun K "_law_draw" "_law_draw" s__law_draw f fd) (B : Blt mg) :
    FnOk P w K mg base CX0 1 f fd ["_law_deck_here", "_law_below"] spDraw := by
  refine F.ok sc__law_draw (fun vs H Q E h => ?_) (fun cdv A outer s H vs Q E hr h => ?_)
  · obtain ⟨_, _, _, _, rfl, _⟩ := h
    rfl
  · obtain ⟨D, C, T, b, rfl, hdk, hT, hb0, hb1, q⟩ := h
    have hu : (A.deeper (envOfC "_law_draw" (defScope s__law_draw) s.heap.objs.size f cdv)).units + 64 < cLine := by
      have := hr.units
      omega
    have hu1 : (A.deeper (envOfC "_law_draw" (defScope s__law_draw) s.heap.objs.size f cdv)).units + 1 < cLine := by omega
    refine ⟨_, (pss_cons (ps_dput hu1 (pv 0) pe_str (pe_op op_add (pe_dget hu1 (pv 0) pe_str (fun _ _ => rfl)) pe_int) rfl)
      (pss_cons (ps_set (i := 2) sc__law_draw.nd rfl (Or.inl rfl) (pe_op op_add (pe_dget hu1 (pv 0) pe_str (fun _ _ => rfl)) (pe_op op_mul (pe_op op_mul pe_int (pe_dget hu1 (pv 0) pe_str (fun _ _ => rfl))) (pe_dget hu1 (pv 0) pe_str (fun _ _ => rfl)))))
      (pss_cons (ps_if (pt_cmpR (op_neD hu) (pe_dget hu1 (pv 0) pe_str (fun _ _ => rfl)) (pe_ls pa_nil) (nomark _)) (pss_cons (ps_set (i := 3) sc__law_draw.nd rfl (Or.inl rfl) (pe_bm0 PySem.F.plainAttrs_list PySem.F.slot_list_pop PySem.F.type_list_pop mt_pop (pe_dget hu1 (pv 0) pe_str (fun _ _ => rfl))))
        (pss_cons (ps_if (pt_cmpR op_ge (pv 3) (pe_op op_pow pe_int pe_int) (nomark _)) (pss_cons (ps_expr (pe_bm PySem.F.plainAttrs_list PySem.F.slot_list_append PySem.F.type_list_append mt_append (pe_dget hu1 (pv 0) pe_str (fun _ _ => rfl)) (pa_cons (pe_op op_fdivN (pv 3) (pv 1)) pa_nil)))
          (pss_one (ps_ret (pe_op op_modN (pe_callTy call_int1 (by rfl) B.int (by decide +kernel) (pa_cons (pv 3) pa_nil)) (pv 1))))) pss_nil)
        (pss_one (ps_set (i := 2) sc__law_draw.nd rfl (Or.inl rfl) (pe_op op_add (pv 2) (pe_op op_modN (pe_callTy call_int1 (by rfl) B.int (by decide +kernel) (pa_cons (pv 3) pa_nil)) pe_int)))))) pss_nil)
      (pss_cons (ps_set (i := 2) sc__law_draw.nd rfl (Or.inl rfl) (pe_op op_modN (pe_callTy call_int1 (by rfl) B.int (by decide +kernel) (pa_cons (pe_op op_add (pe_op op_mul (pe_op op_modN (pv 2) pe_int) pe_int) (pe_dget hu1 (pv 0) pe_str (fun _ _ => rfl))) pa_nil)) pe_int))
      (pss_cons (ps_set (i := 2) sc__law_draw.nd rfl (Or.inl rfl) (pe_op op_modN (pe_callTy call_int1 (by rfl) B.int (by decide +kernel) (pa_cons (pe_op op_add (pe_op op_add (pe_op op_mul (pv 2) (pv 2)) (pe_op op_mul pe_int (pe_dget hu1 (pv 0) pe_str (fun _ _ => rfl)))) pe_int) pa_nil)) pe_int))
      (pss_one (ps_ret (pe_op op_modN (pe_op op_fdivN (pe_op op_modN (pe_callTy call_int1 (by rfl) B.int (by decide +kernel) (pa_cons (pe_op op_mul (pv 2) pe_int) pa_nil)) pe_int) pe_int) (pv 1))))))))), ?_⟩
    obtain ⟨m, t, js, hD, hC, hjs, ht⟩ := hdk.ex
    have ne := hdk.ne
    have e : ((t : Nat) : Int) + 1 = ((t + 1 : Nat) : Int) := by omega
    have eH : upd H D (.dK (deckKv C m (t + 1))) = upd H D (.dK (putK (deckKv C m t) (.inr "turn") (.int (((t : Nat) : Int) + 1)))) := by
      rw [e]
      rfl
    have o1 : Off D C H (upd H D (.dK (deckKv C m (t + 1)))) := fun x o h1 h2 h => (upd_ne h1).trans h
    have hD1 : upd H D (.dK (deckKv C m (t + 1))) D = some (.dK (deckKv C m (t + 1))) := upd_same
    have hC1 : upd H D (.dK (deckKv C m (t + 1))) C = some (.lst (js.map V.int)) := (upd_ne ne).trans hC
    refine ⟨_, rfl, D, .int (t : Nat), rfl, (DGet.k (k := .inr "turn") hD : DGet H D (.str "turn") (some (.int (t : Nat)))), _, _, rfl, rfl, _, rfl, D, upd H D (.dK (deckKv C m (t + 1))), rfl, Or.inl ⟨deckKv C m t, .inr "turn", hD, rfl, sz_lt (by show 3 ≤ _; decide), eH⟩, ?_⟩
    generalize upd H D (.dK (deckKv C m (t + 1))) = H1 at o1 hD1 hC1 ⊢
    have gT : ∀ {H2 : Hp}, H2 D = some (.dK (deckKv C m (t + 1))) → DGet H2 D (.str "turn") (some (.int (t + 1 : Nat))) := fun h => DGet.k (k := .inr "turn") h
    have gM : ∀ {H2 : Hp}, H2 D = some (.dK (deckKv C m (t + 1))) → DGet H2 D (.str "mixed") (some (.int m)) := fun h => DGet.k (k := .inr "mixed") h
    have gC : ∀ {H2 : Hp}, H2 D = some (.dK (deckKv C m (t + 1))) → DGet H2 D (.str "cells") (some (.ref C)) := fun h => DGet.k (k := .inr "cells") h
    have cT : -(2 ^ 64) < (((t + 1 : Nat)) : Int) ∧ (((t + 1 : Nat)) : Int) < 2 ^ 64 := by omega
    refine ⟨_, rfl, D, _, rfl, gM hD1, _, rfl, D, _, rfl, gT hD1, _, _, rfl, rfl, Or.inl (by decide), _, rfl, D, _, rfl, gT hD1, _, _, rfl, rfl, Or.inr cT, _, _, rfl, rfl, ?_⟩
    refine ⟨_, rfl, D, _, rfl, gC hD1, sz_le (n := 0) (by decide), fun p hp _ => ?_⟩
    have sp1 : Same H1 (upd H1 p (.lst [])) := same_new hp
    refine ⟨.list (js.map PyData.int), .list [], .lst (SqL.of (sp1 _ _ hC1)) (dp_ints' js), .lst (SqL.of upd_same) .nil, shaped_ints js, by decide +kernel, _, rfl, ?_⟩
    have hD2 := sp1 _ _ hD1
    have hC2 := sp1 _ _ hC1
    have o2 : Off D C H (upd H1 p (.lst [])) := o1.trans (Off.same sp1)
    generalize upd H1 p (.lst []) = H2 at hD2 hC2 o2 ⊢
    have fin : ∀ (H3 : Hp) (js' : List Int), H3 D = some (.dK (deckKv C m (t + 1))) → H3 C = some (.lst (js'.map V.int)) → js'.length ≤ 100 → Off D C H H3 → ∀ r : Nat, r < b → Q (.int (r : Nat)) H3 :=
      fun H3 js' h1 h2 h3 h4 r hr => q H3 r hr ⟨m, t + 1, js', h1, h2, h3, by omega⟩ h4
    rcases List.eq_nil_or_concat js with rfl | ⟨js', j, rfl⟩
    · refine ifF rfl ?_
      have hDx := hD2
      have kq := fin H2 [] hD2 hC2 (by decide) o2
      refine ⟨_, rfl, _, _, rfl, rfl, (show (2147483549 : Int) ≠ 0 by decide), _, _, rfl, rfl, Or.inr (by decide), _, rfl, D, _, rfl, gT hDx, _, _, rfl, rfl, Or.inl ⟨_, rfl, _, _, rfl, rfl, (show (2147483647 : Int) ≠ 0 by decide), ?_⟩⟩
      refine ⟨_, rfl, _, rfl, _, _, rfl, rfl, Or.inl ?_, _, rfl, D, _, rfl, gT hDx, _, _, rfl, rfl, Or.inl (by decide), _, _, rfl, rfl, _, _, rfl, rfl, Or.inl ⟨_, rfl, _, _, rfl, rfl, (show (2147483579 : Int) ≠ 0 by decide), ?_⟩⟩
      · exact bound_mod _
      · refine ⟨_, rfl, _, _, rfl, rfl, Or.inr (by decide), Or.inl ⟨_, rfl, _, _, rfl, rfl, (show (2147483629 : Int) ≠ 0 by decide), _, _, rfl, rfl, ⟨by decide, by decide⟩, _, rfl, _, _, rfl, rfl, (show ((b : Nat) : Int) ≠ 0 by omega), ?_⟩⟩
        exact mod_fin hb0 _ kq
    · rw [List.concat_eq_append] at *
      refine ifT (by cases js' <;> rfl) ?_
      have hlast : ((js' ++ [j]).map V.int)[((js' ++ [j]).map V.int).length - 1]? = some (.int j) := by simp
      have hdrop : ((js' ++ [j]).map V.int).dropLast = js'.map V.int := by simp
      refine ⟨_, rfl, D, _, rfl, gC hD2, Or.inl ⟨rfl, _, Or.inl (Or.inl hC2)⟩, C, _, _, rfl, rfl, hC2, hlast, ?_⟩
      rw [hdrop]
      have hD3 : upd H2 C (.lst (js'.map V.int)) D = some (.dK (deckKv C m (t + 1))) := (upd_ne (Ne.symm ne)).trans hD2
      have hC3 : upd H2 C (.lst (js'.map V.int)) C = some (.lst (js'.map V.int)) := upd_same
      have o3 : Off D C H (upd H2 C (.lst (js'.map V.int))) := o2.trans (fun x o h1 h2 h => (upd_ne h2).trans h)
      generalize upd H2 C (.lst (js'.map V.int)) = H3 at hD3 hC3 o3 ⊢
      have hl' : js'.length + 1 ≤ 100 := by simpa using hjs
      refine ⟨_, rfl, _, _, rfl, rfl, ⟨by decide, by decide, by decide⟩, _, _, rfl, rfl, _, rfl, ite2 (fun hc => ?_) (fun hc => ?_)⟩
      · have hj : (10 : Int) ^ 18 ≤ j := of_decide_eq_true hc
        refine ⟨_, rfl, D, _, rfl, gC hD3, Or.inl ⟨rfl, _, Or.inl (Or.inl hC3)⟩, _, rfl, _, rfl, _, _, rfl, rfl, ⟨by omega, by omega⟩, C, _, _, rfl, rfl, hC3, sz_lt (by rw [List.length_map]; omega), ?_⟩
        have hD4 : upd H3 C (.lst (js'.map V.int ++ [.int (j.fdiv (b : Nat))])) D = some (.dK (deckKv C m (t + 1))) := (upd_ne (Ne.symm ne)).trans hD3
        have hC4 : upd H3 C (.lst (js'.map V.int ++ [.int (j.fdiv (b : Nat))])) C = some (.lst ((js' ++ [j.fdiv (b : Nat)]).map V.int)) := upd_same.trans (by rw [List.map_append]; rfl)
        have o4 : Off D C H (upd H3 C (.lst (js'.map V.int ++ [.int (j.fdiv (b : Nat))]))) := o3.trans (fun x o h1 h2 h => (upd_ne h2).trans h)
        have kq := fin _ _ hD4 hC4 (by rw [List.length_append]; exact hl') o4
        refine ⟨_, rfl, Or.inl ⟨_, rfl, _, rfl, _, _, rfl, rfl, (show ((b : Nat) : Int) ≠ 0 by omega), ?_⟩⟩
        exact mod_fin hb0 _ kq
      · refine ⟨_, rfl, _, rfl, Or.inl ⟨_, rfl, _, _, rfl, rfl, (show (2147483563 : Int) ≠ 0 by decide), _, _, rfl, rfl, ?_⟩⟩
        have hDx := hD3
        have kq := fin H3 js' hD3 hC3 (by omega) o3
        refine ⟨_, rfl, _, _, rfl, rfl, (show (2147483549 : Int) ≠ 0 by decide), _, _, rfl, rfl, Or.inr (by decide), _, rfl, D, _, rfl, gT hDx, _, _, rfl, rfl, Or.inl ⟨_, rfl, _, _, rfl, rfl, (show (2147483647 : Int) ≠ 0 by decide), ?_⟩⟩
        refine ⟨_, rfl, _, rfl, _, _, rfl, rfl, Or.inl ?_, _, rfl, D, _, rfl, gT hDx, _, _, rfl, rfl, Or.inl (by decide), _, _, rfl, rfl, _, _, rfl, rfl, Or.inl ⟨_, rfl, _, _, rfl, rfl, (show (2147483579 : Int) ≠ 0 by decide), ?_⟩⟩
        · exact bound_mod _
        · refine ⟨_, rfl, _, _, rfl, rfl, Or.inr (by decide), Or.inl ⟨_, rfl, _, _, rfl, rfl, (show (2147483629 : Int) ≠ 0 by decide), _, _, rfl, rfl, ⟨by decide, by decide⟩, _, rfl, _, _, rfl, rfl, (show ((b : Nat) : Int) ≠ 0 by omega), ?_⟩⟩
          exact mod_fin hb0 _ kq
end
end Lw

namespace Lw
open PySem PySem.Spec PyProof.Rows L2 Mq
open SX (S)
def spDeck (K : PySem.W.Frag) : Sp := fun vs H Q _ => ∃ (a : Addr) (ns : List Int), vs = [.ref a] ∧ SqL K H a (ns.map V.int) ∧ ns.length ≤ 63 ∧
  ∀ H' D C, Same H H' → DeckAt D C 0 H' → Q (.ref D) H'
def spPick : Sp := fun vs H Q _ => ∃ (D C : Addr) (T : Nat) (x : V), vs = [.ref D, x] ∧ DeckAt D C T H ∧ T ≤ 1000000 ∧
  ((∃ l : List Nat, x = .str (S l) ∧ 0 < l.length ∧ l.length ≤ 1000 ∧ ∀ H' c, c ∈ l → DeckAt D C (T + 1) H' → Off D C H H' → Q (.str (S [c])) H') ∨
   ∃ (p : Addr) (xs : List V), x = .ref p ∧ H p = some (.lst xs) ∧ p ≠ C ∧ 0 < xs.length ∧ xs.length ≤ 1000 ∧ ∀ H' v, v ∈ xs → DeckAt D C (T + 1) H' → Off D C H H' → Q v H')
section
variable {P : Program} {w : World} {K : PySem.W.Frag} {mg : Str → Option Value} {base : Heap}
theorem ok_deck {f : Addr} {fd : FuncData} (F : Fun K "_law_deck" "_law_deck" s__law_deck f fd) (B : Blt mg) :
    FnOk P w K mg base CX0 1 f fd ["_law_script"] (spDeck K) := by
  refine F.ok sc__law_deck (fun vs H Q E h => ?_) (fun cdv A outer s H vs Q E hr h => ?_)
  · obtain ⟨_, _, rfl, _⟩ := h
    rfl
  · obtain ⟨a, ns, rfl, ha, hn, q⟩ := h
    refine ⟨_, (pss_cons (ps_par (i := 1) (j := 2) rfl sc__law_deck.nd rfl rfl (by decide) rfl rfl (pa_cons (pe_callTy call_list_of (by rfl) B.list (by decide +kernel) (pa_cons (pe_slice sl_list (pv 0) po_none (po_some pe_int)) pa_nil)) (pa_cons pe_int pa_nil)) (by rfl))
      (pss_cons (ps_for PassesOwn.never rfl (pi_list (pv 1)) (pg_name (i := 3) sc__law_deck.nd rfl (Or.inl rfl))
        (pss_one (ps_set (i := 2) sc__law_deck.nd rfl (Or.inl rfl) (pe_op op_modN (pe_callTy call_int1 (by rfl) B.int (by decide +kernel) (pa_cons (pe_op op_add (pe_op op_add (pe_op op_mul (pv 2) pe_int) (pe_op op_modN (pe_callTy call_int1 (by rfl) B.int (by decide +kernel) (pa_cons (pv 3) pa_nil)) pe_int)) pe_int) pa_nil)) pe_int))))
      (pss_one (ps_ret (pe_disp (pps_cons pe_str (pe_revL (pv 1)) (pps_cons pe_str (pv 2) (pps_cons pe_str pe_int pps_nil))) (by rfl) (by rfl) (fun z => by cases z) (by decide)))))), ?_⟩
    obtain ⟨ms, hms, hml⟩ : ∃ ms : List Int, cutV (ns.map V.int) none (some 63) = ms.map V.int ∧ ms.length ≤ 63 := by
      refine ⟨(ns.drop (HT.sIx (ns.map V.int).length 0 none)).take (HT.sIx (ns.map V.int).length (ns.map V.int).length (some 63) - HT.sIx (ns.map V.int).length 0 none), ?_, ?_⟩
      · unfold cutV
        rw [← List.map_drop, ← List.map_take]
      · rw [List.length_take, List.length_drop]
        omega
    refine ⟨_, rfl, 63, rfl, a, _, rfl, ha, fun p1 hp1 => ⟨p1, _, rfl, Or.inl (SqL.of upd_same), fun c hc => ?_⟩⟩
    rw [hms] at hc ⊢
    have s1 : Same H (upd H p1 (.lst (ms.map V.int))) := same_new hp1
    generalize upd H p1 (.lst (ms.map V.int)) = H1 at s1 hc ⊢
    have s2 : Same H (upd H1 c (.lst (ms.map V.int))) := s1.trans (same_new hc)
    have hC : upd H1 c (.lst (ms.map V.int)) c = some (.lst (ms.map V.int)) := upd_same
    generalize upd H1 c (.lst (ms.map V.int)) = H2 at s2 hC ⊢
    refine ⟨_, _, rfl, ?_⟩
    refine ⟨_, rfl, c, rfl, ⟨_, SqL.of hC⟩, ?_⟩
    refine for_list (xs := ms.map V.int) (fun i σ H' => H' = H2 ∧ ∃ (m : Int) (o : Option V), σ = [some (.ref a), some (.ref c), some (.int m), o]) ⟨rfl, _, _, rfl⟩ (fun i σ H' _ p => by rw [p.1]; exact SqL.of hC) ?_ ?_
    · rintro i x σ H' hx ⟨rfl, m, o, rfl⟩
      obtain ⟨j, rfl⟩ : ∃ j, x = .int j := by
        rw [List.getElem?_map] at hx
        cases h : ms[i]? with
        | none => rw [h] at hx; cases hx
        | some j => rw [h] at hx; cases hx; exact ⟨j, rfl⟩
      refine ⟨_, rfl, _, _, rfl, rfl, Or.inr (by decide), _, rfl, Or.inl ⟨_, rfl, _, _, rfl, rfl, (show (2147483587 : Int) ≠ 0 by decide), _, _, rfl, rfl, _, _, rfl, rfl, Or.inl ⟨_, rfl, _, _, rfl, rfl, (show (2147483629 : Int) ≠ 0 by decide), rfl, _, _, rfl⟩⟩⟩
    · rintro σ H' ⟨rfl, m, o, rfl⟩
      refine fun p hp => ?_
      have s3 : Same H' (upd H' p (.dK [])) := same_new hp
      refine ⟨_, rfl, c, _, rfl, SqL.of (s3 _ _ hC), fun p2 hp2 => ⟨_, rfl, ?_⟩⟩
      have s4 : Same H' (upd (upd H' p (.dK [])) p2 (.lst (ms.map V.int).reverse)) := s3.trans (same_new hp2)
      have hp4 : upd (upd H' p (.dK [])) p2 (.lst (ms.map V.int).reverse) p = some (.dK []) := (same_new hp2) _ _ upd_same
      refine ⟨hp4, deckKv p2 m 0, rfl, by show 3 ≤ 15; decide, ?_⟩
      have ne : p2 ≠ p := by
        rintro rfl
        rw [upd_same] at hp2
        cases hp2
      refine q _ p p2 ?_ ⟨m, 0, ms.reverse, upd_same.trans ?_, ?_, by rw [List.length_reverse]; omega, Nat.le_refl _⟩
      · intro b o e
        have e2 := s2 b o e
        rw [upd_ne (ne_of_none e2 hp)]
        exact s4 b o e2
      · rfl
      · rw [upd_ne ne, upd_same, List.map_reverse]
end
end Lw

namespace Lw
open PySem PySem.Spec PyProof.Rows L2 Mq
open SX (S)
section
variable {P : Program} {w : World} {K : PySem.W.Frag} {mg : Str → Option Value} {base : Heap}
theorem ok_pick {f fD : Addr} {fd fdD : FuncData} (F : Fun K "_law_pick" "_law_pick" s__law_pick f fd) (B : Blt mg)
    (FD : Fun K "_law_draw" "_law_draw" s__law_draw fD fdD) (gD : mg "_law_draw" = some (.ref fD)) (bD : Binds K fdD ["_law_deck_here", "_law_below"] []) :
    FnOk P w K mg base CX0 2 f fd ["_law_deck_here", "_law_some"] spPick := by
  have GD : FnOk P w K mg base CX0 1 fD fdD ["_law_deck_here", "_law_below"] spDraw := ok_draw FD B
  refine F.ok sc__law_pick (fun vs H Q E h => ?_) (fun cdv A outer s H vs Q E hr h => ?_)
  · obtain ⟨_, _, _, _, rfl, _⟩ := h
    rfl
  · obtain ⟨D, C, T, x, rfl, hdk, hT, h⟩ := h
    refine ⟨_, (pss_one (ps_ret (pe_ix ix_seq (pv 1) (pe_call GD (hr.mono (by decide)) (by rfl) gD FD.kp bD .nil pass0 (pa_cons (pv 0) (pa_cons (pe_callB call_len (by rfl) B.len (by decide +kernel) (pa_cons (pv 1) pa_nil)) pa_nil))) (fun _ _ => rfl)))), ?_⟩
    rcases h with ⟨l, rfl, h0, h1, q⟩ | ⟨p, xs, rfl, hp, hpC, h0, h1, q⟩
    · refine ⟨_, rfl, _, rfl, _, rfl, _, _, rfl, len_S (by omega), D, C, T, l.length, rfl, hdk, hT, h0, h1, fun H' r hr dk off => ?_⟩
      refine Or.inr (Or.inr ⟨S l, _, l.getD r 0, rfl, rfl, sz_le (by rw [SX.S_len]; omega), at_get hr, ?_⟩)
      refine q H' _ ?_ dk off
      rw [List.getD_eq_getElem?_getD, List.getElem?_eq_getElem hr]
      exact List.getElem_mem hr
    · refine ⟨_, rfl, _, rfl, _, rfl, _, _, rfl, Or.inl ⟨xs, SqL.of hp, rfl⟩, D, C, T, xs.length, rfl, hdk, hT, h0, h1, fun H' r hr dk off => ?_⟩
      have hpD : p ≠ D := by
        rintro rfl
        obtain ⟨_, _, _, e, _⟩ := hdk.ex
        rw [hp] at e
        cases e
      have hp' := off p _ hpD hpC hp
      refine Or.inl ⟨p, xs, _, xs[r], rfl, rfl, SqL.of hp', atI_nat (List.getElem?_eq_getElem hr), q H' _ (List.getElem_mem hr) dk off⟩
end
end Lw

namespace Lw
open PySem PySem.Spec PyProof.Rows L2 Mq
open SX (S)
theorem PT_imp {X : Cx} {e : Expr} {t t' : TT} (h : PT X e t) (i : ∀ σ H Q, t' σ H Q → t σ H Q) : PT X e t' := ⟨fun pins s σ H Q I q => h.run pins s σ H Q I (i σ H Q q)⟩
/-- tuples stay -/
def KpT (K : PySem.W.Frag) (H H' : Hp) : Prop := ∀ a xs, SqT K H a xs → SqT K H' a xs
theorem KpT.trans {K : PySem.W.Frag} {H H' H'' : Hp} (a : KpT K H H') (b : KpT K H' H'') : KpT K H H'' := fun x y h => b x y (a x y h)
theorem KpT.off {K : PySem.W.Frag} {D C : Addr} {T : Nat} {H H' : Hp} (f : Off D C H H') (k : DeckAt D C T H) : KpT K H H' := fun _ _ h => f.tup k h
theorem KpT.same {K : PySem.W.Frag} {H H' : Hp} (e : Same H H') : KpT K H H' := fun _ _ h => Same.tup e h
theorem KpT.lst {K : PySem.W.Frag} {H : Hp} {L : Addr} {xs ys : List V} (h : H L = some (.lst xs)) : KpT K H (upd H L (.lst ys)) := by
  intro a zs hz
  have ne : ∀ {o : HO}, H a = some o → (∀ xs, o ≠ .lst xs) → upd H L (.lst ys) a = some o := by
    intro o e n
    by_cases q : a = L
    · subst q
      rw [h] at e
      cases e
      exact (n _ rfl).elim
    · exact (upd_ne q).trans e
  rcases hz with (hz | ⟨o, hz⟩) | hz
  · exact Or.inl (Or.inl (ne hz fun _ z => nomatch z))
  · exact Or.inl (Or.inr ⟨o, ne hz fun _ z => nomatch z⟩)
  · exact Or.inr hz
end Lw

namespace Mq
open PySem PySem.Spec PyProof.Rows L2
/-! ### the keys of a dict, drawn one by one, whatever they are -/
section
variable {prog : Program} {w : World} {d : Addr} {o : Obj} {es : Array DictEntry} {ep : Nat}
theorem walks_keys {A : Around} (hh : A.handled = none) (I : Addr) (hne : d ≠ I) (hdat : o.data = .dict es ep) :
    Walks prog w A I [I, d] [I] es.size (fun i v => ∃ en, es[i]? = some en ∧ v = en.key) (fun i h => h.IsKeyIter I d i es.size ep ∧ h.get? d = some o) where
  sub := fun b hb => by rw [List.mem_singleton.mp hb]; exact List.mem_cons_self
  frame := fun i h h' st k => ⟨st.1.at fun x e => k I (by simp) x e, k d (by simp) o st.2⟩
  item := fun i s Q E hi st hQ => by
    refine next_key_item st.1 st.2 hdat rfl (en := es[i]) (by simp [hi]) fun h' st' sb => ?_
    refine hQ _ h' s.toks ⟨es[i], by simp [hi], rfl⟩ ⟨st', (sb.2 d hne).trans st.2⟩ fun b x hb e => ?_
    exact (sb.2 b fun z => hb (by rw [z]; exact List.mem_singleton.mpr rfl)).trans e
  done := fun s Q E st hQ => by
    refine next_key_end hh st.1 st.2 hdat rfl (Nat.le_refl _) fun h' eb => hQ h' s.toks fun b x hb e => ?_
    exact eb b x (fun z => hb (by rw [z]; exact List.mem_singleton.mpr rfl)) e
  self := fun i s Q E st h => by
    have t := st.1.typeIs
    refine wpAny_pyIter_slot t F.slot_dict_keyiterator_iter (wpAny_call_entry F.slot_dict_keyiterator_iter t F.entry_dict_keyiterator_iter ?_ (F.args_dict_keyiterator_iter_1 _))
    refine wpAny_pure ⟨.ref I, rfl, "dict_keyiterator", _, t, F.slot_dict_keyiterator_next.lookup, h⟩
theorem src_keys (hd : (d == sysModules) = false) (hx : o.ExactDict) (hdat : o.data = .dict es ep) :
    PySem.W.KdlSrc prog w "dict" d d es.size (fun i v => ∃ en, es[i]? = some en ∧ v = en.key) (fun h => h.get? d = some o) where
  type := fun _ ho => ⟨o, ho, hx.1⟩
  there := fun _ ho => ⟨Heap.lt_size ho, Heap.lt_size ho⟩
  keep := fun _ _ ho k => k d (.inl rfl) o ho
  notList := by decide
  notTuple := by decide
  hint := fun _ _ _ _ ho hq => PySem.W.kdl_hint_dict ⟨o, ho, hx.1⟩ hq
  iter := fun A s hh ho => ⟨_, _, (fun _ _ hq => iter_keys hd ho hx hdat hq), walks_keys hh s.heap.objs.size (Nat.ne_of_lt (Heap.lt_size ho)) hdat,
    ⟨⟨_, Heap.get?_push_size _ rfl, rfl, rfl⟩, Heap.get?_push_of_some _ ho⟩⟩
end
/-! ### sorted(d), d's keys being pairs of texts -/
def txt2 (x : Str × Str) : List (Int ⊕ List Nat) := [.inr x.1.cps.toList, .inr x.2.cps.toList]
/-- ahead as pairs -/
def ltSS (x y : Str × Str) : Bool := (PyProof.Rows.listOrd PyProof.Rows.itemOrd).blt (txt2 x) (txt2 y)
def prOf (H : Hp) (b : Addr) : Str × Str := match H b with
  | some (.tup [.str x, .str y]) => (x, y)
  | _ => ("", "")
def rSortedT : List V → Hp → VK → Prop := fun xs H Q => ∃ (a : Addr) (kvs : List (List Key × V)) (ks : List (Str × Str)), xs = [.ref a] ∧ Rd H a (.dT kvs) ∧ kvs.map (·.1) = ks.map (fun x => [Sum.inr x.1, Sum.inr x.2]) ∧
  ∀ (as qs : List Addr) (p : Addr), as.map (prOf H) = ks → (∀ b ∈ as, H b = some (.tup [.str (prOf H b).1, .str (prOf H b).2])) → qs.Perm as →
    (∀ i j, i ≤ j → j < qs.length → ltSS (prOf H (qs.getD j 0)) (prOf H (qs.getD i 0)) = false) → H p = none → Q (.ref p) (upd H p (.lst (qs.map V.ref)))
theorem key_pair {H : Hp} {b : Addr} {x : Str × Str} (h : H b = some (.tup (([Sum.inr x.1, Sum.inr x.2] : List Key).map kV))) : prOf H b = x ∧ H b = some (.tup [.str (prOf H b).1, .str (prOf H b).2]) := by
  have h' : H b = some (.tup [.str x.1, .str x.2]) := h
  have e : prOf H b = x := by
    unfold prOf
    rw [h']
  rw [e]
  exact ⟨rfl, h'⟩
/-- the keys' own tuples -/
theorem keys_rel {H : Hp} : ∀ {kvs : List (List Key × V)} {xs : List (List Key × Addr × Value)} {ks : List (Str × Str)}, KT H kvs xs → kvs.map (·.1) = ks.map (fun x => [Sum.inr x.1, Sum.inr x.2]) →
    (xs.map fun q => q.2.1).map (prOf H) = ks ∧ ∀ b ∈ xs.map (fun q => q.2.1), H b = some (.tup [.str (prOf H b).1, .str (prOf H b).2])
  | [], [], [], .nil, _ => ⟨rfl, fun b h => by cases h⟩
  | p :: kvs, q :: xs, k :: ks, .cons h t, e => by
    obtain ⟨h1, h2, _⟩ := h
    injection e with e1 e2
    obtain ⟨a, b⟩ := keys_rel t e2
    have e1' : p.1 = [Sum.inr k.1, Sum.inr k.2] := e1
    rw [e1'] at h2
    obtain ⟨c, d⟩ := key_pair h2
    refine ⟨?_, fun x hx => ?_⟩
    · show prOf H q.2.1 :: _ = _
      rw [c, a]
    · rcases List.mem_cons.mp hx with e | hx
      · rw [e]
        exact d
      · exact b x hx
  | [], [], _ :: _, .nil, e => by cases e
  | _ :: _, _ :: _, [], .cons _ _, e => by cases e
def unR : Value → Addr
  | .ref b => b
  | _ => 0
theorem perm_back {l : List Value} {as : List Addr} (h : l.Perm (as.map Value.ref)) : ∃ qs : List Addr, l = qs.map Value.ref ∧ qs.Perm as := by
  refine ⟨l.map unR, ?_, ?_⟩
  · rw [List.map_map]
    have e : ∀ v ∈ l, (Value.ref ∘ unR) v = v := fun v hv => by
      obtain ⟨b, _, rfl⟩ := List.mem_map.mp (h.mem_iff.mp hv)
      rfl
    have e2 : l.map (Value.ref ∘ unR) = l.map id := List.map_congr_left fun v hv => e v hv
    rw [e2, List.map_id]
  · have h2 := h.map unR
    rw [List.map_map] at h2
    have e : as.map (unR ∘ Value.ref) = as := by
      have e3 : as.map (unR ∘ Value.ref) = as.map id := List.map_congr_left fun v _ => rfl
      rw [e3, List.map_id]
    rw [e] at h2
    exact h2
section
variable {X : Cx}
theorem call_sortedT (hcalm : X.calm = true) : CallR X (.builtin "sorted") rSortedT := by
  intro pins s σ H xs us Q I r q
  obtain ⟨a, kvs, ks, rfl, hd, hks, q⟩ := q
  obtain ⟨u, rfl, rx⟩ := vals1 r
  cases rx
  obtain ⟨z, lo, vs, rel, o, es, ep, ho, hx, hdat, hes, nd⟩ := (show ObjOk X.prog X.w H s.heap a (.dT kvs) from rd_of I.hok hd)
  obtain ⟨k1, k2⟩ := keys_rel rel hks
  have hlen : es.size = vs.length := by
    rw [← Array.length_toList, hes, List.length_map]
  have hz : kvs.length = vs.length := Paired.length rel
  refine Calls.call_function_entry PyProof.Rows.kind_sorted PyProof.Rows.plain_sorted PyProof.Rows.entry_sorted (PyProof.Rows.args_sorted1 _) ?_
  unfold Builtin.«sorted»
  refine wpAny_bind (m := checkCount "sorted" 1 1 _) (wpAny_pure ?_)
  refine wpAny_bind (PySem.W.kdu_collect (A := X.A.in1) (src_keys lo hx hdat) (I.ok.hd hcalm) ho (by omega) fun h' tk acc hk hacc => ?_)
  have hacc' : acc.toList = (vs.map fun q => q.2.1).map Value.ref := by
    refine List.ext_getElem? fun j => ?_
    rw [List.map_map, List.getElem?_map]
    have e1 : acc.toList[j]? = acc[j]? := Array.getElem?_toList
    rw [e1]
    cases h1 : acc[j]? with
    | none =>
      have h2 : acc.size ≤ j := Array.getElem?_eq_none_iff.mp h1
      rw [hacc.1, hlen] at h2
      rw [List.getElem?_eq_none h2]
      rfl
    | some v =>
      obtain ⟨en, h2, rfl⟩ := hacc.2 j v h1
      have h3 : es.toList[j]? = some en := by rw [Array.getElem?_toList]; exact h2
      rw [hes, List.getElem?_map] at h3
      cases h4 : vs[j]? with
      | none => rw [h4] at h3; cases h3
      | some y =>
        rw [h4] at h3
        cases h3
        rfl
  have I1 : Inv X pins σ H { s with heap := h', toks := tk } := I.kept hk
  generalize vs.map (fun q => q.2.1) = as at k1 k2 hacc'
  have hal : acc.toList.length ≤ sizeLine := by
    rw [Array.length_toList, hacc.1]
    omega
  refine wpAny_bind (wpAny_newList ?_ hal)
  rw [hacc']
  rw [hacc'] at hal
  have hoL : (h'.push (seqObj "list" (as.map Value.ref).toArray 0)).get? h'.objs.size = some (seqObj "list" (as.map Value.ref).toArray 0) := Heap.get?_push_size _ rfl
  show wpAny _ _ _ _ _ { s with heap := h'.push (seqObj "list" (as.map Value.ref).toArray 0), toks := tk }
  have obj : ∀ b ∈ as, ∃ (ob : Obj) (n : Nat) (t1 t2 : Tok), (h'.push (seqObj "list" (as.map Value.ref).toArray 0)).get? b = some ob ∧ ob.cls = .type "tuple" ∧ ob.data = .seq #[.str (prOf H b).1 t1, .str (prOf H b).2 t2] n := by
    intro b hb
    obtain ⟨_, its, r2, ob, h1, h2, n, h3⟩ := (show ObjOk X.prog X.w H h' b (.tup [.str (prOf H b).1, .str (prOf H b).2]) from I1.hok b _ (k2 b hb))
    obtain ⟨u1, u2, rfl, ⟨t1, rfl⟩, ⟨t2, rfl⟩⟩ := vals2 r2
    exact ⟨ob, n, t1, t2, Heap.get?_push_of_some _ h1, h2, h3⟩
  have tups : ∀ l : List Addr, (∀ b ∈ l, b ∈ as) → ∃ fs, PyProof.Rows.TupsOf (h'.push (seqObj "list" (as.map Value.ref).toArray 0)) (fun _ => true) (l.map Value.ref) fs := by
    intro l
    induction l with
    | nil => intro _; exact ⟨[], .nil⟩
    | cons b l ih =>
      intro hl
      obtain ⟨fs, hf⟩ := ih fun x hx => hl x (List.mem_cons_of_mem _ hx)
      obtain ⟨ob, n, t1, t2, h1, h2, h3⟩ := obj b (hl b List.mem_cons_self)
      exact ⟨_, .cons ⟨b, ob, _, n, rfl, h1, h2, h3, rfl, fun z => (by cases z), fun _ => ⟨_, _, rfl⟩⟩ hf⟩
  obtain ⟨fs, hfs⟩ := tups as fun _ h => h
  have keyC : ∀ b ∈ as, PyProof.Rows.G.tupKeyC (h'.push (seqObj "list" (as.map Value.ref).toArray 0)) (fun _ => true) (.ref b) = some (txt2 (prOf H b)) := by
    intro b hb
    obtain ⟨ob, n, t1, t2, h1, h2, h3⟩ := obj b hb
    have hT : PyProof.Rows.G.isTupObj (h'.push (seqObj "list" (as.map Value.ref).toArray 0)) (.ref b) = true := by
      simp [PyProof.Rows.G.isTupObj, h1, h2]
    unfold PyProof.Rows.G.tupKeyC
    rw [if_pos hT]
    simp only [PyProof.Rows.tupKey, h1, h3]
    rfl
  refine wpAny_bind (wpAny_holding (wpAny_call_entry PyProof.Rows.slot_list_sort ⟨_, hoL, rfl⟩ PyProof.Rows.entry_list_sort
    (PyProof.Rows.G.list_sort_tups (s := { s with heap := h'.push (seqObj "list" (as.map Value.ref).toArray 0), toks := tk }) hoL hfs
      (fun v hv => ?_) hal fun st' hp hs _ => ⟨_, rfl, ?_⟩) (PyProof.Rows.args_list_sort _)))
  · obtain ⟨b, hb, rfl⟩ := List.mem_map.mp hv
    exact ⟨_, keyC b hb⟩
  obtain ⟨e', he'⟩ := PyProof.Rows.sortedHeap_at (vs := as.map Value.ref) (out := (arrOf st').map (·.2)) hoL
  have mem : ∀ p ∈ (arrOf st').toList, p.1 = p.2 ∧ p.1 ∈ as.map Value.ref := fun p hp' => by
    have h1 := (hp.toList.mem_iff (a := p)).mp hp'
    rw [PyProof.Rows.pairsOf_toList] at h1
    exact PyProof.Rows.mem_zip_self h1
  obtain ⟨qs, hq1, hq2⟩ : ∃ qs : List Addr, (arrOf st').toList.map (·.2) = qs.map Value.ref ∧ qs.Perm as := by
    have h1 : ((arrOf st').toList.map (·.2)).Perm (as.map Value.ref) := by
      have h2 := hp.toList.map (fun p : Keyed => p.2)
      rw [PyProof.Rows.pairsOf_toList] at h2
      rw [List.map_snd_zip (Nat.le_refl _)] at h2
      exact h2
    exact perm_back h1
  have hql : qs.length = as.length := hq2.length_eq
  have harr : (arrOf st').toList.length = qs.length := by
    have h1 := congrArg List.length hq1
    rw [List.length_map, List.length_map] at h1
    exact h1
  have hkk : ∀ i, i < qs.length → PyProof.Rows.KK (PyProof.Rows.G.tupKindC (h'.push (seqObj "list" (as.map Value.ref).toArray 0)) fun _ => true) (arrOf st') i = txt2 (prOf H (qs.getD i 0)) := by
    intro i hi
    have hi' : i < (arrOf st').toList.length := by omega
    have e1 : (arrOf st')[i]? = some (arrOf st').toList[i] := by
      rw [← Array.getElem?_toList, List.getElem?_eq_getElem hi']
    obtain ⟨m1, m2⟩ := mem _ (List.getElem_mem hi')
    have e2 : (arrOf st').toList[i].2 = .ref (qs.getD i 0) := by
      have h1 := congrArg (fun l => l[i]?) hq1
      simp only [List.getElem?_map, List.getElem?_eq_getElem hi', List.getElem?_eq_getElem hi, Option.map_some, Option.some.injEq] at h1
      rw [h1, List.getD_eq_getElem?_getD, List.getElem?_eq_getElem hi]
      rfl
    have hin : qs.getD i 0 ∈ as := hq2.mem_iff.mp (by rw [List.getD_eq_getElem?_getD, List.getElem?_eq_getElem hi]; exact List.getElem_mem hi)
    unfold PyProof.Rows.KK
    rw [e1]
    show (PyProof.Rows.G.tupKeyC _ _ (arrOf st').toList[i].1).getD _ = _
    rw [m1, e2, keyC _ hin]
    rfl
  have srt : ∀ i j, i ≤ j → j < qs.length → ltSS (prOf H (qs.getD j 0)) (prOf H (qs.getD i 0)) = false := by
    intro i j hij hj
    have h1 := hs i j hij (by rw [PyProof.Rows.pairsOf_size, List.length_map]; omega)
    rw [hkk i (by omega), hkk j hj] at h1
    exact h1
  have vals : ∀ l : List Addr, Vals (l.map V.ref) (l.map Value.ref) := fun l => by
    induction l with
    | nil => exact .nil
    | cons b l ih => exact .cons rfl ih
  have hout : ((arrOf st').map (·.2)).toList = qs.map Value.ref := by
    rw [Array.toList_map]
    exact hq1
  have hz2 : (qs.map V.ref).length ≤ sizeLine := by
    rw [List.length_map, hql]
    rw [List.length_map] at hal
    exact hal
  have fresh := I1.hok.fresh (Nat.le_refl h'.objs.size)
  refine wpAny_pure ⟨.ref h'.objs.size, rfl, .ref h'.objs.size, upd H h'.objs.size (.lst (qs.map V.ref)), ?_, rfl, q as qs _ k1 k2 hq2 srt fresh⟩
  refine I1.laid (t' := tk) (fun b u e => ?_) (Nat.le_refl _) ⟨hz2, qs.map Value.ref, e', vals qs, ?_⟩
  · have hb : b < h'.objs.size := Heap.lt_size e
    rw [PyProof.Rows.sortedHeap_old (Nat.ne_of_lt hb) (by rw [size_push']; exact Nat.lt_succ_of_lt hb)]
    exact Heap.get?_push_of_some _ e
  · rw [← hout, Array.toArray_toList]
    exact he'
end
end Mq

namespace Mq
open PySem PySem.Spec PyProof.Rows L2
/-! ### pairs of texts by <= -/
def leSS (x y : Str × Str) : Bool := if x.1 = y.1 then (if x.2 = y.2 then true else !decide (y.2.cps.toList < x.2.cps.toList)) else !decide (y.1.cps.toList < x.1.cps.toList)
theorem op_leSS {X : Cx} (hu : X.A.units < cLine) : OpR X (compareOp .LtE) (fun x y H Q => ∃ (a b : Addr) (p q : Str × Str), x = .ref a ∧ y = .ref b ∧ SqT X.K H a [.str p.1, .str p.2] ∧ SqT X.K H b [.str q.1, .str q.2] ∧ Q (.bl (leSS p q)) H) := by
  intro pins s σ H x y v u Q I rx ry h
  obtain ⟨a, b, p, q, rfl, rfl, ha, hb, k⟩ := h
  cases rx
  cases ry
  obtain ⟨its, r1, p1, _⟩ := I.tuple ha
  obtain ⟨its2, r2, p2, _⟩ := I.tuple hb
  obtain ⟨u1, u2, rfl, ⟨t1, rfl⟩, ⟨t2, rfl⟩⟩ := vals2 r1
  obtain ⟨v1, v2, rfl, ⟨t3, rfl⟩, ⟨t4, rfl⟩⟩ := vals2 r2
  let e : Nat → Bool := fun j => if j = 0 then p.1 == q.1 else p.2 == q.2
  let r : Nat → Bool := fun j => if j = 0 then !decide (q.1.cps.toList < p.1.cps.toList) else !decide (q.2.cps.toList < p.2.cps.toList)
  have R := Ob.RcOp.tuples_le (A := X.A) (s := s) (e := e) (r := r) p1 p2 hu (fun j h1 h2 => by
    match j, h1, h2 with
    | 0, _, _ => exact SeqAt.EqAt.str_str _ _ _ _
    | 1, _, _ => exact SeqAt.EqAt.str_str _ _ _ _) (fun j h1 h2 _ => by
    match j, h1, h2 with
    | 0, _, _ => exact fun prog w E Q h => PySem.P.le_str h
    | 1, _, _ => exact fun prog w E Q h => PySem.P.le_str h)
  have z : Ob.lexAt e r (decide ((#[Value.str p.1 t1, Value.str p.2 t2] : Array Value).size ≤ (#[Value.str q.1 t3, Value.str q.2 t4] : Array Value).size)) 0 2 = leSS p q := by
    show (if (p.1 == q.1) = true then (if (p.2 == q.2) = true then true else !decide (q.2.cps.toList < p.2.cps.toList)) else !decide (q.1.cps.toList < p.1.cps.toList)) = _
    unfold leSS
    simp only [beq_iff_eq]
  have R2 : Ob.RcOp .LtE X.A s (.ref a) (.ref b) (leSS p q) := by
    rw [← z]
    exact R
  exact R2 X.prog X.w X.xe (EP X pins σ Q) ⟨.bl _, H, I, rfl, k⟩
/-- ahead, so not behind or equal -/
theorem le_of_lt {x y : Str × Str} (h : ltSS y x = true) : leSS x y = false := by
  have h1 : (decide (y.1.cps.toList < x.1.cps.toList) || (!decide (x.1.cps.toList < y.1.cps.toList) && (decide (y.2.cps.toList < x.2.cps.toList) || (!decide (x.2.cps.toList < y.2.cps.toList) && false)))) = true := h
  unfold leSS
  by_cases c1 : y.1.cps.toList < x.1.cps.toList
  · rw [if_neg (fun z => by rw [z] at c1; exact List.lt_irrefl _ c1), decide_eq_true c1]
    rfl
  · rw [decide_eq_false c1] at h1
    simp only [Bool.false_or, Bool.and_false, Bool.or_false, Bool.and_eq_true, Bool.not_eq_true', decide_eq_false_iff_not, decide_eq_true_eq] at h1
    obtain ⟨c2, c3⟩ := h1
    have e : x.1.cps.toList = y.1.cps.toList := List.le_antisymm (List.not_lt.mp c1) (List.not_lt.mp c2)
    have e' : x.1 = y.1 := congrArg Str.mk (Array.ext' e)
    rw [if_pos e', if_neg (fun z => by rw [z] at c3; exact List.lt_irrefl _ c3), decide_eq_true c3]
    rfl
theorem lt_of {x y : Str × Str} (h : ltSS x y = false) (n : x ≠ y) : ltSS y x = true := by
  cases e : ltSS y x with
  | true => rfl
  | false =>
    have h2 : txt2 x = txt2 y := (PyProof.Rows.listOrd PyProof.Rows.itemOrd).total _ _ h e
    injection h2 with h3 h4
    injection h4 with h5 _
    have e1 : x.1.cps.toList = y.1.cps.toList := by injection h3
    have e2 : x.2.cps.toList = y.2.cps.toList := by injection h5
    exact (n (Prod.ext (congrArg Str.mk (Array.ext' e1)) (congrArg Str.mk (Array.ext' e2)))).elim
end Mq

namespace Lw
open PySem PySem.Spec PyProof.Rows L2 Mq
open SX (S)
/-! ### books -/
structure Fd where
  x : Nat
  y : Nat
  z : List Nat
def fdV (f : Fd) : List V := [.str (S [f.x]), .str (S [f.y]), .str (S f.z)]
def FdAt (K : PySem.W.Frag) (H : Hp) (v : V) (f : Fd) : Prop := ∃ b, v = .ref b ∧ SqT K H b (fdV f)
def fdOk (sg : List Nat) (f : Fd) : Prop := f.x ∈ sg ∧ f.y ∈ sg ∧ (f.z = [] ∨ ∃ c ∈ sg, f.z = [c])
structure SgOk (sg : List Nat) : Prop where
  pos : 0 < sg.length
  few : sg.length ≤ 10
  low : ∀ c ∈ sg, c < 128
  ok : lettersB sg = true
def spLetter : Sp := fun vs H Q _ => ∃ sg z : List Nat, vs = [.str (S sg), .str (S z)] ∧ z.length ≤ 1000 ∧ ((∃ c, z = [c] ∧ c ∈ sg ∧ Q (.bl true) H) ∨ (z = [] ∧ Q (.bl false) H))
def spFold (K : PySem.W.Frag) : Sp := fun vs H Q _ => ∃ (sg : List Nat) (v : V) (f : Fd), vs = [.str (S sg), v] ∧ FdAt K H v f ∧ fdOk sg f ∧ Q (.bl true) H
section
variable {P : Program} {w : World} {K : PySem.W.Frag} {mg : Str → Option Value} {base : Heap}
theorem ok_is_letter {f : Addr} {fd : FuncData} (F : Fun K "is_letter" "is_letter" s_is_letter f fd) (B : Blt mg) : FnOk P w K mg base CX0 1 f fd ["letters", "thing"] spLetter := by
  refine F.ok sc_is_letter (fun vs H Q E h => ?_) (fun cdv A outer s H vs Q E hr h => ?_)
  · obtain ⟨_, _, rfl, _⟩ := h
    rfl
  · obtain ⟨sg, z, rfl, hz, h⟩ := h
    refine ⟨_, pss_one (ps_ret (pe_and (pe_callB call_isi (by rfl) B.isi (by decide +kernel) (pa_cons (pv 1) (pa_cons (pe_bltn (v := .ty "str") (by rfl) B.str (by decide +kernel) rfl) pa_nil))) (pe_and (pe_cmpR op_eq (pe_callB call_len (by rfl) B.len (by decide +kernel) (pa_cons (pv 1) pa_nil)) pe_int (nomark _)) (pe_one (pe_cmpR op_in_sign (pv 1) (pv 0) rfl))))), ?_⟩
    refine ⟨_, rfl, _, .ty "str", _, _, true, rfl, .ty _, .base (.str _), kit_self, true, rfl, iteT ⟨_, rfl, _, _, rfl, len_S (by omega), rfl, _, rfl, ?_⟩⟩
    rcases h with ⟨c, rfl, hc, q⟩ | ⟨rfl, q⟩
    · refine ifT rfl ⟨_, rfl, _, rfl, c, S sg, rfl, rfl, ?_⟩
      rw [show decide (c ∈ (S sg).cps.toList) = true from decide_eq_true hc]
      exact q
    · exact ifF rfl q
theorem ok_is_fold {f fL : Addr} {fd fdL : FuncData} (F : Fun K "is_fold" "is_fold" s_is_fold f fd) (B : Blt mg)
    (FL : Fun K "is_letter" "is_letter" s_is_letter fL fdL) (gL : mg "is_letter" = some (.ref fL)) (bL : Binds K fdL ["letters", "thing"] []) : FnOk P w K mg base CX0 2 f fd ["letters", "thing"] (spFold K) := by
  have GL : FnOk P w K mg base CX0 1 fL fdL ["letters", "thing"] spLetter := ok_is_letter FL B
  refine F.ok sc_is_fold (fun vs H Q E h => ?_) (fun cdv A outer s H vs Q E hr h => ?_)
  · obtain ⟨_, _, _, rfl, _⟩ := h
    rfl
  · obtain ⟨sg, v, fo, rfl, ⟨b, rfl, hb⟩, ⟨h1, h2, h3⟩, q⟩ := h
    refine ⟨_, (pss_cons (ps_if (PW.pt (pw_or (pt_not (pt_val (pe_callB call_isi (by rfl) B.isi (by decide +kernel) (pa_cons (pv 1) (pa_cons (pe_bltn (v := .ty "tuple") (by rfl) B.tuple (by decide +kernel) rfl) pa_nil))))) (pw_or1 (pt_cmpR op_ne (pe_callB call_len (by rfl) B.len (by decide +kernel) (pa_cons (pv 1) pa_nil)) pe_int (nomark _))))) (pss_one (ps_ret pe_bl)) pss_nil)
      (pss_cons (ps_if (PW.pt (pw_or (pt_not (pt_val (pe_call GL (hr.mono (by decide)) (by rfl) gL FL.kp bL .nil pass0 (pa_cons (pv 0) (pa_cons (pe_ix ix_tup (pv 1) pe_int (fun _ _ => rfl)) pa_nil))))) (pw_or1 (pt_not (pt_val (pe_call GL (hr.mono (by decide)) (by rfl) gL FL.kp bL .nil pass0 (pa_cons (pv 0) (pa_cons (pe_ix ix_tup (pv 1) pe_int (fun _ _ => rfl)) pa_nil)))))))) (pss_one (ps_ret pe_bl)) pss_nil)
      (pss_one (ps_ret (pe_or (pe_call GL (hr.mono (by decide)) (by rfl) gL FL.kp bL .nil pass0 (pa_cons (pv 0) (pa_cons (pe_ix ix_tup (pv 1) pe_int (fun _ _ => rfl)) pa_nil))) (pe_one (pe_and (pe_callB call_isi (by rfl) B.isi (by decide +kernel) (pa_cons (pe_ix ix_tup (pv 1) pe_int (fun _ _ => rfl)) (pa_cons (pe_bltn (v := .ty "str") (by rfl) B.str (by decide +kernel) rfl) pa_nil))) (pe_one (pe_cmpR op_eq (pe_ix ix_tup (pv 1) pe_int (fun _ _ => rfl)) pe_str (nomark _)))))))))), ?_⟩
    have a0 : atI (fdV fo) 0 = some (.str (S [fo.x])) := atI_nat (j := 0) rfl
    have a1 : atI (fdV fo) 1 = some (.str (S [fo.y])) := atI_nat (j := 1) rfl
    have a2 : atI (fdV fo) 2 = some (.str (S fo.z)) := atI_nat (j := 2) rfl
    refine ⟨_, rfl, _, .ty "tuple", _, _, true, rfl, .ty _, ty_tup hb, kit_ty (by decide +kernel), true, rfl, ?_⟩
    refine ifF rfl ⟨_, rfl, _, _, rfl, len_tup hb, rfl, _, rfl, ifF rfl ?_⟩
    refine ⟨_, rfl, _, rfl, b, _, 0, _, rfl, rfl, hb, a0, sg, [fo.x], rfl, (by show 1 ≤ 1000; decide), Or.inl ⟨fo.x, rfl, h1, _, rfl, ?_⟩⟩
    refine ifF rfl ⟨_, rfl, _, rfl, b, _, 1, _, rfl, rfl, hb, a1, sg, [fo.y], rfl, (by show 1 ≤ 1000; decide), Or.inl ⟨fo.y, rfl, h2, _, rfl, ifF rfl ?_⟩⟩
    refine ⟨_, rfl, _, rfl, b, _, 2, _, rfl, rfl, hb, a2, sg, fo.z, rfl, ?_, ?_⟩
    · rcases h3 with h3 | ⟨c, _, h3⟩
      · rw [h3]
        exact Nat.zero_le _
      · rw [h3]
        show 1 ≤ 1000
        decide
    · rcases h3 with h3 | ⟨c, hc, h3⟩
      · refine Or.inr ⟨h3, _, rfl, ifF rfl ?_⟩
        refine ⟨_, rfl, b, _, 2, _, rfl, rfl, hb, a2, _, .ty "str", _, _, true, rfl, .ty _, .base (.str _), kit_self, true, rfl, ifT rfl ⟨_, rfl, b, _, 2, _, rfl, rfl, hb, a2, rfl, ?_⟩⟩
        rw [str_is_nil, decide_eq_true h3]
        exact q
      · exact Or.inl ⟨c, h3, hc, _, rfl, ifT rfl q⟩
end
end Lw

namespace Lw
open PySem PySem.Spec PyProof.Rows L2 Mq
open SX (S)
inductive FdAll (K : PySem.W.Frag) (H : Hp) : List V → List Fd → Prop
  | nil : FdAll K H [] []
  | cons {v : V} {f : Fd} {vs : List V} {fs : List Fd} : FdAt K H v f → FdAll K H vs fs → FdAll K H (v :: vs) (f :: fs)
theorem FdAt.kp {K : PySem.W.Frag} {H H' : Hp} {v : V} {f : Fd} (h : FdAt K H v f) (e : KpT K H H') : FdAt K H' v f := let ⟨a, x, y⟩ := h; ⟨a, x, e _ _ y⟩
theorem FdAll.kp {K : PySem.W.Frag} {H H' : Hp} (e : KpT K H H') : ∀ {vs : List V} {fs : List Fd}, FdAll K H vs fs → FdAll K H' vs fs
  | _, _, .nil => .nil
  | _, _, .cons a b => .cons (a.kp e) (FdAll.kp e b)
theorem FdAll.len {K : PySem.W.Frag} {H : Hp} : ∀ {vs : List V} {fs : List Fd}, FdAll K H vs fs → vs.length = fs.length
  | _, _, .nil => rfl
  | _, _, .cons a b => congrArg (· + 1) b.len
theorem FdAll.at {K : PySem.W.Frag} {H : Hp} : ∀ {vs : List V} {fs : List Fd} {i : Nat} {v : V}, FdAll K H vs fs → vs[i]? = some v → ∃ f, fs[i]? = some f ∧ FdAt K H v f
  | _, _, 0, _, .cons a b, h => ⟨_, rfl, by cases h; exact a⟩
  | _, _, i + 1, _, .cons a b, h => FdAll.at (i := i) b h
def keyF (f : Fd) : Str × Str := (S [f.x], S [f.y])
def tabF (fs : List Fd) : List (List Key × V) := fs.map fun f => ([Sum.inr (S [f.x]), Sum.inr (S [f.y])], V.str (S f.z))
/-- folds, as they have to be -/
structure FsOk (sg : List Nat) (fs : List Fd) : Prop where
  few : fs.length ≤ 200
  ok : ∀ f ∈ fs, fdOk sg f
  asc : ∀ i j, i < j → j < fs.length → ∀ f g, fs[i]? = some f → fs[j]? = some g → ltSS (keyF f) (keyF g) = true
def bkF (sg : List Nat) (fa ta : Addr) : List (Str × V) := [("letters", .str (S sg)), ("folds", .ref fa), ("table", .ref ta)]
def BkAt (H : Hp) (C r : Addr) (sg : List Nat) (fs : List Fd) (fa ta : Addr) : Prop := (∃ dx, H r = some (.ins C dx (bkF sg fa ta))) ∧ H ta = some (.dT (tabF fs))
structure BkC (K : PySem.W.Frag) (C : Addr) : Prop where
  cls : Cls K C
  nL : NoAttr K C "letters"
  nF : NoAttr K C "folds"
  nT : NoAttr K C "table"
def spBook (K : PySem.W.Frag) (C : Addr) : Sp := fun vs H Q _ => ∃ (r dx fa : Addr) (sg : List Nat) (fs : List Fd) (xs : List V), vs = [.ref r, .str (S sg), .ref fa] ∧
  H r = some (.ins C dx []) ∧ SqT K H fa xs ∧ FdAll K H xs fs ∧ FsOk sg fs ∧ SgOk sg ∧
  ∀ H' ta, BkAt H' C r sg fs fa ta → (∀ b o, H b = some o → b ≠ r → H' b = some o) → Q .non H'
theorem tab_snoc (fs : List Fd) (f : Fd) : tabF (fs ++ [f]) = tabF fs ++ [([Sum.inr (S [f.x]), Sum.inr (S [f.y])], V.str (S f.z))] := by
  unfold tabF
  rw [List.map_append]
  rfl
theorem putK_new {κ : Type} [DecidableEq κ] {kvs : List (κ × V)} {k : κ} {v : V} (h : ∀ p ∈ kvs, p.1 ≠ k) : putK kvs k v = kvs ++ [(k, v)] := by
  unfold putK
  rw [if_neg]
  intro z
  obtain ⟨p, hp, e⟩ := List.any_eq_true.mp z
  exact h p hp (of_decide_eq_true e)
theorem walk_enumT {K : PySem.W.Frag} {a : Addr} {xs : List V} : Walk (Iee K a) xs.length (fun H => SqT K H a xs) (YPair (fun i => some (.int (i : Nat))) (fun i => xs[i]?)) := by
  refine ⟨fun i _ hi q => ⟨xs, xs[i], q, by simp [hi]⟩, fun _ q => ⟨xs, q, Nat.le_refl _⟩, fun i H v H' _ q y => ?_⟩
  obtain ⟨T, x, h1, h2, h3, h4⟩ := y
  exact ⟨T, .int (i : Nat), x, h1, h2, h3, rfl, h4 xs q⟩
def aheadF (fs : List Fd) : Nat → Str × Str
  | 0 => ("", "")
  | i + 1 => match fs[i]? with
    | some f => keyF f
    | none => ("", "")
theorem ahead_lt {sg : List Nat} {fs : List Fd} (h : FsOk sg fs) {i : Nat} {f : Fd} (hf : fs[i]? = some f) : ltSS (aheadF fs i) (keyF f) = true := by
  have hi : i < fs.length := by
    rcases Nat.lt_or_ge i fs.length with h | h
    · exact h
    · rw [List.getElem?_eq_none h] at hf
      cases hf
  cases i with
  | zero =>
    have e : ltSS ("", "") (keyF f) = (decide (([] : List Nat) < [f.x]) || (!decide ([f.x] < ([] : List Nat)) && (decide (([] : List Nat) < [f.y]) || (!decide ([f.y] < ([] : List Nat)) && false)))) := rfl
    show ltSS ("", "") (keyF f) = true
    rw [e, decide_eq_true (show ([] : List Nat) < [f.x] from List.nil_lt_cons _ _)]
    rfl
  | succ i =>
    have e : fs[i]? = some fs[i] := List.getElem?_eq_getElem (by omega)
    show ltSS (match fs[i]? with | some f => keyF f | none => ("", "")) _ = true
    rw [e]
    exact h.asc i (i + 1) (by omega) hi _ _ e hf
theorem key_ne {sg : List Nat} {fs : List Fd} (h : FsOk sg fs) {i : Nat} {f : Fd} (hf : fs[i]? = some f) : ∀ p ∈ tabF (fs.take i), p.1 ≠ [Sum.inr (S [f.x]), Sum.inr (S [f.y])] := by
  intro p hp e
  have hi : i < fs.length := by
    rcases Nat.lt_or_ge i fs.length with h | h
    · exact h
    · rw [List.getElem?_eq_none h] at hf
      cases hf
  obtain ⟨g, hg, rfl⟩ := List.mem_map.mp hp
  obtain ⟨j, hj⟩ := List.mem_iff_getElem?.mp hg
  have hji : j < i := by
    rcases Nat.lt_or_ge j i with h | h
    · exact h
    · rw [List.getElem?_eq_none (by rw [List.length_take]; omega)] at hj
      cases hj
  rw [List.getElem?_take, if_pos hji] at hj
  have l := h.asc j i hji hi g f hj hf
  have e1 : keyF g = keyF f := by
    injection e with e1 e2
    injection e2 with e2 _
    have e1' : S [g.x] = S [f.x] := Sum.inr.inj e1
    have e2' : S [g.y] = S [f.y] := Sum.inr.inj e2
    exact Prod.ext e1' e2'
  rw [e1] at l
  have := (PyProof.Rows.listOrd PyProof.Rows.itemOrd).irrefl (txt2 (keyF f))
  have l' : (PyProof.Rows.listOrd PyProof.Rows.itemOrd).blt (txt2 (keyF f)) (txt2 (keyF f)) = true := l
  rw [this] at l'
  cases l'
section
variable {P : Program} {w : World} {K : PySem.W.Frag} {mg : Str → Option Value} {base : Heap} {C : Addr}
theorem ok_book {f fL fF : Addr} {fd fdL fdF : FuncData} (F : Fun K "__init__" "Book.__init__" s_Book___init__ f fd) (B : Blt mg) (R : BkC K C)
    (FL : Fun K "is_letters" "is_letters" s_is_letters fL fdL) (gL : mg "is_letters" = some (.ref fL)) (bL : Binds K fdL ["thing"] []) (GL : FnOk P w K mg base CX0 2 fL fdL ["thing"] (spLetters K))
    (FF : Fun K "is_fold" "is_fold" s_is_fold fF fdF) (gF : mg "is_fold" = some (.ref fF)) (bF : Binds K fdF ["letters", "thing"] []) (GF : FnOk P w K mg base CX0 2 fF fdF ["letters", "thing"] (spFold K)) :
    FnOk P w K mg base CX0 3 f fd ["self", "letters", "folds"] (spBook K C) := by
  refine F.ok sc_Book___init__ (fun vs H Q E h => ?_) (fun cdv A outer s H vs Q E hr h => ?_)
  · obtain ⟨_, _, _, _, _, _, rfl, _⟩ := h
    rfl
  · obtain ⟨r, dx, fa, sg, fs, xs, rfl, hr0, hfa, hall, hfs, hs, q⟩ := h
    have hu : (A.deeper (envOfC "Book.__init__" (defScope s_Book___init__) s.heap.objs.size f cdv)).units + 64 < cLine := by
      have := hr.units
      omega
    have hu0 : (A.deeper (envOfC "Book.__init__" (defScope s_Book___init__) s.heap.objs.size f cdv)).units < cLine := by omega
    have hu1 : (A.deeper (envOfC "Book.__init__" (defScope s_Book___init__) s.heap.objs.size f cdv)).units + 1 < cLine := by omega
    refine ⟨_, (pss_cons (ps_if (pt_not (pt_val (pe_call GL (hr.mono (by decide)) (by rfl) gL FL.kp bL .nil pass0 (pa_cons (pv 1) pa_nil)))) (pss_one ps_dead) pss_nil)
      (pss_cons (ps_if (pt_not (pt_val (pe_callB call_isi (by rfl) B.isi (by decide +kernel) (pa_cons (pv 2) (pa_cons (pe_bltn (v := .ty "tuple") (by rfl) B.tuple (by decide +kernel) rfl) pa_nil))))) (pss_one ps_dead) pss_nil)
      (pss_cons (ps_set (i := 3) sc_Book___init__.nd rfl (Or.inl rfl) pe_dnewT)
      (pss_cons (ps_set (i := 4) sc_Book___init__.nd rfl (Or.inl rfl) (pe_tup (pa_cons pe_str (pa_cons pe_str pa_nil))))
      (pss_cons (ps_for PassesOwn.never rfl (pi_enumT (by rfl) B.enumerate (pa_cons (pv 2) pa_nil)) (pg_tup rfl (pgs_cons (pg_name (i := 5) sc_Book___init__.nd rfl (Or.inl rfl)) (pgs_cons (pg_name (i := 6) sc_Book___init__.nd rfl (Or.inl rfl)) pgs_nil)))
        (pss_cons (ps_if (PW.pt (pw_or (pt_not (pt_val (pe_call GF (hr.mono (by decide)) (by rfl) gF FF.kp bF .nil pass0 (pa_cons (pv 1) (pa_cons (pv 6) pa_nil))))) (pw_or1 (pt_cmpR (op_leSS hu0) (pe_slice sl_tup (pv 6) po_none (po_some pe_int)) (pv 4) (nomark _))))) (pss_one ps_dead) pss_nil)
        (pss_cons (ps_set (i := 4) sc_Book___init__.nd rfl (Or.inl rfl) (pe_slice sl_tup (pv 6) po_none (po_some pe_int)))
        (pss_one (ps_dput hu1 (pv 3) (pv 4) (pe_ix ix_tup (pv 6) pe_int (fun _ _ => rfl)) rfl)))))
      (pss_cons (ps_fld (pv 0) (pv 1) rfl)
      (pss_cons (ps_fld (pv 0) (pv 2) rfl)
      (pss_one (ps_fld (pv 0) (pv 3) rfl))))))))), ?_⟩
    have hl : xs.length = fs.length := hall.len
    refine ⟨_, rfl, _, rfl, Or.inl ⟨sg, rfl, by have := hs.few; omega, fun H1 s1 => ⟨_, rfl, ifF (by rw [hs.ok]; rfl) ?_⟩⟩⟩
    refine ⟨_, rfl, _, .ty "tuple", _, _, true, rfl, .ty _, ty_tup (Same.tup s1 hfa), kit_ty (by decide +kernel), true, rfl, iteF ?_⟩
    refine fun ta hta => ?_
    have s2 : Same H (upd H1 ta (.dT [])) := s1.trans (same_new hta)
    have ht2 : upd H1 ta (.dT []) ta = some (.dT (tabF [])) := upd_same
    have hnta : H ta = none := s1.free hta
    generalize upd H1 ta (.dT []) = H2 at s2 ht2 ⊢
    refine ⟨sz_le (n := 2) (by decide), fun p0 hp0 => ?_⟩
    have s3 : Same H (upd H2 p0 (.tup [V.str "", V.str ""])) := s2.trans (same_new hp0)
    have ht3 := (same_new (o := HO.tup [V.str "", V.str ""]) hp0) _ _ ht2
    have hp3 : upd H2 p0 (.tup [V.str "", V.str ""]) p0 = some (.tup [V.str "", V.str ""]) := upd_same
    generalize upd H2 p0 (.tup [V.str "", V.str ""]) = H3 at s3 ht3 hp3 ⊢
    refine ⟨_, rfl, fa, xs, rfl, Same.tup s3 hfa, ?_⟩
    refine for_it (walk_enumT (K := K) (a := fa) (xs := xs)) (fun i σ H' => Same H H' ∧ H' ta = some (.dT (tabF (fs.take i))) ∧ ∃ pa o5 o6, H' pa = some (.tup [.str (aheadF fs i).1, .str (aheadF fs i).2]) ∧ σ = [some (.ref r), some (.str (S sg)), some (.ref fa), some (.ref ta), some (.ref pa), o5, o6])
      ⟨s3, ht3, p0, _, _, hp3, rfl⟩ (fun i σ H' hi p => Same.tup p.1 hfa) ?_ ?_
    · rintro i x σ H4 H5 hi ⟨s4, ht4, pa, o5, o6, hpa, rfl⟩ ⟨T, y1, y2, rfl, hT, rfl, hy1, hy2⟩
      cases hy1
      obtain ⟨f, hf, hat⟩ := hall.at hy2
      have s5 := same_new (o := HO.tup [V.int (i : Nat), y2]) hT
      have t5 := s4.trans s5
      have ht5 := s5 _ _ ht4
      have hpa5 := s5 _ _ hpa
      refine ⟨T, _, rfl, Or.inl (Or.inl upd_same), rfl, _, _, rfl, _, _, rfl, rfl, ?_⟩
      generalize upd H4 T (.tup [V.int (i : Nat), y2]) = H5 at t5 ht5 hpa5 ⊢
      have hat5 := hat.kp (KpT.same t5)
      refine ⟨_, rfl, _, rfl, sg, y2, f, rfl, hat5, hfs.ok f (List.mem_of_getElem? hf), _, rfl, ifF rfl ?_⟩
      obtain ⟨b, rfl, hb⟩ := hat5
      have ecut : cutV (fdV f) none (some 2) = [V.str (S [f.x]), V.str (S [f.y])] := rfl
      refine ⟨_, rfl, 2, rfl, b, _, rfl, hb, (fun z => absurd z.2 (by show ¬ 2 = 3; decide)), fun p1 hp1 => ?_⟩
      rw [ecut]
      have s6 := same_new (o := HO.tup [V.str (S [f.x]), V.str (S [f.y])]) hp1
      refine ⟨_, rfl, p1, pa, keyF f, aheadF fs i, rfl, rfl, Or.inl (Or.inl upd_same), Or.inl (Or.inl (s6 _ _ hpa5)), _, rfl, ?_⟩
      rw [le_of_lt (ahead_lt hfs hf)]
      refine ifF rfl ?_
      have t6 := t5.trans s6
      have ht6 := s6 _ _ ht5
      have hb6 := Same.tup s6 hb
      generalize upd H5 p1 (.tup [V.str (S [f.x]), V.str (S [f.y])]) = H6 at t6 ht6 hb6 ⊢
      refine ⟨_, rfl, 2, rfl, b, _, rfl, hb6, (fun z => absurd z.2 (by show ¬ 2 = 3; decide)), fun p2 hp2 => ?_⟩
      rw [ecut]
      have s7 := same_new (o := HO.tup [V.str (S [f.x]), V.str (S [f.y])]) hp2
      have t7 := t6.trans s7
      have ht7 := s7 _ _ ht6
      have hb7 := Same.tup s7 hb6
      have hp7 : upd H6 p2 (.tup [V.str (S [f.x]), V.str (S [f.y])]) p2 = some (.tup [V.str (S [f.x]), V.str (S [f.y])]) := upd_same
      generalize upd H6 p2 (.tup [V.str (S [f.x]), V.str (S [f.y])]) = H7 at t7 ht7 hb7 hp7 ⊢
      have hlen : (tabF (fs.take i)).length < sizeLine := by
        unfold tabF
        rw [List.length_map, List.length_take]
        have := hfs.few
        exact sz_lt (by omega)
      have hput : putK (tabF (fs.take i)) [Sum.inr (S [f.x]), Sum.inr (S [f.y])] (V.str (S f.z)) = tabF (fs.take (i + 1)) := by
        rw [putK_new (key_ne hfs hf), List.take_add_one, hf]
        exact (tab_snoc _ f).symm
      refine ⟨_, rfl, b, _, 2, .str (S f.z), rfl, rfl, hb7, atI_nat (j := 2) rfl, _, rfl, _, rfl, ta, upd H7 ta (.dT (tabF (fs.take (i + 1)))), rfl, Or.inr ⟨tabF (fs.take i), [Sum.inr (S [f.x]), Sum.inr (S [f.y])], p2, ht7, rfl, hp7, hlen, by rw [hput]⟩, ?_⟩
      have hne : p2 ≠ ta := by
        rintro rfl
        rw [hp7] at ht7
        cases ht7
      refine ⟨fun b2 o2 e2 => ?_, upd_same, p2, _, _, (upd_ne hne).trans ?_, rfl⟩
      · rw [upd_ne (ne_of_none e2 hnta)]
        exact t7 b2 o2 e2
      · have e3 : aheadF fs (i + 1) = keyF f := by
          show (match fs[i]? with | some f => keyF f | none => ("", "")) = _
          rw [hf]
        rw [e3]
        exact hp7
    · rintro σ H4 ⟨s4, ht4, pa, o5, o6, hpa, rfl⟩
      rw [hl, List.take_length] at ht4
      have h4 := s4 _ _ hr0
      refine ⟨_, rfl, _, rfl, r, C, dx, [], rfl, h4, R.cls, R.nL, (by show 0 < 1000; decide), ?_⟩
      refine ⟨_, rfl, _, rfl, r, C, dx, _, rfl, upd_same, R.cls, R.nF, (by show 1 < 1000; decide), ?_⟩
      refine ⟨_, rfl, _, rfl, r, C, dx, _, rfl, upd_same, R.cls, R.nT, (by show 2 < 1000; decide), ?_⟩
      have hrt : ta ≠ r := by
        rintro rfl
        rw [hr0] at hnta
        cases hnta
      refine q _ ta ⟨⟨dx, upd_same.trans ?_⟩, (upd_ne hrt).trans ((upd_ne hrt).trans ((upd_ne hrt).trans ht4))⟩ (fun b o e hb => ?_)
      · exact congrArg (fun z => some (HO.ins C dx z)) rfl
      · rw [upd_ne hb, upd_ne hb, upd_ne hb]
        exact s4 b o e
end
end Lw

namespace Lw
open PySem PySem.Spec PyProof.Rows L2 Mq
open SX (S)
def WebGood (sg : List Nat) (v : V) (l : List Nat) : Prop := v = .str (S l) ∧ wordOk sg l
def WebBad (K : PySem.W.Frag) (H : Hp) (sg : List Nat) (v : V) : Prop := (∃ l, v = .str (S l) ∧ l.length ≤ 1000 ∧ allB l sg = false) ∨ NoStr K H v
/-! ### letters laid -/
def leftM (fs : List Fd) (x y : Nat) : Option (List Nat) := (fs.find? fun f => decide (f.x = x) && decide (f.y = y)).map (·.z)
def laidM (fs : List Fd) (w : List Nat) (y : Nat) : List Nat :=
  match w.getLast? with
  | .none => w ++ [y]
  | .some x => match leftM fs x y with
    | .none => w ++ [y]
    | .some z => w.dropLast ++ z
def optZ : Option (List Nat) → V
  | .none => .non
  | .some z => .str (S z)
theorem S_one {c d : Nat} : S [c] = S [d] ↔ c = d := ⟨fun h => by have := SX.S_inj h; simpa using this, fun h => by rw [h]⟩
theorem tab_val (fs : List Fd) (x y : Nat) : (valV (tabF fs) [Sum.inr (S [x]), Sum.inr (S [y])]).getD .non = optZ (leftM fs x y) := by
  unfold valV leftM tabF
  induction fs with
  | nil => rfl
  | cons f fs ih =>
    have e : decide (([Sum.inr (S [f.x]), Sum.inr (S [f.y])] : List Key) = [Sum.inr (S [x]), Sum.inr (S [y])]) = (decide (f.x = x) && decide (f.y = y)) := by
      rw [← Bool.decide_and]
      refine decide_eq_decide.mpr ⟨fun h => ?_, fun h => by rw [h.1, h.2]⟩
      injection h with h1 h2
      injection h2 with h2 _
      exact ⟨S_one.mp (Sum.inr.inj h1), S_one.mp (Sum.inr.inj h2)⟩
    rw [List.map_cons, List.find?_cons, List.find?_cons]
    show (Option.map _ (match decide (([Sum.inr (S [f.x]), Sum.inr (S [f.y])] : List Key) = [Sum.inr (S [x]), Sum.inr (S [y])]) with | true => _ | false => _)).getD V.non = _
    rw [e]
    cases decide (f.x = x) && decide (f.y = y) with
    | true => rfl
    | false => exact ih
def spLeft (C : Addr) : Sp := fun vs H Q _ => ∃ (r fa ta : Addr) (sg : List Nat) (fs : List Fd) (x y : Nat), vs = [.ref r, .str (S [x]), .str (S [y])] ∧ BkAt H C r sg fs fa ta ∧ ∀ H', Same H H' → Q (optZ (leftM fs x y)) H'
section
variable {P : Program} {w : World} {K : PySem.W.Frag} {mg : Str → Option Value} {base : Heap} {C CW : Addr}
theorem BkAt.same {H H' : Hp} {r fa ta : Addr} {sg : List Nat} {fs : List Fd} (h : BkAt H C r sg fs fa ta) (e : Same H H') : BkAt H' C r sg fs fa ta := let ⟨⟨d, x⟩, y⟩ := h; ⟨⟨d, e _ _ x⟩, e _ _ y⟩
theorem ok_left {f : Addr} {fd : FuncData} (F : Fun K "left_of" "Book.left_of" s_Book_left_of f fd) (R : BkC K C) : FnOk P w K mg base CX0 1 f fd ["self", "last", "laid"] (spLeft C) := by
  refine F.ok sc_Book_left_of (fun vs H Q E h => ?_) (fun cdv A outer s H vs Q E hr h => ?_)
  · obtain ⟨_, _, _, _, _, _, _, rfl, _⟩ := h
    rfl
  · obtain ⟨r, fa, ta, sg, fs, x, y, rfl, ⟨⟨dx, h1⟩, h2⟩, q⟩ := h
    have hu1 : (A.deeper (envOfC "Book.left_of" (defScope s_Book_left_of) s.heap.objs.size f cdv)).units + 1 < cLine := by
      have := hr.units
      omega
    refine ⟨_, pss_one (ps_ret (pe_dget1 hu1 (pe_fld (pv 0) rfl) (pe_tup (pa_cons (pv 1) (pa_cons (pv 2) pa_nil))) ⟨rfl, rfl, rfl, rfl⟩)), ?_⟩
    refine ⟨_, rfl, r, C, dx, _, _, rfl, h1, R.cls, R.nT, rfl, ta, rfl, ?_, _, rfl, _, rfl, sz_le (n := 2) (by decide), fun p hp => ?_⟩
    · exact Or.inr ⟨_, .inl h2⟩
    have s1 := same_new (o := HO.tup [V.str (S [x]), V.str (S [y])]) hp
    refine ⟨_, DGet.t (k := [Sum.inr (S [x]), Sum.inr (S [y])]) (s1 _ _ h2) upd_same, ?_⟩
    rw [tab_val]
    exact q _ s1
theorem cx0_at {X : Cx} {σ : L2.St} {E : XK} : PassesAt CX0 X σ E := fun _ _ _ _ _ _ z => z.elim
theorem left_len {sg : List Nat} {fs : List Fd} (h : FsOk sg fs) {x y : Nat} {z : List Nat} (e : leftM fs x y = .some z) : z.length ≤ 1 := by
  unfold leftM at e
  cases hf : fs.find? fun f => decide (f.x = x) && decide (f.y = y) with
  | none => rw [hf] at e; cases e
  | some f =>
    rw [hf] at e
    cases e
    rcases (h.ok f (List.mem_of_find?_eq_some hf)).2.2 with h1 | ⟨c, _, h1⟩
    · show f.z.length ≤ 1
      rw [h1]
      decide
    · show f.z.length ≤ 1
      rw [h1]
      exact Nat.le_refl 1
end
end Lw

namespace Mq
open PySem PySem.Spec PyProof.Rows L2
/-! ### (number, text) < (number, text) -/
def ltIS (x y : Int × Str) : Bool := if x.1 = y.1 then (if x.2 = y.2 then false else decide (x.2.cps.toList < y.2.cps.toList)) else decide (x.1 < y.1)
theorem op_ltIS {X : Cx} (hu : X.A.units < cLine) : OpR X (compareOp .Lt) (fun x y H Q => ∃ (a b : Addr) (p q : Int × Str), x = .ref a ∧ y = .ref b ∧ SqT X.K H a [.int p.1, .str p.2] ∧ SqT X.K H b [.int q.1, .str q.2] ∧ Q (.bl (ltIS p q)) H) := by
  intro pins s σ H x y v u Q I rx ry h
  obtain ⟨a, b, p, q, rfl, rfl, ha, hb, k⟩ := h
  cases rx
  cases ry
  obtain ⟨its, r1, p1, _⟩ := I.tuple ha
  obtain ⟨its2, r2, p2, _⟩ := I.tuple hb
  obtain ⟨u1, u2, rfl, ⟨t1, rfl⟩, ⟨t2, rfl⟩⟩ := vals2 r1
  obtain ⟨v1, v2, rfl, ⟨t3, rfl⟩, ⟨t4, rfl⟩⟩ := vals2 r2
  let e : Nat → Bool := fun j => if j = 0 then p.1 == q.1 else p.2 == q.2
  let r : Nat → Bool := fun j => if j = 0 then decide (p.1 < q.1) else decide (p.2.cps.toList < q.2.cps.toList)
  have R := Ob.RcOp.tuples_lt (A := X.A) (s := s) (e := e) (r := r) p1 p2 hu (fun j h1 h2 => by
    match j, h1, h2 with
    | 0, _, _ => exact SeqAt.EqAt.int_int _ _ _ _
    | 1, _, _ => exact SeqAt.EqAt.str_str _ _ _ _) (fun j h1 h2 _ => by
    match j, h1, h2 with
    | 0, _, _ => exact Ob.RcOp.lt_int _ _ _ _
    | 1, _, _ => exact fun prog w E Q h => PySem.P.lt_str h)
  have z : Ob.lexAt e r (decide ((#[Value.int p.1 t1, Value.str p.2 t2] : Array Value).size < (#[Value.int q.1 t3, Value.str q.2 t4] : Array Value).size)) 0 2 = ltIS p q := by
    show (if (p.1 == q.1) = true then (if (p.2 == q.2) = true then false else decide (p.2.cps.toList < q.2.cps.toList)) else decide (p.1 < q.1)) = _
    unfold ltIS
    simp only [beq_iff_eq]
  have R2 : Ob.RcOp .Lt X.A s (.ref a) (.ref b) (ltIS p q) := by
    rw [← z]
    exact R
  exact R2 X.prog X.w X.xe (EP X pins σ Q) ⟨.bl _, H, I, rfl, k⟩
end Mq

namespace Lw
open PySem PySem.Spec PyProof.Rows L2 Mq
open SX (S)
/-! ### in order -/
def aheadB (a b : List Nat) : Bool := ltIS ((a.length : Nat), S a) ((b.length : Nat), S b)
def spAhead : Sp := fun vs H Q _ => ∃ a b : List Nat, vs = [.str (S a), .str (S b)] ∧ a.length ≤ 1000 ∧ b.length ≤ 1000 ∧ ∀ H', Same H H' → Q (.bl (aheadB a b)) H'
/-! ### the law's own world -/
def wKv (sg : List Nat) (ld : Addr) : List (Key × V) := [(.inr "letters", .str (S sg)), (.inr "left", .ref ld)]
structure WAt (H : Hp) (wd ld : Addr) (sg : List Nat) (gs : List Fd) : Prop where
  w : H wd = some (.dK (wKv sg ld))
  l : H ld = some (.dT (tabF gs))
theorem WAt.same {H H' : Hp} {wd ld : Addr} {sg : List Nat} {gs : List Fd} (h : WAt H wd ld sg gs) (e : Same H H') : WAt H' wd ld sg gs := ⟨e _ _ h.w, e _ _ h.l⟩
theorem WAt.off {D C : Addr} {T : Nat} {H H' : Hp} {wd ld : Addr} {sg : List Nat} {gs : List Fd} (h : WAt H wd ld sg gs) (f : Off D C H H') (k : DeckAt D C T H) : WAt H' wd ld sg gs := by
  refine ⟨f wd _ ?_ ?_ h.w, f.at k h.l ⟨(fun _ z => nomatch z), (fun _ z => nomatch z)⟩⟩
  · rintro rfl
    obtain ⟨m, t, js, e, _⟩ := k.ex
    rw [h.w] at e
    have e2 := Option.some.inj e
    injection e2 with e2
    have e3 := congrArg List.length e2
    exact absurd e3 (by show ¬ 2 = 3; decide)
  · rintro rfl
    obtain ⟨m, t, js, _, e, _⟩ := k.ex
    rw [h.w] at e
    cases e
def zOk (gs : List Fd) : Prop := ∀ g ∈ gs, g.z.length ≤ 1
theorem leftz {gs : List Fd} (h : zOk gs) {x y : Nat} {z : List Nat} (e : leftM gs x y = .some z) : z.length ≤ 1 := by
  unfold leftM at e
  cases hf : gs.find? fun f => decide (f.x = x) && decide (f.y = y) with
  | none => rw [hf] at e; cases e
  | some f =>
    rw [hf] at e
    cases e
    exact h f (List.mem_of_find?_eq_some hf)
theorem laidz_len {gs : List Fd} (h : zOk gs) (w : List Nat) (y : Nat) : (laidM gs w y).length ≤ w.length + 1 := by
  unfold laidM
  split
  · rw [List.length_append]
    exact Nat.le_refl _
  · split
    · rw [List.length_append]
      exact Nat.le_refl _
    · rename_i z e
      have := leftz h e
      rw [List.length_append, List.length_dropLast]
      omega
section
variable {P : Program} {w : World} {K : PySem.W.Frag} {mg : Str → Option Value} {base : Heap} {C CW : Addr}
theorem ok_is_ahead {f : Addr} {fd : FuncData} (F : Fun K "is_ahead" "is_ahead" s_is_ahead f fd) (B : Blt mg) : FnOk P w K mg base CX0 1 f fd ["one", "other"] spAhead := by
  refine F.ok sc_is_ahead (fun vs H Q E h => ?_) (fun cdv A outer s H vs Q E hr h => ?_)
  · obtain ⟨_, _, rfl, _⟩ := h
    rfl
  · obtain ⟨a, b, rfl, ha, hb, q⟩ := h
    have hu : (A.deeper (envOfC "is_ahead" (defScope s_is_ahead) s.heap.objs.size f cdv)).units < cLine := by
      have := hr.units
      omega
    refine ⟨_, pss_one (ps_ret (pe_cmpR (op_ltIS hu) (pe_tup (pa_cons (pe_callB call_len (by rfl) B.len (by decide +kernel) (pa_cons (pv 0) pa_nil)) (pa_cons (pv 0) pa_nil))) (pe_tup (pa_cons (pe_callB call_len (by rfl) B.len (by decide +kernel) (pa_cons (pv 1) pa_nil)) (pa_cons (pv 1) pa_nil))) (nomark _))), ?_⟩
    refine ⟨_, rfl, _, _, rfl, len_S (by omega), _, rfl, sz_le (n := 2) (by decide), fun p hp => ?_⟩
    refine ⟨_, rfl, _, _, rfl, len_S (by omega), _, rfl, sz_le (n := 2) (by decide), fun p2 hp2 => ?_⟩
    have s2 := same_new (o := HO.tup [V.int (b.length : Nat), V.str (S b)]) hp2
    have t1 : SqT K (upd H p (.tup [V.int (a.length : Nat), V.str (S a)])) p [V.int (a.length : Nat), V.str (S a)] := Or.inl (Or.inl upd_same)
    exact ⟨p, p2, ((a.length : Nat), S a), ((b.length : Nat), S b), rfl, rfl, Same.tup s2 t1, Or.inl (Or.inl upd_same), q _ ((same_new hp).trans s2)⟩
end
end Lw

namespace Lw
open PySem PySem.Spec PyProof.Rows L2 Mq
open SX (S)
/-! ### the law's own rows, and webs drawn -/
def spLawWeb : Sp := fun vs H Q _ => ∃ (D C : Addr) (T most : Nat) (wd ld : Addr) (sg : List Nat) (gs : List Fd), vs = [.ref D, .ref wd, .int (most : Nat)] ∧ DeckAt D C T H ∧ T ≤ 900000 ∧ WAt H wd ld sg gs ∧
  0 < sg.length ∧ sg.length ≤ 1000 ∧ most ≤ 100 ∧ ∀ H' l, (∀ c ∈ l, c ∈ sg) → l.length ≤ most → DeckAt D C (T + 1 + most) H' → Off D C H H' → Q (.str (S l)) H'
theorem joinW_one : ∀ l : List Nat, TL.joinL [] (l.map fun c => [c]) = l
  | [] => rfl
  | [c] => rfl
  | c :: d :: l => by
    show [c] ++ ([] ++ TL.joinL [] ((d :: l).map fun c => [c])) = _
    rw [joinW_one (d :: l)]
    rfl
section
variable {P : Program} {w : World} {K : PySem.W.Frag} {mg : Str → Option Value} {base : Heap}
theorem ok_law_web {f fD fP : Addr} {fd fdD fdP : FuncData} (F : Fun K "_law_web" "_law_web" s__law_web f fd) (B : Blt mg)
    (FD : Fun K "_law_draw" "_law_draw" s__law_draw fD fdD) (gD : mg "_law_draw" = some (.ref fD)) (bD : Binds K fdD ["_law_deck_here", "_law_below"] [])
    (FP : Fun K "_law_pick" "_law_pick" s__law_pick fP fdP) (gP : mg "_law_pick" = some (.ref fP)) (bP : Binds K fdP ["_law_deck_here", "_law_some"] []) :
    FnOk P w K mg base CX0 3 f fd ["_law_deck_here", "_law_w", "_law_most"] spLawWeb := by
  have GD : FnOk P w K mg base CX0 1 fD fdD ["_law_deck_here", "_law_below"] spDraw := ok_draw FD B
  have GP : FnOk P w K mg base CX0 2 fP fdP ["_law_deck_here", "_law_some"] spPick := ok_pick FP B FD gD bD
  refine F.ok sc__law_web (fun vs H Q E h => ?_) (fun cdv A outer s H vs Q E hr h => ?_)
  · obtain ⟨_, _, _, _, _, _, _, _, rfl, _⟩ := h
    rfl
  · obtain ⟨D, C, T, most, wd, ld, sg, gs, rfl, hdk, hT, hw, h0, h1, hm, q⟩ := h
    have hu1 : (A.deeper (envOfC "_law_web" (defScope s__law_web) s.heap.objs.size f cdv)).units + 1 < cLine := by
      have := hr.units
      omega
    refine ⟨_, (pss_one (ps_ret (pe_join pe_str (pe_lc (own := [("_law_k", 3)]) (g := gName 3) (tt := tYes) rfl sc__law_web.nd (pi_range1 (by rfl) B.range (pa_cons (pe_call GD (hr.mono (by decide)) (by rfl) gD FD.kp bD .nil pass0 (pa_cons (pv 0) (pa_cons (pe_op op_add (pv 2) pe_int) pa_nil))) pa_nil)) (blkOk_by (own := [("_law_k", 3)]) (N := ["_law_deck_here", "_law_w", "_law_most", "_law_k"]) (sc := defScope s__law_web) (by decide +kernel)) (fun _ _ _ _ _ => pg_name (i := 3) sc__law_web.nd rfl (Or.inl rfl)) (fun _ _ _ _ _ => pts_nil)
      (fun _ _ _ _ _ => (pe_call GP (hr.mono (by decide)) (by rfl) gP FP.kp bP .nil pass0 (pa_cons (pv 0) (pa_cons (pe_dget hu1 (pv 1) pe_str (fun _ _ => rfl)) pa_nil)))))))), ?_⟩
    refine ⟨⟨_, rfl⟩, _, rfl, _, rfl, _, _, rfl, rfl, D, C, T, most + 1, rfl, hdk, by omega, by omega, by omega, fun H1 r hr1 dk1 off1 => ?_⟩
    refine ⟨_, rfl, by omega, by omega, fun L hL => ?_⟩
    have hLD : L ≠ D := by
      rintro rfl
      obtain ⟨_, _, _, e, _⟩ := dk1.ex
      rw [hL] at e
      cases e
    have hLC : L ≠ C := by
      rintro rfl
      obtain ⟨_, _, _, _, e, _⟩ := dk1.ex
      rw [hL] at e
      cases e
    refine lc_yes (walk_rng (n := r)) (fun i H' => DeckAt D C (T + 1 + i) H' ∧ Off D C H1 H' ∧ ∃ l : List Nat, l.length = i ∧ (∀ c ∈ l, c ∈ sg) ∧ H' L = some (.lst (l.map fun c => .str (S [c])))) ⟨?_, Off.same (same_new hL), [], rfl, (fun _ h => by cases h), upd_same⟩ (fun _ _ _ _ => trivial) ?_ ?_
    · exact (dk1.same (same_new hL))
    · rintro i x H2 H3 hi ⟨dk2, off2, l, hl, hc, hL2⟩ ⟨rfl, rfl⟩
      refine ⟨rfl, ?_⟩
      have hw2 : WAt H3 wd ld sg gs := hw.off (off1.trans off2) hdk
      refine ⟨_, rfl, _, rfl, wd, _, rfl, DGet.k (k := .inr "letters") hw2.w, D, C, T + 1 + i, _, rfl, dk2, by omega, Or.inl ⟨sg, rfl, h0, h1, fun H4 c hcs dk4 off4 => ?_⟩⟩
      refine ⟨_, off4 L _ hLD hLC hL2, sz_lt (by rw [List.length_map]; omega), ?_, ?_, l ++ [c], by rw [List.length_append, hl]; rfl, ?_, ?_⟩
      · obtain ⟨m, t, js, a1, a2, a3, a4⟩ := dk4.ex
        exact ⟨m, t, js, (upd_ne (Ne.symm hLD)).trans a1, (upd_ne (Ne.symm hLC)).trans a2, a3, by omega⟩
      · intro b o e1 e2 e3
        rw [upd_ne (ne_of_none e3 hL)]
        exact (off2.trans off4) b o e1 e2 e3
      · intro d hd
        rcases List.mem_append.mp hd with hd | hd
        · exact hc d hd
        · rw [List.mem_singleton.mp hd]
          exact hcs
      · rw [upd_same, List.map_append]
        rfl
    · rintro H2 ⟨dk2, off2, l, hl, hc, hL2⟩
      refine ⟨S [], L, (l.map fun c => [c]).map S, rfl, rfl, Or.inl (SqL.of (hL2.trans ?_)), ?_, ?_⟩
      · rw [List.map_map, List.map_map]
        rfl
      · rw [show (((l.map fun c => [c]).map S).map (·.length)).sum = l.length from ?_]
        · rw [SX.S_len, List.length_map, List.length_map]
          show l.length + l.length * 0 ≤ _
          omega
        · clear hL2 hl hc
          induction l with
          | nil => rfl
          | cons c l ih =>
            rw [List.map_cons, List.map_cons, List.map_cons, List.sum_cons, ih, SX.S_len]
            show 1 + l.length = l.length + 1
            omega
      · rw [SX.join_S, joinW_one]
        exact q H2 l hc (by omega) (dk2.mono (by omega)) (off1.trans off2)
end
end Lw

namespace Lw
open PySem PySem.Spec PyProof.Rows L2 Mq
open SX (S)
/-! ### a row by which a letter goes -/
/-- what stands behind a row; none: the row ends early, or nothing is folded -/
def rowM (fs : List Fd) : List Nat → List Nat → Option (List Nat)
  | z, [] => some z
  | [], _ :: _ => none
  | x :: _, y :: row => match leftM fs x y with
    | none => none
    | some z => rowM fs z row
def goesB (fs : List Fd) (x : Nat) (row : List Nat) : Bool := decide (rowM fs [x] row = some [])
def spRowGo (C : Addr) : Sp := fun vs H Q _ => ∃ (r fa ta : Addr) (sg row : List Nat) (fs : List Fd) (x : Nat), vs = [.ref r, .str (S [x]), .str (S row)] ∧ BkAt H C r sg fs fa ta ∧ FsOk sg fs ∧ row.length ≤ 1000 ∧
  ∀ H', Same H H' → Q (.bl (goesB fs x row)) H'
section
variable {P : Program} {w : World} {K : PySem.W.Frag} {mg : Str → Option Value} {base : Heap} {C CW : Addr}
theorem ok_does_row_go {f fL : Addr} {fd fdL : FuncData} (F : Fun K "does_row_go" "does_row_go" s_does_row_go f fd) (R : BkC K C)
    (FL : Fun K "left_of" "Book.left_of" s_Book_left_of fL fdL) (mL : Meth K C "left_of" fL) (bL : Binds K fdL ["self", "last", "laid"] []) : FnOk P w K mg base CX0 2 f fd ["book", "letter", "row"] (spRowGo C) := by
  have GL : FnOk P w K mg base CX0 1 fL fdL ["self", "last", "laid"] (spLeft C) := ok_left FL R
  refine F.ok sc_does_row_go (fun vs H Q E h => ?_) (fun cdv A outer s H vs Q E hr h => ?_)
  · obtain ⟨_, _, _, _, _, _, _, rfl, _⟩ := h
    rfl
  · obtain ⟨r, fa, ta, sg, row, fs, x, rfl, hb, hfs, hl, q⟩ := h
    have hr1 : Room 1 (A.deeper (envOfC "does_row_go" (defScope s_does_row_go) s.heap.objs.size f cdv)) := hr
    refine ⟨_, (pss_cons (ps_set (i := 3) sc_does_row_go.nd rfl (Or.inl rfl) (pv 1))
      (pss_cons (ps_for PassesOwn.never rfl (pi_str (pv 2)) (pg_name (i := 4) sc_does_row_go.nd rfl (Or.inl rfl))
        (pss_cons (ps_if (pt_cmpR op_eq (pv 3) pe_str (nomark _)) (pss_one (ps_ret pe_bl)) pss_nil)
        (pss_cons (ps_set (i := 3) sc_does_row_go.nd rfl (Or.inl rfl) (pe_methT (E := fun _ _ _ _ => False) (pv 0) R.cls mL GL hr1 bL (fun _ => cx0_at) (pa_cons (pv 3) (pa_cons (pv 4) pa_nil))))
        (pss_one (ps_if (pt_cmpR op_isN (pv 3) pe_non (nomark _)) (pss_one (ps_ret pe_bl)) pss_nil)))))
      (pss_one (ps_ret (pe_cmpR op_eq (pv 3) pe_str (nomark _)))))), ?_⟩
    obtain ⟨dx, h1⟩ := hb.1
    refine ⟨_, rfl, _, rfl, S row, rfl, ?_⟩
    refine for_it (walk_S row) (fun i σ H' => Same H H' ∧ ∃ z o, rowM fs [x] row = rowM fs z (row.drop i) ∧ z.length ≤ 1 ∧ σ = [some (.ref r), some (.str (S [x])), some (.str (S row)), some (.str (S z)), o]) ⟨Same.refl H, [x], none, rfl, Nat.le_refl 1, rfl⟩ (fun _ _ _ _ _ => trivial) ?_ ?_
    · rintro i y σ H3 H3' hi ⟨s3, z, o, e, hz, rfl⟩ ⟨rfl, rfl⟩
      have ed : row.drop i = row.getD i 0 :: row.drop (i + 1) := by
        rw [List.drop_eq_getElem_cons hi, List.getD_eq_getElem?_getD, List.getElem?_eq_getElem hi]
        rfl
      rw [ed] at e
      rcases z with _ | ⟨c, z⟩
      · refine ⟨_, rfl, rfl, _, rfl, ifT (by decide) ?_⟩
        have q3 := q H3' s3
        rw [show goesB fs x row = false by unfold goesB; rw [e]; rfl] at q3
        exact q3
      · have hz0 : z = [] := by
          rw [List.length_cons] at hz
          exact List.length_eq_zero_iff.mp (by omega)
        subst hz0
        have hne : decide (V.str (S [c]) = V.str (Str.ofString "")) = false := by
          refine decide_eq_false fun h => ?_
          injection h with h
          have h2 : S [c] = S [] := h
          have h3 := SX.S_inj h2
          cases h3
        refine ⟨_, rfl, rfl, _, rfl, ifF hne ?_⟩
        refine ⟨_, rfl, r, dx, _, rfl, s3 _ _ h1, rfl, _, rfl, _, rfl, ?_⟩
        refine ⟨r, fa, ta, sg, fs, c, row.getD i 0, rfl, hb.same s3, fun H4 s4 => ?_⟩
        cases el : leftM fs c (row.getD i 0) with
        | none =>
          refine ⟨_, rfl, rfl, _, rfl, ifT rfl ?_⟩
          have q3 := q H4 (s3.trans s4)
          have eg : goesB fs x row = false := by
            unfold goesB
            rw [e]
            show decide ((match leftM fs c (row.getD i 0) with | none => none | some z => rowM fs z (row.drop (i + 1))) = some []) = false
            rw [el]
            rfl
          rw [eg] at q3
          exact q3
        | some z2 =>
          have hz2 := left_len hfs el
          refine ⟨_, rfl, rfl, _, rfl, ifF rfl ?_⟩
          refine ⟨s3.trans s4, z2, _, ?_, hz2, rfl⟩
          rw [e]
          show (match leftM fs c (row.getD i 0) with | none => none | some z => rowM fs z (row.drop (i + 1))) = _
          rw [el]
    · rintro σ H3 ⟨s3, z, o, e, hz, rfl⟩
      rw [List.drop_length] at e
      refine ⟨_, rfl, rfl, ?_⟩
      have e4 : goesB fs x row = decide (V.str (S z) = V.str (Str.ofString "")) := by
        unfold goesB
        rw [e]
        show decide (some z = some []) = _
        refine decide_eq_decide.mpr ⟨fun h => ?_, fun h => ?_⟩
        · rw [Option.some.inj h]
          rfl
        · injection h with h
          have h2 : S z = S [] := h
          rw [SX.S_inj h2]
      have q3 := q H3 s3
      rw [e4] at q3
      exact q3
end
end Lw

namespace Lw
open PySem PySem.Spec PyProof.Rows L2 Mq
open SX (S)
/-! ### rows that turn a letter: the search, letter by letter -/
abbrev Rw := List Nat × List Nat
def hasK (L : List Rw) (z : List Nat) : Bool := L.any fun p => decide (p.1 = z)
def oneL (fs : List Fd) (go : Bool) (y : Nat) (row : List Nat) (L : List Rw) (c : Nat) : List Rw :=
  match leftM fs y c with
  | none => L
  | some z => if hasK L z || (decide (z = []) && !go) then L else L ++ [(z, row ++ [c])]
def itemL (fs : List Fd) (sg : List Nat) (go : Bool) (y : Nat) (row : List Nat) (L : List Rw) : List Rw := sg.foldl (oneL fs go y row) L
def pend (L : List Rw) : List (Nat × List Nat) := L.filterMap fun p => p.1.head?.map fun y => (y, p.2)
theorem pend_app (L M : List Rw) : pend (L ++ M) = pend L ++ pend M := List.filterMap_append
inductive Bfs (fs : List Fd) (sg : List Nat) (go : Bool) : List Rw → List (Nat × List Nat) → List Rw → Prop
  | nil (L : List Rw) : Bfs fs sg go L [] L
  | cons {L R : List Rw} {y : Nat} {row : List Nat} {P : List (Nat × List Nat)} : Bfs fs sg go (itemL fs sg go y row L) (P ++ pend ((itemL fs sg go y row L).drop L.length)) R → Bfs fs sg go L ((y, row) :: P) R
theorem Bfs.det {fs : List Fd} {sg : List Nat} {go : Bool} {L : List Rw} {P : List (Nat × List Nat)} {R R' : List Rw} (h : Bfs fs sg go L P R) : Bfs fs sg go L P R' → R = R' := by
  induction h with
  | nil L => intro h'; cases h'; rfl
  | cons _ ih => intro h'; cases h' with | cons h' => exact ih h'
def bfsF (fs : List Fd) (sg : List Nat) (go : Bool) : Nat → List Rw → List (Nat × List Nat) → Option (List Rw)
  | _, L, [] => some L
  | 0, _, _ :: _ => none
  | n + 1, L, (y, row) :: P => bfsF fs sg go n (itemL fs sg go y row L) (P ++ pend ((itemL fs sg go y row L).drop L.length))
theorem Bfs.of {fs : List Fd} {sg : List Nat} {go : Bool} : ∀ {n : Nat} {L : List Rw} {P : List (Nat × List Nat)} {R : List Rw}, bfsF fs sg go n L P = some R → Bfs fs sg go L P R
  | 0, L, [], R, h => by cases h; exact .nil L
  | n + 1, L, [], R, h => by cases h; exact .nil L
  | 0, L, _ :: _, R, h => by cases h
  | n + 1, L, (y, row) :: P, R, h => .cons (Bfs.of (n := n) h)
/-! what one item leaves -/
section
variable {fs : List Fd} {sg : List Nat} {go : Bool} {y : Nat} {row : List Nat}
theorem hasK_iff {L : List Rw} {z : List Nat} : hasK L z = true ↔ z ∈ L.map (·.1) := by
  unfold hasK
  rw [List.any_eq_true, List.mem_map]
  constructor
  · rintro ⟨p, h1, h2⟩
    exact ⟨p, h1, of_decide_eq_true h2⟩
  · rintro ⟨p, h1, h2⟩
    exact ⟨p, h1, decide_eq_true h2⟩
theorem item_app (L : List Rw) (cs0 : List Nat) : ∃ cs : List Nat, cs.Sublist cs0 ∧ cs0.foldl (oneL fs go y row) L = L ++ cs.map (fun c => ((leftM fs y c).getD [], row ++ [c])) ∧ (∀ c ∈ cs, ∃ z, leftM fs y c = some z ∧ (z = [] → go = true)) := by
  induction cs0 generalizing L with
  | nil => exact ⟨[], .slnil, (List.append_nil L).symm, fun _ h => by cases h⟩
  | cons c cs0 ih =>
    rw [List.foldl_cons]
    cases e : leftM fs y c with
    | none =>
      obtain ⟨cs, h1, h2, h3⟩ := ih L
      refine ⟨cs, h1.cons c, ?_, h3⟩
      rw [show oneL fs go y row L c = L by unfold oneL; rw [e]]
      exact h2
    | some z =>
      by_cases h : (hasK L z || (decide (z = []) && !go)) = true
      · obtain ⟨cs, h1, h2, h3⟩ := ih L
        refine ⟨cs, h1.cons c, ?_, h3⟩
        rw [show oneL fs go y row L c = L by unfold oneL; rw [e]; exact if_pos h]
        exact h2
      · obtain ⟨cs, h1, h2, h3⟩ := ih (L ++ [(z, row ++ [c])])
        refine ⟨c :: cs, h1.cons_cons c, ?_, ?_⟩
        · rw [show oneL fs go y row L c = L ++ [(z, row ++ [c])] by unfold oneL; rw [e]; exact if_neg h, h2, List.map_cons, e, List.append_assoc]
          rfl
        · intro d hd
          rcases List.mem_cons.mp hd with rfl | hd
          · refine ⟨z, e, fun hz => ?_⟩
            cases go
            · rw [decide_eq_true hz] at h
              simp at h
            · rfl
          · exact h3 d hd
theorem oneL_keys {L : List Rw} {c : Nat} (h : (L.map (·.1)).Nodup) : ((oneL fs go y row L c).map (·.1)).Nodup := by
  unfold oneL
  split
  · exact h
  · rename_i z e
    split
    · exact h
    · rename_i h2
      rw [List.map_append, List.nodup_append]
      refine ⟨h, List.nodup_cons.mpr ⟨(fun z => by cases z), .nil⟩, ?_⟩
      intro a ha b hb
      rw [List.mem_singleton.mp hb]
      rintro rfl
      exact h2 (by rw [hasK_iff.mpr ha]; rfl)
theorem item_keys (cs0 : List Nat) {L : List Rw} (h : (L.map (·.1)).Nodup) : ((cs0.foldl (oneL fs go y row) L).map (·.1)).Nodup := by
  induction cs0 generalizing L with
  | nil => exact h
  | cons c cs0 ih => exact ih (oneL_keys h)
theorem item_has (cs0 : List Nat) {L : List Rw} {k : List Nat} (h : hasK L k = true) : hasK (cs0.foldl (oneL fs go y row) L) k = true := by
  obtain ⟨cs, _, e, _⟩ := item_app (fs := fs) (go := go) (y := y) (row := row) L cs0
  rw [e, hasK_iff, List.map_append]
  exact List.mem_append_left _ (hasK_iff.mp h)
theorem item_closed {cs0 : List Nat} {L : List Rw} {c : Nat} {z : List Nat} (hc : c ∈ cs0) (e : leftM fs y c = some z) (hz : z ≠ [] ∨ go = true) : hasK (cs0.foldl (oneL fs go y row) L) z = true := by
  induction cs0 generalizing L with
  | nil => cases hc
  | cons d cs0 ih =>
    rcases List.mem_cons.mp hc with rfl | hc
    · refine item_has cs0 ?_
      unfold oneL
      rw [e]
      dsimp only
      split
      · rename_i h
        rcases Bool.or_eq_true_iff.mp h with h | h
        · exact h
        · obtain ⟨h1, h2⟩ := Bool.and_eq_true_iff.mp h
          rcases hz with hz | hz
          · exact absurd (of_decide_eq_true h1) hz
          · rw [hz] at h2
            cases h2
      · rw [hasK_iff, List.map_append]
        exact List.mem_append_right _ (List.mem_singleton.mpr rfl)
    · exact ih hc
/-! ### rows ahead of rows -/
def Ah (a b : List Nat) : Prop := a.length < b.length ∨ (a.length = b.length ∧ a < b)
theorem lt_snoc {a b : List Nat} (c d : Nat) (hl : a.length = b.length) (h : a < b) : a ++ [c] < b ++ [d] := by
  induction a generalizing b with
  | nil =>
    cases b with
    | nil => exact absurd h (by decide)
    | cons x b => cases hl
  | cons x a ih =>
    cases b with
    | nil => cases hl
    | cons z b =>
      rw [List.cons_append, List.cons_append]
      rcases List.cons_lt_cons_iff.mp h with h2 | ⟨h2, h3⟩
      · exact List.cons_lt_cons_iff.mpr (Or.inl h2)
      · subst h2
        exact List.cons_lt_cons_iff.mpr (Or.inr ⟨rfl, ih (Nat.succ.inj hl) h3⟩)
theorem lt_snoc_same (a : List Nat) {c d : Nat} (h : c < d) : a ++ [c] < a ++ [d] := by
  induction a with
  | nil => exact List.cons_lt_cons_iff.mpr (Or.inl h)
  | cons x a ih => exact List.cons_lt_cons_iff.mpr (Or.inr ⟨rfl, ih⟩)
theorem Ah.snoc {a b : List Nat} (h : Ah a b) (c d : Nat) : Ah (a ++ [c]) (b ++ [d]) := by
  rcases h with h | ⟨h1, h2⟩
  · exact Or.inl (by rw [List.length_append, List.length_append]; exact Nat.add_lt_add_right h 1)
  · exact Or.inr ⟨by rw [List.length_append, List.length_append, h1]; rfl, lt_snoc c d h1 h2⟩
theorem Ah.same (a : List Nat) {c d : Nat} (h : c < d) : Ah (a ++ [c]) (a ++ [d]) := Or.inr ⟨by rw [List.length_append, List.length_append]; rfl, lt_snoc_same a h⟩
theorem Ah.more (a : List Nat) (c : Nat) : Ah a (a ++ [c]) := Or.inl (by rw [List.length_append]; exact Nat.lt_succ_self _)
theorem Ah.trans {a b c : List Nat} (h1 : Ah a b) (h2 : Ah b c) : Ah a c := by
  rcases h1 with h1 | ⟨e1, h1⟩ <;> rcases h2 with h2 | ⟨e2, h2⟩
  · exact Or.inl (Nat.lt_trans h1 h2)
  · exact Or.inl (by omega)
  · exact Or.inl (by omega)
  · exact Or.inr ⟨e1.trans e2, List.lt_trans h1 h2⟩
theorem Ah.irr {a : List Nat} (h : Ah a a) : False := by
  rcases h with h | ⟨_, h⟩
  · exact Nat.lt_irrefl _ h
  · exact List.lt_irrefl a h
/-! ### what holds all through the search -/
structure BfI (fs : List Fd) (sg : List Nat) (go : Bool) (x : Nat) (D : List (Nat × List Nat)) (L : List Rw) (P : List (Nat × List Nat)) : Prop where
  nd : (L.map (·.1)).Nodup
  sh : ∀ p ∈ L, (p.1 = [] ∧ go = true) ∨ ∃ y ∈ sg, p.1 = [y]
  pa : ∀ p ∈ L, rowM fs [x] p.2 = some p.1
  ov : ∀ p ∈ L, ∀ c ∈ p.2, c ∈ sg
  le : ∀ (i : Nat) (p : Rw), L[i]? = some p → p.2.length ≤ i
  pe : pend L = D ++ P
  cl : ∀ q ∈ D, ∀ c ∈ sg, ∀ z, leftM fs q.1 c = some z → (z ≠ [] ∨ go = true) → hasK L z = true
  x0 : ([x], []) ∈ L
  as : L.Pairwise fun p q => Ah p.2 q.2
  ap : P.Pairwise fun p q => Ah p.2 q.2
  ab : ∀ p ∈ L, ∀ q ∈ P, ∀ c : Nat, c ∈ sg → Ah p.2 (q.2 ++ [c])
theorem rowM_snoc {z row : List Nat} {y c : Nat} (h : rowM fs z row = some [y]) : rowM fs z (row ++ [c]) = leftM fs y c := by
  induction row generalizing z with
  | nil =>
    have h2 : some z = some [y] := by
      rw [← h]
      cases z <;> rfl
    have h3 : z = [y] := Option.some.inj h2
    subst h3
    show (match leftM fs y c with | none => none | some z => rowM fs z []) = _
    cases leftM fs y c with
    | none => rfl
    | some z => cases z <;> rfl
  | cons d row ih =>
    cases z with
    | nil => cases h
    | cons a z =>
      have h' : (match leftM fs a d with | none => none | some z => rowM fs z row) = some [y] := h
      show (match leftM fs a d with | none => none | some z => rowM fs z (row ++ [c])) = _
      cases e : leftM fs a d with
      | none => rw [e] at h'; cases h'
      | some z2 =>
        rw [e] at h'
        exact ih h'
theorem pend_mem {L : List Rw} {y : Nat} {r : List Nat} (hz : ∀ p ∈ L, p.1.length ≤ 1) : (y, r) ∈ pend L ↔ ([y], r) ∈ L := by
  unfold pend
  rw [List.mem_filterMap]
  constructor
  · rintro ⟨p, h1, h2⟩
    rcases p with ⟨k, r'⟩
    have := hz _ h1
    match k, h2, this, h1 with
    | [], h2, _, _ => cases h2
    | [a], h2, _, h1 =>
      have h3 := Option.some.inj h2
      injection h3 with e1 e2
      subst e1 e2
      exact h1
  · intro h
    exact ⟨_, h, rfl⟩
end
end Lw

namespace Lw
open PySem PySem.Spec PyProof.Rows L2 Mq
open SX (S)
def ZIn (fs : List Fd) (sg : List Nat) : Prop := ∀ y c z, leftM fs y c = some z → z = [] ∨ ∃ d ∈ sg, z = [d]
section
variable {fs : List Fd} {sg : List Nat} {go : Bool} {x : Nat}
theorem BfI.len1 {D P : List (Nat × List Nat)} {L : List Rw} (h : BfI fs sg go x D L P) : ∀ p ∈ L, p.1.length ≤ 1 := by
  intro p hp
  rcases h.sh p hp with ⟨e, _⟩ | ⟨y, _, e⟩
  · rw [e]
    exact Nat.zero_le 1
  · rw [e]
    exact Nat.le_refl 1
theorem BfI.step {D P : List (Nat × List Nat)} {L : List Rw} {y : Nat} {row : List Nat} (zi : ZIn fs sg) (hs : sg.Pairwise (· < ·)) (h : BfI fs sg go x D L ((y, row) :: P)) :
    BfI fs sg go x (D ++ [(y, row)]) (itemL fs sg go y row L) (P ++ pend ((itemL fs sg go y row L).drop L.length)) := by
  obtain ⟨cs, hsub, e, hz⟩ := item_app (fs := fs) (go := go) (y := y) (row := row) L sg
  have e1 : itemL fs sg go y row L = L ++ cs.map (fun c => ((leftM fs y c).getD [], row ++ [c])) := e
  have ed : (itemL fs sg go y row L).drop L.length = cs.map (fun c => ((leftM fs y c).getD [], row ++ [c])) := by rw [e1, List.drop_left]
  have hmem : ([y], row) ∈ L := by
    rw [← pend_mem h.len1, h.pe]
    exact List.mem_append_right _ List.mem_cons_self
  have hcs : ∀ c ∈ cs, c ∈ sg := fun c hc => hsub.mem hc
  have hN : ∀ n ∈ cs.map (fun c => ((leftM fs y c).getD [], row ++ [c])), ∃ c ∈ cs, ∃ z, leftM fs y c = some z ∧ n = (z, row ++ [c]) ∧ (z = [] → go = true) := by
    intro n hn
    obtain ⟨c, hc, rfl⟩ := List.mem_map.mp hn
    obtain ⟨z, hz1, hz2⟩ := hz c hc
    exact ⟨c, hc, z, hz1, by rw [hz1]; rfl, hz2⟩
  have hpN : ∀ q ∈ pend (cs.map (fun c => ((leftM fs y c).getD [], row ++ [c]))), ∃ c ∈ cs, q.2 = row ++ [c] := by
    intro q hq
    obtain ⟨n, hn, hq2⟩ := List.mem_filterMap.mp hq
    obtain ⟨c, hc, z, _, rfl, _⟩ := hN n hn
    refine ⟨c, hc, ?_⟩
    cases z with
    | nil => cases hq2
    | cons a z => cases hq2; rfl
  have hasN : (cs.map (fun c => ((leftM fs y c).getD [], row ++ [c]))).Pairwise fun p q => Ah p.2 q.2 := by
    rw [List.pairwise_map]
    exact (hs.sublist hsub).imp fun hab => Ah.same row hab
  have apt := List.pairwise_cons.mp h.ap
  have hPL : ∀ q ∈ P, ([q.1], q.2) ∈ L := by
    intro q hq
    rw [← pend_mem h.len1, h.pe]
    exact List.mem_append_right _ (List.mem_cons_of_mem _ hq)
  rw [ed]
  rw [e1]
  refine ⟨?_, ?_, ?_, ?_, ?_, ?_, ?_, ?_, ?_, ?_, ?_⟩
  · rw [← e1]
    exact item_keys sg h.nd
  · intro p hp
    rcases List.mem_append.mp hp with hp | hp
    · exact h.sh p hp
    · obtain ⟨c, hc, z, h1, rfl, h3⟩ := hN p hp
      rcases zi _ _ _ h1 with h4 | h4
      · exact Or.inl ⟨h4, h3 h4⟩
      · exact Or.inr h4
  · intro p hp
    rcases List.mem_append.mp hp with hp | hp
    · exact h.pa p hp
    · obtain ⟨c, hc, z, h1, rfl, h3⟩ := hN p hp
      exact (rowM_snoc (h.pa _ hmem)).trans h1
  · intro p hp c hc
    rcases List.mem_append.mp hp with hp | hp
    · exact h.ov p hp c hc
    · obtain ⟨d, hd, z, h1, rfl, h3⟩ := hN p hp
      rcases List.mem_append.mp hc with hc | hc
      · exact h.ov _ hmem c hc
      · rw [List.mem_singleton.mp hc]
        exact hcs d hd
  · intro i p hp
    by_cases hi : i < L.length
    · rw [List.getElem?_append_left hi] at hp
      exact h.le i p hp
    · rw [List.getElem?_append_right (by omega)] at hp
      obtain ⟨c, hc, z, h1, rfl, h3⟩ := hN p (List.mem_of_getElem? hp)
      obtain ⟨j, hj, ej⟩ := List.getElem_of_mem hmem
      have := h.le j _ (by rw [List.getElem?_eq_getElem hj, ej])
      rw [List.length_append]
      have h5 : row.length ≤ j := this
      show row.length + 1 ≤ i
      omega
  · rw [pend_app, h.pe, List.append_assoc, List.append_assoc]
    rfl
  · intro q hq c hc z hz1 hz2
    rw [← e1]
    rcases List.mem_append.mp hq with hq | hq
    · exact item_has sg (h.cl q hq c hc z hz1 hz2)
    · rw [List.mem_singleton.mp hq] at hz1
      exact item_closed hc hz1 hz2
  · exact List.mem_append_left _ h.x0
  · rw [List.pairwise_append]
    refine ⟨h.as, hasN, fun p hp n hn => ?_⟩
    obtain ⟨c, hc, z, h1, rfl, h3⟩ := hN n hn
    exact h.ab p hp _ List.mem_cons_self c (hcs c hc)
  · rw [List.pairwise_append]
    refine ⟨apt.2, ?_, fun q hq n hn => ?_⟩
    · refine hasN.filterMap _ fun a a' haa b hb b' hb' => ?_
      have k : ∀ {a : Rw} {b : Nat × List Nat}, (a.1.head?.map fun y => (y, a.2)) = some b → b.2 = a.2 := by
        intro a b hb
        cases e : a.1.head? with
        | none => rw [e] at hb; cases hb
        | some w => rw [e] at hb; cases hb; rfl
      rw [k hb, k hb']
      exact haa
    · obtain ⟨c, hc, e2⟩ := hpN n hn
      rw [e2]
      exact h.ab _ (hPL q hq) _ List.mem_cons_self c (hcs c hc)
  · intro p hp q hq c hc
    rcases List.mem_append.mp hp with hp | hp <;> rcases List.mem_append.mp hq with hq | hq
    · exact h.ab p hp q (List.mem_cons_of_mem _ hq) c hc
    · obtain ⟨d, hd, e2⟩ := hpN q hq
      rw [e2]
      exact (h.ab p hp _ List.mem_cons_self d (hcs d hd)).trans (Ah.more _ c)
    · obtain ⟨d, hd, z, h1, rfl, h3⟩ := hN p hp
      exact (apt.1 q hq).snoc d c
    · obtain ⟨d, hd, z, h1, rfl, h3⟩ := hN p hp
      obtain ⟨d2, _, e2⟩ := hpN q hq
      rw [e2]
      refine Or.inl ?_
      rw [List.length_append, List.length_append, List.length_append]
      show row.length + 1 < row.length + 1 + 1
      omega
theorem BfI.start (hx : x ∈ sg) : BfI fs sg go x [] [([x], [])] [(x, [])] := by
  refine ⟨by simp, ?_, ?_, ?_, ?_, rfl, (fun q hq => by cases hq), List.mem_singleton.mpr rfl, List.pairwise_singleton _ _, List.pairwise_singleton _ _, ?_⟩
  · intro p hp
    rw [List.mem_singleton.mp hp]
    exact Or.inr ⟨x, hx, rfl⟩
  · intro p hp
    rw [List.mem_singleton.mp hp]
    rfl
  · intro p hp c hc
    rw [List.mem_singleton.mp hp] at hc
    cases hc
  · intro i p hp
    match i, hp with
    | 0, hp => cases hp; exact Nat.le_refl 0
  · intro p hp q hq c _
    rw [List.mem_singleton.mp hp, List.mem_singleton.mp hq]
    exact Ah.more [] c
theorem BfI.fin {D P : List (Nat × List Nat)} {L R : List Rw} (zi : ZIn fs sg) (hs : sg.Pairwise (· < ·)) (h : BfI fs sg go x D L P) (b : Bfs fs sg go L P R) : BfI fs sg go x (pend R) R [] := by
  induction b generalizing D with
  | nil L =>
    have e := h.pe
    rw [List.append_nil] at e
    rw [e]
    exact h
  | cons _ ih => exact ih (h.step zi hs)
/-- how many there are -/
theorem nodup_few : ∀ {l m : List (List Nat)}, l.Nodup → (∀ k ∈ l, k ∈ m) → l.length ≤ m.length
  | [], _, _, _ => Nat.zero_le _
  | k :: l, m, h, s => by
    obtain ⟨h1, h2⟩ := List.nodup_cons.mp h
    have h3 : k ∈ m := s k List.mem_cons_self
    have h4 := nodup_few (l := l) (m := m.erase k) h2 fun j hj => (List.mem_erase_of_ne (fun e => h1 (by rw [← e]; exact hj))).mpr (s j (List.mem_cons_of_mem _ hj))
    rw [List.length_erase_of_mem h3] at h4
    have := List.length_pos_of_mem h3
    show l.length + 1 ≤ _
    omega
theorem BfI.few {D P : List (Nat × List Nat)} {L : List Rw} (h : BfI fs sg go x D L P) : L.length ≤ sg.length + 1 := by
  have := nodup_few (m := [] :: sg.map fun c => [c]) h.nd fun k hk => by
    obtain ⟨p, hp, rfl⟩ := List.mem_map.mp hk
    rcases h.sh p hp with ⟨e, _⟩ | ⟨y, hy, e⟩
    · rw [e]
      exact List.mem_cons_self
    · rw [e]
      exact List.mem_cons_of_mem _ (List.mem_map.mpr ⟨y, hy, rfl⟩)
  rw [List.length_map] at this
  rw [List.length_cons, List.length_map] at this
  exact this
theorem BfI.rowLen {D P : List (Nat × List Nat)} {L : List Rw} (h : BfI fs sg go x D L P) {p : Rw} (hp : p ∈ L) : p.2.length ≤ sg.length := by
  obtain ⟨j, hj, ej⟩ := List.getElem_of_mem hp
  have h1 := h.le j p (by rw [List.getElem?_eq_getElem hj, ej])
  have h2 := h.few
  omega
/-! ### the first row by which it goes -/
def goR (fs : List Fd) (y : Nat) (row : List Nat) (cs : List Nat) : Option (List Nat) := cs.findSome? fun c => if leftM fs y c = some [] then some (row ++ [c]) else none
def firstGo (fs : List Fd) (sg : List Nat) (D : List (Nat × List Nat)) : Option (List Nat) := D.findSome? fun q => goR fs q.1 q.2 sg
def lookK (L : List Rw) (k : List Nat) : Option (List Nat) := (L.find? fun p => decide (p.1 = k)).map (·.2)
theorem lookK_app (L M : List Rw) (k : List Nat) : lookK (L ++ M) k = (lookK L k).or (lookK M k) := by
  unfold lookK
  rw [List.find?_append]
  cases L.find? fun p => decide (p.1 = k) <;> rfl
theorem lookK_has {L : List Rw} {k : List Nat} (h : hasK L k = true) : ∃ r, lookK L k = some r := by
  unfold lookK
  cases e : L.find? fun p => decide (p.1 = k) with
  | some p => exact ⟨_, rfl⟩
  | none =>
    obtain ⟨p, hp, e2⟩ := List.any_eq_true.mp h
    exact absurd e2 (List.find?_eq_none.mp e p hp)
theorem lookK_mem : ∀ {L : List Rw} {p : Rw}, (L.map (·.1)).Nodup → p ∈ L → lookK L p.1 = some p.2
  | [], p, _, h => by cases h
  | q :: L, p, nd, h => by
    obtain ⟨n1, n2⟩ := List.nodup_cons.mp nd
    unfold lookK
    by_cases e : q.1 = p.1
    · rw [List.find?_cons_of_pos (p := fun p' : Rw => decide (p'.1 = p.1)) (decide_eq_true e)]
      rcases List.mem_cons.mp h with rfl | h
      · rfl
      · exact absurd (List.mem_map.mpr ⟨p, h, e.symm⟩) n1
    · rw [List.find?_cons_of_neg (p := fun p' : Rw => decide (p'.1 = p.1)) (by simpa using e)]
      rcases List.mem_cons.mp h with rfl | h
      · exact absurd rfl e
      · exact lookK_mem n2 h
theorem go_item (y : Nat) (row : List Nat) : ∀ (cs : List Nat) (L : List Rw), lookK (cs.foldl (oneL fs true y row) L) [] = (lookK L []).or (goR fs y row cs)
  | [], L => by
    show lookK L [] = (lookK L []).or none
    cases lookK L [] <;> rfl
  | c :: cs, L => by
    rw [List.foldl_cons, go_item y row cs]
    have e1 : goR fs y row (c :: cs) = (if leftM fs y c = some [] then some (row ++ [c]) else none).or (goR fs y row cs) := by
      unfold goR
      rw [List.findSome?_cons]
      split <;> rename_i e2
      · rw [e2]
        rfl
      · rw [e2]
        rfl
    rw [e1]
    have e3 : lookK (oneL fs true y row L c) [] = (lookK L []).or (if leftM fs y c = some [] then some (row ++ [c]) else none) := by
      unfold oneL
      cases e : leftM fs y c with
      | none => rw [if_neg (by simp)]; cases lookK L [] <;> rfl
      | some z =>
        dsimp only
        by_cases hz : z = []
        · subst hz
          rw [if_pos rfl]
          by_cases hk : hasK L [] = true
          · rw [if_pos (by rw [hk]; rfl)]
            obtain ⟨r, er⟩ := lookK_has hk
            rw [er]
            rfl
          · have hk' : hasK L [] = false := by simpa using hk
            rw [if_neg (by rw [hk']; simp), lookK_app]
            rfl
        · rw [if_neg (show ¬ (some z = some ([] : List Nat)) from fun h => hz (Option.some.inj h))]
          have e5 : (lookK L []).or none = lookK L [] := by cases lookK L [] <;> rfl
          rw [e5]
          split
          · rfl
          · rw [lookK_app]
            have e4 : lookK [(z, row ++ [c])] [] = none := by
              unfold lookK
              rw [List.find?_cons_of_neg (by simpa using hz)]
              rfl
            rw [e4, e5]
    rw [e3]
    cases lookK L [] <;> rfl
theorem bfs_go {D P : List (Nat × List Nat)} {L R : List Rw} (b : Bfs fs sg true L P R) (hp : pend L = D ++ P) (h : lookK L [] = firstGo fs sg D) : lookK R [] = firstGo fs sg (pend R) := by
  induction b generalizing D with
  | nil L => rw [hp, List.append_nil, h]
  | @cons L R y row P b ih =>
    obtain ⟨cs, hsub, e, hz⟩ := item_app (fs := fs) (go := true) (y := y) (row := row) L sg
    have e1 : itemL fs sg true y row L = L ++ cs.map (fun c => ((leftM fs y c).getD [], row ++ [c])) := e
    refine ih (D := D ++ [(y, row)]) ?_ ?_
    · rw [e1, List.drop_left, pend_app, hp, List.append_assoc, List.append_assoc]
      rfl
    · have e2 := go_item (fs := fs) y row sg L
      rw [show itemL fs sg true y row L = sg.foldl (oneL fs true y row) L from rfl, e2, h]
      unfold firstGo
      rw [List.findSome?_append]
      congr 1
      rw [List.findSome?_cons]
      dsimp only
      cases goR fs y row sg <;> rfl
/-! with and without going -/
def flt (L : List Rw) : List Rw := L.filter fun p => decide (p.1 ≠ [])
theorem flt_app (L M : List Rw) : flt (L ++ M) = flt L ++ flt M := List.filter_append ..
theorem pend_flt : ∀ L : List Rw, pend (flt L) = pend L
  | [] => rfl
  | (k, r) :: L => by
    have ih := pend_flt L
    cases k with
    | nil =>
      show pend (flt L) = _
      rw [ih]
      rfl
    | cons a k =>
      show (a, r) :: pend (flt L) = _
      rw [ih]
      rfl
theorem hasK_flt {L : List Rw} {z : List Nat} (hz : z ≠ []) : hasK (flt L) z = hasK L z := by
  unfold hasK flt
  rw [List.any_filter]
  congr 1
  funext p
  by_cases h : p.1 = z
  · rw [decide_eq_true h, decide_eq_true (show p.1 ≠ [] by rw [h]; exact hz)]
    rfl
  · rw [decide_eq_false h, Bool.and_false]
theorem item_flt (y : Nat) (row : List Nat) : ∀ (cs : List Nat) (L : List Rw), flt (cs.foldl (oneL fs true y row) L) = cs.foldl (oneL fs false y row) (flt L)
  | [], L => rfl
  | c :: cs, L => by
    rw [List.foldl_cons, List.foldl_cons, item_flt y row cs]
    congr 1
    unfold oneL
    cases e : leftM fs y c with
    | none => rfl
    | some z =>
      dsimp only
      by_cases hz : z = []
      · subst hz
        rw [if_pos (show (hasK (flt L) [] || (decide (([] : List Nat) = []) && !false)) = true by rw [decide_eq_true rfl]; simp)]
        split
        · rfl
        · rw [flt_app]
          show flt L ++ [] = _
          rw [List.append_nil]
      · rw [hasK_flt hz, decide_eq_false hz, Bool.false_and, Bool.false_and]
        split
        · rfl
        · rw [flt_app]
          congr 1
          unfold flt
          exact List.filter_cons_of_pos (p := fun p' : Rw => decide (p'.1 ≠ [])) (a := (z, row ++ [c])) (l := []) (decide_eq_true hz)
theorem bfs_flt {P : List (Nat × List Nat)} {L R : List Rw} (b : Bfs fs sg true L P R) : Bfs fs sg false (flt L) P (flt R) := by
  induction b with
  | nil L => exact .nil _
  | @cons L R y row P b ih =>
    obtain ⟨cs, hsub, e, hz⟩ := item_app (fs := fs) (go := true) (y := y) (row := row) L sg
    have e1 : itemL fs sg true y row L = L ++ cs.map (fun c => ((leftM fs y c).getD [], row ++ [c])) := e
    have e2 : itemL fs sg false y row (flt L) = flt (itemL fs sg true y row L) := (item_flt y row sg L).symm
    have h := ih
    refine .cons ?_
    rw [e2]
    rw [e1, List.drop_left] at h
    rw [e1, flt_app, List.drop_left, pend_flt, ← flt_app]
    exact h
theorem bfs_eq {gs : List Fd} {P : List (Nat × List Nat)} {L R : List Rw} (h : ∀ a c, leftM fs a c = leftM gs a c) (b : Bfs fs sg go L P R) : Bfs gs sg go L P R := by
  have e : ∀ y row L, itemL fs sg go y row L = itemL gs sg go y row L := by
    intro y row L
    unfold itemL
    congr 1
    funext L c
    unfold oneL
    rw [h]
  induction b with
  | nil L => exact .nil L
  | cons b ih =>
    refine .cons ?_
    rw [← e]
    exact ih
theorem first_eq {gs : List Fd} {D : List (Nat × List Nat)} (h : ∀ a c, leftM fs a c = leftM gs a c) : firstGo fs sg D = firstGo gs sg D := by
  unfold firstGo goR
  simp only [h]
/-- what both searches tell -/
theorem ways_told {R R' : List Rw} {x : Nat} (b : Bfs fs sg true [([x], [])] [(x, [])] R) (b' : Bfs fs sg false [([x], [])] [(x, [])] R') : lookK R [] = firstGo fs sg (pend R') := by
  have h := bfs_go (D := []) b rfl rfl
  have e : flt R = R' := Bfs.det (bfs_flt b) b'
  rw [h, ← e, pend_flt]
theorem go_mem {y : Nat} {row cs b : List Nat} (h : goR fs y row cs = some b) : ∃ c ∈ cs, leftM fs y c = some [] ∧ b = row ++ [c] := by
  unfold goR at h
  obtain ⟨c, hc, e⟩ := List.exists_of_findSome?_eq_some h
  by_cases hl : leftM fs y c = some []
  · rw [if_pos hl] at e
    exact ⟨c, hc, hl, (Option.some.inj e).symm⟩
  · rw [if_neg hl] at e
    cases e
theorem first_mem {D : List (Nat × List Nat)} {b : List Nat} (h : firstGo fs sg D = some b) : ∃ q ∈ D, ∃ c ∈ sg, leftM fs q.1 c = some [] ∧ b = q.2 ++ [c] := by
  obtain ⟨q, hq, e⟩ := List.exists_of_findSome?_eq_some h
  exact ⟨q, hq, go_mem e⟩
theorem first_none {D : List (Nat × List Nat)} (h : firstGo fs sg D = none) {q : Nat × List Nat} (hq : q ∈ D) {c : Nat} (hc : c ∈ sg) : leftM fs q.1 c ≠ some [] := by
  intro e
  have h1 := List.findSome?_eq_none_iff.mp h q hq
  have h2 := List.findSome?_eq_none_iff.mp h1 c hc
  rw [if_pos e] at h2
  cases h2
end
end Lw

namespace Mq
open PySem PySem.Spec PyProof.Rows L2
/-! ### a value that is only read from here on -/
def tFrz (te : TE) : TE := fun σ H Q => te σ H fun x H1 => ∃ d u, x = .ref d ∧ H1 d = some u ∧ Mut (some u) ∧ ∀ od, Q (.ref d) (upd H1 d (.frz od u))
theorem pe_frz {X : Cx} {e : Expr} {te : TE} (h : PE X e te) : PE X e (tFrz te) := by
  refine ⟨fun pins s σ H Q I hw => ?_⟩
  refine thn (h.run pins s σ H _ I hw) fun v s1 ⟨x, H1, I1, r, d, u, ex, hd, mu, q⟩ => ?_
  subst ex
  obtain ⟨od, I2⟩ := I1.lock hd mu
  exact ⟨.ref d, _, I2, r, q od⟩
end Mq

namespace Lw
open PySem PySem.Spec PyProof.Rows L2 Mq
open SX (S)
/-! ### rows that turn a letter: the def -/
def rowsV (L : List Rw) : List (Key × V) := L.map fun p => (.inr (S p.1), V.str (S p.2))
def keysV (L : List Rw) : List V := L.map fun p => V.str (S p.1)
theorem rows_val (L : List Rw) (z : List Nat) : valV (rowsV L) (.inr (S z)) = (lookK L z).map fun r => V.str (S r) := by
  unfold valV rowsV lookK
  rw [List.find?_map, Option.map_map, Option.map_map]
  have e : ((fun kv : Key × V => decide (kv.1 = (.inr (S z) : Key))) ∘ fun p : Rw => ((.inr (S p.1) : Key), V.str (S p.2))) = fun p : Rw => decide (p.1 = z) := by
    funext p
    refine decide_eq_decide.mpr ⟨fun h => SX.S_inj (Sum.inr.inj h), fun h => ?_⟩
    show (Sum.inr (S p.1) : Key) = _
    rw [h]
  rw [e]
  rfl
theorem rows_some (L : List Rw) (z : List Nat) : (valV (rowsV L) (.inr (S z))).isSome = hasK L z := by
  rw [rows_val]
  cases h : hasK L z with
  | true =>
    obtain ⟨r, e⟩ := lookK_has h
    rw [e]
    rfl
  | false =>
    unfold lookK
    cases e : L.find? fun p => decide (p.1 = z) with
    | none => rfl
    | some p =>
      exfalso
      have h1 := List.find?_some e
      have h2 : hasK L z = true := List.any_eq_true.mpr ⟨p, List.mem_of_find?_eq_some e, h1⟩
      rw [h] at h2
      cases h2
theorem rows_put {L : List Rw} {z r : List Nat} (h : hasK L z = false) : putK (rowsV L) (.inr (S z)) (V.str (S r)) = rowsV (L ++ [(z, r)]) := by
  rw [putK_new]
  · unfold rowsV
    rw [List.map_append]
    rfl
  · intro p hp e
    obtain ⟨q, hq, rfl⟩ := List.mem_map.mp hp
    have h1 : q.1 = z := SX.S_inj (Sum.inr.inj e)
    have h2 : hasK L z = true := List.any_eq_true.mpr ⟨q, hq, decide_eq_true h1⟩
    rw [h] at h2
    cases h2
theorem asc_pair {l : List Nat} : ascB l = true ↔ l.Pairwise (· < ·) := by
  unfold ascB
  rw [List.pairwise_iff_getElem, List.all_eq_true]
  constructor
  · intro h
    have h1 : ∀ k, k + 1 < l.length → l.getD k 0 < l.getD (k + 1) 0 := by
      intro k hk
      have := h (decide (l.getD k 0 < l.getD (k + 1) 0)) (List.mem_map.mpr ⟨k, List.mem_range.mpr (by omega), rfl⟩)
      exact of_decide_eq_true this
    have h2 : ∀ n i, i + n + 1 < l.length → l.getD i 0 < l.getD (i + n + 1) 0 := by
      intro n
      induction n with
      | zero => exact fun i hi => h1 i hi
      | succ n ih => exact fun i hi => Nat.lt_trans (ih i (by omega)) (h1 (i + n + 1) (by omega))
    intro i j hi hj hij
    have := h2 (j - i - 1) i (by omega)
    rw [show i + (j - i - 1) + 1 = j by omega] at this
    rw [List.getD_eq_getElem?_getD, List.getD_eq_getElem?_getD, List.getElem?_eq_getElem hi, List.getElem?_eq_getElem hj] at this
    exact this
  · intro h b hb
    obtain ⟨k, hk, rfl⟩ := List.mem_map.mp hb
    have hk := List.mem_range.mp hk
    have := h k (k + 1) (by omega) (by omega) (by omega)
    rw [List.getD_eq_getElem?_getD, List.getD_eq_getElem?_getD, List.getElem?_eq_getElem (show k < l.length by omega), List.getElem?_eq_getElem (show k + 1 < l.length by omega)]
    exact decide_eq_true this
theorem sg_pair {sg : List Nat} (h : SgOk sg) : sg.Pairwise (· < ·) := by
  have := h.ok
  unfold lettersB at this
  exact asc_pair.mp (Bool.and_eq_true_iff.mp (Bool.and_eq_true_iff.mp this).2).1
theorem zin_of {sg : List Nat} {fs : List Fd} (h : FsOk sg fs) : ZIn fs sg := by
  intro y c z e
  unfold leftM at e
  cases hf : fs.find? fun f => decide (f.x = y) && decide (f.y = c) with
  | none => rw [hf] at e; cases e
  | some f =>
    rw [hf] at e
    cases e
    exact (h.ok f (List.mem_of_find?_eq_some hf)).2.2
def spTurn (C : Addr) : Sp := fun vs H Q _ => ∃ (r fa ta : Addr) (sg : List Nat) (fs : List Fd) (x : Nat), vs = [.ref r, .str (S [x])] ∧ BkAt H C r sg fs fa ta ∧ FsOk sg fs ∧ SgOk sg ∧ x ∈ sg ∧
  ∀ H' d R, Same H H' → H d = none → H' d = some (.dK (rowsV R)) → Bfs fs sg false [([x], [])] [(x, [])] R → BfI fs sg false x (pend R) R [] → Q (.ref d) H'
def atOf (σ : L2.St) : Nat := match σ[4]? with
  | some (some (V.int i)) => i.toNat
  | _ => 0
def tLt43 : TT := fun σ H Q => ∃ (i : Nat) (a : Addr) (xs : List V), σ[4]? = some (some (.int (i : Nat))) ∧ σ[3]? = some (some (.ref a)) ∧ H a = some (.lst xs) ∧ Q (decide (i < xs.length)) H
theorem item_len {fs : List Fd} {go : Bool} {y : Nat} {row : List Nat} (L : List Rw) (cs0 : List Nat) : (cs0.foldl (oneL fs go y row) L).length ≤ L.length + cs0.length := by
  obtain ⟨cs, h1, h2, _⟩ := item_app (fs := fs) (go := go) (y := y) (row := row) L cs0
  rw [h2, List.length_append, List.length_map]
  have := h1.length_le
  omega
theorem item_look {fs : List Fd} {go : Bool} {y : Nat} {row r : List Nat} {L : List Rw} {k : List Nat} (cs0 : List Nat) (h : lookK L k = some r) : lookK (cs0.foldl (oneL fs go y row) L) k = some r := by
  obtain ⟨cs, h1, h2, _⟩ := item_app (fs := fs) (go := go) (y := y) (row := row) L cs0
  rw [h2, lookK_app, h]
  rfl
theorem take_fold {α : Type} {f : α → Nat → α} {a : α} {l : List Nat} {i : Nat} (hi : i < l.length) : (l.take (i + 1)).foldl f a = f ((l.take i).foldl f a) (l.getD i 0) := by
  rw [List.take_add_one, List.foldl_append, List.getElem?_eq_getElem hi, List.getD_eq_getElem?_getD, List.getElem?_eq_getElem hi]
  rfl
section
variable {P : Program} {w : World} {K : PySem.W.Frag} {mg : Str → Option Value} {base : Heap} {C CW : Addr}
theorem ok_turning {f fL : Addr} {fd fdL : FuncData} (F : Fun K "turning_rows" "turning_rows" s_turning_rows f fd) (B : Blt mg) (R : BkC K C)
    (FL : Fun K "left_of" "Book.left_of" s_Book_left_of fL fdL) (mL : Meth K C "left_of" fL) (bL : Binds K fdL ["self", "last", "laid"] []) : FnOk P w K mg base CX0 2 f fd ["book", "letter"] (spTurn C) := by
  have GL : FnOk P w K mg base CX0 1 fL fdL ["self", "last", "laid"] (spLeft C) := ok_left FL R
  refine F.ok sc_turning_rows (fun vs H Q E h => ?_) (fun cdv A outer s H vs Q E hr h => ?_)
  · obtain ⟨_, _, _, _, _, _, rfl, _⟩ := h
    rfl
  · obtain ⟨r, fa, ta, sg, fs, x, rfl, hb, hfs, hs, hx, q⟩ := h
    have hu1 : (A.deeper (envOfC "turning_rows" (defScope s_turning_rows) s.heap.objs.size f cdv)).units + 1 < cLine := by
      have := hr.units
      omega
    have hr1 : Room 1 (A.deeper (envOfC "turning_rows" (defScope s_turning_rows) s.heap.objs.size f cdv)) := hr
    refine ⟨_, (pss_cons (ps_set (i := 2) sc_turning_rows.nd rfl (Or.inl rfl) (pe_disp (pps_cons (pv 1) pe_str pps_nil) (by rfl) (by rfl) (fun z => by cases z) (by decide)))
      (pss_cons (ps_set (i := 3) sc_turning_rows.nd rfl (Or.inl rfl) (Mq.pe_ls (pa_cons (pv 1) pa_nil)))
      (pss_cons (ps_set (i := 4) sc_turning_rows.nd rfl (Or.inl rfl) pe_int)
      (pss_cons (ps_while PassesOwn.never (PT_imp (t' := tLt43) (pt_cmpR op_lt (pv 4) (pe_callB call_len_seq (by rfl) B.len (by decide +kernel) (pa_cons (pv 3) pa_nil)) (nomark _)) (fun σ H Q h => by
          obtain ⟨i, a, xs, h4, h3, hl, q⟩ := h
          refine ⟨_, h4, _, h3, a, xs, rfl, .inl (SqL.of hl), _, _, rfl, rfl, ?_⟩
          have e : decide (((i : Nat) : Int) < ((xs.length : Nat) : Int)) = decide (i < xs.length) := decide_eq_decide.mpr (by omega)
          exact ⟨_, congrArg V.bl e, q⟩))
        (pss_cons (ps_set (i := 5) sc_turning_rows.nd rfl (Or.inl rfl) (pe_ix ix_list (pv 3) (pv 4) (fun _ _ => rfl)))
        (pss_cons (ps_aug (i := 4) sc_turning_rows.nd rfl (Or.inl rfl) pe_int ip_add)
        (pss_one (ps_for PassesOwn.never rfl (pi_str (pe_fld (pv 0) rfl)) (pg_name (i := 6) sc_turning_rows.nd rfl (Or.inl rfl))
          (pss_cons (ps_set (i := 7) sc_turning_rows.nd rfl (Or.inl rfl) (pe_methT (E := fun _ _ _ _ => False) (pv 0) R.cls mL GL hr1 bL (fun _ => cx0_at) (pa_cons (pv 5) (pa_cons (pv 6) pa_nil))))
          (pss_one (ps_if (PW.pt (pw_and (pt_truth (pv 7) (by intro _; rfl)) (pw_and1 (pt_cmp (pc_dnotin hu1 (pv 7) (pv 2)))))) (pss_cons (ps_dput hu1 (pv 2) (pv 7) (pe_op op_add_str (pe_dget hu1 (pv 2) (pv 5) (fun _ _ => rfl)) (pv 6)) rfl)
            (pss_one (ps_expr (pe_bm PySem.F.plainAttrs_list PySem.F.slot_list_append PySem.F.type_list_append mt_append (pv 3) (pa_cons (pv 7) pa_nil))))) pss_nil))))))))
      (pss_one (ps_ret (pv 2))))))), ?_⟩
    obtain ⟨dx, h1⟩ := hb.1
    have zi := zin_of hfs
    have sp := sg_pair hs
    have few := hs.few
    refine fun d hd => ⟨_, rfl, upd_same, [(.inr (S [x]), V.str (S []))], rfl, (by show 1 ≤ 15; decide), ?_⟩
    have eM : mergeK [] [((.inr (S [x]) : Key), V.str (S []))] = rowsV [([x], [])] := rfl
    rw [eM]
    have s1 : Same H (upd (upd H d (.dK [])) d (.dK (rowsV [([x], [])]))) := by
      intro b o e
      rw [upd_ne (ne_of_none e hd), upd_ne (ne_of_none e hd)]
      exact e
    have hd1 : upd (upd H d (.dK [])) d (.dK (rowsV [([x], [])])) d = some (.dK (rowsV [([x], [])])) := upd_same
    generalize upd (upd H d (.dK [])) d (.dK (rowsV [([x], [])])) = H1 at s1 hd1 ⊢
    refine ⟨_, rfl, sz_le (n := 1) (by decide), fun ql hql _ => ?_⟩
    have hqn : H ql = none := s1.free hql
    have hqd : ql ≠ d := by
      rintro rfl
      rw [hql] at hd1
      cases hd1
    have s2 := s1.trans (same_new (o := HO.lst [V.str (S [x])]) hql)
    have hd2 := same_new (o := HO.lst [V.str (S [x])]) hql _ _ hd1
    have hq2 : upd H1 ql (.lst [V.str (S [x])]) ql = some (.lst (keysV [([x], [])])) := upd_same
    generalize upd H1 ql (.lst [V.str (S [x])]) = H2 at s2 hd2 hq2 ⊢
    refine while_by (fun σ H' => ∃ (L : List Rw) (i : Nat) (D : List (Nat × List Nat)) (o5 o6 o7 : Option V), Same H H' ∧ H' d = some (.dK (rowsV L)) ∧ H' ql = some (.lst (keysV L)) ∧ i ≤ L.length ∧ BfI fs sg false x D L (pend (L.drop i)) ∧
        (∀ R, Bfs fs sg false L (pend (L.drop i)) R → Bfs fs sg false [([x], [])] [(x, [])] R) ∧ σ = [some (.ref r), some (.str (S [x])), some (.ref d), some (.ref ql), some (.int (i : Nat)), o5, o6, o7])
      (fun σ _ => 100 - atOf σ) ⟨[([x], [])], 0, [], none, none, none, s2, hd2, hq2, Nat.zero_le _, BfI.start hx, fun R h => h, rfl⟩ ?_ ?_
    · rintro σ H3 ⟨L, i, D, o5, o6, o7, s3, hd3, hq3, hi, hI, hB, rfl⟩
      have hLf := hI.few
      refine ⟨i, ql, keysV L, rfl, rfl, hq3, ?_⟩
      have ekl : (keysV L).length = L.length := List.length_map ..
      rw [ekl]
      by_cases hc : i < L.length
      · rw [decide_eq_true hc]
        refine ifT rfl ?_
        obtain ⟨y, hy, ey⟩ : ∃ y ∈ sg, L[i].1 = [y] := by
          rcases hI.sh _ (List.getElem_mem hc) with ⟨_, h⟩ | h
          · cases h
          · exact h
        generalize er : L[i].2 = row
        have eL : L[i] = ([y], row) := Prod.ext ey er
        have ed : pend (L.drop i) = (y, row) :: pend (L.drop (i + 1)) := by
          rw [List.drop_eq_getElem_cons hc, eL]
          rfl
        rw [ed] at hI hB
        have hmem : ([y], row) ∈ L := eL ▸ List.getElem_mem hc
        have hlk : lookK L [y] = some row := lookK_mem hI.nd hmem
        have hrl : row.length ≤ sg.length := hI.rowLen hmem
        have h3i : (keysV L)[i]? = some (V.str (S [y])) := by
          unfold keysV
          rw [List.getElem?_map, List.getElem?_eq_getElem hc, eL]
          rfl
        refine ⟨_, rfl, _, rfl, ql, _, _, _, rfl, rfl, SqL.of hq3, atI_nat h3i, ?_⟩
        refine ⟨_, rfl, _, _, rfl, rfl, ?_⟩
        refine ⟨_, rfl, r, _, dx, _, _, rfl, s3 _ _ h1, R.cls, R.nL, rfl, S sg, rfl, ?_⟩
        refine for_it (walk_S sg) (fun j σ H' => ∃ (o6 o7 : Option V), Same H H' ∧ H' d = some (.dK (rowsV ((sg.take j).foldl (oneL fs false y row) L))) ∧ H' ql = some (.lst (keysV ((sg.take j).foldl (oneL fs false y row) L))) ∧
            σ = [some (.ref r), some (.str (S [x])), some (.ref d), some (.ref ql), some (.int ((i : Nat) + 1)), some (.str (S [y])), o6, o7]) ⟨_, _, s3, hd3, hq3, rfl⟩ (fun _ _ _ _ _ => trivial) ?_ ?_
        · rintro j c σ H4 H5 hj ⟨o6, o7, s4, hd4, hq4, rfl⟩ ⟨rfl, rfl⟩
          have hL5 := item_len (fs := fs) (go := false) (y := y) (row := row) L (sg.take j)
          have hlk5 := item_look (fs := fs) (go := false) (y := y) (row := row) (sg.take j) hlk
          have htl : (sg.take j).length ≤ 10 := Nat.le_trans (List.length_take_le' ..) few
          rw [take_fold hj]
          generalize hgL : (sg.take j).foldl (oneL fs false y row) L = L5 at hd4 hq4 hL5 hlk5 ⊢
          refine ⟨_, rfl, r, dx, _, rfl, s4 _ _ h1, rfl, _, rfl, _, rfl, ?_⟩
          refine ⟨r, fa, ta, sg, fs, y, (sg.getD j 0), rfl, hb.same s4, fun H6 s6 => ?_⟩
          have hd6 := s6 _ _ hd4
          have hq6 := s6 _ _ hq4
          have s06 := s4.trans s6
          cases el : leftM fs y (sg.getD j 0) with
          | none =>
            refine ⟨_, rfl, false, rfl, ifF rfl ?_⟩
            refine ⟨_, _, s06, ?_, ?_, rfl⟩
            · rw [show oneL fs false y row L5 (sg.getD j 0) = L5 by unfold oneL; rw [el]]
              exact hd6
            · rw [show oneL fs false y row L5 (sg.getD j 0) = L5 by unfold oneL; rw [el]]
              exact hq6
          | some z =>
            have hz1 := left_len hfs el
            have hzl : (S z).length ≤ sizeLine := by
              rw [SX.S_len]
              exact sz_le (by omega)
            rcases zi _ _ _ el with rfl | ⟨c2, hc2, rfl⟩
            · refine ⟨_, rfl, false, ⟨hzl, rfl⟩, ifF rfl ?_⟩
              have e5 : oneL fs false y row L5 (sg.getD j 0) = L5 := by
                unfold oneL
                rw [el]
                exact if_pos (by rw [decide_eq_true rfl]; simp)
              refine ⟨_, _, s06, ?_, ?_, rfl⟩
              · rw [e5]
                exact hd6
              · rw [e5]
                exact hq6
            · refine ⟨_, rfl, true, ⟨hzl, rfl⟩, ifT rfl ?_⟩
              refine ⟨_, rfl, _, rfl, d, _, rfl, DGet.k (k := .inr (S [c2])) hd6, ?_⟩
              rw [rows_some]
              cases hk : hasK L5 [c2] with
              | true =>
                refine ⟨_, rfl, ifF rfl ?_⟩
                have e5 : oneL fs false y row L5 (sg.getD j 0) = L5 := by
                  unfold oneL
                  rw [el]
                  exact if_pos (by rw [hk]; rfl)
                refine ⟨_, _, s06, ?_, ?_, rfl⟩
                · rw [e5]
                  exact hd6
                · rw [e5]
                  exact hq6
              | false =>
                refine ⟨_, rfl, ifT rfl ?_⟩
                have e5 : oneL fs false y row L5 (sg.getD j 0) = L5 ++ [([c2], row ++ [(sg.getD j 0)])] := by
                  unfold oneL
                  rw [el]
                  exact if_neg (by rw [hk]; simp)
                rw [e5]
                have g6 : DGet H6 d (.str (S [y])) (some (.str (S row))) := by
                  have g := DGet.k (k := .inr (S [y])) hd6
                  rw [rows_val, hlk5] at g
                  exact g
                refine ⟨_, rfl, _, rfl, d, _, rfl, g6, ?_⟩
                refine ⟨_, rfl, S row, S [(sg.getD j 0)], rfl, rfl, ?_, ?_⟩
                · rw [SX.S_len, SX.S_len]
                  exact sz_le (by show row.length + 1 ≤ 1000000; omega)
                rw [SX.S_cat]
                refine ⟨_, rfl, _, rfl, d, _, rfl, DPut.k (k := .inr (S [c2])) hd6 (by unfold rowsV; rw [List.length_map]; exact sz_lt (by omega)), ?_⟩
                rw [rows_put hk]
                have hq7 : upd H6 d (.dK (rowsV (L5 ++ [([c2], row ++ [(sg.getD j 0)])]))) ql = some (.lst (keysV L5)) := (upd_ne hqd).trans hq6
                refine ⟨_, rfl, .inl ⟨rfl, _, SqL.of hq7⟩, _, rfl, ql, _, _, rfl, rfl, hq7, (by unfold keysV; rw [List.length_map]; exact sz_lt (by omega)), ?_⟩
                refine ⟨_, _, ?_, (upd_ne (Ne.symm hqd)).trans upd_same, ?_, rfl⟩
                · intro b o e
                  rw [upd_ne (ne_of_none e hqn), upd_ne (ne_of_none e hd)]
                  exact s06 b o e
                · rw [upd_same]
                  unfold keysV
                  rw [List.map_append]
                  rfl
        · rintro σ H4 ⟨o6, o7, s4, hd4, hq4, rfl⟩
          rw [List.take_length] at hd4 hq4
          have hst := hI.step zi sp
          obtain ⟨cs, hsub, e, hz⟩ := item_app (fs := fs) (go := false) (y := y) (row := row) L sg
          have e1 : itemL fs sg false y row L = L ++ cs.map (fun c => ((leftM fs y c).getD [], row ++ [c])) := e
          have e2 : pend ((itemL fs sg false y row L).drop (i + 1)) = pend (L.drop (i + 1)) ++ pend ((itemL fs sg false y row L).drop L.length) := by
            rw [e1, List.drop_left, List.drop_append_of_le_length (by omega), pend_app]
          rw [← e2] at hst
          refine ⟨⟨itemL fs sg false y row L, i + 1, _, _, _, _, s4, hd4, hq4, ?_, hst, fun R' hR' => hB R' ?_, rfl⟩, ?_⟩
          · rw [e1, List.length_append]
            omega
          · refine .cons ?_
            rw [← e2]
            exact hR'
          · show 100 - ((i : Int) + (1 : Nat)).toNat < 100 - (i : Int).toNat
            omega
      · rw [decide_eq_false hc]
        refine ifF rfl ?_
        have e0 : pend (L.drop i) = [] := by
          rw [List.drop_of_length_le (by omega)]
          rfl
        rw [e0] at hI hB
        have hR := hB L (.nil L)
        refine ⟨_, rfl, q H3 d L s3 hd hd3 hR (BfI.fin zi sp hI (.nil L))⟩
    · rintro σ H2 Q1 Q2 hq ⟨i, a, xs, h4, h3, hl, q1⟩
      exact ⟨i, a, xs, h4, h3, hl, hq _ _ q1⟩
end
end Lw

namespace Lw
open PySem PySem.Spec PyProof.Rows L2 Mq
open SX (S)
theorem all_filter (n : Nat) (q : Nat → Bool) : ((List.range n).map q).all id = ((List.range n).filter fun k => !q k).isEmpty := by
  rw [Bool.eq_iff_iff]
  simp [List.filter_eq_nil_iff]
theorem dp_signs {K : PySem.W.Frag} {H : Hp} (g : Nat → Str) : ∀ js : List Nat, DpAll K H (js.map fun k => V.str (g k)) (js.map fun k => PyData.str (g k))
  | [] => .nil
  | t :: ts => .cons (.str _) (dp_signs g ts)
theorem lay_signs (g : Nat → Str) : ∀ js : List Nat, (∀ k ∈ js, (PyData.str (g k)).canLay0 = true) → PyData.canLayAll0 (js.map fun k => PyData.str (g k)) = true ∧ PyData.depthAll (js.map fun k => PyData.str (g k)) = 0
  | [], _ => ⟨rfl, rfl⟩
  | t :: ts, h => by
    have ih := lay_signs g ts (fun k hk => h k (List.mem_cons_of_mem _ hk))
    constructor
    · show ((PyData.str (g t)).canLay0 && PyData.canLayAll0 (ts.map fun k => PyData.str (g k))) = true
      rw [h t (List.mem_cons_self ..), ih.1]
      rfl
    · show max 0 (PyData.depthAll (ts.map fun k => PyData.str (g k))) = 0
      rw [ih.2]
      rfl
theorem shaped_signs (g : Nat → Str) (js : List Nat) (h : ∀ k ∈ js, (PyData.str (g k)).canLay0 = true) : SeqAt.shaped (.list (js.map fun k => PyData.str (g k))) = true := by
  unfold SeqAt.shaped
  obtain ⟨a, b⟩ := lay_signs g js h
  rw [show (PyData.list (js.map fun k => PyData.str (g k))).canLay0 = true from a]
  have : (PyData.list (js.map fun k => PyData.str (g k))).depth ≤ 64 := by
    show PyData.depthAll _ + 1 ≤ 64
    omega
  rw [decide_eq_true this]
  rfl
theorem sign_ok {c : Nat} (h : c < 1114112) : (PyData.str (S [c])).canLay0 = true := by
  show (#[c] : Array Nat).all (fun d => decide (d < 1114112)) = true
  simp [h]
theorem eqv_nil (g : Nat → Str) (js : List Nat) : PyData.eqv (.list (js.map fun k => PyData.str (g k))) (.list []) = js.isEmpty := by
  cases js <;> rfl
end Lw

namespace Lw
open PySem PySem.Spec PyProof.Rows L2 Mq
open SX (S)
/-! ### the world that is drawn -/
def menuW : List (List Nat) := [[97, 98], [97, 98], [97, 98], [97, 109], [97, 98, 120]]
theorem menu_ok : ∀ sg ∈ menuW, SgOk sg ∧ sg.Nodup ∧ sg.length ≤ 3 := by
  intro sg h
  have h1 : (menuW.all fun sg => decide (0 < sg.length) && (decide (sg.length ≤ 3) && (sg.all (fun c => decide (c < 128)) && (lettersB sg && decide sg.Nodup)))) = true := by decide +kernel
  have h2 := List.all_eq_true.mp h1 sg h
  obtain ⟨a, h2⟩ := Bool.and_eq_true_iff.mp h2
  obtain ⟨b, h2⟩ := Bool.and_eq_true_iff.mp h2
  obtain ⟨c, h2⟩ := Bool.and_eq_true_iff.mp h2
  obtain ⟨d, e⟩ := Bool.and_eq_true_iff.mp h2
  have b' := of_decide_eq_true b
  exact ⟨⟨of_decide_eq_true a, by omega, fun x hx => of_decide_eq_true (List.all_eq_true.mp c x hx), d⟩, of_decide_eq_true e, b'⟩
def keyN (g : Fd) : Nat × Nat := (g.x, g.y)
def Apart (gs : List Fd) : Prop := gs.Pairwise fun a b => keyN a ≠ keyN b
structure GsOk (sg : List Nat) (gs : List Fd) : Prop where
  few : gs.length ≤ 200
  ok : ∀ f ∈ gs, fdOk sg f
  nd : Apart gs
theorem nd_inj {l : List Nat} (h : l.Nodup) {a b : Nat} (ha : a < l.length) (hb : b < l.length) (e : l.getD a 0 = l.getD b 0) : a = b := by
  rw [List.getD_eq_getElem?_getD, List.getD_eq_getElem?_getD, List.getElem?_eq_getElem ha, List.getElem?_eq_getElem hb] at e
  refine (List.getElem?_inj ha h).mp ?_
  rw [List.getElem?_eq_getElem ha, List.getElem?_eq_getElem hb]
  exact congrArg some e
theorem getD_mem {l : List Nat} {a : Nat} (ha : a < l.length) : l.getD a 0 ∈ l := by
  rw [List.getD_eq_getElem?_getD, List.getElem?_eq_getElem ha]
  exact List.getElem_mem ha
/-- what is drawn ahead of row i, column j -/
structure Part (sg : List Nat) (i j : Nat) (gs : List Fd) : Prop where
  len : gs.length ≤ 3 * i + j
  ok : ∀ f ∈ gs, fdOk sg f
  nd : Apart gs
  low : ∀ g ∈ gs, ∃ a b, a < sg.length ∧ b < sg.length ∧ g.x = sg.getD a 0 ∧ g.y = sg.getD b 0 ∧ (a < i ∨ (a = i ∧ b < j))
theorem Part.start (sg : List Nat) : Part sg 0 0 [] := ⟨Nat.zero_le _, (fun _ h => by cases h), .nil, fun _ h => by cases h⟩
theorem Part.skip {sg : List Nat} {i j : Nat} {gs : List Fd} (p : Part sg i j gs) : Part sg i (j + 1) gs :=
  ⟨by have := p.len; omega, p.ok, p.nd, fun g hg => by
    obtain ⟨a, b, h1, h2, h3, h4, h5⟩ := p.low g hg
    exact ⟨a, b, h1, h2, h3, h4, by omega⟩⟩
theorem Part.row {sg : List Nat} {i : Nat} {gs : List Fd} (p : Part sg i sg.length gs) (h3 : sg.length ≤ 3) : Part sg (i + 1) 0 gs :=
  ⟨by have := p.len; omega, p.ok, p.nd, fun g hg => by
    obtain ⟨a, b, h1, h2, h3, h4, h5⟩ := p.low g hg
    exact ⟨a, b, h1, h2, h3, h4, by omega⟩⟩
theorem Part.other {sg : List Nat} {i j : Nat} {gs : List Fd} (p : Part sg i j gs) (hn : sg.Nodup) (hi : i < sg.length) (hj : j < sg.length) : ∀ g ∈ gs, keyN g ≠ (sg.getD i 0, sg.getD j 0) := by
  intro g hg e
  obtain ⟨a, b, h1, h2, h3, h4, h5⟩ := p.low g hg
  injection e with e1 e2
  have := nd_inj hn h1 hi (h3.symm.trans e1)
  have := nd_inj hn h2 hj (h4.symm.trans e2)
  omega
theorem Part.put {sg z : List Nat} {i j : Nat} {gs : List Fd} (p : Part sg i j gs) (hn : sg.Nodup) (hi : i < sg.length) (hj : j < sg.length) (hz : z = [] ∨ ∃ c ∈ sg, z = [c]) :
    Part sg i (j + 1) (gs ++ [⟨sg.getD i 0, sg.getD j 0, z⟩]) := by
  refine ⟨by have := p.len; rw [List.length_append]; show gs.length + 1 ≤ _; omega, fun f hf => ?_, ?_, fun g hg => ?_⟩
  · rcases List.mem_append.mp hf with hf | hf
    · exact p.ok f hf
    · rw [List.mem_singleton.mp hf]
      exact ⟨getD_mem hi, getD_mem hj, hz⟩
  · refine List.pairwise_append.mpr ⟨p.nd, List.pairwise_singleton _ _, fun a ha b hb => ?_⟩
    rw [List.mem_singleton.mp hb]
    exact p.other hn hi hj a ha
  · rcases List.mem_append.mp hg with hg | hg
    · exact p.skip.low g hg
    · rw [List.mem_singleton.mp hg]
      exact ⟨i, j, hi, hj, rfl, rfl, Or.inr ⟨rfl, Nat.lt_succ_self j⟩⟩
theorem tab_new {gs : List Fd} {x y : Nat} (h : ∀ g ∈ gs, keyN g ≠ (x, y)) : ∀ p ∈ tabF gs, p.1 ≠ [Sum.inr (S [x]), Sum.inr (S [y])] := by
  intro p hp e
  obtain ⟨g, hg, rfl⟩ := List.mem_map.mp hp
  injection e with e1 e2
  injection e2 with e2 _
  exact h g hg (Prod.ext (S_one.mp (Sum.inr.inj e1)) (S_one.mp (Sum.inr.inj e2)))
def itemOk (v : V) : Prop := v = .non ∨ v = .str "" ∨ v = .str "!"
def MenuAt (H : Hp) (D C p : Addr) : Prop := p ≠ D ∧ p ≠ C ∧ ∃ xs : List V, H p = some (.lst xs) ∧ 0 < xs.length ∧ xs.length ≤ 10 ∧ ∀ v ∈ xs, itemOk v
theorem MenuAt.same {H H' : Hp} {D C p : Addr} (h : MenuAt H D C p) (e : Same H H') : MenuAt H' D C p := let ⟨a, b, xs, c, d⟩ := h; ⟨a, b, xs, e _ _ c, d⟩
theorem MenuAt.off {H H' : Hp} {D C p : Addr} (h : MenuAt H D C p) (e : Off D C H H') : MenuAt H' D C p := let ⟨a, b, xs, c, d⟩ := h; ⟨a, b, xs, e _ _ a b c, d⟩
theorem new_ne {D C : Addr} {T : Nat} {H : Hp} {q : Addr} (k : DeckAt D C T H) (h : H q = none) : q ≠ D ∧ q ≠ C := by
  obtain ⟨_, _, _, e1, e2, _⟩ := k.ex
  refine ⟨?_, ?_⟩
  · rintro rfl
    rw [h] at e1
    cases e1
  · rintro rfl
    rw [h] at e2
    cases e2
def spWorld : Sp := fun vs H Q _ => ∃ (D C : Addr) (T : Nat), vs = [.ref D] ∧ DeckAt D C T H ∧ T ≤ 900000 ∧
  ∀ H' wd ld sg gs, sg ∈ menuW → GsOk sg gs → WAt H' wd ld sg gs → DeckAt D C (T + 30) H' → Off D C H H' → Q (.ref wd) H'
section
variable {P : Program} {w : World} {K : PySem.W.Frag} {mg : Str → Option Value} {base : Heap}
theorem ok_world {f fP : Addr} {fd fdP : FuncData} (F : Fun K "_law_world" "_law_world" s__law_world f fd)
    (FP : Fun K "_law_pick" "_law_pick" s__law_pick fP fdP) (gP : mg "_law_pick" = some (.ref fP)) (bP : Binds K fdP ["_law_deck_here", "_law_some"] []) (GP : FnOk P w K mg base CX0 2 fP fdP ["_law_deck_here", "_law_some"] spPick) :
    FnOk P w K mg base CX0 3 f fd ["_law_deck_here"] spWorld := by
  refine F.ok sc__law_world (fun vs H Q E h => ?_) (fun cdv A outer s H vs Q E hr h => ?_)
  · obtain ⟨_, _, _, rfl, _⟩ := h
    rfl
  · obtain ⟨D, C, T, rfl, hdk, hT, q⟩ := h
    have hu1 : (A.deeper (envOfC "_law_world" (defScope s__law_world) s.heap.objs.size f cdv)).units + 1 < cLine := by
      have := hr.units
      omega
    refine ⟨_, (pss_cons (ps_par (i := 1) (j := 2) rfl sc__law_world.nd rfl rfl (by decide) rfl rfl (pa_cons (pe_call GP (hr.mono (by decide)) (by rfl) gP FP.kp bP .nil pass0 (pa_cons (pv 0) (pa_cons (pe_ls (pa_cons pe_str (pa_cons pe_str (pa_cons pe_str (pa_cons pe_str (pa_cons pe_str pa_nil)))))) pa_nil))) (pa_cons pe_dnewT pa_nil)) (by rfl))
      (pss_cons (ps_set (i := 3) sc__law_world.nd rfl (Or.inl rfl) (pe_ls (pa_cons (pe_ls (pa_cons pe_non (pa_cons pe_non (pa_cons pe_str (pa_cons pe_str pa_nil))))) (pa_cons (pe_ls (pa_cons pe_non (pa_cons pe_str (pa_cons pe_str (pa_cons pe_str pa_nil))))) (pa_cons (pe_ls (pa_cons pe_non (pa_cons pe_str (pa_cons pe_str (pa_cons pe_str pa_nil))))) (pa_cons (pe_ls (pa_cons pe_non (pa_cons pe_non (pa_cons pe_non (pa_cons pe_str pa_nil))))) (pa_cons (pe_ls (pa_cons pe_non (pa_cons pe_str (pa_cons pe_str pa_nil)))) pa_nil)))))))
      (pss_cons (ps_set (i := 4) sc__law_world.nd rfl (Or.inl rfl) (pe_call GP (hr.mono (by decide)) (by rfl) gP FP.kp bP .nil pass0 (pa_cons (pv 0) (pa_cons (pv 3) pa_nil))))
      (pss_cons (ps_for PassesOwn.never rfl (pi_str (pv 1)) (pg_name (i := 5) sc__law_world.nd rfl (Or.inl rfl))
        (pss_one (ps_for PassesOwn.never rfl (pi_str (pv 1)) (pg_name (i := 6) sc__law_world.nd rfl (Or.inl rfl))
          (pss_cons (ps_set (i := 7) sc__law_world.nd rfl (Or.inl rfl) (pe_call GP (hr.mono (by decide)) (by rfl) gP FP.kp bP .nil pass0 (pa_cons (pv 0) (pa_cons (pv 4) pa_nil))))
          (pss_one (ps_if (pt_cmpR op_notN (pv 7) pe_non (nomark _)) (pss_one (ps_dput hu1 (pv 2) (pe_tup (pa_cons (pv 5) (pa_cons (pv 6) pa_nil))) (pe_ifExp (pt_cmpR op_eq (pv 7) pe_str (nomark _)) (pv 7) (pe_call GP (hr.mono (by decide)) (by rfl) gP FP.kp bP .nil pass0 (pa_cons (pv 0) (pa_cons (pv 1) pa_nil)))) rfl)) pss_nil))))))
      (pss_one (ps_ret (pe_disp (pps_cons pe_str (pv 1) (pps_cons pe_str (pv 2) pps_nil)) (by rfl) (by rfl) (fun z => by cases z) (by decide)))))))), ?_⟩
    refine ⟨_, rfl, sz_le (n := 5) (by decide), fun p hp _ => ?_⟩
    have dk1 := hdk.same (same_new (o := HO.lst [V.str "ab", V.str "ab", V.str "ab", V.str "am", V.str "abx"]) hp)
    refine ⟨D, C, _, .ref p, rfl, dk1, by omega, Or.inr ⟨p, _, rfl, upd_same, (new_ne hdk hp).2, Nat.zero_lt_succ _, by decide, fun H2 v hv dk2 off2 => ?_⟩⟩
    obtain ⟨sg, hsg, rfl⟩ : ∃ sg ∈ menuW, v = .str (S sg) := by
      simp only [List.mem_cons, List.not_mem_nil, or_false] at hv
      rcases hv with rfl | rfl | rfl | rfl | rfl
      · exact ⟨[97, 98], by decide, by decide +kernel⟩
      · exact ⟨[97, 98], by decide, by decide +kernel⟩
      · exact ⟨[97, 98], by decide, by decide +kernel⟩
      · exact ⟨[97, 109], by decide, by decide +kernel⟩
      · exact ⟨[97, 98, 120], by decide, by decide +kernel⟩
    have off02 : Off D C H H2 := (Off.same (same_new hp)).trans off2
    obtain ⟨hs, hnd, h3⟩ := menu_ok sg hsg
    clear hv off2 dk1
    refine fun ld hld => ?_
    have dk3 := dk2.same (same_new (o := HO.dT []) hld)
    have hneH : ∀ b o, b ≠ D → b ≠ C → H b = some o → b ≠ ld := fun b o h1 h2 e => ne_of_none (off02 b o h1 h2 e) hld
    have off03 : Off D C H (upd H2 ld (.dT [])) := off02.trans (Off.same (same_new hld))
    have hl3 : upd H2 ld (.dT []) ld = some (.dT (tabF [])) := upd_same
    generalize upd H2 ld (.dT []) = H3 at dk3 off03 hl3 ⊢
    refine ⟨_, _, rfl, ?_⟩
    refine ⟨sz_le (n := 4) (by decide), fun m1 hm1 _ => ?_⟩
    have k1 : MenuAt (upd H3 m1 (.lst [V.non, V.non, V.str "", V.str "!"])) D C m1 := ⟨(new_ne dk3 hm1).1, (new_ne dk3 hm1).2, _, upd_same, Nat.zero_lt_succ _, by decide, by
      intro v hv
      simp only [List.mem_cons, List.not_mem_nil, or_false] at hv
      rcases hv with rfl | rfl | rfl | rfl
      · exact Or.inl rfl
      · exact Or.inl rfl
      · exact Or.inr (Or.inl rfl)
      · exact Or.inr (Or.inr rfl)⟩
    have s1 := same_new (o := HO.lst [V.non, V.non, V.str "", V.str "!"]) hm1
    generalize upd H3 m1 (.lst [V.non, V.non, V.str "", V.str "!"]) = G1 at k1 s1 ⊢
    refine ⟨sz_le (n := 4) (by decide), fun m2 hm2 _ => ?_⟩
    have e1 := dk3.same s1
    have k2 : MenuAt (upd G1 m2 (.lst [V.non, V.str "", V.str "", V.str "!"])) D C m2 := ⟨(new_ne e1 hm2).1, (new_ne e1 hm2).2, _, upd_same, Nat.zero_lt_succ _, by decide, by
      intro v hv
      simp only [List.mem_cons, List.not_mem_nil, or_false] at hv
      rcases hv with rfl | rfl | rfl | rfl
      · exact Or.inl rfl
      · exact Or.inr (Or.inl rfl)
      · exact Or.inr (Or.inl rfl)
      · exact Or.inr (Or.inr rfl)⟩
    have t2 := same_new (o := HO.lst [V.non, V.str "", V.str "", V.str "!"]) hm2
    have s2 := s1.trans t2
    have k1 := k1.same t2
    generalize upd G1 m2 (.lst [V.non, V.str "", V.str "", V.str "!"]) = G2 at k1 k2 s2 ⊢
    refine ⟨sz_le (n := 4) (by decide), fun m3 hm3 _ => ?_⟩
    have e2 := dk3.same s2
    have k3 : MenuAt (upd G2 m3 (.lst [V.non, V.str "!", V.str "!", V.str ""])) D C m3 := ⟨(new_ne e2 hm3).1, (new_ne e2 hm3).2, _, upd_same, Nat.zero_lt_succ _, by decide, by
      intro v hv
      simp only [List.mem_cons, List.not_mem_nil, or_false] at hv
      rcases hv with rfl | rfl | rfl | rfl
      · exact Or.inl rfl
      · exact Or.inr (Or.inr rfl)
      · exact Or.inr (Or.inr rfl)
      · exact Or.inr (Or.inl rfl)⟩
    have t3 := same_new (o := HO.lst [V.non, V.str "!", V.str "!", V.str ""]) hm3
    have s3 := s2.trans t3
    have k1 := k1.same t3
    have k2 := k2.same t3
    generalize upd G2 m3 (.lst [V.non, V.str "!", V.str "!", V.str ""]) = G3 at k1 k2 k3 s3 ⊢
    refine ⟨sz_le (n := 4) (by decide), fun m4 hm4 _ => ?_⟩
    have e3 := dk3.same s3
    have k4 : MenuAt (upd G3 m4 (.lst [V.non, V.non, V.non, V.str ""])) D C m4 := ⟨(new_ne e3 hm4).1, (new_ne e3 hm4).2, _, upd_same, Nat.zero_lt_succ _, by decide, by
      intro v hv
      simp only [List.mem_cons, List.not_mem_nil, or_false] at hv
      rcases hv with rfl | rfl | rfl | rfl
      · exact Or.inl rfl
      · exact Or.inl rfl
      · exact Or.inl rfl
      · exact Or.inr (Or.inl rfl)⟩
    have t4 := same_new (o := HO.lst [V.non, V.non, V.non, V.str ""]) hm4
    have s4 := s3.trans t4
    have k1 := k1.same t4
    have k2 := k2.same t4
    have k3 := k3.same t4
    generalize upd G3 m4 (.lst [V.non, V.non, V.non, V.str ""]) = G4 at k1 k2 k3 k4 s4 ⊢
    refine ⟨sz_le (n := 3) (by decide), fun m5 hm5 _ => ?_⟩
    have e4 := dk3.same s4
    have k5 : MenuAt (upd G4 m5 (.lst [V.non, V.str "", V.str "!"])) D C m5 := ⟨(new_ne e4 hm5).1, (new_ne e4 hm5).2, _, upd_same, Nat.zero_lt_succ _, by decide, by
      intro v hv
      simp only [List.mem_cons, List.not_mem_nil, or_false] at hv
      rcases hv with rfl | rfl | rfl
      · exact Or.inl rfl
      · exact Or.inr (Or.inl rfl)
      · exact Or.inr (Or.inr rfl)⟩
    have t5 := same_new (o := HO.lst [V.non, V.str "", V.str "!"]) hm5
    have s5 := s4.trans t5
    have k1 := k1.same t5
    have k2 := k2.same t5
    have k3 := k3.same t5
    have k4 := k4.same t5
    generalize upd G4 m5 (.lst [V.non, V.str "", V.str "!"]) = G5 at k1 k2 k3 k4 k5 s5 ⊢
    refine ⟨sz_le (n := 5) (by decide), fun ms hms _ => ?_⟩
    have e5 := dk3.same s5
    have t6 := same_new (o := HO.lst [V.ref m1, V.ref m2, V.ref m3, V.ref m4, V.ref m5]) hms
    have s6 := s5.trans t6
    have hk : ∀ v ∈ [V.ref m1, V.ref m2, V.ref m3, V.ref m4, V.ref m5], ∃ pm, v = .ref pm ∧ MenuAt (upd G5 ms (.lst [V.ref m1, V.ref m2, V.ref m3, V.ref m4, V.ref m5])) D C pm := by
      intro v hv
      simp only [List.mem_cons, List.not_mem_nil, or_false] at hv
      rcases hv with rfl | rfl | rfl | rfl | rfl
      · exact ⟨_, rfl, k1.same t6⟩
      · exact ⟨_, rfl, k2.same t6⟩
      · exact ⟨_, rfl, k3.same t6⟩
      · exact ⟨_, rfl, k4.same t6⟩
      · exact ⟨_, rfl, k5.same t6⟩
    refine ⟨_, rfl, _, rfl, D, C, _, .ref ms, rfl, dk3.same s6, by omega, Or.inr ⟨ms, _, rfl, upd_same, (new_ne e5 hms).2, Nat.zero_lt_succ _, by show 5 ≤ 1000; decide, fun H4 v hv dk4 off4 => ?_⟩⟩
    obtain ⟨pm, rfl, kpm⟩ := hk v hv
    have km4 := kpm.off off4
    have hl4 := off4.at (dk3.same s6) (s6 _ _ hl3) ⟨(fun _ z => nomatch z), (fun _ z => nomatch z)⟩
    have off04 : Off D C H H4 := (off03.trans (Off.same s6)).trans off4
    clear kpm k1 k2 k3 k4 k5 hk hv e1 e2 e3 e4 e5 off4 s6 t6 s5 t5 s4 t4 s3 t3 s2 t2 s1
    refine ⟨_, rfl, S sg, rfl, ?_⟩
    refine for_it (walk_S sg) (fun i σ H' => DeckAt D C (T + 2 + 6 * i) H' ∧ Off D C H H' ∧ MenuAt H' D C pm ∧ ∃ gs o5 o6 o7, Part sg i 0 gs ∧ H' ld = some (.dT (tabF gs)) ∧ σ = [some (.ref D), some (.str (S sg)), some (.ref ld), some (.ref ms), some (.ref pm), o5, o6, o7])
      ⟨dk4.mono (by omega), off04, km4, [], _, _, _, Part.start sg, hl4, rfl⟩ (fun _ _ _ _ _ => trivial) ?_ ?_
    · rintro i x σ H5 H5' hi ⟨dk5, off5, km5, gs0, o5, o6, o7, hp0, hl5, rfl⟩ ⟨rfl, rfl⟩
      refine ⟨_, rfl, S sg, rfl, ?_⟩
      refine for_it (walk_S sg) (fun j σ H' => DeckAt D C (T + 2 + 6 * i + 2 * j) H' ∧ Off D C H H' ∧ MenuAt H' D C pm ∧ ∃ gs o6 o7, Part sg i j gs ∧ H' ld = some (.dT (tabF gs)) ∧ σ = [some (.ref D), some (.str (S sg)), some (.ref ld), some (.ref ms), some (.ref pm), some (.str (S [sg.getD i 0])), o6, o7])
        ⟨dk5, off5, km5, gs0, _, _, hp0, hl5, rfl⟩ (fun _ _ _ _ _ => trivial) ?_ ?_
      · rintro j x σ H6 H6' hj ⟨dk6, off6, km6, gs, o6, o7, hp6, hl6, rfl⟩ ⟨rfl, rfl⟩
        obtain ⟨kD, kC, xs, hpm, hx0, hx1, hxs⟩ := km6
        refine ⟨_, rfl, _, rfl, D, C, _, .ref pm, rfl, dk6, by omega, Or.inr ⟨pm, xs, rfl, hpm, kC, hx0, by omega, fun H7 v hv dk7 off7 => ?_⟩⟩
        have km7 : MenuAt H7 D C pm := MenuAt.off ⟨kD, kC, xs, hpm, hx0, hx1, hxs⟩ off7
        have hl7 := off7.at dk6 hl6 ⟨(fun _ z => nomatch z), (fun _ z => nomatch z)⟩
        have off07 := off6.trans off7
        have hlen : (tabF gs).length < sizeLine := by
          unfold tabF
          rw [List.length_map]
          have := hp6.len
          exact sz_lt (by omega)
        have put : ∀ (H8 : Hp) (z : List Nat) (T' : Nat), (z = [] ∨ ∃ c ∈ sg, z = [c]) → DeckAt D C T' H8 → T' ≤ T + 2 + 6 * i + 2 * (j + 1) → Off D C H H8 → MenuAt H8 D C pm → H8 ld = some (.dT (tabF gs)) → ∀ p, H8 p = none →
            DPut (upd H8 p (.tup [.str (S [sg.getD i 0]), .str (S [sg.getD j 0])])) ld (.ref p) (.str (S z)) (upd (upd H8 p (.tup [.str (S [sg.getD i 0]), .str (S [sg.getD j 0])])) ld (.dT (tabF (gs ++ [⟨sg.getD i 0, sg.getD j 0, z⟩])))) ∧
            DeckAt D C (T + 2 + 6 * i + 2 * (j + 1)) (upd (upd H8 p (.tup [.str (S [sg.getD i 0]), .str (S [sg.getD j 0])])) ld (.dT (tabF (gs ++ [⟨sg.getD i 0, sg.getD j 0, z⟩])))) ∧
            Off D C H (upd (upd H8 p (.tup [.str (S [sg.getD i 0]), .str (S [sg.getD j 0])])) ld (.dT (tabF (gs ++ [⟨sg.getD i 0, sg.getD j 0, z⟩])))) ∧
            MenuAt (upd (upd H8 p (.tup [.str (S [sg.getD i 0]), .str (S [sg.getD j 0])])) ld (.dT (tabF (gs ++ [⟨sg.getD i 0, sg.getD j 0, z⟩])))) D C pm := by
          intro H8 z T' hz dk8 hT8 off8 km8 hl8 p hp
          have s9 := same_new (o := HO.tup [.str (S [sg.getD i 0]), .str (S [sg.getD j 0])]) hp
          have hl9 := s9 _ _ hl8
          have dk9 := (dk8.same s9).mono hT8
          have km9 := km8.same s9
          have hk9 : upd H8 p (.tup [.str (S [sg.getD i 0]), .str (S [sg.getD j 0])]) p = some (.tup [.str (S [sg.getD i 0]), .str (S [sg.getD j 0])]) := upd_same
          have off9 := off8.trans (Off.same s9)
          generalize upd H8 p (.tup [.str (S [sg.getD i 0]), .str (S [sg.getD j 0])]) = H9 at hl9 dk9 km9 hk9 off9 ⊢
          have hput : putK (tabF gs) [Sum.inr (S [sg.getD i 0]), Sum.inr (S [sg.getD j 0])] (V.str (S z)) = tabF (gs ++ [⟨sg.getD i 0, sg.getD j 0, z⟩]) := by
            rw [putK_new (tab_new (hp6.other hnd hi hj))]
            exact (tab_snoc gs ⟨sg.getD i 0, sg.getD j 0, z⟩).symm
          have nD : D ≠ ld := by
            rintro rfl
            obtain ⟨_, _, _, e, _⟩ := dk9.ex
            rw [hl9] at e
            cases e
          have nC : C ≠ ld := by
            rintro rfl
            obtain ⟨_, _, _, _, e, _⟩ := dk9.ex
            rw [hl9] at e
            cases e
          refine ⟨?_, ?_, ?_, ?_⟩
          · rw [← hput]
            exact DPut.t (k := [Sum.inr (S [sg.getD i 0]), Sum.inr (S [sg.getD j 0])]) hl9 hk9 hlen
          · obtain ⟨m, t, js, a1, a2, a3, a4⟩ := dk9.ex
            exact ⟨m, t, js, (upd_ne nD).trans a1, (upd_ne nC).trans a2, a3, a4⟩
          · intro b o h1 h2 e
            rw [upd_ne (hneH b o h1 h2 e)]
            exact off9 b o h1 h2 e
          · obtain ⟨kD, kC, xs, hpm, kr⟩ := km9
            refine ⟨kD, kC, xs, (upd_ne ?_).trans hpm, kr⟩
            rintro rfl
            rw [hl9] at hpm
            cases hpm
        rcases hxs v hv with rfl | rfl | rfl
        · refine ⟨_, rfl, rfl, _, rfl, ifF rfl ?_⟩
          exact ⟨dk7.mono (by omega), off07, km7, gs, _, _, hp6.skip, hl7, rfl⟩
        · refine ⟨_, rfl, rfl, _, rfl, ifT rfl ?_⟩
          refine ⟨_, rfl, rfl, _, rfl, ifT (by decide +kernel) ⟨_, rfl, _, rfl, _, rfl, _, rfl, sz_le (n := 2) (by decide), fun p hp => ?_⟩⟩
          obtain ⟨a1, a2, a3, a4⟩ := put H7 [] _ (Or.inl rfl) dk7 (by omega) off07 km7 hl7 p hp
          exact ⟨ld, _, rfl, a1, a2, a3, a4, _, _, _, hp6.put hnd hi hj (Or.inl rfl), upd_same, rfl⟩
        · refine ⟨_, rfl, rfl, _, rfl, ifT rfl ?_⟩
          refine ⟨_, rfl, rfl, _, rfl, ifF (by decide +kernel) ⟨_, rfl, _, rfl, D, C, _, _, rfl, dk7, by omega, Or.inl ⟨sg, rfl, hs.pos, by omega, fun H8 c hc dk8 off8 => ?_⟩⟩⟩
          refine ⟨_, rfl, _, rfl, _, rfl, sz_le (n := 2) (by decide), fun p hp => ?_⟩
          have hl8 := off8.at dk7 hl7 ⟨(fun _ z => nomatch z), (fun _ z => nomatch z)⟩
          obtain ⟨a1, a2, a3, a4⟩ := put H8 [c] _ (Or.inr ⟨c, hc, rfl⟩) dk8 (by omega) (off07.trans off8) (km7.off off8) hl8 p hp
          exact ⟨ld, _, rfl, a1, a2, a3, a4, _, _, _, hp6.put hnd hi hj (Or.inr ⟨c, hc, rfl⟩), upd_same, rfl⟩
      · rintro σ H6 ⟨dk6, off6, km6, gs, o6, o7, hp6, hl6, rfl⟩
        exact ⟨dk6.mono (by omega), off6, km6, gs, _, _, _, hp6.row h3, hl6, rfl⟩
    · rintro σ H5 ⟨dk5, off5, km5, gs, o5, o6, o7, hp5, hl5, rfl⟩
      refine fun wd hwd => ?_
      have s7 := same_new (o := HO.dK []) hwd
      refine ⟨_, rfl, _, rfl, upd_same, wKv sg ld, rfl, by show 2 ≤ 15; decide, ?_⟩
      have nl : ld ≠ wd := by
        rintro rfl
        rw [hl5] at hwd
        cases hwd
      obtain ⟨nD, nC⟩ := new_ne dk5 hwd
      refine q _ wd ld sg gs hsg ⟨by have := hp5.len; omega, hp5.ok, hp5.nd⟩ ⟨upd_same.trans ?_, (upd_ne nl).trans ((upd_ne nl).trans hl5)⟩ ?_ ?_
      · rfl
      · obtain ⟨m, t, js, a1, a2, a3, a4⟩ := (dk5.mono (T' := T + 30) (by omega)).ex
        exact ⟨m, t, js, (upd_ne (Ne.symm nD)).trans ((upd_ne (Ne.symm nD)).trans a1), (upd_ne (Ne.symm nC)).trans ((upd_ne (Ne.symm nC)).trans a2), a3, a4⟩
      · intro b o h1 h2 e
        have e5 := off5 b o h1 h2 e
        rw [upd_ne (ne_of_none e5 hwd)]
        exact s7 b o e5
end
end Lw

namespace Lw
open PySem PySem.Spec PyProof.Rows L2 Mq
open SX (S)
/-! ### folds in order -/
theorem ltSS_irr (x : Str × Str) : ltSS x x = false := (PyProof.Rows.listOrd PyProof.Rows.itemOrd).irrefl (txt2 x)
theorem ltSS_trans {x y z : Str × Str} (h1 : ltSS x y = true) (h2 : ltSS y z = true) : ltSS x z = true := (PyProof.Rows.listOrd PyProof.Rows.itemOrd).trans (txt2 x) (txt2 y) (txt2 z) h1 h2
def AscP (fs : List Fd) : Prop := fs.Pairwise fun a b => ltSS (keyF a) (keyF b) = true
theorem asc_uniq : ∀ {l m : List Fd}, AscP l → AscP m → l.Perm m → l = m
  | [], m, _, _, h => h.nil_eq
  | a :: l, [], _, _, h => h.eq_nil
  | a :: l, b :: m, hl, hm, h => by
    obtain ⟨h1, h2⟩ := List.pairwise_cons.mp hl
    obtain ⟨h3, h4⟩ := List.pairwise_cons.mp hm
    have e : a = b := by
      rcases List.mem_cons.mp (h.mem_iff.mp (List.mem_cons_self (a := a) (l := l))) with e | e
      · exact e
      · rcases List.mem_cons.mp (h.mem_iff.mpr (List.mem_cons_self (a := b) (l := m))) with e2 | e2
        · exact e2.symm
        · have := ltSS_trans (h1 b e2) (h3 a e)
          rw [ltSS_irr] at this
          cases this
    subst e
    rw [asc_uniq h2 h4 h.cons_inv]
theorem key_apart {f g : Fd} (h : keyN f ≠ keyN g) : keyF f ≠ keyF g := fun e => h (by
  have e' : (S [f.x], S [f.y]) = (S [g.x], S [g.y]) := e
  injection e' with a b
  exact Prod.ext (S_one.mp a) (S_one.mp b))
theorem perm_lift {α β : Type} {f : α → β} {l m : List β} (h : l.Perm m) : ∀ {gs : List α}, m = gs.map f → ∃ fs : List α, l = fs.map f ∧ fs.Perm gs := by
  induction h with
  | nil =>
    intro gs e
    cases gs with
    | nil => exact ⟨[], rfl, .nil⟩
    | cons g gs => cases e
  | cons x _ ih =>
    intro gs e
    cases gs with
    | nil => cases e
    | cons g gs =>
      injection e with e1 e2
      obtain ⟨fs, a, b⟩ := ih e2
      exact ⟨g :: fs, by rw [a, e1]; rfl, b.cons g⟩
  | swap x y l =>
    intro gs e
    match gs, e with
    | [], e => cases e
    | [g], e => cases e
    | g1 :: g2 :: gs, e =>
      injection e with e1 e2
      injection e2 with e2 e3
      exact ⟨g2 :: g1 :: gs, by rw [e1, e2, e3]; rfl, .swap g1 g2 gs⟩
  | trans _ _ ih1 ih2 =>
    intro gs e
    obtain ⟨fs, a, b⟩ := ih2 e
    obtain ⟨fs', a', b'⟩ := ih1 a
    exact ⟨fs', a', b'.trans b⟩
theorem Apart.perm {fs gs : List Fd} (h : Apart gs) (p : fs.Perm gs) : Apart fs := (p.pairwise_iff fun h e => h e.symm).mpr h
theorem sorted_fds {H : Hp} {gs : List Fd} {as qs : List Addr} (hg : Apart gs) (h1 : as.map (prOf H) = gs.map keyF) (h3 : qs.Perm as)
    (h4 : ∀ i j, i ≤ j → j < qs.length → ltSS (prOf H (qs.getD j 0)) (prOf H (qs.getD i 0)) = false) : ∃ fs : List Fd, fs.Perm gs ∧ AscP fs ∧ qs.map (prOf H) = fs.map keyF := by
  have h5 : (qs.map (prOf H)).Perm (gs.map keyF) := by
    rw [← h1]
    exact h3.map _
  obtain ⟨fs, e, p⟩ := perm_lift h5 rfl
  have ap := List.pairwise_iff_getElem.mp (hg.perm p)
  have hl : qs.length = fs.length := by
    have := congrArg List.length e
    rwa [List.length_map, List.length_map] at this
  have at' : ∀ i (h : i < fs.length), prOf H (qs.getD i 0) = keyF fs[i] := by
    intro i h
    have e1 : (qs.map (prOf H))[i]? = (fs.map keyF)[i]? := by rw [e]
    rw [List.getElem?_map, List.getElem?_map, List.getElem?_eq_getElem h, List.getElem?_eq_getElem (by omega)] at e1
    rw [List.getD_eq_getElem?_getD, List.getElem?_eq_getElem (by omega)]
    exact Option.some.inj e1
  refine ⟨fs, p, List.pairwise_iff_getElem.mpr fun i j hi hj hij => ?_, e⟩
  have h := h4 i j (by omega) (by omega)
  rw [at' i hi, at' j hj] at h
  exact lt_of h (fun z => key_apart (ap i j hi hj hij) z.symm)
theorem fs_ok {sg : List Nat} {fs gs : List Fd} (h : GsOk sg gs) (p : fs.Perm gs) (a : AscP fs) : FsOk sg fs := by
  refine ⟨by rw [p.length_eq]; exact h.few, fun f hf => h.ok f (p.mem_iff.mp hf), fun i j hij hj f g hf hg => ?_⟩
  have := List.pairwise_iff_getElem.mp a i j (by omega) hj hij
  rw [List.getElem?_eq_getElem hj] at hg
  rw [List.getElem?_eq_getElem (by omega)] at hf
  cases hf
  cases hg
  exact this
theorem tab_at : ∀ {gs : List Fd}, Apart gs → ∀ {f : Fd}, f ∈ gs → valV (tabF gs) [Sum.inr (S [f.x]), Sum.inr (S [f.y])] = some (.str (S f.z))
  | [], _, f, hf => by cases hf
  | g :: gs, h, f, hf => by
    obtain ⟨h1, h2⟩ := List.pairwise_cons.mp h
    unfold valV tabF
    rw [List.map_cons]
    by_cases e : keyN g = keyN f
    · have e2 : g = f := by
        rcases List.mem_cons.mp hf with r | r
        · exact r.symm
        · exact absurd e (h1 f r)
      subst e2
      simp [List.find?_cons]
    · have e3 : f ∈ gs := by
        rcases List.mem_cons.mp hf with r | r
        · rw [r] at e
          exact absurd rfl e
        · exact r
      rw [List.find?_cons_of_neg]
      · exact tab_at h2 e3
      · intro z
        have z' := of_decide_eq_true z
        injection z' with z1 z2
        injection z2 with z2 _
        exact e (Prod.ext (S_one.mp (Sum.inr.inj z1)) (S_one.mp (Sum.inr.inj z2)))
theorem find_mem : ∀ {gs : List Fd}, Apart gs → ∀ {f : Fd}, f ∈ gs → leftM gs f.x f.y = .some f.z
  | [], _, f, hf => by cases hf
  | g :: gs, h, f, hf => by
    obtain ⟨h1, h2⟩ := List.pairwise_cons.mp h
    unfold leftM
    by_cases e : keyN g = keyN f
    · have e2 : g = f := by
        rcases List.mem_cons.mp hf with r | r
        · exact r.symm
        · exact absurd e (h1 f r)
      subst e2
      rw [List.find?_cons_of_pos (by rw [decide_eq_true rfl, decide_eq_true rfl]; rfl)]
      rfl
    · have e3 : f ∈ gs := by
        rcases List.mem_cons.mp hf with r | r
        · rw [r] at e
          exact absurd rfl e
        · exact r
      rw [List.find?_cons_of_neg]
      · exact find_mem h2 e3
      · intro z
        obtain ⟨z1, z2⟩ := Bool.and_eq_true_iff.mp z
        exact e (Prod.ext (of_decide_eq_true z1) (of_decide_eq_true z2))
theorem left_some {gs : List Fd} {x y : Nat} {z : List Nat} (h : leftM gs x y = .some z) : ∃ f ∈ gs, f.x = x ∧ f.y = y ∧ f.z = z := by
  unfold leftM at h
  cases hf : gs.find? fun f => decide (f.x = x) && decide (f.y = y) with
  | none => rw [hf] at h; cases h
  | some f =>
    rw [hf] at h
    cases h
    have h2 := List.find?_some hf
    obtain ⟨z1, z2⟩ := Bool.and_eq_true_iff.mp h2
    exact ⟨f, List.mem_of_find?_eq_some hf, of_decide_eq_true z1, of_decide_eq_true z2, rfl⟩
theorem left_eq {fs gs : List Fd} (h : Apart gs) (p : fs.Perm gs) (x y : Nat) : leftM fs x y = leftM gs x y := by
  cases e : leftM fs x y with
  | some z =>
    obtain ⟨f, hf, rfl, rfl, rfl⟩ := left_some e
    exact (find_mem h (p.mem_iff.mp hf)).symm
  | none =>
    cases e2 : leftM gs x y with
    | none => rfl
    | some z =>
      obtain ⟨f, hf, rfl, rfl, rfl⟩ := left_some e2
      rw [find_mem (h.perm p) (p.mem_iff.mpr hf)] at e
      cases e
theorem make_same {H H' : Hp} {x dx CR : Addr} (hx : H x = none) (hdx : H dx = none) (hne : dx ≠ x) (k : ∀ b o, upd (upd H dx (.own x)) x (.ins CR dx []) b = some o → b ≠ x → H' b = some o) : Same H H' := by
  intro b o e
  have e1 : b ≠ x := ne_of_none e hx
  have e2 : b ≠ dx := ne_of_none e hdx
  exact k b o ((upd_ne e1).trans ((upd_ne e2).trans e)) e1
theorem FdAll.snoc {K : PySem.W.Frag} {H : Hp} : ∀ {vs : List V} {fs : List Fd} {v : V} {f : Fd}, FdAll K H vs fs → FdAt K H v f → FdAll K H (vs ++ [v]) (fs ++ [f])
  | _, _, _, _, .nil, h => .cons h .nil
  | _, _, _, _, .cons a b, h => .cons a (FdAll.snoc b h)
def spCode (K : PySem.W.Frag) (C : Addr) : Sp := fun vs H Q _ => ∃ (wd ld : Addr) (sg : List Nat) (gs : List Fd), vs = [.ref wd] ∧ WAt H wd ld sg gs ∧ GsOk sg gs ∧ SgOk sg ∧
  ∀ H' r fa ta fs xs, fs.Perm gs → AscP fs → FsOk sg fs → BkAt H' C r sg fs fa ta → SqT K H' fa xs → FdAll K H' xs fs → Same H H' → Q (.ref r) H'
section
variable {P : Program} {w : World} {K : PySem.W.Frag} {mg : Str → Option Value} {base : Heap} {C : Addr}
theorem ok_code {f fB : Addr} {fd fdB : FuncData} (F : Fun K "_law_code" "_law_code" s__law_code f fd) (B : Blt mg) (bS : mg "sorted" = none)
    (gC : mg "Book" = some (.ref C)) (M : Mk K C fB) (bB : Binds K fdB ["self", "letters", "folds"] []) (GB : FnOk P w K mg base CX0 3 fB fdB ["self", "letters", "folds"] (spBook K C)) :
    FnOk P w K mg base CX0 5 f fd ["_law_w"] (spCode K C) := by
  refine F.ok sc__law_code (fun vs H Q E h => ?_) (fun cdv A outer s H vs Q E hr h => ?_)
  · obtain ⟨_, _, _, _, rfl, _⟩ := h
    rfl
  · obtain ⟨wd, ld, sg, gs, rfl, hw, hgs, hs, q⟩ := h
    have hu1 : (A.deeper (envOfC "_law_code" (defScope s__law_code) s.heap.objs.size f cdv)).units + 1 < cLine := by
      have := hr.units
      omega
    refine ⟨_, pss_one (ps_ret (pe_make M GB (hr.mono (by decide)) (by rfl) gC bB .nil pass0 (pa_cons (pe_dget hu1 (pv 0) pe_str (fun _ _ => rfl)) (pa_cons (pe_callTy call_tuple_of (by rfl) B.tuple (by decide +kernel) (pa_cons (pe_lc (own := [("_law_x", 1), ("_law_y", 2)]) (g := gTup K 2 (gCons (gName 1) (gCons (gName 2) gNil))) (tt := tYes) rfl sc__law_code.nd (pi_list (pe_callB (call_sortedT rfl) (by rfl) bS (by decide +kernel) (pa_cons (pe_dget hu1 (pv 0) pe_str (fun _ _ => rfl)) pa_nil))) (blkOk_by (own := [("_law_x", 1), ("_law_y", 2)]) (N := ["_law_w", "_law_x", "_law_y"]) (sc := defScope s__law_code) (by decide +kernel)) (fun _ _ _ _ _ => pg_tup rfl (pgs_cons (pg_name (i := 1) sc__law_code.nd rfl (Or.inl rfl)) (pgs_cons (pg_name (i := 2) sc__law_code.nd rfl (Or.inl rfl)) pgs_nil))) (fun _ _ _ _ _ => pts_nil) (fun _ _ _ _ _ => (pe_tup (pa_cons (pv 1) (pa_cons (pv 2) (pa_cons (pe_dget hu1 (pe_dget hu1 (pv 0) pe_str (fun _ _ => rfl)) (pe_tup (pa_cons (pv 1) (pa_cons (pv 2) pa_nil))) (fun _ _ => rfl)) pa_nil)))))) pa_nil)) pa_nil)))), ?_⟩
    have ek : (tabF gs).map (·.1) = (gs.map keyF).map (fun x => [Sum.inr x.1, Sum.inr x.2]) := by
      unfold tabF
      rw [List.map_map, List.map_map]
      rfl
    refine ⟨_, rfl, wd, _, rfl, DGet.k (k := .inr "letters") hw.w, ?_⟩
    refine ⟨_, rfl, wd, _, rfl, DGet.k (k := .inr "left") hw.w, ld, tabF gs, gs.map keyF, rfl, .inl hw.l, ek, fun as qs p h1 h2 h3 h4 hp => ?_⟩
    obtain ⟨fs, fp, fa, fe⟩ := sorted_fds hgs.nd h1 h3 h4
    have hfs := fs_ok hgs fp fa
    have hql : qs.length = fs.length := by
      have := congrArg List.length fe
      rwa [List.length_map, List.length_map] at this
    have hat : ∀ (i : Nat) (b : Addr) (f : Fd), qs[i]? = some b → fs[i]? = some f → H b = some (.tup [.str (S [f.x]), .str (S [f.y])]) := by
      intro i b f e1 e2
      have e3 := h2 b (h3.mem_iff.mp (List.mem_of_getElem? e1))
      have e4 : (qs.map (prOf H))[i]? = (fs.map keyF)[i]? := by rw [fe]
      rw [List.getElem?_map, List.getElem?_map, e1, e2] at e4
      have e5 : prOf H b = keyF f := Option.some.inj e4
      rw [e5] at e3
      exact e3
    have s1 := same_new (o := HO.lst (qs.map V.ref)) hp
    have hp1 : upd H p (.lst (qs.map V.ref)) p = some (.lst (qs.map V.ref)) := upd_same
    generalize upd H p (.lst (qs.map V.ref)) = H1 at s1 hp1 ⊢
    refine ⟨p, rfl, ⟨_, SqL.of hp1⟩, fun L hL => ?_⟩
    refine lc_yes (walk_list (K := K) (a := p) (xs := qs.map V.ref)) (fun i H' => Same H1 H' ∧ ∃ xs, H' L = some (.lst xs) ∧ FdAll K H' xs (fs.take i)) ⟨same_new hL, [], upd_same, .nil⟩ (fun i H' _ q => SqL.of (q.1 _ _ hp1)) ?_ ?_
    · rintro i x H2 H3 hi ⟨s2, xs, hL2, hall⟩ ⟨rfl, hx⟩
      obtain ⟨b, hb, rfl⟩ : ∃ b, qs[i]? = some b ∧ x = .ref b := by
        rw [List.getElem?_map] at hx
        cases h : qs[i]? with
        | none => rw [h] at hx; cases hx
        | some b => rw [h] at hx; cases hx; exact ⟨b, rfl, rfl⟩
      have hif : i < fs.length := by
        rw [List.length_map] at hi
        omega
      have hf : fs[i]? = some fs[i] := List.getElem?_eq_getElem hif
      have hb2 := s2 _ _ (s1 _ _ (hat i b _ hb hf))
      have hmem : fs[i] ∈ gs := fp.mem_iff.mp (List.getElem_mem hif)
      generalize fs[i] = fo at hf hb2 hmem
      refine ⟨b, _, rfl, Or.inl (Or.inl hb2), rfl, _, _, rfl, _, _, rfl, rfl, rfl, ?_⟩
      have hw2 := (hw.same s1).same s2
      refine ⟨_, rfl, _, rfl, _, rfl, wd, _, rfl, DGet.k (k := .inr "left") hw2.w, _, rfl, _, rfl, sz_le (n := 2) (by decide), fun p2 hp2 => ?_⟩
      have s3 := same_new (o := HO.tup [V.str (S [fo.x]), V.str (S [fo.y])]) hp2
      have g : DGet (upd H3 p2 (.tup [V.str (S [fo.x]), V.str (S [fo.y])])) ld (.ref p2) (some (.str (S fo.z))) := by
        rw [← tab_at hgs.nd hmem]
        exact DGet.t (k := [Sum.inr (S [fo.x]), Sum.inr (S [fo.y])]) (s3 _ _ hw2.l) upd_same
      refine ⟨ld, _, rfl, g, sz_le (n := 3) (by decide), fun p3 hp3 => ?_⟩
      have s4 := s3.trans (same_new (o := HO.tup [V.str (S [fo.x]), V.str (S [fo.y]), V.str (S fo.z)]) hp3)
      have h3' : upd (upd H3 p2 (.tup [V.str (S [fo.x]), V.str (S [fo.y])])) p3 (.tup [V.str (S [fo.x]), V.str (S [fo.y]), V.str (S fo.z)]) p3 = some (.tup (fdV fo)) := upd_same
      generalize upd (upd H3 p2 (.tup [V.str (S [fo.x]), V.str (S [fo.y])])) p3 (.tup [V.str (S [fo.x]), V.str (S [fo.y]), V.str (S fo.z)]) = H4 at s4 h3' ⊢
      have hL4 := s4 _ _ hL2
      have hlx : xs.length ≤ 200 := by
        rw [hall.len, List.length_take]
        have := hfs.few
        omega
      refine ⟨xs, hL4, sz_lt (by omega), ?_, xs ++ [.ref p3], upd_same, ?_⟩
      · intro b o e
        rw [upd_ne (ne_of_none e hL)]
        exact s4 b o (s2 b o e)
      · have e6 : fs.take (i + 1) = fs.take i ++ [fo] := by
          rw [List.take_add_one, hf]
          rfl
        rw [e6]
        have kp : KpT K H4 (upd H4 L (.lst (xs ++ [.ref p3]))) := KpT.lst hL4
        exact ((hall.kp (KpT.same s4)).kp kp).snoc ⟨p3, rfl, kp _ _ (Or.inl (Or.inl h3'))⟩
    · rintro H2 ⟨s2, xs, hL2, hall⟩
      rw [List.length_map, hql, List.take_length] at hall
      refine ⟨L, xs, rfl, Or.inl ⟨SqL.of hL2, fun fa' hfa => ?_⟩⟩
      have s3 := same_new (o := HO.tup xs) hfa
      have hf3 : SqT K (upd H2 fa' (.tup xs)) fa' xs := Or.inl (Or.inl upd_same)
      have hall3 := hall.kp (KpT.same s3)
      have s03 := (s1.trans s2).trans s3
      generalize upd H2 fa' (.tup xs) = H3 at hf3 hall3 s03 ⊢
      refine fun x dx hx hdx hne => ⟨x, dx, fa', sg, fs, xs, rfl, upd_same, ?_, ?_, hfs, hs, fun H4 ta hbk keep => ⟨rfl, ?_⟩⟩
      · exact Same.tup (same_new ((upd_ne (Ne.symm hne)).trans hx)) (Same.tup (same_new hdx) hf3)
      · exact (hall3.kp (KpT.same (same_new hdx))).kp (KpT.same (same_new ((upd_ne (Ne.symm hne)).trans hx)))
      · have s4 := make_same hx hdx hne keep
        exact q H4 x fa' ta fs xs fp fa hfs hbk (Same.tup s4 hf3) (hall3.kp (KpT.same s4)) (s03.trans s4)
end
end Lw

namespace Lw
open PySem PySem.Spec PyProof.Rows L2 Mq
open SX (S)
/-! ### equal books -/
def EqB (K : PySem.W.Frag) (C : Addr) (a b : Addr) (H : Hp) : Prop := ∃ (sg : List Nat) (fs : List Fd) (fa ta fa' ta' : Addr) (xs xs' : List V),
  BkAt H C a sg fs fa ta ∧ BkAt H C b sg fs fa' ta' ∧ SqT K H fa xs ∧ FdAll K H xs fs ∧ SqT K H fa' xs' ∧ FdAll K H xs' fs
theorem prs_fd {K : PySem.W.Frag} {H : Hp} {xs ys : List V} {fs : List Fd} (h1 : FdAll K H xs fs) (h2 : FdAll K H ys fs) : Prs (DTup K DFlat) xs ys H := by
  refine ⟨h1.len.trans h2.len.symm, fun i x y e1 e2 => ?_⟩
  obtain ⟨f, f1, a, rfl, ha⟩ := h1.at e1
  obtain ⟨g, f2, b, rfl, hb⟩ := h2.at e2
  rw [f1] at f2
  cases f2
  refine ⟨a, b, _, _, rfl, rfl, ha, hb, rfl, fun j u v e3 e4 => ?_⟩
  rw [e3] at e4
  cases e4
  unfold fdV at e3
  have hm := List.mem_of_getElem? e3
  simp only [List.mem_cons, List.not_mem_nil, or_false] at hm
  rcases hm with rfl | rfl | rfl <;> exact ⟨rfl, rfl, by simp [eqV]⟩
section
variable {P : Program} {w : World} {K : PySem.W.Frag} {mg : Str → Option Value} {base : Heap} {C : Addr}
structure EqT (K : PySem.W.Frag) (mg : Str → Option Value) (C : Addr) : Prop where
  gC : mg "Book" = some (.ref C)
  ty : ∀ H a dx fs, H a = some (.ins C dx fs) → TyX K H (.ref a) (.ref C)
  kit : PySem.W.kitOne K (.ref C) (.ref C) = some true
theorem ok_eq {f : Addr} {fd : FuncData} (F : Fun K "__eq__" "Book.__eq__" s_Book___eq__ f fd) (B : Blt mg) (R : BkC K C) (T : EqT K mg C) :
    FnOk P w K mg base CX0 3 f fd ["self", "other"] (spEq (EqB K C)) := by
  refine F.ok sc_Book___eq__ (fun vs H Q E h => ?_) (fun cdv A outer s H vs Q E hr h => ?_)
  · obtain ⟨_, _, rfl, _⟩ := h
    rfl
  · obtain ⟨a, b, rfl, ⟨sg, fs, fa, ta, fa', ta', xs, xs', ⟨⟨dx, h1⟩, h2⟩, ⟨⟨dx', h3⟩, h4⟩, h5, h6, h7, h8⟩, q⟩ := h
    have hr2 : Room 2 (A.deeper (envOfC "Book.__eq__" (defScope s_Book___eq__) s.heap.objs.size f cdv)) := hr
    refine ⟨_, (pss_one (ps_ret (pe_and (pe_callB call_isi (by rfl) B.isi (by decide +kernel) (pa_cons (pv 1) (pa_cons (pe_glob (v := .ref C) (by rfl) T.gC rfl) pa_nil))) (pe_and (pe_cmpR op_eq (pe_fld (pv 0) rfl) (pe_fld (pv 1) rfl) (nomark _)) (pe_one (pe_cmpR (op_eqG (rcG_tup (mon_tup mon_flat) (eqG_tup mon_flat eqG_flat)) hr2) (pe_fld (pv 0) rfl) (pe_fld (pv 1) rfl) (nomark _))))))), ?_⟩
    refine ⟨_, rfl, _, .ref C, .ref C, _, true, rfl, .own C, T.ty _ _ _ _ h3, T.kit, true, rfl, iteT ?_⟩
    refine ⟨_, rfl, a, C, dx, _, _, rfl, h1, R.cls, R.nL, rfl, _, rfl, b, C, dx', _, _, rfl, h3, R.cls, R.nL, rfl, rfl, _, rfl, ifT (decide_eq_true rfl) ?_⟩
    refine ⟨_, rfl, a, C, dx, _, _, rfl, h1, R.cls, R.nF, rfl, _, rfl, b, C, dx', _, _, rfl, h3, R.cls, R.nF, rfl, ?_⟩
    exact ⟨⟨fa, fa', xs, xs', rfl, rfl, h5, h7, prs_fd h6 h8⟩, fun H' e => q H' e⟩
end
end Lw

namespace Lw
open PySem PySem.Spec PyProof.Rows L2 Mq
open SX (S)
/-! ### the first row by which a letter goes: the def -/
theorem GsOk.z {sg : List Nat} {gs : List Fd} (h : GsOk sg gs) : zOk gs := by
  intro g hg
  rcases (h.ok g hg).2.2 with e | ⟨c, _, e⟩
  · rw [e]
    exact Nat.zero_le _
  · rw [e]
    exact Nat.le_refl 1
theorem BkAt.off {C D Cc : Addr} {T : Nat} {H H' : Hp} {r fa ta : Addr} {sg : List Nat} {fs : List Fd} (h : BkAt H C r sg fs fa ta) (f : Off D Cc H H') (k : DeckAt D Cc T H) : BkAt H' C r sg fs fa ta :=
  let ⟨⟨dx, x⟩, y⟩ := h; ⟨⟨dx, f.at k x ⟨(fun _ z => nomatch z), (fun _ z => nomatch z)⟩⟩, f.at k y ⟨(fun _ z => nomatch z), (fun _ z => nomatch z)⟩⟩
theorem ahead_eq {a b : List Nat} (h : (a.length : Int) = (b.length : Int)) : aheadB a b = decide ((S a).cps.toList < (S b).cps.toList) := by
  unfold aheadB ltIS
  show (if ((a.length : Nat) : Int) = ((b.length : Nat) : Int) then (if S a = S b then false else decide ((S a).cps.toList < (S b).cps.toList)) else _) = _
  rw [if_pos h]
  by_cases e : S a = S b
  · rw [if_pos e, e]
    exact (decide_eq_false (List.lt_irrefl _)).symm
  · rw [if_neg e]
theorem ahead_gt {a b : List Nat} (h1 : ¬ (a.length : Int) < (b.length : Int)) (h2 : ¬ (a.length : Int) = (b.length : Int)) : aheadB a b = false := by
  unfold aheadB ltIS
  show (if ((a.length : Nat) : Int) = ((b.length : Nat) : Int) then _ else decide (((a.length : Nat) : Int) < ((b.length : Nat) : Int))) = false
  rw [if_neg h2]
  exact decide_eq_false h1
theorem ah_not {a b : List Nat} (h : Ah b a) : aheadB a b = false := by
  rcases h with h | ⟨h1, h2⟩
  · exact ahead_gt (by omega) (by omega)
  · rw [ahead_eq (by omega)]
    exact decide_eq_false fun h3 => List.lt_irrefl _ (List.lt_trans h2 (show a < b from h3))
def spGo (C : Addr) : Sp := fun vs H Q _ => ∃ (r fa ta : Addr) (sg : List Nat) (fs : List Fd) (x : Nat), vs = [.ref r, .str (S [x])] ∧ BkAt H C r sg fs fa ta ∧ FsOk sg fs ∧ SgOk sg ∧ x ∈ sg ∧
  ∀ H' R, Same H H' → Bfs fs sg false [([x], [])] [(x, [])] R → BfI fs sg false x (pend R) R [] → Q (optZ (firstGo fs sg (pend R))) H'
def spCan (C : Addr) : Sp := fun vs H Q _ => ∃ (r fa ta : Addr) (sg : List Nat) (fs : List Fd) (x : Nat), vs = [.ref r, .str (S [x])] ∧ BkAt H C r sg fs fa ta ∧ FsOk sg fs ∧ SgOk sg ∧ x ∈ sg ∧
  ∀ H' R, Same H H' → Bfs fs sg false [([x], [])] [(x, [])] R → BfI fs sg false x (pend R) R [] → Q (.bl (firstGo fs sg (pend R)).isSome) H'
/-- the letters met, in order -/
structure LotOf (R : List Rw) (lot : List Nat) : Prop where
  asc : lot.Pairwise (· < ·)
  mem : ∀ c, c ∈ lot ↔ ([c] ∈ R.map (·.1))
def spInto (C : Addr) : Sp := fun vs H Q _ => ∃ (r fa ta : Addr) (sg : List Nat) (fs : List Fd) (x : Nat), vs = [.ref r, .str (S [x])] ∧ BkAt H C r sg fs fa ta ∧ FsOk sg fs ∧ SgOk sg ∧ x ∈ sg ∧
  ∀ H' R lot, Same H H' → Bfs fs sg false [([x], [])] [(x, [])] R → BfI fs sg false x (pend R) R [] → LotOf R lot → Q (.str (S lot)) H'
def spJudge (K : PySem.W.Frag) (C : Addr) : Sp := fun vs H Q _ => ∃ (r fa ta : Addr) (sg : List Nat) (fs : List Fd) (x : Nat), vs = [.ref r, .str (S [x])] ∧ BkAt H C r sg fs fa ta ∧ FsOk sg fs ∧ SgOk sg ∧ x ∈ sg ∧
  ∀ H' R lot p, Same H H' → Bfs fs sg false [([x], [])] [(x, [])] R → BfI fs sg false x (pend R) R [] → LotOf R lot → SqT K H' p (match firstGo fs sg (pend R) with | none => [.str "stays", .str (S lot)] | some row => [.str "goes", .str (S row)]) → Q (.ref p) H'
theorem opt_nil (o : Option (List Nat)) : decide (optZ o = V.str (Str.ofString "")) = decide (o = some []) := by
  refine decide_eq_decide.mpr ⟨fun h => ?_, fun h => by rw [h]; rfl⟩
  cases o with
  | none => cases h
  | some z =>
    injection h with h
    have h2 : S z = S [] := h
    rw [SX.S_inj h2]
theorem goR_take {fs : List Fd} {sg : List Nat} {y : Nat} {row : List Nat} {j : Nat} (hj : j < sg.length) : goR fs y row (sg.take (j + 1)) = (goR fs y row (sg.take j)).or (if leftM fs y (sg.getD j 0) = some [] then some (row ++ [sg.getD j 0]) else none) := by
  unfold goR
  rw [List.take_add_one, List.findSome?_append, List.getElem?_eq_getElem hj, List.getD_eq_getElem?_getD, List.getElem?_eq_getElem hj]
  congr 1
  show List.findSome? _ [sg[j]] = _
  rw [List.findSome?_cons]
  dsimp only [Option.getD_some]
  split <;> rename_i h
  · exact h.symm
  · exact h.symm
section
variable {P : Program} {w : World} {K : PySem.W.Frag} {mg : Str → Option Value} {base : Heap} {C CW : Addr}
theorem ok_going {f fL fT fA : Addr} {fd fdL fdT fdA : FuncData} (F : Fun K "going_row" "going_row" s_going_row f fd) (B : Blt mg) (R : BkC K C)
    (FL : Fun K "left_of" "Book.left_of" s_Book_left_of fL fdL) (mL : Meth K C "left_of" fL) (bL : Binds K fdL ["self", "last", "laid"] [])
    (FT : Fun K "turning_rows" "turning_rows" s_turning_rows fT fdT) (gT : mg "turning_rows" = some (.ref fT)) (bT : Binds K fdT ["book", "letter"] []) (GT : FnOk P w K mg base CX0 2 fT fdT ["book", "letter"] (spTurn C))
    (FA : Fun K "is_ahead" "is_ahead" s_is_ahead fA fdA) (gA : mg "is_ahead" = some (.ref fA)) (bA : Binds K fdA ["one", "other"] []) : FnOk P w K mg base CX0 3 f fd ["book", "letter"] (spGo C) := by
  have GL : FnOk P w K mg base CX0 1 fL fdL ["self", "last", "laid"] (spLeft C) := ok_left FL R
  have GA : FnOk P w K mg base CX0 1 fA fdA ["one", "other"] spAhead := ok_is_ahead FA B
  refine F.ok sc_going_row (fun vs H Q E h => ?_) (fun cdv A outer s H vs Q E hr h => ?_)
  · obtain ⟨_, _, _, _, _, _, rfl, _⟩ := h
    rfl
  · obtain ⟨r, fa, ta, sg, fs, x, rfl, hb, hfs, hs, hx, q⟩ := h
    have hr1 : Room 1 (A.deeper (envOfC "going_row" (defScope s_going_row) s.heap.objs.size f cdv)) := hr.mono (by decide)
    refine ⟨_, (pss_cons (ps_set (i := 2) sc_going_row.nd rfl (Or.inl rfl) pe_non)
      (pss_cons (ps_for PassesOwn.never rfl (pi_items (pe_frz (pe_call GT (hr.mono (by decide)) (by rfl) gT FT.kp bT .nil pass0 (pa_cons (pv 0) (pa_cons (pv 1) pa_nil))))) (pg_tup rfl (pgs_cons (pg_name (i := 3) sc_going_row.nd rfl (Or.inl rfl)) (pgs_cons (pg_name (i := 4) sc_going_row.nd rfl (Or.inl rfl)) pgs_nil)))
        (pss_one (ps_for PassesOwn.never rfl (pi_str (pe_fld (pv 0) rfl)) (pg_name (i := 5) sc_going_row.nd rfl (Or.inl rfl))
          (pss_one (ps_if (PW.pt (pw_and (pt_cmpR op_eq (pe_methT (E := fun _ _ _ _ => False) (pv 0) R.cls mL GL hr1 bL (fun _ => cx0_at) (pa_cons (pv 3) (pa_cons (pv 5) pa_nil))) pe_str (nomark _)) (pw_and1 (PW.pt (pw_or (pt_cmpR op_isN (pv 2) pe_non (nomark _)) (pw_or1 (pt_val (pe_call GA hr1 (by rfl) gA FA.kp bA .nil pass0 (pa_cons (pe_op op_add_str (pv 4) (pv 5)) (pa_cons (pv 2) pa_nil)))))))))) (pss_one (ps_set (i := 2) sc_going_row.nd rfl (Or.inl rfl) (pe_op op_add_str (pv 4) (pv 5)))) pss_nil)))))
      (pss_one (ps_ret (pv 2))))), ?_⟩
    obtain ⟨dx, h1⟩ := hb.1
    have sp := sg_pair hs
    have few := hs.few
    have zi := zin_of hfs
    refine ⟨_, rfl, _, rfl, r, fa, ta, sg, fs, x, rfl, hb, hfs, hs, hx, fun H1 d L s1 hdn hd1 hB hI => ?_⟩
    refine ⟨d, _, rfl, hd1, trivial, fun od => ?_⟩
    have sz : Same H (upd H1 d (.frz od (.dK (rowsV L)))) := by
      intro b o e
      rw [upd_ne (ne_of_none e hdn)]
      exact s1 b o e
    have hd2 : upd H1 d (.frz od (.dK (rowsV L))) d = some (.frz od (.dK (rowsV L))) := upd_same
    generalize upd H1 d (.frz od (.dK (rowsV L))) = H2 at sz hd2 ⊢
    refine ⟨d, od, rowsV L, rfl, hd2, ?_⟩
    have elen : (rowsV L).length = L.length := List.length_map ..
    refine for_it (walk_items (d := d) (o := od) (kvs := rowsV L)) (fun i σ H' => Same H H' ∧ H' d = some (.frz od (.dK (rowsV L))) ∧ ∃ o3 o4 o5, σ = [some (.ref r), some (.str (S [x])), some (optZ (firstGo fs sg (pend (L.take i)))), o3, o4, o5])
      ⟨sz, hd2, none, none, none, rfl⟩ (fun i σ H' _ p => p.2.1) ?_ ?_
    · rintro i y σ H4 H5 hi ⟨s4, hd4, o3, o4, o5, rfl⟩ ⟨T, y1, y2, rfl, hT, rfl, hy1, hy2⟩
      have hil : i < L.length := by rw [← elen]; exact hi
      obtain ⟨yl, hyl, ey⟩ : ∃ y ∈ sg, L[i].1 = [y] := by
        rcases hI.sh _ (List.getElem_mem hil) with ⟨_, h⟩ | h
        · cases h
        · exact h
      generalize er : L[i].2 = row
      have eL : L[i] = ([yl], row) := Prod.ext ey er
      have hmem : ([yl], row) ∈ L := eL ▸ List.getElem_mem hil
      have hrl : row.length ≤ sg.length := hI.rowLen hmem
      have ek : (rowsV L)[i]? = some (.inr (S [yl]), V.str (S row)) := by
        unfold rowsV
        rw [List.getElem?_map, List.getElem?_eq_getElem hil, eL]
        rfl
      dsimp only at hy1 hy2
      rw [ek] at hy1 hy2
      cases hy1
      cases hy2
      have s5 := s4.trans (same_new (o := HO.tup [kV (.inr (S [yl])), V.str (S row)]) hT)
      have hd5 : upd H4 T (.tup [kV (.inr (S [yl])), V.str (S row)]) d = some (.frz od (.dK (rowsV L))) := same_new hT _ _ hd4
      refine ⟨T, _, rfl, Or.inl (Or.inl upd_same), rfl, _, _, rfl, _, _, rfl, rfl, ?_⟩
      generalize upd H4 T (.tup [kV (.inr (S [yl])), V.str (S row)]) = H5 at s5 hd5 ⊢
      have etk : pend (L.take (i + 1)) = pend (L.take i) ++ [(yl, row)] := by
        rw [List.take_add_one, List.getElem?_eq_getElem hil, eL, pend_app]
        rfl
      have efst : firstGo fs sg (pend (L.take (i + 1))) = (firstGo fs sg (pend (L.take i))).or (goR fs yl row sg) := by
        unfold firstGo
        rw [etk, List.findSome?_append, List.findSome?_cons]
        dsimp only
        congr 1
        cases goR fs yl row sg <;> rfl
      have hahead : ∀ b, firstGo fs sg (pend (L.take i)) = some b → ∀ c, Ah b (row ++ [c]) ∧ b.length ≤ 20 := by
        intro b hb c
        obtain ⟨q2, hq2, c2, _, _, rfl⟩ := first_mem hb
        have hl1 : ∀ p ∈ L.take i, p.1.length ≤ 1 := fun p hp => hI.len1 p (List.mem_of_mem_take hp)
        have hq3 := (pend_mem hl1 (y := q2.1) (r := q2.2)).mp hq2
        have hpw : Ah q2.2 row := by
          obtain ⟨k, hk, ekk⟩ := List.getElem_of_mem hq3
          rw [List.length_take] at hk
          have hk2 : k < i := by omega
          have := List.pairwise_iff_getElem.mp hI.as k i (by omega) hil hk2
          rw [List.getElem_take] at ekk
          rw [ekk, eL] at this
          exact this
        refine ⟨hpw.snoc c2 c, ?_⟩
        have h9 := hI.rowLen (List.mem_of_mem_take hq3)
        have h10 : q2.2.length ≤ sg.length := h9
        rw [List.length_append]
        show q2.2.length + 1 ≤ 20
        omega
      refine ⟨_, rfl, r, _, dx, _, _, rfl, s5 _ _ h1, R.cls, R.nL, rfl, S sg, rfl, ?_⟩
      refine for_it (walk_S sg) (fun j σ H' => Same H H' ∧ H' d = some (.frz od (.dK (rowsV L))) ∧ ∃ o5, σ = [some (.ref r), some (.str (S [x])), some (optZ ((firstGo fs sg (pend (L.take i))).or (goR fs yl row (sg.take j)))), some (.str (S [yl])), some (.str (S row)), o5])
        ⟨s5, hd5, o5, ?_⟩ (fun _ _ _ _ _ => trivial) ?_ ?_
      · show _ = [_, _, some (optZ ((firstGo fs sg (pend (L.take i))).or none)), _, _, _]
        rw [Option.or_none]
        rfl
      · rintro j c σ H6 H6' hj ⟨s6, hd6, o5, rfl⟩ ⟨rfl, rfl⟩
        have hcs : sg.getD j 0 ∈ sg := by
          rw [List.getD_eq_getElem?_getD, List.getElem?_eq_getElem hj]
          exact List.getElem_mem hj
        rw [goR_take hj]
        refine ⟨_, rfl, r, dx, _, rfl, s6 _ _ h1, rfl, _, rfl, _, rfl, r, fa, ta, sg, fs, yl, sg.getD j 0, rfl, hb.same s6, fun H7 s7 => ?_⟩
        have s07 := s6.trans s7
        have hd7 := s7 _ _ hd6
        refine ⟨?_, _, rfl, ?_⟩
        · cases leftM fs yl (sg.getD j 0) <;> rfl
        rw [opt_nil]
        by_cases hl : leftM fs yl (sg.getD j 0) = some []
        · rw [decide_eq_true hl, if_pos hl]
          refine ifT rfl ?_
          cases hbest : (firstGo fs sg (pend (L.take i))).or (goR fs yl row (sg.take j)) with
          | none =>
            refine ⟨_, rfl, rfl, _, rfl, ifT rfl ?_⟩
            refine ifT rfl ?_
            refine ⟨_, rfl, _, rfl, S row, S [sg.getD j 0], rfl, rfl, ?_, ?_⟩
            · rw [SX.S_len, SX.S_len]
              exact sz_le (by show row.length + 1 ≤ 1000000; omega)
            rw [SX.S_cat]
            refine ⟨s07, hd7, some (.str (S [sg.getD j 0])), ?_⟩
            rw [← Option.or_assoc, hbest]
            rfl
          | some b =>
            have hab : Ah b (row ++ [sg.getD j 0]) ∧ b.length ≤ 20 := by
              cases hf : firstGo fs sg (pend (L.take i)) with
              | some b2 =>
                rw [hf] at hbest
                have e3 : b2 = b := Option.some.inj hbest
                rw [← e3]
                exact hahead b2 hf _
              | none =>
                rw [hf] at hbest
                obtain ⟨c2, hc2, _, rfl⟩ := go_mem (show goR fs yl row (sg.take j) = some b from hbest)
                obtain ⟨k, hk, ekk⟩ := List.getElem_of_mem hc2
                rw [List.length_take] at hk
                rw [List.getElem_take] at ekk
                have hlt := List.pairwise_iff_getElem.mp sp k j (by omega) hj (by omega)
                rw [ekk] at hlt
                refine ⟨Ah.same row ?_, ?_⟩
                · rw [List.getD_eq_getElem?_getD, List.getElem?_eq_getElem hj]
                  exact hlt
                · rw [List.length_append]
                  show row.length + 1 ≤ 20
                  omega
            refine ⟨_, rfl, rfl, _, rfl, ifF rfl ?_⟩
            refine ⟨_, rfl, _, rfl, S row, S [sg.getD j 0], rfl, rfl, ?_, ?_⟩
            · rw [SX.S_len, SX.S_len]
              exact sz_le (by show row.length + 1 ≤ 1000000; omega)
            rw [SX.S_cat]
            refine ⟨_, rfl, row ++ [sg.getD j 0], b, rfl, ?_, by omega, fun H8 s8 => ?_⟩
            · rw [List.length_append]
              show row.length + 1 ≤ 1000
              omega
            rw [ah_not hab.1]
            refine ⟨_, rfl, ?_⟩
            refine ifF rfl ?_
            refine ⟨s07.trans s8, s8 _ _ hd7, some (.str (S [sg.getD j 0])), ?_⟩
            rw [← Option.or_assoc, hbest]
            rfl
        · rw [decide_eq_false hl, if_neg hl, Option.or_none]
          exact ifF rfl ⟨s07, hd7, _, rfl⟩
      · rintro σ H6 ⟨s6, hd6, o5, rfl⟩
        rw [List.take_length, ← efst]
        exact ⟨s6, hd6, _, _, _, rfl⟩
    · rintro σ H4 ⟨s4, hd4, o3, o4, o5, rfl⟩
      rw [elen, List.take_length]
      exact ⟨_, rfl, q H4 L s4 hB hI⟩
theorem ok_can {f fG : Addr} {fd fdG : FuncData} (F : Fun K "can_go" "can_go" s_can_go f fd)
    (FG : Fun K "going_row" "going_row" s_going_row fG fdG) (gG : mg "going_row" = some (.ref fG)) (bG : Binds K fdG ["book", "letter"] []) (GG : FnOk P w K mg base CX0 3 fG fdG ["book", "letter"] (spGo C)) : FnOk P w K mg base CX0 4 f fd ["book", "letter"] (spCan C) := by
  refine F.ok sc_can_go (fun vs H Q E h => ?_) (fun cdv A outer s H vs Q E hr h => ?_)
  · obtain ⟨_, _, _, _, _, _, rfl, _⟩ := h
    rfl
  · obtain ⟨r, fa, ta, sg, fs, x, rfl, hb, hfs, hs, hx, q⟩ := h
    refine ⟨_, (pss_one (ps_ret (pe_cmpR op_notN (pe_call GG (hr.mono (by decide)) (by rfl) gG FG.kp bG .nil pass0 (pa_cons (pv 0) (pa_cons (pv 1) pa_nil))) pe_non (nomark _)))), ?_⟩
    refine ⟨_, rfl, _, rfl, r, fa, ta, sg, fs, x, rfl, hb, hfs, hs, hx, fun H1 L s1 hB hI => ?_⟩
    have q1 := q H1 L s1 hB hI
    cases hf : firstGo fs sg (pend L) with
    | none =>
      rw [hf] at q1
      exact ⟨rfl, q1⟩
    | some z =>
      rw [hf] at q1
      exact ⟨rfl, q1⟩
theorem rising_pair : ∀ (p : Nat) (l : List Nat), PyProof.Rows.risingS (S [p]) (l.map fun c => S [c]) = true → (p :: l).Pairwise (· ≤ ·)
  | p, [], _ => List.pairwise_singleton _ _
  | p, x :: l, h => by
    have h' : (!PySem.Spec.ltCps (S [x]).cps.toList (S [p]).cps.toList && PyProof.Rows.risingS (S [x]) (l.map fun c => S [c])) = true := h
    obtain ⟨h1, h2⟩ := Bool.and_eq_true_iff.mp h'
    have ih := rising_pair x l h2
    have h3 : p ≤ x := by
      have e : PySem.Spec.ltCps (S [x]).cps.toList (S [p]).cps.toList = decide (x < p) := by
        show (decide (x < p) || (x == p && false)) = _
        rw [Bool.and_false, Bool.or_false]
      rw [e] at h1
      have := of_decide_eq_false (by simpa using h1 : decide (x < p) = false)
      omega
    refine List.pairwise_cons.mpr ⟨fun y hy => ?_, ih⟩
    rcases List.mem_cons.mp hy with rfl | hy
    · exact h3
    · exact Nat.le_trans h3 ((List.pairwise_cons.mp ih).1 y hy)
theorem sorted_pair {l : List Nat} (h : PyProof.Rows.sortedS (l.map fun c => S [c]) = true) (nd : l.Nodup) : l.Pairwise (· < ·) := by
  have h1 : l.Pairwise (· ≤ ·) := by
    cases l with
    | nil => exact .nil
    | cons p l => exact rising_pair p l h
  exact (h1.and nd).imp fun ⟨a, b⟩ => Nat.lt_of_le_of_ne a b
theorem join_one (lot : List Nat) : Txt.join (S []) (lot.map fun c => S [c]) = S lot := by
  have e : (lot.map fun c => S [c]) = (lot.map fun c => [c]).map S := by
    rw [List.map_map]
    rfl
  rw [e, SX.join_S, joinW_one]
theorem one_sum (lot : List Nat) : (((lot.map fun c => S [c])).map (·.length)).sum = lot.length := by
  induction lot with
  | nil => rfl
  | cons c l ih =>
    rw [List.map_cons, List.map_cons, List.sum_cons, ih, SX.S_len]
    show 1 + l.length = l.length + 1
    omega
theorem ok_into {f fT : Addr} {fd fdT : FuncData} (F : Fun K "turned_into" "turned_into" s_turned_into f fd) (bS : mg "sorted" = none)
    (FT : Fun K "turning_rows" "turning_rows" s_turning_rows fT fdT) (gT : mg "turning_rows" = some (.ref fT)) (bT : Binds K fdT ["book", "letter"] []) (GT : FnOk P w K mg base CX0 2 fT fdT ["book", "letter"] (spTurn C)) : FnOk P w K mg base CX0 3 f fd ["book", "letter"] (spInto C) := by
  refine F.ok sc_turned_into (fun vs H Q E h => ?_) (fun cdv A outer s H vs Q E hr h => ?_)
  · obtain ⟨_, _, _, _, _, _, rfl, _⟩ := h
    rfl
  · obtain ⟨r, fa, ta, sg, fs, x, rfl, hb, hfs, hs, hx, q⟩ := h
    refine ⟨_, (pss_one (ps_ret (pe_join pe_str (pe_callB (call_sortedD rfl) (by rfl) bS (by decide +kernel) (pa_cons (pe_call GT (hr.mono (by decide)) (by rfl) gT FT.kp bT .nil pass0 (pa_cons (pv 0) (pa_cons (pv 1) pa_nil))) pa_nil))))), ?_⟩
    refine ⟨⟨_, rfl⟩, _, rfl, _, rfl, r, fa, ta, sg, fs, x, rfl, hb, hfs, hs, hx, fun H1 d L s1 hdn hd1 hB hI => ?_⟩
    have hfew := hI.few
    have few := hs.few
    refine ⟨d, rowsV L, L.map (fun p => S p.1), rfl, .inl hd1, ?_, by rw [List.length_map]; omega, fun ys p hp hso hpn => ?_⟩
    · unfold rowsV
      rw [List.map_map, List.map_map]
      rfl
    have eL : L.map (fun p => S p.1) = (L.map fun p => p.1.headD 0).map fun c => S [c] := by
      rw [List.map_map]
      refine List.map_congr_left fun p hp2 => ?_
      rcases hI.sh p hp2 with ⟨_, h⟩ | ⟨y, _, h⟩
      · cases h
      · rw [h]
        show _ = S [p.1.headD 0]
        rw [h]
        rfl
    obtain ⟨lot, rfl, hpm⟩ := perm_lift hp eL
    have hnd : (L.map fun p => p.1.headD 0).Nodup := by
      have h2 := hI.nd
      have e3 : L.map (·.1) = (L.map fun p => p.1.headD 0).map fun c => [c] := by
        rw [List.map_map]
        refine List.map_congr_left fun p hp2 => ?_
        rcases hI.sh p hp2 with ⟨_, h⟩ | ⟨y, _, h⟩
        · cases h
        · show p.1 = [p.1.headD 0]
          rw [h]
          rfl
      rw [e3] at h2
      exact (List.pairwise_map.mp h2).imp fun h3 h4 => h3 (by rw [h4])
    have hnl : lot.Nodup := (hpm.nodup_iff).mpr hnd
    have hmem : ∀ c, c ∈ lot ↔ [c] ∈ L.map (·.1) := by
      intro c
      rw [hpm.mem_iff, List.mem_map, List.mem_map]
      constructor
      · rintro ⟨p, h2, rfl⟩
        refine ⟨p, h2, ?_⟩
        rcases hI.sh p h2 with ⟨_, h⟩ | ⟨y, _, h⟩
        · cases h
        · show p.1 = [p.1.headD 0]
          rw [h]
          rfl
      · rintro ⟨p, h2, e⟩
        exact ⟨p, h2, by rw [show p.1 = [c] from e]; rfl⟩
    have s2 := s1.trans (same_new (o := HO.lst ((lot.map fun c => S [c]).map V.str)) hpn)
    refine ⟨S [], p, lot.map fun c => S [c], rfl, rfl, Or.inl (SqL.of upd_same), ?_, ?_⟩
    · rw [one_sum, SX.S_len, List.length_map, hpm.length_eq, List.length_map]
      show L.length + L.length * 0 ≤ _
      omega
    · rw [join_one]
      exact q _ L lot s2 hB hI ⟨sorted_pair hso hnl, hmem⟩
theorem ok_judge {f fG fT : Addr} {fd fdG fdT : FuncData} (F : Fun K "judge_going" "judge_going" s_judge_going f fd)
    (FG : Fun K "going_row" "going_row" s_going_row fG fdG) (gG : mg "going_row" = some (.ref fG)) (bG : Binds K fdG ["book", "letter"] []) (GG : FnOk P w K mg base CX0 3 fG fdG ["book", "letter"] (spGo C))
    (FT : Fun K "turned_into" "turned_into" s_turned_into fT fdT) (gT : mg "turned_into" = some (.ref fT)) (bT : Binds K fdT ["book", "letter"] []) (GT : FnOk P w K mg base CX0 3 fT fdT ["book", "letter"] (spInto C)) : FnOk P w K mg base CX0 4 f fd ["book", "letter"] (spJudge K C) := by
  refine F.ok sc_judge_going (fun vs H Q E h => ?_) (fun cdv A outer s H vs Q E hr h => ?_)
  · obtain ⟨_, _, _, _, _, _, rfl, _⟩ := h
    rfl
  · obtain ⟨r, fa, ta, sg, fs, x, rfl, hb, hfs, hs, hx, q⟩ := h
    refine ⟨_, (pss_cons (ps_set (i := 2) sc_judge_going.nd rfl (Or.inl rfl) (pe_call GG (hr.mono (by decide)) (by rfl) gG FG.kp bG .nil pass0 (pa_cons (pv 0) (pa_cons (pv 1) pa_nil))))
      (pss_one (ps_ret (pe_ifExp (pt_cmpR op_isN (pv 2) pe_non (nomark _)) (pe_tup (pa_cons pe_str (pa_cons (pe_call GT (hr.mono (by decide)) (by rfl) gT FT.kp bT .nil pass0 (pa_cons (pv 0) (pa_cons (pv 1) pa_nil))) pa_nil))) (pe_tup (pa_cons pe_str (pa_cons (pv 2) pa_nil))))))), ?_⟩
    refine ⟨_, rfl, _, rfl, r, fa, ta, sg, fs, x, rfl, hb, hfs, hs, hx, fun H1 L s1 hB hI => ?_⟩
    have lotx : ∃ lot, LotOf L lot := by
      refine ⟨sg.filter fun c => decide ([c] ∈ L.map (·.1)), (sg_pair hs).filter _, fun c => ?_⟩
      rw [List.mem_filter, decide_eq_true_eq]
      refine ⟨fun h => h.2, fun h => ⟨?_, h⟩⟩
      obtain ⟨p, hp, e⟩ := List.mem_map.mp h
      rcases hI.sh p hp with ⟨_, h⟩ | ⟨y, hy, h⟩
      · cases h
      · have e2 : [y] = [c] := h.symm.trans e
        injection e2 with e2
        rw [← e2]
        exact hy
    cases hf : firstGo fs sg (pend L) with
    | none =>
      refine ⟨_, rfl, rfl, _, rfl, ifT rfl ?_⟩
      refine ⟨_, rfl, _, rfl, r, fa, ta, sg, fs, x, rfl, hb.same s1, hfs, hs, hx, fun H2 L2 lot s2 hB2 hI2 hlot => ?_⟩
      refine ⟨sz_le (n := 2) (by decide), fun p hp => ?_⟩
      have e2 : L2 = L := hB2.det hB
      rw [e2] at hlot
      refine q _ L lot p (s1.trans (s2.trans (same_new hp))) hB hI hlot ?_
      rw [hf]
      exact Or.inl (Or.inl upd_same)
    | some row =>
      refine ⟨_, rfl, rfl, _, rfl, ifF rfl ?_⟩
      refine ⟨_, rfl, sz_le (n := 2) (by decide), fun p hp => ?_⟩
      obtain ⟨lot, hlot⟩ := lotx
      refine q _ L lot p (s1.trans (same_new hp)) hB hI hlot ?_
      rw [hf]
      exact Or.inl (Or.inl upd_same)
end
end Lw

namespace Mq
open PySem PySem.Spec PyProof.Rows L2
/-- repr of a list or tuple without dicts in it, wherever it stands -/
def rRepP (K : PySem.W.Frag) : List V → Hp → VK → Prop := fun xs H Q => ∃ (a : Addr) (d : PyData), xs = [.ref a] ∧ Dp K H (.ref a) d ∧ d.showable = true ∧ d.hasDict = false ∧
  d.depth ≤ 40 ∧ d.shown.length ≤ sizeLine ∧ Q (.str d.shown) H
theorem call_repP {X : Cx} {k : Nat} (hr : Room k X.A) (gA : Still X.A) : CallR X (.builtin "repr") (rRepP X.K) := by
  intro pins s σ H xs us Q I r h
  obtain ⟨a, d, rfl, hd, hs, hz, hde, hl, q⟩ := h
  obtain ⟨u, rfl, rx⟩ := vals1 r
  have hu := hr.units
  obtain ⟨as, rd⟩ := Dp.reads I d _ _ hd rx
  cases rx
  exact repr_of_reads' rd hs (fun z => by rw [hz] at z; cases z) gA (by omega) (fun _ _ e => e) (fun h' u tk k => ⟨.str _, H, I.kept k, ⟨_, rfl⟩, q⟩) hl
/-- what a rule asks, told otherwise -/
theorem PE_imp {X : Cx} {e : Expr} {t t' : TE} (h : PE X e t) (i : ∀ σ H Q, t' σ H Q → t σ H Q) : PE X e t' := ⟨fun pins s σ H Q I q => h.run pins s σ H Q I (i σ H Q q)⟩
end Mq

namespace Mq
open PySem PySem.Spec PyProof.Rows L2
open SX (S)
/-! ### data of tuples, texts and numbers: where tuples stay, it stays -/
mutual
inductive Td (K : PySem.W.Frag) (H : Hp) : V → PyData → Prop
  | int (i : Int) : Td K H (.int i) (.int i)
  | str (x : Str) : Td K H (.str x) (.str x)
  | tup {a : Addr} {xs : List V} {ds : List PyData} : SqT K H a xs → TdAll K H xs ds → Td K H (.ref a) (.tuple ds)
inductive TdAll (K : PySem.W.Frag) (H : Hp) : List V → List PyData → Prop
  | nil : TdAll K H [] []
  | cons {v : V} {vs : List V} {d : PyData} {ds : List PyData} : Td K H v d → TdAll K H vs ds → TdAll K H (v :: vs) (d :: ds)
end
section
variable {K : PySem.W.Frag} {H H' : Hp}
mutual
theorem Td.kp (e : ∀ a xs, SqT K H a xs → SqT K H' a xs) : ∀ {v : V} {d : PyData}, Td K H v d → Td K H' v d
  | _, _, .int i => .int i
  | _, _, .str x => .str x
  | _, _, .tup h a => .tup (e _ _ h) (TdAll.kp e a)
theorem TdAll.kp (e : ∀ a xs, SqT K H a xs → SqT K H' a xs) : ∀ {v : List V} {d : List PyData}, TdAll K H v d → TdAll K H' v d
  | _, _, .nil => .nil
  | _, _, .cons a b => .cons (Td.kp e a) (TdAll.kp e b)
end
theorem Td.same (e : Same H H') {v : V} {d : PyData} (h : Td K H v d) : Td K H' v d := h.kp fun _ _ z => Same.tup e z
theorem TdAll.same (e : Same H H') {v : List V} {d : List PyData} (h : TdAll K H v d) : TdAll K H' v d := h.kp fun _ _ z => Same.tup e z
mutual
theorem Td.dg : ∀ {v : V} {d : PyData}, Td K H v d → Dg K H v d
  | _, _, .int i => .int i
  | _, _, .str x => .str x
  | _, _, .tup h a => .tup h (TdAll.dg a)
theorem TdAll.dg : ∀ {v : List V} {d : List PyData}, TdAll K H v d → DgAll K H v d
  | _, _, .nil => .nil
  | _, _, .cons a b => .cons (Td.dg a) (TdAll.dg b)
end
mutual
theorem Td.dp : ∀ {v : V} {d : PyData}, Td K H v d → Dp K H v d
  | _, _, .int i => .int i
  | _, _, .str x => .str x
  | _, _, .tup h a => .tup h (TdAll.dp a)
theorem TdAll.dp : ∀ {v : List V} {d : List PyData}, TdAll K H v d → DpAll K H v d
  | _, _, .nil => .nil
  | _, _, .cons a b => .cons (Td.dp a) (TdAll.dp b)
end
theorem TdAll.len : ∀ {vs : List V} {ds : List PyData}, TdAll K H vs ds → vs.length = ds.length
  | _, _, .nil => rfl
  | _, _, .cons a b => congrArg (· + 1) b.len
theorem TdAll.snoc : ∀ {vs : List V} {ds : List PyData} {v : V} {d : PyData}, TdAll K H vs ds → Td K H v d → TdAll K H (vs ++ [v]) (ds ++ [d])
  | _, _, _, _, .nil, h => .cons h .nil
  | _, _, _, _, .cons a b, h => .cons a (b.snoc h)
theorem TdAll.unsnoc : ∀ {vs : List V} {ds : List PyData} {d : PyData}, TdAll K H vs (ds ++ [d]) → ∃ us v, vs = us ++ [v] ∧ TdAll K H us ds ∧ Td K H v d
  | _, [], _, .cons a .nil => ⟨[], _, rfl, .nil, a⟩
  | _, e :: ds, _, .cons a b => by
    obtain ⟨us, v, rfl, h1, h2⟩ := b.unsnoc
    exact ⟨_ :: us, v, rfl, .cons a h1, h2⟩
theorem TdAll.at : ∀ {vs : List V} {ds : List PyData} {i : Nat} {v : V}, TdAll K H vs ds → vs[i]? = some v → ∃ d, ds[i]? = some d ∧ Td K H v d
  | _, _, 0, _, .cons a b, h => ⟨_, rfl, by cases h; exact a⟩
  | _, _, i + 1, _, .cons a b, h => TdAll.at (i := i) b h
theorem TdAll.of_strs {xs : List Str} : TdAll K H (xs.map V.str) (xs.map PyData.str) := by
  induction xs with
  | nil => exact .nil
  | cons x xs ih => exact .cons (.str x) ih
/-- a tuple of two -/
theorem Td.two {v : V} {d e : PyData} (h : Td K H v (.tuple [d, e])) : ∃ a x y, v = .ref a ∧ SqT K H a [x, y] ∧ Td K H x d ∧ Td K H y e := by
  cases h with
  | tup h a =>
    cases a with
    | cons a b =>
      cases b with
      | cons b c =>
        cases c
        exact ⟨_, _, _, rfl, h, a, b⟩
theorem Td.two' {a : Addr} {x y : V} {d e : PyData} (h : SqT K H a [x, y]) (h1 : Td K H x d) (h2 : Td K H y e) : Td K H (.ref a) (.tuple [d, e]) := .tup h (.cons h1 (.cons h2 .nil))
theorem Td.isStr {v : V} {x : Str} (h : Td K H v (.str x)) : v = .str x := by
  cases h
  rfl
end
/-! ### what can be shown, and how long it is -/
structure ShowOk (d : PyData) : Prop where
  sh : d.showable = true
  de : d.depth ≤ 40
  le : d.shown.length ≤ sizeLine
structure Gd (w n : Nat) (d : PyData) : Prop where
  cl : d.canLay0 = true
  sh : d.showable = true
  de : d.depth ≤ n
  we : d.weight ≤ w
  it : d.intsShort 13 = true
theorem gd_str {l : List Nat} {w : Nat} (h : ∀ c ∈ l, c < 1114112) (hl : l.length ≤ w) : Gd w 0 (.str (S l)) := by
  refine ⟨?_, rfl, Nat.le_refl 0, ?_, rfl⟩
  · show (l.toArray : Array Nat).all (fun d => decide (d < 1114112)) = true
    rw [List.all_toArray]
    exact List.all_eq_true.mpr fun c hc => decide_eq_true (h c hc)
  · show (S l).length ≤ w
    rw [SX.S_len]
    exact hl
theorem gd_int {k : Nat} (h : k ≤ 1000) : Gd 20 0 (.int (k : Nat)) := by
  obtain ⟨a, b, c⟩ := small_short k h
  exact ⟨rfl, b, Nat.le_refl 0, c, by show decide _ = true; exact decide_eq_true a⟩
theorem Gd.mono {w n w' n' : Nat} {d : PyData} (h : Gd w n d) (hw : w ≤ w') (hn : n ≤ n') : Gd w' n' d := ⟨h.cl, h.sh, Nat.le_trans h.de hn, Nat.le_trans h.we hw, h.it⟩
theorem gd_all {w n : Nat} : ∀ {ds : List PyData}, (∀ d ∈ ds, Gd w n d) → PyData.canLayAll0 ds = true ∧ PyData.showableAll ds = true ∧ PyData.depthAll ds ≤ n ∧ PyData.weightAll ds ≤ ds.length * (w + 1) ∧ PyData.intsShortAll 13 ds = true
  | [], _ => ⟨rfl, rfl, Nat.zero_le _, Nat.zero_le _, rfl⟩
  | d :: ds, h => by
    obtain ⟨a, b, c, e, f⟩ := gd_all fun x hx => h x (List.mem_cons_of_mem _ hx)
    have g := h d List.mem_cons_self
    refine ⟨?_, ?_, ?_, ?_, ?_⟩
    · show (d.canLay0 && PyData.canLayAll0 ds) = true
      rw [g.cl, a]
      rfl
    · show (d.showable && PyData.showableAll ds) = true
      rw [g.sh, b]
      rfl
    · exact Nat.max_le.mpr ⟨g.de, c⟩
    · show d.weight + 1 + PyData.weightAll ds ≤ (ds.length + 1) * (w + 1)
      have := g.we
      rw [Nat.add_mul, Nat.one_mul]
      omega
    · show (d.intsShort 13 && PyData.intsShortAll 13 ds) = true
      rw [g.it, f]
      rfl
theorem gd_tup {w n m : Nat} {ds : List PyData} (h : ∀ d ∈ ds, Gd w n d) (hl : ds.length ≤ m) : Gd (m * (w + 1)) (n + 1) (.tuple ds) := by
  obtain ⟨a, b, c, e, f⟩ := gd_all h
  exact ⟨a, b, Nat.succ_le_succ c, Nat.le_trans e (Nat.mul_le_mul_right _ hl), f⟩
theorem gd_lst {w n m : Nat} {ds : List PyData} (h : ∀ d ∈ ds, Gd w n d) (hl : ds.length ≤ m) : Gd (m * (w + 1)) (n + 1) (.list ds) := by
  obtain ⟨a, b, c, e, f⟩ := gd_all h
  exact ⟨a, b, Nat.succ_le_succ c, Nat.le_trans e (Nat.mul_le_mul_right _ hl), f⟩
theorem Gd.ok {w n : Nat} {d : PyData} (h : Gd w n d) (hw : w ≤ 1000000) (hn : n ≤ 40) : ShowOk d :=
  ⟨h.sh, Nat.le_trans h.de hn, shown_fits h.cl (Nat.le_trans h.de (Nat.le_trans hn (by decide))) (Nat.le_trans h.we hw) h.it⟩
end Mq

namespace Mq
open PySem PySem.Spec PyProof.Rows L2
open SX (S)
/-! ### signs of what is shown -/
def Low (x : Str) : Prop := ∀ c ∈ x.cps.toList, c < 16 ^ 8
theorem low_of (s : String) : Low (Str.ofString s) := by
  intro c hc
  rw [Str.ofString_eq_toList] at hc
  obtain ⟨d, _, rfl⟩ := List.mem_map.mp (by simpa using hc : c ∈ s.toList.map Char.toNat)
  have h : d.toNat < 4294967296 := d.val.toBitVec.isLt
  exact Nat.lt_of_lt_of_le h (by decide)
theorem low_app {x y : Str} (hx : Low x) (hy : Low y) : Low (x ++ y) := by
  intro c hc
  have e : (x ++ y).cps.toList = x.cps.toList ++ y.cps.toList := Array.toList_append ..
  rw [e] at hc
  exact (List.mem_append.mp hc).elim (hx c) (hy c)
theorem low_join {sep : Str} (hs : Low sep) : ∀ ts : List Str, (∀ t ∈ ts, Low t) → Low (Str.join sep ts)
  | [], _ => fun c hc => by cases (by simpa [Str.join, Str.empty] using hc : False)
  | [x], h => h x List.mem_cons_self
  | x :: y :: r, h => low_app (low_app (h x List.mem_cons_self) hs) (low_join hs (y :: r) fun t ht => h t (List.mem_cons_of_mem _ ht))
theorem low_from : ∀ (ts : List Str) (k : Nat) (acc : Str), Low acc → (∀ t ∈ ts, Low t) → Low (textFrom k acc ts)
  | [], _, _, h, _ => h
  | t :: r, k, acc, h, ht => by
    refine low_from r (k + 1) _ (low_app (low_app h ?_) (ht t List.mem_cons_self)) fun u hu => ht u (List.mem_cons_of_mem _ hu)
    exact low_of _
theorem low_digits {c : Nat} : ∀ d ∈ (Nat.toDigits 16 c).map Char.toNat, d < 16 ^ 8 := by
  intro d hd
  obtain ⟨e, _, rfl⟩ := List.mem_map.mp hd
  have h : e.toNat < 4294967296 := e.val.toBitVec.isLt
  exact Nat.lt_of_lt_of_le h (by decide)
theorem low_char {q c : Nat} (hc : c < 16 ^ 8) : ∀ d ∈ Builtin.Str.reprChar q c, d < 16 ^ 8 := by
  have hx : ∀ w : Nat, ∀ d ∈ List.replicate (w - ((Nat.toDigits 16 c).map Char.toNat).length) 48 ++ (Nat.toDigits 16 c).map Char.toNat, d < 16 ^ 8 := by
    intro w d hd
    rcases List.mem_append.mp hd with h | h
    · rw [(List.mem_replicate.mp h).2]
      decide
    · exact low_digits d h
  have two : ∀ a b : Nat, a < 16 ^ 8 → b < 16 ^ 8 → ∀ d ∈ [a, b], d < 16 ^ 8 := by
    intro a b ha hb d hd
    simp only [List.mem_cons, List.not_mem_nil, or_false] at hd
    rcases hd with rfl | rfl
    · exact ha
    · exact hb
  have both : ∀ (a b : List Nat), (∀ d ∈ a, d < 16 ^ 8) → (∀ d ∈ b, d < 16 ^ 8) → ∀ d ∈ a ++ b, d < 16 ^ 8 := fun a b ha hb d hd => (List.mem_append.mp hd).elim (ha d) (hb d)
  unfold Builtin.Str.reprChar
  dsimp only
  split
  · exact two _ _ (by decide) hc
  split
  · exact two _ _ (by decide) (by decide)
  split
  · exact two _ _ (by decide) (by decide)
  split
  · exact two _ _ (by decide) (by decide)
  split
  · intro d hd
    rw [List.mem_singleton.mp hd]
    exact hc
  split
  · exact both _ _ (two _ _ (by decide) (by decide)) (hx 2)
  split
  · exact both _ _ (two _ _ (by decide) (by decide)) (hx 4)
  · exact both _ _ (two _ _ (by decide) (by decide)) (hx 8)
theorem low_fold (q : Nat) : ∀ (l : List Nat) (acc : Array Nat), (∀ c ∈ l, c < 16 ^ 8) → (∀ c ∈ acc.toList, c < 16 ^ 8) → ∀ c ∈ (l.foldl (fun out c => out ++ (Builtin.Str.reprChar q c).toArray) acc).toList, c < 16 ^ 8
  | [], acc, _, h => h
  | c :: l, acc, hl, h => by
    refine low_fold q l _ (fun d hd => hl d (List.mem_cons_of_mem _ hd)) fun d hd => ?_
    rw [Array.toList_append] at hd
    rcases List.mem_append.mp hd with hd | hd
    · exact h d hd
    · exact low_char (hl c List.mem_cons_self) d hd
theorem low_quote (x : Str) : reprQuote x < 16 ^ 8 := by
  unfold reprQuote
  split <;> decide
theorem low_repr {x : Str} (h : Low x) : Low (reprText x) := by
  intro c hc
  unfold reprText at hc
  have hc : c ∈ ((x.cps.foldl (fun out c => out ++ (Builtin.Str.reprChar (reprQuote x) c).toArray) #[reprQuote x]).push (reprQuote x)).toList := hc
  rw [Array.toList_push, ← Array.foldl_toList] at hc
  rcases List.mem_append.mp hc with hc | hc
  · refine low_fold _ _ _ h (fun d hd => ?_) c hc
    have hd : d ∈ [reprQuote x] := hd
    rw [List.mem_singleton.mp hd]
    exact low_quote x
  · rw [List.mem_singleton.mp hc]
    exact low_quote x
mutual
theorem low_shown {B : Nat} : ∀ d : PyData, d.leavesShort B = true → Low d.shown
  | .none, _ => low_of "None"
  | .bool true, _ => low_of "True"
  | .bool false, _ => low_of "False"
  | .int i, _ => low_of _
  | .str x, h => by
    have hx : ∀ c ∈ x.cps.toList, c < 16 ^ 8 := by simpa only [PyData.leavesShort, List.all_eq_true, decide_eq_true_eq] using h
    exact low_repr hx
  | .list xs, h => by
    have h1 := low_all xs (by simpa only [PyData.leavesShort] using h)
    show Low (listText (PyData.shownAll xs))
    unfold listText
    exact low_app (low_from _ 0 _ (low_of "[") h1) (low_of "]")
  | .tuple xs, h => by
    have h1 := low_all xs (by simpa only [PyData.leavesShort] using h)
    show Low (tupleText (PyData.shownAll xs))
    unfold tupleText
    exact low_app (low_app (low_of "(") (low_join (low_of ", ") _ h1)) (low_of _)
  | .dict kvs, h => by
    have h1 := low_kv kvs (by simpa only [PyData.leavesShort] using h)
    show Low (dictText (PyData.shownKv kvs))
    unfold dictText
    exact low_app (low_app (low_of "{") (low_join (low_of ", ") _ h1)) (low_of "}")
theorem low_all {B : Nat} : ∀ xs : List PyData, PyData.leavesShortAll B xs = true → ∀ t ∈ PyData.shownAll xs, Low t
  | [], _ => fun t ht => by cases ht
  | x :: xs, h => by
    have h' : x.leavesShort B = true ∧ PyData.leavesShortAll B xs = true := by simpa only [PyData.leavesShortAll, Bool.and_eq_true] using h
    have h1 := low_shown x h'.1
    have h2 := low_all xs h'.2
    intro t ht
    rcases List.mem_cons.mp (show t ∈ x.shown :: PyData.shownAll xs from ht) with rfl | ht
    · exact h1
    · exact h2 t ht
theorem low_kv {B : Nat} : ∀ kvs : List (PyData × PyData), PyData.leavesShortKv B kvs = true → ∀ t ∈ PyData.shownKv kvs, Low t
  | [], _ => fun t ht => by cases ht
  | (k, v) :: r, h => by
    have h' : (k.leavesShort B = true ∧ v.leavesShort B = true) ∧ PyData.leavesShortKv B r = true := by simpa only [PyData.leavesShortKv, Bool.and_eq_true] using h
    have h1 := low_shown k h'.1.1
    have h2 := low_shown v h'.1.2
    have h3 := low_kv r h'.2
    intro t ht
    rcases List.mem_cons.mp (show t ∈ (k.shown ++ ": " ++ v.shown) :: PyData.shownKv r from ht) with rfl | ht
    · exact low_app (low_app h1 (low_of ": ")) h2
    · exact h3 t ht
end
/-! ### bounds, dicts and long numbers among them -/
structure Gs (w n : Nat) (d : PyData) : Prop where
  sh : d.showable = true
  de : d.depth ≤ n
  we : d.weight ≤ w
  le : d.leavesShort 60 = true
def gsB (w n : Nat) (d : PyData) : Bool := d.showable && (decide (d.depth ≤ n) && (decide (d.weight ≤ w) && d.leavesShort 60))
theorem gs_of {w n : Nat} {d : PyData} (h : gsB w n d = true) : Gs w n d := by
  obtain ⟨a, h⟩ := Bool.and_eq_true_iff.mp h
  obtain ⟨b, h⟩ := Bool.and_eq_true_iff.mp h
  obtain ⟨c, e⟩ := Bool.and_eq_true_iff.mp h
  exact ⟨a, of_decide_eq_true b, of_decide_eq_true c, e⟩
theorem Gs.mono {w n w' n' : Nat} {d : PyData} (h : Gs w n d) (hw : w ≤ w') (hn : n ≤ n') : Gs w' n' d := ⟨h.sh, Nat.le_trans h.de hn, Nat.le_trans h.we hw, h.le⟩
theorem Gs.len {w n : Nat} {d : PyData} (h : Gs w n d) : d.shown.length ≤ 62 * w + 60 := by
  have h1 := PyData.shown_le 60 (by decide) d h.le
  have h2 := h.we
  omega
theorem Gs.ok {w n : Nat} {d : PyData} (h : Gs w n d) (hw : w ≤ 200000) (hn : n ≤ 40) : ShowOk d :=
  ⟨h.sh, Nat.le_trans h.de hn, by have := h.len; rw [sizeLine_eq]; omega⟩
theorem gs_str {l : List Nat} {w : Nat} (h : ∀ c ∈ l, c < 1114112) (hl : l.length ≤ w) : Gs w 0 (.str (S l)) := by
  refine ⟨rfl, Nat.le_refl 0, ?_, ?_⟩
  · show (S l).length ≤ w
    rw [SX.S_len]
    exact hl
  · show (l.toArray.toList.all fun c => decide (c < 16 ^ 8)) = true
    refine List.all_eq_true.mpr fun c hc => decide_eq_true ?_
    exact Nat.lt_of_lt_of_le (h c (by simpa using hc)) (by decide)
theorem Gs.shown {w n : Nat} {d : PyData} (h : Gs w n d) : Gs (62 * w + 60) 0 (.str d.shown) := by
  refine ⟨rfl, Nat.le_refl 0, h.len, ?_⟩
  show (d.shown.cps.toList.all fun c => decide (c < 16 ^ 8)) = true
  exact List.all_eq_true.mpr fun c hc => decide_eq_true (low_shown d h.le c hc)
theorem gs_all {w n : Nat} : ∀ {ds : List PyData}, (∀ d ∈ ds, Gs w n d) → PyData.showableAll ds = true ∧ PyData.depthAll ds ≤ n ∧ PyData.weightAll ds ≤ ds.length * (w + 1) ∧ PyData.leavesShortAll 60 ds = true
  | [], _ => ⟨rfl, Nat.zero_le _, Nat.zero_le _, rfl⟩
  | d :: ds, h => by
    obtain ⟨b, c, e, f⟩ := gs_all fun x hx => h x (List.mem_cons_of_mem _ hx)
    have g := h d List.mem_cons_self
    refine ⟨?_, ?_, ?_, ?_⟩
    · show (d.showable && PyData.showableAll ds) = true
      rw [g.sh, b]
      rfl
    · exact Nat.max_le.mpr ⟨g.de, c⟩
    · show d.weight + 1 + PyData.weightAll ds ≤ (ds.length + 1) * (w + 1)
      have := g.we
      rw [Nat.add_mul, Nat.one_mul]
      omega
    · show (d.leavesShort 60 && PyData.leavesShortAll 60 ds) = true
      rw [g.le, f]
      rfl
theorem gs_tup {w n m : Nat} {ds : List PyData} (h : ∀ d ∈ ds, Gs w n d) (hl : ds.length ≤ m) : Gs (m * (w + 1)) (n + 1) (.tuple ds) := by
  obtain ⟨b, c, e, f⟩ := gs_all h
  exact ⟨b, Nat.succ_le_succ c, Nat.le_trans e (Nat.mul_le_mul_right _ hl), f⟩
theorem gs_lst {w n m : Nat} {ds : List PyData} (h : ∀ d ∈ ds, Gs w n d) (hl : ds.length ≤ m) : Gs (m * (w + 1)) (n + 1) (.list ds) := by
  obtain ⟨b, c, e, f⟩ := gs_all h
  exact ⟨b, Nat.succ_le_succ c, Nat.le_trans e (Nat.mul_le_mul_right _ hl), f⟩
theorem gs_bool {w n : Nat} (b : Bool) : Gs w n (.bool b) := ⟨rfl, Nat.zero_le _, Nat.zero_le _, rfl⟩
/-! ### data whose lists and dicts stand at told places: it stays where these stay -/
mutual
inductive Dv (K : PySem.W.Frag) (N : Addr → Prop) (H : Hp) : V → PyData → Prop
  | non : Dv K N H .non .none
  | bl (b : Bool) : Dv K N H (.bl b) (.bool b)
  | int (i : Int) : Dv K N H (.int i) (.int i)
  | str (x : Str) : Dv K N H (.str x) (.str x)
  | lst {a : Addr} {xs : List V} {ds : List PyData} : N a → a ≠ sysModules → H a = some (.lst xs) → DvAll K N H xs ds → Dv K N H (.ref a) (.list ds)
  | tup {a : Addr} {xs : List V} {ds : List PyData} : SqT K H a xs → DvAll K N H xs ds → Dv K N H (.ref a) (.tuple ds)
  | dct {a : Addr} : N a → H a = some (.dK []) → Dv K N H (.ref a) (.dict [])
inductive DvAll (K : PySem.W.Frag) (N : Addr → Prop) (H : Hp) : List V → List PyData → Prop
  | nil : DvAll K N H [] []
  | cons {v : V} {vs : List V} {d : PyData} {ds : List PyData} : Dv K N H v d → DvAll K N H vs ds → DvAll K N H (v :: vs) (d :: ds)
end
section
variable {K : PySem.W.Frag} {N N' : Addr → Prop} {H H' : Hp}
mutual
theorem Dv.kp (e1 : ∀ a o, N a → H a = some o → H' a = some o) (e2 : ∀ a xs, SqT K H a xs → SqT K H' a xs) : ∀ {v : V} {d : PyData}, Dv K N H v d → Dv K N H' v d
  | _, _, .non => .non
  | _, _, .bl b => .bl b
  | _, _, .int i => .int i
  | _, _, .str x => .str x
  | _, _, .lst n m h a => .lst n m (e1 _ _ n h) (DvAll.kp e1 e2 a)
  | _, _, .tup h a => .tup (e2 _ _ h) (DvAll.kp e1 e2 a)
  | _, _, .dct n h => .dct n (e1 _ _ n h)
theorem DvAll.kp (e1 : ∀ a o, N a → H a = some o → H' a = some o) (e2 : ∀ a xs, SqT K H a xs → SqT K H' a xs) : ∀ {v : List V} {d : List PyData}, DvAll K N H v d → DvAll K N H' v d
  | _, _, .nil => .nil
  | _, _, .cons a b => .cons (Dv.kp e1 e2 a) (DvAll.kp e1 e2 b)
end
mutual
theorem Dv.mono (e : ∀ a, N a → N' a) : ∀ {v : V} {d : PyData}, Dv K N H v d → Dv K N' H v d
  | _, _, .non => .non
  | _, _, .bl b => .bl b
  | _, _, .int i => .int i
  | _, _, .str x => .str x
  | _, _, .lst n m h a => .lst (e _ n) m h (DvAll.mono e a)
  | _, _, .tup h a => .tup h (DvAll.mono e a)
  | _, _, .dct n h => .dct (e _ n) h
theorem DvAll.mono (e : ∀ a, N a → N' a) : ∀ {v : List V} {d : List PyData}, DvAll K N H v d → DvAll K N' H v d
  | _, _, .nil => .nil
  | _, _, .cons a b => .cons (Dv.mono e a) (DvAll.mono e b)
end
mutual
theorem Dv.dg : ∀ {v : V} {d : PyData}, Dv K N H v d → Dg K H v d
  | _, _, .non => .non
  | _, _, .bl b => .bl b
  | _, _, .int i => .int i
  | _, _, .str x => .str x
  | _, _, .lst _ m h a => .lst m (SqL.of h) (DvAll.dg a)
  | _, _, .tup h a => .tup h (DvAll.dg a)
  | _, _, .dct n h => .dct h .nil
theorem DvAll.dg : ∀ {v : List V} {d : List PyData}, DvAll K N H v d → DgAll K H v d
  | _, _, .nil => .nil
  | _, _, .cons a b => .cons (Dv.dg a) (DvAll.dg b)
end
mutual
theorem Td.dv : ∀ {v : V} {d : PyData}, Td K H v d → Dv K N H v d
  | _, _, .int i => .int i
  | _, _, .str x => .str x
  | _, _, .tup h a => .tup h (TdAll.dv a)
theorem TdAll.dv : ∀ {v : List V} {d : List PyData}, TdAll K H v d → DvAll K N H v d
  | _, _, .nil => .nil
  | _, _, .cons a b => .cons (Td.dv a) (TdAll.dv b)
end
theorem Dv.same (e : Same H H') {v : V} {d : PyData} (h : Dv K N H v d) : Dv K N H' v d := h.kp (fun a o _ z => e a o z) fun _ _ z => Same.tup e z
theorem DvAll.same (e : Same H H') {v : List V} {d : List PyData} (h : DvAll K N H v d) : DvAll K N H' v d := h.kp (fun a o _ z => e a o z) fun _ _ z => Same.tup e z
theorem DvAll.len : ∀ {vs : List V} {ds : List PyData}, DvAll K N H vs ds → vs.length = ds.length
  | _, _, .nil => rfl
  | _, _, .cons a b => congrArg (· + 1) b.len
theorem DvAll.app : ∀ {vs us : List V} {ds es : List PyData}, DvAll K N H vs ds → DvAll K N H us es → DvAll K N H (vs ++ us) (ds ++ es)
  | _, _, _, _, .nil, h => h
  | _, _, _, _, .cons a b, h => .cons a (b.app h)
theorem DvAll.at : ∀ {vs : List V} {ds : List PyData} {i : Nat} {v : V}, DvAll K N H vs ds → vs[i]? = some v → ∃ d, ds[i]? = some d ∧ Dv K N H v d
  | _, _, 0, _, .cons a b, h => ⟨_, rfl, by cases h; exact a⟩
  | _, _, i + 1, _, .cons a b, h => DvAll.at (i := i) b h
theorem DvAll.mem {vs : List V} {ds : List PyData} {v : V} (h : DvAll K N H vs ds) (hv : v ∈ vs) : ∃ d ∈ ds, Dv K N H v d := by
  obtain ⟨i, hi, e⟩ := List.getElem_of_mem hv
  obtain ⟨d, h1, h2⟩ := h.at (i := i) (by rw [List.getElem?_eq_getElem hi, e])
  exact ⟨d, List.mem_of_getElem? h1, h2⟩
end
/-! ### capital letters -/
theorem upper_low (l : List Nat) (h : ∀ c ∈ l, c < 128) : ∃ u : List Nat, Txt.upper (S l) = S u ∧ u.length = l.length ∧ ∀ c ∈ u, c < 128 := by
  have h1 : ((List.range 128).all fun c => match Unicode.upperOf c with | [d] => decide (d < 128) | _ => false) = true := by decide +kernel
  have h2 : ∀ c, c < 128 → ∃ d, Unicode.upperOf c = [d] ∧ d < 128 := by
    intro c hc
    have h3 := List.all_eq_true.mp h1 c (List.mem_range.mpr hc)
    split at h3
    · rename_i d e
      exact ⟨d, e, of_decide_eq_true h3⟩
    · cases h3
  refine ⟨l.map fun c => (Unicode.upperOf c).headD 0, ?_, List.length_map .., ?_⟩
  · have e1 : (placed (S l) fun _ c => Unicode.upperOf c).toList = l.map fun c => (Unicode.upperOf c).headD 0 := by
      unfold placed
      rw [Array.toList_flatten, Array.toList_mapIdx]
      show ((List.mapIdx (fun (_ : Nat) (c : Nat) => (Unicode.upperOf c).toArray) l).map Array.toList).flatten = _
      rw [show ((List.mapIdx (fun (_ : Nat) (c : Nat) => (Unicode.upperOf c).toArray) l).map Array.toList) = l.map Unicode.upperOf from ?_]
      · clear h1
        induction l with
        | nil => rfl
        | cons c l ih =>
          obtain ⟨d, hd, _⟩ := h2 c (h c List.mem_cons_self)
          rw [List.map_cons, List.flatten_cons, List.map_cons, ih fun x hx => h x (List.mem_cons_of_mem _ hx), hd]
          rfl
      · refine List.ext_getElem? fun i => ?_
        rw [List.getElem?_map, List.getElem?_mapIdx, List.getElem?_map, Option.map_map]
        rfl
    show Str.mk _ = Str.mk _
    exact congrArg Str.mk (Array.toList_inj.mp e1)
  · intro c hc
    obtain ⟨d, hd, rfl⟩ := List.mem_map.mp hc
    obtain ⟨e, h3, h4⟩ := h2 d (h d hd)
    rw [h3]
    exact h4
end Mq

namespace Lw
open PySem PySem.Spec PyProof.Rows L2 Mq
open SX (S)
/-! ### papers of any hand -/
def papB (d : PyData) (wd : Str) (n : Nat) : Bool := match d with
  | .tuple (.str k :: ds) => decide (ds.length + 1 = n) && decide (k = wd)
  | _ => false
def spPaper (K : PySem.W.Frag) : Sp := fun vs H Q _ => ∃ (v : V) (d : PyData) (wd : Str) (n : Nat), vs = [v, .str wd, .int (n : Nat)] ∧ Dg K H v d ∧ 0 < n ∧ ∀ H', Same H H' → Q (.bl (papB d wd n)) H'
def zB (lot : List Nat) (f : Fd) : Bool := match f.z with
  | [] => false
  | c :: _ => decide (c ∈ lot)
def stayB (fs : List Fd) (x : Nat) (lot : List Nat) : Bool := ascB lot && (decide (x ∈ lot) && fs.all fun f => !decide (f.x ∈ lot) || zB lot f)
def spStay (K : PySem.W.Frag) (C : Addr) : Sp := fun vs H Q _ => ∃ (r fa ta : Addr) (sg lot : List Nat) (fs : List Fd) (xs : List V) (x : Nat), vs = [.ref r, .str (S [x]), .str (S lot)] ∧ BkAt H C r sg fs fa ta ∧ FsOk sg fs ∧ SqT K H fa xs ∧ FdAll K H xs fs ∧ lot.length ≤ 1000 ∧
  ∀ H', Same H H' → Q (.bl (stayB fs x lot)) H'
def thingB (fs : List Fd) (sg : List Nat) (x : Nat) (d : PyData) : Bool := match d with
  | .tuple [.str k, .str l] => if k = "goes" then allB l.cps.toList sg && goesB fs x l.cps.toList else if k = "stays" then allB l.cps.toList sg && stayB fs x l.cps.toList else false
  | _ => false
def spHolds (K : PySem.W.Frag) (C : Addr) : Sp := fun vs H Q _ => ∃ (r fa ta : Addr) (sg : List Nat) (fs : List Fd) (xs : List V) (x : Nat) (v : V) (d : PyData), vs = [.ref r, .str (S [x]), v] ∧ BkAt H C r sg fs fa ta ∧ FsOk sg fs ∧ SqT K H fa xs ∧ FdAll K H xs fs ∧ Dg K H v d ∧ d.weight ≤ 1000 ∧
  ∀ H', Same H H' → Q (.bl (thingB fs sg x d)) H'
theorem dgl {K : PySem.W.Frag} {H : Hp} : ∀ {vs : List V} {ds : List PyData}, DgAll K H vs ds → vs.length = ds.length
  | _, _, .nil => rfl
  | _, _, .cons _ b => congrArg (· + 1) (dgl b)
theorem S_of (x : Str) : S x.cps.toList = x := rfl
theorem w_all {d : PyData} {ds : List PyData} (h : d ∈ ds) : d.weight ≤ PyData.weightAll ds := by
  induction ds with
  | nil => cases h
  | cons e ds ih =>
    rcases List.mem_cons.mp h with rfl | h
    · show d.weight ≤ d.weight + 1 + _
      omega
    · have := ih h
      show d.weight ≤ e.weight + 1 + PyData.weightAll ds
      omega
theorem one_nil {x : Nat} : decide (V.str (S [x]) = V.str (Str.ofString "")) = false := by
  refine decide_eq_false fun h => ?_
  injection h with h
  have h2 : S [x] = S [] := h
  cases SX.S_inj h2
section
variable {P : Program} {w : World} {K : PySem.W.Frag} {mg : Str → Option Value} {base : Heap} {C CW : Addr}
theorem ok_is_paper {f : Addr} {fd : FuncData} (F : Fun K "is_paper" "is_paper" s_is_paper f fd) (B : Blt mg) : FnOk P w K mg base CX0 1 f fd ["thing", "word", "many"] (spPaper K) := by
  refine F.ok sc_is_paper (fun vs H Q E h => ?_) (fun cdv A outer s H vs Q E hr h => ?_)
  · obtain ⟨_, _, _, _, rfl, _⟩ := h
    rfl
  · obtain ⟨v, d, wd, n, rfl, hd, hn, q⟩ := h
    refine ⟨_, (pss_one (ps_ret (pe_and (pe_callB call_isi (by rfl) B.isi (by decide +kernel) (pa_cons (pv 0) (pa_cons (pe_bltn (v := .ty "tuple") (by rfl) B.tuple (by decide +kernel) rfl) pa_nil))) (pe_and (pe_cmpR op_eq (pe_callB call_len (by rfl) B.len (by decide +kernel) (pa_cons (pv 0) pa_nil)) (pv 2) (nomark _)) (pe_and (pe_callB call_isi (by rfl) B.isi (by decide +kernel) (pa_cons (pe_ix ix_tup (pv 0) pe_int (fun _ _ => rfl)) (pa_cons (pe_bltn (v := .ty "str") (by rfl) B.str (by decide +kernel) rfl) pa_nil))) (pe_one (pe_cmpR op_eq (pe_ix ix_tup (pv 0) pe_int (fun _ _ => rfl)) (pv 1) (nomark _)))))))), ?_⟩
    refine ⟨_, rfl, _, .ty "tuple", _, _, _, rfl, .ty _, hd.ty, kit_ty (kit_known _ _ (kind_in d) (by decide)), ?_⟩
    have qF := q H (Same.refl H)
    cases hd with
    | @tup a xs ds h1 h2 =>
      refine ⟨true, rfl, ifT rfl ⟨_, rfl, _, _, rfl, len_tup h1, _, rfl, rfl, ?_⟩⟩
      have hlen := dgl h2
      cases h2 with
      | nil =>
        refine ⟨_, rfl, ifF (decide_eq_false fun z => ?_) qF⟩
        injection z with z
        have z2 : ((0 : Nat) : Int) = (n : Int) := z
        omega
      | @cons y ys e es h3 h4 =>
        have e1 : decide (V.int (((y :: ys).length : Nat) : Int) = V.int (n : Nat)) = decide (es.length + 1 = n) := by
          refine decide_eq_decide.mpr ⟨fun z => ?_, fun z => ?_⟩
          · injection z with z
            rw [hlen] at z
            have z2 : ((es.length + 1 : Nat) : Int) = (n : Int) := z
            omega
          · rw [hlen, ← z]
            rfl
        rw [e1]
        refine ⟨_, rfl, ?_⟩
        by_cases hc : es.length + 1 = n
        · refine ifT (decide_eq_true hc) ?_
          have a0 : atI (y :: ys) 0 = some y := atI_nat (j := 0) rfl
          refine ⟨_, rfl, a, _, 0, _, rfl, rfl, h1, a0, _, .ty "str", _, _, _, rfl, .ty _, h3.ty, kit_ty (kit_known _ _ (kind_in e) (by decide)), ?_⟩
          cases h3 with
          | str k =>
            refine ⟨true, rfl, ifT rfl ⟨_, rfl, a, _, 0, _, rfl, rfl, h1, a0, _, rfl, rfl, ?_⟩⟩
            have e2 : papB (.tuple (.str k :: es)) wd n = decide (V.str k = V.str wd) := by
              show (decide (es.length + 1 = n) && decide (k = wd)) = _
              rw [decide_eq_true hc, Bool.true_and]
              exact decide_eq_decide.mpr ⟨fun z => by rw [z], fun z => by injection z⟩
            rw [← e2]
            exact qF
          | non => exact ⟨false, rfl, ifF rfl qF⟩
          | bl b => exact ⟨false, rfl, ifF rfl qF⟩
          | int i => exact ⟨false, rfl, ifF rfl qF⟩
          | tup _ _ => exact ⟨false, rfl, ifF rfl qF⟩
          | lst _ _ _ => exact ⟨false, rfl, ifF rfl qF⟩
          | dct _ _ => exact ⟨false, rfl, ifF rfl qF⟩
        · refine ifF (decide_eq_false hc) ?_
          have e2 : papB (.tuple (e :: es)) wd n = false := by
            unfold papB
            split
            · rename_i k ds heq
              injection heq with heq
              injection heq with _ heq
              rw [← heq, decide_eq_false hc]
              rfl
            · rfl
          rw [e2] at qF
          exact qF
    | non => exact ⟨false, rfl, ifF rfl qF⟩
    | bl b => exact ⟨false, rfl, ifF rfl qF⟩
    | int i => exact ⟨false, rfl, ifF rfl qF⟩
    | str x => exact ⟨false, rfl, ifF rfl qF⟩
    | lst _ _ _ => exact ⟨false, rfl, ifF rfl qF⟩
    | dct _ _ => exact ⟨false, rfl, ifF rfl qF⟩
theorem filter_take {α : Type} {l : List α} {q : α → Bool} {i : Nat} {a : α} (h : l[i]? = some a) : (l.take (i + 1)).filter q = (l.take i).filter q ++ (if q a = true then [a] else []) := by
  rw [List.take_add_one, h, List.filter_append]
  congr 1
  show List.filter q [a] = _
  rw [List.filter_cons]
  rfl
theorem ok_stay {f fA : Addr} {fd fdA : FuncData} (F : Fun K "does_lot_stay" "does_lot_stay" s_does_lot_stay f fd) (B : Blt mg) (R : BkC K C)
    (FA : Fun K "is_ascending" "is_ascending" s_is_ascending fA fdA) (gA : mg "is_ascending" = some (.ref fA)) (bA : Binds K fdA ["parts"] []) : FnOk P w K mg base CX0 2 f fd ["book", "letter", "lot"] (spStay K C) := by
  have GA : FnOk P w K mg base CX0 1 fA fdA ["parts"] spAsc := ok_is_ascending FA B
  refine F.ok sc_does_lot_stay (fun vs H Q E h => ?_) (fun cdv A outer s H vs Q E hr h => ?_)
  · obtain ⟨_, _, _, _, _, _, _, _, rfl, _⟩ := h
    rfl
  · obtain ⟨r, fa, ta, sg, lot, fs, xs, x, rfl, hb, hfs, hfa, hall, hl, q⟩ := h
    refine ⟨_, (pss_cons (ps_if (PW.pt (pw_or (pt_not (pt_val (pe_call GA (hr.mono (by decide)) (by rfl) gA FA.kp bA .nil pass0 (pa_cons (pv 2) pa_nil)))) (pw_or1 (pt_cmpR op_notIn_sign (pv 1) (pv 2) rfl)))) (pss_one (ps_ret pe_bl)) pss_nil)
      (pss_one (ps_ret (pe_callB (cr_all rfl) (by rfl) B.all (by decide +kernel) (pa_cons (pe_lc (own := [("last", 3), ("_", 4), ("left", 5)]) (g := gTup K 3 (gCons (gName 3) (gCons (gName 4) (gCons (gName 5) gNil)))) rfl sc_does_lot_stay.nd (pi_tup (pe_fld (pv 0) rfl)) (blkOk_by (own := [("last", 3), ("_", 4), ("left", 5)]) (N := ["book", "letter", "lot", "last", "_", "left"]) (sc := defScope s_does_lot_stay) (by decide +kernel)) (fun _ _ _ _ _ => pg_tup rfl (pgs_cons (pg_name (i := 3) sc_does_lot_stay.nd rfl (Or.inl rfl)) (pgs_cons (pg_name (i := 4) sc_does_lot_stay.nd rfl (Or.inl rfl)) (pgs_cons (pg_name (i := 5) sc_does_lot_stay.nd rfl (Or.inl rfl)) pgs_nil)))) (fun _ _ _ _ _ => pts_one (pt_cmpR op_in_sign (pv 3) (pv 2) rfl)) (fun _ _ _ _ _ => (pe_and (pe_cmpR op_ne (pv 5) pe_str (nomark _)) (pe_one (pe_cmpR op_in_sign (pv 5) (pv 2) rfl))))) pa_nil))))), ?_⟩
    obtain ⟨dx, h1⟩ := hb.1
    have qF := q
    refine ⟨_, rfl, lot, rfl, by omega, fun H1 s1 => ⟨_, rfl, ?_⟩⟩
    cases ha : ascB lot with
    | false =>
      refine ifT rfl (ifT rfl ?_)
      have q1 := q H1 s1
      rw [show stayB fs x lot = false by unfold stayB; rw [ha]; rfl] at q1
      exact q1
    | true =>
      refine ifF rfl ⟨_, rfl, _, rfl, x, S lot, rfl, rfl, _, rfl, ?_⟩
      by_cases hx : x ∈ lot
      · rw [show decide (x ∈ (S lot).cps.toList) = true from decide_eq_true hx]
        refine ifF rfl ?_
        have hfa1 := Same.tup s1 hfa
        have hall1 := hall.kp (KpT.same s1)
        have hl1 : xs.length = fs.length := hall.len
        refine ⟨_, rfl, r, _, dx, _, _, rfl, s1 _ _ h1, R.cls, R.nF, rfl, fa, rfl, ⟨_, hfa1⟩, fun D hD => ?_⟩
        refine lc_it (walk_tup (K := K) (a := fa) (xs := xs)) (fun i H' => Same H1 H' ∧ H' D = some (.lst (((fs.take i).filter fun f => decide (f.x ∈ lot)).map fun f => V.bl (zB lot f)))) ⟨same_new hD, upd_same⟩ (fun i H' _ p => Same.tup p.1 hfa1) ?_ ?_
        · rintro i y H2 H3 hi ⟨s2, hD2⟩ ⟨rfl, hy⟩
          obtain ⟨f, hf, b, rfl, hbt⟩ := hall.at hy
          have hbt2 := Same.tup (s1.trans s2) hbt
          have hff := filter_take (q := fun f : Fd => decide (f.x ∈ lot)) hf
          have hmem : f ∈ fs := List.mem_of_getElem? hf
          refine ⟨b, _, rfl, hbt2, rfl, _, _, rfl, _, _, rfl, _, _, rfl, rfl, rfl, ?_⟩
          refine ⟨_, rfl, _, rfl, f.x, S lot, rfl, rfl, _, rfl, ?_⟩
          have hz := (hfs.ok f hmem).2.2
          have hlen : ((fs.take i).filter fun f => decide (f.x ∈ lot)).length ≤ 1000 := by
            have h1 := List.length_filter_le (fun f : Fd => decide (f.x ∈ lot)) (fs.take i)
            have h2 := List.length_take_le i fs
            have h3 := hfs.few
            have h4 : (fs.take i).length ≤ fs.length := by rw [List.length_take]; omega
            omega
          by_cases hc : f.x ∈ lot
          · rw [show decide (f.x ∈ (S lot).cps.toList) = true from decide_eq_true hc]
            rw [if_pos (show (decide (f.x ∈ lot)) = true from decide_eq_true hc)] at hff
            refine ifT rfl ?_
            have fin : ∀ bz : Bool, bz = zB lot f → ∃ acc, H3 D = some (.lst acc) ∧ acc.length < sizeLine ∧ (Same H1 (upd H3 D (.lst (acc ++ [V.bl bz]))) ∧ upd H3 D (.lst (acc ++ [V.bl bz])) D = some (.lst (((fs.take (i + 1)).filter fun f => decide (f.x ∈ lot)).map fun f => V.bl (zB lot f)))) := by
              rintro bz rfl
              refine ⟨_, hD2, sz_lt (by rw [List.length_map]; omega), fun b2 o2 e2 => ?_, ?_⟩
              · rw [upd_ne (ne_of_none e2 hD)]
                exact s2 b2 o2 e2
              · rw [upd_same, hff, List.map_append]
                rfl
            rcases hz with hz | ⟨c, hc2, hz⟩
            · refine ⟨_, rfl, rfl, _, rfl, ?_⟩
              rw [hz]
              refine ifF rfl ?_
              exact fin false (by unfold zB; rw [hz])
            · refine ⟨_, rfl, rfl, _, rfl, ?_⟩
              rw [hz]
              refine ifT (by show (!decide (V.str (S [c]) = V.str (Str.ofString ""))) = true; rw [one_nil]; rfl) ?_
              refine ⟨_, rfl, _, rfl, c, S lot, rfl, rfl, ?_⟩
              exact fin _ (by unfold zB; rw [hz])
          · rw [show decide (f.x ∈ (S lot).cps.toList) = false from decide_eq_false hc]
            rw [if_neg (by rw [decide_eq_false hc]; simp), List.append_nil] at hff
            refine ifF rfl ⟨s2, ?_⟩
            rw [hff]
            exact hD2
        · rintro H2 ⟨s2, hD2⟩
          rw [hl1, List.take_length] at hD2
          refine ⟨D, (fs.filter fun f => decide (f.x ∈ lot)).map fun f => zB lot f, rfl, SqL.of (hD2.trans ?_), ?_⟩
          · rw [List.map_map]
            rfl
          · have q1 := q H2 (s1.trans s2)
            have e : stayB fs x lot = ((fs.filter fun f => decide (f.x ∈ lot)).map fun f => zB lot f).all id := by
              unfold stayB
              rw [ha, decide_eq_true hx, Bool.true_and, Bool.true_and, List.all_map, List.all_filter]
              congr 1
            rw [e] at q1
            exact q1
      · rw [show decide (x ∈ (S lot).cps.toList) = false from decide_eq_false hx]
        refine ifT rfl ?_
        have q1 := q H1 s1
        rw [show stayB fs x lot = false by unfold stayB; rw [decide_eq_false hx, Bool.false_and, Bool.and_false]] at q1
        exact q1
theorem ok_holds {f fP fW fR fS : Addr} {fd fdP fdW fdR fdS : FuncData} (F : Fun K "going_holds" "going_holds" s_going_holds f fd) (R : BkC K C)
    (FP : Fun K "is_paper" "is_paper" s_is_paper fP fdP) (gP : mg "is_paper" = some (.ref fP)) (bP : Binds K fdP ["thing", "word", "many"] []) (GP : FnOk P w K mg base CX0 1 fP fdP ["thing", "word", "many"] (spPaper K))
    (FW : Fun K "is_word" "is_word" s_is_word fW fdW) (gW : mg "is_word" = some (.ref fW)) (bW : Binds K fdW ["letters", "thing"] []) (GW : FnOk P w K mg base CX0 1 fW fdW ["letters", "thing"] (spWord K))
    (FR : Fun K "does_row_go" "does_row_go" s_does_row_go fR fdR) (gR : mg "does_row_go" = some (.ref fR)) (bR : Binds K fdR ["book", "letter", "row"] []) (GR : FnOk P w K mg base CX0 2 fR fdR ["book", "letter", "row"] (spRowGo C))
    (FS : Fun K "does_lot_stay" "does_lot_stay" s_does_lot_stay fS fdS) (gS : mg "does_lot_stay" = some (.ref fS)) (bS : Binds K fdS ["book", "letter", "lot"] []) (GS : FnOk P w K mg base CX0 2 fS fdS ["book", "letter", "lot"] (spStay K C)) :
    FnOk P w K mg base CX0 3 f fd ["book", "letter", "thing"] (spHolds K C) := by
  refine F.ok sc_going_holds (fun vs H Q E h => ?_) (fun cdv A outer s H vs Q E hr h => ?_)
  · obtain ⟨_, _, _, _, _, _, _, _, _, rfl, _⟩ := h
    rfl
  · obtain ⟨r, fa, ta, sg, fs, xs, x, v, d, rfl, hb, hfs, hfa, hall, hd, hw, q⟩ := h
    refine ⟨_, (pss_cons (ps_if (pt_val (pe_call GP (hr.mono (by decide)) (by rfl) gP FP.kp bP .nil pass0 (pa_cons (pv 2) (pa_cons pe_str (pa_cons pe_int pa_nil))))) (pss_one (ps_ret (pe_and (pe_call GW (hr.mono (by decide)) (by rfl) gW FW.kp bW .nil pass0 (pa_cons (pe_fld (pv 0) rfl) (pa_cons (pe_ix ix_tup (pv 2) pe_int (fun _ _ => rfl)) pa_nil))) (pe_one (pe_call GR (hr.mono (by decide)) (by rfl) gR FR.kp bR .nil pass0 (pa_cons (pv 0) (pa_cons (pv 1) (pa_cons (pe_ix ix_tup (pv 2) pe_int (fun _ _ => rfl)) pa_nil)))))))) pss_nil)
      (pss_cons (ps_if (pt_val (pe_call GP (hr.mono (by decide)) (by rfl) gP FP.kp bP .nil pass0 (pa_cons (pv 2) (pa_cons pe_str (pa_cons pe_int pa_nil))))) (pss_one (ps_ret (pe_and (pe_call GW (hr.mono (by decide)) (by rfl) gW FW.kp bW .nil pass0 (pa_cons (pe_fld (pv 0) rfl) (pa_cons (pe_ix ix_tup (pv 2) pe_int (fun _ _ => rfl)) pa_nil))) (pe_one (pe_call GS (hr.mono (by decide)) (by rfl) gS FS.kp bS .nil pass0 (pa_cons (pv 0) (pa_cons (pv 1) (pa_cons (pe_ix ix_tup (pv 2) pe_int (fun _ _ => rfl)) pa_nil)))))))) pss_nil)
      (pss_one (ps_ret pe_bl)))), ?_⟩
    obtain ⟨dx, h1⟩ := hb.1
    have two : ∀ k : Str, papB d k 2 = true → ∃ (a : Addr) (y : V) (e : PyData), v = .ref a ∧ d = .tuple [.str k, e] ∧ SqT K H a [.str k, y] ∧ Dg K H y e := by
      intro k hk
      unfold papB at hk
      split at hk
      · rename_i k2 ds
        obtain ⟨h2, h3⟩ := Bool.and_eq_true_iff.mp hk
        have h2 := of_decide_eq_true h2
        have h3 := of_decide_eq_true h3
        subst h3
        match ds, h2, hd with
        | [e], _, hd =>
          cases hd with
          | @tup a xs _ h4 h5 =>
            cases h5 with
            | cons h6 h7 =>
              cases h6
              cases h7 with
              | @cons y ys _ _ h8 h9 =>
                cases h9
                exact ⟨a, y, e, rfl, rfl, h4, h8⟩
      · cases hk
    have word : ∀ (y : V) (e : PyData) (H1 : Hp) (R : Bool → Hp → Prop), Dg K H1 y e → e.weight ≤ 1000 → (∀ H2, Same H1 H2 → R (match e with | .str l => allB l.cps.toList sg | _ => false) H2) → spWord K [.str (S sg), y] H1 (fun x H2 => ∃ b, x = .bl b ∧ R b H2) E0 := by
      intro y e H1 R hy hwe k
      refine ⟨sg, y, rfl, ?_⟩
      cases hy with
      | str l => exact Or.inl ⟨l.cps.toList, rfl, Nat.le_trans hwe (by decide), fun H2 s2 => ⟨_, rfl, k H2 s2⟩⟩
      | non => exact Or.inr ⟨⟨_, .base .non, by decide, by decide⟩, fun H2 s2 => ⟨_, rfl, k H2 s2⟩⟩
      | bl b => exact Or.inr ⟨⟨_, .base (.bl b), by decide, by decide⟩, fun H2 s2 => ⟨_, rfl, k H2 s2⟩⟩
      | int i => exact Or.inr ⟨⟨_, .base (.int i), by decide, by decide⟩, fun H2 s2 => ⟨_, rfl, k H2 s2⟩⟩
      | tup h _ => exact Or.inr ⟨⟨_, ty_tup h, by decide, by decide⟩, fun H2 s2 => ⟨_, rfl, k H2 s2⟩⟩
      | lst _ h _ => exact Or.inr ⟨⟨_, ty_list h, by decide, by decide⟩, fun H2 s2 => ⟨_, rfl, k H2 s2⟩⟩
      | dct h _ => exact Or.inr ⟨⟨_, .base (.dK h), by decide, by decide⟩, fun H2 s2 => ⟨_, rfl, k H2 s2⟩⟩
    refine ⟨_, rfl, v, d, "goes", 2, rfl, hd, by decide, fun H1 s1 => ⟨_, rfl, ?_⟩⟩
    cases hk1 : papB d "goes" 2 with
    | true =>
      obtain ⟨a, y, e, rfl, rfl, ha, hy⟩ := two _ hk1
      have hwe : e.weight ≤ 1000 := by
        have h3 : (PyData.str "goes").weight + 1 + (e.weight + 1 + 0) ≤ 1000 := hw
        omega
      refine ifT rfl ?_
      have a1 : atI [V.str "goes", y] 1 = some y := atI_nat (j := 1) rfl
      have ha1 := Same.tup s1 ha
      refine ⟨_, rfl, r, _, dx, _, _, rfl, s1 _ _ h1, R.cls, R.nL, rfl, _, rfl, a, _, 1, y, rfl, rfl, ha1, a1, ?_⟩
      refine word y e H1 _ (hy.same s1) hwe fun H2 s2 => ?_
      have s02 := s1.trans s2
      have ha2 := Same.tup s2 ha1
      cases e with
      | str l =>
        cases hy
        dsimp only
        have hx := q H2 s02
        by_cases hw2 : allB l.cps.toList sg = true
        rotate_left
        · have hw2 := Bool.eq_false_iff.mpr hw2
          refine ifF hw2 ?_
          rw [show thingB fs sg x (.tuple [.str "goes", .str l]) = (allB l.cps.toList sg && goesB fs x l.cps.toList) from rfl, hw2] at hx
          exact hx
        · refine ifT hw2 ?_
          refine ⟨_, rfl, _, rfl, _, rfl, a, _, 1, _, rfl, rfl, ha2, a1, ?_⟩
          refine ⟨r, fa, ta, sg, l.cps.toList, fs, x, rfl, hb.same s02, hfs, Nat.le_trans hwe (Nat.le_refl _), fun H3 s3 => ?_⟩
          have hx3 := q H3 (s02.trans s3)
          rw [show thingB fs sg x (.tuple [.str "goes", .str l]) = (allB l.cps.toList sg && goesB fs x l.cps.toList) from rfl, hw2] at hx3
          exact hx3
      | none => exact ifF rfl (q H2 s02)
      | bool b => exact ifF rfl (q H2 s02)
      | int i => exact ifF rfl (q H2 s02)
      | list _ => exact ifF rfl (q H2 s02)
      | tuple _ => exact ifF rfl (q H2 s02)
      | dict _ => exact ifF rfl (q H2 s02)
    | false =>
      refine ifF rfl ?_
      refine ⟨_, rfl, v, d, "stays", 2, rfl, hd.same s1, by decide, fun H2 s2 => ⟨_, rfl, ?_⟩⟩
      have s02 := s1.trans s2
      cases hk2 : papB d "stays" 2 with
      | true =>
        obtain ⟨a, y, e, rfl, rfl, ha, hy⟩ := two _ hk2
        have hwe : e.weight ≤ 1000 := by
          have h3 : (PyData.str "stays").weight + 1 + (e.weight + 1 + 0) ≤ 1000 := hw
          omega
        refine ifT rfl ?_
        have a1 : atI [V.str "stays", y] 1 = some y := atI_nat (j := 1) rfl
        have ha2 := Same.tup s02 ha
        refine ⟨_, rfl, r, _, dx, _, _, rfl, s02 _ _ h1, R.cls, R.nL, rfl, _, rfl, a, _, 1, y, rfl, rfl, ha2, a1, ?_⟩
        refine word y e H2 _ (hy.same s02) hwe fun H3 s3 => ?_
        have s03 := s02.trans s3
        have ha3 := Same.tup s3 ha2
        cases e with
        | str l =>
          cases hy
          dsimp only
          have hx := q H3 s03
          by_cases hw2 : allB l.cps.toList sg = true
          rotate_left
          · have hw2 := Bool.eq_false_iff.mpr hw2
            refine ifF hw2 ?_
            rw [show thingB fs sg x (.tuple [.str "stays", .str l]) = (allB l.cps.toList sg && stayB fs x l.cps.toList) from rfl, hw2] at hx
            exact hx
          · refine ifT hw2 ?_
            refine ⟨_, rfl, _, rfl, _, rfl, a, _, 1, _, rfl, rfl, ha3, a1, ?_⟩
            refine ⟨r, fa, ta, sg, l.cps.toList, fs, xs, x, rfl, hb.same s03, hfs, Same.tup s03 hfa, hall.kp (KpT.same s03), Nat.le_trans hwe (Nat.le_refl _), fun H4 s4 => ?_⟩
            have hx4 := q H4 (s03.trans s4)
            rw [show thingB fs sg x (.tuple [.str "stays", .str l]) = (allB l.cps.toList sg && stayB fs x l.cps.toList) from rfl, hw2] at hx4
            exact hx4
        | none => exact ifF rfl (q H3 s03)
        | bool b => exact ifF rfl (q H3 s03)
        | int i => exact ifF rfl (q H3 s03)
        | list _ => exact ifF rfl (q H3 s03)
        | tuple _ => exact ifF rfl (q H3 s03)
        | dict _ => exact ifF rfl (q H3 s03)
      | false =>
        refine ifF rfl ?_
        have hx := q H2 s02
        have e2 : thingB fs sg x d = false := by
          unfold thingB
          split
          · rename_i k l
            split
            · rename_i hk
              rw [hk] at hk1
              cases hk1
            · split
              · rename_i _ hk
                rw [hk] at hk2
                cases hk2
              · rfl
          · rfl
        rw [e2] at hx
        exact hx
end
end Lw

namespace Mq
open PySem PySem.Spec PyProof.Rows L2
/-! ### sorted(xs), xs a list of tuples of three texts -/
def txt3 (x : Str × Str × Str) : List (Int ⊕ List Nat) := [.inr x.1.cps.toList, .inr x.2.1.cps.toList, .inr x.2.2.cps.toList]
def ltS3 (x y : Str × Str × Str) : Bool := (PyProof.Rows.listOrd PyProof.Rows.itemOrd).blt (txt3 x) (txt3 y)
def Is3 (H : Hp) (f : Addr → Str × Str × Str) (b : Addr) : Prop := H b = some (.tup [.str (f b).1, .str (f b).2.1, .str (f b).2.2])
def rSorted3 (K : PySem.W.Frag) : List V → Hp → VK → Prop := fun xs H Q => ∃ (a : Addr) (as : List Addr) (f : Addr → Str × Str × Str), xs = [.ref a] ∧ SqL K H a (as.map V.ref) ∧ (∀ b ∈ as, Is3 H f b) ∧
  ∀ (qs : List Addr) (p : Addr), qs.Perm as → (∀ i j, i ≤ j → j < qs.length → ltS3 (f (qs.getD j 0)) (f (qs.getD i 0)) = false) → H p = none → Q (.ref p) (upd H p (.lst (qs.map V.ref)))
theorem vals_refs : ∀ {as : List Addr} {us : List Value}, Vals (as.map V.ref) us → us = as.map Value.ref
  | [], _, .nil => rfl
  | b :: as, _, @Paired.cons _ _ _ _ y _ _ r rr => by
    have e : y = Value.ref b := r
    rw [e, vals_refs rr]
    rfl
section
variable {X : Cx}
theorem call_sorted3 : CallR X (.builtin "sorted") (rSorted3 X.K) := by
  intro pins s σ H xs us Q I r q
  obtain ⟨a, as, f, rfl, ha, h3, q⟩ := q
  obtain ⟨u, rfl, rx⟩ := vals1 r
  cases rx
  obtain ⟨its, rv, hl, hz⟩ := I.list ha
  have ei : its = as.map Value.ref := vals_refs rv
  subst ei
  have obj : ∀ b ∈ as, ∃ (ob : Obj) (n : Nat) (t1 t2 t3 : Tok), s.heap.get? b = some ob ∧ ob.cls = .type "tuple" ∧ ob.data = .seq #[.str (f b).1 t1, .str (f b).2.1 t2, .str (f b).2.2 t3] n := by
    intro b hb
    obtain ⟨_, its, r2, ob, h1, h2, n, h4⟩ := (show ObjOk X.prog X.w H s.heap b (.tup [.str (f b).1, .str (f b).2.1, .str (f b).2.2]) from I.hok b _ (h3 b hb))
    cases r2 with
    | cons a1 r2 =>
      cases r2 with
      | cons a2 r2 =>
        cases r2 with
        | cons a3 r2 =>
          cases r2
          obtain ⟨t1, rfl⟩ := a1
          obtain ⟨t2, rfl⟩ := a2
          obtain ⟨t3, rfl⟩ := a3
          exact ⟨ob, n, t1, t2, t3, h1, h2, h4⟩
  have tups : ∀ l : List Addr, (∀ b ∈ l, b ∈ as) → ∃ fs, PyProof.Rows.TupsOf s.heap (fun _ => true) (l.map Value.ref) fs := by
    intro l
    induction l with
    | nil => intro _; exact ⟨[], .nil⟩
    | cons b l ih =>
      intro hl
      obtain ⟨fs, hf⟩ := ih fun x hx => hl x (List.mem_cons_of_mem _ hx)
      obtain ⟨ob, n, t1, t2, t3, h1, h2, h4⟩ := obj b (hl b List.mem_cons_self)
      exact ⟨_, .cons ⟨b, ob, _, n, rfl, h1, h2, h4, rfl, fun z => (by cases z), fun _ => ⟨_, _, rfl⟩⟩ hf⟩
  obtain ⟨fs, hfs⟩ := tups as fun _ h => h
  have keyC : ∀ b ∈ as, PyProof.Rows.G.tupKeyC s.heap (fun _ => true) (.ref b) = some (txt3 (f b)) := by
    intro b hb
    obtain ⟨ob, n, t1, t2, t3, h1, h2, h4⟩ := obj b hb
    have hT : PyProof.Rows.G.isTupObj s.heap (.ref b) = true := by
      simp [PyProof.Rows.G.isTupObj, h1, h2]
    unfold PyProof.Rows.G.tupKeyC
    rw [if_pos hT]
    simp only [PyProof.Rows.tupKey, h1, h4]
    rfl
  refine PyProof.Rows.G.sorted_tups (vs := as.map Value.ref) hl.isList hfs (fun v hv => ?_) (by rw [List.length_map] at hz ⊢; exact hz) fun st' hp hs _ => ?_
  · obtain ⟨b, hb, rfl⟩ := List.mem_map.mp hv
    exact ⟨_, keyC b hb⟩
  obtain ⟨e', he'⟩ := PyProof.Rows.sortedAll_at s.heap (as.map Value.ref) ((arrOf st').map (·.2))
  have mem : ∀ p ∈ (arrOf st').toList, p.1 = p.2 ∧ p.1 ∈ as.map Value.ref := fun p hp' => by
    have h1 := (hp.toList.mem_iff (a := p)).mp hp'
    rw [PyProof.Rows.pairsOf_toList] at h1
    exact PyProof.Rows.mem_zip_self h1
  obtain ⟨qs, hq1, hq2⟩ : ∃ qs : List Addr, (arrOf st').toList.map (·.2) = qs.map Value.ref ∧ qs.Perm as := by
    have h1 : ((arrOf st').toList.map (·.2)).Perm (as.map Value.ref) := by
      have h2 := hp.toList.map (fun p : Keyed => p.2)
      rw [PyProof.Rows.pairsOf_toList] at h2
      rw [List.map_snd_zip (Nat.le_refl _)] at h2
      exact h2
    exact perm_back h1
  have hql : qs.length = as.length := hq2.length_eq
  have harr : (arrOf st').toList.length = qs.length := by
    have h1 := congrArg List.length hq1
    rw [List.length_map, List.length_map] at h1
    exact h1
  have hkk : ∀ i, i < qs.length → PyProof.Rows.KK (PyProof.Rows.G.tupKindC s.heap fun _ => true) (arrOf st') i = txt3 (f (qs.getD i 0)) := by
    intro i hi
    have hi' : i < (arrOf st').toList.length := by omega
    have e1 : (arrOf st')[i]? = some (arrOf st').toList[i] := by
      rw [← Array.getElem?_toList, List.getElem?_eq_getElem hi']
    obtain ⟨m1, m2⟩ := mem _ (List.getElem_mem hi')
    have e2 : (arrOf st').toList[i].2 = .ref (qs.getD i 0) := by
      have h1 := congrArg (fun l => l[i]?) hq1
      simp only [List.getElem?_map, List.getElem?_eq_getElem hi', List.getElem?_eq_getElem hi, Option.map_some, Option.some.injEq] at h1
      rw [h1, List.getD_eq_getElem?_getD, List.getElem?_eq_getElem hi]
      rfl
    have hin : qs.getD i 0 ∈ as := hq2.mem_iff.mp (by rw [List.getD_eq_getElem?_getD, List.getElem?_eq_getElem hi]; exact List.getElem_mem hi)
    unfold PyProof.Rows.KK
    rw [e1]
    show (PyProof.Rows.G.tupKeyC _ _ (arrOf st').toList[i].1).getD _ = _
    rw [m1, e2, keyC _ hin]
    rfl
  have srt : ∀ i j, i ≤ j → j < qs.length → ltS3 (f (qs.getD j 0)) (f (qs.getD i 0)) = false := by
    intro i j hij hj
    have h1 := hs i j hij (by rw [PyProof.Rows.pairsOf_size, List.length_map]; omega)
    rw [hkk i (by omega), hkk j hj] at h1
    exact h1
  have vals : ∀ l : List Addr, Vals (l.map V.ref) (l.map Value.ref) := fun l => by
    induction l with
    | nil => exact .nil
    | cons b l ih => exact .cons rfl ih
  have hout : ((arrOf st').map (·.2)).toList = qs.map Value.ref := by
    rw [Array.toList_map]
    exact hq1
  have hz2 : (qs.map V.ref).length ≤ sizeLine := by
    rw [List.length_map, hql]
    rw [List.length_map] at hz
    exact hz
  have fresh := I.hok.fresh (Nat.le_succ s.heap.objs.size)
  refine ⟨.ref (s.heap.objs.size + 1), upd H (s.heap.objs.size + 1) (.lst (qs.map V.ref)), ?_, rfl, q qs _ hq2 srt fresh⟩
  refine I.laid (t' := s.toks) (fun b u e => PyProof.Rows.sortedAll_old e) (Nat.le_succ _) ⟨hz2, qs.map Value.ref, e', vals qs, ?_⟩
  rw [← hout, Array.toArray_toList]
  exact he'
end
end Mq

namespace Mq
open PySem PySem.Spec PyProof.Rows L2
/-! ### sorted(xs), xs a list of pairs of texts -/
def Is2 (H : Hp) (b : Addr) : Prop := H b = some (.tup [.str (prOf H b).1, .str (prOf H b).2])
def rSorted2 (K : PySem.W.Frag) : List V → Hp → VK → Prop := fun xs H Q => ∃ (a : Addr) (as : List Addr), xs = [.ref a] ∧ SqL K H a (as.map V.ref) ∧ (∀ b ∈ as, Is2 H b) ∧
  ∀ (qs : List Addr) (p : Addr), qs.Perm as → (∀ i j, i ≤ j → j < qs.length → ltSS (prOf H (qs.getD j 0)) (prOf H (qs.getD i 0)) = false) → H p = none → Q (.ref p) (upd H p (.lst (qs.map V.ref)))
section
variable {X : Cx}
theorem call_sorted2 : CallR X (.builtin "sorted") (rSorted2 X.K) := by
  intro pins s σ H xs us Q I r q
  obtain ⟨a, as, rfl, ha, h3, q⟩ := q
  obtain ⟨u, rfl, rx⟩ := vals1 r
  cases rx
  obtain ⟨its, rv, hl, hz⟩ := I.list ha
  have ei : its = as.map Value.ref := vals_refs rv
  subst ei
  have obj : ∀ b ∈ as, ∃ (ob : Obj) (n : Nat) (t1 t2 : Tok), s.heap.get? b = some ob ∧ ob.cls = .type "tuple" ∧ ob.data = .seq #[.str (prOf H b).1 t1, .str (prOf H b).2 t2] n := by
    intro b hb
    obtain ⟨_, its, r2, ob, h1, h2, n, h4⟩ := (show ObjOk X.prog X.w H s.heap b (.tup [.str (prOf H b).1, .str (prOf H b).2]) from I.hok b _ (h3 b hb))
    cases r2 with
    | cons a1 r2 =>
      cases r2 with
      | cons a2 r2 =>
        cases r2
        obtain ⟨t1, rfl⟩ := a1
        obtain ⟨t2, rfl⟩ := a2
        exact ⟨ob, n, t1, t2, h1, h2, h4⟩
  have tups : ∀ l : List Addr, (∀ b ∈ l, b ∈ as) → ∃ fs, PyProof.Rows.TupsOf s.heap (fun _ => true) (l.map Value.ref) fs := by
    intro l
    induction l with
    | nil => intro _; exact ⟨[], .nil⟩
    | cons b l ih =>
      intro hl
      obtain ⟨fs, hf⟩ := ih fun x hx => hl x (List.mem_cons_of_mem _ hx)
      obtain ⟨ob, n, t1, t2, h1, h2, h4⟩ := obj b (hl b List.mem_cons_self)
      exact ⟨_, .cons ⟨b, ob, _, n, rfl, h1, h2, h4, rfl, fun z => (by cases z), fun _ => ⟨_, _, rfl⟩⟩ hf⟩
  obtain ⟨fs, hfs⟩ := tups as fun _ h => h
  have keyC : ∀ b ∈ as, PyProof.Rows.G.tupKeyC s.heap (fun _ => true) (.ref b) = some (txt2 (prOf H b)) := by
    intro b hb
    obtain ⟨ob, n, t1, t2, h1, h2, h4⟩ := obj b hb
    have hT : PyProof.Rows.G.isTupObj s.heap (.ref b) = true := by
      simp [PyProof.Rows.G.isTupObj, h1, h2]
    unfold PyProof.Rows.G.tupKeyC
    rw [if_pos hT]
    simp only [PyProof.Rows.tupKey, h1, h4]
    rfl
  refine PyProof.Rows.G.sorted_tups (vs := as.map Value.ref) hl.isList hfs (fun v hv => ?_) (by rw [List.length_map] at hz ⊢; exact hz) fun st' hp hs _ => ?_
  · obtain ⟨b, hb, rfl⟩ := List.mem_map.mp hv
    exact ⟨_, keyC b hb⟩
  obtain ⟨e', he'⟩ := PyProof.Rows.sortedAll_at s.heap (as.map Value.ref) ((arrOf st').map (·.2))
  have mem : ∀ p ∈ (arrOf st').toList, p.1 = p.2 ∧ p.1 ∈ as.map Value.ref := fun p hp' => by
    have h1 := (hp.toList.mem_iff (a := p)).mp hp'
    rw [PyProof.Rows.pairsOf_toList] at h1
    exact PyProof.Rows.mem_zip_self h1
  obtain ⟨qs, hq1, hq2⟩ : ∃ qs : List Addr, (arrOf st').toList.map (·.2) = qs.map Value.ref ∧ qs.Perm as := by
    have h1 : ((arrOf st').toList.map (·.2)).Perm (as.map Value.ref) := by
      have h2 := hp.toList.map (fun p : Keyed => p.2)
      rw [PyProof.Rows.pairsOf_toList] at h2
      rw [List.map_snd_zip (Nat.le_refl _)] at h2
      exact h2
    exact perm_back h1
  have hql : qs.length = as.length := hq2.length_eq
  have harr : (arrOf st').toList.length = qs.length := by
    have h1 := congrArg List.length hq1
    rw [List.length_map, List.length_map] at h1
    exact h1
  have hkk : ∀ i, i < qs.length → PyProof.Rows.KK (PyProof.Rows.G.tupKindC s.heap fun _ => true) (arrOf st') i = txt2 (prOf H (qs.getD i 0)) := by
    intro i hi
    have hi' : i < (arrOf st').toList.length := by omega
    have e1 : (arrOf st')[i]? = some (arrOf st').toList[i] := by
      rw [← Array.getElem?_toList, List.getElem?_eq_getElem hi']
    obtain ⟨m1, m2⟩ := mem _ (List.getElem_mem hi')
    have e2 : (arrOf st').toList[i].2 = .ref (qs.getD i 0) := by
      have h1 := congrArg (fun l => l[i]?) hq1
      simp only [List.getElem?_map, List.getElem?_eq_getElem hi', List.getElem?_eq_getElem hi, Option.map_some, Option.some.injEq] at h1
      rw [h1, List.getD_eq_getElem?_getD, List.getElem?_eq_getElem hi]
      rfl
    have hin : qs.getD i 0 ∈ as := hq2.mem_iff.mp (by rw [List.getD_eq_getElem?_getD, List.getElem?_eq_getElem hi]; exact List.getElem_mem hi)
    unfold PyProof.Rows.KK
    rw [e1]
    show (PyProof.Rows.G.tupKeyC _ _ (arrOf st').toList[i].1).getD _ = _
    rw [m1, e2, keyC _ hin]
    rfl
  have srt : ∀ i j, i ≤ j → j < qs.length → ltSS (prOf H (qs.getD j 0)) (prOf H (qs.getD i 0)) = false := by
    intro i j hij hj
    have h1 := hs i j hij (by rw [PyProof.Rows.pairsOf_size, List.length_map]; omega)
    rw [hkk i (by omega), hkk j hj] at h1
    exact h1
  have vals : ∀ l : List Addr, Vals (l.map V.ref) (l.map Value.ref) := fun l => by
    induction l with
    | nil => exact .nil
    | cons b l ih => exact .cons rfl ih
  have hout : ((arrOf st').map (·.2)).toList = qs.map Value.ref := by
    rw [Array.toList_map]
    exact hq1
  have hz2 : (qs.map V.ref).length ≤ sizeLine := by
    rw [List.length_map, hql]
    rw [List.length_map] at hz
    exact hz
  have fresh := I.hok.fresh (Nat.le_succ s.heap.objs.size)
  refine ⟨.ref (s.heap.objs.size + 1), upd H (s.heap.objs.size + 1) (.lst (qs.map V.ref)), ?_, rfl, q qs _ hq2 srt fresh⟩
  refine I.laid (t' := s.toks) (fun b u e => PyProof.Rows.sortedAll_old e) (Nat.le_succ _) ⟨hz2, qs.map Value.ref, e', vals qs, ?_⟩
  rw [← hout, Array.toArray_toList]
  exact he'
end
/-- what stands in order is left as it is -/
theorem perm_asc {α : Type} {r : α → α → Bool} : ∀ {l m : List α}, l.Perm m → l.Pairwise (fun a b => r b a = false) → m.Pairwise (fun a b => r a b = true) → l = m
  | [], m, h, _, _ => h.nil_eq
  | a :: l, [], h, _, _ => h.eq_nil
  | a :: l, b :: m, h, hl, hm => by
    obtain ⟨h1, h2⟩ := List.pairwise_cons.mp hl
    obtain ⟨h3, h4⟩ := List.pairwise_cons.mp hm
    have e : a = b := by
      rcases List.mem_cons.mp (h.mem_iff.mp (List.mem_cons_self (a := a) (l := l))) with e | e
      · exact e
      · rcases List.mem_cons.mp (h.mem_iff.mpr (List.mem_cons_self (a := b) (l := m))) with e2 | e2
        · exact e2.symm
        · have h5 := h1 b e2
          rw [h3 a e] at h5
          cases h5
    subst e
    rw [perm_asc h.cons_inv h2 h4]
theorem lt_first {x y : Str × Str} (h : x.1.cps.toList < y.1.cps.toList) : ltSS x y = true := by
  show (decide (x.1.cps.toList < y.1.cps.toList) || (!decide (y.1.cps.toList < x.1.cps.toList) && (decide (x.2.cps.toList < y.2.cps.toList) || (!decide (y.2.cps.toList < x.2.cps.toList) && false)))) = true
  rw [decide_eq_true h]
  rfl
end Mq

namespace Lw
open PySem PySem.Spec PyProof.Rows L2 Mq
open SX (S)
/-! ### the law's own search -/
inductive EdAll (H : Hp) : List Addr → List Rw → Prop
  | nil : EdAll H [] []
  | cons {a : Addr} {as : List Addr} {n : Rw} {ns : List Rw} : H a = some (.tup [.str (S n.2), .str (S n.1)]) → EdAll H as ns → EdAll H (a :: as) (n :: ns)
def KpA (H H' : Hp) : Prop := ∀ a xs, H a = some (.tup xs) → H' a = some (.tup xs)
theorem KpA.same {H H' : Hp} (e : Same H H') : KpA H H' := fun a xs h => e a _ h
theorem KpA.trans {H H' H'' : Hp} (a : KpA H H') (b : KpA H' H'') : KpA H H'' := fun x y h => b x y (a x y h)
theorem KpA.dk {H : Hp} {d : Addr} {kvs : List (Key × V)} {o : HO} (h : H d = some (.dK kvs)) : KpA H (upd H d o) := fun a xs e => by
  rw [upd_ne]
  · exact e
  · rintro rfl
    rw [h] at e
    cases e
theorem KpA.ls {H : Hp} {d : Addr} {xs : List V} {o : HO} (h : H d = some (.lst xs)) : KpA H (upd H d o) := fun a xs e => by
  rw [upd_ne]
  · exact e
  · rintro rfl
    rw [h] at e
    cases e
theorem EdAll.kp {H H' : Hp} (e : KpA H H') : ∀ {as : List Addr} {ns : List Rw}, EdAll H as ns → EdAll H' as ns
  | _, _, .nil => .nil
  | _, _, .cons h t => .cons (e _ _ h) (EdAll.kp e t)
theorem EdAll.len {H : Hp} : ∀ {as : List Addr} {ns : List Rw}, EdAll H as ns → as.length = ns.length
  | _, _, .nil => rfl
  | _, _, .cons _ t => congrArg (· + 1) t.len
theorem EdAll.snoc {H : Hp} {a : Addr} {n : Rw} : ∀ {as : List Addr} {ns : List Rw}, EdAll H as ns → H a = some (.tup [.str (S n.2), .str (S n.1)]) → EdAll H (as ++ [a]) (ns ++ [n])
  | _, _, .nil, h => .cons h .nil
  | _, _, .cons x t, h => .cons x (t.snoc h)
theorem EdAll.at {H : Hp} : ∀ {as : List Addr} {ns : List Rw} {i : Nat} {a : Addr}, EdAll H as ns → as[i]? = some a → ∃ n, ns[i]? = some n ∧ H a = some (.tup [.str (S n.2), .str (S n.1)])
  | _, _, 0, _, .cons h _, e => ⟨_, rfl, by cases e; exact h⟩
  | _, _, i + 1, _, .cons _ t, e => EdAll.at (i := i) t e
def dsN (ns : List Rw) : List PyData := ns.map fun n => .tuple [.str (S n.2), .str (S n.1)]
theorem EdAll.dp {K : PySem.W.Frag} {H : Hp} : ∀ {as : List Addr} {ns : List Rw}, EdAll H as ns → DpAll K H (as.map V.ref) (dsN ns)
  | _, _, .nil => .nil
  | _, _, .cons h t => .cons (.tup (Or.inl (Or.inl h)) (.cons (.str _) (.cons (.str _) .nil))) (EdAll.dp t)
def LowN (ns : List Rw) : Prop := ∀ n ∈ ns, (∀ c ∈ n.1, c < 128) ∧ ∀ c ∈ n.2, c < 128
theorem lay_txt {l : List Nat} (h : ∀ c ∈ l, c < 128) : (PyData.str (S l)).canLay0 = true := by
  show (l.toArray : Array Nat).all (fun d => decide (d < 1114112)) = true
  rw [List.all_toArray]
  refine List.all_eq_true.mpr fun c hc => decide_eq_true ?_
  have := h c hc
  omega
theorem shaped_ns : ∀ {ns : List Rw}, LowN ns → SeqAt.shaped (.list (dsN ns)) = true := by
  intro ns h
  have key : PyData.canLayAll0 (dsN ns) = true ∧ PyData.depthAll (dsN ns) ≤ 1 := by
    induction ns with
    | nil => exact ⟨rfl, Nat.zero_le _⟩
    | cons n ns ih =>
      obtain ⟨a, b⟩ := ih fun m hm => h m (List.mem_cons_of_mem _ hm)
      obtain ⟨h1, h2⟩ := h n List.mem_cons_self
      constructor
      · show (((PyData.str (S n.2)).canLay0 && ((PyData.str (S n.1)).canLay0 && true)) && PyData.canLayAll0 (dsN ns)) = true
        rw [lay_txt h1, lay_txt h2, a]
        rfl
      · exact Nat.max_le.mpr ⟨Nat.le_refl 1, b⟩
  unfold SeqAt.shaped
  rw [show (PyData.list (dsN ns)).canLay0 = true from key.1]
  have : (PyData.list (dsN ns)).depth ≤ 64 := by
    show PyData.depthAll _ + 1 ≤ 64
    have := key.2
    omega
  rw [decide_eq_true this]
  rfl
theorem eqv_ns (ns : List Rw) : PyData.eqv (.list (dsN ns)) (.list []) = ns.isEmpty := by
  cases ns <;> rfl
def toR (E : List (Nat × List Nat)) : List Rw := E.map fun q => ([q.1], q.2)
theorem pend_toR : ∀ E : List (Nat × List Nat), pend (toR E) = E
  | [] => rfl
  | q :: E => by
    show (q.1, q.2) :: pend (toR E) = _
    rw [pend_toR E]
theorem toR_pend : ∀ N : List Rw, (∀ n ∈ N, n.1.length ≤ 1) → toR (pend N) = N.filter fun n => decide (n.1 ≠ [])
  | [], _ => rfl
  | (k, r) :: N, h => by
    have ih := toR_pend N fun n hn => h n (List.mem_cons_of_mem _ hn)
    have h1 := h (k, r) List.mem_cons_self
    match k, h1 with
    | [], _ =>
      show toR (pend N) = _
      rw [ih]
      rfl
    | [a], _ =>
      show ([a], r) :: toR (pend N) = _
      rw [ih]
      rfl
theorem while_gh {c : TT} {tb : TS} {D : Ends} {σ : L2.St} {H : Hp} (Pv : Nat → L2.St → Hp → Prop) (m0 : Nat) (h0 : Pv m0 σ H)
    (hs : ∀ m σ H, Pv m σ H → c σ H fun b H1 => if b = true then tb { D with nx := fun σ' H' => ∃ m', m' < m ∧ Pv m' σ' H', ct := fun σ' H' => ∃ m', m' < m ∧ Pv m' σ' H', bk := D.nx } σ H1 else D.nx σ H1)
    (mono : ∀ σ H Q Q', (∀ b H1, Q b H1 → Q' b H1) → c σ H Q → c σ H Q') : tWhile c tb D σ H := by
  refine ⟨Pv, ⟨m0, h0⟩, ?_⟩
  rintro m σ H p
  refine mono σ H _ _ (fun b H1 q => ?_) (hs m σ H p)
  cases b with
  | true => exact ⟨_, fun σ' H' p' => p', q⟩
  | false => exact q
def tEdge : TT := fun σ H Q => ∃ (el : Addr) (as : List Addr) (N : List Rw), σ[4]? = some (some (.ref el)) ∧ H el = some (.lst (as.map V.ref)) ∧ EdAll H as N ∧ LowN N ∧ ∀ H', Same H H' → Q (!N.isEmpty) H'
theorem ix_tupK {X : Cx} {K : PySem.W.Frag} (h : X.K = K) : IxR X (rIxT K) := h ▸ ix_tup
/-- in order, as pairs of texts -/
theorem ed_asc {H : Hp} {n : Nat} : ∀ {as : List Addr} {ns : List Rw}, EdAll H as ns → (∀ p ∈ ns, p.2.length = n) → ns.Pairwise (fun p q => Ah p.2 q.2) → as.Pairwise (fun a b => ltSS (prOf H a) (prOf H b) = true) ∧ (∀ b ∈ as, Is2 H b ∧ ∃ p ∈ ns, prOf H b = (S p.2, S p.1))
  | _, _, .nil, _, _ => ⟨.nil, fun _ h => by cases h⟩
  | _, _, @EdAll.cons _ a as p ns h t, hl, hp => by
    obtain ⟨h1, h2⟩ := List.pairwise_cons.mp hp
    obtain ⟨h3, h4⟩ := ed_asc t (fun q hq => hl q (List.mem_cons_of_mem _ hq)) h2
    have e : prOf H a = (S p.2, S p.1) := by
      unfold prOf
      rw [h]
    refine ⟨List.pairwise_cons.mpr ⟨fun b hb => ?_, h3⟩, fun b hb => ?_⟩
    · obtain ⟨_, q, hq, e2⟩ := h4 b hb
      rw [e, e2]
      refine lt_first ?_
      rcases h1 q hq with h5 | h5
      · have h6 := hl p List.mem_cons_self
        have h7 := hl q (List.mem_cons_of_mem _ hq)
        omega
      · exact h5.2
    · rcases List.mem_cons.mp hb with rfl | hb
      · refine ⟨?_, p, List.mem_cons_self, e⟩
        unfold Is2
        rw [e]
        exact h
      · obtain ⟨h5, q, hq, e2⟩ := h4 b hb
        exact ⟨h5, q, List.mem_cons_of_mem _ hq, e2⟩
theorem one_app {fs : List Fd} {go : Bool} {y : Nat} {row : List Nat} (L : List Rw) (c : Nat) : oneL fs go y row L c = L ∨ ∃ z, leftM fs y c = some z ∧ oneL fs go y row L c = L ++ [(z, row ++ [c])] := by
  unfold oneL
  split
  · exact Or.inl rfl
  · rename_i z e
    split
    · exact Or.inl rfl
    · exact Or.inr ⟨z, e, rfl⟩
theorem fold_pre {fs : List Fd} {go : Bool} {y : Nat} {row : List Nat} (L : List Rw) (cs : List Nat) : ∃ M, cs.foldl (oneL fs go y row) L = L ++ M := by
  obtain ⟨cs', _, e, _⟩ := item_app (fs := fs) (go := go) (y := y) (row := row) L cs
  exact ⟨_, e⟩
def newB (L : List Rw) (o : Option (List Nat)) (go : Bool) : Bool := match o with
  | none => false
  | some z => !hasK L z && (!decide (z = []) || go)
theorem one_new {fs : List Fd} {go : Bool} {y : Nat} {row : List Nat} (L : List Rw) (c : Nat) : oneL fs go y row L c = if newB L (leftM fs y c) go = true then L ++ [((leftM fs y c).getD [], row ++ [c])] else L := by
  unfold oneL newB
  cases leftM fs y c with
  | none => rfl
  | some z =>
    dsimp only
    have e : (hasK L z || (decide (z = []) && !go)) = !(!hasK L z && (!decide (z = []) || go)) := by
      cases hasK L z <;> cases decide (z = []) <;> cases go <;> rfl
    rw [e]
    by_cases h : (!hasK L z && (!decide (z = []) || go)) = true
    · rw [if_pos h, if_neg (by rw [h]; simp)]
      rfl
    · rw [if_neg h, if_pos (by rw [Bool.eq_false_iff.mpr h]; rfl)]
def tNew : TT := fun σ H Q => ∃ (d : Addr) (L : List Rw) (o : Option (List Nat)) (go : Bool), σ[9]? = some (some (optZ o)) ∧ σ[2]? = some (some (.bl go)) ∧ σ[3]? = some (some (.ref d)) ∧ H d = some (.dK (rowsV L)) ∧ Q (newB L o go) H
theorem z_nil (z : List Nat) : decide (V.str (S z) = V.str (Str.ofString "")) = decide (z = []) := by
  have h := opt_nil (some z)
  rw [show optZ (some z) = V.str (S z) from rfl] at h
  rw [h]
  exact decide_eq_decide.mpr ⟨fun h => Option.some.inj h, fun h => by rw [h]⟩
def spWays : Sp := fun vs H Q _ => ∃ (wd ld : Addr) (sg : List Nat) (gs : List Fd) (x : Nat) (go : Bool), vs = [.ref wd, .str (S [x]), .bl go] ∧ WAt H wd ld sg gs ∧ GsOk sg gs ∧ SgOk sg ∧ x ∈ sg ∧
  ∀ H' d R, Same H H' → H d = none → H' d = some (.dK (rowsV R)) → Bfs gs sg go [([x], [])] [(x, [])] R → BfI gs sg go x (pend R) R [] → Q (.ref d) H'
theorem zin_gs {sg : List Nat} {gs : List Fd} (h : GsOk sg gs) : ZIn gs sg := by
  intro y c z e
  obtain ⟨f, hf, _, _, rfl⟩ := left_some e
  exact (h.ok f hf).2.2
theorem opt_non (o : Option (List Nat)) : decide (optZ o = V.non) = o.isNone := by
  cases o <;> rfl
section
variable {P : Program} {w : World} {K : PySem.W.Frag} {mg : Str → Option Value} {base : Heap}
theorem ok_ways {f : Addr} {fd : FuncData} (F : Fun K "_law_ways" "_law_ways" s__law_ways f fd) (B : Blt mg) (bS : mg "sorted" = none) : FnOk P w K mg base CX0 2 f fd ["_law_w", "_law_x", "_law_is_going"] spWays := by
  refine F.ok sc__law_ways (fun vs H Q E h => ?_) (fun cdv A outer s H vs Q E hr h => ?_)
  · obtain ⟨_, _, _, _, _, _, rfl, _⟩ := h
    rfl
  · obtain ⟨wd, ld, sg, gs, x, go, rfl, hw, hgs, hs, hx, q⟩ := h
    have hu : (A.deeper (envOfC "_law_ways" (defScope s__law_ways) s.heap.objs.size f cdv)).units + 64 < cLine := by
      have := hr.units
      omega
    have hu1 : (A.deeper (envOfC "_law_ways" (defScope s__law_ways) s.heap.objs.size f cdv)).units + 1 < cLine := by omega
    refine ⟨_, (pss_cons (ps_par (i := 3) (j := 4) rfl sc__law_ways.nd rfl rfl (by decide) rfl rfl (pa_cons (pe_disp (pps_cons (pv 1) pe_str pps_nil) (by rfl) (by rfl) (fun z => by cases z) (by decide)) (pa_cons (Mq.pe_ls (pa_cons (pe_tup (pa_cons pe_str (pa_cons (pv 1) pa_nil))) pa_nil)) pa_nil)) (by rfl))
      (pss_cons (ps_while PassesOwn.never (PT_imp (t' := tEdge) (pt_cmpR (op_neD hu) (pv 4) (Mq.pe_ls pa_nil) (nomark _)) (fun σ H Q h => by
          obtain ⟨el, as, N, h4, hl, hE, hL, q⟩ := h
          refine ⟨_, h4, sz_le (n := 0) (by decide), fun p hp _ => ?_⟩
          have s1 := same_new (o := HO.lst []) hp
          refine ⟨_, _, .lst (SqL.of (s1 _ _ hl)) (EdAll.dp (hE.kp (KpA.same s1))), .lst (SqL.of upd_same) .nil, shaped_ns hL, by decide +kernel, ?_⟩
          rw [eqv_ns]
          exact ⟨_, rfl, q _ s1⟩))
        (pss_cons (ps_set (i := 5) sc__law_ways.nd rfl (Or.inl rfl) (Mq.pe_ls pa_nil))
        (pss_cons (ps_for PassesOwn.never rfl (pi_list (pe_callB call_sorted2 (by rfl) bS (by decide +kernel) (pa_cons (pv 4) pa_nil))) (pg_tup rfl (pgs_cons (pg_name (i := 6) sc__law_ways.nd rfl (Or.inl rfl)) (pgs_cons (pg_name (i := 7) sc__law_ways.nd rfl (Or.inl rfl)) pgs_nil)))
          (pss_one (ps_for PassesOwn.never rfl (pi_str (pe_dget hu1 (pv 0) pe_str (fun _ _ => rfl))) (pg_name (i := 8) sc__law_ways.nd rfl (Or.inl rfl))
            (pss_cons (ps_set (i := 9) sc__law_ways.nd rfl (Or.inl rfl) (pe_dget1 hu1 (pe_dget hu1 (pv 0) pe_str (fun _ _ => rfl)) (pe_tup (pa_cons (pv 7) (pa_cons (pv 8) pa_nil))) ⟨rfl, rfl, rfl, rfl⟩))
            (pss_one (ps_if (PT_imp (t' := tNew) (PW.pt (pw_and (pt_cmpR op_notN (pv 9) pe_non (nomark _)) (pw_and (pt_cmp (pc_dnotin hu1 (pv 9) (pv 3))) (pw_and1 (PW.pt (pw_or (pt_cmpR op_ne (pv 9) pe_str (nomark _)) (pw_or1 (pt_val (pv 2))))))))) (fun σ H Q h => by
                obtain ⟨d, L, o, go, h9, h2, h3, hd, q⟩ := h
                cases o with
                | none => exact ⟨_, h9, rfl, _, rfl, ifF rfl q⟩
                | some z =>
                  refine ⟨_, h9, rfl, _, rfl, ifT rfl ⟨_, h9, _, h3, d, _, rfl, DGet.k (k := .inr (S z)) hd, ?_⟩⟩
                  rw [rows_some]
                  have q' : Q (!hasK L z && (!decide (z = []) || go)) H := q
                  cases hk : hasK L z with
                  | true =>
                    rw [hk] at q'
                    exact ⟨_, rfl, ifF rfl q'⟩
                  | false =>
                    rw [hk] at q'
                    refine ⟨_, rfl, ifT rfl ⟨_, h9, rfl, _, rfl, ?_⟩⟩
                    rw [show decide (optZ (some z) = V.str (Str.ofString "")) = decide (z = []) from z_nil z]
                    by_cases hz : z = []
                    · rw [decide_eq_true hz] at q' ⊢
                      exact ifF rfl ⟨_, h2, go, rfl, q'⟩
                    · rw [decide_eq_false hz] at q' ⊢
                      exact ifT rfl q')) (pss_cons (ps_dput hu1 (pv 3) (pv 9) (pe_op op_add_str (pv 6) (pv 8)) rfl)
              (pss_one (ps_expr (pe_bm PySem.F.plainAttrs_list PySem.F.slot_list_append PySem.F.type_list_append mt_append (pv 5) (pa_cons (pe_tup (pa_cons (pe_op op_add_str (pv 6) (pv 8)) (pa_cons (pv 9) pa_nil))) pa_nil))))) pss_nil))))))
        (pss_one (ps_setLc (i := 4) (own := [("_law_both", 10)]) (g := gName 10) rfl sc__law_ways.nd rfl rfl (sw_true rfl rfl rfl (by decide +kernel)) (pi_list (pv 5)) (blkOk_by (own := [("_law_both", 10)]) (N := ["_law_w", "_law_x", "_law_is_going", "_law_found", "_law_edge", "_law_later", "_law_row", "_law_y", "_law_c", "_law_left", "_law_both"]) (sc := defScope s__law_ways) (by decide +kernel)) (fun _ _ _ _ _ => pg_name (i := 10) sc__law_ways.nd rfl (Or.inl rfl)) (fun _ _ _ _ _ => pts_one (pt_cmpR op_ne (pe_ix (ix_tupK (K := K) rfl) (pv 10) pe_int (fun _ _ => rfl)) pe_str (nomark _))) (fun _ _ _ _ _ => (pv 10)))))))
      (pss_one (ps_ret (pv 3))))), ?_⟩
    have zi := zin_gs hgs
    have sp := sg_pair hs
    have few := hs.few
    have low := hs.low
    refine fun d hd => ⟨_, rfl, upd_same, [(.inr (S [x]), V.str (S []))], rfl, (by show 1 ≤ 15; decide), ?_⟩
    have eM : mergeK [] [((.inr (S [x]) : Key), V.str (S []))] = rowsV [([x], [])] := rfl
    rw [eM]
    have s1 : Same H (upd (upd H d (.dK [])) d (.dK (rowsV [([x], [])]))) := by
      intro b o e
      rw [upd_ne (ne_of_none e hd), upd_ne (ne_of_none e hd)]
      exact e
    have hd1 : upd (upd H d (.dK [])) d (.dK (rowsV [([x], [])])) d = some (.dK (rowsV [([x], [])])) := upd_same
    generalize upd (upd H d (.dK [])) d (.dK (rowsV [([x], [])])) = H1 at s1 hd1 ⊢
    refine ⟨_, rfl, sz_le (n := 2) (by decide), fun t0 ht0 => ?_⟩
    have s2 := s1.trans (same_new (o := HO.tup [V.str "", V.str (S [x])]) ht0)
    have hd2 := same_new (o := HO.tup [V.str "", V.str (S [x])]) ht0 _ _ hd1
    have ht2 : upd H1 t0 (.tup [V.str "", V.str (S [x])]) t0 = some (.tup [V.str (S []), V.str (S [x])]) := upd_same
    refine ⟨sz_le (n := 1) (by decide), fun el hel _ => ?_⟩
    have s3 := same_new (o := HO.lst [V.ref t0]) hel
    have s13 := s2.trans s3
    have hd3 := s3 _ _ hd2
    have ht3 := s3 _ _ ht2
    have hel3 : upd (upd H1 t0 (.tup [V.str "", V.str (S [x])])) el (.lst [V.ref t0]) el = some (.lst ([t0].map V.ref)) := upd_same
    have heln : H el = none := s2.free hel
    generalize upd (upd H1 t0 (.tup [V.str "", V.str (S [x])])) el (.lst [V.ref t0]) = H3 at s13 hd3 ht3 hel3 ⊢
    refine ⟨_, _, rfl, ?_⟩
    refine while_gh (fun m σ H' => ∃ (L : List Rw) (E D : List (Nat × List Nat)) (as : List Addr) (el : Addr) (n : Nat) (o5 o6 o7 o8 o9 : Option V), m = 30 - D.length ∧ Same H H' ∧ H' d = some (.dK (rowsV L)) ∧ H' el = some (.lst (as.map V.ref)) ∧ EdAll H' as (toR E) ∧
        BfI gs sg go x D L E ∧ (∀ R, Bfs gs sg go L E R → Bfs gs sg go [([x], [])] [(x, [])] R) ∧ (∀ q ∈ E, q.2.length = n) ∧
        σ = [some (.ref wd), some (.str (S [x])), some (.bl go), some (.ref d), some (.ref el), o5, o6, o7, o8, o9, none])
      30 ⟨[([x], [])], [(x, [])], [], [t0], el, 0, none, none, none, none, none, rfl, s13, hd3, hel3, .cons ht3 .nil, BfI.start hx, fun R h => h, (fun q hq => by rw [List.mem_singleton.mp hq]; rfl), rfl⟩ ?_ ?_
    · rintro m σ H4 ⟨L, E, D, as, el, n, o5, o6, o7, o8, o9, rfl, s4, hd4, hel4, hE, hI, hB, hn, rfl⟩
      have hin : ∀ q ∈ E, ([q.1], q.2) ∈ L := by
        intro q hq
        rw [← pend_mem hI.len1, hI.pe]
        exact List.mem_append_right _ hq
      have hlowL : ∀ p ∈ L, (∀ c ∈ p.1, c < 128) ∧ ∀ c ∈ p.2, c < 128 := by
        intro p hp
        refine ⟨fun c hc => ?_, fun c hc => low c (hI.ov p hp c hc)⟩
        rcases hI.sh p hp with ⟨e, _⟩ | ⟨y, hy, e⟩
        · rw [e] at hc
          cases hc
        · rw [e] at hc
          rw [List.mem_singleton.mp hc]
          exact low y hy
      have hlow : LowN (toR E) := by
        intro p hp
        obtain ⟨q, hq, rfl⟩ := List.mem_map.mp hp
        exact hlowL _ (hin q hq)
      refine ⟨el, as, toR E, rfl, hel4, hE, hlow, fun H5 s5 => ?_⟩
      have s05 := s4.trans s5
      have hd5 := s5 _ _ hd4
      have hel5 := s5 _ _ hel4
      have hE5 := hE.kp (KpA.same s5)
      cases E with
      | nil =>
        refine ifF rfl ⟨_, rfl, q H5 d L s05 hd hd5 (hB L (.nil L)) (BfI.fin zi sp hI (.nil L))⟩
      | cons q0 E0 =>
        refine ifT rfl ?_
        refine ⟨sz_le (n := 0) (by decide), fun ll hll _ => ?_⟩
        have s6 := same_new (o := HO.lst []) hll
        have s06 := s05.trans s6
        have hd6 := s6 _ _ hd5
        have hel6 := s6 _ _ hel5
        have hE6 := hE5.kp (KpA.same s6)
        have hll6 : upd H5 ll (.lst []) ll = some (.lst []) := upd_same
        have hlln : H ll = none := s05.free hll
        have hlld : ll ≠ d := by
          rintro rfl
          rw [hll] at hd5
          cases hd5
        generalize upd H5 ll (.lst []) = H6 at s06 hd6 hel6 hE6 hll6 ⊢
        have hlE : ∀ p ∈ toR (q0 :: E0), p.2.length = n := by
          intro p hp
          obtain ⟨q, hq, rfl⟩ := List.mem_map.mp hp
          exact hn q hq
        have hpE : (toR (q0 :: E0)).Pairwise fun p q => Ah p.2 q.2 := List.pairwise_map.mpr hI.ap
        obtain ⟨ha1, ha2⟩ := ed_asc hE6 hlE hpE
        refine ⟨_, rfl, el, as, rfl, SqL.of hel6, (fun b hb => (ha2 b hb).1), fun qs p hq1 hq2 hp => ?_⟩
        have eqs : qs = as := by
          refine perm_asc (r := fun a b => ltSS (prOf H6 a) (prOf H6 b)) hq1 ?_ ha1
          rw [List.pairwise_iff_getElem]
          intro i j hi hj hij
          have := hq2 i j (by omega) hj
          rw [List.getD_eq_getElem?_getD, List.getD_eq_getElem?_getD, List.getElem?_eq_getElem hi, List.getElem?_eq_getElem hj] at this
          exact this
        subst eqs
        have s7 := same_new (o := HO.lst (qs.map V.ref)) hp
        have s07 := s06.trans s7
        have hd7 := s7 _ _ hd6
        have hll7 := s7 _ _ hll6
        have hE7 := hE6.kp (KpA.same s7)
        have hp7 : upd H6 p (.lst (qs.map V.ref)) p = some (.lst (qs.map V.ref)) := upd_same
        have hpd : p ≠ d := by
          rintro rfl
          rw [hp] at hd6
          cases hd6
        have hpl : p ≠ ll := by
          rintro rfl
          rw [hp] at hll6
          cases hll6
        generalize upd H6 p (.lst (qs.map V.ref)) = H7 at s07 hd7 hll7 hE7 hp7 ⊢
        refine ⟨p, rfl, ⟨_, SqL.of hp7⟩, ?_⟩
        have hlenE : (qs.map V.ref).length = (q0 :: E0).length := by
          rw [List.length_map, hE7.len]
          exact List.length_map ..
        generalize hEE : q0 :: E0 = EE at hI hB hn hE7 hlenE hin
        have hEne : EE ≠ [] := by rw [← hEE]; exact fun h => by cases h
        refine for_it (walk_list (K := K) (a := p) (xs := qs.map V.ref)) (fun i σ H' => ∃ (L' : List Rw) (D' : List (Nat × List Nat)) (N : List Rw) (bs : List Addr) (o6 o7 o8 o9 : Option V), Same H H' ∧ H' d = some (.dK (rowsV L')) ∧ H' p = some (.lst (qs.map V.ref)) ∧ EdAll H' qs (toR EE) ∧ H' ll = some (.lst (bs.map V.ref)) ∧ EdAll H' bs N ∧
            BfI gs sg go x D' L' (EE.drop i ++ pend N) ∧ (∀ R, Bfs gs sg go L' (EE.drop i ++ pend N) R → Bfs gs sg go [([x], [])] [(x, [])] R) ∧ (∀ q ∈ N, q.2.length = n + 1) ∧ (∀ q ∈ N, q ∈ L') ∧ D'.length = D.length + i ∧ N.length ≤ L'.length ∧
            σ = [some (.ref wd), some (.str (S [x])), some (.bl go), some (.ref d), some (.ref el), some (.ref ll), o6, o7, o8, o9, none])
          ⟨L, D, [], [], o6, o7, o8, o9, s07, hd7, hp7, hE7, hll7, .nil, by rw [show EE.drop 0 ++ pend [] = EE by rw [List.drop_zero]; exact List.append_nil _]; exact hI, by rw [show EE.drop 0 ++ pend [] = EE by rw [List.drop_zero]; exact List.append_nil _]; exact hB, (fun q hq => by cases hq), (fun q hq => by cases hq), rfl, Nat.zero_le _, rfl⟩
          (fun i σ H' _ h => by obtain ⟨L', D', N, bs, o6, o7, o8, o9, h⟩ := h; exact SqL.of h.2.2.1) ?_ ?_
        · rintro i v σ H8 H8' hi ⟨L', D', N, bs, o6, o7, o8, o9, s8, hd8, hp8, hE8, hll8, hN8, hI8, hB8, hn8, hm8, hD8, hl8, rfl⟩ ⟨rfl, hv⟩
          have hiE : i < EE.length := by rw [← hlenE]; exact hi
          obtain ⟨a, ha, rfl⟩ : ∃ a, qs[i]? = some a ∧ v = .ref a := by
            rw [List.getElem?_map] at hv
            cases h : qs[i]? with
            | none => rw [h] at hv; cases hv
            | some b => rw [h] at hv; cases hv; exact ⟨b, rfl, rfl⟩
          obtain ⟨nn, hnn, hat⟩ := hE8.at ha
          obtain ⟨y, row, hq, rfl⟩ : ∃ y row, EE[i] = (y, row) ∧ nn = ([y], row) := by
            unfold toR at hnn
            rw [List.getElem?_map, List.getElem?_eq_getElem hiE] at hnn
            exact ⟨EE[i].1, EE[i].2, rfl, (Option.some.inj hnn).symm⟩
          have hdrop : EE.drop i = (y, row) :: EE.drop (i + 1) := by
            rw [List.drop_eq_getElem_cons hiE, hq]
          rw [hdrop, List.cons_append] at hI8 hB8
          have hrn : row.length = n := by
            have := hn _ (List.getElem_mem hiE)
            rw [hq] at this
            exact this
          have hmem : ([y], row) ∈ L' := by
            rw [← pend_mem hI8.len1, hI8.pe]
            exact List.mem_append_right _ List.mem_cons_self
          have hrl : row.length ≤ sg.length := hI8.rowLen hmem
          have hLf := hI8.few
          refine ⟨a, _, rfl, Or.inl (Or.inl hat), rfl, _, _, rfl, _, _, rfl, rfl, ?_⟩
          refine ⟨_, rfl, wd, _, rfl, DGet.k (k := .inr "letters") (s8 _ _ hw.w), S sg, rfl, ?_⟩
          refine for_it (walk_S sg) (fun j σ H' => ∃ (M : List Rw) (bs : List Addr) (o8 o9 : Option V), Same H H' ∧ (sg.take j).foldl (oneL gs go y row) L' = L' ++ M ∧ H' d = some (.dK (rowsV (L' ++ M))) ∧ H' p = some (.lst (qs.map V.ref)) ∧ EdAll H' qs (toR EE) ∧ H' ll = some (.lst (bs.map V.ref)) ∧ EdAll H' bs (N ++ M) ∧ (∀ q ∈ M, q.2.length = n + 1) ∧
              σ = [some (.ref wd), some (.str (S [x])), some (.bl go), some (.ref d), some (.ref el), some (.ref ll), some (.str (S row)), some (.str (S [y])), o8, o9, none])
            ⟨[], bs, o8, o9, s8, (List.append_nil _).symm, by rw [List.append_nil]; exact hd8, hp8, hE8, hll8, by rw [List.append_nil]; exact hN8, (fun q hq => by cases hq), rfl⟩ (fun _ _ _ _ _ => trivial) ?_ ?_
          · rintro j c σ H9 H9' hj ⟨M, bs, o8, o9, s9, hf9, hd9, hp9, hE9, hll9, hN9, hM9, rfl⟩ ⟨rfl, rfl⟩
            have hfl := item_len (fs := gs) (go := go) (y := y) (row := row) L' (sg.take j)
            have htl : (sg.take j).length ≤ 10 := Nat.le_trans (List.length_take_le' ..) few
            rw [take_fold hj, hf9, one_new]
            rw [hf9] at hfl
            have hw9 := hw.same s9
            refine ⟨_, rfl, wd, _, rfl, DGet.k (k := .inr "left") hw9.w, ld, rfl, Or.inr ⟨_, .inl hw9.l⟩, _, rfl, _, rfl, sz_le (n := 2) (by decide), fun pt hpt => ?_⟩
            have sA := same_new (o := HO.tup [V.str (S [y]), V.str (S [sg.getD j 0])]) hpt
            refine ⟨_, DGet.t (k := [Sum.inr (S [y]), Sum.inr (S [sg.getD j 0])]) (sA _ _ hw9.l) upd_same, ?_⟩
            rw [tab_val]
            have s9A := s9.trans sA
            have hdA := sA _ _ hd9
            have hpA := sA _ _ hp9
            have hEA := hE9.kp (KpA.same sA)
            have hllA := sA _ _ hll9
            have hNA := hN9.kp (KpA.same sA)
            generalize upd H9' pt (.tup [V.str (S [y]), V.str (S [sg.getD j 0])]) = HA at s9A hdA hpA hEA hllA hNA ⊢
            refine ⟨d, L' ++ M, leftM gs y (sg.getD j 0), go, rfl, rfl, rfl, hdA, ?_⟩
            by_cases hnb : newB (L' ++ M) (leftM gs y (sg.getD j 0)) go = true
            · refine ifT hnb ?_
              rw [if_pos hnb]
              obtain ⟨z, elf⟩ : ∃ z, leftM gs y (sg.getD j 0) = some z := by
                cases e : leftM gs y (sg.getD j 0) with
                | none => rw [e] at hnb; cases hnb
                | some z => exact ⟨z, rfl⟩
              rw [elf] at hnb ⊢
              have hk : hasK (L' ++ M) z = false := by
                have h2 : (!hasK (L' ++ M) z && (!decide (z = []) || go)) = true := hnb
                have h3 := (Bool.and_eq_true_iff.mp h2).1
                simpa using h3
              have hlr : (S row).length + (S [sg.getD j 0]).length ≤ sizeLine := by
                rw [SX.S_len, SX.S_len]
                exact sz_le (by show row.length + 1 ≤ 1000000; omega)
              have hNl := hN9.len
              have hML : (L' ++ M).length = L'.length + M.length := List.length_append
              refine ⟨_, rfl, _, rfl, S row, S [sg.getD j 0], rfl, rfl, hlr, ?_⟩
              rw [SX.S_cat]
              refine ⟨_, rfl, _, rfl, d, _, rfl, DPut.k (k := .inr (S z)) hdA (by unfold rowsV; rw [List.length_map]; exact sz_lt (by omega)), ?_⟩
              rw [rows_put hk]
              have hdB : upd HA d (.dK (rowsV (L' ++ M ++ [(z, row ++ [sg.getD j 0])]))) d = some (.dK (rowsV (L' ++ M ++ [(z, row ++ [sg.getD j 0])]))) := upd_same
              have hllB : upd HA d (.dK (rowsV (L' ++ M ++ [(z, row ++ [sg.getD j 0])]))) ll = some (.lst (bs.map V.ref)) := (upd_ne hlld).trans hllA
              have hpB : upd HA d (.dK (rowsV (L' ++ M ++ [(z, row ++ [sg.getD j 0])]))) p = some (.lst (qs.map V.ref)) := (upd_ne hpd).trans hpA
              have hEB := hEA.kp (KpA.dk (o := .dK (rowsV (L' ++ M ++ [(z, row ++ [sg.getD j 0])]))) hdA)
              have hNB := hNA.kp (KpA.dk (o := .dK (rowsV (L' ++ M ++ [(z, row ++ [sg.getD j 0])]))) hdA)
              have sB : Same H (upd HA d (.dK (rowsV (L' ++ M ++ [(z, row ++ [sg.getD j 0])])))) := by
                intro b o e
                rw [upd_ne (ne_of_none e hd)]
                exact s9A b o e
              generalize upd HA d (.dK (rowsV (L' ++ M ++ [(z, row ++ [sg.getD j 0])]))) = HB at hdB hllB hpB hEB hNB sB ⊢
              refine ⟨_, rfl, .inl ⟨rfl, _, SqL.of hllB⟩, _, rfl, _, rfl, S row, S [sg.getD j 0], rfl, rfl, hlr, ?_⟩
              rw [SX.S_cat]
              refine ⟨_, rfl, sz_le (n := 2) (by decide), fun pn hpn => ?_⟩
              have sC := same_new (o := HO.tup [V.str (S (row ++ [sg.getD j 0])), optZ (some z)]) hpn
              have hllC := sC _ _ hllB
              refine ⟨ll, _, _, rfl, rfl, hllC, (by rw [List.length_map, hNl, List.length_append]; exact sz_lt (by omega)), ?_⟩
              have kC := KpA.ls (o := .lst (bs.map V.ref ++ [V.ref pn])) hllC
              have hpnC := kC _ _ (show upd HB pn (.tup [V.str (S (row ++ [sg.getD j 0])), optZ (some z)]) pn = some (.tup [V.str (S (row ++ [sg.getD j 0])), V.str (S z)]) from upd_same)
              refine ⟨M ++ [(z, row ++ [sg.getD j 0])], bs ++ [pn], _, _, ?_, by rw [List.append_assoc]; rfl, ?_, ?_, (hEB.kp (KpA.same sC)).kp kC, ?_, ?_, ?_, rfl⟩
              · intro b o e
                rw [upd_ne (ne_of_none e hlln)]
                exact sC _ _ (sB b o e)
              · rw [upd_ne (Ne.symm hlld), ← List.append_assoc]
                exact sC _ _ hdB
              · rw [upd_ne hpl]
                exact sC _ _ hpB
              · rw [upd_same, List.map_append]
                rfl
              · rw [← List.append_assoc]
                exact ((hNB.kp (KpA.same sC)).kp kC).snoc hpnC
              · intro q hq
                rcases List.mem_append.mp hq with hq | hq
                · exact hM9 q hq
                · rw [List.mem_singleton.mp hq, List.length_append, ← hrn]
                  rfl
            · refine ifF (Bool.eq_false_iff.mpr hnb) ?_
              rw [if_neg hnb]
              exact ⟨M, bs, _, _, s9A, rfl, hdA, hpA, hEA, hllA, hNA, hM9, rfl⟩
          · rintro σ H9 ⟨M, bs, o8, o9, s9, hf9, hd9, hp9, hE9, hll9, hN9, hM9, rfl⟩
            rw [List.take_length] at hf9
            have hst := hI8.step zi sp
            have ef : itemL gs sg go y row L' = L' ++ M := hf9
            rw [ef, List.drop_left, List.append_assoc, ← pend_app] at hst
            refine ⟨L' ++ M, D' ++ [(y, row)], N ++ M, bs, _, _, _, _, s9, hd9, hp9, hE9, hll9, hN9, hst, fun R hR => hB8 R (.cons ?_), ?_, ?_, ?_, ?_, rfl⟩
            · rw [ef, List.drop_left, List.append_assoc, ← pend_app]
              exact hR
            · intro q hq
              rcases List.mem_append.mp hq with hq | hq
              · exact hn8 q hq
              · exact hM9 q hq
            · intro q hq
              rcases List.mem_append.mp hq with hq | hq
              · exact List.mem_append_left _ (hm8 q hq)
              · exact List.mem_append_right _ hq
            · rw [List.length_append, hD8]
              show D.length + i + 1 = D.length + (i + 1)
              omega
            · rw [List.length_append, List.length_append]
              omega
        · rintro σ H8 ⟨L', D', N, bs, o6, o7, o8, o9, s8, hd8, hp8, hE8, hll8, hN8, hI8, hB8, hn8, hm8, hD8, hl8, rfl⟩
          rw [hlenE] at hI8 hB8 hD8
          rw [List.drop_length, List.nil_append] at hI8 hB8
          have hLf := hI8.few
          have hz1 : ∀ n ∈ N, n.1.length ≤ 1 := fun n hn => hI8.len1 n (hm8 n hn)
          have hbl := hN8.len
          refine ⟨_, rfl, ll, rfl, ⟨_, SqL.of hll8⟩, fun L2 hL2 => ?_⟩
          refine lc_it (walk_list (K := K) (a := ll) (xs := bs.map V.ref)) (fun i H' => Same H8 H' ∧ ∃ cs : List Addr, H' L2 = some (.lst (cs.map V.ref)) ∧ EdAll H' cs ((N.take i).filter fun n => decide (n.1 ≠ []))) ⟨same_new hL2, [], upd_same, .nil⟩ (fun i H' _ p => SqL.of (p.1 _ _ hll8)) ?_ ?_
          · rintro i v H9 H9' hi ⟨s9, cs, hL9, hc9⟩ ⟨rfl, hv⟩
            obtain ⟨a, ha, rfl⟩ : ∃ a, bs[i]? = some a ∧ v = .ref a := by
              rw [List.getElem?_map] at hv
              cases h : bs[i]? with
              | none => rw [h] at hv; cases hv
              | some b => rw [h] at hv; cases hv; exact ⟨b, rfl, rfl⟩
            obtain ⟨nn, hnn, hat⟩ := hN8.at ha
            have hat9 := s9 _ _ hat
            have hff := filter_take (q := fun n : Rw => decide (n.1 ≠ [])) hnn
            have hcl := hc9.len
            have hcl2 : ((N.take i).filter fun n => decide (n.1 ≠ [])).length ≤ N.length := Nat.le_trans (List.length_filter_le _ _) (by rw [List.length_take]; omega)
            refine ⟨rfl, _, rfl, a, _, 1, _, rfl, rfl, Or.inl (Or.inl hat9), atI_nat (j := 1) rfl, rfl, _, rfl, ?_⟩
            rw [z_nil]
            by_cases hz : nn.1 = []
            · rw [decide_eq_true hz]
              rw [if_neg (by rw [decide_eq_false (fun h => h hz)]; simp), List.append_nil] at hff
              refine ifF rfl ⟨s9, cs, hL9, ?_⟩
              rw [hff]
              exact hc9
            · rw [decide_eq_false hz]
              rw [if_pos (decide_eq_true hz)] at hff
              refine ifT rfl ⟨_, rfl, _, hL9, (by rw [List.length_map, hcl]; exact sz_lt (by omega)), ?_, cs ++ [a], ?_, ?_⟩
              · intro b o e
                rw [upd_ne (ne_of_none e hL2)]
                exact s9 b o e
              · rw [upd_same, List.map_append]
                rfl
              · rw [hff]
                have kC := KpA.ls (o := .lst (cs.map V.ref ++ [V.ref a])) hL9
                exact (hc9.kp kC).snoc (kC _ _ hat9)
          · rintro H9 ⟨s9, cs, hL9, hc9⟩
            rw [List.length_map, hbl, List.take_length, ← toR_pend N hz1] at hc9
            refine ⟨30 - D'.length, ?_, L', pend N, D', cs, L2, n + 1, _, _, _, _, _, rfl, s8.trans s9, s9 _ _ hd8, hL9, hc9, hI8, hB8, ?_, rfl⟩
            · have h1 : EE.length ≠ 0 := fun h => hEne (List.length_eq_zero_iff.mp h)
              have h2 : D.length + EE.length ≤ 11 := by
                have h3 := congrArg List.length hI.pe
                rw [List.length_append] at h3
                have h4 : (pend L).length ≤ L.length := List.length_filterMap_le ..
                have h5 := hI.few
                omega
              omega
            · intro q hq
              obtain ⟨nn, hnn, e⟩ := List.mem_filterMap.mp hq
              have := hn8 nn hnn
              cases hh : nn.1.head? with
              | none => rw [hh] at e; cases e
              | some w => rw [hh] at e; cases e; exact this
    · rintro σ H2 Q1 Q2 hq ⟨el, as, N, h4, hl, hE, hL, q1⟩
      exact ⟨el, as, N, h4, hl, hE, hL, fun H' s' => hq _ _ (q1 H' s')⟩
end
end Lw

namespace Mq
open PySem PySem.Spec PyProof.Rows L2
/-! ### a text, from its end -/
def revS (z : Str) : Str := ⟨z.cps.toList.reverse.toArray⟩
theorem rev_ix (n : Nat) : Builtin.Str.strSliceIndices none none (-1) n = (List.range n).reverse := by
  rw [← PySem.W.krv_range, ← PySem.W.krv_sliceRange]
  rfl
theorem rev_pick (z : Str) : (Builtin.Str.strSliceIndices none none (-1) z.length).filterMap (z.cps[·]?) = z.cps.toList.reverse := by
  rw [rev_ix]
  show ((List.range z.cps.size).reverse).filterMap (z.cps[·]?) = _
  rw [List.filterMap_reverse, PySem.W.krv_all]
def tRevS (te : TE) : TE := fun σ H Q => te σ H fun x H1 => ∃ z : Str, x = .str z ∧ z.length ≤ sizeLine ∧ Q (.str (revS z)) H1
theorem pe_revS {X : Cx} {e : Expr} {te : TE} {k : Nat} {p1 p2 p3 pos : Pos} (he : PE X e te) : PE X (.Subscript e (.Slice none none (some (.UnaryOp .USub (.Constant (.int 1) k p1) p2)) p3) pos) (tRevS te) := by
  refine ⟨fun pins s σ H Q I0 h => ?_⟩
  refine Subscript_ (thn (he.run pins s σ H _ I0 h) fun v s1 ⟨x, H1, I1, r1, q1⟩ => ?_)
  obtain ⟨z, ez, hz, q⟩ := q1
  subst ez
  obtain ⟨tz, rfl⟩ := r1
  have back : PO X (some (.UnaryOp .USub (.Constant (.int 1) k p1) p2)) (tPart (tUn (rU fun i => .int (-i)) (tC (.int 1)))) := po_some (pe_un un_neg pe_int)
  refine wpAny_Slice (thn (po_none.run pins s1 σ H1 (fun o G => o = none ∧ G = H1) I1 ⟨rfl, rfl⟩) fun v1 s2 ⟨o1, G1, I2, a1, b1, c1⟩ => ?_)
  subst b1 c1
  refine thn (po_none.run pins s2 σ G1 (fun o G => o = none ∧ G = G1) I2 ⟨rfl, rfl⟩) fun v2 s3 ⟨o2, G2, I3, a2, b2, c2⟩ => ?_
  subst b2 c2
  refine thn (back.run pins s3 σ G2 (fun o G => o = some (-1) ∧ G = G2) I3 ⟨1, rfl, -1, rfl, rfl, rfl⟩) fun v3 s4 ⟨o3, G3, I4, a3, b3, c3⟩ => ?_
  subst b3 c3
  obtain ⟨l1, rfl, f1⟩ := IsPart.raw a1
  obtain ⟨l2, rfl, f2⟩ := IsPart.raw a2
  obtain ⟨l3, rfl, f3⟩ := IsPart.raw a3
  have I5 : Inv X pins σ G3 { s4 with heap := s4.heap.push { cls := .type "slice", data := .fields #[partValue l1, partValue l2, partValue l3] } } := I4.kept (t' := s4.toks) fun b ob q => Heap.get?_push_of_some _ q
  show wpAny (model X.prog X.w) X.A (subscriptTail e (.Slice none none (some (.UnaryOp .USub (.Constant (.int 1) k p1) p2)) p3) (.str z tz) (.ref s4.heap.objs.size)) (EP X pins σ Q) X.xe { s4 with heap := s4.heap.push { cls := .type "slice", data := .fields #[partValue l1, partValue l2, partValue l3] } }
  refine tail_any (ops := [.str z tz, .ref s4.heap.objs.size]) (typeIs_str _ z tz) (F.slot_str_getitem.lookup) ?_ (by with_unfolding_all rfl)
  refine wpAny_getItem_str_slice (l := l1) (u := l2) (st := l3) ⟨_, Heap.get?_push_size _ rfl, rfl, rfl⟩ (by rw [f3]; rfl) ?_
  unfold sliceMade slicePicked
  rw [f1, f2, f3]
  show Made.post (if ((-1 : Int) == 1 && (Builtin.Str.strSliceIndices none none (-1) z.length).length == z.length) = true then Made.val (.str z tz) else Made.str ⟨((Builtin.Str.strSliceIndices none none (-1) z.length).filterMap (z.cps[·]?)).toArray⟩) (EP X pins σ Q) _
  rw [rev_pick, if_neg (show ¬ _ by rw [show ((-1 : Int) == 1) = false by decide, Bool.false_and]; exact Bool.false_ne_true)]
  refine ⟨?_, .str _, G3, I5.tok _, ⟨_, rfl⟩, q⟩
  show (z.cps.toList.reverse.toArray).size ≤ sizeLine
  rw [List.size_toArray, List.length_reverse, Array.length_toList]
  exact hz
end Mq

/-! Mq34: sets of texts that can be walked: set(text), sorted(set). -/
namespace PySem.Froz
open PySem
/-- the set of the texts l at a: its table rises, and it can be walked -/
def WkT (P : Program) (w : World) (h : Heap) (a : Addr) (l : List Str) : Prop :=
  ∃ D : SD, h.get? a = some (sObj "set" D) ∧ TxOk P w D l ∧ l.Nodup ∧ l.length < scanBound ∧ L2.Ris D.2.2.place.toList ∧ (w.params.followText "set-order" = true ∨ D.2.2.led = true)
section
variable {P : Program} {w : World} {A : Around} {E : Value → Shared → Prop} {s : Shared}
theorem WkT.at {h h' : Heap} {a : Addr} {l : List Str} (R : WkT P w h a l) (k : ∀ o, h.get? a = some o → h'.get? a = some o) : WkT P w h' a l := by
  obtain ⟨D, ho, r⟩ := R
  exact ⟨D, k _ ho, r⟩
theorem tail_ris {ep : Nat} {es1 : Array (Int × Value)} {t2 : SetTable} {wd : Bool} (r : L2.Ris t2.place.toList) : L2.Ris (tailTx ep es1 t2 wd).2.2.place.toList := by
  unfold tailTx
  split
  · exact L2.relayAll_ris _ _ _
  · exact r
theorem tail_led {ep : Nat} {es1 : Array (Int × Value)} {t2 : SetTable} {wd : Bool} : (tailTx ep es1 t2 wd).2.2.led = t2.led := by
  unfold tailTx
  split
  · exact L2.relayAll_led _ _ _
  · rfl
theorem add_ris {h : Int} {v : Value} {D : SD} (r : L2.Ris D.2.2.place.toList) : L2.Ris (addTx h v D).2.2.place.toList := by
  obtain ⟨es, ep, t⟩ := D
  have r1 := L2.layNew_ris t es h v r
  refine tail_ris ?_
  show L2.Ris (if (layNew t es h v).2.1.plain = true then { (layNew t es h v).2.1 with plain := false } else (layNew t es h v).2.1).place.toList
  split <;> exact r1
theorem add_led {h : Int} {v : Value} {D : SD} : (addTx h v D).2.2.led = D.2.2.led := by
  obtain ⟨es, ep, t⟩ := D
  have l1 := L2.layNew_led t es h v
  refine tail_led.trans ?_
  show (if (layNew t es h v).2.1.plain = true then { (layNew t es h v).2.1 with plain := false } else (layNew t es h v).2.1).led = t.led
  split <;> exact l1
/-- one that is there already -/
theorem add_old {a : Addr} {T : String} {D : SD} {l : List Str} {k : Str} {u : Tok} {Q : Bool → Shared → Prop} (ho : s.heap.get? a = some (sObj T D)) (F : TxOk P w D l) (hk : k ∈ l) (hb : l.length < scanBound)
    (h : Q false s) : wpAny (model P w) A (setAddHashed a (.str k u) (hashStr w k)) Q E s := by
  obtain ⟨es, ep, t⟩ := D
  have hd : (sObj T (es, ep, t)).data = .set es ep t := rfl
  have hf : t.fits es.size = true := F.fit
  have hel : ElemsOf (strKind P w) es.toList := F.el
  have hb0 : es.size < scanBound := by rw [show es.size = l.length from F.sz]; exact hb
  have hkey : (strKind P w).is k (.str k u) = true := is_str k u
  unfold setAddHashed setAddHashedIn
  refine wpAny_holding (wpAny_bind (wpAny_setState_of ho hd hf ?_))
  dsimp only
  rw [byScan_of rfl hb0 hel]
  simp only [↓reduceIte]
  unfold setAddByScan
  refine wpAny_bind ?_
  refine wpAny_bind (wpAny_rule ?_)
  refine wpAny_bind (wpAny_setScan_of (knd := strKind P w) (k := k) hkey ho hd hf hel ?_)
  cases hfi : List.findIdx? (fun e => (strKind P w).is k e.2) es.toList with
  | some j => exact wpAny_pure (wpAny_pure h)
  | none =>
    obtain ⟨e, he, q⟩ := (F.mem k).mp hk
    have c := List.findIdx?_eq_none_iff.mp hfi e he
    rw [q] at c
    cases c
/-- the members behind so many signs of a text -/
def Upto (x : Str) (i : Nat) (l : List Str) : Prop := l.length ≤ i ∧ ∀ k : Str, k ∈ l ↔ k ∈ (PyProof.Rows.signs x).take i
theorem upto_step {x : Str} {i c : Nat} {l : List Str} (u : Upto x i l) (hc : x.cps[i]? = some c) : (PyProof.Rows.signs x)[i]? = some (sing c) ∧
    ∀ k, k ∈ (PyProof.Rows.signs x).take (i + 1) ↔ k ∈ l ∨ k = sing c := by
  have e : (PyProof.Rows.signs x)[i]? = some (sing c) := by
    unfold PyProof.Rows.signs
    rw [List.getElem?_map, Array.getElem?_toList, hc]
    rfl
  refine ⟨e, fun k => ?_⟩
  rw [List.take_add_one, e, u.2 k]
  simp
theorem code_updT {I a : Addr} {fp wr : List Addr} {n : Nat} {St : Nat → Heap → Prop} {x : Str} {R : Result → Shared → Prop}
    (W : Walks P w A.in1 I fp wr n (SignAt x) St) (hn : n = x.cps.size) (hsz : n + 1 < scanBound) (haf : a ∉ fp) : ∀ (m i : Nat) (l : List Str) (s : Shared), n - i = m → i ≤ n → St i s.heap →
    WkT P w s.heap a l → Upto x i l →
    (∀ h' tk l', (∀ b o, b ∉ a :: wr → s.heap.get? b = some o → h'.get? b = some o) → WkT P w h' a l' → Upto x n l' → R (.ok (.ret .none)) { s with heap := h', toks := tk }) →
    codeAny (model P w) A (.builtin "set.update.loop" ⟨[.ref a, .ref I], []⟩) R s := by
  have haw : a ∉ wr := fun z => haf (W.sub _ z)
  have hsub : ∀ b, b ∉ a :: wr → b ∉ wr := fun b hb z => hb (List.mem_cons_of_mem _ z)
  intro m
  induction m with
  | zero =>
    intro i l s hm hi hst hS hu hR
    have hin : i = n := by omega
    subst hin
    refine codeAny_builtin PyProof.Rows.F.entry_set_update_loop ?_
    rw [Around.under_plainId PyProof.Rows.F.plain_set_update_loop _]
    show wpAny _ A.in1 (pyNext (.ref I) >>= _) _ _ s
    refine wpAny_bind (W.done s _ _ hst fun h' tk hk' => ?_)
    show wpAny _ A.in1 (ret Value.none) _ _ _
    exact wpAny_pure (hR h' tk l (fun b o hb e => hk' b o (hsub b hb) e) (hS.at fun o e => hk' a o haw e) hu)
  | succ m ih =>
    intro i l s hm hi hst hS hu hR
    have hlt : i < n := by omega
    refine codeAny_builtin PyProof.Rows.F.entry_set_update_loop ?_
    rw [Around.under_plainId PyProof.Rows.F.plain_set_update_loop _]
    show wpAny _ A.in1 (pyNext (.ref I) >>= _) _ _ s
    refine wpAny_bind (W.item i s _ _ hlt hst fun v h' tk hP hst' hk' => ?_)
    obtain ⟨c, t, hc, rfl⟩ := hP
    obtain ⟨e1, e2⟩ := upto_step hu hc
    have hS' : WkT P w h' a l := hS.at fun o e => hk' a o haw e
    obtain ⟨D, hD, F, nd, hb, hr, hl⟩ := hS'
    show wpAny _ A.in1 (holding [Value.str (sing c) t] (setAdd a (.str (sing c) t)) >>= _) _ _ _
    refine wpAny_bind (wpAny_holding ?_)
    unfold setAdd
    refine wpAny_holding ?_
    refine wpAny_bind ((strKind P w).pyHash (k := sing c) (is_str _ _) ?_)
    have hll : l.length ≤ i := hu.1
    by_cases hk : sing c ∈ l
    · refine add_old (s := { s with heap := h', toks := tk + 1 }) hD F hk hb ?_
      refine wpAny_pure ⟨plainId_quiet PyProof.Rows.F.plain_set_update_loop _, ih (i + 1) l { s with heap := h', toks := tk + 1 } (by omega) hlt hst' ⟨D, hD, F, nd, hb, hr, hl⟩ ⟨by omega, fun k => ?_⟩ fun h'' tk'' l' hk'' w' u' => ?_⟩
      · rw [e2 k]
        exact ⟨.inl, fun z => z.elim id fun q => q ▸ hk⟩
      · exact hR h'' tk'' l' (fun b o hb e => hk'' b o hb (hk' b o (hsub b hb) e)) w' u'
    · have hb2 : l.length + 1 < scanBound := by omega
      refine add_x (s := { s with heap := h', toks := tk + 1 }) hD F hk hb2 ?_
      have hne : ∀ b ∈ fp, b ≠ a := fun b hb z => haf (z ▸ hb)
      have k2 : ∀ b o, b ≠ a → h'.get? b = some o → (h'.update a (fun _ => sObj "set" (addTx (hashStr w (sing c)) (.str (sing c) t) D))).get? b = some o := fun b o hb e => PySem.Heap.get?_update_of_ne _ (Ne.symm hb) e
      have hw : WkT P w (h'.update a (fun _ => sObj "set" (addTx (hashStr w (sing c)) (.str (sing c) t) D))) a (sing c :: l) :=
        ⟨_, get_upd _ hD rfl, add_ok t F, List.nodup_cons.mpr ⟨hk, nd⟩, hb2, add_ris hr, hl.imp id fun z => by rw [add_led]; exact z⟩
      refine wpAny_pure ⟨plainId_quiet PyProof.Rows.F.plain_set_update_loop _, ih (i + 1) (sing c :: l) { s with heap := h'.update a (fun _ => sObj "set" (addTx (hashStr w (sing c)) (.str (sing c) t) D)), toks := tk + 1 } (by omega) hlt
        (W.frame _ h' _ hst' fun b hb o e => k2 b o (hne b hb) e) hw ⟨?_, fun k => ?_⟩ fun h'' tk'' l' hk'' w' u' => ?_⟩
      · show l.length + 1 ≤ i + 1
        omega
      · rw [e2 k, List.mem_cons]
        exact Or.comm
      · exact hR h'' tk'' l' (fun b o hb e => hk'' b o hb (k2 b o (fun z => hb (z ▸ List.mem_cons_self ..)) (hk' b o (hsub b hb) e))) w' u'
end
end PySem.Froz

/-! Mq35: set(text), sorted(set). -/
namespace PySem.Froz
open PySem PySem.Spec PyProof.Rows L2
def emptyO (w : World) : Obj := { cls := .type "set", dict := none, data := .set #[] 0 (.fresh 0 0 (!w.params.followText "set-order")) }
theorem wkt_new {P : Program} {w : World} {h : Heap} {a : Addr} (ho : h.get? a = some (emptyO w)) : WkT P w h a [] := by
  refine ⟨(#[], 0, .fresh 0 0 (!w.params.followText "set-order")), ho, TxOk.nil rfl, List.nodup_nil, by decide, List.Pairwise.nil, ?_⟩
  show _ ∨ (!w.params.followText "set-order") = true
  cases w.params.followText "set-order"
  · exact .inr rfl
  · exact .inl rfl
section
variable {P : Program} {w : World} {A : Around} {E : Value → Shared → Prop} {s : Shared}
set_option maxHeartbeats 3200000 in
theorem call_set_txt {x : Str} {u : Tok} {Q : Value → Shared → Prop} (hh : A.handled = none) (hsz : x.cps.size + 1 < scanBound)
    (h : ∀ (h' : Heap) (tk : Nat) (l : List Str), WkT P w h' s.heap.objs.size l → Upto x x.cps.size l → (∀ b o, s.heap.get? b = some o → h'.get? b = some o) → Q (.ref s.heap.objs.size) { s with heap := h', toks := tk }) :
    wpAny (model P w) A (call (.type "set") [.str x u]) Q E s := by
  obtain ⟨c, tl, hmro⟩ := PySem.F.called_set.mro
  have hmade := PySem.F.called_set.made
  have hsub := PySem.F.called_set.sub
  refine wpAny_call (codeAny_of_tree ?_)
  show wpAny _ _ (callAny (.type "set") _) _ _ _
  refine wpAny_pure ⟨Code.quiet_builtin _ (by decide +kernel), codeAny_builtin F.entry_type_call ?_⟩
  rw [Around.under_plain (weight_type_call_type "set" [.str x u] []) rfl]
  have h1 := PySem.F.called_set.notType
  have h2 := PySem.F.called_set.canCreate
  have hct := F.typeCall_set_1 (.str x u)
  repeat (any_goals (first | assumption | wp_step))
  refine codeAny_mono (code_set_led1 (.str x u) (E := E) (Q₁ := fun obj s₁ => obj = .ref s.heap.objs.size ∧ s₁ = { s with heap := s.heap.push (emptyO w) }) ⟨rfl, rfl⟩) fun r s₁ hr => ?_
  cases r with
  | error e => exact hr
  | ok fl =>
    cases fl with
    | ret obj =>
      obtain ⟨rfl, rfl⟩ := hr
      have hS : (s.heap.push (emptyO w)).get? s.heap.objs.size = some (emptyO w) := Heap.get?_push_size _ rfl
      have hT : Shared.TypeIs { s with heap := s.heap.push (emptyO w) } (.ref s.heap.objs.size) "set" := ⟨_, hS, rfl⟩
      have hli := PySem.F.called_set.init.lookup
      have hbi := PySem.F.called_set.init.bind (.ref s.heap.objs.size)
      repeat (any_goals (first | assumption | wp_step))
      refine codeAny_mono (codeAny_call_builtin (R := wants (fun r s₂ => r = .none ∧ ∃ h' tk l, s₂ = { s with heap := h', toks := tk } ∧ WkT P w h' s.heap.objs.size l ∧ Upto x x.cps.size l ∧
          (∀ b o, s.heap.get? b = some o → h'.get? b = some o)) E) PySem.F.called_set.init.plain F.entry_set_init (check_set_init_1 hT ?_)) fun r₂ s₂ hr₂ => ?_
      · unfold Builtin.«set.__init__» noKeywords Builtin.Frozenset.updateFrom
        generalize hPI : pyIter = PI
        have hA1 := PySem.F.sub_str_set
        have hA2 := PySem.F.sub_str_frozenset
        have hne : (Value.type "str" == Value.type "dict") = false := by decide
        unfold emptyO at hS hT ⊢
        wp_walk
        subst hPI
        refine wpAny_pyIter_str fun o St hW hst => ?_
        refine wpAny_bind (wpAny_runValue ?_)
        have hsz1 : (s.heap.push (emptyO w)).objs.size = s.heap.objs.size + 1 := Heap.size_push ..
        have hS2 : WkT P w ((s.heap.push (emptyO w)).push o) s.heap.objs.size [] := (wkt_new (P := P) (Heap.get?_push_size _ rfl)).at fun _ e => Heap.get?_push_of_some _ e
        refine code_updT (hW _ (by simp [hh])) rfl hsz ?hSf (x.cps.size - 0) 0 [] _ rfl (Nat.zero_le _) hst hS2 ⟨Nat.le_refl 0, fun k => by simp⟩ fun h' tk l hk hw hu => ?_
        case hSf =>
          rw [List.mem_singleton]
          show s.heap.objs.size ≠ (s.heap.push (emptyO w)).objs.size
          rw [hsz1]
          exact Nat.ne_of_lt (Nat.lt_succ_self _)
        show wpAny _ _ _ _ _ _
        refine wpAny_pure ?_
        show wpAny _ _ (ret Value.none) _ _ _
        refine wpAny_pure ⟨rfl, h', tk, l, rfl, hw, hu, fun b o' e => ?_⟩
        have hb0 : b < s.heap.objs.size := Heap.lt_size e
        refine hk b o' (fun z => ?_) (Heap.get?_push_of_some _ (Heap.get?_push_of_some _ e))
        rcases List.mem_cons.mp z with z | z
        · exact Nat.ne_of_lt hb0 z
        · have z2 : b = (s.heap.push (emptyO w)).objs.size := List.mem_singleton.mp z
          rw [hsz1] at z2
          exact absurd hb0 (by rw [z2]; exact Nat.not_lt_of_le (Nat.le_succ _))
      · cases r₂ with
        | error e => exact hr₂
        | ok fl₂ =>
          cases fl₂ with
          | ret r =>
            obtain ⟨rfl, h', tk, l, rfl, hS', hc', hk'⟩ := hr₂
            repeat (any_goals (first | assumption | wp_step))
            exact h _ _ _ hS' hc' hk'
          | _ => exact hr₂.elim
    | _ => exact hr.elim
end
end PySem.Froz

/-! Mq36: sorted(set) of texts. -/
namespace PySem.Froz
open PySem PySem.Spec PyProof.Rows L2
theorem nd_perm {α : Type} : ∀ (l m : List α), l.Nodup → (∀ x ∈ l, x ∈ m) → m.length ≤ l.length → m.Perm l
  | [], m, _, _, h => by
    have e : m = [] := List.length_eq_zero_iff.mp (Nat.le_zero.mp h)
    rw [e]
  | x :: l, m, nd, sub, h => by
    obtain ⟨n1, n2⟩ := List.nodup_cons.mp nd
    obtain ⟨m1, m2, e⟩ := List.append_of_mem (sub x (List.mem_cons_self ..))
    subst e
    refine List.perm_middle.trans ((nd_perm l (m1 ++ m2) n2 (fun y hy => ?_) ?_).cons x)
    · have q := sub y (List.mem_cons_of_mem _ hy)
      rcases List.mem_append.mp q with q | q
      · exact List.mem_append_left _ q
      · rcases List.mem_cons.mp q with q | q
        · exact absurd hy (q ▸ n1)
        · exact List.mem_append_right _ q
    · simp only [List.length_append, List.length_cons] at h ⊢
      omega
section
variable {P : Program} {w : World} {A : Around} {E : Value → Shared → Prop} {s : Shared}
theorem texts_perm {D : SD} {l : List Str} (F : TxOk P w D l) (nd : l.Nodup) : (∀ v ∈ D.1.toList.map (·.2), ∃ x t, v = Value.str x t) ∧ ((D.1.toList.map (·.2)).map strOf).Perm l := by
  have hs : ∀ v ∈ D.1.toList.map (·.2), ∃ x t, v = Value.str x t := fun v hv => by
    obtain ⟨e, he, q⟩ := List.mem_map.mp hv
    obtain ⟨⟨k, hk, _⟩, _⟩ := F.el e he
    obtain ⟨t, ev⟩ := Value.isStrOf_shape (x := k) (v := e.2) hk
    exact ⟨k, t, by rw [← q]; exact ev⟩
  refine ⟨hs, nd_perm _ _ nd (fun k hk => ?_) ?_⟩
  · obtain ⟨e, he, q⟩ := (F.mem k).mp hk
    obtain ⟨t, ev⟩ := Value.isStrOf_shape (x := k) (v := e.2) q
    refine List.mem_map.mpr ⟨e.2, List.mem_map.mpr ⟨e, he, rfl⟩, ?_⟩
    rw [ev]
    rfl
  · rw [List.length_map, List.length_map, Array.length_toList, F.sz]
    exact Nat.le_refl _
theorem sorted_txt {a : Addr} {l : List Str} {Q : Value → Shared → Prop} (R : WkT P w s.heap a l) (hh : A.handled = none) (h64 : l.length < 64)
    (hQ : ∀ s' p (out : Array Value) (c : Nat) (ys : List Str), (∀ b o, s.heap.get? b = some o → s'.heap.get? b = some o) → s'.gens = s.gens → s'.os = s.os → s.heap.objs.size ≤ p →
      s'.heap.get? p = some (seqObj "list" out c) → StrsAre out.toList ys → ys.Perm l → sortedS ys = true → Q (.ref p) s') :
    wpAny (model P w) A (call (.builtin "sorted") [.ref a]) Q E s := by
  obtain ⟨⟨es, ep, t⟩, ho, F, nd, hb, hr, hl⟩ := R
  obtain ⟨hs, hp⟩ := texts_perm F nd
  have hf : t.fits es.size = true := F.fit
  have hn : es.size = l.length := F.sz
  refine Calls.call_function_entry kind_sorted plain_sorted entry_sorted (args_sorted1 _) ?_
  unfold Builtin.«sorted»
  refine wpAny_bind (m := checkCount "sorted" 1 1 _) (wpAny_pure ?_)
  refine wpAny_bind (collect_set (A := A.in1) hh ⟨_, ho, rfl, rfl⟩ hf (by rw [hn]; exact hb) hr hl fun s1 vs k1 hz g1 o1 pm => ?_)
  have hvl : vs.length = l.length := by rw [pm.length_eq, List.length_map, Array.length_toList]; exact hn
  have hS : StrsAre vs (vs.map strOf) := strsAre_map vs fun v hv => hs v (pm.mem_iff.mp hv)
  refine wpAny_bind (wpAny_newList ?_ (by rw [hvl, sizeLine_eq]; omega))
  have hoL : (s1.heap.push (seqObj "list" vs.toArray 0)).get? s1.heap.objs.size = some (seqObj "list" vs.toArray 0) := Heap.get?_push_size _ rfl
  refine wpAny_bind (wpAny_holding (wpAny_call_entry slot_list_sort ⟨_, hoL, rfl⟩ entry_list_sort
    (list_sort_treeK strKind_oneLt hoL hS.keysOf (fun v₁ v₂ rest e => keyKind_strs (by rw [← e]; exact hS)) (by rw [hvl]; exact h64) fun st' hp' hs' => ⟨_, rfl, ?_⟩) (args_list_sort _)))
  obtain ⟨ys, a1, a2, a3⟩ := sorted_out_str hS hp' hs'
  obtain ⟨c, hc⟩ := sortedHeap_at (vs := vs) (out := (arrOf st').map (·.2)) hoL
  refine wpAny_pure ⟨_, rfl, hQ _ s1.heap.objs.size _ c ys (fun b u e => ?_) g1 o1 hz hc a1 (a2.trans ((pm.map strOf).trans hp)) a3⟩
  have q := k1 b u e
  have hlt := Heap.lt_size q
  show (sortedHeap (s1.heap.push (seqObj "list" vs.toArray 0)) s1.heap.objs.size vs ((arrOf st').map (·.2))).get? b = some u
  rw [sortedHeap_old (Nat.ne_of_lt hlt) (by rw [size_push']; exact Nat.lt_succ_of_lt hlt)]
  exact Heap.get?_push_of_some _ q
end
end PySem.Froz

/-! Mq37: set(text), sorted(set) as rules. -/
namespace Mq
open PySem PySem.Spec PyProof.Rows L2 PySem.Froz
/-- the set of the texts l at a -/
def TxO (P : Program) (w : World) (a : Addr) (l : List Str) : HO := .ext fun h => WkT P w h a l
section
variable {X : Cx}
theorem txO_new {w : World} {P : Program} {H : Hp} {h : Heap} {a : Addr} {l : List Str} (R : WkT P w h a l) : ObjOk P w H h a (TxO P w a l) := by
  have ⟨D, ho, _⟩ := R
  exact ⟨R, ⟨_, ho⟩, fun h1 h2 p k => WkT.at p k⟩
theorem txO_get {pins : List (Addr × Obj)} {σ : L2.St} {H : Hp} {s : Shared} {a : Addr} {l : List Str} (I : Inv X pins σ H s) (ha : H a = some (TxO X.prog X.w a l)) : WkT X.prog X.w s.heap a l := (I.hok a _ ha).1
/-- set(text) -/
def rSetTx (X : Cx) : List V → Hp → VK → Prop := fun xs H Q => ∃ x : Str, xs = [V.str x] ∧ x.cps.size + 1 < scanBound ∧
  ∀ (p : Addr) (l : List Str), H p = none → l.Nodup → l.length ≤ x.cps.size → (∀ k, k ∈ l ↔ k ∈ signs x) → Q (.ref p) (upd H p (TxO X.prog X.w p l))
theorem cr_setTx (hc : X.calm = true) : CallR X (.type "set") (rSetTx X) := by
  intro pins s σ H xs us Q I r h
  obtain ⟨x, rfl, hsz, q⟩ := h
  obtain ⟨v, rfl, rv⟩ := r.one
  obtain ⟨t, rfl⟩ := rv
  refine call_set_txt (I.ok.hd hc) hsz fun h' tk l hw hu hk => ?_
  have e : (signs x).take x.cps.size = signs x := List.take_of_length_le (by unfold signs; rw [List.length_map, Array.length_toList] <;> exact Nat.le_refl _)
  have hn : l.Nodup := by
    obtain ⟨D, _, _, nd, _⟩ := hw
    exact nd
  exact ⟨.ref _, upd H s.heap.objs.size (TxO X.prog X.w s.heap.objs.size l), I.laid (t' := tk) hk (Nat.le_refl _) (txO_new hw), rfl, q _ l (I.hok.fresh (Nat.le_refl _)) hn hu.1 fun k => by rw [hu.2 k, e]⟩
/-- sorted(s), s a set of fewer than 64 texts -/
def rSortTx (X : Cx) : List V → Hp → VK → Prop := fun vs H Q => ∃ (a : Addr) (l : List Str), vs = [V.ref a] ∧ H a = some (TxO X.prog X.w a l) ∧ l.length < 64 ∧
  ∀ (ys : List Str) (p : Addr), ys.Perm l → sortedS ys = true → H p = none → Q (.ref p) (upd H p (.lst (ys.map V.str)))
theorem cr_sortTx (hc : X.calm = true) : CallR X (.builtin "sorted") (rSortTx X) := by
  intro pins s σ H vs us Q I r h
  obtain ⟨a, l, rfl, ha, h64, q⟩ := h
  have R := txO_get I ha
  rw [Vals.ref1 r]
  refine sorted_txt R (I.ok.hd hc) h64 fun s' p out c ys k g o hp hg hi hs hm => ?_
  have hlen : (ys.map V.str).length ≤ sizeLine := by rw [List.length_map, hs.length_eq]; exact small64 h64
  have hn : H p = none := I.hok.fresh hp
  have J : Inv X pins σ (upd H p (.lst (ys.map V.str))) { s with heap := s'.heap, gens := s'.gens, drawn := s'.drawn, toks := s'.toks } :=
    I.call (ch := []) (Un.laid k hp hn) (I.hok.laid k hp ⟨hlen, out.toList, c, vals_of_strs hi, hg⟩) (by rw [g]; exact I.bare) (fun _ z => nomatch z)
  have e : s' = { s with heap := s'.heap, gens := s'.gens, drawn := s'.drawn, toks := s'.toks } := by
    cases s'
    cases s
    cases o
    rfl
  rw [e]
  exact ⟨.ref p, _, J, rfl, q ys p hs hm hn⟩
theorem txO_setOf {P : Program} {w : World} {h : Heap} {a : Addr} {l : List Str} (R : WkT P w h a l) : h.SetOf (PySem.strKind P w) a (fun k => decide (k ∈ l)) l.length := by
  obtain ⟨D, ho, F, nd, hb, _, _⟩ := R
  exact ⟨_, D.1, D.2.1, D.2.2, ho, ⟨rfl, rfl, rfl⟩, rfl, F.el, fun k => by rw [decide_eq_true_eq]; exact F.mem k, by rw [show D.1.size = l.length from F.sz]; exact hb, F.fit, F.sz⟩
/-- text in s, text not in s -/
def rTxIn (X : Cx) (neg : Bool) : V → V → Hp → VK → Prop := fun x y H Q => ∃ k a l, x = V.str k ∧ y = V.ref a ∧ H a = some (TxO X.prog X.w a l) ∧ Q (.bl (if neg then !decide (k ∈ l) else decide (k ∈ l))) H
theorem or_txIn : OpR X (compareOp .In) (rTxIn X false) := by
  intro pins s σ H x y v u Q I rx ry h
  obtain ⟨k, a, l, rfl, rfl, ha, q⟩ := h
  obtain ⟨tk, rfl⟩ := rx
  cases ry
  exact wpAny_inSet_of (strKind_is _ _ _ _) rfl (txO_setOf (txO_get I ha)) ⟨.bl _, H, I.tok _, rfl, q⟩
theorem or_txNotIn : OpR X (compareOp .NotIn) (rTxIn X true) := by
  intro pins s σ H x y v u Q I rx ry h
  obtain ⟨k, a, l, rfl, rfl, ha, q⟩ := h
  obtain ⟨tk, rfl⟩ := rx
  cases ry
  exact wpAny_notInSet_of (strKind_is _ _ _ _) rfl (txO_setOf (txO_get I ha)) ⟨.bl _, H, I.tok _, rfl, q⟩
end
end Mq

namespace Mq
open PySem PySem.Spec PyProof.Rows L2
/-! ### list(text) -/
def rListTx : List V → Hp → VK → Prop := fun xs H Q => ∃ x : Str, xs = [.str x] ∧ x.cps.size ≤ sizeLine ∧ ∀ p, H p = none → p ≠ sysModules → Q (.ref p) (upd H p (.lst (x.cps.toList.map fun c => V.str ⟨#[c]⟩)))
theorem call_listTx {X : Cx} (hc : X.calm = true) : CallR X (.type "list") rListTx := by
  intro pins s σ H xs us Q I r h
  obtain ⟨x, rfl, hx, q⟩ := h
  obtain ⟨v, rfl, rv⟩ := r.one
  obtain ⟨t, rfl⟩ := rv
  refine call_list_str (I.ok.hd hc) x t (fun h' tk acc' c' hk hD ha => ?_) hx
  refine ⟨.ref s.heap.objs.size, upd H s.heap.objs.size (.lst (x.cps.toList.map fun c => V.str ⟨#[c]⟩)), I.laid (t' := tk) hk (Nat.le_refl _) ⟨?_, acc'.toList, c', ?_, ?_⟩, rfl, q _ (I.hok.fresh (Nat.le_refl _)) (Nat.ne_of_gt (Inv.low I))⟩
  · rw [List.length_map, Array.length_toList]
    exact hx
  · have el : acc'.toList.length = acc'.size := by simp
    refine vals_of_at (by rw [List.length_map, el, ha.1, Array.length_toList]) fun j y w h1 h2 => ?_
    obtain ⟨c, u, hcx, rfl⟩ := ha.2 j w (by rw [← Array.getElem?_toList]; exact h2)
    rw [List.getElem?_map, Array.getElem?_toList, hcx] at h1
    cases h1
    exact ⟨u, rfl⟩
  · rw [Array.toArray_toList]
    exact hD
/-! ### t[::-1] -/
section
variable {prog : Program} {w : World} {A : Around} {E : Value → Shared → Prop} {s : Shared}
theorem adjust_rev (n : Nat) : Builtin.Slice.sliceAdjust none none (-1) (n : Int) = ((n : Int) - 1, -1) := by
  unfold Builtin.Slice.sliceAdjust
  rfl
theorem places_rev (n : Nat) : Builtin.Slice.slicePlaces ((n : Int) - 1) (-1) (-1) = n := by
  unfold Builtin.Slice.slicePlaces
  have h1 : ¬ ((-1 : Int) > 0) := by omega
  simp only [h1, if_false]
  split
  · show (((n : Int) - 1 - -1 - 1) / 1 + 1).toNat = n
    rw [Int.ediv_one]
    omega
  · show (0 : Int).toNat = n
    omega
theorem fm_congr {α β : Type} {f g : α → Option β} : ∀ {l : List α}, (∀ k ∈ l, f k = g k) → l.filterMap f = l.filterMap g
  | [], _ => rfl
  | k :: l, h => by
    rw [List.filterMap_cons, List.filterMap_cons, h k List.mem_cons_self, fm_congr fun x hx => h x (List.mem_cons_of_mem _ hx)]
theorem pick_rev (xs : Array Value) : ((List.range xs.size).filterMap fun (k : Nat) => xs[(((xs.size : Int) - 1) + (k : Int) * (-1)).toNat]?) = xs.toList.reverse := by
  have e : ∀ k ∈ List.range xs.size, xs[(((xs.size : Int) - 1) + (k : Int) * (-1)).toNat]? = (fun k => xs[xs.size - 1 - k]?) k := by
    intro k hk
    have h1 := List.mem_range.mp hk
    have : (((xs.size : Int) - 1) + (k : Int) * (-1)).toNat = xs.size - 1 - k := by omega
    rw [this]
  rw [fm_congr e]
  have h2 : (List.range xs.size).filterMap (fun k => xs[xs.size - 1 - k]?) = ((List.range xs.size).map fun k => xs.size - 1 - k).filterMap (xs[·]?) := by
    rw [List.filterMap_map]
    rfl
  rw [h2, PySem.W.krv_range, List.filterMap_reverse, PySem.W.krv_all]
theorem sliceApplied_rev {sl : Addr} {vl vu vs : Value} {n : Nat} {Q : Int × Int × Nat → Shared → Prop} (hs : s.heap.IsSliceOf sl vl vu vs) (pl : IsPart vl none) (pu : IsPart vu none) (ps : IsPart vs (some (-1)))
    (h : Q ((n : Int) - 1, -1, n) s) : wpAny (model prog w) A (Builtin.Slice.sliceApplied (.ref sl) (pure (n : Int))) Q E s := by
  obtain ⟨os, hos, hcs, hds⟩ := id hs
  unfold Builtin.Slice.sliceApplied Builtin.Slice.sliceFields
  refine wpAny_bind (wpAny_bind (wpAny_field hos hds (x := vl) rfl (wpAny_bind (wpAny_field hos hds (x := vu) rfl (wpAny_bind (wpAny_field hos hds (x := vs) rfl (wpAny_pure ?_)))))))
  refine wpAny_bind (HT.slicePart_ ps ?_)
  show wpAny _ _ (if ((-1 : Int) == 0) = true then _ else _) _ _ s
  rw [if_neg (by decide)]
  refine wpAny_bind (HT.slicePart_ pl (wpAny_bind (HT.slicePart_ pu (wpAny_bind (wpAny_pure ?_)))))
  show wpAny _ _ (match Builtin.Slice.sliceAdjust none none (-1) (n : Int) with | (lo, hi) => pure (lo, (-1 : Int), Builtin.Slice.slicePlaces lo hi (-1))) _ _ s
  rw [adjust_rev n]
  show wpAny _ _ (pure (((n : Int) - 1), (-1 : Int), Builtin.Slice.slicePlaces ((n : Int) - 1) (-1) (-1))) _ _ s
  rw [places_rev]
  exact wpAny_pure h
theorem getItem_tuple_rev {t sl : Addr} {items : Array Value} {vl vu vs : Value} {Q : Value → Shared → Prop} (ht : IsTup s.heap t items) (hs : s.heap.IsSliceOf sl vl vu vs) (pl : IsPart vl none) (pu : IsPart vu none) (ps : IsPart vs (some (-1)))
    (h : Q (.ref s.heap.objs.size) { s with heap := s.heap.push { cls := .type "tuple", data := .seq items.toList.reverse.toArray } })
    (hsz : items.size ≤ sizeLine) : wpAny (model prog w) A (getItem (.ref t) (.ref sl)) Q E s := by
  have htake : sizeOk (.seq items.toList.reverse.toArray) := by
    show items.toList.reverse.toArray.size ≤ sizeLine
    rw [List.size_toArray, List.length_reverse, Array.length_toList]
    exact hsz
  obtain ⟨os, hos, hcs, hds⟩ := id hs
  have hTs : s.TypeIs (.ref sl) "slice" := ⟨os, hos, hcs⟩
  unfold getItem
  try with_reducible refine wpAny_holding ?_
  first | refine wpAny_bind (wpAny_pure ?_) | skip
  refine wpAny_bind (wpAny_sequenceKey ht.typeIs (by decide) ?_)
  refine wpAny_bind (wpAny_callSpecial?_slot (name := Str.ofString "__getitem__") ht.typeIs PyProof.Rows.slot_tuple_getitem
    (wpAny_call_entry PyProof.Rows.slot_tuple_getitem ht.typeIs PyProof.Rows.entry_tuple_getitem ?_ (PyProof.Rows.args_tuple_getitem _ _)))
  show wpAny _ _ (Builtin.Tuple.tupleItemsOf (.ref t) >>= _) _ _ s
  refine wpAny_bind (tupleItemsOf_ ht ?_)
  refine wpAny_bind (wpAny_typeOf hTs ?_)
  rw [if_pos (by decide)]
  refine wpAny_bind (sliceApplied_rev hs pl pu ps ?_)
  have hno : ¬ ((((items.size : Int) - 1) == 0 && (-1 : Int) == 1 && items.size == items.size) = true) := by
    rw [show ((-1 : Int) == 1) = false by decide, Bool.and_false, Bool.false_and]
    exact Bool.false_ne_true
  show wpAny _ _ (if ((((items.size : Int) - 1) == 0 && (-1 : Int) == 1 && items.size == items.size)) = true then _ else _) _ _ s
  rw [if_neg hno, pick_rev]
  first
    | exact wpAny_bind (m := Builtin.Tuple.tupleExact _) (wpAny_newObj_type (wpAny_pure ⟨_, rfl, wpAny_pure h⟩) htake)
    | exact wpAny_bind (m := Builtin.Tuple.tupleExact _) (wpAny_newObj_type (wpAny_bind (wpAny_pure (wpAny_pure ⟨_, rfl, wpAny_pure h⟩))) htake)
    | exact wpAny_bind (wpAny_bind (m := Builtin.Tuple.tupleExact _) (wpAny_newObj_type (wpAny_pure (wpAny_pure ⟨_, rfl, wpAny_pure h⟩)) htake))
    | exact wpAny_bind (wpAny_bind (m := Builtin.Tuple.tupleExact _) (wpAny_newObj_type (wpAny_pure ⟨_, rfl, wpAny_pure h⟩) htake))
end
def tRevT (K : PySem.W.Frag) (te : TE) : TE := fun σ H Q => te σ H fun x H1 => ∃ a xs, x = .ref a ∧ SqT K H1 a xs ∧ ∀ p, H1 p = none → Q (.ref p) (upd H1 p (.tup xs.reverse))
theorem pe_revT {X : Cx} {e : Expr} {te : TE} {k : Nat} {p1 p2 p3 pos : Pos} (he : PE X e te) : PE X (.Subscript e (.Slice none none (some (.UnaryOp .USub (.Constant (.int 1) k p1) p2)) p3) pos) (tRevT X.K te) := by
  refine ⟨fun pins s σ H Q I h => ?_⟩
  refine Subscript_ (thn (he.run pins s σ H _ I h) fun v s1 ⟨x, H1, I1, r1, q1⟩ => ?_)
  obtain ⟨a, xs, ex, hx, q⟩ := q1
  subst ex
  cases r1
  have hst : PO X (some (.UnaryOp .USub (.Constant (.int 1) k p1) p2)) (tPart (tUn (rU fun i => .int (-i)) (tC (.int 1)))) := po_some (pe_un un_neg pe_int)
  refine wpAny_Slice (thn (po_none.run pins s1 σ H1 (fun o H2 => o = none ∧ H2 = H1) I1 ⟨rfl, rfl⟩) fun vl s2 ⟨l, H2, I2, pl, el, e2⟩ => ?_)
  subst el e2
  refine thn (po_none.run pins s2 σ H2 (fun o H3 => o = none ∧ H3 = H2) I2 ⟨rfl, rfl⟩) fun vu s3 ⟨u, H3, I3, pu, eu, e3⟩ => ?_
  subst eu e3
  refine thn (hst.run pins s3 σ H3 (fun o H4 => o = some (-1) ∧ H4 = H3) I3 ⟨1, rfl, -1, rfl, rfl, rfl⟩) fun vs s4 ⟨o, H4, I4, ps, eo, e4⟩ => ?_
  subst eo e4
  have I5 : Inv X pins σ H4 { s4 with heap := s4.heap.push { cls := .type "slice", data := .fields #[vl, vu, vs] } } := I4.kept (t' := s4.toks) fun b ob q => Heap.get?_push_of_some _ q
  obtain ⟨its, r, ht, hz⟩ := I5.tuple hx
  have hlen := r.length
  show wpAny (model X.prog X.w) X.A (subscriptTail e (.Slice none none (some (.UnaryOp .USub (.Constant (.int 1) k p1) p2)) p3) (.ref a) (.ref s4.heap.objs.size)) (EP X pins σ Q) X.xe { s4 with heap := s4.heap.push { cls := .type "slice", data := .fields #[vl, vu, vs] } }
  refine tail_any (ops := [.ref a, .ref s4.heap.objs.size]) ht.typeIs (PyProof.Rows.slot_tuple_getitem.lookup) ?_ (by with_unfolding_all rfl)
  refine getItem_tuple_rev ht (Heap.IsSliceOf.new _ vl vu vs) pl pu ps ?_ (by rw [List.size_toArray]; omega)
  refine ⟨.ref _, _, I5.laid (t' := s4.toks) (o := .tup xs.reverse) (fun b ob q => Heap.get?_push_of_some _ q) (Nat.le_refl _) ?_, rfl, q _ (I5.hok.fresh (Nat.le_refl _))⟩
  exact ⟨by rw [List.length_reverse]; exact hz, its.reverse, r.reverse, IsTup.new _ _⟩
end Mq

namespace Lw
open PySem PySem.Spec PyProof.Rows L2 Mq
open SX (S)
/-! ### the law's own look at a paper -/
def formB (d : PyData) : Bool := match d with
  | .tuple [.str _, .str _] => true
  | _ => false
theorem form_not {fs : List Fd} {sg : List Nat} {x : Nat} {d : PyData} (h : formB d = false) : thingB fs sg x d = false := by
  unfold thingB
  split
  · cases h
  · rfl
theorem form_is {K : PySem.W.Frag} {H : Hp} {v : V} {d : PyData} (hd : Dg K H v d) (h : formB d = true) : ∃ (a : Addr) (k l : Str), v = .ref a ∧ d = .tuple [.str k, .str l] ∧ SqT K H a [.str k, .str l] := by
  unfold formB at h
  split at h
  · rename_i k l
    cases hd with
    | tup h1 h2 =>
      cases h2 with
      | cons h3 h4 =>
        cases h3
        cases h4 with
        | cons h5 h6 =>
          cases h5
          cases h6
          exact ⟨_, k, l, rfl, rfl, h1⟩
  · cases h
def tForm (K : PySem.W.Frag) : TT := fun σ H Q => ∃ (v : V) (d : PyData), σ[2]? = some (some v) ∧ Dg K H v d ∧ Q (!formB d) H
theorem dp_strs {K : PySem.W.Frag} {H : Hp} : ∀ ys : List Str, DpAll K H (ys.map V.str) (ys.map PyData.str)
  | [] => .nil
  | y :: ys => .cons (.str y) (dp_strs ys)
theorem shaped_strs {ys : List Str} (h : ∀ y ∈ ys, (PyData.str y).canLay0 = true) : SeqAt.shaped (.list (ys.map PyData.str)) = true := by
  have key : PyData.canLayAll0 (ys.map PyData.str) = true ∧ PyData.depthAll (ys.map PyData.str) = 0 := by
    induction ys with
    | nil => exact ⟨rfl, rfl⟩
    | cons y ys ih =>
      obtain ⟨a, b⟩ := ih fun m hm => h m (List.mem_cons_of_mem _ hm)
      constructor
      · show ((PyData.str y).canLay0 && PyData.canLayAll0 (ys.map PyData.str)) = true
        rw [h y List.mem_cons_self, a]
        rfl
      · show max 0 (PyData.depthAll (ys.map PyData.str)) = 0
        rw [b]
        rfl
  unfold SeqAt.shaped
  rw [show (PyData.list (ys.map PyData.str)).canLay0 = true from key.1]
  have : (PyData.list (ys.map PyData.str)).depth ≤ 64 := by
    show PyData.depthAll _ + 1 ≤ 64
    rw [key.2]
    decide
  rw [decide_eq_true this]
  rfl
theorem eqv_strs : ∀ xs ys : List Str, PyData.eqv (.list (xs.map PyData.str)) (.list (ys.map PyData.str)) = decide (xs = ys)
  | [], [] => rfl
  | [], _ :: _ => rfl
  | _ :: _, [] => rfl
  | x :: xs, y :: ys => by
    have ih := eqv_strs xs ys
    show (x == y && PyData.eqv (.list (xs.map PyData.str)) (.list (ys.map PyData.str))) = _
    rw [ih]
    rw [Bool.eq_iff_iff]
    simp
/-- signs in order, none of them twice -/
theorem asc_set {lc : List Nat} {l' ys : List Str} (h1 : l'.Nodup) (h2 : ∀ k, k ∈ l' ↔ k ∈ lc.map fun c => S [c]) (hp : ys.Perm l') (hs : PyProof.Rows.sortedS ys = true) : decide ((lc.map fun c => S [c]) = ys) = ascB lc := by
  have hnd : ys.Nodup := hp.nodup_iff.mpr h1
  have hm : ∀ k, k ∈ ys ↔ k ∈ lc.map fun c => S [c] := fun k => (hp.mem_iff).trans (h2 k)
  by_cases ha : ascB lc = true
  · rw [ha]
    refine decide_eq_true ?_
    have ha := asc_pair.mp ha
    have hy : ys = (ys.map fun k => k.cps.toList.headD 0).map fun c => S [c] := by
      rw [List.map_map]
      refine (List.map_id' ys).symm.trans (List.map_congr_left fun k hk => ?_)
      obtain ⟨c, _, rfl⟩ := List.mem_map.mp ((hm k).mp hk)
      rfl
    generalize hq : (ys.map fun k => k.cps.toList.headD 0) = qs at hy
    rw [hy] at hs hnd hm ⊢
    have hqn : qs.Nodup := (List.pairwise_map.mp hnd).imp fun h3 h4 => h3 (by rw [h4])
    have hqp := sorted_pair hs hqn
    have hmm : ∀ c, c ∈ lc ↔ c ∈ qs := by
      intro c
      have e : ∀ l : List Nat, S [c] ∈ l.map (fun c => S [c]) ↔ c ∈ l := by
        intro l
        rw [List.mem_map]
        exact ⟨fun ⟨d, h3, h4⟩ => by rw [S_one.mp h4] at h3; exact h3, fun h3 => ⟨c, h3, rfl⟩⟩
      rw [← e lc, ← e qs, hm (S [c])]
    have hln : lc.Nodup := ha.imp fun h => Nat.ne_of_lt h
    have hpm : lc.Perm qs := (List.perm_ext_iff_of_nodup hln hqn).mpr hmm
    rw [perm_asc (r := fun a b => decide (a < b)) hpm (ha.imp fun h => decide_eq_false (by omega)) (hqp.imp fun h => decide_eq_true h)]
  · have ha' := Bool.eq_false_iff.mpr ha
    rw [ha']
    refine decide_eq_false fun e => ha ?_
    rw [← e] at hs hnd
    have hqn : lc.Nodup := (List.pairwise_map.mp hnd).imp fun h3 h4 => h3 (by rw [h4])
    exact asc_pair.mpr (sorted_pair hs hqn)
theorem tab_val2 (fs : List Fd) (x y : Nat) : (valV (tabF fs) [Sum.inr (S [x]), Sum.inr (S [y])]).getD (.str (Str.ofString "")) = .str (S ((leftM fs x y).getD [])) := by
  have h := tab_val fs x y
  cases e : valV (tabF fs) [Sum.inr (S [x]), Sum.inr (S [y])] with
  | none =>
    rw [e] at h
    cases e2 : leftM fs x y with
    | none => rfl
    | some z => rw [e2] at h; cases h
  | some u =>
    rw [e] at h
    cases e2 : leftM fs x y with
    | none =>
      exfalso
      rw [e2] at h
      have hu : u = V.non := h
      subst hu
      unfold valV tabF at e
      rw [List.find?_map, Option.map_map] at e
      cases e3 : List.find? ((fun kv : List Key × V => decide (kv.1 = [Sum.inr (S [x]), Sum.inr (S [y])])) ∘ fun f : Fd => ([Sum.inr (S [f.x]), Sum.inr (S [f.y])], V.str (S f.z))) fs with
      | none => rw [e3] at e; cases e
      | some f => rw [e3] at e; cases e
    | some z => rw [e2] at h; exact h
def goodB (gs : List Fd) (lc : List Nat) (y c : Nat) : Bool := match leftM gs y c with
  | none => true
  | some [] => false
  | some (d :: _) => decide (d ∈ lc)
theorem stay_not {sg : List Nat} {gs : List Fd} (hg : GsOk sg gs) {lc : List Nat} {x y c : Nat} (hy : y ∈ lc) (h : goodB gs lc y c = false) : stayB gs x lc = false := by
  unfold stayB
  have : (gs.all fun f => !decide (f.x ∈ lc) || zB lc f) = false := by
    rw [Bool.eq_false_iff]
    intro ha
    unfold goodB at h
    cases e : leftM gs y c with
    | none => rw [e] at h; cases h
    | some z =>
      obtain ⟨f, hf, rfl, rfl, rfl⟩ := left_some e
      have h1 := List.all_eq_true.mp ha f hf
      rw [decide_eq_true hy] at h1
      have h2 : zB lc f = true := h1
      unfold zB at h2
      rw [e] at h
      cases hz : f.z with
      | nil => rw [hz] at h2; cases h2
      | cons d z =>
        rw [hz] at h2 h
        have h3 : decide (d ∈ lc) = false := h
        have h4 : decide (d ∈ lc) = true := h2
        rw [h3] at h4
        cases h4
  rw [this, Bool.and_false, Bool.and_false]
theorem stay_yes {sg : List Nat} {gs : List Fd} (hg : GsOk sg gs) {lc : List Nat} {x : Nat} (ha : ascB lc = true) (hx : x ∈ lc) (h : ∀ y ∈ lc, ∀ c ∈ sg, goodB gs lc y c = true) : stayB gs x lc = true := by
  unfold stayB
  rw [ha, decide_eq_true hx, Bool.true_and, Bool.true_and, List.all_eq_true]
  intro f hf
  by_cases hc : f.x ∈ lc
  · rw [decide_eq_true hc]
    have h1 := h f.x hc f.y (hg.ok f hf).2.1
    unfold goodB at h1
    rw [find_mem hg.nd hf] at h1
    unfold zB
    cases hz : f.z with
    | nil => rw [hz] at h1; cases h1
    | cons d z => rw [hz] at h1; exact h1
  · rw [decide_eq_false hc]
    rfl
def tBad (K : PySem.W.Frag) : TT := fun σ H Q => ∃ (gs : List Fd) (lc : List Nat) (y c : Nat) (a : Addr) (k : Str), σ[5]? = some (some (optZ (leftM gs y c))) ∧ (∀ y c z, leftM gs y c = some z → z.length ≤ 1) ∧ σ[2]? = some (some (.ref a)) ∧ SqT K H a [.str k, .str (S lc)] ∧ Q (!goodB gs lc y c) H
def spIsPaper (K : PySem.W.Frag) : Sp := fun vs H Q _ => ∃ (wd ld : Addr) (sg : List Nat) (gs : List Fd) (x : Nat) (v : V) (d : PyData), vs = [.ref wd, .str (S [x]), v] ∧ WAt H wd ld sg gs ∧ GsOk sg gs ∧ SgOk sg ∧ Dg K H v d ∧
  (∀ k l : Str, d = .tuple [.str k, .str l] → l.length ≤ 58 ∧ ∀ c ∈ l.cps.toList, c < 128) ∧ ∀ H', Same H H' → Q (.bl (thingB gs sg x d)) H'
section
variable {P : Program} {w : World} {K : PySem.W.Frag} {mg : Str → Option Value} {base : Heap}
theorem ok_law_paper {f : Addr} {fd : FuncData} (F : Fun K "_law_is_paper" "_law_is_paper" s__law_is_paper f fd) (B : Blt mg) (bS : mg "sorted" = none) (bT : mg "set" = none) : FnOk P w K mg base CX0 2 f fd ["_law_w", "_law_x", "_law_it"] (spIsPaper K) := by
  refine F.ok sc__law_is_paper (fun vs H Q E h => ?_) (fun cdv A outer s H vs Q E hr h => ?_)
  · obtain ⟨_, _, _, _, _, _, _, rfl, _⟩ := h
    rfl
  · obtain ⟨wd, ld, sg, gs, x, v, d, rfl, hw, hgs, hs, hd, hlo, q⟩ := h
    have hu : (A.deeper (envOfC "_law_is_paper" (defScope s__law_is_paper) s.heap.objs.size f cdv)).units + 64 < cLine := by
      have := hr.units
      omega
    have hu1 : (A.deeper (envOfC "_law_is_paper" (defScope s__law_is_paper) s.heap.objs.size f cdv)).units + 1 < cLine := by omega
    refine ⟨_, (pss_cons (ps_if (PT_imp (t' := tForm K) (PW.pt (pw_or (pt_not (pt_val (pe_callB call_isi (by rfl) B.isi (by decide +kernel) (pa_cons (pv 2) (pa_cons (pe_bltn (v := .ty "tuple") (by rfl) B.tuple (by decide +kernel) rfl) pa_nil))))) (pw_or (pt_cmpR op_ne (pe_callB call_len (by rfl) B.len (by decide +kernel) (pa_cons (pv 2) pa_nil)) pe_int (nomark _)) (pw_or (pt_not (pt_val (pe_callB call_isi (by rfl) B.isi (by decide +kernel) (pa_cons (pe_ix ix_tup (pv 2) pe_int (fun _ _ => rfl)) (pa_cons (pe_bltn (v := .ty "str") (by rfl) B.str (by decide +kernel) rfl) pa_nil))))) (pw_or1 (pt_not (pt_val (pe_callB call_isi (by rfl) B.isi (by decide +kernel) (pa_cons (pe_ix ix_tup (pv 2) pe_int (fun _ _ => rfl)) (pa_cons (pe_bltn (v := .ty "str") (by rfl) B.str (by decide +kernel) rfl) pa_nil)))))))))) (fun σ H Q h => by
          obtain ⟨v, d, h2, hd, q⟩ := h
          refine ⟨_, h2, _, .ty "tuple", _, _, _, rfl, .ty _, hd.ty, kit_ty (kit_known _ _ (kind_in d) (by decide)), ?_⟩
          cases hd with
          | @tup a xs ds h3 h4 =>
            refine ⟨_, rfl, ifF rfl ⟨_, h2, _, _, rfl, len_tup h3, rfl, _, rfl, ?_⟩⟩
            cases h4 with
            | nil => exact ifT rfl q
            | @cons v1 vs1 d1 ds1 e1 r1 =>
              cases r1 with
              | nil => 
                refine ifT rfl ?_
                cases d1 <;> exact q
              | @cons v2 vs2 d2 ds2 e2 r2 =>
                cases r2 with
                | cons e3 r3 =>
                  refine ifT (by
                    show (!decide (V.int (((_ :: _ :: _ :: _ : List V).length : Nat) : Int) = V.int 2)) = true
                    rw [decide_eq_false]
                    · rfl
                    · intro z
                      injection z with z
                      simp only [List.length_cons] at z
                      omega) ?_
                  cases d1 <;> first | exact q | (cases d2 <;> exact q)
                | nil =>
                  refine ifF rfl ?_
                  have b0 : atI [v1, v2] 0 = some v1 := atI_nat (j := 0) rfl
                  have b1 : atI [v1, v2] 1 = some v2 := atI_nat (j := 1) rfl
                  refine ⟨_, h2, a, _, 0, _, rfl, rfl, h3, b0, _, .ty "str", _, _, _, rfl, .ty _, e1.ty, kit_ty (kit_known _ _ (kind_in d1) (by decide)), _, rfl, ?_⟩
                  cases e1 with
                  | str k =>
                    refine ifF rfl ⟨_, h2, a, _, 1, _, rfl, rfl, h3, b1, _, .ty "str", _, _, _, rfl, .ty _, e2.ty, kit_ty (kit_known _ _ (kind_in d2) (by decide)), _, rfl, ?_⟩
                    cases e2 <;> exact q
                  | non => exact ifT rfl q
                  | bl b => exact ifT rfl q
                  | int i => exact ifT rfl q
                  | tup _ _ => exact ifT rfl q
                  | lst _ _ _ => exact ifT rfl q
                  | dct _ _ => exact ifT rfl q
          | non => exact ⟨_, rfl, ifT rfl q⟩
          | bl b => exact ⟨_, rfl, ifT rfl q⟩
          | int i => exact ⟨_, rfl, ifT rfl q⟩
          | str x => exact ⟨_, rfl, ifT rfl q⟩
          | lst _ _ _ => exact ⟨_, rfl, ifT rfl q⟩
          | dct _ _ => exact ⟨_, rfl, ifT rfl q⟩)) (pss_one (ps_ret pe_bl)) pss_nil)
    (pss_cons (ps_if (PW.pt (pw_or (pt_cmpR op_eq (pe_ix ix_tup (pv 2) pe_int (fun _ _ => rfl)) pe_str (nomark _)) (pw_or1 (pt_cmpR (op_neD hu) (pe_lc (own := [("_law_y", 3)]) (g := gName 3) rfl sc__law_is_paper.nd (pi_str (pe_ix ix_tup (pv 2) pe_int (fun _ _ => rfl))) (blkOk_by (own := [("_law_y", 3)]) (N := ["_law_w", "_law_x", "_law_it", "_law_y", "_law_c", "_law_left"]) (sc := defScope s__law_is_paper) (by decide +kernel)) (fun _ _ _ _ _ => pg_name (i := 3) sc__law_is_paper.nd rfl (Or.inl rfl)) (fun _ _ _ _ _ => pts_one (pt_cmpR op_notIn_sign (pv 3) (pe_dget hu1 (pv 0) pe_str (fun _ _ => rfl)) rfl)) (fun _ _ _ _ _ => (pv 3))) (Mq.pe_ls pa_nil) (nomark _))))) (pss_one (ps_ret pe_bl)) pss_nil)
    (pss_cons (ps_if (pt_cmpR op_eq (pe_ix ix_tup (pv 2) pe_int (fun _ _ => rfl)) pe_str (nomark _)) (pss_cons (ps_for PassesOwn.never rfl (pi_str (pe_slice C8.sl_txt (pe_ix ix_tup (pv 2) pe_int (fun _ _ => rfl)) po_none (po_some (pe_un un_neg pe_int)))) (pg_name (i := 3) sc__law_is_paper.nd rfl (Or.inl rfl))
        (pss_cons (ps_set (i := 1) sc__law_is_paper.nd rfl (Or.inl rfl) (pe_dget2 hu1 (pe_dget hu1 (pv 0) pe_str (fun _ _ => rfl)) (pe_tup (pa_cons (pv 1) (pa_cons (pv 3) pa_nil))) pe_str ⟨rfl, rfl, rfl, rfl⟩))
        (pss_one (ps_if (pt_cmpR op_eq (pv 1) pe_str (nomark _)) (pss_one (ps_ret pe_bl)) pss_nil))))
      (pss_one (ps_ret (pe_cmpR op_eq (pe_dget1 hu1 (pe_dget hu1 (pv 0) pe_str (fun _ _ => rfl)) (pe_tup (pa_cons (pv 1) (pa_cons (pe_ix ix_str (pe_ix ix_tup (pv 2) pe_int (fun _ _ => rfl)) (pe_un un_neg pe_int) (fun _ _ => rfl)) pa_nil))) ⟨rfl, rfl, rfl, rfl⟩) pe_str (nomark _))))) pss_nil)
    (pss_cons (ps_if (PW.pt (pw_or (pt_cmpR op_ne (pe_ix ix_tup (pv 2) pe_int (fun _ _ => rfl)) pe_str (nomark _)) (pw_or (pt_cmpR op_notIn_sign (pv 1) (pe_ix ix_tup (pv 2) pe_int (fun _ _ => rfl)) rfl) (pw_or1 (pt_cmpR (op_neD hu) (pe_callTy (call_listTx rfl) (by rfl) B.list (by decide +kernel) (pa_cons (pe_ix ix_tup (pv 2) pe_int (fun _ _ => rfl)) pa_nil)) (pe_callB (cr_sortTx rfl) (by rfl) bS (by decide +kernel) (pa_cons (pe_callTy (cr_setTx rfl) (by rfl) bT (by decide +kernel) (pa_cons (pe_ix ix_tup (pv 2) pe_int (fun _ _ => rfl)) pa_nil)) pa_nil)) (nomark _)))))) (pss_one (ps_ret pe_bl)) pss_nil)
    (pss_cons (ps_for PassesOwn.never rfl (pi_str (pe_ix ix_tup (pv 2) pe_int (fun _ _ => rfl))) (pg_name (i := 3) sc__law_is_paper.nd rfl (Or.inl rfl))
      (pss_one (ps_for PassesOwn.never rfl (pi_str (pe_dget hu1 (pv 0) pe_str (fun _ _ => rfl))) (pg_name (i := 4) sc__law_is_paper.nd rfl (Or.inl rfl))
        (pss_cons (ps_set (i := 5) sc__law_is_paper.nd rfl (Or.inl rfl) (pe_dget1 hu1 (pe_dget hu1 (pv 0) pe_str (fun _ _ => rfl)) (pe_tup (pa_cons (pv 3) (pa_cons (pv 4) pa_nil))) ⟨rfl, rfl, rfl, rfl⟩))
        (pss_one (ps_if (PT_imp (t' := tBad K) (PW.pt (pw_and (pt_cmpR op_notN (pv 5) pe_non (nomark _)) (pw_and1 (PW.pt (pw_or (pt_cmpR op_eq (pv 5) pe_str (nomark _)) (pw_or1 (pt_cmpR op_notIn_sign (pv 5) (pe_ix ix_tup (pv 2) pe_int (fun _ _ => rfl)) rfl))))))) (fun σ H Q h => by
          obtain ⟨gs, lc, y, c, a, k, h5, hz, h2, ha, q⟩ := h
          have a1 : atI [V.str k, V.str (S lc)] 1 = some (.str (S lc)) := atI_nat (j := 1) rfl
          unfold goodB at q
          cases e : leftM gs y c with
          | none =>
            rw [e] at h5 q
            exact ⟨_, h5, rfl, _, rfl, ifF rfl q⟩
          | some z =>
            have hz1 := hz y c z e
            rw [e] at h5 q
            refine ⟨_, h5, rfl, _, rfl, ifT rfl ⟨_, h5, rfl, _, rfl, ?_⟩⟩
            rw [show decide (optZ (some z) = V.str (Str.ofString "")) = decide (z = []) from z_nil z]
            match z, hz1 with
            | [], _ => exact ifT rfl q
            | [d], _ => exact ifF rfl ⟨_, h5, _, h2, a, _, 1, _, rfl, rfl, ha, a1, d, S lc, rfl, rfl, _, rfl, q⟩)) (pss_one (ps_ret pe_bl)) pss_nil))))))
    (pss_one (ps_ret pe_bl))))))), ?_⟩
    refine ⟨v, d, rfl, hd, ?_⟩
    by_cases hf : formB d = true
    rotate_left
    · have hf := Bool.eq_false_iff.mpr hf
      rw [hf]
      refine ifT rfl ?_
      have q1 := q H (Same.refl H)
      rw [form_not hf] at q1
      exact q1
    rw [hf]
    refine ifF rfl ?_
    obtain ⟨a, k, l, rfl, rfl, ha⟩ := form_is hd hf
    obtain ⟨hlen, hlow⟩ := hlo k l rfl
    have hll : l.cps.toList.length ≤ 58 := by
      rw [Array.length_toList]
      exact hlen
    have hS : S l.cps.toList = l := rfl
    generalize l.cps.toList = lc at hlow hll hS
    subst hS
    have a0 : atI [V.str k, V.str (S lc)] 0 = some (.str k) := atI_nat (j := 0) rfl
    have a1 : atI [V.str k, V.str (S lc)] 1 = some (.str (S lc)) := atI_nat (j := 1) rfl
    have hlz : (S lc).length ≤ sizeLine := by
      rw [SX.S_len]
      exact sz_le (by omega)
    have eT : thingB gs sg x (.tuple [.str k, .str (S lc)]) = (if k = "goes" then allB lc sg && goesB gs x lc else if k = "stays" then allB lc sg && stayB gs x lc else false) := rfl
    refine ⟨_, rfl, a, _, 1, _, rfl, rfl, ha, a1, rfl, _, rfl, ?_⟩
    rw [z_nil]
    by_cases hn : lc = []
    · rw [decide_eq_true hn]
      refine ifT rfl (ifT rfl ?_)
      have q1 := q H (Same.refl H)
      have e0 : thingB gs sg x (.tuple [.str k, .str (S lc)]) = false := by
        rw [eT, hn]
        have g : goesB gs x [] = false := rfl
        have t : stayB gs x [] = false := by
          unfold stayB
          rw [decide_eq_false (fun h => by cases h), Bool.false_and, Bool.and_false]
        rw [g, t, Bool.and_false]
        split
        · rfl
        · split <;> rfl
      rw [e0] at q1
      exact q1
    rw [decide_eq_false hn]
    refine ifF rfl ?_
    refine ⟨_, rfl, a, _, 1, _, rfl, rfl, ha, a1, S lc, rfl, fun L hL => ?_⟩
    refine lc_it (walk_S lc) (fun i H' => Same H H' ∧ H' L = some (.lst ((((List.range i).filter fun k => !inB (lc.getD k 0) sg)).map fun k => .str (S [lc.getD k 0])))) ⟨same_new hL, upd_same⟩ (fun _ _ _ _ => trivial) ?_ ?_
    · rintro i y H2 H3 hi ⟨s2, hL2⟩ ⟨rfl, rfl⟩
      have hw3 := hw.same s2
      refine ⟨rfl, .str (S [lc.getD i 0]), rfl, _, rfl, wd, _, rfl, DGet.k (k := .inr "letters") hw3.w, lc.getD i 0, S sg, rfl, rfl, ?_⟩
      have er : ((List.range (i + 1)).filter fun k => !inB (lc.getD k 0) sg) = ((List.range i).filter fun k => !inB (lc.getD k 0) sg) ++ (if (!inB (lc.getD i 0) sg) = true then [i] else []) := by
        rw [List.range_succ, List.filter_append]
        congr 1
        by_cases hb : (!inB (lc.getD i 0) sg) = true
        · rw [if_pos hb]
          show List.filter _ [i] = [i]
          rw [List.filter_cons, if_pos hb]
          rfl
        · rw [if_neg hb, List.filter_cons, if_neg hb]
          rfl
      have hlen : ((List.range i).filter fun k => !inB (lc.getD k 0) sg).length ≤ i := by
        have := List.length_filter_le (fun k => !inB (lc.getD k 0) sg) (List.range i)
        rw [List.length_range] at this
        exact this
      by_cases hb : (!inB (lc.getD i 0) sg) = true
      · rw [if_pos hb] at er
        refine ⟨_, rfl, ifT hb ?_⟩
        refine ⟨_, rfl, _, hL2, sz_lt (by rw [List.length_map]; omega), ?_, ?_⟩
        · intro b o e
          rw [upd_ne (ne_of_none e hL)]
          exact s2 b o e
        · rw [upd_same, er, List.map_append]
          rfl
      · rw [if_neg hb, List.append_nil] at er
        refine ⟨_, rfl, ifF (Bool.eq_false_iff.mpr hb) ?_⟩
        refine ⟨s2, ?_⟩
        rw [er]
        exact hL2
    rintro H2 ⟨s2, hL2⟩
    refine ⟨sz_le (n := 0) (by decide), fun p hp _ => ?_⟩
    have sp := same_new (o := HO.lst []) hp
    refine ⟨_, _, .lst (SqL.of (sp _ _ hL2)) (dp_signs (fun k => S [lc.getD k 0]) _), .lst (SqL.of upd_same) .nil, shaped_signs _ _ ?_, by decide +kernel, ?_⟩
    · intro k hk
      have hk' := List.mem_range.mp (List.mem_filter.mp hk).1
      refine sign_ok (Nat.lt_trans (hlow _ ?_) (by decide))
      rw [List.getD_eq_getElem?_getD, List.getElem?_eq_getElem hk']
      exact List.getElem_mem hk'
    rw [eqv_nil]
    have eAll : (((List.range lc.length).filter fun k => !inB (lc.getD k 0) sg)).isEmpty = allB lc sg := (all_filter lc.length fun k => inB (lc.getD k 0) sg).symm
    rw [eAll]
    have s3 : Same H (upd H2 p (.lst [])) := s2.trans sp
    generalize upd H2 p (.lst []) = H3 at s3 ⊢
    refine ⟨_, rfl, ?_⟩
    by_cases hab : allB lc sg = true
    rotate_left
    · have hab := Bool.eq_false_iff.mpr hab
      rw [hab]
      refine ifT rfl ?_
      have q1 := q H3 s3
      have e0 : thingB gs sg x (.tuple [.str k, .str (S lc)]) = false := by
        rw [eT, hab, Bool.false_and, Bool.false_and]
        split
        · rfl
        · split <;> rfl
      rw [e0] at q1
      exact q1
    rw [hab]
    refine ifF rfl ?_
    rw [hab, Bool.true_and, Bool.true_and] at eT
    have ha3 := Same.tup s3 ha
    have hw3 := hw.same s3
    have zi := zin_gs hgs
    refine ⟨_, rfl, a, _, 0, _, rfl, rfl, ha3, a0, rfl, _, rfl, ?_⟩
    have ek : ∀ c : Str, decide (V.str k = V.str c) = decide (k = c) := fun c => decide_eq_decide.mpr ⟨fun h => by injection h, fun h => by rw [h]⟩
    by_cases hk1 : k = "goes"
    · subst hk1
      rw [if_pos rfl] at eT
      rw [ek, decide_eq_true rfl]
      refine ifT rfl ?_
      obtain ⟨u, z, hu⟩ : ∃ u z, lc = u ++ [z] := ⟨lc.dropLast, lc.getLast hn, (List.dropLast_concat_getLast hn).symm⟩
      have hul : u.length + 1 = lc.length := by
        rw [hu, List.length_append]
        rfl
      refine ⟨_, rfl, a, _, 1, _, rfl, rfl, ha3, a1, _, rfl, _, rfl, S lc, rfl, hlz, _, rfl, ?_⟩
      rw [show Txt.slice (S lc) none (some (-1)) = S u by rw [hu]; exact SX.butlast_snoc u z]
      refine for_it (walk_S u) (fun i σ H' => Same H H' ∧ ∃ (c : Nat) (o3 : Option V), rowM gs [x] lc = rowM gs [c] (lc.drop i) ∧ σ = [some (.ref wd), some (.str (S [c])), some (.ref a), o3, none, none]) ⟨s3, x, none, rfl, rfl⟩ (fun _ _ _ _ _ => trivial) ?_ ?_
      · rintro i y σ H4 H4' hi ⟨s4, c, o3, hr1, rfl⟩ ⟨rfl, rfl⟩
        have hil : i < lc.length := by omega
        have ed : lc.drop i = u.getD i 0 :: lc.drop (i + 1) := by
          rw [List.drop_eq_getElem_cons hil, List.getD_eq_getElem?_getD, List.getElem?_eq_getElem hi]
          congr 1
          subst hu
          exact List.getElem_append_left hi
        have hne : ∃ b bs, lc.drop (i + 1) = b :: bs := by
          cases e : lc.drop (i + 1) with
          | nil =>
            have := congrArg List.length e
            rw [List.length_drop] at this
            have h0 : ([] : List Nat).length = 0 := rfl
            omega
          | cons b bs => exact ⟨b, bs, rfl⟩
        rw [ed] at hr1
        have hw4 := hw.same s4
        refine ⟨_, rfl, wd, _, rfl, DGet.k (k := .inr "left") hw4.w, ld, rfl, Or.inr ⟨_, .inl hw4.l⟩, _, rfl, _, rfl, sz_le (n := 2) (by decide), fun pt hpt => ?_⟩
        have sA := same_new (o := HO.tup [V.str (S [c]), V.str (S [u.getD i 0])]) hpt
        refine ⟨_, DGet.t (k := [Sum.inr (S [c]), Sum.inr (S [u.getD i 0])]) (sA _ _ hw4.l) upd_same, ?_⟩
        rw [tab_val2]
        have s4A := s4.trans sA
        generalize upd H4' pt (.tup [V.str (S [c]), V.str (S [u.getD i 0])]) = HA at s4A ⊢
        refine ⟨_, rfl, rfl, _, rfl, ?_⟩
        rw [z_nil]
        have dead : rowM gs [x] lc ≠ some [] → (Q (V.bl false) HA) := by
          intro h
          have q1 := q HA s4A
          rw [eT] at q1
          rw [show goesB gs x lc = false from decide_eq_false h] at q1
          exact q1
        cases el : leftM gs c (u.getD i 0) with
        | none =>
          refine ifT rfl ?_
          refine dead ?_
          rw [hr1]
          show (match leftM gs c (u.getD i 0) with | none => none | some z => rowM gs z (lc.drop (i + 1))) ≠ _
          rw [el]
          exact fun h => by cases h
        | some w2 =>
          rcases zi _ _ _ el with rfl | ⟨d, _, rfl⟩
          · refine ifT rfl ?_
            refine dead ?_
            rw [hr1]
            show (match leftM gs c (u.getD i 0) with | none => none | some z => rowM gs z (lc.drop (i + 1))) ≠ _
            rw [el]
            obtain ⟨b, bs, e⟩ := hne
            rw [e]
            exact fun h => by cases h
          · refine ifF rfl ⟨s4A, d, _, ?_, rfl⟩
            rw [hr1]
            show (match leftM gs c (u.getD i 0) with | none => none | some z => rowM gs z (lc.drop (i + 1))) = _
            rw [el]
      · rintro σ H4 ⟨s4, c, o3, hr1, rfl⟩
        have hw4 := hw.same s4
        have edl : lc.drop u.length = [z] := by
          rw [hu, List.drop_left]
        rw [edl] at hr1
        have hr2 : rowM gs [c] [z] = leftM gs c z := rowM_snoc (row := []) (z := [c]) rfl
        refine ⟨_, rfl, wd, _, rfl, DGet.k (k := .inr "left") hw4.w, ld, rfl, Or.inr ⟨_, .inl hw4.l⟩, _, rfl, _, rfl, a, _, 1, _, rfl, rfl, Same.tup s4 ha, a1, ?_⟩
        refine ⟨_, rfl, S lc, -1, z, rfl, rfl, hlz, by rw [hu]; exact atI_last u z, sz_le (n := 2) (by decide), fun pt hpt => ?_⟩
        have sA := same_new (o := HO.tup [V.str (S [c]), V.str (S [z])]) hpt
        refine ⟨_, DGet.t (k := [Sum.inr (S [c]), Sum.inr (S [z])]) (sA _ _ hw4.l) upd_same, ?_⟩
        rw [tab_val]
        have q1 := q _ (s4.trans sA)
        rw [eT] at q1
        rw [show goesB gs x lc = decide (leftM gs c z = some []) by unfold goesB; rw [hr1, hr2]] at q1
        refine ⟨?_, ?_⟩
        · cases leftM gs c z <;> rfl
        · rw [opt_nil]
          exact q1
    · rw [if_neg hk1] at eT
      rw [ek, decide_eq_false hk1]
      refine ifF rfl ?_
      refine ⟨_, rfl, a, _, 0, _, rfl, rfl, ha3, a0, rfl, _, rfl, ?_⟩
      rw [ek]
      by_cases hk2 : k = "stays"
      rotate_left
      · rw [if_neg hk2] at eT
        rw [decide_eq_false hk2]
        refine ifT rfl (ifT rfl ?_)
        have q1 := q H3 s3
        rw [eT] at q1
        exact q1
      rw [if_pos hk2] at eT
      rw [decide_eq_true hk2]
      refine ifF rfl ?_
      refine ⟨_, rfl, _, rfl, a, _, 1, _, rfl, rfl, ha3, a1, x, S lc, rfl, rfl, _, rfl, ?_⟩
      by_cases hx : x ∈ lc
      rotate_left
      · rw [show decide (x ∈ (S lc).cps.toList) = false from decide_eq_false hx]
        refine ifT rfl (ifT rfl ?_)
        have q1 := q H3 s3
        rw [eT, show stayB gs x lc = false by unfold stayB; rw [decide_eq_false hx, Bool.false_and, Bool.and_false]] at q1
        exact q1
      rw [show decide (x ∈ (S lc).cps.toList) = true from decide_eq_true hx]
      refine ifF rfl ?_
      refine ⟨_, rfl, a, _, 1, _, rfl, rfl, ha3, a1, S lc, rfl, hlz, fun pl hpl _ => ?_⟩
      have sl := same_new (o := HO.lst ((S lc).cps.toList.map fun c => V.str ⟨#[c]⟩)) hpl
      have s4 := s3.trans sl
      have hpl4 : upd H3 pl (.lst ((S lc).cps.toList.map fun c => V.str ⟨#[c]⟩)) pl = some (.lst ((lc.map fun c => S [c]).map V.str)) := by
        rw [upd_same, List.map_map]
        rfl
      generalize upd H3 pl (.lst ((S lc).cps.toList.map fun c => V.str ⟨#[c]⟩)) = H4 at s4 hpl4 ⊢
      refine ⟨_, rfl, a, _, 1, _, rfl, rfl, Same.tup s4 ha, a1, S lc, rfl, ?_, fun ps l' hps hnd hls hms => ?_⟩
      · show (S lc).length + 1 < 4096
        rw [SX.S_len]
        omega
      have s5 := s4.trans (same_new (o := TxO P w ps l') hps)
      have hpl5 := same_new (o := TxO P w ps l') hps _ _ hpl4
      have hls2 : l'.length ≤ 60 := by
        have : (S lc).cps.size = lc.length := SX.S_len lc
        omega
      refine ⟨ps, l', rfl, upd_same, by omega, fun ys p6 hys hso hp6 => ?_⟩
      have s6 := s5.trans (same_new (o := HO.lst (ys.map V.str)) hp6)
      have hpl6 := same_new (o := HO.lst (ys.map V.str)) hp6 _ _ hpl5
      have hysm : ∀ k ∈ ys, k ∈ lc.map fun c => S [c] := fun k hk => (hms k).mp (hys.mem_iff.mp hk)
      have lay : ∀ y ∈ lc.map (fun c => S [c]), (PyData.str y).canLay0 = true := by
        intro y hy
        obtain ⟨c, hc, rfl⟩ := List.mem_map.mp hy
        exact sign_ok (Nat.lt_trans (hlow c hc) (by decide))
      refine ⟨_, _, .lst (SqL.of hpl6) (dp_strs _), .lst (SqL.of upd_same) (dp_strs ys), shaped_strs lay, shaped_strs (fun y hy => lay y (hysm y hy)), ?_⟩
      rw [eqv_strs, asc_set hnd hms hys hso]
      refine ⟨_, rfl, ?_⟩
      by_cases hasc : ascB lc = true
      rotate_left
      · have hasc := Bool.eq_false_iff.mpr hasc
        rw [hasc]
        refine ifT rfl ?_
        have q1 := q _ s6
        rw [eT, show stayB gs x lc = false by unfold stayB; rw [hasc]; rfl] at q1
        exact q1
      rw [hasc]
      refine ifF rfl ?_
      have ha6 := Same.tup s6 ha
      have zl : ∀ y c z, leftM gs y c = some z → z.length ≤ 1 := fun y c z e => by
        rcases zi _ _ _ e with rfl | ⟨d, _, rfl⟩
        · exact Nat.zero_le 1
        · exact Nat.le_refl 1
      refine ⟨_, rfl, a, _, 1, _, rfl, rfl, ha6, a1, S lc, rfl, ?_⟩
      refine for_it (walk_S lc) (fun i σ H' => Same H H' ∧ (∀ j, j < i → ∀ c ∈ sg, goodB gs lc (lc.getD j 0) c = true) ∧ ∃ (o3 o4 o5 : Option V), σ = [some (.ref wd), some (.str (S [x])), some (.ref a), o3, o4, o5]) ⟨s6, (fun j hj => absurd hj (Nat.not_lt_zero j)), none, none, none, rfl⟩ (fun _ _ _ _ _ => trivial) ?_ ?_
      · rintro i y σ H7 H7' hi ⟨s7, hg7, o3, o4, o5, rfl⟩ ⟨rfl, rfl⟩
        have hyl : lc.getD i 0 ∈ lc := by
          rw [List.getD_eq_getElem?_getD, List.getElem?_eq_getElem hi]
          exact List.getElem_mem hi
        refine ⟨_, rfl, wd, _, rfl, DGet.k (k := .inr "letters") (hw.same s7).w, S sg, rfl, ?_⟩
        refine for_it (walk_S sg) (fun j σ H' => Same H H' ∧ (∀ j', j' < j → goodB gs lc (lc.getD i 0) (sg.getD j' 0) = true) ∧ ∃ (o4 o5 : Option V), σ = [some (.ref wd), some (.str (S [x])), some (.ref a), some (.str (S [lc.getD i 0])), o4, o5]) ⟨s7, (fun j hj => absurd hj (Nat.not_lt_zero j)), _, _, rfl⟩ (fun _ _ _ _ _ => trivial) ?_ ?_
        · rintro j c σ H8 H8' hj ⟨s8, hg8, o4, o5, rfl⟩ ⟨rfl, rfl⟩
          have hw8 := hw.same s8
          refine ⟨_, rfl, wd, _, rfl, DGet.k (k := .inr "left") hw8.w, ld, rfl, Or.inr ⟨_, .inl hw8.l⟩, _, rfl, _, rfl, sz_le (n := 2) (by decide), fun pt hpt => ?_⟩
          have sA := same_new (o := HO.tup [V.str (S [lc.getD i 0]), V.str (S [sg.getD j 0])]) hpt
          refine ⟨_, DGet.t (k := [Sum.inr (S [lc.getD i 0]), Sum.inr (S [sg.getD j 0])]) (sA _ _ hw8.l) upd_same, ?_⟩
          rw [tab_val]
          have s8A := s8.trans sA
          generalize upd H8' pt (.tup [V.str (S [lc.getD i 0]), V.str (S [sg.getD j 0])]) = HA at s8A ⊢
          refine ⟨gs, lc, lc.getD i 0, sg.getD j 0, a, k, rfl, zl, rfl, Same.tup s8A ha, ?_⟩
          cases hgd : goodB gs lc (lc.getD i 0) (sg.getD j 0) with
          | false =>
            refine ifT rfl ?_
            have q1 := q HA s8A
            rw [eT, stay_not hgs hyl hgd] at q1
            exact q1
          | true =>
            refine ifF rfl ⟨s8A, fun j' hj' => ?_, _, _, rfl⟩
            by_cases e : j' = j
            · rw [e]
              exact hgd
            · exact hg8 j' (by omega)
        · rintro σ H8 ⟨s8, hg8, o4, o5, rfl⟩
          refine ⟨s8, fun j hj c hc => ?_, _, _, _, rfl⟩
          by_cases e : j = i
          · rw [e]
            obtain ⟨j2, hj2, rfl⟩ := List.getElem_of_mem hc
            have := hg8 j2 hj2
            rw [List.getD_eq_getElem?_getD (l := sg), List.getElem?_eq_getElem hj2] at this
            exact this
          · exact hg7 j (by omega) c hc
      · rintro σ H7 ⟨s7, hg7, o3, o4, o5, rfl⟩
        have q1 := q H7 s7
        rw [eT, stay_yes hgs hasc hx (fun y hy c hc => by
          obtain ⟨j, hj, rfl⟩ := List.getElem_of_mem hy
          have := hg7 j hj c hc
          rw [List.getD_eq_getElem?_getD, List.getElem?_eq_getElem hj] at this
          exact this)] at q1
        exact q1
end
end Lw

namespace Mq
open PySem PySem.Spec PyProof.Rows L2
open SX (S)
/-! ### tuples cut and joined: what stands in the end -/
def NewT (K : PySem.W.Frag) (xs : List V) (H : Hp) (Q : VK) : Prop := ∀ p H', Same H H' → SqT K H' p xs → Q (.ref p) H'
theorem NewT.put {K : PySem.W.Frag} {xs : List V} {H : Hp} {Q : VK} (q : NewT K xs H Q) {p : Addr} (hp : H p = none) : Q (.ref p) (upd H p (.tup xs)) := q p _ (same_new hp) (Or.inl (Or.inl upd_same))
def rSlN (K : PySem.W.Frag) : V → Option Int → Option Int → Hp → VK → Prop := fun x lo hi H Q => ∃ a xs, x = .ref a ∧ SqT K H a xs ∧ NewT K (cutV xs lo hi) H Q
section
variable {X : Cx}
theorem sl_tupN : SlR X (rSlN X.K) := by
  intro pins s σ H x v vl vu lo hi sl Q I rx hs pl pu h
  obtain ⟨a, xs, ex, hx, q⟩ := h
  refine sl_tupA pins s σ H x v vl vu lo hi sl Q I rx hs pl pu ⟨a, xs, ex, hx, fun h => q a H (Same.refl H) ?_, fun _ p hp => q.put hp⟩
  have : cutV xs lo hi = xs := by
    unfold cutV
    rw [h.1, h.2, Nat.sub_zero, List.drop_zero, List.take_length]
  rw [this]
  exact hx
def rCatN (K : PySem.W.Frag) : R2 := fun x y H Q => ∃ a b xs ys, x = .ref a ∧ y = .ref b ∧ SqT K H a xs ∧ SqT K H b ys ∧ xs.length + ys.length ≤ sizeLine ∧ NewT K (xs ++ ys) H Q
theorem op_catN : OpR X (binaryOp .Add) (rCatN X.K) := by
  intro pins s σ H x y v u Q I rx ry h
  obtain ⟨a, b, xs, ys, ex, ey, hx, hy, hz, q⟩ := h
  refine op_catA pins s σ H x y v u Q I rx ry ⟨a, b, xs, ys, ex, ey, hx, hy, hz, fun e => q b H (Same.refl H) ?_, fun _ e => q a H (Same.refl H) ?_, fun _ _ p hp => q.put hp⟩
  · subst e
    exact hy
  · subst e
    rw [List.append_nil]
    exact hx
/-! ### twice a text -/
theorem op_2S : OpR X (binaryOp .Mult) (fun x y H Q => ∃ z : List Nat, x = .int 2 ∧ y = .str (S z) ∧ z.length ≤ 1000 ∧ Q (.str (S (z ++ z))) H) := by
  intro pins s σ H x y v u Q I rx ry h
  obtain ⟨z, rfl, rfl, hz, q⟩ := h
  obtain ⟨t, rfl⟩ := rx
  obtain ⟨t', rfl⟩ := ry
  have hl : (S z).length = z.length := SX.S_len z
  refine lm_binaryOp_repeat_right (T := "str") (U := "int") (by decide) (fun s' => typeIs_int s' 2 t) (typeIs_str s (S z) t') F.fills_int_mul noFill_str_mul F.slot_int_mul lm_noRepeat_int repeat_str F.slot_int_index.lookup
    (call_gives F.slot_int_mul (typeIs_int s 2 t) F.entry_int_mul (F.args_int_mul_2 _ _) (AutoIntG3.int___mul___int_str_0 2 t (S z) t')
      ⟨rfl, typeIs_str _ _ _, call_gives F.slot_str_mul (typeIs_str _ (S z) t') F.entry_str_mul (F.args_str_mul_2 _ _) (gives_str_mul (S z) 2 t' t (by decide) (fun _ _ => ?_) (fun _ _ => ?_)) ?_⟩)
  · rw [hl]
    have : (1000 : Int) ≤ (2 ^ 63 - 1) / 2 := by decide
    omega
  · rw [hl]
    unfold Builtin.Str.tooLong
    exact decide_eq_false (by
      have : (1000 * 2 : Nat) ≤ sizeLine := by decide
      show ¬ (z.length * 2 > sizeLine)
      omega)
  · rw [if_neg (by decide)]
    cases z with
    | nil => exact ⟨.str (S []), H, I, ⟨_, rfl⟩, q⟩
    | cons c z =>
      rw [show (((2 : Int) == 1) || ((S (c :: z)).length == 0)) = false by rw [hl]; rfl, if_neg Bool.false_ne_true]
      have e : (⟨(List.replicate (2 : Int).toNat (S (c :: z)).cps).foldl (· ++ ·) #[]⟩ : Str) = S ((c :: z) ++ (c :: z)) := by
        show (⟨(#[] ++ (c :: z).toArray) ++ (c :: z).toArray⟩ : Str) = ⟨((c :: z) ++ (c :: z)).toArray⟩
        simp
      rw [e]
      refine ⟨?_, .str (S ((c :: z) ++ (c :: z))), H, I.tok _, ⟨_, rfl⟩, q⟩
      show (S ((c :: z) ++ (c :: z))).length ≤ sizeLine
      rw [SX.S_len, List.length_append]
      have : (2000 : Nat) ≤ sizeLine := by decide
      omega
end
end Mq

namespace Lw
open PySem PySem.Spec PyProof.Rows L2 Mq
open SX (S)
/-! ### other values in the place of one -/
def LowL (l : List Nat) : Prop := ∀ c ∈ l, c < 128
def twoB (d : PyData) : Bool := match d with
  | .tuple [.str _, .str l] => decide (l.length ≤ 58) && l.cps.toList.all fun c => decide (c < 128)
  | .str l => decide (l.length ≤ 58) && l.cps.toList.all fun c => decide (c < 128)
  | _ => true
structure OutOk (w n : Nat) (d : PyData) : Prop where
  gs : Gs w n d
  lo : twoB d = true
theorem OutOk.two {w n : Nat} {d : PyData} (h : OutOk w n d) : ∀ k l : Str, d = .tuple [.str k, .str l] → l.length ≤ 58 ∧ ∀ c ∈ l.cps.toList, c < 128 := by
  rintro k l rfl
  obtain ⟨a, b⟩ := Bool.and_eq_true_iff.mp (show (decide (l.length ≤ 58) && l.cps.toList.all fun c => decide (c < 128)) = true from h.lo)
  exact ⟨of_decide_eq_true a, fun c hc => of_decide_eq_true (List.all_eq_true.mp b c hc)⟩
theorem OutOk.mono {w n w' n' : Nat} {d : PyData} (h : OutOk w n d) (hw : w ≤ w') (hn : n ≤ n') : OutOk w' n' d := ⟨h.gs.mono hw hn, h.lo⟩
def outB (w n : Nat) (d : PyData) : Bool := gsB w n d && twoB d
theorem out_of {w n : Nat} {d : PyData} (h : outB w n d = true) : OutOk w n d := by
  obtain ⟨a, b⟩ := Bool.and_eq_true_iff.mp h
  exact ⟨gs_of a, b⟩
def OdV (K : PySem.W.Frag) (N : Addr → Prop) (w n : Nat) (H : Hp) (v : V) : Prop := ∃ d, Dv K N H v d ∧ OutOk w n d
section
variable {K : PySem.W.Frag} {N : Addr → Prop} {H H' : Hp} {w n : Nat}
theorem OdV.same {v : V} (h : OdV K N w n H v) (e : Same H H') : OdV K N w n H' v := let ⟨d, a, b⟩ := h; ⟨d, a.same e, b⟩
theorem OdV.off {D C : Addr} {T : Nat} {v : V} (h : OdV K N w n H v) (hN : ∀ a, N a → a ≠ D ∧ a ≠ C) (e : Off D C H H') (k : DeckAt D C T H) : OdV K N w n H' v :=
  let ⟨d, a, b⟩ := h; ⟨d, a.kp (fun x o hx z => e x o (hN x hx).1 (hN x hx).2 z) (fun _ _ z => e.tup k z), b⟩
theorem OdV.mono {N' : Addr → Prop} {w' n' : Nat} {v : V} (h : OdV K N w n H v) (e : ∀ a, N a → N' a) (hw : w ≤ w') (hn : n ≤ n') : OdV K N' w' n' H v := let ⟨d, a, b⟩ := h; ⟨d, a.mono e, b.mono hw hn⟩
def okT (l : List Nat) : Prop := l.length ≤ 20 ∧ LowL l
theorem gs_okT {l : List Nat} (h : okT l) : Gs 20 0 (.str (S l)) := gs_str (fun c hc => by have := h.2 c hc; omega) h.1
theorem two_str {l : List Nat} (h : okT l) : (decide ((S l).length ≤ 58) && l.all fun c => decide (c < 128)) = true := by
  rw [SX.S_len, decide_eq_true (by have := h.1; omega), List.all_eq_true.mpr fun c hc => decide_eq_true (h.2 c hc)]
  rfl
theorem od_str {l : List Nat} (h : okT l) : OdV K N 150 3 H (.str (S l)) := ⟨_, .str _, (gs_okT h).mono (by decide) (by decide), two_str h⟩
theorem dv_txts : ∀ ls : List (List Nat), DvAll K N H (ls.map fun l => V.str (S l)) (ls.map fun l => PyData.str (S l))
  | [] => .nil
  | l :: ls => .cons (.str _) (dv_txts ls)
theorem two_txts : ∀ {ls : List (List Nat)}, (∀ l ∈ ls, okT l) → twoB (.tuple (ls.map fun l => PyData.str (S l))) = true
  | [], _ => rfl
  | [_], _ => rfl
  | [a, b], h => by
    exact two_str (h b (List.mem_cons_of_mem _ List.mem_cons_self))
  | _ :: _ :: _ :: _, _ => rfl
theorem gs_txts {ls : List (List Nat)} (h : ∀ l ∈ ls, okT l) : ∀ d ∈ ls.map (fun l => PyData.str (S l)), Gs 20 0 d := by
  intro d hd
  obtain ⟨l, hl, rfl⟩ := List.mem_map.mp hd
  exact gs_okT (h l hl)
theorem od_tup {p : Addr} (ls : List (List Nat)) (hz : SqT K H p (ls.map fun l => V.str (S l))) (h : ∀ l ∈ ls, okT l) (hn : ls.length ≤ 6) : OdV K N 150 3 H (.ref p) :=
  ⟨_, .tup hz (dv_txts ls), (gs_tup (gs_txts h) (by rw [List.length_map]; exact hn)).mono (by decide) (by decide), two_txts h⟩
theorem od_lst {p : Addr} (ls : List (List Nat)) (hN : N p) (hp : p ≠ sysModules) (hz : H p = some (.lst (ls.map fun l => V.str (S l)))) (h : ∀ l ∈ ls, okT l) (hn : ls.length ≤ 6) : OdV K N 150 3 H (.ref p) :=
  ⟨_, .lst hN hp hz (dv_txts ls), (gs_lst (gs_txts h) (by rw [List.length_map]; exact hn)).mono (by decide) (by decide), rfl⟩
end
inductive OIn (K : PySem.W.Frag) (H : Hp) : V → Prop
  | str {l : List Nat} : l.length ≤ 10 → LowL l → OIn K H (.str (S l))
  | tup {p : Addr} {a b : List Nat} : SqT K H p [.str (S a), .str (S b)] → a.length ≤ 10 → LowL a → b.length ≤ 10 → LowL b → OIn K H (.ref p)
def spOdd (K : PySem.W.Frag) : Sp := fun vs H Q _ => ∃ (D C : Addr) (T : Nat) (v : V), vs = [.ref D, v] ∧ DeckAt D C T H ∧ T ≤ 950000 ∧ OIn K H v ∧
  ∀ H' u, DeckAt D C (T + 1) H' → Off D C H H' → OdV K (fun a => H a = none) 150 3 H' u → Q u H'
theorem none_of {H H' : Hp} {p : Addr} (e : Same H H') (h : H' p = none) : H p = none := by
  cases x : H p with
  | none => rfl
  | some o =>
    rw [e _ _ x] at h
    cases h
theorem mem_twice {α : Type} {xs : List α} {x : α} (h : x ∈ (List.replicate (2 : Int).toNat xs).flatten) : x ∈ xs := by
  obtain ⟨l, h1, h2⟩ := List.mem_flatten.mp h
  rw [(List.mem_replicate.mp h1).2] at h2
  exact h2
section
variable {P : Program} {w : World} {K : PySem.W.Frag} {mg : Str → Option Value} {base : Heap}
theorem ok_odd {f fP : Addr} {fd fdP : FuncData} (F : Fun K "_law_odd" "_law_odd" s__law_odd f fd) (B : Blt mg)
    (FP : Fun K "_law_pick" "_law_pick" s__law_pick fP fdP) (gP : mg "_law_pick" = some (.ref fP)) (bP : Binds K fdP ["_law_deck_here", "_law_some"] []) (GP : FnOk P w K mg base CX0 2 fP fdP ["_law_deck_here", "_law_some"] spPick) :
    FnOk P w K mg base CX0 3 f fd ["_law_deck_here", "_law_it"] (spOdd K) := by
  refine F.ok sc__law_odd (fun vs H Q E h => ?_) (fun cdv A outer s H vs Q E hr h => ?_)
  · obtain ⟨_, _, _, _, rfl, _⟩ := h
    rfl
  · obtain ⟨D, C, T, v, rfl, hdk, hT, hv, q⟩ := h
    refine ⟨_, (pss_cons (ps_set (i := 2) sc__law_odd.nd rfl (Or.inl rfl) (Mq.pe_ls (pa_cons pe_non (pa_cons pe_bl (pa_cons pe_bl (pa_cons pe_int (pa_cons pe_int (pa_cons (pe_un un_neg pe_int) (pa_cons (pe_op op_pow pe_int pe_int) (pa_cons pe_str (pa_cons pe_str (pa_cons pe_str (pa_cons pe_str (pa_cons pe_str (pa_cons pe_str (pa_cons (pe_tup pa_nil) (pa_cons (pe_tup (pa_cons (pe_tup pa_nil) pa_nil)) (pa_cons (Mq.pe_ls pa_nil) (pa_cons pe_dnewK (pa_cons (pe_tup (pa_cons pe_str (pa_cons pe_str (pa_cons pe_str pa_nil)))) pa_nil))))))))))))))))))))
      (pss_cons (ps_if (pt_val (pe_callB call_isi (by rfl) B.isi (by decide +kernel) (pa_cons (pv 1) (pa_cons (pe_bltn (v := .ty "tuple") (by rfl) B.tuple (by decide +kernel) rfl) pa_nil)))) (pss_one (ps_set (i := 2) sc__law_odd.nd rfl (Or.inl rfl) (pe_op op_cat (pv 2) (pe_op op_rep (Mq.pe_ls (pa_cons (pe_callTy call_lsN (by rfl) B.list (by decide +kernel) (pa_cons (pv 1) pa_nil)) (pa_cons (pe_slice sl_tupN (pv 1) (po_some pe_int) po_none) (pa_cons (pe_slice sl_tupN (pv 1) po_none (po_some (pe_un un_neg pe_int))) (pa_cons (pe_op op_catN (pv 1) (pe_slice sl_tupN (pv 1) po_none (po_some pe_int))) (pa_cons (pe_revT (pv 1)) pa_nil)))))) pe_int)))) pss_nil)
      (pss_cons (ps_if (pt_val (pe_callB call_isi (by rfl) B.isi (by decide +kernel) (pa_cons (pv 1) (pa_cons (pe_bltn (v := .ty "str") (by rfl) B.str (by decide +kernel) rfl) pa_nil)))) (pss_one (ps_set (i := 2) sc__law_odd.nd rfl (Or.inl rfl) (pe_op op_cat (pv 2) (pe_op op_rep (Mq.pe_ls (pa_cons (pe_op op_add_str (pv 1) pe_str) (pa_cons (pe_revS (pv 1)) (pa_cons (pe_bm0 PySem.F.plainAttrs_str PySem.F.slot_str_upper PySem.F.type_str_upper mt_upper (pv 1)) (pa_cons (pe_tup (pa_cons (pv 1) pa_nil)) (pa_cons (pe_op op_add_str (pv 1) pe_str) pa_nil)))))) pe_int)))) pss_nil)
      (pss_one (ps_ret (pe_call GP (hr.mono (by decide)) (by rfl) gP FP.kp bP .nil pass0 (pa_cons (pv 0) (pa_cons (pv 2) pa_nil)))))))), ?_⟩
    have hND : ∀ a, (fun a => H a = none) a → a ≠ D ∧ a ≠ C := fun a ha => new_ne hdk ha
    have low1 : ∀ (l : List Nat) (c : Nat), l.length ≤ 10 → LowL l → c < 128 → okT (l ++ [c]) := fun l c h1 h2 h3 => ⟨by rw [List.length_append]; show l.length + 1 ≤ 20; omega, fun x hx => by
      rcases List.mem_append.mp hx with hx | hx
      · exact h2 x hx
      · rw [List.mem_singleton.mp hx]
        exact h3⟩
    have fin : ∀ (H2 : Hp) (ps : Addr) (xs : List V), Same H H2 → H2 ps = some (.lst xs) → H ps = none → 0 < xs.length → xs.length ≤ 40 → (∀ v ∈ xs, OdV K (fun a => H a = none) 150 3 H2 v) → spPick [.ref D, .ref ps] H2 Q E := by
      intro H2 ps xs s2 zs hn h0 h1 hv
      refine ⟨D, C, T, .ref ps, rfl, hdk.same s2, by omega, Or.inr ⟨ps, xs, rfl, zs, (new_ne hdk hn).2, h0, by omega, fun H3 u hu dk3 off3 => ?_⟩⟩
      exact q H3 u dk3 ((Off.same s2).trans off3) ((hv u hu).off hND off3 (hdk.same s2))
    refine ⟨_, rfl, ⟨_, _, rfl, rfl, ⟨by decide, by decide, by decide⟩, sz_le (n := 0) (by decide), fun p1 hp1 => ?_⟩⟩
    have z1 : SqT K (upd H p1 (.tup [])) p1 [] := Or.inl (Or.inl upd_same)
    have s1 := same_new (o := HO.tup []) hp1
    generalize upd H p1 (.tup []) = G1 at z1 s1 ⊢
    refine ⟨sz_le (n := 0) (by decide), fun p2 hp2 => ?_⟩
    have z2 : SqT K (upd G1 p2 (.tup [])) p2 [] := Or.inl (Or.inl upd_same)
    have t2 := same_new (o := HO.tup []) hp2
    have z1 := Same.tup t2 z1
    have s2 := s1.trans t2
    generalize upd G1 p2 (.tup []) = G2 at z1 z2 s2 ⊢
    clear s1 t2
    refine ⟨sz_le (n := 1) (by decide), fun p3 hp3 => ?_⟩
    have z3 : SqT K (upd G2 p3 (.tup [.ref p2])) p3 [.ref p2] := Or.inl (Or.inl upd_same)
    have t3 := same_new (o := HO.tup [.ref p2]) hp3
    have z1 := Same.tup t3 z1
    have z2 := Same.tup t3 z2
    have s3 := s2.trans t3
    generalize upd G2 p3 (.tup [.ref p2]) = G3 at z1 z2 z3 s3 ⊢
    clear s2 t3
    refine ⟨sz_le (n := 0) (by decide), fun p4 hp4 hn4 => ?_⟩
    have n4 : H p4 = none := none_of s3 hp4
    have z4 : upd G3 p4 (.lst []) p4 = some (.lst []) := upd_same
    have t4 := same_new (o := HO.lst []) hp4
    have z1 := Same.tup t4 z1
    have z2 := Same.tup t4 z2
    have z3 := Same.tup t4 z3
    have s4 := s3.trans t4
    generalize upd G3 p4 (.lst []) = G4 at z1 z2 z3 z4 s4 ⊢
    clear s3 t4
    refine fun p5 hp5 => ?_
    have n5 : H p5 = none := none_of s4 hp5
    have z5 : upd G4 p5 (.dK []) p5 = some (.dK []) := upd_same
    have t5 := same_new (o := HO.dK []) hp5
    have z1 := Same.tup t5 z1
    have z2 := Same.tup t5 z2
    have z3 := Same.tup t5 z3
    have z4 := t5 _ _ z4
    have s5 := s4.trans t5
    generalize upd G4 p5 (.dK []) = G5 at z1 z2 z3 z4 z5 s5 ⊢
    clear s4 t5
    refine ⟨sz_le (n := 3) (by decide), fun p6 hp6 => ?_⟩
    have z6 : SqT K (upd G5 p6 (.tup [.str "a", .str "b", .str ""])) p6 [.str "a", .str "b", .str ""] := Or.inl (Or.inl upd_same)
    have t6 := same_new (o := HO.tup [.str "a", .str "b", .str ""]) hp6
    have z1 := Same.tup t6 z1
    have z2 := Same.tup t6 z2
    have z3 := Same.tup t6 z3
    have z4 := t6 _ _ z4
    have z5 := t6 _ _ z5
    have s6 := s5.trans t6
    generalize upd G5 p6 (.tup [.str "a", .str "b", .str ""]) = G6 at z1 z2 z3 z4 z5 z6 s6 ⊢
    clear s5 t6
    refine ⟨sz_le (n := 18) (by decide), fun ps hps _ => ?_⟩
    have t7 := same_new (o := HO.lst [.non, .bl true, .bl false, .int 0, .int 1, .int (-1), .int ((10 : Int) ^ Int.toNat 39), .str "", .str "a", .str "b", .str "ab", .str "A", .str "-", .ref p1, .ref p3, .ref p4, .ref p5, .ref p6]) hps
    have nps : H ps = none := none_of s6 hps
    have s7 := s6.trans t7
    have all : ∀ v ∈ [V.non, .bl true, .bl false, .int 0, .int 1, .int (-1), .int ((10 : Int) ^ Int.toNat 39), .str "", .str "a", .str "b", .str "ab", .str "A", .str "-", .ref p1, .ref p3, .ref p4, .ref p5, .ref p6], OdV K (fun a => H a = none) 150 3 G6 v := by
      intro v hv
      simp only [List.mem_cons, List.not_mem_nil, or_false] at hv
      rcases hv with rfl | rfl | rfl | rfl | rfl | rfl | rfl | rfl | rfl | rfl | rfl | rfl | rfl | rfl | rfl | rfl | rfl | rfl
      · exact ⟨_, .non, out_of (by decide +kernel)⟩
      · exact ⟨_, .bl _, out_of (by decide +kernel)⟩
      · exact ⟨_, .bl _, out_of (by decide +kernel)⟩
      · exact ⟨_, .int _, out_of (by decide +kernel)⟩
      · exact ⟨_, .int _, out_of (by decide +kernel)⟩
      · exact ⟨_, .int _, out_of (by decide +kernel)⟩
      · exact ⟨_, .int _, out_of (by decide +kernel)⟩
      · exact ⟨_, .str _, out_of (by decide +kernel)⟩
      · exact ⟨_, .str _, out_of (by decide +kernel)⟩
      · exact ⟨_, .str _, out_of (by decide +kernel)⟩
      · exact ⟨_, .str _, out_of (by decide +kernel)⟩
      · exact ⟨_, .str _, out_of (by decide +kernel)⟩
      · exact ⟨_, .str _, out_of (by decide +kernel)⟩
      · exact ⟨_, .tup z1 .nil, out_of (by decide +kernel)⟩
      · exact ⟨_, .tup z3 (.cons (.tup z2 .nil) .nil), out_of (by decide +kernel)⟩
      · exact ⟨_, .lst n4 hn4 z4 .nil, out_of (by decide +kernel)⟩
      · exact ⟨_, .dct n5 z5, out_of (by decide +kernel)⟩
      · exact ⟨_, .tup z6 (.cons (.str _) (.cons (.str _) (.cons (.str _) .nil))), out_of (by decide +kernel)⟩
    have all7 := fun v hv => (all v hv).same t7
    have zps : upd G6 ps (.lst [.non, .bl true, .bl false, .int 0, .int 1, .int (-1), .int ((10 : Int) ^ Int.toNat 39), .str "", .str "a", .str "b", .str "ab", .str "A", .str "-", .ref p1, .ref p3, .ref p4, .ref p5, .ref p6]) ps = some (.lst [.non, .bl true, .bl false, .int 0, .int 1, .int (-1), .int ((10 : Int) ^ Int.toNat 39), .str "", .str "a", .str "b", .str "ab", .str "A", .str "-", .ref p1, .ref p3, .ref p4, .ref p5, .ref p6]) := upd_same
    have hl0 : ([V.non, .bl true, .bl false, .int 0, .int 1, .int (-1), .int ((10 : Int) ^ Int.toNat 39), .str "", .str "a", .str "b", .str "ab", .str "A", .str "-", .ref p1, .ref p3, .ref p4, .ref p5, .ref p6] : List V).length = 18 := rfl
    clear all z1 z2 z3 z4 z5 z6 t7 s6 hps hn4 n4 n5 hp1 hp2 hp3 hp4 hp5 hp6
    dsimp only
    generalize e7 : upd G6 ps (.lst [.non, .bl true, .bl false, .int 0, .int 1, .int (-1), .int ((10 : Int) ^ Int.toNat 39), .str "", .str "a", .str "b", .str "ab", .str "A", .str "-", .ref p1, .ref p3, .ref p4, .ref p5, .ref p6]) = G7 at zps s7 all7 ⊢
    generalize [V.non, .bl true, .bl false, .int 0, .int 1, .int (-1), .int ((10 : Int) ^ Int.toNat 39), .str "", .str "a", .str "b", .str "ab", .str "A", .str "-", .ref p1, .ref p3, .ref p4, .ref p5, .ref p6] = zs at zps all7 hl0
    clear e7
    cases hv with
    | @str l hl hlow =>
      refine ⟨_, rfl, _, .ty "tuple", _, _, false, rfl, .ty _, .base (.str _), kit_ty (by decide +kernel), false, rfl, ifF rfl ?_⟩
      refine ⟨_, rfl, _, .ty "str", _, _, true, rfl, .ty _, .base (.str _), kit_ty (by decide +kernel), true, rfl, ifT rfl ?_⟩
      have hl0' : (S l).length ≤ 10 := by
        rw [SX.S_len]
        exact hl
      have e1 : (S l ++ "a" : Str) = S (l ++ [97]) := by
        rw [show ("a" : Str) = S [97] by decide +kernel, SX.S_cat]
      have e2 : (S l ++ " " : Str) = S (l ++ [32]) := by
        rw [show (" " : Str) = S [32] by decide +kernel, SX.S_cat]
      obtain ⟨u, eu, ul, uh⟩ := upper_low l hlow
      refine ⟨_, rfl, _, rfl, S l, "a", rfl, rfl, sz_le (by rw [show ("a" : Str).length = 1 by decide +kernel]; omega), ?_⟩
      rw [e1]
      refine ⟨_, rfl, S l, rfl, sz_le (by omega), ?_⟩
      refine ⟨_, rfl, rfl, S l, rfl, rfl, by omega, ?_⟩
      rw [eu]
      refine ⟨_, rfl, sz_le (n := 1) (by decide), fun p1 hp1 => ?_⟩
      have z1 : SqT K (upd G7 p1 (.tup [.str (S l)])) p1 [.str (S l)] := Or.inl (Or.inl upd_same)
      have t1 := same_new (o := HO.tup [.str (S l)]) hp1
      have s8 := s7.trans t1
      have zps := t1 _ _ zps
      have all7 := fun v hv => (all7 v hv).same t1
      generalize upd G7 p1 (.tup [.str (S l)]) = G8 at z1 zps all7 s8 ⊢
      clear t1 s7
      refine ⟨_, rfl, S l, " ", rfl, rfl, sz_le (by rw [show (" " : Str).length = 1 by decide +kernel]; omega), ?_⟩
      rw [e2]
      refine ⟨sz_le (n := 5) (by decide), fun p2 hp2 _ => ?_⟩
      have t2 := same_new (o := HO.lst [.str (S (l ++ [97])), .str (revS (S l)), .str (S u), .ref p1, .str (S (l ++ [32]))]) hp2
      have z2 : upd G8 p2 (.lst [.str (S (l ++ [97])), .str (revS (S l)), .str (S u), .ref p1, .str (S (l ++ [32]))]) p2 = some (.lst [.str (S (l ++ [97])), .str (revS (S l)), .str (S u), .ref p1, .str (S (l ++ [32]))]) := upd_same
      have five : ∀ v ∈ [V.str (S (l ++ [97])), .str (revS (S l)), .str (S u), .ref p1, .str (S (l ++ [32]))], OdV K (fun a => H a = none) 150 3 G8 v := by
        intro v hv
        simp only [List.mem_cons, List.not_mem_nil, or_false] at hv
        rcases hv with rfl | rfl | rfl | rfl | rfl
        · exact od_str (low1 l 97 hl hlow (by decide))
        · exact od_str ⟨by rw [List.length_reverse]; show l.length ≤ 20; omega, fun c hc => hlow c (List.mem_reverse.mp hc)⟩
        · exact od_str ⟨by omega, uh⟩
        · exact od_tup [l] z1 (fun x hx => by rw [List.mem_singleton.mp hx]; exact ⟨by omega, hlow⟩) (by show 1 ≤ 6; omega)
        · exact od_str (low1 l 32 hl hlow (by decide))
      have five := fun v hv => (five v hv).same t2
      have zps := t2 _ _ zps
      have all7 := fun v hv => (all7 v hv).same t2
      have s9 := s8.trans t2
      have hf0 : [V.str (S (l ++ [97])), .str (revS (S l)), .str (S u), .ref p1, .str (S (l ++ [32]))].length = 5 := rfl
      generalize upd G8 p2 (.lst [.str (S (l ++ [97])), .str (revS (S l)), .str (S u), .ref p1, .str (S (l ++ [32]))]) = G9 at z2 zps all7 five s9 ⊢
      generalize [V.str (S (l ++ [97])), .str (revS (S l)), .str (S u), .ref p1, .str (S (l ++ [32]))] = fs at z2 five hf0
      refine ⟨p2, 2, fs, rfl, rfl, z2, by decide, by decide, sz_le (by show fs.length * 2 ≤ 1000000; omega), fun p3 hp3 => ?_⟩
      have t3 := same_new (o := HO.lst (List.replicate (2 : Int).toNat fs).flatten) hp3
      have z3 : upd G9 p3 (.lst (List.replicate (2 : Int).toNat fs).flatten) p3 = some (.lst (List.replicate (2 : Int).toNat fs).flatten) := upd_same
      have zps := t3 _ _ zps
      have hfl : (List.replicate (2 : Int).toNat fs).flatten.length = 10 := by
        show (fs ++ (fs ++ [])).length = 10
        rw [List.length_append, List.length_append, hf0]
        rfl
      refine ⟨ps, p3, zs, _, rfl, rfl, zps, z3, sz_le (by rw [hl0, hfl]; decide), fun p4 hp4 => ?_⟩
      have s10 := s9.trans t3
      have n4 := none_of s10 hp4
      have t4 := same_new (o := HO.lst (zs ++ (List.replicate (2 : Int).toNat fs).flatten)) hp4
      refine ⟨_, rfl, _, rfl, fin _ p4 _ (s10.trans t4) upd_same n4 (by rw [List.length_append]; omega) (by rw [List.length_append]; omega) (fun v hv => ?_)⟩
      rcases List.mem_append.mp hv with hv | hv
      · exact ((all7 v hv).same t3).same t4
      · exact ((five v (mem_twice hv)).same t3).same t4
    | @tup p a b hz ha hal hb hbl =>
      have hz7 := Same.tup s7 hz
      refine ⟨_, rfl, _, .ty "tuple", _, _, true, rfl, .ty _, ty_tup hz7, kit_ty (by decide +kernel), true, rfl, ifT rfl ?_⟩
      have ha1 : okT a := ⟨by omega, hal⟩
      have hb1 : okT b := ⟨by omega, hbl⟩
      have two : ∀ l ∈ [a, b], okT l := fun l h => by
        simp only [List.mem_cons, List.not_mem_nil, or_false] at h
        rcases h with rfl | rfl
        · exact ha1
        · exact hb1
      refine ⟨_, rfl, _, rfl, p, _, rfl, hz7, fun p1 hp1 hn1 => ?_⟩
      have z1 : upd G7 p1 (.lst [.str (S a), .str (S b)]) p1 = some (.lst [.str (S a), .str (S b)]) := upd_same
      have n1 : H p1 = none := none_of s7 hp1
      have t1 := same_new (o := HO.lst [.str (S a), .str (S b)]) hp1
      have s8 := s7.trans t1
      have zps := t1 _ _ zps
      have hz8 := Same.tup t1 hz7
      have all7 := fun v hv => (all7 v hv).same t1
      generalize upd G7 p1 (.lst [.str (S a), .str (S b)]) = G8 at z1 zps all7 s8 hz8 ⊢
      clear t1 s7 hz7
      refine ⟨_, rfl, _, rfl, p, _, rfl, hz8, fun p2 H9 t2 z2 => ?_⟩
      have s9 := s8.trans t2
      have zps := t2 _ _ zps
      have z1 := t2 _ _ z1
      have hz9 := Same.tup t2 hz8
      have all7 := fun v hv => (all7 v hv).same t2
      refine ⟨_, rfl, _, rfl, _, rfl, p, _, rfl, hz9, fun p3 H10 t3 z3 => ?_⟩
      have s10 := s9.trans t3
      have zps := t3 _ _ zps
      have z1 := t3 _ _ z1
      have z2 := Same.tup t3 z2
      have hz10 := Same.tup t3 hz9
      have all7 := fun v hv => (all7 v hv).same t3
      refine ⟨_, rfl, _, rfl, _, rfl, p, _, rfl, hz10, fun p4 H11 t4 z4 => ?_⟩
      have s11 := s10.trans t4
      have zps := t4 _ _ zps
      have z1 := t4 _ _ z1
      have z2 := Same.tup t4 z2
      have z3 := Same.tup t4 z3
      have hz11 := Same.tup t4 hz10
      have all7 := fun v hv => (all7 v hv).same t4
      refine ⟨p, p4, _, _, rfl, rfl, hz11, z4, sz_le (Nat.le_trans (Nat.add_le_add_left (cutV_length _ _ _) _) (by show 2 + 2 ≤ 1000000; decide)), fun p5 H12 t5 z5 => ?_⟩
      have s12 := s11.trans t5
      have zps := t5 _ _ zps
      have z1 := t5 _ _ z1
      have z2 := Same.tup t5 z2
      have z3 := Same.tup t5 z3
      have hz12 := Same.tup t5 hz11
      have all7 := fun v hv => (all7 v hv).same t5
      refine ⟨_, rfl, p, _, rfl, hz12, fun p6 hp6 => ?_⟩
      have t6 := same_new (o := HO.tup [.str (S b), .str (S a)]) hp6
      have z6 : SqT K (upd H12 p6 (.tup [.str (S b), .str (S a)])) p6 [.str (S b), .str (S a)] := Or.inl (Or.inl upd_same)
      have s13 := s12.trans t6
      have zps := t6 _ _ zps
      have z1 := t6 _ _ z1
      have z2 := Same.tup t6 z2
      have z3 := Same.tup t6 z3
      have z5 := Same.tup t6 z5
      have all7 := fun v hv => (all7 v hv).same t6
      have five : ∀ v ∈ [V.ref p1, .ref p2, .ref p3, .ref p5, .ref p6], OdV K (fun a => H a = none) 150 3 (upd H12 p6 (.tup [.str (S b), .str (S a)])) v := by
        intro v hv
        simp only [List.mem_cons, List.not_mem_nil, or_false] at hv
        rcases hv with rfl | rfl | rfl | rfl | rfl
        · exact od_lst [a, b] n1 hn1 z1 two (by show 2 ≤ 6; decide)
        · exact od_tup [b] z2 (fun x hx => by rw [List.mem_singleton.mp hx]; exact hb1) (by show 1 ≤ 6; decide)
        · exact od_tup [a] z3 (fun x hx => by rw [List.mem_singleton.mp hx]; exact ha1) (by show 1 ≤ 6; decide)
        · exact od_tup [a, b, a] z5 (fun x hx => by
            simp only [List.mem_cons, List.not_mem_nil, or_false] at hx
            rcases hx with rfl | rfl | rfl
            · exact ha1
            · exact hb1
            · exact ha1) (by show 3 ≤ 6; decide)
        · exact od_tup [b, a] z6 (fun x hx => two x (by
            simp only [List.mem_cons, List.not_mem_nil, or_false] at hx ⊢
            exact hx.symm)) (by show 2 ≤ 6; decide)
      refine ⟨sz_le (n := 5) (by decide), fun p7 hp7 _ => ?_⟩
      have e6 : upd H12 p6 (.tup [V.str (S a), V.str (S b)].reverse) = upd H12 p6 (.tup [.str (S b), .str (S a)]) := rfl
      generalize upd H12 p6 (.tup [.str (S b), .str (S a)]) = G9 at five zps all7 s13 e6
      rw [e6] at hp7 ⊢
      have hf0 : [V.ref p1, .ref p2, .ref p3, .ref p5, .ref p6].length = 5 := rfl
      generalize [V.ref p1, .ref p2, .ref p3, .ref p5, .ref p6] = fs at five hf0 ⊢
      have t7 := same_new (o := HO.lst fs) hp7
      refine ⟨p7, 2, fs, rfl, rfl, upd_same, by decide, by decide, sz_le (by show fs.length * 2 ≤ 1000000; omega), fun p8 hp8 => ?_⟩
      have t8 := same_new (o := HO.lst (List.replicate (2 : Int).toNat fs).flatten) hp8
      have t78 := t7.trans t8
      have hfl : (List.replicate (2 : Int).toNat fs).flatten.length = 10 := by
        show (fs ++ (fs ++ [])).length = 10
        rw [List.length_append, List.length_append, hf0]
        rfl
      refine ⟨ps, p8, zs, _, rfl, rfl, t78 _ _ zps, upd_same, sz_le (by rw [hl0, hfl]; decide), fun p9 hp9 => ?_⟩
      have n9 := none_of (s13.trans t78) hp9
      have t9 := same_new (o := HO.lst (zs ++ (List.replicate (2 : Int).toNat fs).flatten)) hp9
      have t79 := t78.trans t9
      refine ⟨_, rfl, _, .ty "str", _, _, false, rfl, .ty _, ty_tup (Same.tup ((s13.trans t79)) hz), kit_ty (by decide +kernel), false, rfl, ifF rfl ?_⟩
      refine ⟨_, rfl, _, rfl, fin _ p9 _ (s13.trans t79) upd_same n9 (by rw [List.length_append]; omega) (by rw [List.length_append]; omega) (fun v hv => ?_)⟩
      rcases List.mem_append.mp hv with hv | hv
      · exact (all7 v hv).same t79
      · exact (five v (mem_twice hv)).same t79
end
end Lw

namespace Lw
open PySem PySem.Spec PyProof.Rows L2 Mq
open SX (S)
/-! ### a value with something otherwise -/
def spBent0 (K : PySem.W.Frag) : Sp := fun vs H Q _ => ∃ (D C : Addr) (T : Nat) (l : List Nat), vs = [.ref D, .str (S l)] ∧ DeckAt D C T H ∧ T ≤ 945000 ∧ l.length ≤ 10 ∧ LowL l ∧
  ∀ H' u, DeckAt D C (T + 1) H' → Off D C H H' → OdV K (fun a => H a = none) 150 3 H' u → Q u H'
def spBent (K : PySem.W.Frag) : Sp := fun vs H Q _ => ∃ (D C : Addr) (T : Nat) (p : Addr) (a b : List Nat), vs = [.ref D, .ref p] ∧ DeckAt D C T H ∧ T ≤ 940000 ∧ SqT K H p [.str (S a), .str (S b)] ∧ a.length ≤ 10 ∧ LowL a ∧ b.length ≤ 10 ∧ LowL b ∧
  ∀ H' u T', T' ≤ T + 4 → DeckAt D C T' H' → Off D C H H' → OdV K (fun a => H a = none) 400 4 H' u → Q u H'
theorem none_off {D C : Addr} {T : Nat} {H H' : Hp} {p : Addr} (e : Off D C H H') (k : DeckAt D C T H') (h : H' p = none) : H p = none := by
  obtain ⟨a, b⟩ := new_ne k h
  cases x : H p with
  | none => rfl
  | some o =>
    rw [e _ _ a b x] at h
    cases h
theorem pt_dead {X : Cx} {e : Expr} : PT X e (fun _ _ _ => False) := ⟨fun _ _ _ _ _ _ h => h.elim⟩
theorem out_l {b : List Nat} {d : PyData} (hd : OutOk 150 3 d) (hb : okT b) : OutOk 400 4 (.tuple [d, .str (S b)]) := by
  have g : Gs (2 * (150 + 1)) (3 + 1) (.tuple [d, .str (S b)]) := gs_tup (fun x hx => by
    simp only [List.mem_cons, List.not_mem_nil, or_false] at hx
    rcases hx with rfl | rfl
    · exact hd.gs
    · exact (gs_okT hb).mono (by decide) (by decide)) (Nat.le_refl 2)
  refine ⟨g.mono (by decide) (by decide), ?_⟩
  cases d with
  | str x => exact two_str hb
  | _ => rfl
theorem out_r {a : List Nat} {d : PyData} (hd : OutOk 150 3 d) (ha : okT a) : OutOk 400 4 (.tuple [.str (S a), d]) := by
  have g : Gs (2 * (150 + 1)) (3 + 1) (.tuple [.str (S a), d]) := gs_tup (fun x hx => by
    simp only [List.mem_cons, List.not_mem_nil, or_false] at hx
    rcases hx with rfl | rfl
    · exact (gs_okT ha).mono (by decide) (by decide)
    · exact hd.gs) (Nat.le_refl 2)
  refine ⟨g.mono (by decide) (by decide), ?_⟩
  cases d with
  | str x => exact hd.lo
  | _ => rfl
section
variable {P : Program} {w : World} {K : PySem.W.Frag} {mg : Str → Option Value} {base : Heap}
theorem ok_bent0 {f fO fD : Addr} {fd fdO fdD : FuncData} (F : Fun K "_law_bent" "_law_bent" s__law_bent f fd) (B : Blt mg)
    (FO : Fun K "_law_odd" "_law_odd" s__law_odd fO fdO) (gO : mg "_law_odd" = some (.ref fO)) (bO : Binds K fdO ["_law_deck_here", "_law_it"] []) (GO : FnOk P w K mg base CX0 3 fO fdO ["_law_deck_here", "_law_it"] (spOdd K)) :
    FnOk P w K mg base CX0 4 f fd ["_law_deck_here", "_law_it"] (spBent0 K) := by
  refine F.ok sc__law_bent (fun vs H Q E h => ?_) (fun cdv A outer s H vs Q E hr h => ?_)
  · obtain ⟨_, _, _, _, rfl, _⟩ := h
    rfl
  · obtain ⟨D, C, T, l, rfl, hdk, hT, hl, hlow, q⟩ := h
    have hu : (A.deeper (envOfC "_law_bent" (defScope s__law_bent) s.heap.objs.size f cdv)).units + 64 < cLine := by
      have := hr.units
      omega
    refine ⟨_, (pss_cons (ps_if (PW.pt (pw_or (pt_not (pt_val (pe_callB call_isi (by rfl) B.isi (by decide +kernel) (pa_cons (pv 1) (pa_cons (pe_bltn (v := .ty "tuple") (by rfl) B.tuple (by decide +kernel) rfl) pa_nil))))) (pw_or pt_dead (pw_or1 pt_dead)))) (pss_one (ps_ret (pe_call GO (hr.mono (by decide)) (by rfl) gO FO.kp bO .nil pass0 (pa_cons (pv 0) (pa_cons (pv 1) pa_nil))))) pss_nil)
      (pss_cons ps_dead (pss_cons ps_dead (pss_cons ps_dead (pss_cons ps_dead (pss_one ps_dead)))))), ?_⟩
    refine ⟨_, rfl, _, .ty "tuple", _, _, false, rfl, .ty _, .base (.str _), kit_ty (by decide +kernel), false, rfl, ifT rfl (ifT rfl ?_)⟩
    exact ⟨_, rfl, _, rfl, D, C, T, _, rfl, hdk, by omega, .str hl hlow, q⟩
theorem ok_bent {f fO fD : Addr} {fd fdO fdD : FuncData} (F : Fun K "_law_bent" "_law_bent" s__law_bent f fd) (B : Blt mg)
    (FD : Fun K "_law_draw" "_law_draw" s__law_draw fD fdD) (gD : mg "_law_draw" = some (.ref fD)) (bD : Binds K fdD ["_law_deck_here", "_law_below"] []) (GD : FnOk P w K mg base CX0 1 fD fdD ["_law_deck_here", "_law_below"] spDraw)
    (FO : Fun K "_law_odd" "_law_odd" s__law_odd fO fdO) (gO : mg "_law_odd" = some (.ref fO)) (bO : Binds K fdO ["_law_deck_here", "_law_it"] []) (GO : FnOk P w K mg base CX0 3 fO fdO ["_law_deck_here", "_law_it"] (spOdd K))
    (gB : mg "_law_bent" = some (.ref f)) (bB : Binds K fd ["_law_deck_here", "_law_it"] []) :
    FnOk P w K mg base CX0 5 f fd ["_law_deck_here", "_law_it"] (spBent K) := by
  have GB := ok_bent0 (fD := fD) (fdD := fdD) (P := P) (w := w) (base := base) F B FO gO bO GO
  refine F.ok sc__law_bent (fun vs H Q E h => ?_) (fun cdv A outer s H vs Q E hr h => ?_)
  · obtain ⟨_, _, _, _, _, _, rfl, _⟩ := h
    rfl
  · obtain ⟨D, C, T, p, a, b, rfl, hdk, hT, hz, ha, hal, hb, hbl, q⟩ := h
    have hu : (A.deeper (envOfC "_law_bent" (defScope s__law_bent) s.heap.objs.size f cdv)).units + 64 < cLine := by
      have := hr.units
      omega
    refine ⟨_, (pss_cons (ps_if (PW.pt (pw_or (pt_not (pt_val (pe_callB call_isi (by rfl) B.isi (by decide +kernel) (pa_cons (pv 1) (pa_cons (pe_bltn (v := .ty "tuple") (by rfl) B.tuple (by decide +kernel) rfl) pa_nil))))) (pw_or (pt_cmpR (op_eqD hu) (pv 1) (pe_tup pa_nil) (nomark _)) (pw_or1 (pt_cmpR op_eq (pe_call GD (hr.mono (by decide)) (by rfl) gD FD.kp bD .nil pass0 (pa_cons (pv 0) (pa_cons pe_int pa_nil))) pe_int (nomark _)))))) (pss_one (ps_ret (pe_call GO (hr.mono (by decide)) (by rfl) gO FO.kp bO .nil pass0 (pa_cons (pv 0) (pa_cons (pv 1) pa_nil))))) pss_nil)
      (pss_cons (ps_par (i := 2) (j := 3) rfl sc__law_bent.nd rfl rfl (by decide) rfl rfl (pa_cons (pe_call GD (hr.mono (by decide)) (by rfl) gD FD.kp bD .nil pass0 (pa_cons (pv 0) (pa_cons (pe_callB call_len (by rfl) B.len (by decide +kernel) (pa_cons (pv 1) pa_nil)) pa_nil))) (pa_cons (pe_call GD (hr.mono (by decide)) (by rfl) gD FD.kp bD .nil pass0 (pa_cons (pv 0) (pa_cons pe_int pa_nil))) pa_nil)) (by rfl))
      (pss_cons (ps_if (pt_cmpR op_eq (pv 3) pe_int (nomark _)) (pss_one (ps_ret (pe_op op_catN (pe_slice sl_tupN (pv 1) po_none (po_some (pv 2))) (pe_slice sl_tupN (pv 1) (po_some (pe_op op_add (pv 2) pe_int)) po_none)))) pss_nil)
      (pss_cons (ps_if (pt_cmpR op_eq (pv 3) pe_int (nomark _)) (pss_one (ps_ret (pe_op op_catN (pe_slice sl_tupN (pv 1) po_none (po_some (pe_op op_add (pv 2) pe_int))) (pe_slice sl_tupN (pv 1) (po_some (pv 2)) po_none)))) pss_nil)
      (pss_cons (ps_if (pt_cmpR op_eq (pv 3) pe_int (nomark _)) (pss_one (ps_ret (pe_op op_catN (pe_op op_catN (pe_slice sl_tupN (pv 1) po_none (po_some (pv 2))) (pe_revT (pe_slice sl_tupN (pv 1) (po_some (pv 2)) (po_some (pe_op op_add (pv 2) pe_int))))) (pe_slice sl_tupN (pv 1) (po_some (pe_op op_add (pv 2) pe_int)) po_none)))) pss_nil)
      (pss_one (ps_ret (pe_op op_catN (pe_op op_catN (pe_slice sl_tupN (pv 1) po_none (po_some (pv 2))) (pe_tup (pa_cons (pe_call GB (hr.mono (by decide)) (by rfl) gB F.kp bB .nil pass0 (pa_cons (pv 0) (pa_cons (pe_ix ix_tup (pv 1) (pv 2) (fun _ _ => rfl)) pa_nil))) pa_nil))) (pe_slice sl_tupN (pv 1) (po_some (pe_op op_add (pv 2) pe_int)) po_none))))))))), ?_⟩
    have ha1 : okT a := ⟨by omega, hal⟩
    have hb1 : okT b := ⟨by omega, hbl⟩
    refine ⟨_, rfl, _, .ty "tuple", _, _, true, rfl, .ty _, ty_tup hz, kit_ty (by decide +kernel), true, rfl, ifF rfl ?_⟩
    refine ⟨_, rfl, sz_le (n := 0) (by decide), fun p0 hp0 => ?_⟩
    have t0 := same_new (o := HO.tup []) hp0
    have hz0 := Same.tup t0 hz
    have k0 : SqT K (upd H p0 (.tup [])) p0 [] := Or.inl (Or.inl upd_same)
    have dk0 := hdk.same t0
    generalize upd H p0 (.tup []) = G0 at t0 hz0 k0 dk0 ⊢
    have shA : SeqAt.shaped (.tuple [.str (S a), .str (S b)]) = true := by
      have h1 : ∀ l, LowL l → (PyData.str (S l)).canLay0 = true := fun l h => lay_txt h
      show (((PyData.str (S a)).canLay0 && ((PyData.str (S b)).canLay0 && true)) && decide (1 ≤ 64)) = true
      rw [h1 a hal, h1 b hbl]
      rfl
    refine ⟨_, _, .tup hz0 (.cons (.str _) (.cons (.str _) .nil)), .tup k0 .nil, shA, rfl, _, rfl, ifF rfl ?_⟩
    refine ⟨_, rfl, D, C, T, 6, rfl, dk0, by omega, by decide, by decide, fun H1 r hr6 dk1 off1 => ?_⟩
    have off01 := (Off.same (D := D) (C := C) t0).trans off1
    have hz1 := off1.tup dk0 hz0
    refine ⟨rfl, _, rfl, ite2 (fun hc => ?_) (fun hc => ?_)⟩
    · refine ⟨_, rfl, _, rfl, D, C, T + 1, _, rfl, dk1, by omega, .tup hz1 ha hal hb hbl, fun H2 u dk2 off2 od => ?_⟩
      exact q H2 u _ (by omega) dk2 (off01.trans off2) (od.mono (fun x hx => none_of t0 (none_off off1 dk1 hx)) (by decide) (by decide))
    refine ⟨_, rfl, _, rfl, _, _, rfl, len_tup hz1, D, C, T + 1, 2, rfl, dk1, by omega, by decide, by decide, fun H2 t ht dk2 off2 => ?_⟩
    have hz2 := off2.tup dk1 hz1
    refine ⟨_, rfl, D, C, T + 1 + 1, 8, rfl, dk2, by omega, by decide, by decide, fun H3 y hy dk3 off3 => ?_⟩
    have hz3 := off3.tup dk2 hz2
    have off03 := (off01.trans off2).trans off3
    have nn : ∀ x, H3 x = none → H x = none := fun x hx => none_of t0 (none_off off1 dk1 (none_off off2 dk2 (none_off off3 dk3 hx)))
    clear hz hz0 hz1 hz2 off01 off1 off2 off3 dk0 dk1 dk2 hc hr6 k0 shA t0
    have fin : ∀ (Hf : Hp) (pf : Addr) (ls : List (List Nat)), Same H3 Hf → SqT K Hf pf (ls.map fun l => V.str (S l)) → (∀ l ∈ ls, l = a ∨ l = b) → ls.length ≤ 6 → Q (.ref pf) Hf := by
      intro Hf pf ls sf hzf hm hn
      refine q Hf _ _ (by omega : T + 1 + 1 + 1 ≤ T + 4) (dk3.same sf) (off03.trans (Off.same sf)) ((od_tup (N := fun a => H a = none) ls hzf (fun l hl => ?_) hn).mono (fun _ z => z) (by decide) (by decide))
      rcases hm l hl with rfl | rfl
      · exact ha1
      · exact hb1
    have sz4 : ∀ (lo hi lo' hi' : Option Int), (cutV [V.str (S a), V.str (S b)] lo hi).length + (cutV [V.str (S a), V.str (S b)] lo' hi').length ≤ sizeLine := fun lo hi lo' hi' => sz_le (Nat.le_trans (Nat.add_le_add (cutV_length _ _ _) (cutV_length _ _ _)) (by show 2 + 2 ≤ 1000000; decide))
    refine ⟨_, _, rfl, ?_⟩
    refine ⟨_, rfl, rfl, _, rfl, ite2 (fun hc => ?_) (fun _ => ?_)⟩
    · refine ⟨_, rfl, _, rfl, _, rfl, p, _, rfl, hz3, fun p1 J1 t1 z1 => ?_⟩
      refine ⟨_, rfl, _, rfl, _, _, rfl, rfl, _, rfl, p, _, rfl, Same.tup t1 hz3, fun p2 J2 t2 z2 => ?_⟩
      refine ⟨p1, p2, _, _, rfl, rfl, Same.tup t2 z1, z2, sz4 _ _ _ _, fun p3 J3 t3 z3 => ?_⟩
      rcases (by omega : t = 0 ∨ t = 1) with rfl | rfl
      · exact fin _ _ [b] ((t1.trans t2).trans t3) z3 (by simp) (by simp)
      · exact fin _ _ [a] ((t1.trans t2).trans t3) z3 (by simp) (by simp)
    refine ⟨_, rfl, rfl, _, rfl, ite2 (fun hc => ?_) (fun _ => ?_)⟩
    · refine ⟨_, rfl, _, rfl, _, _, rfl, rfl, _, rfl, p, _, rfl, hz3, fun p1 J1 t1 z1 => ?_⟩
      refine ⟨_, rfl, _, rfl, _, rfl, p, _, rfl, Same.tup t1 hz3, fun p2 J2 t2 z2 => ?_⟩
      refine ⟨p1, p2, _, _, rfl, rfl, Same.tup t2 z1, z2, sz4 _ _ _ _, fun p3 J3 t3 z3 => ?_⟩
      rcases (by omega : t = 0 ∨ t = 1) with rfl | rfl
      · exact fin _ _ [a, a, b] ((t1.trans t2).trans t3) z3 (by simp) (by simp)
      · exact fin _ _ [a, b, b] ((t1.trans t2).trans t3) z3 (by simp) (by simp)
    refine ⟨_, rfl, rfl, _, rfl, ite2 (fun hc => ?_) (fun _ => ?_)⟩
    · refine ⟨_, rfl, _, rfl, _, rfl, p, _, rfl, hz3, fun p1 J1 t1 z1 => ?_⟩
      refine ⟨_, rfl, _, rfl, _, rfl, _, rfl, _, _, rfl, rfl, _, rfl, p, _, rfl, Same.tup t1 hz3, fun p2 J2 t2 z2 => ?_⟩
      refine ⟨p2, _, rfl, z2, fun p3 hp3 => ?_⟩
      have t3 := same_new (o := HO.tup (cutV [V.str (S a), V.str (S b)] (some ((t : Nat) : Int)) (some (((t : Nat) : Int) + 2))).reverse) hp3
      have z3 : SqT K (upd J2 p3 (.tup (cutV [V.str (S a), V.str (S b)] (some ((t : Nat) : Int)) (some (((t : Nat) : Int) + 2))).reverse)) p3 (cutV [V.str (S a), V.str (S b)] (some ((t : Nat) : Int)) (some (((t : Nat) : Int) + 2))).reverse := Or.inl (Or.inl upd_same)
      refine ⟨p1, p3, _, _, rfl, rfl, Same.tup (t2.trans t3) z1, z3, by rw [List.length_reverse]; exact sz4 _ _ _ _, fun p4 J4 t4 z4 => ?_⟩
      have t14 := ((t1.trans t2).trans t3).trans t4
      refine ⟨_, rfl, _, rfl, _, _, rfl, rfl, _, rfl, p, _, rfl, Same.tup t14 hz3, fun p5 J5 t5 z5 => ?_⟩
      refine ⟨p4, p5, _, _, rfl, rfl, Same.tup t5 z4, z5, ?_, fun p6 J6 t6 z6 => ?_⟩
      · rw [List.length_append, List.length_reverse]
        exact sz_le (Nat.le_trans (Nat.add_le_add (Nat.add_le_add (cutV_length _ _ _) (cutV_length _ _ _)) (cutV_length _ _ _)) (by show 2 + 2 + 2 ≤ 1000000; decide))
      rcases (by omega : t = 0 ∨ t = 1) with rfl | rfl
      · exact fin _ _ [b, a] ((t14.trans t5).trans t6) z6 (by simp) (by simp)
      · exact fin _ _ [a, b] ((t14.trans t5).trans t6) z6 (by simp) (by simp)
    · refine ⟨_, rfl, _, rfl, _, rfl, p, _, rfl, hz3, fun p1 J1 t1 z1 => ?_⟩
      have hz4 := Same.tup t1 hz3
      have rest : ∀ (H5 : Hp) (u : V) (x : Bool), DeckAt D C (T + 1 + 1 + 1 + 1) H5 → Off D C J1 H5 → OdV K (fun a => J1 a = none) 150 3 H5 u → OdV K (fun a => H a = none) 150 3 H5 u ∧ Off D C H H5 ∧ SqT K H5 p [.str (S a), .str (S b)] ∧ SqT K H5 p1 (cutV [.str (S a), .str (S b)] none (some ((t : Nat) : Int))) := fun H5 u x dk5 off5 od5 =>
        ⟨od5.mono (fun y hy => nn y (none_of t1 hy)) (by decide) (by decide), (off03.trans (Off.same t1)).trans off5, off5.tup (dk3.same t1) hz4, off5.tup (dk3.same t1) z1⟩
      rcases (by omega : t = 0 ∨ t = 1) with rfl | rfl
      · refine ⟨_, rfl, _, rfl, _, rfl, p, _, _, _, rfl, rfl, hz4, atI_nat (j := 0) rfl, D, C, T + 1 + 1 + 1, a, rfl, dk3.same t1, by omega, ha, hal, fun H5 u dk5 off5 od5 => ?_⟩
        obtain ⟨od, off, hz5, z5⟩ := rest H5 u true dk5 off5 od5
        refine ⟨sz_le (n := 1) (by decide), fun p2 hp2 => ?_⟩
        have t2 := same_new (o := HO.tup [u]) hp2
        refine ⟨p1, p2, _, [u], rfl, rfl, Same.tup t2 z5, Or.inl (Or.inl upd_same), sz_le (Nat.le_trans (Nat.add_le_add_right (cutV_length _ _ _) _) (by show 2 + 1 ≤ 1000000; decide)), fun p3 J3 t3 z3 => ?_⟩
        refine ⟨_, rfl, _, rfl, _, _, rfl, rfl, _, rfl, p, _, rfl, Same.tup (t2.trans t3) hz5, fun p4 J4 t4 z4 => ?_⟩
        refine ⟨p3, p4, _, _, rfl, rfl, Same.tup t4 z3, z4, sz_le (Nat.le_trans (Nat.add_le_add_left (cutV_length _ _ _) _) (by show 1 + 2 ≤ 1000000; decide)), fun p5 J5 t5 z6 => ?_⟩
        have t25 := ((t2.trans t3).trans t4).trans t5
        obtain ⟨d, dv, ok⟩ := od
        exact q J5 _ (T + 1 + 1 + 1 + 1) (by omega) (dk5.same t25) (off.trans (Off.same t25)) ⟨_, .tup z6 (.cons (dv.same t25) (.cons (.str _) .nil)), out_l ok hb1⟩
      · refine ⟨_, rfl, _, rfl, _, rfl, p, _, _, _, rfl, rfl, hz4, atI_nat (j := 1) rfl, D, C, T + 1 + 1 + 1, b, rfl, dk3.same t1, by omega, hb, hbl, fun H5 u dk5 off5 od5 => ?_⟩
        obtain ⟨od, off, hz5, z5⟩ := rest H5 u true dk5 off5 od5
        refine ⟨sz_le (n := 1) (by decide), fun p2 hp2 => ?_⟩
        have t2 := same_new (o := HO.tup [u]) hp2
        refine ⟨p1, p2, _, [u], rfl, rfl, Same.tup t2 z5, Or.inl (Or.inl upd_same), sz_le (Nat.le_trans (Nat.add_le_add_right (cutV_length _ _ _) _) (by show 2 + 1 ≤ 1000000; decide)), fun p3 J3 t3 z3 => ?_⟩
        refine ⟨_, rfl, _, rfl, _, _, rfl, rfl, _, rfl, p, _, rfl, Same.tup (t2.trans t3) hz5, fun p4 J4 t4 z4 => ?_⟩
        refine ⟨p3, p4, _, _, rfl, rfl, Same.tup t4 z3, z4, sz_le (Nat.le_trans (Nat.add_le_add_left (cutV_length _ _ _) _) (by show 2 + 2 ≤ 1000000; decide)), fun p5 J5 t5 z6 => ?_⟩
        have t25 := ((t2.trans t3).trans t4).trans t5
        obtain ⟨d, dv, ok⟩ := od
        exact q J5 _ (T + 1 + 1 + 1 + 1) (by omega) (dk5.same t25) (off.trans (Off.same t25)) ⟨_, .tup z6 (.cons (.str _) (.cons (dv.same t25) .nil)), out_r ok ha1⟩
end
end Lw

namespace Lw
open PySem PySem.Spec PyProof.Rows L2 Mq
open SX (S)
/-! ### papers of both kinds -/
def PTx (K : PySem.W.Frag) (H : Hp) (m : Nat) (v : V) : Prop := ∃ (p : Addr) (a b : List Nat), v = .ref p ∧ SqT K H p [.str (S a), .str (S b)] ∧ a.length ≤ 10 ∧ LowL a ∧ b.length ≤ m ∧ LowL b
theorem PTx.kp {K : PySem.W.Frag} {H H' : Hp} {m : Nat} {v : V} (h : PTx K H m v) (e : KpT K H H') : PTx K H' m v := let ⟨p, a, b, x, y, z⟩ := h; ⟨p, a, b, x, e _ _ y, z⟩
theorem PTx.mono {K : PySem.W.Frag} {H : Hp} {m m' : Nat} {v : V} (h : PTx K H m v) (e : m ≤ m') : PTx K H m' v := let ⟨p, a, b, x, y, z, z2, z3, z4⟩ := h; ⟨p, a, b, x, y, z, z2, Nat.le_trans z3 e, z4⟩
theorem PTx.od {K : PySem.W.Frag} {H : Hp} {m : Nat} {v : V} {N : Addr → Prop} (h : PTx K H m v) (e : m ≤ 10) : OdV K N 150 3 H v := by
  obtain ⟨p, a, b, rfl, hz, h1, h2, h3, h4⟩ := h
  refine od_tup [a, b] hz (fun l hl => ?_) (by simp)
  simp only [List.mem_cons, List.not_mem_nil, or_false] at hl
  rcases hl with rfl | rfl
  · exact ⟨by omega, h2⟩
  · exact ⟨by omega, h4⟩
structure PapAt (K : PySem.W.Frag) (H : Hp) (L : Addr) (m n : Nat) (xs : List V) : Prop where
  l : H L = some (.lst xs)
  n : xs.length = n
  p : ∀ v ∈ xs, PTx K H m v
theorem PapAt.same {K : PySem.W.Frag} {H H' : Hp} {L : Addr} {m n : Nat} {xs : List V} (h : PapAt K H L m n xs) (e : Same H H') : PapAt K H' L m n xs := ⟨e _ _ h.l, h.n, fun v hv => (h.p v hv).kp (KpT.same e)⟩
theorem PapAt.off {K : PySem.W.Frag} {H H' : Hp} {L D C : Addr} {T m n : Nat} {xs : List V} (h : PapAt K H L m n xs) (n1 : L ≠ D ∧ L ≠ C) (e : Off D C H H') (k : DeckAt D C T H) : PapAt K H' L m n xs := ⟨e _ _ n1.1 n1.2 h.l, h.n, fun v hv => (h.p v hv).kp (KpT.off e k)⟩
theorem PapAt.push {K : PySem.W.Frag} {H : Hp} {L : Addr} {m n : Nat} {xs : List V} {v : V} (h : PapAt K H L m n xs) (hv : PTx K H m v) : PapAt K (upd H L (.lst (xs ++ [v]))) L m (n + 1) (xs ++ [v]) := by
  refine ⟨upd_same, by rw [List.length_append, h.n]; rfl, fun x hx => ?_⟩
  have kp : KpT K H (upd H L (.lst (xs ++ [v]))) := KpT.lst h.l
  rcases List.mem_append.mp hx with hx | hx
  · exact (h.p x hx).kp kp
  · rw [List.mem_singleton.mp hx]
    exact hv.kp kp
theorem DeckAt.put {D C L : Addr} {T : Nat} {H : Hp} {o : HO} (h : DeckAt D C T H) (n : L ≠ D ∧ L ≠ C) : DeckAt D C T (upd H L o) :=
  let ⟨m, t, js, a, b, c, d⟩ := h.ex; ⟨m, t, js, (upd_ne (Ne.symm n.1)).trans a, (upd_ne (Ne.symm n.2)).trans b, c, d⟩
theorem Off.put {D C L : Addr} {H0 H : Hp} {o : HO} (h : Off D C H0 H) (n : H0 L = none) : Off D C H0 (upd H L o) := fun b x h1 h2 e => by
  rw [upd_ne (ne_of_none e n)]
  exact h b x h1 h2 e
theorem PapAt.side {K : PySem.W.Frag} {H : Hp} {L M : Addr} {m n : Nat} {xs ys zs : List V} (h : PapAt K H L m n xs) (hM : H M = some (.lst ys)) (e : M ≠ L) : PapAt K (upd H M (.lst zs)) L m n xs :=
  ⟨(upd_ne (Ne.symm e)).trans h.l, h.n, fun v hv => (h.p v hv).kp (KpT.lst hM)⟩
def goesL : List Nat := [103, 111, 101, 115]
def staysL : List Nat := [115, 116, 97, 121, 115]
theorem goes_S : (Str.ofString "goes") = S goesL := by decide +kernel
theorem stays_S : (Str.ofString "stays") = S staysL := by decide +kernel
theorem pt_goes {K : PySem.W.Frag} {H : Hp} {p : Addr} {b : List Nat} {m : Nat} (h : SqT K H p [.str "goes", .str (S b)]) (hb : b.length ≤ m) (hl : LowL b) : PTx K H m (.ref p) := by
  rw [show ("goes" : Str) = S goesL from goes_S] at h
  exact ⟨p, goesL, b, rfl, h, by decide, by unfold LowL goesL; decide, hb, hl⟩
theorem pt_stays {K : PySem.W.Frag} {H : Hp} {p : Addr} {b : List Nat} {m : Nat} (h : SqT K H p [.str "stays", .str (S b)]) (hb : b.length ≤ m) (hl : LowL b) : PTx K H m (.ref p) := by
  rw [show ("stays" : Str) = S staysL from stays_S] at h
  exact ⟨p, staysL, b, rfl, h, by decide, by unfold LowL staysL; decide, hb, hl⟩
theorem get_row {fs : List Fd} {sg : List Nat} {x : Nat} {R : List Rw} (hI : BfI fs sg true x (pend R) R []) (hs : SgOk sg) (h3 : sg.length ≤ 3) :
    ∃ l : List Nat, (valV (rowsV R) (.inr (S []))).getD (.str "a") = .str (S l) ∧ l.length ≤ 5 ∧ LowL l := by
  rw [rows_val]
  unfold lookK
  cases e : R.find? fun p => decide (p.1 = []) with
  | none => exact ⟨[97], by rw [show ("a" : Str) = S [97] by decide +kernel]; rfl, by decide, by unfold LowL; decide⟩
  | some p =>
    have hp := List.mem_of_find?_eq_some e
    exact ⟨p.2, rfl, by have := hI.rowLen hp; omega, fun c hc => hs.low c (hI.ov p hp c hc)⟩
theorem mem_cut {xs : List V} {lo hi : Option Int} {v : V} (h : v ∈ cutV xs lo hi) : v ∈ xs := List.mem_of_mem_drop (List.mem_of_mem_take h)
theorem push_same {H H' : Hp} {L : Addr} {o : HO} (n : H L = none) (s : Same H H') : Same H (upd H' L o) := fun b u e => by
  rw [upd_ne (ne_of_none e n)]
  exact s b u e
theorem cut_to (xs : List V) (k : Nat) : cutV xs none (some ((k : Nat) : Int)) = xs.take k := by
  unfold cutV
  have h1 : HT.sIx xs.length 0 none = 0 := rfl
  have h2 : HT.sIx xs.length xs.length (some ((k : Nat) : Int)) = min k xs.length := by
    unfold HT.sIx
    dsimp only
    rw [if_neg (by omega), Int.toNat_natCast]
  rw [h1, h2, List.drop_zero, Nat.sub_zero]
  rw [← List.take_take, List.take_length]
theorem OdV.put {K : PySem.W.Frag} {N : Addr → Prop} {w n : Nat} {H : Hp} {L : Addr} {xs zs : List V} {v : V} (h : OdV K N w n H v) (e : ∀ a, N a → a ≠ L) (hL : H L = some (.lst xs)) : OdV K N w n (upd H L (.lst zs)) v :=
  let ⟨d, a, b⟩ := h; ⟨d, a.kp (fun x o hx z => (upd_ne (e x hx)).trans z) (fun x ys z => KpT.lst hL x ys z), b⟩
def spPapers (K : PySem.W.Frag) : Sp := fun vs H Q _ => ∃ (D C : Addr) (T : Nat) (wd ld : Addr) (sg : List Nat) (gs : List Fd) (x : Nat), vs = [.ref D, .ref wd, .str (S [x])] ∧ DeckAt D C T H ∧ T ≤ 800000 ∧ WAt H wd ld sg gs ∧ GsOk sg gs ∧ SgOk sg ∧ x ∈ sg ∧ sg.length ≤ 3 ∧
  ∀ H' p us, DeckAt D C (T + 100) H' → Off D C H H' → H' p = some (.lst us) → us.length ≤ 40 → (∀ v ∈ us, OdV K (fun a => H a = none) 400 4 H' v) → Q (.ref p) H'
section
variable {P : Program} {w : World} {K : PySem.W.Frag} {mg : Str → Option Value} {base : Heap}
theorem ok_papers {f fD fP fW fY fB : Addr} {fd fdD fdP fdW fdY fdB : FuncData} (F : Fun K "_law_papers" "_law_papers" s__law_papers f fd) (B : Blt mg) (bS : mg "sorted" = none)
    (FD : Fun K "_law_draw" "_law_draw" s__law_draw fD fdD) (gD : mg "_law_draw" = some (.ref fD)) (bD : Binds K fdD ["_law_deck_here", "_law_below"] []) (GD : FnOk P w K mg base CX0 1 fD fdD ["_law_deck_here", "_law_below"] spDraw)
    (FP : Fun K "_law_pick" "_law_pick" s__law_pick fP fdP) (gP : mg "_law_pick" = some (.ref fP)) (bP : Binds K fdP ["_law_deck_here", "_law_some"] []) (GP : FnOk P w K mg base CX0 2 fP fdP ["_law_deck_here", "_law_some"] spPick)
    (FW : Fun K "_law_web" "_law_web" s__law_web fW fdW) (gW : mg "_law_web" = some (.ref fW)) (bW : Binds K fdW ["_law_deck_here", "_law_w", "_law_most"] []) (GW : FnOk P w K mg base CX0 3 fW fdW ["_law_deck_here", "_law_w", "_law_most"] spLawWeb)
    (FY : Fun K "_law_ways" "_law_ways" s__law_ways fY fdY) (gY : mg "_law_ways" = some (.ref fY)) (bY : Binds K fdY ["_law_w", "_law_x", "_law_is_going"] []) (GY : FnOk P w K mg base CX0 2 fY fdY ["_law_w", "_law_x", "_law_is_going"] spWays)
    (FB : Fun K "_law_bent" "_law_bent" s__law_bent fB fdB) (gB : mg "_law_bent" = some (.ref fB)) (bB : Binds K fdB ["_law_deck_here", "_law_it"] []) (GB : FnOk P w K mg base CX0 5 fB fdB ["_law_deck_here", "_law_it"] (spBent K)) :
    FnOk P w K mg base CX0 6 f fd ["_law_deck_here", "_law_w", "_law_x"] (spPapers K) := by
  refine F.ok sc__law_papers (fun vs H Q E h => ?_) (fun cdv A outer s H vs Q E hr h => ?_)
  · obtain ⟨_, _, _, _, _, _, _, _, rfl, _⟩ := h
    rfl
  · obtain ⟨D, C, T, wd, ld, sg, gs, x, rfl, hdk, hT, hw, hg, hs, hx, h3, q⟩ := h
    have hu1 : (A.deeper (envOfC "_law_papers" (defScope s__law_papers) s.heap.objs.size f cdv)).units + 1 < cLine := by
      have := hr.units
      omega
    refine ⟨_, (pss_cons (ps_set (i := 3) sc__law_papers.nd rfl (Or.inl rfl) (pe_ls pa_nil))
      (pss_cons (ps_for PassesOwn.never rfl (pi_range1 (by rfl) B.range (pa_cons pe_int pa_nil)) (pg_name (i := 4) sc__law_papers.nd rfl (Or.inl rfl))
        (pss_cons (ps_expr (pe_bm PySem.F.plainAttrs_list PySem.F.slot_list_append PySem.F.type_list_append mt_append (pv 3) (pa_cons (pe_tup (pa_cons pe_str (pa_cons (pe_call GW (hr.mono (by decide)) (by rfl) gW FW.kp bW .nil pass0 (pa_cons (pv 0) (pa_cons (pv 1) (pa_cons pe_int pa_nil)))) pa_nil))) pa_nil)))
        (pss_one (ps_expr (pe_bm PySem.F.plainAttrs_list PySem.F.slot_list_append PySem.F.type_list_append mt_append (pv 3) (pa_cons (pe_tup (pa_cons pe_str (pa_cons (pe_join pe_str (pe_lc (own := [("_law_y", 7)]) (g := gName 7) rfl sc__law_papers.nd (pi_str (pe_dget hu1 (pv 1) pe_str (fun _ _ => rfl))) (blkOk_by (own := [("_law_y", 7)]) (N := ["_law_deck_here", "_law_w", "_law_x", "_law_some", "_law_go", "_law_kind", "_law_row", "_law_y"]) (sc := defScope s__law_papers) (by decide +kernel)) (fun _ _ _ _ _ => pg_name (i := 7) sc__law_papers.nd rfl (Or.inl rfl)) (fun _ _ _ _ _ => pts_one (pt_cmpR op_gt (pe_call GD (hr.mono (by decide)) (by rfl) gD FD.kp bD .nil pass0 (pa_cons (pv 0) (pa_cons pe_int pa_nil))) pe_int (nomark _))) (fun _ _ _ _ _ => (pv 7)))) pa_nil))) pa_nil))))))
      (pss_cons (ps_set (i := 3) sc__law_papers.nd rfl (Or.inl rfl) (pe_op op_cat (pv 3) (pe_ls (pa_cons (pe_tup (pa_cons pe_str (pa_cons (pe_dget2 hu1 (pe_call GY (hr.mono (by decide)) (by rfl) gY FY.kp bY .nil pass0 (pa_cons (pv 1) (pa_cons (pv 2) (pa_cons pe_bl pa_nil)))) pe_str pe_str ⟨rfl, rfl, rfl, rfl⟩) pa_nil))) (pa_cons (pe_tup (pa_cons pe_str (pa_cons (pe_dget hu1 (pv 1) pe_str (fun _ _ => rfl)) pa_nil))) (pa_cons (pe_tup (pa_cons pe_str (pa_cons (pv 2) pa_nil))) (pa_cons (pe_tup (pa_cons pe_str (pa_cons pe_str pa_nil))) pa_nil)))))))
      (pss_cons (ps_expr (pe_bm PySem.F.plainAttrs_list PySem.F.slot_list_append PySem.F.type_list_append mt_append (pv 3) (pa_cons (pe_tup (pa_cons pe_str (pa_cons (pe_join pe_str (pe_callB (call_sortedD rfl) (by rfl) bS (by decide +kernel) (pa_cons (pe_call GY (hr.mono (by decide)) (by rfl) gY FY.kp bY .nil pass0 (pa_cons (pv 1) (pa_cons (pv 2) (pa_cons pe_bl pa_nil)))) pa_nil))) pa_nil))) pa_nil)))
      (pss_cons (ps_set (i := 3) sc__law_papers.nd rfl (Or.inl rfl) (pe_op op_cat (pv 3) (pe_lc (own := [("_law_kind", 5), ("_law_row", 6)]) (g := gTup K 2 (gCons (gName 5) (gCons (gName 6) gNil))) (tt := tYes) rfl sc__law_papers.nd (pi_list (pe_slice sl_list (pv 3) po_none (po_some pe_int))) (blkOk_by (own := [("_law_kind", 5), ("_law_row", 6)]) (N := ["_law_deck_here", "_law_w", "_law_x", "_law_some", "_law_go", "_law_kind", "_law_row", "_law_y"]) (sc := defScope s__law_papers) (by decide +kernel)) (fun _ _ _ _ _ => pg_tup rfl (pgs_cons (pg_name (i := 5) sc__law_papers.nd rfl (Or.inl rfl)) (pgs_cons (pg_name (i := 6) sc__law_papers.nd rfl (Or.inl rfl)) pgs_nil))) (fun _ _ _ _ _ => pts_nil) (fun _ _ _ _ _ => (pe_tup (pa_cons pe_str (pa_cons (pe_op op_2S pe_int (pv 6)) pa_nil)))))))
      (pss_cons (ps_for PassesOwn.never rfl (pi_range1 (by rfl) B.range (pa_cons pe_int pa_nil)) (pg_name (i := 4) sc__law_papers.nd rfl (Or.inl rfl))
        (pss_one (ps_expr (pe_bm PySem.F.plainAttrs_list PySem.F.slot_list_append PySem.F.type_list_append mt_append (pv 3) (pa_cons (pe_call GB (hr.mono (by decide)) (by rfl) gB FB.kp bB .nil pass0 (pa_cons (pv 0) (pa_cons (pe_call GP (hr.mono (by decide)) (by rfl) gP FP.kp bP .nil pass0 (pa_cons (pv 0) (pa_cons (pe_slice sl_list (pv 3) po_none (po_some pe_int)) pa_nil))) pa_nil))) pa_nil)))))
      (pss_one (ps_ret (pe_op op_cat (pv 3) (Mq.pe_ls (pa_cons pe_non (pa_cons (pe_tup pa_nil) (pa_cons pe_str (pa_cons (pe_tup (pa_cons pe_str pa_nil)) (pa_cons (pe_tup (pa_cons pe_str (pa_cons (pe_tup (pa_cons pe_str pa_nil)) pa_nil))) (pa_cons (Mq.pe_ls (pa_cons pe_str (pa_cons (pv 2) pa_nil))) (pa_cons (pe_tup (pa_cons pe_str (pa_cons (pv 2) (pa_cons (pe_tup pa_nil) pa_nil)))) (pa_cons pe_dnewK pa_nil)))))))))))))))))), ?_⟩
    refine ⟨sz_le (n := 0) (by decide), fun L hL _ => ?_⟩
    have nL := new_ne hdk hL
    refine ⟨4, rfl, by decide, by decide, ?_⟩
    refine for_it (walk_rng (n := 4)) (fun k σ H' => ∃ xs o4, σ = [some (.ref D), some (.ref wd), some (.str (S [x])), some (.ref L), o4, none, none, none] ∧ PapAt K H' L 5 (2 * k) xs ∧ DeckAt D C (T + 8 * k) H' ∧ Off D C H H')
      ⟨[], none, rfl, ⟨upd_same, rfl, fun _ h => by cases h⟩, hdk.same (same_new hL), Off.same (same_new hL)⟩ (fun _ _ _ _ _ => trivial) ?_ ?_
    · rintro k y σ H2 H2' hk ⟨xs, o4, rfl, pa, dk, off⟩ ⟨rfl, rfl⟩
      refine ⟨_, rfl, Or.inl ⟨rfl, _, SqL.of pa.l⟩, _, rfl, _, rfl, D, C, T + 8 * k, 4, wd, ld, sg, gs, rfl, dk, by omega, hw.off off hdk, hs.pos, by omega, by decide, fun H3 l hl1 hl2 dk3 off3 => ?_⟩
      have pa3 := pa.off nL off3 dk
      have off03 := off.trans off3
      refine ⟨sz_le (n := 2) (by decide), fun p hp => ?_⟩
      have t4 := same_new (o := HO.tup [V.str "goes", V.str (S l)]) hp
      have z4 : SqT K (upd H3 p (.tup [V.str "goes", V.str (S l)])) p [V.str "goes", V.str (S l)] := Or.inl (Or.inl upd_same)
      have pt := pt_goes (m := 5) z4 (by omega) (fun c hc => hs.low c (hl1 c hc))
      have pa4 := pa3.same t4
      have dk4 := dk3.same t4
      have off04 := off03.trans (Off.same t4)
      generalize upd H3 p (.tup [V.str "goes", V.str (S l)]) = H4 at t4 z4 pt pa4 dk4 off04 ⊢
      refine ⟨L, xs, _, rfl, rfl, pa4.l, sz_lt (by have := pa4.n; omega), ?_⟩
      have pa5 := pa4.push pt
      have dk5 := dk4.put (o := HO.lst (xs ++ [V.ref p])) nL
      have off05 := off04.put (o := HO.lst (xs ++ [V.ref p])) hL
      generalize upd H4 L (.lst (xs ++ [V.ref p])) = H5 at pa5 dk5 off05 ⊢
      clear pa4 dk4 off04 pt z4 t4 hp off03 pa3 dk3 off3 hl1 hl2
      refine ⟨_, rfl, Or.inl ⟨rfl, _, SqL.of pa5.l⟩, ⟨_, rfl⟩, _, rfl, wd, _, rfl, DGet.k (k := .inr "letters") (hw.off off05 hdk).w, S sg, rfl, fun M hM => ?_⟩
      have nM := new_ne dk5 hM
      have nMH := none_off off05 dk5 hM
      have nML : M ≠ L := Ne.symm (ne_of_none pa5.l hM)
      refine lc_it (walk_S sg) (fun i H' => ∃ l : List Nat, l.length ≤ i ∧ (∀ c ∈ l, c ∈ sg) ∧ H' M = some (.lst (l.map fun c => .str (S [c]))) ∧ DeckAt D C (T + 8 * k + 5 + i) H' ∧ PapAt K H' L 5 (2 * k + 1) (xs ++ [V.ref p]) ∧ Off D C H H')
        ⟨[], Nat.le_refl _, (fun _ h => by cases h), upd_same, (dk5.same (same_new hM)).mono (by omega), pa5.same (same_new hM), off05.trans (Off.same (same_new hM))⟩ (fun _ _ _ _ => trivial) ?_ ?_
      · rintro i y H6 H6' hi ⟨l, hl, hc, zM, dk, pa, off⟩ ⟨rfl, rfl⟩
        refine ⟨rfl, ?_⟩
        refine ⟨_, rfl, D, C, T + 8 * k + 5 + i, 3, rfl, dk, by omega, by decide, by decide, fun H8 r hr dk8 off8 => ?_⟩
        have zM8 := off8 _ _ nM.1 nM.2 zM
        have pa8 := pa.off nL off8 dk
        refine ⟨_, _, rfl, rfl, _, rfl, ite2 (fun _ => ?_) (fun _ => ⟨l, by omega, hc, zM8, dk8.mono (by omega), pa8, off.trans off8⟩)⟩
        refine ⟨_, rfl, _, zM8, sz_lt (by rw [List.length_map]; omega), l ++ [sg.getD i 0], by rw [List.length_append]; show l.length + 1 ≤ i + 1; omega, fun c hc2 => ?_, ?_, (dk8.put nM).mono (by omega), pa8.side zM8 nML, (off.trans off8).put nMH⟩
        · rcases List.mem_append.mp hc2 with h | h
          · exact hc c h
          · rw [List.mem_singleton.mp h]
            exact getD_mem hi
        · rw [upd_same, List.map_append]
          rfl
      · rintro H6 ⟨l, hl, hc, zM, dk, pa, off⟩
        refine ⟨S [], M, l.map fun c => S [c], rfl, rfl, Or.inl (SqL.of (zM.trans ?_)), ?_, ?_⟩
        · rw [List.map_map]
          rfl
        · rw [one_sum, SX.S_len, List.length_map]
          show l.length + l.length * 0 ≤ _
          omega
        rw [join_one]
        refine ⟨sz_le (n := 2) (by decide), fun p2 hp2 => ?_⟩
        have t7 := same_new (o := HO.tup [V.str "stays", V.str (S l)]) hp2
        have z7 : SqT K (upd H6 p2 (.tup [V.str "stays", V.str (S l)])) p2 [V.str "stays", V.str (S l)] := Or.inl (Or.inl upd_same)
        have pt := pt_stays (m := 5) z7 (by omega) (fun c h => hs.low c (hc c h))
        have pa7 := pa.same t7
        refine ⟨L, xs ++ [V.ref p], _, rfl, rfl, pa7.l, sz_lt (by have := pa7.n; omega), ?_⟩
        have pa8 := pa7.push pt
        exact ⟨_, _, rfl, ⟨pa8.l, by have := pa8.n; omega, pa8.p⟩, ((dk.same t7).put nL).mono (by omega), (off.trans (Off.same t7)).put hL⟩
    · rintro σ H1 ⟨xs, o4, rfl, pa, dk, off⟩
      have hnL := pa.n
      have hwA := hw.off off hdk
      clear hL hw nL
      refine ⟨_, rfl, _, rfl, _, rfl, wd, ld, sg, gs, x, true, rfl, hwA, hg, hs, hx, fun H2 d R s2 hdn hd hB hI => ?_⟩
      obtain ⟨l1, e1, h1, hl1⟩ := get_row hI hs h3
      refine ⟨d, rfl, Or.inl ⟨_, .inl hd⟩, _, DGet.k (k := .inr (S [])) hd, ?_⟩
      rw [e1]
      refine ⟨sz_le (n := 2) (by decide), fun p1 hp1 => ?_⟩
      have t3 := same_new (o := HO.tup [V.str "goes", V.str (S l1)]) hp1
      have z3 : SqT K (upd H2 p1 (.tup [V.str "goes", V.str (S l1)])) p1 [V.str "goes", V.str (S l1)] := Or.inl (Or.inl upd_same)
      have pt1 := pt_goes (m := 5) z3 h1 hl1
      have s3 := s2.trans t3
      generalize upd H2 p1 (.tup [V.str "goes", V.str (S l1)]) = H3 at s3 pt1 ⊢
      clear z3 t3 hp1
      refine ⟨_, rfl, wd, _, rfl, DGet.k (k := .inr "letters") (hwA.same s3).w, ?_⟩
      refine ⟨sz_le (n := 2) (by decide), fun p2 hp2 => ?_⟩
      have t4 := same_new (o := HO.tup [V.str "stays", V.str (S sg)]) hp2
      have z4 : SqT K (upd H3 p2 (.tup [V.str "stays", V.str (S sg)])) p2 [V.str "stays", V.str (S sg)] := Or.inl (Or.inl upd_same)
      have pt2 := pt_stays (m := 5) z4 (by omega) hs.low
      have pt1 := pt1.kp (KpT.same t4)
      have s4 := s3.trans t4
      generalize upd H3 p2 (.tup [V.str "stays", V.str (S sg)]) = H4 at s4 pt1 pt2 ⊢
      clear z4 t4 hp2
      refine ⟨_, rfl, sz_le (n := 2) (by decide), fun p3 hp3 => ?_⟩
      have t5 := same_new (o := HO.tup [V.str "stays", V.str (S [x])]) hp3
      have z5 : SqT K (upd H4 p3 (.tup [V.str "stays", V.str (S [x])])) p3 [V.str "stays", V.str (S [x])] := Or.inl (Or.inl upd_same)
      have pt3 := pt_stays (m := 5) z5 (by show 1 ≤ 5; decide) (fun c h => by rw [List.mem_singleton.mp h]; exact hs.low x hx)
      have pt1 := pt1.kp (KpT.same t5)
      have pt2 := pt2.kp (KpT.same t5)
      have s5 := s4.trans t5
      generalize upd H4 p3 (.tup [V.str "stays", V.str (S [x])]) = H5 at s5 pt1 pt2 pt3 ⊢
      clear z5 t5 hp3
      refine ⟨sz_le (n := 2) (by decide), fun p4 hp4 => ?_⟩
      have t6 := same_new (o := HO.tup [V.str "goes", V.str ""]) hp4
      have z6 : SqT K (upd H5 p4 (.tup [V.str "goes", V.str ""])) p4 [V.str "goes", V.str (S [])] := Or.inl (Or.inl upd_same)
      have pt4 := pt_goes (m := 5) z6 (by show 0 ≤ 5; decide) (fun c h => by cases h)
      have pt1 := pt1.kp (KpT.same t6)
      have pt2 := pt2.kp (KpT.same t6)
      have pt3 := pt3.kp (KpT.same t6)
      have s6 := s5.trans t6
      generalize upd H5 p4 (.tup [V.str "goes", V.str ""]) = H6 at s6 pt1 pt2 pt3 pt4 ⊢
      clear z6 t6 hp4 s3 s4 s5
      refine ⟨sz_le (n := 4) (by decide), fun p5 hp5 _ => ?_⟩
      have t7 := same_new (o := HO.lst [V.ref p1, .ref p2, .ref p3, .ref p4]) hp5
      have pa7 := pa.same (s6.trans t7)
      have z7 : upd H6 p5 (.lst [V.ref p1, .ref p2, .ref p3, .ref p4]) p5 = some (.lst [V.ref p1, .ref p2, .ref p3, .ref p4]) := upd_same
      refine ⟨L, p5, xs, _, rfl, rfl, pa7.l, z7, sz_le (by rw [hnL]; show 2 * 4 + 4 ≤ 1000000; decide), fun L2 hL2 => ?_⟩
      have t8 := same_new (o := HO.lst (xs ++ [V.ref p1, .ref p2, .ref p3, .ref p4])) hL2
      have pa8 : PapAt K (upd (upd H6 p5 (.lst [V.ref p1, .ref p2, .ref p3, .ref p4])) L2 (.lst (xs ++ [V.ref p1, .ref p2, .ref p3, .ref p4]))) L2 5 12 (xs ++ [V.ref p1, .ref p2, .ref p3, .ref p4]) := by
        refine ⟨upd_same, by rw [List.length_append, hnL]; rfl, fun v hv => ?_⟩
        rcases List.mem_append.mp hv with hv | hv
        · exact (pa7.p v hv).kp (KpT.same t8)
        · simp only [List.mem_cons, List.not_mem_nil, or_false] at hv
          rcases hv with rfl | rfl | rfl | rfl
          · exact pt1.kp (KpT.same (t7.trans t8))
          · exact pt2.kp (KpT.same (t7.trans t8))
          · exact pt3.kp (KpT.same (t7.trans t8))
          · exact pt4.kp (KpT.same (t7.trans t8))
      have s8 := s6.trans (t7.trans t8)
      have nL2 : H L2 = none := none_off off dk (none_of (s6.trans t7) hL2)
      have nL3 := new_ne dk (none_of (s6.trans t7) hL2)
      generalize upd (upd H6 p5 (.lst [V.ref p1, .ref p2, .ref p3, .ref p4])) L2 (.lst (xs ++ [V.ref p1, .ref p2, .ref p3, .ref p4])) = H8 at pa8 s8 ⊢
      generalize xs ++ [V.ref p1, .ref p2, .ref p3, .ref p4] = ys at pa8 ⊢
      clear pt1 pt2 pt3 pt4 pa7 z7 t7 t8 s6 hL2 hp5 pa hnL
      refine ⟨_, rfl, Or.inl ⟨rfl, _, SqL.of pa8.l⟩, ?_⟩
      refine ⟨⟨_, rfl⟩, _, rfl, _, rfl, wd, ld, sg, gs, x, false, rfl, hwA.same s8, hg, hs, hx, fun J1 d1 M1 u1 hd1n hd1 hB1 hI1 => ?_⟩
      have hfew := hI1.few
      refine ⟨d1, rowsV M1, M1.map (fun p => S p.1), rfl, .inl hd1, ?_, by rw [List.length_map]; omega, fun zs pz hpm hso hpn => ?_⟩
      · unfold rowsV
        rw [List.map_map, List.map_map]
        rfl
      have eL : M1.map (fun p => S p.1) = (M1.map fun p => p.1.headD 0).map fun c => S [c] := by
        rw [List.map_map]
        refine List.map_congr_left fun p hp2 => ?_
        rcases hI1.sh p hp2 with ⟨_, h⟩ | ⟨y, _, h⟩
        · cases h
        · rw [h]
          show _ = S [p.1.headD 0]
          rw [h]
          rfl
      obtain ⟨lot, rfl, hpm2⟩ := perm_lift hpm eL
      have hlot : lot.length ≤ 5 := by
        rw [hpm2.length_eq, List.length_map]
        omega
      have hlow : LowL lot := by
        intro c hc
        obtain ⟨p, hp, rfl⟩ := List.mem_map.mp ((hpm2.mem_iff).mp hc)
        rcases hI1.sh p hp with ⟨_, h⟩ | ⟨y, hy, h⟩
        · cases h
        · rw [h]
          exact hs.low y hy
      have u2 := u1.trans (same_new (o := HO.lst ((lot.map fun c => S [c]).map V.str)) hpn)
      refine ⟨S [], pz, lot.map fun c => S [c], rfl, rfl, Or.inl (SqL.of upd_same), ?_, ?_⟩
      · rw [one_sum, SX.S_len, List.length_map]
        show lot.length + lot.length * 0 ≤ _
        omega
      rw [join_one]
      have pa9 := pa8.same u2
      have s9 := s8.trans u2
      generalize upd J1 pz (.lst ((lot.map fun c => S [c]).map V.str)) = H9 at pa9 s9 ⊢
      clear u2 u1 hpn hpm2 hso pa8 s8 hpm eL hd1 hd1n
      refine ⟨sz_le (n := 2) (by decide), fun p6 hp6 => ?_⟩
      have t10 := same_new (o := HO.tup [V.str "stays", V.str (S lot)]) hp6
      have z10 : SqT K (upd H9 p6 (.tup [V.str "stays", V.str (S lot)])) p6 [V.str "stays", V.str (S lot)] := Or.inl (Or.inl upd_same)
      have pt := pt_stays (m := 5) z10 hlot hlow
      have pa10 := pa9.same t10
      have s10 := s9.trans t10
      refine ⟨L2, ys, _, rfl, rfl, pa10.l, sz_lt (by have := pa10.n; omega), ?_⟩
      have pa11 := pa10.push pt
      have dk11 := (dk.same s10).put (o := HO.lst (ys ++ [V.ref p6])) nL3
      have off11 := (off.trans (Off.same s10)).put (o := HO.lst (ys ++ [V.ref p6])) nL2
      have n13 : (ys ++ [V.ref p6]).length = 13 := pa11.n
      generalize upd (upd H9 p6 (.tup [V.str "stays", V.str (S lot)])) L2 (.lst (ys ++ [V.ref p6])) = H11 at pa11 dk11 off11 ⊢
      generalize ys ++ [V.ref p6] = zs at pa11 n13 ⊢
      clear pa10 s10 t10 z10 pt hp6 pa9 s9 hB1 hI1 hB hI hd hdn s2 e1 h1 hl1 hwA dk off hlot hlow hfew ys xs
      refine ⟨_, rfl, _, rfl, _, rfl, L2, zs, rfl, SqL.of pa11.l, fun ps hps => ⟨ps, rfl, ⟨_, SqL.of upd_same⟩, fun M hM => ?_⟩⟩
      have t12 := same_new (o := HO.lst (cutV zs none (some 2))) hps
      have zps : upd H11 ps (.lst (cutV zs none (some 2))) ps = some (.lst (cutV zs none (some 2))) := upd_same
      have pa12 := pa11.same t12
      have dk12 := dk11.same t12
      have off12 := off11.trans (Off.same t12)
      generalize upd H11 ps (.lst (cutV zs none (some 2))) = H12 at hM zps pa12 dk12 off12 ⊢
      refine lc_yes (walk_list (K := K) (a := ps) (xs := cutV zs none (some 2))) (fun i H' => Same H12 H' ∧ ∃ us, H' M = some (.lst us) ∧ us.length = i ∧ ∀ v ∈ us, PTx K H' 10 v) ⟨same_new hM, [], upd_same, rfl, fun _ h => by cases h⟩ (fun i H' _ q => SqL.of (q.1 _ _ zps)) ?_ ?_
      · rintro i y H13 H13' hi ⟨s13, us, zM, hn, hp⟩ ⟨rfl, hy⟩
        obtain ⟨b, k1, l1, rfl, hz, h1, h2, h4, h5⟩ := (pa12.p y (mem_cut (List.mem_of_getElem? hy))).kp (KpT.same s13)
        refine ⟨b, _, rfl, hz, rfl, _, _, rfl, _, _, rfl, rfl, rfl, ?_⟩
        refine ⟨_, rfl, l1, rfl, rfl, by omega, sz_le (n := 2) (by decide), fun p7 hp7 => ?_⟩
        have t14 := same_new (o := HO.tup [V.str "goes", V.str (S (l1 ++ l1))]) hp7
        have z14 : SqT K (upd H13' p7 (.tup [V.str "goes", V.str (S (l1 ++ l1))])) p7 [V.str "goes", V.str (S (l1 ++ l1))] := Or.inl (Or.inl upd_same)
        have pt := pt_goes (m := 10) z14 (by rw [List.length_append]; omega) (fun c hc => by
          rcases List.mem_append.mp hc with hc | hc
          · exact h5 c hc
          · exact h5 c hc)
        have zM14 := t14 _ _ zM
        refine ⟨us, zM14, sz_lt (by have := cutV_length zs none (some 2); omega), push_same hM (s13.trans t14), us ++ [.ref p7], upd_same, by rw [List.length_append, hn]; rfl, fun v hv => ?_⟩
        have kp : KpT K (upd H13' p7 (.tup [V.str "goes", V.str (S (l1 ++ l1))])) (upd (upd H13' p7 (.tup [V.str "goes", V.str (S (l1 ++ l1))])) M (.lst (us ++ [V.ref p7]))) := KpT.lst zM14
        rcases List.mem_append.mp hv with hv | hv
        · exact ((hp v hv).kp (KpT.same t14)).kp kp
        · rw [List.mem_singleton.mp hv]
          exact pt.kp kp
      rintro H13 ⟨s13, us, zM, hn, hp⟩
      have hul : us.length ≤ 13 := by
        have := cutV_length zs none (some 2)
        omega
      have pa13 := pa12.same s13
      refine ⟨L2, M, zs, us, rfl, rfl, pa13.l, zM, sz_le (by omega), fun L3 hL3 => ?_⟩
      have t14 := same_new (o := HO.lst (zs ++ us)) hL3
      have dk14 := dk12.same (s13.trans t14)
      have off14 := off12.trans (Off.same (s13.trans t14))
      have nL3H : H L3 = none := none_off off12 dk12 (none_of s13 hL3)
      have nL4 := new_ne dk12 (none_of s13 hL3)
      have z14 : upd H13 L3 (.lst (zs ++ us)) L3 = some (.lst (zs ++ us)) := upd_same
      have base14 : ∀ v ∈ zs ++ us, PTx K (upd H13 L3 (.lst (zs ++ us))) 10 v := by
        intro v hv
        rcases List.mem_append.mp hv with hv | hv
        · exact ((pa13.p v hv).kp (KpT.same t14)).mono (by decide)
        · exact (hp v hv).kp (KpT.same t14)
      have n14 : 12 ≤ (zs ++ us).length ∧ (zs ++ us).length ≤ 26 := by
        rw [List.length_append]
        omega
      generalize upd H13 L3 (.lst (zs ++ us)) = H14 at z14 base14 dk14 off14 ⊢
      generalize zs ++ us = bs at z14 base14 n14 ⊢
      refine ⟨4, rfl, by decide, by decide, ?_⟩
      have hNH : ∀ a, H a = none ∧ a ≠ L3 → a ≠ D ∧ a ≠ C := fun a ha => new_ne hdk ha.1
      refine for_it (walk_rng (n := 4)) (fun k σ H' => ∃ es o4, σ = [some (.ref D), some (.ref wd), some (.str (S [x])), some (.ref L3), o4, none, none, none] ∧ H' L3 = some (.lst (bs ++ es)) ∧ es.length = k ∧ (∀ v ∈ bs, PTx K H' 10 v) ∧ (∀ v ∈ es, OdV K (fun a => H a = none ∧ a ≠ L3) 400 4 H' v) ∧ DeckAt D C (T + 8 * 4 + 5 * k) H' ∧ Off D C H H')
        ⟨[], _, rfl, by rw [List.append_nil]; exact z14, rfl, base14, (fun _ h => by cases h), dk14, off14⟩ (fun _ _ _ _ _ => trivial) ?_ ?_
      · rintro k y σ J J' hk ⟨es, o5, rfl, zL, hn, hb, he, dk, off⟩ ⟨rfl, rfl⟩
        have hbl : (cutV (bs ++ es) none (some ((12 : Nat) : Int))) = bs.take 12 := by
          rw [cut_to, List.take_append_of_le_length (by omega)]
        refine ⟨_, rfl, Or.inl ⟨rfl, _, SqL.of zL⟩, _, rfl, _, rfl, _, rfl, _, rfl, L3, _, rfl, SqL.of zL, fun ps hps => ?_⟩
        have t1 := same_new (o := HO.lst (cutV (bs ++ es) none (some 12))) hps
        refine ⟨D, C, T + 8 * 4 + 5 * k, .ref ps, rfl, dk.same t1, by omega, Or.inr ⟨ps, _, rfl, upd_same, (new_ne dk hps).2, ?_, ?_, fun J3 v hv dk3 off3 => ?_⟩⟩
        · rw [show (12 : Int) = ((12 : Nat) : Int) from rfl, hbl, List.length_take]
          omega
        · rw [show (12 : Int) = ((12 : Nat) : Int) from rfl, hbl, List.length_take]
          omega
        rw [show (12 : Int) = ((12 : Nat) : Int) from rfl, hbl] at hv
        have off13 := (Off.same (D := D) (C := C) t1).trans off3
        obtain ⟨p, a, b, rfl, hz, h1, h2, h4, h5⟩ := (hb v (List.mem_of_mem_take hv)).kp ((KpT.same t1).trans (KpT.off off3 (dk.same t1)))
        refine ⟨D, C, T + 8 * 4 + 5 * k + 1, p, a, b, rfl, dk3, by omega, hz, h1, h2, h4, h5, fun J4 u T' hT' dk4 off4 od4 => ?_⟩
        have off14 := off13.trans off4
        have zL4 := off14 _ _ nL4.1 nL4.2 zL
        refine ⟨L3, _, u, rfl, rfl, zL4, sz_lt (by rw [List.length_append]; omega), ?_⟩
        have zL5 : upd J4 L3 (.lst (bs ++ es ++ [u])) L3 = some (.lst (bs ++ (es ++ [u]))) := by rw [upd_same, List.append_assoc]
        refine ⟨es ++ [u], _, rfl, zL5, by rw [List.length_append, hn]; rfl, fun v hv => ?_, fun v hv => ?_, (dk4.put nL4).mono (by omega), (off.trans off14).put nL3H⟩
        · exact ((hb v hv).kp (KpT.off off14 dk)).kp (KpT.lst zL4)
        · rcases List.mem_append.mp hv with hv | hv
          · exact ((he v hv).off hNH off14 dk).put (fun a ha => ha.2) zL4
          · rw [List.mem_singleton.mp hv]
            refine (od4.mono (fun a ha => ⟨none_off off dk (none_of t1 (none_off off3 dk3 ha)), ?_⟩) (Nat.le_refl _) (Nat.le_refl _)).put (fun a ha => ha.2) zL4
            rintro rfl
            rw [off13 _ _ nL4.1 nL4.2 zL] at ha
            cases ha
      · rintro σ J ⟨es, o5, rfl, zL, hn, hb, he, dk, off⟩
        have all : ∀ v ∈ bs ++ es, OdV K (fun a => H a = none) 400 4 J v := by
          intro v hv
          rcases List.mem_append.mp hv with hv | hv
          · exact ((hb v hv).od (N := fun a => H a = none) (Nat.le_refl _)).mono (fun _ z => z) (by decide) (by decide)
          · exact (he v hv).mono (fun a ha => ha.1) (Nat.le_refl _) (Nat.le_refl _)
        have hbe : (bs ++ es).length ≤ 30 := by
          rw [List.length_append]
          omega
        generalize bs ++ es = cs at zL all hbe
        refine ⟨_, rfl, sz_le (n := 0) (by decide), fun p1 hp1 => ?_⟩
        have xok : ∀ l ∈ [staysL, [x]], okT l := fun l hl => by
          simp only [List.mem_cons, List.not_mem_nil, or_false] at hl
          rcases hl with rfl | rfl
          · exact ⟨by decide, by unfold LowL staysL; decide⟩
          · exact ⟨by show 1 ≤ 20; decide, fun c hc => by rw [List.mem_singleton.mp hc]; exact hs.low x hx⟩
        have t1 := same_new (o := HO.tup []) hp1
        have z1 : SqT K (upd J p1 (.tup [])) p1 [] := Or.inl (Or.inl upd_same)
        have s1 := t1
        generalize upd J p1 (.tup []) = G1 at z1 s1 ⊢
        clear t1
        refine ⟨sz_le (n := 1) (by decide), fun p2 hp2 => ?_⟩
        have t2 := same_new (o := HO.tup [.str "goes"]) hp2
        have z2 : SqT K (upd G1 p2 (.tup [.str "goes"])) p2 [.str "goes"] := Or.inl (Or.inl upd_same)
        have z1 := Same.tup t2 z1
        have s2 := s1.trans t2
        generalize upd G1 p2 (.tup [.str "goes"]) = G2 at z1 z2 s2 ⊢
        clear t2 s1
        refine ⟨sz_le (n := 1) (by decide), fun p3 hp3 => ?_⟩
        have t3 := same_new (o := HO.tup [.str "x"]) hp3
        have z3 : SqT K (upd G2 p3 (.tup [.str "x"])) p3 [.str "x"] := Or.inl (Or.inl upd_same)
        have z1 := Same.tup t3 z1
        have z2 := Same.tup t3 z2
        have s3 := s2.trans t3
        generalize upd G2 p3 (.tup [.str "x"]) = G3 at z1 z2 z3 s3 ⊢
        clear t3 s2
        refine ⟨sz_le (n := 2) (by decide), fun p4 hp4 => ?_⟩
        have t4 := same_new (o := HO.tup [.str "goes", .ref p3]) hp4
        have z4 : SqT K (upd G3 p4 (.tup [.str "goes", .ref p3])) p4 [.str "goes", .ref p3] := Or.inl (Or.inl upd_same)
        have z1 := Same.tup t4 z1
        have z2 := Same.tup t4 z2
        have z3 := Same.tup t4 z3
        have s4 := s3.trans t4
        generalize upd G3 p4 (.tup [.str "goes", .ref p3]) = G4 at z1 z2 z3 z4 s4 ⊢
        clear t4 s3
        refine ⟨_, rfl, sz_le (n := 2) (by decide), fun p5 hp5 hn5 => ?_⟩
        have nn5 : H p5 = none := none_off off dk (none_of s4 hp5)
        have t5 := same_new (o := HO.lst [.str "stays", .str (S [x])]) hp5
        have z5 : upd G4 p5 (.lst [.str "stays", .str (S [x])]) p5 = some (.lst [.str "stays", .str (S [x])]) := upd_same
        have z1 := Same.tup t5 z1
        have z2 := Same.tup t5 z2
        have z3 := Same.tup t5 z3
        have z4 := Same.tup t5 z4
        have s5 := s4.trans t5
        generalize upd G4 p5 (.lst [.str "stays", .str (S [x])]) = G5 at z1 z2 z3 z4 z5 s5 ⊢
        clear t5 s4
        refine ⟨_, rfl, sz_le (n := 0) (by decide), fun p6 hp6 => ?_⟩
        have t6 := same_new (o := HO.tup []) hp6
        have z6 : SqT K (upd G5 p6 (.tup [])) p6 [] := Or.inl (Or.inl upd_same)
        have z1 := Same.tup t6 z1
        have z2 := Same.tup t6 z2
        have z3 := Same.tup t6 z3
        have z4 := Same.tup t6 z4
        have z5 := t6 _ _ z5
        have s6 := s5.trans t6
        generalize upd G5 p6 (.tup []) = G6 at z1 z2 z3 z4 z5 z6 s6 ⊢
        clear t6 s5
        refine ⟨sz_le (n := 3) (by decide), fun p7 hp7 => ?_⟩
        have t7 := same_new (o := HO.tup [.str "stays", .str (S [x]), .ref p6]) hp7
        have z7 : SqT K (upd G6 p7 (.tup [.str "stays", .str (S [x]), .ref p6])) p7 [.str "stays", .str (S [x]), .ref p6] := Or.inl (Or.inl upd_same)
        have z1 := Same.tup t7 z1
        have z2 := Same.tup t7 z2
        have z3 := Same.tup t7 z3
        have z4 := Same.tup t7 z4
        have z5 := t7 _ _ z5
        have z6 := Same.tup t7 z6
        have s7 := s6.trans t7
        generalize upd G6 p7 (.tup [.str "stays", .str (S [x]), .ref p6]) = G7 at z1 z2 z3 z4 z5 z6 z7 s7 ⊢
        clear t7 s6
        refine fun p8 hp8 => ?_
        have nn8 : H p8 = none := none_off off dk (none_of s7 hp8)
        have t8 := same_new (o := HO.dK []) hp8
        have z8 : upd G7 p8 (.dK []) p8 = some (.dK []) := upd_same
        have z1 := Same.tup t8 z1
        have z2 := Same.tup t8 z2
        have z3 := Same.tup t8 z3
        have z4 := Same.tup t8 z4
        have z5 := t8 _ _ z5
        have z6 := Same.tup t8 z6
        have z7 := Same.tup t8 z7
        have s8 := s7.trans t8
        generalize upd G7 p8 (.dK []) = G8 at z1 z2 z3 z4 z5 z6 z7 z8 s8 ⊢
        clear t8 s7
        have eight : ∀ v ∈ [V.non, .ref p1, .str "goes", .ref p2, .ref p4, .ref p5, .ref p7, .ref p8], OdV K (fun a => H a = none) 400 4 G8 v := by
          intro v hv
          simp only [List.mem_cons, List.not_mem_nil, or_false] at hv
          rcases hv with rfl | rfl | rfl | rfl | rfl | rfl | rfl | rfl
          · exact ⟨_, .non, out_of (by decide +kernel)⟩
          · exact ⟨_, .tup z1 .nil, out_of (by decide +kernel)⟩
          · exact ⟨_, .str _, out_of (by decide +kernel)⟩
          · exact ⟨_, .tup z2 (.cons (.str _) .nil), out_of (by decide +kernel)⟩
          · exact ⟨_, .tup z4 (.cons (.str _) (.cons (.tup z3 (.cons (.str _) .nil)) .nil)), out_of (by decide +kernel)⟩
          · rw [show ("stays" : Str) = S staysL from stays_S] at z5
            exact (od_lst [staysL, [x]] nn5 hn5 z5 xok (by simp)).mono (fun _ z => z) (by decide) (by decide)
          · rw [show ("stays" : Str) = S staysL from stays_S] at z7
            refine ⟨_, .tup z7 (.cons (.str _) (.cons (.str _) (.cons (.tup z6 .nil) .nil))), (gs_tup (w := 20) (n := 1) (m := 3) (ds := [.str (S staysL), .str (S [x]), .tuple []]) (fun d hd => ?_) (Nat.le_refl 3)).mono (by decide) (by decide), rfl⟩
            simp only [List.mem_cons, List.not_mem_nil, or_false] at hd
            rcases hd with rfl | rfl | rfl
            · exact (gs_okT (xok _ (by simp))).mono (by decide) (by decide)
            · exact (gs_okT (xok _ (by simp))).mono (by decide) (by decide)
            · exact gs_of (by decide +kernel)
          · exact ⟨_, .dct nn8 z8, out_of (by decide +kernel)⟩
        refine ⟨sz_le (n := 8) (by decide), fun p9 hp9 _ => ?_⟩
        have t9 := same_new (o := HO.lst [V.non, .ref p1, .str "goes", .ref p2, .ref p4, .ref p5, .ref p7, .ref p8]) hp9
        have zc := s8 _ _ zL
        refine ⟨L3, p9, cs, _, rfl, rfl, t9 _ _ zc, upd_same, sz_le (by show cs.length + 8 ≤ 1000000; omega), fun p10 hp10 => ?_⟩
        have t10 := same_new (o := HO.lst (cs ++ [V.non, .ref p1, .str "goes", .ref p2, .ref p4, .ref p5, .ref p7, .ref p8])) hp10
        have s10 := s8.trans (t9.trans t10)
        refine q _ p10 _ ((dk.same s10).mono (by omega)) (off.trans (Off.same s10)) upd_same (by rw [List.length_append]; show cs.length + 8 ≤ 40; omega) (fun v hv => ?_)
        rcases List.mem_append.mp hv with hv | hv
        · exact (all v hv).same s10
        · exact (eight v hv).same (t9.trans t10)
end
end Lw

namespace Lw
open PySem PySem.Spec PyProof.Rows L2 Mq
open SX (S)
/-! ### a paper that is told is right -/
theorem rowM_eq {fs gs : List Fd} (h : ∀ a c, leftM fs a c = leftM gs a c) : ∀ (row z : List Nat), rowM fs z row = rowM gs z row
  | [], _ => by
    rename_i z
    cases z <;> rfl
  | _ :: _, [] => rfl
  | y :: row, a :: z => by
    show (match leftM fs a y with | none => none | some z => rowM fs z row) = (match leftM gs a y with | none => none | some z => rowM gs z row)
    rw [h]
    cases leftM gs a y with
    | none => rfl
    | some z => exact rowM_eq h row z
theorem thing_eq {fs gs : List Fd} (h : ∀ a c, leftM fs a c = leftM gs a c) (p : fs.Perm gs) (sg : List Nat) (x : Nat) (d : PyData) : thingB fs sg x d = thingB gs sg x d := by
  have e1 : ∀ row, goesB fs x row = goesB gs x row := fun row => by
    unfold goesB
    rw [rowM_eq h]
  have e2 : ∀ lot, stayB fs x lot = stayB gs x lot := fun lot => by
    unfold stayB
    rw [p.all_eq]
  unfold thingB
  split
  · rw [e1, e2]
  · rfl
section
variable {fs : List Fd} {sg : List Nat} {x : Nat} {R : List Rw}
theorem goes_ok (hI : BfI fs sg false x (pend R) R []) {row : List Nat} (h : firstGo fs sg (pend R) = some row) : goesB fs x row = true ∧ (∀ c ∈ row, c ∈ sg) ∧ row.length ≤ sg.length + 1 := by
  obtain ⟨q, hq, c, hc, e, rfl⟩ := first_mem h
  have hm := (pend_mem hI.len1).mp hq
  refine ⟨?_, ?_, ?_⟩
  · unfold goesB
    rw [rowM_snoc (hI.pa _ hm), e]
    rfl
  · intro d hd
    rcases List.mem_append.mp hd with hd | hd
    · exact hI.ov _ hm d hd
    · rw [List.mem_singleton.mp hd]
      exact hc
  · have := hI.rowLen hm
    rw [List.length_append]
    exact Nat.add_le_add_right this 1
theorem lot_in (hI : BfI fs sg false x (pend R) R []) {lot : List Nat} (hl : LotOf R lot) {c : Nat} : c ∈ lot ↔ c ∈ sg ∧ ∃ r, ([c], r) ∈ R := by
  rw [hl.mem]
  constructor
  · intro h
    obtain ⟨p, hp, e⟩ := List.mem_map.mp h
    rcases hI.sh p hp with ⟨_, h2⟩ | ⟨y, hy, h2⟩
    · cases h2
    · have e2 : [y] = [c] := h2.symm.trans e
      injection e2 with e2
      subst e2
      exact ⟨hy, p.2, by rw [← h2]; exact hp⟩
  · rintro ⟨_, r, h⟩
    exact List.mem_map.mpr ⟨_, h, rfl⟩
theorem stays_ok (hg : GsOk sg fs) (hI : BfI fs sg false x (pend R) R []) {lot : List Nat} (hl : LotOf R lot) (h : firstGo fs sg (pend R) = none) : stayB fs x lot = true ∧ (∀ c ∈ lot, c ∈ sg) ∧ lot.length ≤ sg.length := by
  refine ⟨stay_yes hg (asc_pair.mpr hl.asc) ((hl.mem x).mpr (List.mem_map.mpr ⟨_, hI.x0, rfl⟩)) (fun y hy c hc => ?_), fun c hc => ((lot_in hI hl).mp hc).1, ?_⟩
  · obtain ⟨_, r, hr⟩ := (lot_in hI hl).mp hy
    have hp := (pend_mem hI.len1).mpr hr
    unfold goodB
    cases e : leftM fs y c with
    | none => rfl
    | some z =>
      cases z with
      | nil => exact absurd e (first_none h hp hc)
      | cons d z =>
        have h1 := hI.cl _ hp c hc _ e (Or.inl (by simp))
        rcases zin_gs hg y c _ e with h2 | ⟨d2, hd2, h2⟩
        · cases h2
        · rw [h2] at h1
          injection h2 with h3 h4
          subst h3
          exact decide_eq_true ((hl.mem d).mpr (hasK_iff.mp h1))
  · have nd : lot.Nodup := hl.asc.imp fun h => Nat.ne_of_lt h
    have := nodup_few (l := lot.map fun c => [c]) (m := sg.map fun c => [c]) (List.pairwise_map.mpr (nd.imp fun h e => h (by injection e))) (fun k hk => by
      obtain ⟨c, hc, rfl⟩ := List.mem_map.mp hk
      exact List.mem_map.mpr ⟨c, ((lot_in hI hl).mp hc).1, rfl⟩)
    rw [List.length_map, List.length_map] at this
    exact this
end
end Lw

namespace Mq
open PySem PySem.Spec PyProof.Rows L2
/-! ### f(k = v, ..), all by keyword -/
theorem vals_rev : ∀ {vs : List V} {us : List Value}, Vals vs us → Vals vs.reverse us.reverse
  | _, _, .nil => .nil
  | _, _, .cons r h => by
    rw [List.reverse_cons, List.reverse_cons]
    exact (vals_rev h).append (.cons r .nil)
def rev0 {α : Type} (_ ws : List α) : List α := ws.reverse
section
variable {X : Cx} {CX : CXT} {k : Nat} {f : Addr} {fd : FuncData} {ps ks : List Str} {sp : Sp}
  {E : L2.St → XK} {x : Str} {p pos : Pos} {kws : List Keyword} {tk : TA}
  {g : List Value → List Value → List Value} {gV : List V → List V → List V}
def tCallK0 (m : Nat) (sp : Sp) (gV : List V → List V → List V) (E : L2.St → XK) (tk : TA) : TE := fun σ H Q => tk σ H fun zs H2 => zs.length = m ∧ sp (gV [] zs) H2 Q (E σ)
theorem pe_callK0 (F : FnOk X.prog X.w X.K X.mg X.base CX k f fd ps sp) (hr : Room k X.A) (hg : Gl X x) (hm : X.mg x = some (.ref f)) (hk : PySem.W.keepIn X.K (.ref f) = true) (hb : KBn X.K fd ps 0 ks g gV)
    (hx : ∀ σ, PassesAt CX X σ (E σ)) (hkw : PK X kws tk)
    (hall : (backToKw pos (keywordEach kws X.env)).all (·.1.isSome) = true := by rfl)
    (hks : (backToKw pos (keywordEach kws X.env)).filterMap (·.1) = ks := by rfl)
    (hdb : (x == ("__debug__" : Str)) = false := by decide)
    (hpl : ((backTo pos (starEach [] X.env)).any (·.1) || (backToKw pos (keywordEach kws X.env)).any (·.1.isNone)) = false := by rfl) :
    PE X (.Call (.Name x p) [] kws pos) (tCallK0 ks.length sp gV E tk) := by
  refine ⟨fun pins s σ H Q I h => ?_⟩
  refine wpAny_Call_Name_kw (ld_glob I hg hm ?_ hdb)
  refine PySem.W.callWith_KW0 (h₀ := X.base) I.ok.mod.kin hk hall ?_ hpl
  refine thn (hkw.run pos pins s σ H _ I h) fun ws s2 ⟨zs, H2, I2, rz, hl, q2⟩ => ⟨I2.kIn, ?_⟩
  rw [hks]
  have r2 := hb.rel (vs := []) (us := []) .nil rz
  have lw : ws.length = ks.length := rz.length.symm.trans hl
  refine wpAny_call (codeAny_mono (F.run X.A X.stack s2 H2 ⟨[], ks.zip ws⟩ (g [] ws) (gV [] zs) Q (E σ) hr I2.env0
    (hb.to s2 [] ws I2.kIn rfl lw) r2 q2) (fun r s' hq => ?_))
  match r, hq with
  | .error er, hq => exact hx σ pins H2 s2 er s' I2 hq
  | .ok (.ret u), hq => exact I2.after hq
  | .ok .next, hq => exact hq.elim
  | .ok .brk, hq => exact hq.elim
  | .ok .cont, hq => exact hq.elim
end
theorem kbn_rev2 {K : PySem.W.Frag} {x qual : Str} {st : Stmt} {f : Addr} {fd : FuncData} {p1 p2 : Str} (F : Fun K x qual st f fd)
    (h : ∀ (kV doc pm : Value) (an : Option Addr) (cdv ct : Value) (a b : Value), bindArgs (PySem.W.fnOf x qual (defArgs st) (defBody st) (defScope st) .none kV doc pm an cdv ct) ⟨[], [(p2, a), (p1, b)]⟩ = pure [(p1, b), (p2, a)]) :
    KBn K fd [p1, p2] 0 [p2, p1] rev0 rev0 := by
  obtain ⟨oc, od, kV, doc, pm, an, cdv, ct, osl, rfl, lk, hcd⟩ := F.ex
  refine ⟨fun s us ws _ h1 h2 => ?_, fun a b => vals_rev b⟩
  match us, ws, h1, h2 with
  | [], [a, b], _, _ => exact .of_eq (h kV doc pm an cdv ct a b)
theorem kbn_rev3 {K : PySem.W.Frag} {x qual : Str} {st : Stmt} {f : Addr} {fd : FuncData} {p1 p2 p3 : Str} (F : Fun K x qual st f fd)
    (h : ∀ (kV doc pm : Value) (an : Option Addr) (cdv ct : Value) (a b c : Value), bindArgs (PySem.W.fnOf x qual (defArgs st) (defBody st) (defScope st) .none kV doc pm an cdv ct) ⟨[], [(p3, a), (p2, b), (p1, c)]⟩ = pure [(p1, c), (p2, b), (p3, a)]) :
    KBn K fd [p1, p2, p3] 0 [p3, p2, p1] rev0 rev0 := by
  obtain ⟨oc, od, kV, doc, pm, an, cdv, ct, osl, rfl, lk, hcd⟩ := F.ex
  refine ⟨fun s us ws _ h1 h2 => ?_, fun a b => vals_rev b⟩
  match us, ws, h1, h2 with
  | [], [a, b, c], _, _ => exact .of_eq (h kV doc pm an cdv ct a b c)
end Mq

namespace Lw
open PySem PySem.Spec PyProof.Rows L2 Mq
open SX (S)
/-! ### a letter is told of rightly -/
def GoodV (K : PySem.W.Frag) (H : Hp) (v : V) : Prop := ∃ d, Dg K H v d ∧ OutOk 400 4 d
theorem GoodV.same {K : PySem.W.Frag} {H H' : Hp} {v : V} (h : GoodV K H v) (e : Same H H') : GoodV K H' v := let ⟨d, a, b⟩ := h; ⟨d, a.same e, b⟩
theorem OdV.good {K : PySem.W.Frag} {N : Addr → Prop} {w n : Nat} {H : Hp} {v : V} (h : OdV K N w n H v) (hw : w ≤ 400) (hn : n ≤ 4) : GoodV K H v := let ⟨d, a, b⟩ := h; ⟨d, a.dg, b.mono hw hn⟩
def optDt : Option (List Nat) → PyData
  | none => .none
  | some w => .str (S w)
structure BkF (K : PySem.W.Frag) (H : Hp) (C r : Addr) (sg : List Nat) (fs : List Fd) (fa ta : Addr) (xs : List V) : Prop where
  b : BkAt H C r sg fs fa ta
  f : SqT K H fa xs
  a : FdAll K H xs fs
def spRight (K : PySem.W.Frag) (C : Addr) : Sp := fun vs H Q _ => ∃ (D Cc : Addr) (T : Nat) (wd ld r fa ta : Addr) (sg : List Nat) (gs fs : List Fd) (xs : List V) (x : Nat), vs = [.ref D, .ref wd, .ref r, .str (S [x])] ∧ DeckAt D Cc T H ∧ T ≤ 700000 ∧ WAt H wd ld sg gs ∧ GsOk sg gs ∧ SgOk sg ∧ sg.length ≤ 3 ∧ x ∈ sg ∧
  fs.Perm gs ∧ FsOk sg fs ∧ BkAt H C r sg fs fa ta ∧ SqT K H fa xs ∧ FdAll K H xs fs ∧ ∀ H', DeckAt D Cc (T + 100) H' → Off D Cc H H' → Q (.bl true) H'
theorem GsOk.perm {sg : List Nat} {fs gs : List Fd} (h : GsOk sg gs) (p : fs.Perm gs) : GsOk sg fs := ⟨by rw [p.length_eq]; exact h.few, fun f hf => h.ok f (p.mem_iff.mp hf), h.nd.perm p⟩
def headS : Option (List Nat) → Str
  | none => "stays"
  | some _ => "goes"
def SheetAt (K : PySem.W.Frag) (H : Hp) (o : Option (List Nat)) (gs : List Fd) (sg : List Nat) (x : Nat) (v : V) : Prop := ∃ (p : Addr) (l : List Nat), v = .ref p ∧ SqT K H p [.str (headS o), .str (S l)] ∧ l.length ≤ 5 ∧ LowL l ∧ thingB gs sg x (.tuple [.str (headS o), .str (S l)]) = true
theorem SheetAt.same {K : PySem.W.Frag} {H H' : Hp} {o : Option (List Nat)} {gs : List Fd} {sg : List Nat} {x : Nat} {v : V} (h : SheetAt K H o gs sg x v) (e : Same H H') : SheetAt K H' o gs sg x v := let ⟨p, l, a, b, c⟩ := h; ⟨p, l, a, Same.tup e b, c⟩
theorem SheetAt.good {K : PySem.W.Frag} {H : Hp} {o : Option (List Nat)} {gs : List Fd} {sg : List Nat} {x : Nat} {v : V} (h : SheetAt K H o gs sg x v) : GoodV K H v := by
  obtain ⟨p, l, rfl, hz, h1, h2, _⟩ := h
  cases o with
  | none => exact ((pt_stays hz h1 h2).od (N := fun _ => True) (by decide)).good (by decide) (by decide)
  | some _ => exact ((pt_goes hz h1 h2).od (N := fun _ => True) (by decide)).good (by decide) (by decide)
theorem sheet_of {K : PySem.W.Frag} {H : Hp} {o : Option (List Nat)} {fs gs : List Fd} {sg lot : List Nat} {x : Nat} {R : List Rw} {p : Addr} (hg : GsOk sg gs) (hp : fs.Perm gs) (hle : ∀ a c, leftM fs a c = leftM gs a c) (hs : SgOk sg) (h3 : sg.length ≤ 3)
    (hI : BfI fs sg false x (pend R) R []) (hL : LotOf R lot) (z : SqT K H p (match o with | none => [.str "stays", .str (S lot)] | some row => [.str "goes", .str (S row)])) (e : firstGo fs sg (pend R) = o) : SheetAt K H o gs sg x (.ref p) := by
  cases o with
  | none =>
    obtain ⟨a, b, c⟩ := stays_ok (hg.perm hp) hI hL e
    refine ⟨p, lot, rfl, z, by omega, fun d hd => hs.low d (b d hd), ?_⟩
    rw [← thing_eq hle hp]
    show (if ("stays" : Str) = "goes" then allB lot sg && goesB fs x lot else if ("stays" : Str) = "stays" then allB lot sg && stayB fs x lot else false) = true
    rw [if_neg (by decide), if_pos rfl, allB_of b, a]
    rfl
  | some row =>
    obtain ⟨a, b, c⟩ := goes_ok hI e
    refine ⟨p, row, rfl, z, by omega, fun d hd => hs.low d (b d hd), ?_⟩
    rw [← thing_eq hle hp]
    show (if ("goes" : Str) = "goes" then allB row sg && goesB fs x row else if ("goes" : Str) = "stays" then allB row sg && stayB fs x row else false) = true
    rw [if_pos rfl, allB_of b, a]
    rfl
section
variable {P : Program} {w : World} {K : PySem.W.Frag} {mg : Str → Option Value} {base : Heap} {C : Addr}
theorem ok_right {f fY fC fG fJ fI fP fH : Addr} {fd fdY fdC fdG fdJ fdI fdP fdH : FuncData} (F : Fun K "_law_letter_right" "_law_letter_right" s__law_letter_right f fd) (B : Blt mg)
    (FY : Fun K "_law_ways" "_law_ways" s__law_ways fY fdY) (gY : mg "_law_ways" = some (.ref fY)) (bY : Binds K fdY ["_law_w", "_law_x", "_law_is_going"] []) (GY : FnOk P w K mg base CX0 2 fY fdY ["_law_w", "_law_x", "_law_is_going"] spWays)
    (FC : Fun K "can_go" "can_go" s_can_go fC fdC) (gC : mg "can_go" = some (.ref fC)) (bC : Binds K fdC ["book", "letter"] []) (kC : KBn K fdC ["book", "letter"] 0 ["letter", "book"] rev0 rev0) (GC : FnOk P w K mg base CX0 4 fC fdC ["book", "letter"] (spCan C))
    (FG : Fun K "going_row" "going_row" s_going_row fG fdG) (gG : mg "going_row" = some (.ref fG)) (bG : Binds K fdG ["book", "letter"] []) (kG : KBn K fdG ["book", "letter"] 0 ["letter", "book"] rev0 rev0) (GG : FnOk P w K mg base CX0 3 fG fdG ["book", "letter"] (spGo C))
    (FJ : Fun K "judge_going" "judge_going" s_judge_going fJ fdJ) (gJ : mg "judge_going" = some (.ref fJ)) (bJ : Binds K fdJ ["book", "letter"] []) (kJ : KBn K fdJ ["book", "letter"] 0 ["letter", "book"] rev0 rev0) (GJ : FnOk P w K mg base CX0 4 fJ fdJ ["book", "letter"] (spJudge K C))
    (FI : Fun K "_law_is_paper" "_law_is_paper" s__law_is_paper fI fdI) (gI : mg "_law_is_paper" = some (.ref fI)) (bI : Binds K fdI ["_law_w", "_law_x", "_law_it"] []) (GI : FnOk P w K mg base CX0 2 fI fdI ["_law_w", "_law_x", "_law_it"] (spIsPaper K))
    (FP : Fun K "_law_papers" "_law_papers" s__law_papers fP fdP) (gP : mg "_law_papers" = some (.ref fP)) (bP : Binds K fdP ["_law_deck_here", "_law_w", "_law_x"] []) (GP : FnOk P w K mg base CX0 6 fP fdP ["_law_deck_here", "_law_w", "_law_x"] (spPapers K))
    (FH : Fun K "going_holds" "going_holds" s_going_holds fH fdH) (gH : mg "going_holds" = some (.ref fH)) (bH : Binds K fdH ["book", "letter", "thing"] []) (kH : KBn K fdH ["book", "letter", "thing"] 0 ["thing", "letter", "book"] rev0 rev0) (GH : FnOk P w K mg base CX0 3 fH fdH ["book", "letter", "thing"] (spHolds K C)) :
    FnG P w K mg base CX0 7 f fd ["_law_deck_here", "_law_w", "_law_code_here", "_law_x"] (spRight K C) := by
  refine Mq.Fun.okG F sc__law_letter_right (fun vs H Q E h => ?_) (fun cdv A outer s H vs Q E gA hr h => ?_)
  · obtain ⟨_, _, _, _, _, _, _, _, _, _, _, _, _, rfl, _⟩ := h
    rfl
  · obtain ⟨D, Cc, T, wd, ld, r, fa, ta, sg, gs, fs, xs, x, rfl, hdk, hT, hw, hg, hs, h3, hx, hp, hfs, hb, hfa, hall, q⟩ := h
    have hr6 : Room 6 (A.deeper (envOfC "_law_letter_right" (defScope s__law_letter_right) s.heap.objs.size f cdv)) := hr
    have hu64 : (A.deeper (envOfC "_law_letter_right" (defScope s__law_letter_right) s.heap.objs.size f cdv)).units + 64 < cLine := by
      have := hr.un
      omega
    have hu1 : (A.deeper (envOfC "_law_letter_right" (defScope s__law_letter_right) s.heap.objs.size f cdv)).units + 1 < cLine := by omega
    refine ⟨_, (pss_cons (ps_set (i := 4) sc__law_letter_right.nd rfl (Or.inl rfl) (pe_call GY (hr.mono (by decide)) (by rfl) gY FY.kp bY .nil pass0 (pa_cons (pv 1) (pa_cons (pv 3) (pa_cons pe_bl pa_nil)))))
      (pss_cons (ps_set (i := 5) sc__law_letter_right.nd rfl (Or.inr rfl) (pe_dget1 hu1 (pv 4) pe_str ⟨rfl, rfl, rfl, rfl⟩))
      (pss_cons (ps_set (i := 6) sc__law_letter_right.nd rfl (Or.inl rfl) (Mq.pe_ls (pa_cons (pe_call GC (hr.mono (by decide)) (by rfl) gC FC.kp bC .nil pass0 (pa_cons (pv 2) (pa_cons (pv 3) pa_nil))) (pa_cons (Mq.pe_callK0 (E := fun _ => E0) GC (hr.mono (by decide)) (by rfl) gC FC.kp kC (fun _ => cx0_at) (pk_cons (pv 3) (pk_cons (pv 2) pk_nil))) (pa_cons (pe_call GG (hr.mono (by decide)) (by rfl) gG FG.kp bG .nil pass0 (pa_cons (pv 2) (pa_cons (pv 3) pa_nil))) (pa_cons (Mq.pe_callK0 (E := fun _ => E0) GG (hr.mono (by decide)) (by rfl) gG FG.kp kG (fun _ => cx0_at) (pk_cons (pv 3) (pk_cons (pv 2) pk_nil))) pa_nil))))))
      (pss_cons (ps_if (pt_cmpR op_ne (pe_callB (call_rep hr gA) (by rfl) B.repr (by decide +kernel) (pa_cons (pv 6) pa_nil)) (pe_callB (call_repP hr gA) (by rfl) B.repr (by decide +kernel) (pa_cons (pe_op op_cat (pe_op op_rep (Mq.pe_ls (pa_cons (pe_cmpR op_notN (pv 5) pe_non (nomark _)) pa_nil)) pe_int) (pe_op op_rep (Mq.pe_ls (pa_cons (pv 5) pa_nil)) pe_int)) pa_nil)) (nomark _)) (pss_one ps_dead) pss_nil)
      (pss_cons (ps_set (i := 7) sc__law_letter_right.nd rfl (Or.inl rfl) (Mq.pe_ls (pa_cons (pe_call GJ (hr.mono (by decide)) (by rfl) gJ FJ.kp bJ .nil pass0 (pa_cons (pv 2) (pa_cons (pv 3) pa_nil))) (pa_cons (Mq.pe_callK0 (E := fun _ => E0) GJ (hr.mono (by decide)) (by rfl) gJ FJ.kp kJ (fun _ => cx0_at) (pk_cons (pv 3) (pk_cons (pv 2) pk_nil))) pa_nil))))
      (pss_cons (ps_if (pt_cmpR (op_neD hu64) (pe_lc (own := [("_law_it", 8)]) (g := gName 8) rfl sc__law_letter_right.nd (pi_list (pv 7)) (blkOk_by (own := [("_law_it", 8)]) (N := ["_law_deck_here", "_law_w", "_law_code_here", "_law_x", "_law_ways_here", "_law_due", "_law_told", "_law_sheets", "_law_it", "_law_was", "_law_held"]) (sc := defScope s__law_letter_right) (by decide +kernel)) (fun _ _ _ _ _ => pg_name (i := 8) sc__law_letter_right.nd rfl (Or.inl rfl)) (fun _ _ _ _ _ => pts_one (PW.pt (pw_or (pt_cmpR op_ne (pe_ix (ix_tupK (K := K) rfl) (pv 8) pe_int (fun _ _ => rfl)) (pe_ifExp (pt_cmpR op_isN (pv 5) pe_non (nomark _)) pe_str pe_str) (nomark _)) (pw_or1 (pt_not (pt_val (pe_call GI (hr.mono (by decide)) (by rfl) gI FI.kp bI .nil pass0 (pa_cons (pv 1) (pa_cons (pv 3) (pa_cons (pv 8) pa_nil)))))))))) (fun _ _ _ _ _ => (pv 8))) (Mq.pe_ls pa_nil) (nomark _)) (pss_one ps_dead) pss_nil)
      (pss_cons (ps_for (passes_of rfl) rfl (pi_list (pe_op op_cat (pv 7) (pe_call GP (hr.mono (by decide)) (by rfl) gP FP.kp bP .nil pass0 (pa_cons (pv 0) (pa_cons (pv 1) (pa_cons (pv 3) pa_nil)))))) (pg_name (i := 8) sc__law_letter_right.nd rfl (Or.inl rfl))
        (pss_cons (ps_asg (pe_tup (pa_cons (pe_call GI (hr.mono (by decide)) (by rfl) gI FI.kp bI .nil pass0 (pa_cons (pv 1) (pa_cons (pv 3) (pa_cons (pv 8) pa_nil)))) (pa_cons (pe_callB (call_rep hr gA) (by rfl) B.repr (by decide +kernel) (pa_cons (pv 8) pa_nil)) pa_nil))) (pg_tup rfl (pgs_cons (pg_name (i := 5) sc__law_letter_right.nd rfl (Or.inr rfl)) (pgs_cons (pg_name (i := 9) sc__law_letter_right.nd rfl (Or.inl rfl)) pgs_nil))))
        (pss_cons (ps_set (i := 10) sc__law_letter_right.nd rfl (Or.inl rfl) (Mq.pe_ls (pa_cons (pe_call GH (hr.mono (by decide)) (by rfl) gH FH.kp bH .nil pass0 (pa_cons (pv 2) (pa_cons (pv 3) (pa_cons (pv 8) pa_nil)))) (pa_cons (Mq.pe_callK0 (E := fun _ => E0) GH (hr.mono (by decide)) (by rfl) gH FH.kp kH (fun _ => cx0_at) (pk_cons (pv 8) (pk_cons (pv 3) (pk_cons (pv 2) pk_nil)))) pa_nil))))
        (pss_one (ps_if (pt_cmpR op_ne (pe_callB (call_repP hr gA) (by rfl) B.repr (by decide +kernel) (pa_cons (pe_op op_cat (pv 10) (Mq.pe_ls (pa_cons (pe_callB (call_rep hr gA) (by rfl) B.repr (by decide +kernel) (pa_cons (pv 8) pa_nil)) pa_nil))) pa_nil)) (pe_callB (call_rep hr gA) (by rfl) B.repr (by decide +kernel) (pa_cons (Mq.pe_ls (pa_cons (pv 5) (pa_cons (pv 5) (pa_cons (pv 9) pa_nil)))) pa_nil)) (nomark _)) (pss_one ps_dead) pss_nil)))))
      (pss_one (ps_ret pe_bl))))))))), ?_⟩
    have hle : ∀ a c, leftM fs a c = leftM gs a c := fun a c => left_eq hg.nd hp a c
    refine ⟨_, rfl, _, rfl, wd, ld, sg, gs, x, true, rfl, hw, hg, hs, hx, fun H1 d R s1 hdn hd hB hI => ?_⟩
    refine ⟨_, rfl, d, rfl, Or.inl ⟨_, .inl hd⟩, _, DGet.k (k := .inr (S [])) hd, ?_⟩
    rw [rows_val]
    have e0 : ((lookK R []).map fun r => V.str (S r)).getD .non = optZ (lookK R []) := by cases lookK R [] <;> rfl
    rw [e0]
    have key : ∀ R', Bfs fs sg false [([x], [])] [(x, [])] R' → firstGo fs sg (pend R') = lookK R [] := fun R' b' => (ways_told (bfs_eq (fun a c => (hle a c).symm) hB) b').symm
    generalize lookK R [] = o at key ⊢
    clear e0 hd hdn hI hB
    have hb1 := hb.same s1
    refine ⟨_, rfl, _, rfl, r, fa, ta, sg, fs, x, rfl, hb1, hfs, hs, hx, fun H2 R2 s2 hB2 hI2 => ?_⟩
    have k2 := key R2 hB2
    rw [k2]
    have ol : ∀ w, o = some w → okT w := by
      intro w hw
      rw [hw] at k2
      obtain ⟨_, a, b⟩ := goes_ok hI2 k2
      exact ⟨by omega, fun c hc => hs.low c (a c hc)⟩
    clear k2 hB2 hI2 R2
    have s02 := s1.trans s2
    refine ⟨_, rfl, _, rfl, rfl, r, fa, ta, sg, fs, x, rfl, hb.same s02, hfs, hs, hx, fun H3 R3 s3 hB3 hI3 => ?_⟩
    rw [key R3 hB3]
    have s03 := s02.trans s3
    refine ⟨_, rfl, _, rfl, r, fa, ta, sg, fs, x, rfl, hb.same s03, hfs, hs, hx, fun H4 R4 s4 hB4 hI4 => ?_⟩
    rw [key R4 hB4]
    have s04 := s03.trans s4
    refine ⟨_, rfl, _, rfl, rfl, r, fa, ta, sg, fs, x, rfl, hb.same s04, hfs, hs, hx, fun H5 R5 s5 hB5 hI5 => ?_⟩
    rw [key R5 hB5]
    have s05 := s04.trans s5
    refine ⟨sz_le (n := 4) (by decide), fun pt hpt hnt => ?_⟩
    have t6 := same_new (o := HO.lst [V.bl o.isSome, .bl o.isSome, optZ o, optZ o]) hpt
    have z6 : upd H5 pt (.lst [V.bl o.isSome, .bl o.isSome, optZ o, optZ o]) pt = some (.lst [V.bl o.isSome, .bl o.isSome, optZ o, optZ o]) := upd_same
    have s06 := s05.trans t6
    generalize upd H5 pt (.lst [V.bl o.isSome, .bl o.isSome, optZ o, optZ o]) = H6 at z6 s06 ⊢
    clear t6 s5 hB5 hI5 s4 hB4 hI4 s3 hB3 hI3 s2 s1 s02 s03 s04 s05 hb1 hpt R3 R4 R5
    have hdO : ∀ H', Dg K H' (optZ o) (optDt o) := fun H' => by
      cases o with
      | none => exact .non
      | some w => exact .str _
    have hpO : ∀ H', Dp K H' (optZ o) (optDt o) := fun H' => by
      cases o with
      | none => exact .non
      | some w => exact .str _
    have gO : Gs 20 0 (optDt o) := by
      cases o with
      | none => exact gs_of (by decide +kernel)
      | some w => exact gs_okT (ol w rfl)
    have okD : ShowOk (.list [.bool o.isSome, .bool o.isSome, (optDt o), (optDt o)]) := (gs_lst (w := 20) (n := 0) (m := 4) (ds := [.bool o.isSome, .bool o.isSome, (optDt o), (optDt o)]) (fun y hy => by
      simp only [List.mem_cons, List.not_mem_nil, or_false] at hy
      rcases hy with rfl | rfl | rfl | rfl
      · exact gs_bool _
      · exact gs_bool _
      · exact gO
      · exact gO) (Nat.le_refl 4)).ok (by decide) (by decide)
    have nod : (PyData.list [.bool o.isSome, .bool o.isSome, (optDt o), (optDt o)]).hasDict = false := by
      cases o <;> rfl
    refine ⟨_, rfl, _, .list [.bool o.isSome, .bool o.isSome, (optDt o), (optDt o)], rfl, .lst hnt (SqL.of z6) (.cons (.bl _) (.cons (.bl _) (.cons (hdO _) (.cons (hdO _) .nil)))), okD.sh, okD.de, okD.le, ?_⟩
    refine ⟨_, rfl, rfl, ?_⟩
    rw [show (!decide (optZ o = V.non)) = o.isSome by rw [opt_non]; cases o <;> rfl]
    refine ⟨sz_le (n := 1) (by decide), fun p1 hp1 _ => ⟨p1, 2, _, rfl, rfl, upd_same, by decide, by decide, sz_le (n := 2) (by decide), fun p2 hp2 => ?_⟩⟩
    have s8 := (same_new (o := HO.lst [V.bl o.isSome]) hp1).trans (same_new (o := HO.lst (List.replicate (2 : Int).toNat [V.bl o.isSome]).flatten) hp2)
    have z8 : upd (upd H6 p1 (.lst [V.bl o.isSome])) p2 (.lst (List.replicate (2 : Int).toNat [V.bl o.isSome]).flatten) p2 = some (.lst [V.bl o.isSome, V.bl o.isSome]) := upd_same
    generalize upd (upd H6 p1 (.lst [V.bl o.isSome])) p2 (.lst (List.replicate (2 : Int).toNat [V.bl o.isSome]).flatten) = H8 at s8 z8 ⊢
    refine ⟨_, rfl, sz_le (n := 1) (by decide), fun p3 hp3 _ => ⟨p3, 2, _, rfl, rfl, upd_same, by decide, by decide, sz_le (n := 2) (by decide), fun p4 hp4 => ?_⟩⟩
    have s10 := (same_new (o := HO.lst [optZ o]) hp3).trans (same_new (o := HO.lst (List.replicate (2 : Int).toNat [optZ o]).flatten) hp4)
    have z10 : upd (upd H8 p3 (.lst [optZ o])) p4 (.lst (List.replicate (2 : Int).toNat [optZ o]).flatten) p4 = some (.lst [optZ o, optZ o]) := upd_same
    have z8 := s10 _ _ z8
    have s610 := s8.trans s10
    generalize upd (upd H8 p3 (.lst [optZ o])) p4 (.lst (List.replicate (2 : Int).toNat [optZ o]).flatten) = H10 at s610 z10 z8 ⊢
    refine ⟨p2, p4, _, _, rfl, rfl, z8, z10, sz_le (n := 4) (by decide), fun p5 hp5 => ?_⟩
    have s11 := same_new (o := HO.lst ([V.bl o.isSome, V.bl o.isSome] ++ [optZ o, optZ o])) hp5
    refine ⟨p5, .list [.bool o.isSome, .bool o.isSome, (optDt o), (optDt o)], rfl, .lst (SqL.of upd_same) (.cons (.bl _) (.cons (.bl _) (.cons (hpO _) (.cons (hpO _) .nil)))), okD.sh, nod, okD.de, okD.le, ?_⟩
    refine ⟨rfl, _, rfl, ifF (by rw [decide_eq_true rfl]; rfl) ?_⟩
    have s011 := (s06.trans s610).trans s11
    generalize upd H10 p5 (.lst ([V.bl o.isSome, V.bl o.isSome] ++ [optZ o, optZ o])) = H11 at s011 ⊢
    clear s11 hp5 z10 z8 s610 s10 s8 hp4 hp3 hp2 hp1 z6 s06 okD nod hdO hpO gO
    refine ⟨_, rfl, _, rfl, r, fa, ta, sg, fs, x, rfl, hb.same s011, hfs, hs, hx, fun H12 R12 lot12 j1 s12 hB12 hI12 hL12 z12 => ?_⟩
    have sh1 := sheet_of hg hp hle hs h3 hI12 hL12 z12 rfl
    rw [key R12 hB12] at sh1
    have s012 := s011.trans s12
    refine ⟨_, rfl, _, rfl, rfl, r, fa, ta, sg, fs, x, rfl, hb.same s012, hfs, hs, hx, fun H13 R13 lot13 j2 s13 hB13 hI13 hL13 z13 => ?_⟩
    have sh2 := sheet_of hg hp hle hs h3 hI13 hL13 z13 rfl
    rw [key R13 hB13] at sh2
    have sh1 := sh1.same s13
    refine ⟨sz_le (n := 2) (by decide), fun LS hLS hnS => ?_⟩
    have nLS := new_ne (hdk.same (s012.trans s13)) hLS
    have t14 := same_new (o := HO.lst [V.ref j1, .ref j2]) hLS
    have sh1 := sh1.same t14
    have sh2 := sh2.same t14
    have zS : upd H13 LS (.lst [V.ref j1, .ref j2]) LS = some (.lst [V.ref j1, .ref j2]) := upd_same
    have s014 := (s012.trans s13).trans t14
    generalize upd H13 LS (.lst [V.ref j1, .ref j2]) = H14 at zS sh1 sh2 s014 ⊢
    clear t14 hLS s13 s012 s12 s011 z12 z13 hL12 hL13 hI12 hI13 hB12 hB13
    have shs : ∀ v ∈ [V.ref j1, .ref j2], SheetAt K H14 o gs sg x v := fun v hv => by
      simp only [List.mem_cons, List.not_mem_nil, or_false] at hv
      rcases hv with rfl | rfl
      · exact sh1
      · exact sh2
    clear sh1 sh2
    generalize hyy : [V.ref j1, .ref j2] = ys at zS shs ⊢
    have hyl : ys.length = 2 := by rw [← hyy]; rfl
    clear hyy
    refine ⟨_, rfl, LS, rfl, ⟨_, SqL.of zS⟩, fun M hM => ?_⟩
    refine lc_it (walk_list (K := K) (a := LS) (xs := ys)) (fun i H' => Same H14 H' ∧ H' M = some (.lst [])) ⟨same_new hM, upd_same⟩ (fun i H' _ q => SqL.of (q.1 _ _ zS)) ?_ ?_
    · rintro i y H15 H15' hi ⟨s15, zM⟩ ⟨rfl, hy⟩
      obtain ⟨pj, l, rfl, hz, h1, h2, hth⟩ := (shs y (List.mem_of_getElem? hy)).same s15
      have a0 : atI [V.str (headS o), V.str (S l)] 0 = some (.str (headS o)) := atI_nat (j := 0) rfl
      refine ⟨rfl, ?_⟩
      refine ⟨_, rfl, pj, _, 0, _, rfl, rfl, hz, a0, _, rfl, rfl, _, rfl, ?_⟩
      have hw15 := hw.same (s014.trans s15)
      have lo : ∀ k l' : Str, PyData.tuple [.str (headS o), .str (S l)] = .tuple [.str k, .str l'] → l'.length ≤ 58 ∧ ∀ c ∈ l'.cps.toList, c < 128 := fun k l' e => by
        injection e with e
        injection e with e1 e2
        injection e2 with e2 e3
        injection e2 with e2
        rw [← e2, SX.S_len]
        exact ⟨by omega, h2⟩
      have gl : ∀ k, Same H14 k → k M = some (.lst []) → Same H14 k ∧ k M = some (.lst []) := fun k a b => ⟨a, b⟩
      clear key ol shs
      cases o with
      | none =>
        refine ifT rfl ⟨rfl, _, rfl, ifF (by rw [decide_eq_true (show V.str (headS none) = V.str "stays" from rfl)]; rfl) ?_⟩
        refine ⟨_, rfl, _, rfl, _, rfl, wd, ld, sg, gs, x, .ref pj, _, rfl, hw15, hg, hs, .tup hz (.cons (.str _) (.cons (.str _) .nil)), lo, fun H' s' => ?_⟩
        rw [hth]
        exact ⟨true, rfl, ifF rfl ⟨s15.trans s', s' _ _ zM⟩⟩
      | some row =>
        refine ifF rfl ⟨rfl, _, rfl, ifF (by rw [decide_eq_true (show V.str (headS (some row)) = V.str "goes" from rfl)]; rfl) ?_⟩
        refine ⟨_, rfl, _, rfl, _, rfl, wd, ld, sg, gs, x, .ref pj, _, rfl, hw15, hg, hs, .tup hz (.cons (.str _) (.cons (.str _) .nil)), lo, fun H' s' => ?_⟩
        rw [hth]
        exact ⟨true, rfl, ifF rfl ⟨s15.trans s', s' _ _ zM⟩⟩
    · rintro H15 ⟨s15, zM⟩
      refine ⟨sz_le (n := 0) (by decide), fun p6 hp6 _ => ?_⟩
      have s16 := s15.trans (same_new (o := HO.lst []) hp6)
      refine ⟨_, _, .lst (SqL.of (same_new hp6 _ _ zM)) .nil, .lst (SqL.of upd_same) .nil, rfl, rfl, _, rfl, ifF rfl ?_⟩
      have s016 := s014.trans s16
      have zS16 := s16 _ _ zS
      have shs16 := fun v hv => (shs v hv).same s16
      generalize upd H15 p6 (.lst []) = H16 at s016 zS16 shs16 ⊢
      clear s16 zM s15 hM zS shs s014
      have dk16 := hdk.same s016
      refine ⟨_, rfl, _, rfl, _, rfl, _, rfl, D, Cc, T, wd, ld, sg, gs, x, rfl, dk16, by omega, hw.same s016, hg, hs, hx, h3, fun H17 pp us dk17 off17 zpp hul hus => ?_⟩
      have zS17 := off17 _ _ nLS.1 nLS.2 zS16
      have off017 : Off D Cc H H17 := (Off.same s016).trans off17
      have good : ∀ v ∈ ys ++ us, GoodV K H17 v := by
        intro v hv
        rcases List.mem_append.mp hv with hv | hv
        · obtain ⟨p, l, a, b, c⟩ := shs16 v hv
          exact SheetAt.good (o := o) (gs := gs) (sg := sg) (x := x) ⟨p, l, a, off17.tup dk16 b, c⟩
        · exact (hus v hv).good (Nat.le_refl _) (Nat.le_refl _)
      refine ⟨LS, pp, ys, us, rfl, rfl, zS17, zpp, sz_le (by omega), fun pl hpl => ?_⟩
      have t18 := same_new (o := HO.lst (ys ++ us)) hpl
      have zpl : upd H17 pl (.lst (ys ++ us)) pl = some (.lst (ys ++ us)) := upd_same
      have good := fun v hv => (good v hv).same t18
      have dk18 := dk17.same t18
      have off18 := off017.trans (Off.same t18)
      generalize upd H17 pl (.lst (ys ++ us)) = H18 at zpl good dk18 off18 ⊢
      generalize ys ++ us = zs at zpl good ⊢
      clear hpl zS17 off017 hus zpp off17 dk17 dk16 shs16 zS16 hul t18 s016
      have hw18 := hw.off off18 hdk
      have hb18 := hb.off off18 hdk
      have hfa18 := off18.tup hdk hfa
      have hall18 : FdAll K H18 xs fs := hall.kp (KpT.off off18 hdk)
      refine ⟨pl, rfl, ⟨_, SqL.of zpl⟩, ?_⟩
      refine for_it (walk_list (K := K) (a := pl) (xs := zs)) (fun i σ H' => Same H18 H' ∧ ∃ o5 o8 o9 o10, σ = [some (.ref D), some (.ref wd), some (.ref r), some (.str (S [x])), some (.ref d), o5, some (.ref pt), some (.ref LS), o8, o9, o10]) ⟨Same.refl _, _, _, _, _, rfl⟩ (fun i σ H' _ q => SqL.of (q.1 _ _ zpl)) ?_ ?_
      · rintro i y σ H19 H19' hi ⟨s19, o5, o8, o9, o10, rfl⟩ ⟨rfl, hy⟩
        obtain ⟨dd, hdg, ok⟩ := (good y (List.mem_of_getElem? hy)).same s19
        have okd := ok.gs.ok (by decide) (by decide)
        have hwe : dd.weight ≤ 1000 := Nat.le_trans ok.gs.we (by decide)
        have tq : thingB fs sg x dd = thingB gs sg x dd := thing_eq hle hp sg x dd
        refine ⟨_, rfl, _, rfl, _, rfl, wd, ld, sg, gs, x, y, dd, rfl, hw18.same s19, hg, hs, hdg, ok.two, fun H20 s20 => ?_⟩
        generalize thingB gs sg x dd = b at tq ⊢
        refine ⟨_, rfl, _, dd, rfl, hdg.same s20, okd.sh, okd.de, okd.le, sz_le (n := 2) (by decide), fun p7 hp7 => ?_⟩
        have s21 := s20.trans (same_new (o := HO.tup [V.bl b, .str dd.shown]) hp7)
        refine ⟨p7, _, rfl, Or.inl (Or.inl upd_same), rfl, _, _, rfl, _, _, rfl, rfl, ?_⟩
        generalize upd H20 p7 (.tup [V.bl b, .str dd.shown]) = H21 at s21 ⊢
        clear s20 hp7
        refine ⟨_, rfl, _, rfl, _, rfl, r, fa, ta, sg, fs, xs, x, y, dd, rfl, hb18.same (s19.trans s21), hfs, Same.tup (s19.trans s21) hfa18, hall18.kp (KpT.same (s19.trans s21)), hdg.same s21, hwe, fun H22 s22 => ?_⟩
        rw [tq]
        have s022 := s21.trans s22
        refine ⟨_, rfl, _, rfl, _, rfl, rfl, r, fa, ta, sg, fs, xs, x, y, dd, rfl, hb18.same (s19.trans s022), hfs, Same.tup (s19.trans s022) hfa18, hall18.kp (KpT.same (s19.trans s022)), hdg.same s022, hwe, fun H23 s23 => ?_⟩
        rw [tq]
        refine ⟨sz_le (n := 2) (by decide), fun ph hph hnh => ?_⟩
        have t24 := same_new (o := HO.lst [V.bl b, .bl b]) hph
        have z24 : upd H23 ph (.lst [V.bl b, .bl b]) ph = some (.lst [V.bl b, .bl b]) := upd_same
        have s024 := (s022.trans s23).trans t24
        generalize upd H23 ph (.lst [V.bl b, .bl b]) = H24 at z24 s024 ⊢
        clear t24 hph s23 s022 s22 s21
        have gd : Gs (3 * (62 * 400 + 60 + 1)) (0 + 1) (.list [.bool b, .bool b, .str dd.shown]) := gs_lst (ds := [.bool b, .bool b, .str dd.shown]) (fun e he => by
          simp only [List.mem_cons, List.not_mem_nil, or_false] at he
          rcases he with rfl | rfl | rfl
          · exact gs_bool _
          · exact gs_bool _
          · exact ok.gs.shown) (Nat.le_refl 3)
        have okL := gd.ok (by decide) (by decide)
        refine ⟨_, rfl, _, rfl, _, dd, rfl, hdg.same s024, okd.sh, okd.de, okd.le, sz_le (n := 1) (by decide), fun p8 hp8 _ => ?_⟩
        have t25 := same_new (o := HO.lst [V.str dd.shown]) hp8
        refine ⟨ph, p8, _, _, rfl, rfl, t25 _ _ z24, upd_same, sz_le (n := 3) (by decide), fun p9 hp9 => ?_⟩
        have s026 := (s024.trans t25).trans (same_new (o := HO.lst ([V.bl b, .bl b] ++ [V.str dd.shown])) hp9)
        refine ⟨p9, .list [.bool b, .bool b, .str dd.shown], rfl, .lst (SqL.of upd_same) (.cons (.bl _) (.cons (.bl _) (.cons (.str _) .nil))), okL.sh, rfl, okL.de, okL.le, ?_⟩
        generalize upd (upd H24 p8 (.lst [V.str dd.shown])) p9 (.lst ([V.bl b, .bl b] ++ [V.str dd.shown])) = H26 at s026 ⊢
        refine ⟨_, rfl, _, rfl, _, rfl, sz_le (n := 3) (by decide), fun p10 hp10 hn10 => ?_⟩
        have s027 := s026.trans (same_new (o := HO.lst [V.bl b, .bl b, .str dd.shown]) hp10)
        refine ⟨_, .list [.bool b, .bool b, .str dd.shown], rfl, .lst hn10 (SqL.of upd_same) (.cons (.bl _) (.cons (.bl _) (.cons (.str _) .nil))), okL.sh, okL.de, okL.le, ?_⟩
        refine ⟨rfl, _, rfl, ifF (by rw [decide_eq_true rfl]; rfl) ?_⟩
        exact ⟨s19.trans s027, _, _, _, _, rfl⟩
      · rintro σ H19 ⟨s19, o5, o8, o9, o10, rfl⟩
        exact q H19 (dk18.same s19) (off18.trans (Off.same s19))
end
end Lw

namespace Lw
open PySem PySem.Spec PyProof.Rows L2 Mq
open SX (S)
/-! ### the law -/
def spLaw (K : PySem.W.Frag) : Sp := fun vs H Q _ => ∃ (a : Addr) (ns : List Int), vs = [.ref a] ∧ SqL K H a (ns.map V.int) ∧ ns.length ≤ 63 ∧ ∀ H', Q (.bl true) H'
def farS : List Nat := [97, 98, 99]
def farF : List Fd := [⟨97, 97, [98]⟩, ⟨97, 99, [98]⟩, ⟨98, 98, [99]⟩, ⟨99, 97, []⟩]
theorem far_ok : FsOk farS farF := by
  refine ⟨by decide, fun f hf => ?_, fun i j hij hj => ?_⟩
  · unfold farF at hf
    simp only [List.mem_cons, List.not_mem_nil, or_false] at hf
    rcases hf with rfl | rfl | rfl | rfl
    · exact ⟨by decide, by decide, Or.inr ⟨98, by decide, rfl⟩⟩
    · exact ⟨by decide, by decide, Or.inr ⟨98, by decide, rfl⟩⟩
    · exact ⟨by decide, by decide, Or.inr ⟨99, by decide, rfl⟩⟩
    · exact ⟨by decide, by decide, Or.inl rfl⟩
  · have key : ∀ j, j < 4 → ∀ i, i < j → ((farF[i]?).bind fun f => (farF[j]?).map fun g => ltSS (keyF f) (keyF g)) = some true := by decide +kernel
    intro f g hf hg
    have h := key j hj i hij
    rw [hf, hg] at h
    exact Option.some.inj h
theorem far_sg : SgOk farS := ⟨by decide, by decide, by unfold farS; decide, by decide +kernel⟩
def farR (x : Nat) : List Nat := if x = 97 then [97, 98, 97] else if x = 98 then [98, 97] else [97]
theorem far_go {x : Nat} (hx : x ∈ farS) {R : List Rw} (h : Bfs farF farS false [([x], [])] [(x, [])] R) : firstGo farF farS (pend R) = some (farR x) := by
  have key : ∀ x ∈ farS, ∃ R0, bfsF farF farS false 20 [([x], [])] [(x, [])] = some R0 ∧ firstGo farF farS (pend R0) = some (farR x) := by
    unfold farS
    intro x hx
    simp only [List.mem_cons, List.not_mem_nil, or_false] at hx
    rcases hx with rfl | rfl | rfl
    · exact ⟨_, rfl, by decide +kernel⟩
    · exact ⟨_, rfl, by decide +kernel⟩
    · exact ⟨_, rfl, by decide +kernel⟩
  obtain ⟨R0, e1, e2⟩ := key x hx
  rw [h.det (Bfs.of e1)]
  exact e2
section
variable {P : Program} {w : World} {K : PySem.W.Frag} {mg : Str → Option Value} {base : Heap} {C : Addr}
theorem ok_law {f fI fQ fD fO fK fR fG : Addr} {fd fdI fdQ fdD fdO fdK fdR fdG : FuncData} (F : Fun K "law" "law" s_law f fd) (B : Blt mg) (R : BkC K C)
    (gC : mg "Book" = some (.ref C)) (M : Mk K C fI) (bI : Binds K fdI ["self", "letters", "folds"] []) (GI : FnOk P w K mg base CX0 3 fI fdI ["self", "letters", "folds"] (spBook K C))
    (qf : PySem.W.findIn K (.ref C) "__eq__" = some (some (.ref fQ))) (qi : PySem.W.isFn K (.ref fQ) = true) (bQ : Binds K fdQ ["self", "other"] []) (GQ : FnOk P w K mg base CX0 3 fQ fdQ ["self", "other"] (spEq (EqB K C)))
    (FD : Fun K "_law_deck" "_law_deck" s__law_deck fD fdD) (gD : mg "_law_deck" = some (.ref fD)) (bD : Binds K fdD ["_law_script"] []) (GD : FnOk P w K mg base CX0 1 fD fdD ["_law_script"] (spDeck K))
    (FO : Fun K "_law_world" "_law_world" s__law_world fO fdO) (gO : mg "_law_world" = some (.ref fO)) (bO : Binds K fdO ["_law_deck_here"] []) (GO : FnOk P w K mg base CX0 3 fO fdO ["_law_deck_here"] spWorld)
    (FK : Fun K "_law_code" "_law_code" s__law_code fK fdK) (gK : mg "_law_code" = some (.ref fK)) (bK : Binds K fdK ["_law_w"] []) (GK : FnOk P w K mg base CX0 5 fK fdK ["_law_w"] (spCode K C))
    (FR : Fun K "_law_letter_right" "_law_letter_right" s__law_letter_right fR fdR) (gR : mg "_law_letter_right" = some (.ref fR)) (bR : Binds K fdR ["_law_deck_here", "_law_w", "_law_code_here", "_law_x"] []) (GR : FnG P w K mg base CX0 7 fR fdR ["_law_deck_here", "_law_w", "_law_code_here", "_law_x"] (spRight K C))
    (FG : Fun K "going_row" "going_row" s_going_row fG fdG) (gG : mg "going_row" = some (.ref fG)) (bG : Binds K fdG ["book", "letter"] []) (GG : FnOk P w K mg base CX0 3 fG fdG ["book", "letter"] (spGo C)) :
    FnG P w K mg base CX0 8 f fd ["_law_script"] (spLaw K) := by
  refine Mq.Fun.okG F sc_law (fun vs H Q E h => ?_) (fun cdv A outer s H vs Q E gA hr h => ?_)
  · obtain ⟨_, _, rfl, _⟩ := h
    rfl
  · obtain ⟨a, ns0, rfl, ha, hn0, q⟩ := h
    have hr7 : Room 7 (A.deeper (envOfC "law" (defScope s_law) s.heap.objs.size f cdv)) := hr
    have hr3 : Room 3 (A.deeper (envOfC "law" (defScope s_law) s.heap.objs.size f cdv)) := hr.mono (by decide)
    have hu64 : (A.deeper (envOfC "law" (defScope s_law) s.heap.objs.size f cdv)).units + 64 < cLine := by
      have := hr.un
      omega
    have hu1 : (A.deeper (envOfC "law" (defScope s_law) s.heap.objs.size f cdv)).units + 1 < cLine := by omega
    refine ⟨_, (pss_cons (ps_set (i := 1) sc_law.nd rfl (Or.inr rfl) (pe_call GD (hr.mono (by decide)) (by rfl) gD FD.kp bD .nil pass0 (pa_cons (pv 0) pa_nil)))
      (pss_cons (ps_for (passes_of rfl) rfl (pi_range1 (by rfl) B.range (pa_cons pe_int pa_nil)) (pg_name (i := 2) sc_law.nd rfl (Or.inl rfl))
        (pss_cons (ps_set (i := 3) sc_law.nd rfl (Or.inr rfl) (pe_call GO (hr.mono (by decide)) (by rfl) gO FO.kp bO .nil pass0 (pa_cons (pv 1) pa_nil)))
        (pss_cons (ps_set (i := 4) sc_law.nd rfl (Or.inr rfl) (pe_call GK (hr.mono (by decide)) (by rfl) gK FK.kp bK .nil pass0 (pa_cons (pv 3) pa_nil)))
        (pss_one (ps_if (PW.pt (pw_or (pt_cmpR (op_neD hu64) (pe_lc (own := [("_law_x", 6)]) (g := gName 6) rfl sc_law.nd (pi_str (pe_dget hu1 (pv 3) pe_str (fun _ _ => rfl))) (blkOk_by (own := [("_law_x", 6)]) (N := ["_law_script", "_law_deck_here", "_law_go", "_law_w", "_law_code_here", "_law_far", "_law_x"]) (sc := defScope s_law) (by decide +kernel)) (fun _ _ _ _ _ => pg_name (i := 6) sc_law.nd rfl (Or.inl rfl)) (fun _ _ _ _ _ => pts_one (pt_not (pt_val (Mq.pe_callG GR gA hr7 (by rfl) gR FR.kp bR pass0 (pa_cons (pv 1) (pa_cons (pv 3) (pa_cons (pv 4) (pa_cons (pv 6) pa_nil)))))))) (fun _ _ _ _ _ => (pv 6))) (Mq.pe_ls pa_nil) (nomark _)) (pw_or1 (pt_not (pt_cmpR (op_eqG (rcG_ins (E := fun _ _ _ => False) GQ qf qi bQ pass0) hr3) (pv 4) (pe_call GK (hr.mono (by decide)) (by rfl) gK FK.kp bK .nil pass0 (pa_cons (pv 3) pa_nil)) (nomark _)))))) (pss_one ps_dead) pss_nil)))))
      (pss_cons (ps_set (i := 5) sc_law.nd rfl (Or.inr rfl) (pe_make M GI (hr.mono (by decide)) (by rfl) gC bI .nil pass0 (pa_cons pe_str (pa_cons (pe_tup (pa_cons (pe_tup (pa_cons pe_str (pa_cons pe_str (pa_cons pe_str pa_nil)))) (pa_cons (pe_tup (pa_cons pe_str (pa_cons pe_str (pa_cons pe_str pa_nil)))) (pa_cons (pe_tup (pa_cons pe_str (pa_cons pe_str (pa_cons pe_str pa_nil)))) (pa_cons (pe_tup (pa_cons pe_str (pa_cons pe_str (pa_cons pe_str pa_nil)))) pa_nil))))) pa_nil))))
      (pss_one (ps_ret (pe_cmpR (op_eqD hu64) (pe_lc (own := [("_law_x", 6)]) (g := gName 6) (tt := tYes) rfl sc_law.nd (pi_str pe_str) (blkOk_by (own := [("_law_x", 6)]) (N := ["_law_script", "_law_deck_here", "_law_go", "_law_w", "_law_code_here", "_law_far", "_law_x"]) (sc := defScope s_law) (by decide +kernel)) (fun _ _ _ _ _ => pg_name (i := 6) sc_law.nd rfl (Or.inl rfl)) (fun _ _ _ _ _ => pts_nil) (fun _ _ _ _ _ => (pe_call GG (hr.mono (by decide)) (by rfl) gG FG.kp bG .nil pass0 (pa_cons (pv 5) (pa_cons (pv 6) pa_nil))))) (Mq.pe_ls (pa_cons pe_str (pa_cons pe_str (pa_cons pe_str pa_nil)))) (nomark _))))))), ?_⟩
    refine ⟨_, rfl, a, ns0, rfl, ha, hn0, fun H1 D Cc s1 dk1 => ?_⟩
    refine ⟨3, rfl, by decide, by decide, ?_⟩
    refine for_it (walk_rng (n := 3)) (fun go σ H' => DeckAt D Cc (1000 * go) H' ∧ ∃ o2 o3 o4, σ = [some (.ref a), some (.ref D), o2, o3, o4, none, none]) ⟨dk1, _, _, _, rfl⟩ (fun _ _ _ _ _ => trivial) ?_ ?_
    · rintro go x0 σ H2 H2' hgo ⟨dk2, o2, o3, o4, rfl⟩ ⟨rfl, rfl⟩
      refine ⟨_, rfl, D, Cc, _, rfl, dk2, by omega, fun H3 wd ld sg gs hm hgs hw3 dk3 _ => ?_⟩
      obtain ⟨hs, _, h3⟩ := menu_ok sg hm
      refine ⟨_, rfl, wd, ld, sg, gs, rfl, hw3, hgs, hs, fun H4 r fa ta fs xs hp hasc hfs hb4 hfa4 hal4 s4 => ?_⟩
      have dk4 := dk3.same s4
      have hw4 := hw3.same s4
      refine ⟨_, rfl, wd, _, rfl, DGet.k (k := .inr "letters") hw4.w, S sg, rfl, fun L hL => ?_⟩
      have nL := new_ne dk4 hL
      refine lc_it (walk_S sg) (fun i H' => DeckAt D Cc (1000 * go + 30 + 100 * i) H' ∧ Off D Cc H4 H' ∧ H' L = some (.lst [])) ⟨(dk4.same (same_new hL)).mono (by omega), Off.same (same_new hL), upd_same⟩ (fun _ _ _ _ => trivial) ?_ ?_
      · rintro i y H5 H5' hi ⟨dk5, off5, zL⟩ ⟨rfl, rfl⟩
        refine ⟨rfl, ?_⟩
        refine ⟨_, rfl, _, rfl, _, rfl, _, rfl, D, Cc, 1000 * go + 30 + 100 * i, wd, ld, r, fa, ta, sg, gs, fs, xs, sg.getD i 0, rfl, dk5, by omega, hw4.off off5 dk4, hgs, hs, h3, getD_mem hi, hp, hfs, hb4.off off5 dk4, off5.tup dk4 hfa4, hal4.kp (KpT.off off5 dk4), fun H6 dk6 off6 => ⟨true, rfl, ifF rfl ?_⟩⟩
        exact ⟨dk6.mono (by omega), off5.trans off6, off6 _ _ nL.1 nL.2 zL⟩
      · rintro H5 ⟨dk5, off5, zL⟩
        refine ⟨sz_le (n := 0) (by decide), fun p6 hp6 _ => ?_⟩
        have t6 := same_new (o := HO.lst []) hp6
        refine ⟨_, _, .lst (SqL.of (t6 _ _ zL)) .nil, .lst (SqL.of upd_same) .nil, rfl, rfl, _, rfl, ifF rfl ?_⟩
        have off6 := off5.trans (Off.same t6)
        have dk6 := dk5.same t6
        generalize upd H5 p6 (.lst []) = H6 at off6 dk6 ⊢
        have hw6 := hw4.off off6 dk4
        have hb6 := hb4.off off6 dk4
        have hfa6 := off6.tup dk4 hfa4
        have hal6 : FdAll K H6 xs fs := hal4.kp (KpT.off off6 dk4)
        refine ⟨_, rfl, _, rfl, wd, ld, sg, gs, rfl, hw6, hgs, hs, fun H8 r' fa' ta' fs' xs' hp' hasc' hfs' hb8 hfa8 hal8 s8 => ?_⟩
        have ef : fs' = fs := asc_uniq hasc' hasc (hp'.trans hp.symm)
        subst ef
        have hb68 := hb6.same s8
        obtain ⟨⟨dx, i1⟩, j1⟩ := hb68
        obtain ⟨⟨dx', i2⟩, j2⟩ := hb8
        refine ⟨⟨r, r', dx, dx', _, _, rfl, rfl, i1, i2, sg, _, fa, ta, fa', ta', xs, xs', ⟨⟨dx, i1⟩, j1⟩, ⟨⟨dx', i2⟩, j2⟩, Same.tup s8 hfa6, hal6.kp (KpT.same s8), hfa8, hal8⟩, fun H9 e9 => ⟨true, rfl, ifF rfl ?_⟩⟩
        exact ⟨((dk6.same s8).same e9).mono (by omega), _, _, _, rfl⟩
    · rintro σ H2 ⟨dk2, o2, o3, o4, rfl⟩
      have e0 : V.str "abc" = V.str (S farS) := by decide +kernel
      have e1 : [V.str "a", V.str "a", V.str "b"] = fdV ⟨97, 97, [98]⟩ := by decide +kernel
      have e2 : [V.str "a", V.str "c", V.str "b"] = fdV ⟨97, 99, [98]⟩ := by decide +kernel
      have e3 : [V.str "b", V.str "b", V.str "c"] = fdV ⟨98, 98, [99]⟩ := by decide +kernel
      have e4 : [V.str "c", V.str "a", V.str ""] = fdV ⟨99, 97, []⟩ := by decide +kernel
      refine ⟨sz_le (n := 3) (by decide), fun p1 hp1 => ?_⟩
      rw [e1]
      have t1 := same_new (o := HO.tup (fdV ⟨97, 97, [98]⟩)) hp1
      have z1 : SqT K (upd H2 p1 (.tup (fdV ⟨97, 97, [98]⟩))) p1 (fdV ⟨97, 97, [98]⟩) := Or.inl (Or.inl upd_same)
      generalize upd H2 p1 (.tup (fdV ⟨97, 97, [98]⟩)) = G1 at z1 ⊢
      refine ⟨sz_le (n := 3) (by decide), fun p2 hp2 => ?_⟩
      rw [e2]
      have t2 := same_new (o := HO.tup (fdV ⟨97, 99, [98]⟩)) hp2
      have z2 : SqT K (upd G1 p2 (.tup (fdV ⟨97, 99, [98]⟩))) p2 (fdV ⟨97, 99, [98]⟩) := Or.inl (Or.inl upd_same)
      have z1 := Same.tup t2 z1
      generalize upd G1 p2 (.tup (fdV ⟨97, 99, [98]⟩)) = G2 at z1 z2 ⊢
      refine ⟨sz_le (n := 3) (by decide), fun p3 hp3 => ?_⟩
      rw [e3]
      have t3 := same_new (o := HO.tup (fdV ⟨98, 98, [99]⟩)) hp3
      have z3 : SqT K (upd G2 p3 (.tup (fdV ⟨98, 98, [99]⟩))) p3 (fdV ⟨98, 98, [99]⟩) := Or.inl (Or.inl upd_same)
      have z1 := Same.tup t3 z1
      have z2 := Same.tup t3 z2
      generalize upd G2 p3 (.tup (fdV ⟨98, 98, [99]⟩)) = G3 at z1 z2 z3 ⊢
      refine ⟨sz_le (n := 3) (by decide), fun p4 hp4 => ?_⟩
      rw [e4]
      have t4 := same_new (o := HO.tup (fdV ⟨99, 97, []⟩)) hp4
      have z4 : SqT K (upd G3 p4 (.tup (fdV ⟨99, 97, []⟩))) p4 (fdV ⟨99, 97, []⟩) := Or.inl (Or.inl upd_same)
      have z1 := Same.tup t4 z1
      have z2 := Same.tup t4 z2
      have z3 := Same.tup t4 z3
      generalize upd G3 p4 (.tup (fdV ⟨99, 97, []⟩)) = G4 at z1 z2 z3 z4 ⊢
      refine ⟨sz_le (n := 4) (by decide), fun p5 hp5 => ?_⟩
      have t5 := same_new (o := HO.tup [V.ref p1, .ref p2, .ref p3, .ref p4]) hp5
      have z5 : SqT K (upd G4 p5 (.tup [V.ref p1, .ref p2, .ref p3, .ref p4])) p5 [V.ref p1, .ref p2, .ref p3, .ref p4] := Or.inl (Or.inl upd_same)
      have za : FdAll K (upd G4 p5 (.tup [V.ref p1, .ref p2, .ref p3, .ref p4])) [V.ref p1, .ref p2, .ref p3, .ref p4] farF := .cons ⟨p1, rfl, Same.tup t5 z1⟩ (.cons ⟨p2, rfl, Same.tup t5 z2⟩ (.cons ⟨p3, rfl, Same.tup t5 z3⟩ (.cons ⟨p4, rfl, Same.tup t5 z4⟩ .nil)))
      generalize upd G4 p5 (.tup [V.ref p1, .ref p2, .ref p3, .ref p4]) = G5 at z5 za ⊢
      refine fun x dx hx hdx hne => ⟨x, dx, p5, farS, farF, [V.ref p1, .ref p2, .ref p3, .ref p4], by rw [← e0]; rfl, upd_same, ?_, ?_, far_ok, far_sg, fun G6 ta hbk keep => ⟨rfl, ?_⟩⟩
      · exact Same.tup (same_new ((upd_ne (Ne.symm hne)).trans hx)) (Same.tup (same_new hdx) z5)
      · exact (za.kp (KpT.same (same_new hdx))).kp (KpT.same (same_new ((upd_ne (Ne.symm hne)).trans hx)))
      refine ⟨S farS, e0 ▸ rfl, fun L hL => ?_⟩
      have e5 : [V.str "aba", V.str "ba", V.str "a"] = [V.str (S [97, 98, 97]), V.str (S [98, 97]), V.str (S [97])] := by decide +kernel
      refine lc_yes (walk_S farS) (fun i H' => Same G6 H' ∧ H' L = some (.lst ((farS.take i).map fun x => V.str (S (farR x))))) ⟨same_new hL, upd_same⟩ (fun _ _ _ _ => trivial) ?_ ?_
      · rintro i y J1 J1' hi ⟨s7, zL⟩ ⟨rfl, rfl⟩
        refine ⟨rfl, ?_⟩
        refine ⟨_, rfl, _, rfl, x, p5, ta, farS, farF, farS.getD i 0, rfl, hbk.same s7, far_ok, far_sg, getD_mem hi, fun J2 R2 s8 hB _ => ?_⟩
        rw [far_go (getD_mem hi) hB]
        have zL8 := s8 _ _ zL
        refine ⟨_, zL8, sz_lt (by rw [List.length_map, List.length_take]; show min i 3 ≤ 1000000; omega), push_same hL (s7.trans s8), ?_⟩
        rw [upd_same]
        have et : farS.take (i + 1) = farS.take i ++ [farS.getD i 0] := by
          rw [List.take_succ_eq_append_getElem hi, List.getD_eq_getElem?_getD, List.getElem?_eq_getElem hi]
          rfl
        rw [et, List.map_append]
        rfl
      · rintro J1 ⟨s7, zL⟩
        refine ⟨sz_le (n := 3) (by decide), fun p6 hp6 _ => ?_⟩
        rw [e5]
        have t6 := same_new (o := HO.lst [V.str (S [97, 98, 97]), V.str (S [98, 97]), V.str (S [97])]) hp6
        refine ⟨.list [.str (S [97, 98, 97]), .str (S [98, 97]), .str (S [97])], .list [.str (S [97, 98, 97]), .str (S [98, 97]), .str (S [97])], .lst (SqL.of (t6 _ _ zL)) (.cons (.str _) (.cons (.str _) (.cons (.str _) .nil))), .lst (SqL.of upd_same) (.cons (.str _) (.cons (.str _) (.cons (.str _) .nil))), by decide +kernel, by decide +kernel, ?_⟩
        rw [show PyData.eqv (.list [.str (S [97, 98, 97]), .str (S [98, 97]), .str (S [97])]) (.list [.str (S [97, 98, 97]), .str (S [98, 97]), .str (S [97])]) = true by decide +kernel]
        exact q _
end
end Lw

namespace Mq
open PySem PySem.Spec PySem.W PySem.Calls PySem.HandSPX PyProof.Rows
/-! ### an own error made by keywords -/
section
variable {M : Model} {A : Around} {E : Value → Shared → Prop} {h : Heap} {g : Array GenState} {dr : Drawn} {tk : Nat} {os : OsState}
variable {nm q : Str} {C N : Addr} {bs bm bmB : List Value} {hd : Bool} {sn : List Str} {sub : List Value} {ab : Bool} {col : Option Bool} {dd : Option Addr} {k0 k1 k2 k3 k5 : Option Value} {B newId initId : String}
theorem new_fine (F : ExcBaseFacts B newId initId bmB) (same : ∀ X : String, bm.contains (.type X) = bmB.contains (.type X)) {us : List Value} {kw : List (Str × Value)} {Q : Unit → Shared → Prop}
    (at' : h.get? C = some (excClassObj nm q C N bs bm hd sn sub ab col dd k0 k1 k2 k3 k5 newId)) (done : Q () ⟨h, g, dr, tk, os⟩) : wpAny M A (checkBuiltinCall newId ⟨.ref C :: us, kw⟩) Q E ⟨h, g, dr, tk, os⟩ := by
  have below : (Value.ref C :: bm).contains (.type B) = true := by rw [List.contains_cons, same, F.hasB, Bool.or_true]
  have ns := F.noStar
  simp only [checkBuiltinCall, F.newKind, F.newSplit, F.newRow]
  repeat (first
    | refine wpAny_loadPart_at at' ?_
    | (refine wpAny_isSubtype_exc at' ?_; rw [below])
    | refine wpAny_staticBase_exc at' ?_
    | refine wpAny_madeBy_exc at' ?_
    | simp only [bne_self_eq_false, Bool.false_eq_true, if_false]
    | wp_step)
  exact done
end
section
variable {prog : Program} {w : World} {A : Around} {E : Value → Shared → Prop} {R : Result → Shared → Prop} {h : Heap} {g : Array GenState} {dr : Drawn} {tk : Nat} {os : OsState}
variable {nm q : Str} {C N : Addr} {bs bm bmB : List Value} {hd : Bool} {sn : List Str} {sub : List Value} {ab : Bool} {col : Option Bool} {dd : Option Addr} {k0 k1 k2 k3 k5 : Option Value} {B newId initId : String}
theorem new_kw (F : ExcBaseFacts B newId initId bmB) (same : ∀ X : String, bm.contains (.type X) = bmB.contains (.type X)) {us : List Value} {kw : List (Str × Value)}
    (at' : h.get? C = some (excClassObj nm q C N bs bm hd sn sub ab col dd k0 k1 k2 k3 k5 newId)) (few : us.length ≤ sizeLine)
    (done : R (.ok (.ret (.ref (h.objs.size + 1)))) ⟨(h.push (kdv_tup us)).push (excO C h.objs.size), g, dr, tk, os⟩) :
    codeAny (model prog w) A (.builtin newId ⟨.ref C :: us, kw⟩) R ⟨h, g, dr, tk, os⟩ := by
  have ends := F.ends
  have isB : (Value.ref C :: bm).contains (.type B) = true := by rw [List.contains_cons, same, F.hasB, Bool.or_true]
  have isA : (Value.ref C :: bm).contains (.type "AttributeError") = false := by rw [List.contains_cons, same, F.noAttr]; rfl
  have isN : (Value.ref C :: bm).contains (.type "NameError") = false := by rw [List.contains_cons, same, F.noName]; rfl
  refine codeAny_builtinAt F.entry ?_
  unfold Builtin.«BaseException.__new__»
  refine PySem.wpAt_bind ?_
  show PySem.wpAt _ _ _ (stack >>= _) _ _ _
  refine PySem.wpAt_bind (PySem.wpAt_stack fun p below => PySem.wpAt_of_wpAny ?_)
  wp_walk
  refine PySem.wpAt_of_wpAny ?_
  rw [F.owner]
  repeat (first
    | with_reducible refine wpAny_madeHere_exc F.canon at' ?_
    | with_reducible refine wpAny_loadPart_at at' ?_
    | (with_reducible refine wpAny_isSubtype_exc at' ?_; first | rw [isB] | rw [isA] | rw [isN])
    | wp_step)
  show R _ _
  rw [Heap.size_push]
  exact done
theorem type_kw (F : ExcBaseFacts B newId initId bmB) (same : ∀ X : String, bm.contains (.type X) = bmB.contains (.type X)) {us : List Value} {kw : List (Str × Value)} {fI : Addr} {Q : Fin → Shared → Prop}
    (at' : h.get? C = some (excClassObj nm q C N bs bm hd sn sub ab col dd k0 k1 k2 k3 k5 newId)) (few : us.length ≤ sizeLine)
    (looks : Looks (model prog w) h (typeLookup (.ref C) "__init__") (some (.ref fI))) (binds : ∀ self, Looks (model prog w) h (bindSpecial (.ref fI) self) (.ref fI, [self]))
    (done : codeAny (model prog w) A (.call (.ref fI) ⟨.ref (h.objs.size + 1) :: us, kw⟩)
      (fun r s' => match r with | .ok (.ret v) => v = .none ∧ Q (.done (.ret (.ref (h.objs.size + 1)))) s' | .ok _ => False | .error e => E e s')
      ⟨(h.push (kdv_tup us)).push (excO C h.objs.size), g, dr, tk, os⟩) :
    wpAny (model prog w) A (Builtin.«type.__call__» ⟨.ref C :: us, kw⟩) Q E ⟨h, g, dr, tk, os⟩ := by
  repeat (first
    | with_reducible refine wpAny_loadPart_at at' ?_
    | with_reducible refine wpAny_madeBy_exc at' ?_
    | wp_step)
  refine codeAny_call_builtin_code (Code.quiet_builtin _ F.quiet) (new_fine F same at' ?_)
  refine new_kw F same at' few ?_
  show wpAny _ _ _ _ _ _
  have k : ∀ b o, h.get? b = some o → ((h.push (kdv_tup us)).push (excO C h.objs.size)).get? b = some o := fun b o e => Heap.get?_push_of_some _ (Heap.get?_push_of_some _ e)
  have at1 := k _ _ at'
  have new : ((h.push (kdv_tup us)).push (excO C h.objs.size)).get? (h.objs.size + 1) = some (excO C h.objs.size) := by heap_get
  have own : (Value.ref C :: bm).contains (.ref C) = true := by simp
  have i1 := looks.keeps k
  have b1 := (binds (.ref (h.objs.size + 1))).keeps k
  unfold isInstance
  repeat (first
    | with_reducible refine wpAny_loadPart_at new ?_
    | (with_reducible refine wpAny_isSubtype_exc at1 ?_; rw [own])
    | wp_step)
  show wpAny _ _ (typeLookup (.ref C) _) _ _ _
  refine i1.at ?_
  refine wpAny_holding (wpAny_bind (b1.at ?_))
  refine wpAny_bind (wpAny_call (codeAny_mono done fun r s' z => ?_))
  rcases r with e | (v | _ | _ | _) <;> first | exact z | exact z.elim | skip
  obtain ⟨rfl, z⟩ := z
  first
    | exact wpAny_pure (wpAny_pure z)
    | (wp_walk; exact z)
theorem call_kw (F : ExcBaseFacts B newId initId bmB) (same : ∀ X : String, bm.contains (.type X) = bmB.contains (.type X)) {us : List Value} {kw : List (Str × Value)} {fI : Addr}
    (at' : h.get? C = some (excClassObj nm q C N bs bm hd sn sub ab col dd k0 k1 k2 k3 k5 newId)) (few : us.length ≤ sizeLine)
    (looks : Looks (model prog w) h (typeLookup (.ref C) "__init__") (some (.ref fI))) (binds : ∀ self, Looks (model prog w) h (bindSpecial (.ref fI) self) (.ref fI, [self]))
    (done : codeAny (model prog w) (A.under (.builtin "type.__call__" ⟨.ref C :: us, kw⟩)) (.call (.ref fI) ⟨.ref (h.objs.size + 1) :: us, kw⟩) (InitBack (h.objs.size + 1) R)
      ⟨(h.push (kdv_tup us)).push (excO C h.objs.size), g, dr, tk, os⟩) :
    codeAny (model prog w) A (.call (.ref C) ⟨us, kw⟩) R ⟨h, g, dr, tk, os⟩ := by
  have f1 := tc_lookup
  have f2 := tc_bind (.ref C)
  have isT : (⟨h, g, dr, tk, os⟩ : Shared).TypeIs (.ref C) "type" := ⟨_, at', rfl⟩
  refine codeAny_of_tree ?_
  show wpAny _ _ (callAny (.ref C) _) _ _ _
  repeat (any_goals (first
    | assumption
    | with_reducible refine wpAny_loadPart_at at' ?_
    | wp_step))
  refine ⟨rfl, ?_⟩
  refine codeAny_call_builtin_at (Code.quiet_builtin _ (by decide +kernel)) entry_typeCall (wpAny_check_type_call_sub at' (type_kw F same at' few looks binds ?_))
  refine codeAny_mono done fun r s' z => ?_
  rcases r with e | (v | _ | _ | _) <;> exact z
end
end Mq

namespace Mq
open PySem PySem.Spec PyProof.Rows L2
open PySem.W (Frag)
open PySem.Builtin.ObjectAttr
/-! ### a second field -/
section
variable {prog : Program} {w : World} {A : Around} {E : Value → Shared → Prop} {R : Result → Shared → Prop}
  {hp : Heap} {g : Array GenState} {d : Drawn} {t : Nat} {os : OsState} {K : Frag}
theorem osa_next {name n0 : Str} {tk : Tok} {v v0 : Value} {x C t1 dx : Addr} (X : K.In hp)
    (hx : hp.get? x = some (PySem.W.excObj C t1 (some dx) .none)) (hn : hp.Ns1 dx (fun y => if y = n0 then some v0 else none)) (ho : PySem.W.excOver K C exTail = true)
    (hh : PySem.W.hasDictIn K C = true) (ht : PySem.W.takerIn K C name = some none)
    (hq : ∀ h' tk', (∀ b o, b ≠ dx → hp.get? b = some o → h'.get? b = some o) →
      h'.Ns1 dx (fun y => if y = name then some v else if y = n0 then some v0 else none) → R (.ok (.ret .none)) ⟨h', g, d, tk', os⟩) :
    codeAny (model prog w) A (.call (.builtin "object.__setattr__") ⟨[.ref x, .str name tk, v], []⟩) R ⟨hp, g, d, t, os⟩ := by
  obtain ⟨od, hod, _⟩ := lookIn_ns hn
  refine PySem.W.osa_openX (od := some od) (s := ⟨hp, g, d, t, os⟩) F.store_Exception X ⟨hx, rfl, rfl, hod⟩ ho ht (fun b => ?_)
  obtain ⟨cd, hc, hd'⟩ := PySem.W.any_some hh
  have Lc : PySem.W.Looks (model prog w) hp (classData C) cd := PySem.W.looks_clsIn X hc
  refine wpAny_bind (wpAny_pure (wpAny_bind ?_))
  unfold ownDictForStores
  show wpAny _ _ (instanceDict x true) _ _ _
  unfold instanceDict
  refine wpAny_bind (wpAny_loadPart hx ?_)
  dsimp only
  refine wpAny_bind (Lc.here ?_)
  rw [hd']
  rw [if_neg (by decide)]
  refine wpAny_pure ?_
  show wpAny _ _ (storeInDict dx (.str name tk) name v) _ _ _
  unfold storeInDict newKeyGuard
  refine wpAny_bind (wpAny_pure (wpAny_bind (wpAny_nsSet1 hn fun h' hn' hs => ?_)))
  have hw : PySem.Within (fun y => if y = name then some v else if y = n0 then some v0 else none) [name, n0] := by
    have h1 := PySem.Within.cons name v (PySem.Within.cons n0 v0 PySem.Within.nil)
    exact h1
  obtain ⟨oD, esD, epD, hoD, hdD, hcD⟩ := hn'.count hw
  refine wpAny_bind (wpAny_lookBehind hoD (by rw [hdD]; exact pastItsLine_dict (Nat.le_trans hcD (by rw [sizeLine_eq]; show 2 ≤ 16777216 + 1; decide))) ?_)
  wp_walk
  exact hq h' _ (fun b o hb ho => (hs.2 b hb).trans ho) hn'
end
/-! ### errors as values -/
def ExF (C : Addr) (d : Option Addr) (a : Addr) : HO := .ext fun h => ∃ (oe : Obj) (vs : Array Value), h.get? a = some oe ∧ Zc (.ref C) d oe ∧ oe.data = .fields vs
theorem exF_ok {P : Program} {w : World} {H : Hp} {h : Heap} {a C : Addr} {d : Option Addr} {oe : Obj} {vs : Array Value} (e : h.get? a = some oe) (z : Zc (.ref C) d oe) (f : oe.data = .fields vs) : ObjOk P w H h a (ExF C d a) :=
  ⟨⟨oe, vs, e, z, f⟩, ⟨oe, e⟩, fun _ _ ⟨o, v, q, r⟩ k => ⟨o, v, k o q, r⟩⟩
/-- the error at e, of the class C, its field's dict at d -/
structure ErrAt (H : Hp) (C e d : Addr) (fs : List (Str × V)) : Prop where
  ex : H e = some (ExF C (some d) e)
  fd : H d = some (.xd fs)
theorem ErrAt.same {H H' : Hp} {C e d : Addr} {fs : List (Str × V)} (h : ErrAt H C e d fs) (s : ∀ b o, H b = some o → H' b = some o) : ErrAt H' C e d fs := ⟨s _ _ h.ex, s _ _ h.fd⟩
section
variable {X : Cx} {pins : List (Addr × Obj)} {σ : L2.St} {H : Hp} {s : Shared}
/-- e.n, e an error that is a value -/
def tXv (C : Addr) (n : Str) (te : TE) : TE := fun σ H Q => te σ H fun x H1 => ∃ (a d : Addr) (fs : List (Str × V)) (v : V), x = .ref a ∧ ErrAt H1 C a d fs ∧ fs.lookup n = some v ∧ Q v H1
theorem pe_xv {C : Addr} {e : Expr} {te : TE} {pos : Pos} {n : Str} (T : XfC X.K C) (hno : PySem.W.findIn X.K (.ref C) n = some none)
    (he : PE X e te) (hb : attributeBase e n X.env (eval e X.env) = eval e X.env := by rfl) : PE X (.Attribute e n pos) (tXv C n te) := by
  refine ⟨fun pins s σ H Q I h => ?_⟩
  refine attr_of hb (thn (he.run pins s σ H _ I h) fun u s1 hh => ?_)
  obtain ⟨x, H1, I1, rx, a, dd, fs, v, ex, er, l, q⟩ := hh
  subst ex
  obtain rfl : u = Value.ref a := rx
  obtain ⟨⟨oe, vs, ha, hz, hd⟩, _, _⟩ := (show ObjOk X.prog X.w H1 s1.heap a (ExF C (some dd) a) from I1.hok a _ er.ex)
  obtain ⟨mA, hns, hr⟩ := (show ObjOk X.prog X.w H1 s1.heap dd (.xd fs) from I1.hok dd _ er.fd)
  obtain ⟨od, ho, hl⟩ := lookIn_ns hns
  obtain ⟨u, hu, ru⟩ := RelO.some_of (v := v) (o := mA n) (by rw [← l]; exact hr n)
  have J : PySem.W.InstAt s1.heap a oe C (some od) := by
    refine ⟨ha, hz.1, ?_, ?_⟩
    · unfold PySem.W.notCls
      rw [hd]
    · rw [hz.2]
      exact ho
  exact HandSPX.exc_get I1.kIn J T.ga T.gg T.exC (PySem.W.findObj_own T.hdC hno rfl (by rw [hl, hu])) (handed_of ru) ⟨v, H1, I1.tok _, ru, q⟩
/-- isinstance(e, c), e an error that is a value -/
def rIsE (K : PySem.W.Frag) : List V → Hp → VK → Prop := fun xs H Q => ∃ (a D : Addr) (d : Option Addr) (c : V) (u : Value) (b : Bool), xs = [.ref a, c] ∧ ClsV c u ∧ H a = some (ExF D d a) ∧
  (∀ x, d = some x → ∃ fs, H x = some (.xd fs)) ∧ HeldC K D ∧ PySem.W.kitOne K (.ref D) u = some b ∧ Q (.bl b) H
theorem call_isE : CallR X (.builtin "isinstance") (rIsE X.K) := by
  intro pins s σ H xs us Q I r h
  obtain ⟨a, D, d, c, u, b, rfl, k, ha, hdx, C, e, q⟩ := h
  obtain ⟨u1, u2, rfl, r1, r2⟩ := vals2 r
  have e2 := k.eq r2
  subst e2
  cases r1
  obtain ⟨⟨oe, vs, hget, hz, hv⟩, _, _⟩ := (show ObjOk X.prog X.w H s.heap a (ExF D d a) from I.hok a _ ha)
  obtain ⟨od, J⟩ : ∃ od, PySem.W.InstAt s.heap a oe D od := by
    cases d with
    | none =>
      refine ⟨none, hget, hz.1, ?_, ?_⟩
      · unfold PySem.W.notCls
        rw [hv]
      · rw [hz.2]
        trivial
    | some dd =>
      obtain ⟨fs, hf⟩ := hdx dd rfl
      obtain ⟨mA, ⟨od, es, ep, ho, _⟩, _⟩ := (show ObjOk X.prog X.w H s.heap dd (.xd fs) from I.hok dd _ hf)
      refine ⟨some od, hget, hz.1, ?_, ?_⟩
      · unfold PySem.W.notCls
        rw [hv]
      · rw [hz.2]
        exact ho
  refine PySem.W.kia_one (PySem.W.kitx_exc C.cl C.ga C.gg C.sb C.ca C.sp C.tk C.mo) I.kIn J e (fun z => by cases z) (fun tk => ?_)
  exact ⟨.bl b, H, I.kept (t' := tk) (fun _ _ z => z), rfl, q⟩
/-- C(), a bare one -/
theorem pe_exB {C : Addr} {bmB : List Value} {B newId initId : String} {x : Str} {p pos : Pos} (F : ExcBaseFacts B newId initId bmB) (q : PySem.W.excIn X.K C bmB newId = true) (gC : X.mg x = some (.ref C)) (kC : PySem.W.keepIn X.K (.ref C) = true) (hg : Gl X x)
    (hdb : (x == ("__debug__" : Str)) = false := by decide) :
    PE X (.Call (.Name x p) [] [] pos) (fun _ H Q => ∀ a, H a = none → Q (.ref a) (upd H a (ExF C none a))) := by
  refine ⟨fun pins s σ H Q I h => ?_⟩
  refine wpAny_Call_Name_kw (ld_glob I hg gC ?_ hdb)
  refine PySem.W.callWith_K0 I.kIn kC ?_
  obtain ⟨bm, N, nm, qn, bs, hdct, sn, sub, ab, col, dd, k0, k1, k2, k3, k5, mN, hC, hN, hni, T⟩ := exc_obj I.kIn q
  refine wpAny_call_exc_subT F T hC hN hni (fun h' a hm => ?_) (by show 0 ≤ sizeLine; exact Nat.zero_le _)
  have hn : H a = none := I.hok.gone hm.new
  obtain ⟨t, ht, _, _⟩ := hm.there
  exact ⟨.ref a, upd H a (ExF C none a), I.laidN hm.keeps hm.new hn (exF_ok ht ⟨rfl, rfl⟩ rfl), rfl, h a hn⟩
end
end Mq

namespace Mq
open PySem PySem.Spec PyProof.Rows L2
open PySem.W (Frag)
/-! ### the call of an error's class as a value -/
/-- a made error, its fields by m -/
structure MadeM (h h' : Heap) (e C d : Addr) (m : Str → Option Value) : Prop where
  keep : ∀ b o, h.get? b = some o → h'.get? b = some o
  new : h.objs.size ≤ e
  obj : ∃ oe vs, h'.get? e = some oe ∧ oe.cls = .ref C ∧ oe.dict = some d ∧ oe.data = .fields vs ∧ vs[1]? = some .none
  big : h.objs.size ≤ d
  ne : d ≠ e
  ns : h'.Ns1 d m
/-- what the written part says of an error's class -/
structure ErrC (K : Frag) (mg : Str → Option Value) (x : Str) (C fI : Addr) : Prop where
  gC : mg x = some (.ref C)
  kC : PySem.W.keepIn K (.ref C) = true
  ex : PySem.W.excInitIn K C exTail "Exception.__new__" = true
  ov : PySem.W.excOver K C exTail = true
  hdC : PySem.W.hasDictIn K C = true
  sa : PySem.W.findIn K (.ref C) "__setattr__" = some (some (.builtin "object.__setattr__"))
  iC : PySem.W.findIn K (.ref C) "__init__" = some (some (.ref fI))
  tC : PySem.W.typeIn K (.ref fI) = some (.type "function")
  exC : PySem.W.subIn K (.ref C) (.type "BaseException") = some true
  tyC : PySem.W.typeIn K (.ref C) = some (.type "type")
/-- calls of C with these arguments make an error with fields by m -/
def Makes (K : Frag) (C : Addr) (us : List Value) (kw : List (Str × Value)) (m : Str → Option Value) : Prop :=
  ∀ (prog : Program) (w : World) (A : Around) (R : Result → Shared → Prop) (s : Shared), K.In s.heap → s.heap.NoLimit → A.depth + 1 < recursionLimit →
    (∀ h' tk e d, MadeM s.heap h' e C d m → R (.ok (.ret (.ref e))) { s with heap := h', toks := tk }) → codeAny (model prog w) A (.call (.ref C) ⟨us, kw⟩) R s
theorem zip_rel : ∀ {ks : List Str} {vs : List V} {us : List Value}, Vals vs us → ∀ f : Str, RelO ((ks.zip vs).lookup f) ((ks.zip us).lookup f)
  | [], _, _, _, f => by simp [RelO]
  | _ :: _, _, _, .nil, f => by simp [RelO]
  | k :: ks, _, _, .cons r t, f => by
    rw [List.zip_cons_cons, List.zip_cons_cons, List.lookup_cons, List.lookup_cons]
    cases f == k with
    | true => exact r
    | false => exact zip_rel t f
section
variable {X : Cx} {pins : List (Addr × Obj)} {σ : L2.St} {H : Hp}
theorem laid_exc {hp h' : Heap} {g : Array GenState} {dr : Drawn} {tk tk' : Nat} {os : OsState} {e C d : Addr} {m : Str → Option Value} {fs : List (Str × V)}
    (I : L2.Inv X pins σ H ⟨hp, g, dr, tk, os⟩) (M : MadeM hp h' e C d m) (hr : ∀ f, RelO (fs.lookup f) (m f)) :
    H d = none ∧ H e = none ∧ L2.Inv X pins σ (upd (upd H d (.xd fs)) e (ExF C (some d) e)) ⟨h', g, dr, tk', os⟩ := by
  obtain ⟨oe, fv, hoe, hc, hd, hdat, h1⟩ := M.obj
  have hns := M.ns
  obtain ⟨G', g1, g2⟩ := restrict h' fun b => decide (b ≠ e)
  have gk : ∀ b, b ≠ e → G'.get? b = h'.get? b := fun b hb => g1 b (decide_eq_true hb)
  have ge : G'.get? e = none := g2 e (by simp)
  have old : ∀ b o, hp.get? b = some o → G'.get? b = some o := fun b o q => (gk b (Nat.ne_of_lt (Nat.lt_of_lt_of_le (Heap.lt_size q) M.new))).trans (M.keep b o q)
  have ob : ObjOk X.prog X.w (upd H d (.xd fs)) G' d (.xd fs) := ⟨m, hns.at (fun o q => (gk d M.ne).trans q), hr⟩
  have J : L2.Inv X pins σ (upd H d (.xd fs)) ⟨G', g, dr, tk', os⟩ := I.laid (t' := tk') old M.big ob
  have ne : upd H d (.xd fs) e = none := by
    rw [upd_ne (Ne.symm M.ne)]
    exact I.hok.fresh M.new
  have up : ∀ b o, G'.get? b = some o → h'.get? b = some o := fun b o q => by
    by_cases hb : b = e
    · rw [hb, ge] at q
      cases q
    · exact (gk b hb).symm.trans q
  exact ⟨I.hok.fresh M.big, I.hok.fresh M.new, J.laidN (s := ⟨G', g, dr, tk', os⟩) (t' := tk') up ge ne (exF_ok hoe ⟨hc, hd⟩ hdat)⟩
end
section
variable {X : Cx} {C fI : Addr} {x : Str} {k : Nat} {p pos : Pos} {e : Expr} {es : List Expr} {kws : List Keyword} {t tk : TA} {ks kks : List Str}
/-- C(e, ..) -/
def tMkP (C : Addr) (ks : List Str) (t : TA) : TE := fun σ H Q => t σ H fun vs H1 => vs.length = ks.length ∧ ∀ e d, H1 d = none → H1 e = none → d ≠ e → Q (.ref e) (upd (upd H1 d (.xd (ks.zip vs))) e (ExF C (some d) e))
theorem pe_mkP (T : ErrC X.K X.mg x C fI) (hr : Room k X.A) (M : ∀ us : List Value, us.length = ks.length → Makes X.K C us [] fun y => (ks.zip us).lookup y) (ha : PA X (e :: es) t) (hg : Gl X x := by rfl)
    (hdb : (x == ("__debug__" : Str)) = false := by decide) (he : starEach (e :: es) X.env = (false, eval e X.env) :: starEach es X.env := by rfl) (hpl : (backTo pos (starEach es X.env)).any (·.1) = false := by rfl) :
    PE X (.Call (.Name x p) (e :: es) [] pos) (tMkP C ks t) := by
  refine ⟨fun pins s σ H Q I h => ?_⟩
  refine wpAny_Call_Name_kw (ld_glob I hg T.gC ?_ hdb)
  refine PySem.W.callWith_K (h₀ := X.base) I.ok.mod.kin T.kC (thn (ha.run pos pins s σ H _ I h) fun us s1 hh => ?_) he hpl
  obtain ⟨vs, H1, I1, r1, hl, q1⟩ := hh
  refine ⟨I1.kIn, ?_⟩
  have hlim := I1.nolimit
  obtain ⟨hp, g, dr, tk, os⟩ := s1
  have hus : us.length = ks.length := r1.length.symm.trans hl
  show wpAny _ _ (call (.ref C) us) _ _ _
  refine wpAny_call (M us hus X.prog X.w _ _ _ I1.kIn hlim (by have := hr.dp; omega) (fun h' tk' e d MM => ?_))
  obtain ⟨n1, n2, J⟩ := laid_exc (tk' := tk') I1 MM (zip_rel r1)
  exact ⟨.ref e, _, J, rfl, q1 e d n1 n2 MM.ne⟩
/-- C(k = e, ..): the fields' values by g -/
def tMkK (C : Addr) (ks : List Str) (n : Nat) (g : {α : Type} → List α → List α) (tk : TA) : TE := fun σ H Q => tk σ H fun zs H1 => zs.length = n ∧ ∀ e d, H1 d = none → H1 e = none → d ≠ e → Q (.ref e) (upd (upd H1 d (.xd (ks.zip (g zs)))) e (ExF C (some d) e))
theorem pe_mkK {g : {α : Type} → List α → List α} (T : ErrC X.K X.mg x C fI) (hr : Room k X.A) (hg2 : ∀ {vs : List V} {us : List Value}, Vals vs us → Vals (g vs) (g us))
    (M : ∀ ws : List Value, ws.length = kks.length → Makes X.K C [] (kks.zip ws) fun y => (ks.zip (g ws)).lookup y) (hkw : PK X kws tk) (hg : Gl X x := by rfl)
    (hall : (backToKw pos (keywordEach kws X.env)).all (·.1.isSome) = true := by rfl) (hks : (backToKw pos (keywordEach kws X.env)).filterMap (·.1) = kks := by rfl)
    (hdb : (x == ("__debug__" : Str)) = false := by decide)
    (hpl : ((backTo pos (starEach [] X.env)).any (·.1) || (backToKw pos (keywordEach kws X.env)).any (·.1.isNone)) = false := by rfl) :
    PE X (.Call (.Name x p) [] kws pos) (tMkK C ks kks.length g tk) := by
  refine ⟨fun pins s σ H Q I h => ?_⟩
  refine wpAny_Call_Name_kw (ld_glob I hg T.gC ?_ hdb)
  refine PySem.W.callWith_KW0 (h₀ := X.base) I.ok.mod.kin T.kC hall ?_ hpl
  refine thn (hkw.run pos pins s σ H _ I h) fun ws s2 ⟨zs, H2, I2, rz, hl, q2⟩ => ⟨I2.kIn, ?_⟩
  rw [hks]
  have hlim := I2.nolimit
  have hws : ws.length = kks.length := rz.length.symm.trans hl
  obtain ⟨hp, gg, dr, tk, os⟩ := s2
  refine wpAny_call (M ws hws X.prog X.w _ _ _ I2.kIn hlim (by have := hr.dp; omega) (fun h' tk' e d MM => ?_))
  obtain ⟨n1, n2, J⟩ := laid_exc (tk' := tk') I2 MM (zip_rel (hg2 rz))
  exact ⟨.ref e, _, J, rfl, q2 e d n1 n2 MM.ne⟩
end
end Mq

namespace Mq
open PySem PySem.Spec PyProof.Rows L2
/-! ### such a call behind raise -/
section
variable {X : Cx} {pins : List (Addr × Obj)} {σ : L2.St} {H : Hp}
theorem flown {hp h' : Heap} {g : Array GenState} {dr : Drawn} {tk tk' : Nat} {os : OsState} {e C d : Addr} {m : Str → Option Value} {fs : List (Str × V)} {Q : XK}
    (I : L2.Inv X pins σ H ⟨hp, g, dr, tk, os⟩) (M : MadeM hp h' e C d m) (hr : ∀ f, RelO (fs.lookup f) (m f)) (rs : Raises X (.ref C)) (q : Q (.ref C) (some d) (upd H d (.xd fs))) (hd : H d = none) :
    MkP X pins σ Q (.ref e) ⟨h', g, dr, tk', os⟩ := by
  obtain ⟨oe, fv, hoe, hc, hd', hdat, h1⟩ := M.obj
  have hns := M.ns
  obtain ⟨G', g1, g2⟩ := restrict h' fun b => decide (b ≠ e)
  have gk : ∀ b, b ≠ e → G'.get? b = h'.get? b := fun b hb => g1 b (decide_eq_true hb)
  have ge : G'.get? e = none := g2 e (by simp)
  have old : ∀ b o, hp.get? b = some o → G'.get? b = some o := fun b o q => (gk b (Nat.ne_of_lt (Nat.lt_of_lt_of_le (Heap.lt_size q) M.new))).trans (M.keep b o q)
  have ob : ObjOk X.prog X.w (upd H d (.xd fs)) G' d (.xd fs) := ⟨m, hns.at (fun o q => (gk d M.ne).trans q), hr⟩
  have J : L2.Inv X pins σ (upd H d (.xd fs)) ⟨G', g, dr, tk', os⟩ := I.laid (t' := tk') old M.big ob
  refine ⟨e, oe, fv, ⟨G', g, dr, tk', os⟩, _, .ref C, some d, rfl, J, (fun b o q => ?_), ge, hoe, ⟨hc, hd'⟩, hdat, h1, ?_, rfl, I.bare, rs, q⟩
  · by_cases hb : b = e
    · have q' : G'.get? b = some o := q
      rw [hb, ge] at q'
      cases q'
    · exact (gk b hb).symm.trans q
  · rw [upd_ne (Ne.symm M.ne)]
    exact I.hok.fresh M.new
end
section
variable {X : Cx} {C fI : Addr} {x : Str} {k : Nat} {p pos : Pos} {e : Expr} {es : List Expr} {kws : List Keyword} {t tk : TA} {ks kks : List Str}
def tFlP (C : Addr) (ks : List Str) (t : TA) : L2.St → Hp → XK → Prop := fun σ H Q => t σ H fun vs H1 => vs.length = ks.length ∧ ∀ d, H1 d = none → Q (.ref C) (some d) (upd H1 d (.xd (ks.zip vs)))
theorem pmkP (T : ErrC X.K X.mg x C fI) (hr : Room k X.A) (M : ∀ us : List Value, us.length = ks.length → Makes X.K C us [] fun y => (ks.zip us).lookup y) (ha : PA X (e :: es) t) (hg : Gl X x := by rfl)
    (hdb : (x == ("__debug__" : Str)) = false := by decide) (he : starEach (e :: es) X.env = (false, eval e X.env) :: starEach es X.env := by rfl) (hpl : (backTo pos (starEach es X.env)).any (·.1) = false := by rfl) :
    PMk X (.Call (.Name x p) (e :: es) [] pos) (tFlP C ks t) := by
  intro pins s σ H Q I h
  refine wpAny_Call_Name_kw (ld_glob I hg T.gC ?_ hdb)
  refine PySem.W.callWith_K (h₀ := X.base) I.ok.mod.kin T.kC (thn (ha.run pos pins s σ H _ I h) fun us s1 hh => ?_) he hpl
  obtain ⟨vs, H1, I1, r1, hl, q1⟩ := hh
  refine ⟨I1.kIn, ?_⟩
  have hlim := I1.nolimit
  obtain ⟨hp, g, dr, tk, os⟩ := s1
  have hus : us.length = ks.length := r1.length.symm.trans hl
  show wpAny _ _ (call (.ref C) us) _ _ _
  refine wpAny_call (M us hus X.prog X.w _ _ _ I1.kIn hlim (by have := hr.dp; omega) (fun h' tk' e d MM => ?_))
  exact flown I1 MM (zip_rel r1) (raises_own T.exC T.tyC) (q1 d (I1.hok.fresh MM.big)) (I1.hok.fresh MM.big)
def tFlK (C : Addr) (ks : List Str) (n : Nat) (g : {α : Type} → List α → List α) (tk : TA) : L2.St → Hp → XK → Prop := fun σ H Q => tk σ H fun zs H1 => zs.length = n ∧ ∀ d, H1 d = none → Q (.ref C) (some d) (upd H1 d (.xd (ks.zip (g zs))))
theorem pmkK {g : {α : Type} → List α → List α} (T : ErrC X.K X.mg x C fI) (hr : Room k X.A) (hg2 : ∀ {vs : List V} {us : List Value}, Vals vs us → Vals (g vs) (g us))
    (M : ∀ ws : List Value, ws.length = kks.length → Makes X.K C [] (kks.zip ws) fun y => (ks.zip (g ws)).lookup y) (hkw : PK X kws tk) (hg : Gl X x := by rfl)
    (hall : (backToKw pos (keywordEach kws X.env)).all (·.1.isSome) = true := by rfl) (hks : (backToKw pos (keywordEach kws X.env)).filterMap (·.1) = kks := by rfl)
    (hdb : (x == ("__debug__" : Str)) = false := by decide)
    (hpl : ((backTo pos (starEach [] X.env)).any (·.1) || (backToKw pos (keywordEach kws X.env)).any (·.1.isNone)) = false := by rfl) :
    PMk X (.Call (.Name x p) [] kws pos) (tFlK C ks kks.length g tk) := by
  intro pins s σ H Q I h
  refine wpAny_Call_Name_kw (ld_glob I hg T.gC ?_ hdb)
  refine PySem.W.callWith_KW0 (h₀ := X.base) I.ok.mod.kin T.kC hall ?_ hpl
  refine thn (hkw.run pos pins s σ H _ I h) fun ws s2 ⟨zs, H2, I2, rz, hl, q2⟩ => ⟨I2.kIn, ?_⟩
  rw [hks]
  have hlim := I2.nolimit
  have hws : ws.length = kks.length := rz.length.symm.trans hl
  obtain ⟨hp, gg, dr, tk, os⟩ := s2
  refine wpAny_call (M ws hws X.prog X.w _ _ _ I2.kIn hlim (by have := hr.dp; omega) (fun h' tk' e d MM => ?_))
  exact flown I2 MM (zip_rel (hg2 rz)) (raises_own T.exC T.tyC) (q2 d (I2.hok.fresh MM.big)) (I2.hok.fresh MM.big)
end
end Mq

namespace Mq
open PySem PySem.Spec PyProof.Rows L2
section
variable {X : Cx} {pins : List (Addr × Obj)} {σ : L2.St} {H : Hp} {s : Shared}
/-- repr where an error is held: only the room below counts -/
theorem call_repU' (hu : X.A.units + 200 < cLine) (gA : Still X.A) : CallR X (.builtin "repr") (rRep X.K) := by
  intro pins s σ H xs us Q I r h
  obtain ⟨v, d, rfl, hd, hs, hz, hl, q⟩ := h
  cases r with
  | cons rx rr =>
    cases rr
    obtain ⟨as, rd, hn⟩ := Dg.rd I hd rx
    have leaf : ∀ {d : PyData} {t : Tok}, Q (.str d.shown) H → EP X pins σ Q (.str d.shown t) { s with toks := s.toks + 1 } :=
      fun {d t} q => ⟨.str d.shown, H, I.tok _, ⟨_, rfl⟩, q⟩
    cases hd with
    | non =>
      cases rx
      exact PySem.P.repr_of_none (leaf (d := .none) q)
    | bl b =>
      cases rx
      exact PySem.P.repr_of_bool (leaf (d := .bool b) q)
    | int i =>
      obtain ⟨t, rfl⟩ := rx
      exact PySem.P.repr_of_int (by simpa [PyData.showable] using hs) (leaf (d := .int i) q)
    | str x =>
      obtain ⟨t, rfl⟩ := rx
      refine PySem.P.repr_of_str (leaf (d := .str x) q) ?_
      simpa only [PyData.shown] using hl
    | lst ne h1 h2 =>
      cases rx
      exact repr_of_reads' rd hs (fun _ => hn) gA (by omega) (fun _ _ e => e) (fun h' u tk k => ⟨.str _, H, I.kept k, ⟨_, rfl⟩, q⟩) hl
    | tup h1 h2 =>
      cases rx
      exact repr_of_reads' rd hs (fun _ => hn) gA (by omega) (fun _ _ e => e) (fun h' u tk k => ⟨.str _, H, I.kept k, ⟨_, rfl⟩, q⟩) hl
    | dct h1 h2 =>
      cases rx
      exact repr_of_reads' rd hs (fun _ => hn) gA (by omega) (fun _ _ e => e) (fun h' u tk k => ⟨.str _, H, I.kept k, ⟨_, rfl⟩, q⟩) hl
/-- the same, the written part named -/
theorem call_repU {K0 : PySem.W.Frag} (hK : X.K = K0) (hu : X.A.units + 200 < cLine) (gA : Still X.A) : CallR X (.builtin "repr") (rRep K0) := hK ▸ call_repU' hu gA
theorem pe_bmK {K0 : PySem.W.Frag} {e : Expr} {T : String} {r : V → List V → Hp → VK → Prop} {to : TE} {t : TA} (hK : X.K = K0) (h : PE X e (tBM X.K T r to t)) : PE X e (tBM K0 T r to t) := hK ▸ h
end
end Mq

namespace Mq
open PySem PySem.Spec PyProof.Rows L2
/-! ### error classes over a class of one's own, told by their objects -/
def ClsAt (K : PySem.W.Frag) (CM C : Addr) : Prop := ∃ nm q N bs sn sub ab col dd m0 m1 m2 m3 m5, K.lookup C = some (excClassObj nm q C N bs [.ref CM, .type "Exception", .type "BaseException", .type "object"] true sn sub ab col dd m0 m1 m2 m3 m5 "Exception.__new__")
section
variable {K : PySem.W.Frag} {CM C : Addr}
theorem ClsAt.isC (h : ClsAt K CM C) : (PySem.W.clsIn K C).isSome = true := by
  obtain ⟨_, _, _, _, _, _, _, _, _, _, _, _, _, _, h⟩ := h
  simp [PySem.W.clsIn, h, excClassObj]
theorem ClsAt.ty (h : ClsAt K CM C) : PySem.W.typeIn K (.ref C) = some (.type "type") := by
  obtain ⟨_, _, _, _, _, _, _, _, _, _, _, _, _, _, h⟩ := h
  simp [PySem.W.typeIn, h, excClassObj]
theorem ClsAt.has (h : ClsAt K CM C) : PySem.W.hasDictIn K C = true := by
  obtain ⟨_, _, _, _, _, _, _, _, _, _, _, _, _, _, h⟩ := h
  simp [PySem.W.hasDictIn, PySem.W.clsIn, h, excClassObj]
theorem ClsAt.mro (h : ClsAt K CM C) (b : Value) : PySem.W.mroIn K C b = some ((Value.ref C :: Value.ref CM :: exTail).contains b) := by
  obtain ⟨_, _, _, _, _, _, _, _, _, _, _, _, _, _, h⟩ := h
  simp [PySem.W.mroIn, PySem.W.clsIn, h, excClassObj, exTail]
theorem ClsAt.init (h : ClsAt K CM C) : PySem.W.excInitIn K C exTail "Exception.__new__" = true := by
  obtain ⟨_, _, _, _, _, _, _, _, _, _, _, _, _, _, h⟩ := h
  unfold PySem.W.excInitIn
  rw [h]
  simp [excClassObj, PySem.W.excTail, exTail]
theorem ClsAt.over (h : ClsAt K CM C) : PySem.W.excOver K C exTail = true := by
  obtain ⟨_, _, _, _, _, _, _, _, _, _, _, _, _, _, h⟩ := h
  unfold PySem.W.excOver PySem.W.clsIn
  rw [h]
  simp [excClassObj, PySem.W.excTail, exTail]
theorem ClsAt.keep (h : ClsAt K CM C) : PySem.W.keepIn K (.ref C) = true := by
  have ht := h.ty
  obtain ⟨_, _, _, _, _, _, _, _, _, _, _, _, _, _, h⟩ := h
  unfold PySem.W.keepIn
  dsimp only
  rw [h]
  dsimp only
  unfold PySem.W.specialIn
  rw [ht]
  show (fastLookup "type" "__call__" == some (some (Value.builtin "type.__call__"))) = true
  decide +kernel
theorem ClsAt.sub (h : ClsAt K CM C) (b : Value) : PySem.W.subIn K (.ref C) b = some ((Value.ref C :: Value.ref CM :: exTail).contains b) := h.mro b
theorem ref_eq (a b : Addr) : (Value.ref a == Value.ref b) = decide (a = b) := by
  by_cases h : a = b
  · subst h; simp
  · simp [h]
theorem ClsAt.kit {D : Addr} (h : ClsAt K CM C) (hD : ClsAt K CM D) (ne : D ≠ CM) : PySem.W.kitOne K (.ref C) (.ref D) = some (decide (C = D)) := by
  unfold PySem.W.kitOne
  by_cases e : C = D
  · subst e; simp
  · simp [e, PySem.W.kitCls, hD.isC, hD.ty, h.sub, exTail, Ne.symm e, ne]
theorem ClsAt.mill (h : ClsAt K CM C) (h1 : PySem.W.isClsIn K CM = true) (h2 : PySem.W.typeIn K (.ref CM) = some (.type "type")) : PySem.W.kitOne K (.ref C) (.ref CM) = some true := by
  have h1 : (PySem.W.clsIn K CM).isSome = true := h1
  unfold PySem.W.kitOne
  by_cases e : C = CM
  · subst e; simp
  · simp [e, PySem.W.kitCls, h1, h2, h.sub, exTail]
theorem ClsAt.typ (h : ClsAt K CM C) {n : String} (hm : PySem.W.kitMeta n = true) : PySem.W.kitOne K (.ref C) (.type n) = some (exTail.contains (.type n)) := by
  unfold PySem.W.kitOne
  simp [PySem.W.kitCls, hm, h.sub]
/-- what the written part says of such a class -/
structure ClsF (K : PySem.W.Frag) (CM C : Addr) : Prop where
  at_ : ClsAt K CM C
  ga : PySem.W.findIn K (.ref C) "__getattribute__" = some (some (.builtin "BaseException.__getattribute__"))
  gg : PySem.W.findIn K (.ref C) "__getattr__" = some none
  ca : PySem.W.findIn K (.ref C) "__class__" = some (some (.builtin "object.__class__"))
theorem ClsF.base (h : ClsF K CM C) : PySem.W.subIn K (.ref C) (.type "BaseException") = some true := by
  rw [h.at_.sub]
  simp [exTail]
theorem ClsF.xf (h : ClsF K CM C) : XfC K C := ⟨h.ga, h.gg, h.base, h.at_.has⟩
theorem ClsF.held (h : ClsF K CM C) (sp : PySem.W.specialIn K (.builtin "object.__class__") "__get__" = some (some (.builtin "getset_descriptor.__get__"))) (tk : PySem.W.takesIn K (.builtin "object.__class__") = some true) : HeldC K C :=
  ⟨h.at_.isC, h.ga, h.gg, h.base, h.ca, sp, tk, by rw [h.at_.mro]; simp [exTail]⟩
theorem exm_own (h : ClsF K CM C) : PySem.W.exmOne K (.ref C) (.ref C) = some true := by
  simp [PySem.W.exmOne, PySem.W.kitCls, h.at_.isC, h.at_.ty, h.at_.sub, exTail]
end
/-! ### the head's facts by a Hook of our own -/
def exB (fs : List (PySem.W.Frag → Bool)) (K : PySem.W.Frag) : Bool := fs.all fun f => f K
def obsM (n : Nat) (fn : List He.FnD) (fs : List (PySem.W.Frag → Bool)) (g : Addr → Option Obj) : He.Al × Bool :=
  (He.obsG n [] fn g, exB fs (He.frG g (He.asG g n)))
def hookM (n : Nat) (fn : List He.FnD) (fs : List (PySem.W.Frag → Bool)) : PySem.W.Hook where
  α := He.Al × Bool
  obs := fun s => obsM n fn fs s.heap.get?
  val := fun _ => (He.valE fn, true)
  says := fun _ h => ∃ K : PySem.W.Frag, K.In h ∧ He.SaysE [] fn K ∧ exB fs K = true
  of := fun w s e => ⟨He.frG s.heap.get? (He.asG s.heap.get? n), He.frG_in, congrArg Prod.fst e, congrArg Prod.snd e⟩
  keeps := fun w h h' ⟨K, a, b, c⟩ k => ⟨K, a.keeps k, b, c⟩
abbrev AlT := He.Al × Bool
theorem obsM_eq {n : Nat} {fn : List He.FnD} {fs : List (PySem.W.Frag → Bool)} {g : Addr → Option Obj} {s : Shared} (h : ∀ a, g a = s.heap.get? a) : obsM n fn fs g = (hookM n fn fs).obs s := by
  have e : g = s.heap.get? := funext h
  rw [e]
  rfl
theorem exAt {fs : List (PySem.W.Frag → Bool)} {K : PySem.W.Frag} (h : exB fs K = true) (i : Nat) {f : PySem.W.Frag → Bool} (e : fs[i]? = some f) : f K = true := List.all_eq_true.mp h f (List.mem_of_getElem? e)
def fFind (x n : Str) (v : Option Value) : PySem.W.Frag → Bool := fun K => He.eqO (PySem.W.findIn K (.ref (He.ga K x)) n) (some v)
def fInit (x : Str) : PySem.W.Frag → Bool := fun K => He.eqO (PySem.W.findIn K (.ref (He.ga K x)) "__init__") (some (some (.ref (He.ma K (He.ga K x) "__init__"))))
def fGlo (x : Str) : PySem.W.Frag → Bool := fun K => He.eqO (PySem.W.nsIn K mainGlobals x) (some (some (.ref (He.ga K x))))
def fFree (x : Str) : PySem.W.Frag → Bool := fun K => He.eqO (PySem.W.nsIn K mainGlobals x) (some none)
def fExc (x : Str) : PySem.W.Frag → Bool := fun K => PySem.W.excIn K (He.ga K x) exTail "Exception.__new__"
def clsB (K : PySem.W.Frag) (CM C : Addr) : Bool :=
  match K.lookup C with
  | some ⟨.type T, _, .cls cd, sl⟩ => decide (T = "type") && cd.hasDict && !cd.hasDel &&
      (match cd.mro with
       | [.ref a, .ref b, .type t1, .type t2, .type t3] => decide (a = C) && decide (b = CM) && decide (t1 = "Exception") && decide (t2 = "BaseException") && decide (t3 = "object")
       | _ => false) &&
      (match sl.toList with
       | [_, _, _, _, some (.builtin n), _] => decide (n = "Exception.__new__")
       | _ => false)
  | _ => false
def fCls (x : Str) : PySem.W.Frag → Bool := fun K => clsB K (He.ga K "MillError") (He.ga K x)
def fnB (K : PySem.W.Frag) (f : Addr) : Bool :=
  match K.lookup f with
  | some ⟨.type T, _, .func fd, _⟩ => decide (T = "function") && (match fd.kwdefaults with | .none => true | _ => false)
  | _ => false
def fFn (x : Str) : PySem.W.Frag → Bool := fun K => fnB K (He.ma K (He.ga K x) "__init__")
theorem clsB_ok {K : PySem.W.Frag} {CM C : Addr} (h : clsB K CM C = true) : ClsAt K CM C := by
  unfold clsB at h
  split at h
  · rename_i T dd cd sl hl
    obtain ⟨nm, bs, mro, N, qn, hd, sn, sub, ab, col, hdel⟩ := cd
    simp only [Bool.and_eq_true] at h
    obtain ⟨⟨⟨⟨h1, h2⟩, h3⟩, h4⟩, h5⟩ := h
    split at h4
    · simp only [Bool.and_eq_true, decide_eq_true_eq] at h4
      obtain ⟨⟨⟨⟨a1, a2⟩, a3⟩, a4⟩, a5⟩ := h4
      split at h5
      · rename_i m0 m1 m2 m3 n m5 hs
        have hs' := congrArg List.toArray hs
        rw [Array.toArray_toList] at hs'
        have e1 := of_decide_eq_true h1
        have e5 := of_decide_eq_true h5
        simp only [Bool.not_eq_true'] at h3
        subst e1 a1 a2 a3 a4 a5 e5 hs' h3
        have h2' : hd = true := h2
        subst h2'
        exact ⟨_, _, _, _, _, _, _, _, _, _, _, _, _, _, hl⟩
      · cases h5
    · cases h4
  · cases h
theorem fnB_ok {K : PySem.W.Frag} {f : Addr} {oc kV dV doc pm cd ct : Value} {od an : Option Addr} {osl : Array (Option Value)} {nm q : Str} {a : Arguments} {b : List Stmt} {s : Scope}
    (h : fnB K f = true) (l : K.lookup f = some ⟨oc, od, .func (PySem.W.fnOf nm q a b s dV kV doc pm an cd ct), osl⟩) : oc = .type "function" ∧ kV = .none := by
  unfold fnB at h
  rw [l] at h
  split at h
  · rename_i hh
    cases hh
    simp only [Bool.and_eq_true] at h
    obtain ⟨h1, h2⟩ := h
    refine ⟨by rw [of_decide_eq_true h1], ?_⟩
    split at h2
    · rfl
    · cases h2
  · cases h
theorem keep_fn {K : PySem.W.Frag} {f : Addr} {oc : Value} {od : Option Addr} {g : FuncData} {osl : Array (Option Value)} (l : K.lookup f = some ⟨oc, od, .func g, osl⟩) : PySem.W.keepIn K (.ref f) = true := by
  unfold PySem.W.keepIn
  dsimp only
  rw [l]
theorem walk_ofGE {l : PySem.W.OpenLaw} {n k : Nat} {q : Program} {loose : List Str}
    {XP : (Str → Option Value) → Heap → Prop} {YP : World → Heap → Prop} {d : DefRec} {CX : CXT} {x : Str}
    (hn : l.most = some n) (hn2 : n ≤ sizeLine) (hdf : d.params.defaults = []) (hr : Room k callerA)
    (F : ∀ (w : World) (mg : Str → Option Value) (fa : Addr) (h : Heap), YP w h → h.Ns mainGlobals mg → mg d.name = some (.ref fa) →
      ∃ (K : PySem.W.Frag) (fd : FuncData) (sp : Sp), K.In h ∧ (∀ (s : Shared) (u : Value), BindsTo s fd ⟨[u], []⟩ [(x, u)]) ∧
        (∀ (H : Hp) (a : Addr) (ns : List Int), ns.length ≤ n → Only H → SqL K H a (ns.map V.int) → sp [.ref a] H (fun v _ => v = .bl true) fun _ _ _ => False) ∧
        ∀ base : Heap, K.In base → base.Ns mainGlobals mg → FnG l.prog w K mg base CX k fa fd [x] sp)
    (hCX : ∀ (H : Hp) (s : Shared) (e : Value) (s' : Shared), CX [] H s (fun _ _ _ => False) e s' → False) :
    PySem.W.WalkO q loose XP YP l.row.toRowW d [] (fun f vs => PySem.call f vs) := by
  refine Att.attach_call hn hdf ?_
  intro w s₀ s₁ mg mb fa o pm cd doc a vs ns G Y ho hd hcd hmg hobj hints hlen hg
  obtain ⟨K, fd, sp, KX, hb, hsp, hF⟩ := F w mg fa _ Y G.T.g hmg
  exact law_callG KX G.T.g G.T.b G.T.builtins G.T.nolimit hg hobj hints (Nat.le_trans hlen hn2) hr hF hb
    (fun H hO hS => hsp H a ns hlen hO hS) (fun H e s' => hCX H s₁ e s')
theorem glo_of {K : PySem.W.Frag} {x : Str} (h : fGlo x K = true) : PySem.W.nsIn K mainGlobals x = some (some (.ref (He.ga K x))) := He.eqO_ok h
theorem free_of {K : PySem.W.Frag} {x : Str} (h : fFree x K = true) : PySem.W.nsIn K mainGlobals x = some none := He.eqO_ok h
theorem find_of {K : PySem.W.Frag} {x n : Str} {v : Option Value} (h : fFind x n v K = true) : PySem.W.findIn K (.ref (He.ga K x)) n = some v := He.eqO_ok h
theorem init_of {K : PySem.W.Frag} {x : Str} (h : fInit x K = true) : PySem.W.findIn K (.ref (He.ga K x)) "__init__" = some (some (.ref (He.ma K (He.ga K x) "__init__"))) := He.eqO_ok h
theorem cls_of {K : PySem.W.Frag} {x : Str} (h : fCls x K = true) : ClsAt K (He.ga K "MillError") (He.ga K x) := clsB_ok h
theorem exc_of {K : PySem.W.Frag} {x : Str} (h : fExc x K = true) : PySem.W.excIn K (He.ga K x) exTail "Exception.__new__" = true := h
/-! ### further facts -/
def fMeth (x n : Str) : PySem.W.Frag → Bool := fun K => He.eqO (PySem.W.findIn K (.ref (He.ga K x)) n) (some (some (.ref (He.ma K (He.ga K x) n)))) && PySem.W.isFn K (.ref (He.ma K (He.ga K x) n))
theorem meth_of {K : PySem.W.Frag} {x n : Str} (h : fMeth x n K = true) : PySem.W.findIn K (.ref (He.ga K x)) n = some (some (.ref (He.ma K (He.ga K x) n))) ∧ PySem.W.isFn K (.ref (He.ma K (He.ga K x) n)) = true := by
  obtain ⟨a, b⟩ := Bool.and_eq_true_iff.mp h
  exact ⟨He.eqO_ok a, b⟩
/-- a class of one's own, its objects made and read plainly -/
def fOwn (x : Str) : PySem.W.Frag → Bool := fun K => PySem.W.plainGet K (He.ga K x) Str.empty && (PySem.W.hasDictIn K (He.ga K x) && (PySem.W.plainOver K (He.ga K x) && (PySem.W.makesIn K (He.ga K x) && PySem.W.keepIn K (.ref (He.ga K x)))))
theorem own_of {K : PySem.W.Frag} {x : Str} (h : fOwn x K = true) : PySem.W.plainGet K (He.ga K x) Str.empty = true ∧ PySem.W.hasDictIn K (He.ga K x) = true ∧ PySem.W.plainOver K (He.ga K x) = true ∧ PySem.W.makesIn K (He.ga K x) = true ∧ PySem.W.keepIn K (.ref (He.ga K x)) = true := by
  obtain ⟨a, h⟩ := Bool.and_eq_true_iff.mp h
  obtain ⟨b, h⟩ := Bool.and_eq_true_iff.mp h
  obtain ⟨c, h⟩ := Bool.and_eq_true_iff.mp h
  obtain ⟨d, e⟩ := Bool.and_eq_true_iff.mp h
  exact ⟨a, b, c, d, e⟩
def fTxt (x v : Str) : PySem.W.Frag → Bool := fun K => match PySem.W.nsIn K mainGlobals x with
  | some (some (.str y _)) => decide (y = v)
  | _ => false
theorem txt_of {K : PySem.W.Frag} {x v : Str} (h : fTxt x v K = true) : ∃ t, PySem.W.nsIn K mainGlobals x = some (some (.str v t)) := by
  unfold fTxt at h
  split at h
  · rename_i y t e
    have := of_decide_eq_true h
    subst this
    exact ⟨t, e⟩
  · cases h
def fExm (x y : Str) (b : Bool) : PySem.W.Frag → Bool := fun K => decide (PySem.W.exmOne K (.ref (He.ga K x)) (.ref (He.ga K y)) = some b)
theorem exm_of {K : PySem.W.Frag} {x y : Str} {b : Bool} (h : fExm x y b K = true) : PySem.W.exmOne K (.ref (He.ga K x)) (.ref (He.ga K y)) = some b := of_decide_eq_true h
def fKit (x y : Str) (b : Bool) : PySem.W.Frag → Bool := fun K => decide (PySem.W.kitOne K (.ref (He.ga K x)) (.ref (He.ga K y)) = some b)
theorem kit_of {K : PySem.W.Frag} {x y : Str} {b : Bool} (h : fKit x y b K = true) : PySem.W.kitOne K (.ref (He.ga K x)) (.ref (He.ga K y)) = some b := of_decide_eq_true h
def fMro (x : Str) : PySem.W.Frag → Bool := fun K => decide (PySem.W.mroIn K (He.ga K x) (.type "object") = some true)
theorem mro_of {K : PySem.W.Frag} {x : Str} (h : fMro x K = true) : PySem.W.mroIn K (He.ga K x) (.type "object") = some true := of_decide_eq_true h
def fSp : PySem.W.Frag → Bool := fun K => He.eqO (PySem.W.specialIn K (.builtin "object.__class__") "__get__") (some (some (.builtin "getset_descriptor.__get__")))
theorem sp_of {K : PySem.W.Frag} (h : fSp K = true) : PySem.W.specialIn K (.builtin "object.__class__") "__get__" = some (some (.builtin "getset_descriptor.__get__")) := He.eqO_ok h
def fTk : PySem.W.Frag → Bool := fun K => decide (PySem.W.takesIn K (.builtin "object.__class__") = some true)
theorem tk_of {K : PySem.W.Frag} (h : fTk K = true) : PySem.W.takesIn K (.builtin "object.__class__") = some true := of_decide_eq_true h
def fMill : PySem.W.Frag → Bool := fun K => PySem.W.isClsIn K (He.ga K "MillError") && decide (PySem.W.typeIn K (.ref (He.ga K "MillError")) = some (.type "type"))
theorem mill_of {K : PySem.W.Frag} (h : fMill K = true) : PySem.W.isClsIn K (He.ga K "MillError") = true ∧ PySem.W.typeIn K (.ref (He.ga K "MillError")) = some (.type "type") := by
  obtain ⟨a, b⟩ := Bool.and_eq_true_iff.mp h
  exact ⟨a, of_decide_eq_true b⟩
end Mq

namespace Lw
open PySem PySem.Spec PyProof.Rows L2 Mq
open SX (S)
theorem all_mk {P : Program} {w : World} {K : PySem.W.Frag} {h : Heap} {mg : Str → Option Value} {fa : Addr} (X : K.In h) (G : h.Ns mainGlobals mg) (hfa : mg "law" = some (.ref fa))
    (sp : PySem.W.specialIn K (.builtin "object.__class__") "__get__" = some (some (.builtin "getset_descriptor.__get__")))
    (tk : PySem.W.takesIn K (.builtin "object.__class__") = some true)
    {CB : Addr}
    (aB : PySem.W.nsIn K mainGlobals "Book" = some (some (.ref CB)))
    (owB : PySem.W.plainGet K CB Str.empty = true ∧ PySem.W.hasDictIn K CB = true ∧ PySem.W.plainOver K CB = true ∧ PySem.W.makesIn K CB = true ∧ PySem.W.keepIn K (.ref CB) = true)
    (saB : PySem.W.findIn K (.ref CB) "__setattr__" = some (some (.builtin "object.__setattr__")))
    (caB : PySem.W.findIn K (.ref CB) "__class__" = some (some (.builtin "object.__class__")))
    (moB : PySem.W.mroIn K CB (.type "object") = some true)
    (kiB : PySem.W.kitOne K (.ref CB) (.ref CB) = some true)
    (nB_letters : PySem.W.findIn K (.ref CB) "letters" = some none)
    (nB_folds : PySem.W.findIn K (.ref CB) "folds" = some none)
    (nB_table : PySem.W.findIn K (.ref CB) "table" = some none)
    {finit : Addr} {odinit aninit : Option Addr} {slinit : Array (Option Value)} {ocinit kVinit dcinit pminit cdinit ctinit : Value}
    (minit : PySem.W.findIn K (.ref CB) "__init__" = some (some (.ref finit)) ∧ PySem.W.isFn K (.ref finit) = true)
    (linit : K.lookup finit = some ⟨ocinit, odinit, .func (PySem.W.fnOf "__init__" "Book.__init__" (defArgs s_Book___init__) (defBody s_Book___init__) (defScope s_Book___init__) .none kVinit dcinit pminit aninit cdinit ctinit), slinit⟩)
    (cinit : PySem.W.codeIn K cdinit "Book.__init__" = true)
    {fleft : Addr} {odleft anleft : Option Addr} {slleft : Array (Option Value)} {ocleft kVleft dcleft pmleft cdleft ctleft : Value}
    (mleft : PySem.W.findIn K (.ref CB) "left_of" = some (some (.ref fleft)) ∧ PySem.W.isFn K (.ref fleft) = true)
    (lleft : K.lookup fleft = some ⟨ocleft, odleft, .func (PySem.W.fnOf "left_of" "Book.left_of" (defArgs s_Book_left_of) (defBody s_Book_left_of) (defScope s_Book_left_of) .none kVleft dcleft pmleft anleft cdleft ctleft), slleft⟩)
    (cleft : PySem.W.codeIn K cdleft "Book.left_of" = true)
    {feq : Addr} {odeq aneq : Option Addr} {sleq : Array (Option Value)} {oceq kVeq dceq pmeq cdeq cteq : Value}
    (meq : PySem.W.findIn K (.ref CB) "__eq__" = some (some (.ref feq)) ∧ PySem.W.isFn K (.ref feq) = true)
    (leq : K.lookup feq = some ⟨oceq, odeq, .func (PySem.W.fnOf "__eq__" "Book.__eq__" (defArgs s_Book___eq__) (defBody s_Book___eq__) (defScope s_Book___eq__) .none kVeq dceq pmeq aneq cdeq cteq), sleq⟩)
    (ceq : PySem.W.codeIn K cdeq "Book.__eq__" = true)
    {f0 : Addr} {od0 an0 : Option Addr} {sl0 : Array (Option Value)} {oc0 kV0 dc0 pm0 cd0 ct0 : Value}
    (a0 : PySem.W.nsIn K mainGlobals "is_letters" = some (some (.ref f0)))
    (l0 : K.lookup f0 = some ⟨oc0, od0, .func (PySem.W.fnOf "is_letters" "is_letters" (defArgs s_is_letters) (defBody s_is_letters) (defScope s_is_letters) .none kV0 dc0 pm0 an0 cd0 ct0), sl0⟩)
    (c0 : PySem.W.codeIn K cd0 "is_letters" = true)
    {f1 : Addr} {od1 an1 : Option Addr} {sl1 : Array (Option Value)} {oc1 kV1 dc1 pm1 cd1 ct1 : Value}
    (a1 : PySem.W.nsIn K mainGlobals "is_letter" = some (some (.ref f1)))
    (l1 : K.lookup f1 = some ⟨oc1, od1, .func (PySem.W.fnOf "is_letter" "is_letter" (defArgs s_is_letter) (defBody s_is_letter) (defScope s_is_letter) .none kV1 dc1 pm1 an1 cd1 ct1), sl1⟩)
    (c1 : PySem.W.codeIn K cd1 "is_letter" = true)
    {f2 : Addr} {od2 an2 : Option Addr} {sl2 : Array (Option Value)} {oc2 kV2 dc2 pm2 cd2 ct2 : Value}
    (a2 : PySem.W.nsIn K mainGlobals "is_word" = some (some (.ref f2)))
    (l2 : K.lookup f2 = some ⟨oc2, od2, .func (PySem.W.fnOf "is_word" "is_word" (defArgs s_is_word) (defBody s_is_word) (defScope s_is_word) .none kV2 dc2 pm2 an2 cd2 ct2), sl2⟩)
    (c2 : PySem.W.codeIn K cd2 "is_word" = true)
    {f3 : Addr} {od3 an3 : Option Addr} {sl3 : Array (Option Value)} {oc3 kV3 dc3 pm3 cd3 ct3 : Value}
    (a3 : PySem.W.nsIn K mainGlobals "is_ascending" = some (some (.ref f3)))
    (l3 : K.lookup f3 = some ⟨oc3, od3, .func (PySem.W.fnOf "is_ascending" "is_ascending" (defArgs s_is_ascending) (defBody s_is_ascending) (defScope s_is_ascending) .none kV3 dc3 pm3 an3 cd3 ct3), sl3⟩)
    (c3 : PySem.W.codeIn K cd3 "is_ascending" = true)
    {f4 : Addr} {od4 an4 : Option Addr} {sl4 : Array (Option Value)} {oc4 kV4 dc4 pm4 cd4 ct4 : Value}
    (a4 : PySem.W.nsIn K mainGlobals "is_paper" = some (some (.ref f4)))
    (l4 : K.lookup f4 = some ⟨oc4, od4, .func (PySem.W.fnOf "is_paper" "is_paper" (defArgs s_is_paper) (defBody s_is_paper) (defScope s_is_paper) .none kV4 dc4 pm4 an4 cd4 ct4), sl4⟩)
    (c4 : PySem.W.codeIn K cd4 "is_paper" = true)
    {f5 : Addr} {od5 an5 : Option Addr} {sl5 : Array (Option Value)} {oc5 kV5 dc5 pm5 cd5 ct5 : Value}
    (a5 : PySem.W.nsIn K mainGlobals "is_fold" = some (some (.ref f5)))
    (l5 : K.lookup f5 = some ⟨oc5, od5, .func (PySem.W.fnOf "is_fold" "is_fold" (defArgs s_is_fold) (defBody s_is_fold) (defScope s_is_fold) .none kV5 dc5 pm5 an5 cd5 ct5), sl5⟩)
    (c5 : PySem.W.codeIn K cd5 "is_fold" = true)
    {f6 : Addr} {od6 an6 : Option Addr} {sl6 : Array (Option Value)} {oc6 kV6 dc6 pm6 cd6 ct6 : Value}
    (a6 : PySem.W.nsIn K mainGlobals "is_ahead" = some (some (.ref f6)))
    (l6 : K.lookup f6 = some ⟨oc6, od6, .func (PySem.W.fnOf "is_ahead" "is_ahead" (defArgs s_is_ahead) (defBody s_is_ahead) (defScope s_is_ahead) .none kV6 dc6 pm6 an6 cd6 ct6), sl6⟩)
    (c6 : PySem.W.codeIn K cd6 "is_ahead" = true)
    {f7 : Addr} {od7 an7 : Option Addr} {sl7 : Array (Option Value)} {oc7 kV7 dc7 pm7 cd7 ct7 : Value}
    (a7 : PySem.W.nsIn K mainGlobals "turning_rows" = some (some (.ref f7)))
    (l7 : K.lookup f7 = some ⟨oc7, od7, .func (PySem.W.fnOf "turning_rows" "turning_rows" (defArgs s_turning_rows) (defBody s_turning_rows) (defScope s_turning_rows) .none kV7 dc7 pm7 an7 cd7 ct7), sl7⟩)
    (c7 : PySem.W.codeIn K cd7 "turning_rows" = true)
    {f8 : Addr} {od8 an8 : Option Addr} {sl8 : Array (Option Value)} {oc8 kV8 dc8 pm8 cd8 ct8 : Value}
    (a8 : PySem.W.nsIn K mainGlobals "can_go" = some (some (.ref f8)))
    (l8 : K.lookup f8 = some ⟨oc8, od8, .func (PySem.W.fnOf "can_go" "can_go" (defArgs s_can_go) (defBody s_can_go) (defScope s_can_go) .none kV8 dc8 pm8 an8 cd8 ct8), sl8⟩)
    (c8 : PySem.W.codeIn K cd8 "can_go" = true)
    {f9 : Addr} {od9 an9 : Option Addr} {sl9 : Array (Option Value)} {oc9 kV9 dc9 pm9 cd9 ct9 : Value}
    (a9 : PySem.W.nsIn K mainGlobals "going_row" = some (some (.ref f9)))
    (l9 : K.lookup f9 = some ⟨oc9, od9, .func (PySem.W.fnOf "going_row" "going_row" (defArgs s_going_row) (defBody s_going_row) (defScope s_going_row) .none kV9 dc9 pm9 an9 cd9 ct9), sl9⟩)
    (c9 : PySem.W.codeIn K cd9 "going_row" = true)
    {f10 : Addr} {od10 an10 : Option Addr} {sl10 : Array (Option Value)} {oc10 kV10 dc10 pm10 cd10 ct10 : Value}
    (a10 : PySem.W.nsIn K mainGlobals "judge_going" = some (some (.ref f10)))
    (l10 : K.lookup f10 = some ⟨oc10, od10, .func (PySem.W.fnOf "judge_going" "judge_going" (defArgs s_judge_going) (defBody s_judge_going) (defScope s_judge_going) .none kV10 dc10 pm10 an10 cd10 ct10), sl10⟩)
    (c10 : PySem.W.codeIn K cd10 "judge_going" = true)
    {f11 : Addr} {od11 an11 : Option Addr} {sl11 : Array (Option Value)} {oc11 kV11 dc11 pm11 cd11 ct11 : Value}
    (a11 : PySem.W.nsIn K mainGlobals "going_holds" = some (some (.ref f11)))
    (l11 : K.lookup f11 = some ⟨oc11, od11, .func (PySem.W.fnOf "going_holds" "going_holds" (defArgs s_going_holds) (defBody s_going_holds) (defScope s_going_holds) .none kV11 dc11 pm11 an11 cd11 ct11), sl11⟩)
    (c11 : PySem.W.codeIn K cd11 "going_holds" = true)
    {f12 : Addr} {od12 an12 : Option Addr} {sl12 : Array (Option Value)} {oc12 kV12 dc12 pm12 cd12 ct12 : Value}
    (a12 : PySem.W.nsIn K mainGlobals "does_row_go" = some (some (.ref f12)))
    (l12 : K.lookup f12 = some ⟨oc12, od12, .func (PySem.W.fnOf "does_row_go" "does_row_go" (defArgs s_does_row_go) (defBody s_does_row_go) (defScope s_does_row_go) .none kV12 dc12 pm12 an12 cd12 ct12), sl12⟩)
    (c12 : PySem.W.codeIn K cd12 "does_row_go" = true)
    {f13 : Addr} {od13 an13 : Option Addr} {sl13 : Array (Option Value)} {oc13 kV13 dc13 pm13 cd13 ct13 : Value}
    (a13 : PySem.W.nsIn K mainGlobals "does_lot_stay" = some (some (.ref f13)))
    (l13 : K.lookup f13 = some ⟨oc13, od13, .func (PySem.W.fnOf "does_lot_stay" "does_lot_stay" (defArgs s_does_lot_stay) (defBody s_does_lot_stay) (defScope s_does_lot_stay) .none kV13 dc13 pm13 an13 cd13 ct13), sl13⟩)
    (c13 : PySem.W.codeIn K cd13 "does_lot_stay" = true)
    {f14 : Addr} {od14 an14 : Option Addr} {sl14 : Array (Option Value)} {oc14 kV14 dc14 pm14 cd14 ct14 : Value}
    (a14 : PySem.W.nsIn K mainGlobals "turned_into" = some (some (.ref f14)))
    (l14 : K.lookup f14 = some ⟨oc14, od14, .func (PySem.W.fnOf "turned_into" "turned_into" (defArgs s_turned_into) (defBody s_turned_into) (defScope s_turned_into) .none kV14 dc14 pm14 an14 cd14 ct14), sl14⟩)
    (c14 : PySem.W.codeIn K cd14 "turned_into" = true)
    {f15 : Addr} {od15 an15 : Option Addr} {sl15 : Array (Option Value)} {oc15 kV15 dc15 pm15 cd15 ct15 : Value}
    (a15 : PySem.W.nsIn K mainGlobals "_law_deck" = some (some (.ref f15)))
    (l15 : K.lookup f15 = some ⟨oc15, od15, .func (PySem.W.fnOf "_law_deck" "_law_deck" (defArgs s__law_deck) (defBody s__law_deck) (defScope s__law_deck) .none kV15 dc15 pm15 an15 cd15 ct15), sl15⟩)
    (c15 : PySem.W.codeIn K cd15 "_law_deck" = true)
    {f16 : Addr} {od16 an16 : Option Addr} {sl16 : Array (Option Value)} {oc16 kV16 dc16 pm16 cd16 ct16 : Value}
    (a16 : PySem.W.nsIn K mainGlobals "_law_draw" = some (some (.ref f16)))
    (l16 : K.lookup f16 = some ⟨oc16, od16, .func (PySem.W.fnOf "_law_draw" "_law_draw" (defArgs s__law_draw) (defBody s__law_draw) (defScope s__law_draw) .none kV16 dc16 pm16 an16 cd16 ct16), sl16⟩)
    (c16 : PySem.W.codeIn K cd16 "_law_draw" = true)
    {f17 : Addr} {od17 an17 : Option Addr} {sl17 : Array (Option Value)} {oc17 kV17 dc17 pm17 cd17 ct17 : Value}
    (a17 : PySem.W.nsIn K mainGlobals "_law_pick" = some (some (.ref f17)))
    (l17 : K.lookup f17 = some ⟨oc17, od17, .func (PySem.W.fnOf "_law_pick" "_law_pick" (defArgs s__law_pick) (defBody s__law_pick) (defScope s__law_pick) .none kV17 dc17 pm17 an17 cd17 ct17), sl17⟩)
    (c17 : PySem.W.codeIn K cd17 "_law_pick" = true)
    {f18 : Addr} {od18 an18 : Option Addr} {sl18 : Array (Option Value)} {oc18 kV18 dc18 pm18 cd18 ct18 : Value}
    (a18 : PySem.W.nsIn K mainGlobals "_law_world" = some (some (.ref f18)))
    (l18 : K.lookup f18 = some ⟨oc18, od18, .func (PySem.W.fnOf "_law_world" "_law_world" (defArgs s__law_world) (defBody s__law_world) (defScope s__law_world) .none kV18 dc18 pm18 an18 cd18 ct18), sl18⟩)
    (c18 : PySem.W.codeIn K cd18 "_law_world" = true)
    {f19 : Addr} {od19 an19 : Option Addr} {sl19 : Array (Option Value)} {oc19 kV19 dc19 pm19 cd19 ct19 : Value}
    (a19 : PySem.W.nsIn K mainGlobals "_law_code" = some (some (.ref f19)))
    (l19 : K.lookup f19 = some ⟨oc19, od19, .func (PySem.W.fnOf "_law_code" "_law_code" (defArgs s__law_code) (defBody s__law_code) (defScope s__law_code) .none kV19 dc19 pm19 an19 cd19 ct19), sl19⟩)
    (c19 : PySem.W.codeIn K cd19 "_law_code" = true)
    {f20 : Addr} {od20 an20 : Option Addr} {sl20 : Array (Option Value)} {oc20 kV20 dc20 pm20 cd20 ct20 : Value}
    (a20 : PySem.W.nsIn K mainGlobals "_law_web" = some (some (.ref f20)))
    (l20 : K.lookup f20 = some ⟨oc20, od20, .func (PySem.W.fnOf "_law_web" "_law_web" (defArgs s__law_web) (defBody s__law_web) (defScope s__law_web) .none kV20 dc20 pm20 an20 cd20 ct20), sl20⟩)
    (c20 : PySem.W.codeIn K cd20 "_law_web" = true)
    {f21 : Addr} {od21 an21 : Option Addr} {sl21 : Array (Option Value)} {oc21 kV21 dc21 pm21 cd21 ct21 : Value}
    (a21 : PySem.W.nsIn K mainGlobals "_law_ways" = some (some (.ref f21)))
    (l21 : K.lookup f21 = some ⟨oc21, od21, .func (PySem.W.fnOf "_law_ways" "_law_ways" (defArgs s__law_ways) (defBody s__law_ways) (defScope s__law_ways) .none kV21 dc21 pm21 an21 cd21 ct21), sl21⟩)
    (c21 : PySem.W.codeIn K cd21 "_law_ways" = true)
    {f22 : Addr} {od22 an22 : Option Addr} {sl22 : Array (Option Value)} {oc22 kV22 dc22 pm22 cd22 ct22 : Value}
    (a22 : PySem.W.nsIn K mainGlobals "_law_is_paper" = some (some (.ref f22)))
    (l22 : K.lookup f22 = some ⟨oc22, od22, .func (PySem.W.fnOf "_law_is_paper" "_law_is_paper" (defArgs s__law_is_paper) (defBody s__law_is_paper) (defScope s__law_is_paper) .none kV22 dc22 pm22 an22 cd22 ct22), sl22⟩)
    (c22 : PySem.W.codeIn K cd22 "_law_is_paper" = true)
    {f23 : Addr} {od23 an23 : Option Addr} {sl23 : Array (Option Value)} {oc23 kV23 dc23 pm23 cd23 ct23 : Value}
    (a23 : PySem.W.nsIn K mainGlobals "_law_odd" = some (some (.ref f23)))
    (l23 : K.lookup f23 = some ⟨oc23, od23, .func (PySem.W.fnOf "_law_odd" "_law_odd" (defArgs s__law_odd) (defBody s__law_odd) (defScope s__law_odd) .none kV23 dc23 pm23 an23 cd23 ct23), sl23⟩)
    (c23 : PySem.W.codeIn K cd23 "_law_odd" = true)
    {f24 : Addr} {od24 an24 : Option Addr} {sl24 : Array (Option Value)} {oc24 kV24 dc24 pm24 cd24 ct24 : Value}
    (a24 : PySem.W.nsIn K mainGlobals "_law_bent" = some (some (.ref f24)))
    (l24 : K.lookup f24 = some ⟨oc24, od24, .func (PySem.W.fnOf "_law_bent" "_law_bent" (defArgs s__law_bent) (defBody s__law_bent) (defScope s__law_bent) .none kV24 dc24 pm24 an24 cd24 ct24), sl24⟩)
    (c24 : PySem.W.codeIn K cd24 "_law_bent" = true)
    {f25 : Addr} {od25 an25 : Option Addr} {sl25 : Array (Option Value)} {oc25 kV25 dc25 pm25 cd25 ct25 : Value}
    (a25 : PySem.W.nsIn K mainGlobals "_law_papers" = some (some (.ref f25)))
    (l25 : K.lookup f25 = some ⟨oc25, od25, .func (PySem.W.fnOf "_law_papers" "_law_papers" (defArgs s__law_papers) (defBody s__law_papers) (defScope s__law_papers) .none kV25 dc25 pm25 an25 cd25 ct25), sl25⟩)
    (c25 : PySem.W.codeIn K cd25 "_law_papers" = true)
    {f26 : Addr} {od26 an26 : Option Addr} {sl26 : Array (Option Value)} {oc26 kV26 dc26 pm26 cd26 ct26 : Value}
    (a26 : PySem.W.nsIn K mainGlobals "_law_letter_right" = some (some (.ref f26)))
    (l26 : K.lookup f26 = some ⟨oc26, od26, .func (PySem.W.fnOf "_law_letter_right" "_law_letter_right" (defArgs s__law_letter_right) (defBody s__law_letter_right) (defScope s__law_letter_right) .none kV26 dc26 pm26 an26 cd26 ct26), sl26⟩)
    (c26 : PySem.W.codeIn K cd26 "_law_letter_right" = true)
    {f27 : Addr} {od27 an27 : Option Addr} {sl27 : Array (Option Value)} {oc27 kV27 dc27 pm27 cd27 ct27 : Value}
    (a27 : PySem.W.nsIn K mainGlobals "law" = some (some (.ref f27)))
    (l27 : K.lookup f27 = some ⟨oc27, od27, .func (PySem.W.fnOf "law" "law" (defArgs s_law) (defBody s_law) (defScope s_law) .none kV27 dc27 pm27 an27 cd27 ct27), sl27⟩)
    (c27 : PySem.W.codeIn K cd27 "law" = true)
    (b_len : PySem.W.nsIn K mainGlobals "len" = some none)
    (b_range : PySem.W.nsIn K mainGlobals "range" = some none)
    (b_isinstance : PySem.W.nsIn K mainGlobals "isinstance" = some none)
    (b_all : PySem.W.nsIn K mainGlobals "all" = some none)
    (b_any : PySem.W.nsIn K mainGlobals "any" = some none)
    (b_int : PySem.W.nsIn K mainGlobals "int" = some none)
    (b_str : PySem.W.nsIn K mainGlobals "str" = some none)
    (b_bool : PySem.W.nsIn K mainGlobals "bool" = some none)
    (b_tuple : PySem.W.nsIn K mainGlobals "tuple" = some none)
    (b_list : PySem.W.nsIn K mainGlobals "list" = some none)
    (b_repr : PySem.W.nsIn K mainGlobals "repr" = some none)
    (b_enumerate : PySem.W.nsIn K mainGlobals "enumerate" = some none)
    (b_sorted : PySem.W.nsIn K mainGlobals "sorted" = some none)
    (b_set : PySem.W.nsIn K mainGlobals "set" = some none)
    (t_ALPHABET : ∃ t, PySem.W.nsIn K mainGlobals "ALPHABET" = some (some (.str "abcdefghijklmnopqrstuvwxyz" t))) :
    ∃ fd : FuncData, (∀ (s : Shared) (u : Value), BindsTo s fd ⟨[u], []⟩ [("_law_script", u)]) ∧ ∀ base : Heap, K.In base → base.Ns mainGlobals mg → FnG P w K mg base CX0 8 fa fd ["_law_script"] (spLaw K) := by
  have e := hfa.symm.trans (PySem.W.mg_of X G a27)
  cases e
  have B : Blt mg := ⟨PySem.W.mg_none_of X G b_len, PySem.W.mg_none_of X G b_range, PySem.W.mg_none_of X G b_isinstance, PySem.W.mg_none_of X G b_all, PySem.W.mg_none_of X G b_any, PySem.W.mg_none_of X G b_int, PySem.W.mg_none_of X G b_str, PySem.W.mg_none_of X G b_bool, PySem.W.mg_none_of X G b_tuple, PySem.W.mg_none_of X G b_list, PySem.W.mg_none_of X G b_repr, PySem.W.mg_none_of X G b_enumerate⟩
  have n_sorted : mg "sorted" = none := PySem.W.mg_none_of X G b_sorted
  have n_set : mg "set" = none := PySem.W.mg_none_of X G b_set
  have U0 := fun_mk (st := s_is_letters) l0 c0 (keep_fn l0)
  have g0 := PySem.W.mg_of X G a0
  have b0 := U0.binds (ps := ["thing"]) fun _ _ _ _ _ _ us hl => match us, hl with | [_], _ => rfl
  have U1 := fun_mk (st := s_is_letter) l1 c1 (keep_fn l1)
  have g1 := PySem.W.mg_of X G a1
  have b1 := U1.binds (ps := ["letters", "thing"]) fun _ _ _ _ _ _ us hl => match us, hl with | [_, _], _ => rfl
  have U2 := fun_mk (st := s_is_word) l2 c2 (keep_fn l2)
  have g2 := PySem.W.mg_of X G a2
  have b2 := U2.binds (ps := ["letters", "thing"]) fun _ _ _ _ _ _ us hl => match us, hl with | [_, _], _ => rfl
  have U3 := fun_mk (st := s_is_ascending) l3 c3 (keep_fn l3)
  have g3 := PySem.W.mg_of X G a3
  have b3 := U3.binds (ps := ["parts"]) fun _ _ _ _ _ _ us hl => match us, hl with | [_], _ => rfl
  have U4 := fun_mk (st := s_is_paper) l4 c4 (keep_fn l4)
  have g4 := PySem.W.mg_of X G a4
  have b4 := U4.binds (ps := ["thing", "word", "many"]) fun _ _ _ _ _ _ us hl => match us, hl with | [_, _, _], _ => rfl
  have U5 := fun_mk (st := s_is_fold) l5 c5 (keep_fn l5)
  have g5 := PySem.W.mg_of X G a5
  have b5 := U5.binds (ps := ["letters", "thing"]) fun _ _ _ _ _ _ us hl => match us, hl with | [_, _], _ => rfl
  have U6 := fun_mk (st := s_is_ahead) l6 c6 (keep_fn l6)
  have g6 := PySem.W.mg_of X G a6
  have b6 := U6.binds (ps := ["one", "other"]) fun _ _ _ _ _ _ us hl => match us, hl with | [_, _], _ => rfl
  have U7 := fun_mk (st := s_turning_rows) l7 c7 (keep_fn l7)
  have g7 := PySem.W.mg_of X G a7
  have b7 := U7.binds (ps := ["book", "letter"]) fun _ _ _ _ _ _ us hl => match us, hl with | [_, _], _ => rfl
  have U8 := fun_mk (st := s_can_go) l8 c8 (keep_fn l8)
  have g8 := PySem.W.mg_of X G a8
  have b8 := U8.binds (ps := ["book", "letter"]) fun _ _ _ _ _ _ us hl => match us, hl with | [_, _], _ => rfl
  have U9 := fun_mk (st := s_going_row) l9 c9 (keep_fn l9)
  have g9 := PySem.W.mg_of X G a9
  have b9 := U9.binds (ps := ["book", "letter"]) fun _ _ _ _ _ _ us hl => match us, hl with | [_, _], _ => rfl
  have U10 := fun_mk (st := s_judge_going) l10 c10 (keep_fn l10)
  have g10 := PySem.W.mg_of X G a10
  have b10 := U10.binds (ps := ["book", "letter"]) fun _ _ _ _ _ _ us hl => match us, hl with | [_, _], _ => rfl
  have U11 := fun_mk (st := s_going_holds) l11 c11 (keep_fn l11)
  have g11 := PySem.W.mg_of X G a11
  have b11 := U11.binds (ps := ["book", "letter", "thing"]) fun _ _ _ _ _ _ us hl => match us, hl with | [_, _, _], _ => rfl
  have U12 := fun_mk (st := s_does_row_go) l12 c12 (keep_fn l12)
  have g12 := PySem.W.mg_of X G a12
  have b12 := U12.binds (ps := ["book", "letter", "row"]) fun _ _ _ _ _ _ us hl => match us, hl with | [_, _, _], _ => rfl
  have U13 := fun_mk (st := s_does_lot_stay) l13 c13 (keep_fn l13)
  have g13 := PySem.W.mg_of X G a13
  have b13 := U13.binds (ps := ["book", "letter", "lot"]) fun _ _ _ _ _ _ us hl => match us, hl with | [_, _, _], _ => rfl
  have U14 := fun_mk (st := s_turned_into) l14 c14 (keep_fn l14)
  have g14 := PySem.W.mg_of X G a14
  have b14 := U14.binds (ps := ["book", "letter"]) fun _ _ _ _ _ _ us hl => match us, hl with | [_, _], _ => rfl
  have U15 := fun_mk (st := s__law_deck) l15 c15 (keep_fn l15)
  have g15 := PySem.W.mg_of X G a15
  have b15 := U15.binds (ps := ["_law_script"]) fun _ _ _ _ _ _ us hl => match us, hl with | [_], _ => rfl
  have U16 := fun_mk (st := s__law_draw) l16 c16 (keep_fn l16)
  have g16 := PySem.W.mg_of X G a16
  have b16 := U16.binds (ps := ["_law_deck_here", "_law_below"]) fun _ _ _ _ _ _ us hl => match us, hl with | [_, _], _ => rfl
  have U17 := fun_mk (st := s__law_pick) l17 c17 (keep_fn l17)
  have g17 := PySem.W.mg_of X G a17
  have b17 := U17.binds (ps := ["_law_deck_here", "_law_some"]) fun _ _ _ _ _ _ us hl => match us, hl with | [_, _], _ => rfl
  have U18 := fun_mk (st := s__law_world) l18 c18 (keep_fn l18)
  have g18 := PySem.W.mg_of X G a18
  have b18 := U18.binds (ps := ["_law_deck_here"]) fun _ _ _ _ _ _ us hl => match us, hl with | [_], _ => rfl
  have U19 := fun_mk (st := s__law_code) l19 c19 (keep_fn l19)
  have g19 := PySem.W.mg_of X G a19
  have b19 := U19.binds (ps := ["_law_w"]) fun _ _ _ _ _ _ us hl => match us, hl with | [_], _ => rfl
  have U20 := fun_mk (st := s__law_web) l20 c20 (keep_fn l20)
  have g20 := PySem.W.mg_of X G a20
  have b20 := U20.binds (ps := ["_law_deck_here", "_law_w", "_law_most"]) fun _ _ _ _ _ _ us hl => match us, hl with | [_, _, _], _ => rfl
  have U21 := fun_mk (st := s__law_ways) l21 c21 (keep_fn l21)
  have g21 := PySem.W.mg_of X G a21
  have b21 := U21.binds (ps := ["_law_w", "_law_x", "_law_is_going"]) fun _ _ _ _ _ _ us hl => match us, hl with | [_, _, _], _ => rfl
  have U22 := fun_mk (st := s__law_is_paper) l22 c22 (keep_fn l22)
  have g22 := PySem.W.mg_of X G a22
  have b22 := U22.binds (ps := ["_law_w", "_law_x", "_law_it"]) fun _ _ _ _ _ _ us hl => match us, hl with | [_, _, _], _ => rfl
  have U23 := fun_mk (st := s__law_odd) l23 c23 (keep_fn l23)
  have g23 := PySem.W.mg_of X G a23
  have b23 := U23.binds (ps := ["_law_deck_here", "_law_it"]) fun _ _ _ _ _ _ us hl => match us, hl with | [_, _], _ => rfl
  have U24 := fun_mk (st := s__law_bent) l24 c24 (keep_fn l24)
  have g24 := PySem.W.mg_of X G a24
  have b24 := U24.binds (ps := ["_law_deck_here", "_law_it"]) fun _ _ _ _ _ _ us hl => match us, hl with | [_, _], _ => rfl
  have U25 := fun_mk (st := s__law_papers) l25 c25 (keep_fn l25)
  have g25 := PySem.W.mg_of X G a25
  have b25 := U25.binds (ps := ["_law_deck_here", "_law_w", "_law_x"]) fun _ _ _ _ _ _ us hl => match us, hl with | [_, _, _], _ => rfl
  have U26 := fun_mk (st := s__law_letter_right) l26 c26 (keep_fn l26)
  have g26 := PySem.W.mg_of X G a26
  have b26 := U26.binds (ps := ["_law_deck_here", "_law_w", "_law_code_here", "_law_x"]) fun _ _ _ _ _ _ us hl => match us, hl with | [_, _, _, _], _ => rfl
  have U27 := fun_mk (st := s_law) l27 c27 (keep_fn l27)
  have g27 := PySem.W.mg_of X G a27
  have b27 := U27.binds (ps := ["_law_script"]) fun _ _ _ _ _ _ us hl => match us, hl with | [_], _ => rfl
  have gCB := PySem.W.mg_of X G aB
  have Uinit := fun_mk (st := s_Book___init__) linit cinit (keep_fn linit)
  have binit := Uinit.binds (ps := ["self", "letters", "folds"]) fun _ _ _ _ _ _ us hl => match us, hl with | [_, _, _], _ => rfl
  have Minit : Meth K CB "__init__" finit := ⟨minit.1, minit.2, keep_fn linit⟩
  have Uleft := fun_mk (st := s_Book_left_of) lleft cleft (keep_fn lleft)
  have bleft := Uleft.binds (ps := ["self", "last", "laid"]) fun _ _ _ _ _ _ us hl => match us, hl with | [_, _, _], _ => rfl
  have Mleft : Meth K CB "left_of" fleft := ⟨mleft.1, mleft.2, keep_fn lleft⟩
  have Ueq := fun_mk (st := s_Book___eq__) leq ceq (keep_fn leq)
  have beq := Ueq.binds (ps := ["self", "other"]) fun _ _ _ _ _ _ us hl => match us, hl with | [_, _], _ => rfl
  have Meq : Meth K CB "__eq__" feq := ⟨meq.1, meq.2, keep_fn leq⟩
  refine ⟨PySem.W.fnOf "law" "law" (defArgs s_law) (defBody s_law) (defScope s_law) .none kV27 dc27 pm27 an27 cd27 ct27, fun s u => .of_eq rfl, fun base _ _ => ?_⟩
  have R : BkC K CB := ⟨⟨owB.1, owB.2.1, owB.2.2.1, saB⟩, nB_letters, nB_folds, nB_table⟩
  have MK : Mk K CB finit := ⟨owB.2.2.2.1, minit.1, minit.2, owB.2.2.2.2⟩
  have EQ : EqT K mg CB := ⟨gCB, fun H a dx fs e => .base (.ins e R.cls caB sp tk moB), kiB⟩
  obtain ⟨tA, aA⟩ := t_ALPHABET
  have kC : KBn K _ ["book", "letter"] 0 ["letter", "book"] rev0 rev0 := kbn_rev2 U8 fun _ _ _ _ _ _ _ _ => rfl
  have kG : KBn K _ ["book", "letter"] 0 ["letter", "book"] rev0 rev0 := kbn_rev2 U9 fun _ _ _ _ _ _ _ _ => rfl
  have kJ : KBn K _ ["book", "letter"] 0 ["letter", "book"] rev0 rev0 := kbn_rev2 U10 fun _ _ _ _ _ _ _ _ => rfl
  have kH : KBn K _ ["book", "letter", "thing"] 0 ["thing", "letter", "book"] rev0 rev0 := kbn_rev3 U11 fun _ _ _ _ _ _ _ _ _ => rfl
  have Glets : FnOk P w K mg base CX0 2 f0 _ ["thing"] (spLetters K) := ok_is_letters U0 B U3 g3 b3 ⟨tA, PySem.W.mg_of X G aA⟩
  have Gword : FnOk P w K mg base CX0 1 f2 _ ["letters", "thing"] (spWord K) := ok_is_word U2 B
  have Gfold : FnOk P w K mg base CX0 2 f5 _ ["letters", "thing"] (spFold K) := ok_is_fold U5 B U1 g1 b1
  have Gini : FnOk P w K mg base CX0 3 finit _ ["self", "letters", "folds"] (spBook K CB) := ok_book Uinit B R U0 g0 b0 Glets U5 g5 b5 Gfold
  have Geq : FnOk P w K mg base CX0 3 feq _ ["self", "other"] (spEq (EqB K CB)) := ok_eq Ueq B R EQ
  have Gpap : FnOk P w K mg base CX0 1 f4 _ ["thing", "word", "many"] (spPaper K) := ok_is_paper U4 B
  have Gtur : FnOk P w K mg base CX0 2 f7 _ ["book", "letter"] (spTurn CB) := ok_turning U7 B R Uleft Mleft bleft
  have Ggo : FnOk P w K mg base CX0 3 f9 _ ["book", "letter"] (spGo CB) := ok_going U9 B R Uleft Mleft bleft U7 g7 b7 Gtur U6 g6 b6
  have Gcan : FnOk P w K mg base CX0 4 f8 _ ["book", "letter"] (spCan CB) := ok_can U8 U9 g9 b9 Ggo
  have Ginto : FnOk P w K mg base CX0 3 f14 _ ["book", "letter"] (spInto CB) := ok_into U14 n_sorted U7 g7 b7 Gtur
  have Gjud : FnOk P w K mg base CX0 4 f10 _ ["book", "letter"] (spJudge K CB) := ok_judge U10 U9 g9 b9 Ggo U14 g14 b14 Ginto
  have Grow : FnOk P w K mg base CX0 2 f12 _ ["book", "letter", "row"] (spRowGo CB) := ok_does_row_go U12 R Uleft Mleft bleft
  have Gsta : FnOk P w K mg base CX0 2 f13 _ ["book", "letter", "lot"] (spStay K CB) := ok_stay U13 B R U3 g3 b3
  have Ghol : FnOk P w K mg base CX0 3 f11 _ ["book", "letter", "thing"] (spHolds K CB) := ok_holds U11 R U4 g4 b4 Gpap U2 g2 b2 Gword U12 g12 b12 Grow U13 g13 b13 Gsta
  have Gdec : FnOk P w K mg base CX0 1 f15 _ ["_law_script"] (spDeck K) := ok_deck U15 B
  have Gdra : FnOk P w K mg base CX0 1 f16 _ ["_law_deck_here", "_law_below"] spDraw := ok_draw U16 B
  have Gpic : FnOk P w K mg base CX0 2 f17 _ ["_law_deck_here", "_law_some"] spPick := ok_pick U17 B U16 g16 b16
  have Gwor : FnOk P w K mg base CX0 3 f18 _ ["_law_deck_here"] spWorld := ok_world U18 U17 g17 b17 Gpic
  have Gcod : FnOk P w K mg base CX0 5 f19 _ ["_law_w"] (spCode K CB) := ok_code U19 B n_sorted gCB MK binit Gini
  have Gweb : FnOk P w K mg base CX0 3 f20 _ ["_law_deck_here", "_law_w", "_law_most"] spLawWeb := ok_law_web U20 B U16 g16 b16 U17 g17 b17
  have Gway : FnOk P w K mg base CX0 2 f21 _ ["_law_w", "_law_x", "_law_is_going"] spWays := ok_ways U21 B n_sorted
  have Gisp : FnOk P w K mg base CX0 2 f22 _ ["_law_w", "_law_x", "_law_it"] (spIsPaper K) := ok_law_paper U22 B n_sorted n_set
  have Godd : FnOk P w K mg base CX0 3 f23 _ ["_law_deck_here", "_law_it"] (spOdd K) := ok_odd U23 B U17 g17 b17 Gpic
  have Gben : FnOk P w K mg base CX0 5 f24 _ ["_law_deck_here", "_law_it"] (spBent K) := ok_bent U24 B U16 g16 b16 Gdra U23 g23 b23 Godd g24 b24
  have Gpaps : FnOk P w K mg base CX0 6 f25 _ ["_law_deck_here", "_law_w", "_law_x"] (spPapers K) := ok_papers U25 B n_sorted U16 g16 b16 Gdra U17 g17 b17 Gpic U20 g20 b20 Gweb U21 g21 b21 Gway U24 g24 b24 Gben
  have Grig : FnG P w K mg base CX0 7 f26 _ ["_law_deck_here", "_law_w", "_law_code_here", "_law_x"] (spRight K CB) := ok_right U26 B U21 g21 b21 Gway U8 g8 b8 kC Gcan U9 g9 b9 kG Ggo U10 g10 b10 kJ Gjud U22 g22 b22 Gisp U25 g25 b25 Gpaps U11 g11 b11 kH Ghol
  exact ok_law U27 B R gCB MK binit Gini meq.1 meq.2 beq Geq U15 g15 b15 Gdec U18 g18 b18 Gwor U19 g19 b19 Gcod U26 g26 b26 Grig U9 g9 b9 Ggo
end Lw

namespace Lw
open PySem PySem.Spec PyProof.Rows L2 Mq
open SX (S)
def fnL : List He.FnD := [⟨("Book", some "__init__"), "__init__", "Book.__init__", defArgs s_Book___init__, defBody s_Book___init__, defScope s_Book___init__⟩,
  ⟨("Book", some "left_of"), "left_of", "Book.left_of", defArgs s_Book_left_of, defBody s_Book_left_of, defScope s_Book_left_of⟩,
  ⟨("Book", some "__eq__"), "__eq__", "Book.__eq__", defArgs s_Book___eq__, defBody s_Book___eq__, defScope s_Book___eq__⟩,
  ⟨("is_letters", none), "is_letters", "is_letters", defArgs s_is_letters, defBody s_is_letters, defScope s_is_letters⟩,
  ⟨("is_letter", none), "is_letter", "is_letter", defArgs s_is_letter, defBody s_is_letter, defScope s_is_letter⟩,
  ⟨("is_word", none), "is_word", "is_word", defArgs s_is_word, defBody s_is_word, defScope s_is_word⟩,
  ⟨("is_ascending", none), "is_ascending", "is_ascending", defArgs s_is_ascending, defBody s_is_ascending, defScope s_is_ascending⟩,
  ⟨("is_paper", none), "is_paper", "is_paper", defArgs s_is_paper, defBody s_is_paper, defScope s_is_paper⟩,
  ⟨("is_fold", none), "is_fold", "is_fold", defArgs s_is_fold, defBody s_is_fold, defScope s_is_fold⟩,
  ⟨("is_ahead", none), "is_ahead", "is_ahead", defArgs s_is_ahead, defBody s_is_ahead, defScope s_is_ahead⟩,
  ⟨("turning_rows", none), "turning_rows", "turning_rows", defArgs s_turning_rows, defBody s_turning_rows, defScope s_turning_rows⟩,
  ⟨("can_go", none), "can_go", "can_go", defArgs s_can_go, defBody s_can_go, defScope s_can_go⟩,
  ⟨("going_row", none), "going_row", "going_row", defArgs s_going_row, defBody s_going_row, defScope s_going_row⟩,
  ⟨("judge_going", none), "judge_going", "judge_going", defArgs s_judge_going, defBody s_judge_going, defScope s_judge_going⟩,
  ⟨("going_holds", none), "going_holds", "going_holds", defArgs s_going_holds, defBody s_going_holds, defScope s_going_holds⟩,
  ⟨("does_row_go", none), "does_row_go", "does_row_go", defArgs s_does_row_go, defBody s_does_row_go, defScope s_does_row_go⟩,
  ⟨("does_lot_stay", none), "does_lot_stay", "does_lot_stay", defArgs s_does_lot_stay, defBody s_does_lot_stay, defScope s_does_lot_stay⟩,
  ⟨("turned_into", none), "turned_into", "turned_into", defArgs s_turned_into, defBody s_turned_into, defScope s_turned_into⟩,
  ⟨("_law_deck", none), "_law_deck", "_law_deck", defArgs s__law_deck, defBody s__law_deck, defScope s__law_deck⟩,
  ⟨("_law_draw", none), "_law_draw", "_law_draw", defArgs s__law_draw, defBody s__law_draw, defScope s__law_draw⟩,
  ⟨("_law_pick", none), "_law_pick", "_law_pick", defArgs s__law_pick, defBody s__law_pick, defScope s__law_pick⟩,
  ⟨("_law_world", none), "_law_world", "_law_world", defArgs s__law_world, defBody s__law_world, defScope s__law_world⟩,
  ⟨("_law_code", none), "_law_code", "_law_code", defArgs s__law_code, defBody s__law_code, defScope s__law_code⟩,
  ⟨("_law_web", none), "_law_web", "_law_web", defArgs s__law_web, defBody s__law_web, defScope s__law_web⟩,
  ⟨("_law_ways", none), "_law_ways", "_law_ways", defArgs s__law_ways, defBody s__law_ways, defScope s__law_ways⟩,
  ⟨("_law_is_paper", none), "_law_is_paper", "_law_is_paper", defArgs s__law_is_paper, defBody s__law_is_paper, defScope s__law_is_paper⟩,
  ⟨("_law_odd", none), "_law_odd", "_law_odd", defArgs s__law_odd, defBody s__law_odd, defScope s__law_odd⟩,
  ⟨("_law_bent", none), "_law_bent", "_law_bent", defArgs s__law_bent, defBody s__law_bent, defScope s__law_bent⟩,
  ⟨("_law_papers", none), "_law_papers", "_law_papers", defArgs s__law_papers, defBody s__law_papers, defScope s__law_papers⟩,
  ⟨("_law_letter_right", none), "_law_letter_right", "_law_letter_right", defArgs s__law_letter_right, defBody s__law_letter_right, defScope s__law_letter_right⟩,
  ⟨("law", none), "law", "law", defArgs s_law, defBody s_law, defScope s_law⟩]
def fs0 : List (PySem.W.Frag → Bool) := [fSp,
  fTk,
  fGlo "Book",
  fOwn "Book",
  fFind "Book" "__setattr__" (some (.builtin "object.__setattr__")),
  fFind "Book" "__class__" (some (.builtin "object.__class__")),
  fMro "Book",
  fKit "Book" "Book" true,
  fFind "Book" "letters" none,
  fFind "Book" "folds" none,
  fFind "Book" "table" none,
  fMeth "Book" "__init__",
  fMeth "Book" "left_of",
  fMeth "Book" "__eq__",
  fGlo "is_letters",
  fGlo "is_letter",
  fGlo "is_word",
  fGlo "is_ascending",
  fGlo "is_paper",
  fGlo "is_fold",
  fGlo "is_ahead",
  fGlo "turning_rows",
  fGlo "can_go",
  fGlo "going_row",
  fGlo "judge_going",
  fGlo "going_holds",
  fGlo "does_row_go",
  fGlo "does_lot_stay",
  fGlo "turned_into",
  fGlo "_law_deck"]
def fs1 : List (PySem.W.Frag → Bool) := [fGlo "_law_draw",
  fGlo "_law_pick",
  fGlo "_law_world",
  fGlo "_law_code",
  fGlo "_law_web",
  fGlo "_law_ways",
  fGlo "_law_is_paper",
  fGlo "_law_odd",
  fGlo "_law_bent",
  fGlo "_law_papers",
  fGlo "_law_letter_right",
  fGlo "law",
  fFree "len",
  fFree "range",
  fFree "isinstance",
  fFree "all",
  fFree "any",
  fFree "int",
  fFree "str",
  fFree "bool",
  fFree "tuple",
  fFree "list",
  fFree "repr",
  fFree "enumerate",
  fFree "sorted",
  fFree "set",
  fTxt "ALPHABET" "abcdefghijklmnopqrstuvwxyz"]
def fsL : List (PySem.W.Frag → Bool) := fs0 ++ fs1
theorem facts {P : Program} {w : World} {K : PySem.W.Frag} {h : Heap} {mg : Str → Option Value} {fa : Addr} (X : K.In h) (G : h.Ns mainGlobals mg) (hfa : mg ("law" : Str) = some (.ref fa)) (c : He.SaysE [] fnL K) (hx : exB fsL K = true) :
    ∃ fd : FuncData, (∀ (s : Shared) (u : Value), BindsTo s fd ⟨[u], []⟩ [("_law_script", u)]) ∧ ∀ base : Heap, K.In base → base.Ns mainGlobals mg → FnG P w K mg base CX0 8 fa fd ["_law_script"] (spLaw K) := by
  obtain ⟨_, _, _, _, _, _, _, _, _, linit, cinit⟩ := c.def_ 0 rfl
  obtain ⟨_, _, _, _, _, _, _, _, _, lleft, cleft⟩ := c.def_ 1 rfl
  obtain ⟨_, _, _, _, _, _, _, _, _, leq, ceq⟩ := c.def_ 2 rfl
  obtain ⟨_, _, _, _, _, _, _, _, _, l0, c0⟩ := c.def_ 3 rfl
  obtain ⟨_, _, _, _, _, _, _, _, _, l1, c1⟩ := c.def_ 4 rfl
  obtain ⟨_, _, _, _, _, _, _, _, _, l2, c2⟩ := c.def_ 5 rfl
  obtain ⟨_, _, _, _, _, _, _, _, _, l3, c3⟩ := c.def_ 6 rfl
  obtain ⟨_, _, _, _, _, _, _, _, _, l4, c4⟩ := c.def_ 7 rfl
  obtain ⟨_, _, _, _, _, _, _, _, _, l5, c5⟩ := c.def_ 8 rfl
  obtain ⟨_, _, _, _, _, _, _, _, _, l6, c6⟩ := c.def_ 9 rfl
  obtain ⟨_, _, _, _, _, _, _, _, _, l7, c7⟩ := c.def_ 10 rfl
  obtain ⟨_, _, _, _, _, _, _, _, _, l8, c8⟩ := c.def_ 11 rfl
  obtain ⟨_, _, _, _, _, _, _, _, _, l9, c9⟩ := c.def_ 12 rfl
  obtain ⟨_, _, _, _, _, _, _, _, _, l10, c10⟩ := c.def_ 13 rfl
  obtain ⟨_, _, _, _, _, _, _, _, _, l11, c11⟩ := c.def_ 14 rfl
  obtain ⟨_, _, _, _, _, _, _, _, _, l12, c12⟩ := c.def_ 15 rfl
  obtain ⟨_, _, _, _, _, _, _, _, _, l13, c13⟩ := c.def_ 16 rfl
  obtain ⟨_, _, _, _, _, _, _, _, _, l14, c14⟩ := c.def_ 17 rfl
  obtain ⟨_, _, _, _, _, _, _, _, _, l15, c15⟩ := c.def_ 18 rfl
  obtain ⟨_, _, _, _, _, _, _, _, _, l16, c16⟩ := c.def_ 19 rfl
  obtain ⟨_, _, _, _, _, _, _, _, _, l17, c17⟩ := c.def_ 20 rfl
  obtain ⟨_, _, _, _, _, _, _, _, _, l18, c18⟩ := c.def_ 21 rfl
  obtain ⟨_, _, _, _, _, _, _, _, _, l19, c19⟩ := c.def_ 22 rfl
  obtain ⟨_, _, _, _, _, _, _, _, _, l20, c20⟩ := c.def_ 23 rfl
  obtain ⟨_, _, _, _, _, _, _, _, _, l21, c21⟩ := c.def_ 24 rfl
  obtain ⟨_, _, _, _, _, _, _, _, _, l22, c22⟩ := c.def_ 25 rfl
  obtain ⟨_, _, _, _, _, _, _, _, _, l23, c23⟩ := c.def_ 26 rfl
  obtain ⟨_, _, _, _, _, _, _, _, _, l24, c24⟩ := c.def_ 27 rfl
  obtain ⟨_, _, _, _, _, _, _, _, _, l25, c25⟩ := c.def_ 28 rfl
  obtain ⟨_, _, _, _, _, _, _, _, _, l26, c26⟩ := c.def_ 29 rfl
  obtain ⟨_, _, _, _, _, _, _, _, _, l27, c27⟩ := c.def_ 30 rfl
  exact all_mk X G hfa (sp_of (exAt hx 0 (f := fSp) rfl)) (tk_of (exAt hx 1 (f := fTk) rfl)) (glo_of (exAt hx 2 (f := fGlo "Book") rfl)) (own_of (exAt hx 3 (f := fOwn "Book") rfl)) (find_of (exAt hx 4 (f := fFind "Book" "__setattr__" (some (.builtin "object.__setattr__"))) rfl)) (find_of (exAt hx 5 (f := fFind "Book" "__class__" (some (.builtin "object.__class__"))) rfl)) (mro_of (exAt hx 6 (f := fMro "Book") rfl)) (kit_of (exAt hx 7 (f := fKit "Book" "Book" true) rfl)) (find_of (exAt hx 8 (f := fFind "Book" "letters" none) rfl)) (find_of (exAt hx 9 (f := fFind "Book" "folds" none) rfl)) (find_of (exAt hx 10 (f := fFind "Book" "table" none) rfl)) (meth_of (exAt hx 11 (f := fMeth "Book" "__init__") rfl)) linit cinit (meth_of (exAt hx 12 (f := fMeth "Book" "left_of") rfl)) lleft cleft (meth_of (exAt hx 13 (f := fMeth "Book" "__eq__") rfl)) leq ceq (glo_of (exAt hx 14 (f := fGlo "is_letters") rfl)) l0 c0 (glo_of (exAt hx 15 (f := fGlo "is_letter") rfl)) l1 c1 (glo_of (exAt hx 16 (f := fGlo "is_word") rfl)) l2 c2 (glo_of (exAt hx 17 (f := fGlo "is_ascending") rfl)) l3 c3 (glo_of (exAt hx 18 (f := fGlo "is_paper") rfl)) l4 c4 (glo_of (exAt hx 19 (f := fGlo "is_fold") rfl)) l5 c5 (glo_of (exAt hx 20 (f := fGlo "is_ahead") rfl)) l6 c6 (glo_of (exAt hx 21 (f := fGlo "turning_rows") rfl)) l7 c7 (glo_of (exAt hx 22 (f := fGlo "can_go") rfl)) l8 c8 (glo_of (exAt hx 23 (f := fGlo "going_row") rfl)) l9 c9 (glo_of (exAt hx 24 (f := fGlo "judge_going") rfl)) l10 c10 (glo_of (exAt hx 25 (f := fGlo "going_holds") rfl)) l11 c11 (glo_of (exAt hx 26 (f := fGlo "does_row_go") rfl)) l12 c12 (glo_of (exAt hx 27 (f := fGlo "does_lot_stay") rfl)) l13 c13 (glo_of (exAt hx 28 (f := fGlo "turned_into") rfl)) l14 c14 (glo_of (exAt hx 29 (f := fGlo "_law_deck") rfl)) l15 c15 (glo_of (exAt hx 30 (f := fGlo "_law_draw") rfl)) l16 c16 (glo_of (exAt hx 31 (f := fGlo "_law_pick") rfl)) l17 c17 (glo_of (exAt hx 32 (f := fGlo "_law_world") rfl)) l18 c18 (glo_of (exAt hx 33 (f := fGlo "_law_code") rfl)) l19 c19 (glo_of (exAt hx 34 (f := fGlo "_law_web") rfl)) l20 c20 (glo_of (exAt hx 35 (f := fGlo "_law_ways") rfl)) l21 c21 (glo_of (exAt hx 36 (f := fGlo "_law_is_paper") rfl)) l22 c22 (glo_of (exAt hx 37 (f := fGlo "_law_odd") rfl)) l23 c23 (glo_of (exAt hx 38 (f := fGlo "_law_bent") rfl)) l24 c24 (glo_of (exAt hx 39 (f := fGlo "_law_papers") rfl)) l25 c25 (glo_of (exAt hx 40 (f := fGlo "_law_letter_right") rfl)) l26 c26 (glo_of (exAt hx 41 (f := fGlo "law") rfl)) l27 c27 (free_of (exAt hx 42 (f := fFree "len") rfl)) (free_of (exAt hx 43 (f := fFree "range") rfl)) (free_of (exAt hx 44 (f := fFree "isinstance") rfl)) (free_of (exAt hx 45 (f := fFree "all") rfl)) (free_of (exAt hx 46 (f := fFree "any") rfl)) (free_of (exAt hx 47 (f := fFree "int") rfl)) (free_of (exAt hx 48 (f := fFree "str") rfl)) (free_of (exAt hx 49 (f := fFree "bool") rfl)) (free_of (exAt hx 50 (f := fFree "tuple") rfl)) (free_of (exAt hx 51 (f := fFree "list") rfl)) (free_of (exAt hx 52 (f := fFree "repr") rfl)) (free_of (exAt hx 53 (f := fFree "enumerate") rfl)) (free_of (exAt hx 54 (f := fFree "sorted") rfl)) (free_of (exAt hx 55 (f := fFree "set") rfl)) (txt_of (exAt hx 56 (f := fTxt "ALPHABET" "abcdefghijklmnopqrstuvwxyz") rfl))
end Lw

namespace Lw
open PySem PySem.W PySem.Calls PyProof.Rows Mq
abbrev RR : OpenRow := OpenLaw.row PySem.Challenge.rw_millhands_k04_letters_that_go
def nm0 : List PySem.Str := ["MillError", "BadBook", "BadText", "is_letters", "is_letter", "is_word", "is_ascending", "is_paper", "text_parts", "Book", "is_fold", "fold_read", "is_ahead", "turning_rows", "can_go", "going_row", "judge_going", "going_holds", "does_row_go", "does_lot_stay", "turned_into", "_law_deck", "_law_draw", "_law_pick", "_law_world", "_law_code", "_law_web", "_law_ways", "_law_is_paper", "_law_odd"]
def nm1 : List PySem.Str := ["_law_bent", "_law_papers", "_law_letter_right", "ALPHABET"]
abbrev nmL : List PySem.Str := nm0 ++ nm1
abbrev hk : Hook := hookM 5 fnL fsL
def ob (s : SharedT) : AlT := obsM 5 fnL fsL (HandSHeadRun.getT s)
theorem ob_eq (s : SharedT) : ob s = hk.obs s.abs := obsM_eq (HandSHeadRun.getT_eq s)
theorem run (w : World) : HandSHeadRun.RunEq RR (view RR.prog [39]) hk ob 9600 nmL w := by
  intro os
  kernel_rfl
end Lw

open PySem PySem.W PySem.Calls PyProof.Rows
theorem PySem.Challenge.cw_millhands_k04_letters_that_go_holds : PySem.Challenge.rw_millhands_k04_letters_that_go.Holds := by
  w_on; o_law
  refine HandSHeadRun.head_any (r := OpenLaw.row PySem.Challenge.rw_millhands_k04_letters_that_go) (q := view (OpenLaw.row PySem.Challenge.rw_millhands_k04_letters_that_go).prog [39]) (H := Lw.hk) (ob := Lw.ob) (M := 9600) (loose := Lw.nmL) (d := HandSHeadRun.topDef (OpenLaw.row PySem.Challenge.rw_millhands_k04_letters_that_go).prog 39) (kwd := []) Lw.ob_eq
    (by kernel_rfl) (fun s => by kernel_rfl) Lw.run (by kernel_rfl) (by kernel_rfl) (by kernel_rfl) (by rfl) (by first | assumption | decide +kernel) (by decide +kernel) ⟨rfl, rfl, rfl, rfl, rfl, by decide +kernel⟩ ?hw ?hc
  case hw => w_witness2
  case hc =>
    refine Mq.walk_ofGE (l := PySem.Challenge.rw_millhands_k04_letters_that_go) (n := 63) (k := 8) (x := "_law_script") (CX := L2.CX0) rfl (by decide) (by kernel_rfl) ⟨rfl, by decide, by decide⟩ ?F (fun _ _ _ _ z => z)
    intro w mg fa h Y G hmg0
    obtain ⟨K, KX, c, hx⟩ := Y
    have hmg : mg ("law" : PySem.Str) = some (.ref fa) := by
      have e : (HandSHeadRun.topDef (OpenLaw.row PySem.Challenge.rw_millhands_k04_letters_that_go).prog 39).name = ("law" : PySem.Str) := by kernel_rfl
      rw [← e]
      exact hmg0
    obtain ⟨fd, hb, hF⟩ := Lw.facts (P := (PySem.Challenge.rw_millhands_k04_letters_that_go).prog) (w := w) KX G hmg c hx
    exact ⟨K, fd, Lw.spLaw K, KX, hb, fun H a ns hl _ hS => ⟨a, ns, rfl, hS, hl, fun _ => rfl⟩, hF⟩

