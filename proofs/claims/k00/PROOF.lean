import PyProof.Rows.All
import Wide.All
import OpenK.AllK
import Wide.FinOn
import PyProof.EqAt
import PyProof.EqKinds
import PyProof.TupleCall
import PyProof.ReprReads
import KE.KExcInit
import HandS.ForMost
import HandS.ForExc
import HandS.ExcField
import HandS.Flow
import HandS.Style
import PyProof.ReprRoads
import HandS.ExcIs
import KE.KExcIs
import HandS.Defaults
import HandS.Walk
import HandS.IsInst
import HandS.Codes
import HandS.StrMore
import KE.GoesMore
import HandS.CallLocal
import HandS.More
import PyProof.StrOps2
import HandS.MakeKwOnly
import HandS.ExcValue
import PySem.Challenge.RW_millhands_k00_errors_of_any_value
import HandS.Replace
import HandS.OwnEq
import HandS.HeadEnd
import HandS.Head0
import HandS.Head1
import HandS.Head2
import HandS.HeadHook1
import HandS.HeadHook2
set_option Elab.async false
set_option linter.all false
set_option maxRecDepth 100000
set_option maxHeartbeats 0
namespace Mq
open PySem PySem.Spec PyProof.Rows L2

/-! ### defs that are entered where no repr is under way -/
def Still (A : Around) : Prop := A.guards = some []

structure FnG (P : Program) (w : World) (K : PySem.W.Frag) (mg : Str → Option Value)
    (base : Heap) (CX : CXT) (k : Nat) (f : Addr) (fd : FuncData) (ps : List Str) (sp : Sp) : Prop where
  many : ∀ vs H Q E, sp vs H Q E → vs.length = ps.length
  go : ∀ (A : Around) (outer : List Env) (s : Shared) (H : Hp) (args : Args)
    (us : List Value) (vs : List V) (Q : VK) (E : XK), Still A → Room k A →
    Env0 P w K mg base A outer s H → BindsTo s fd args (ps.zip us) → Vals vs us → sp vs H Q E →
    codeAny (model P w) A (.call (.ref f) args) (CR CX outer P w H s Q E) s

theorem FnG.of {P : Program} {w : World} {K : PySem.W.Frag} {mg : Str → Option Value}
    {base : Heap} {CX : CXT} {k : Nat} {f : Addr} {fd : FuncData} {ps : List Str} {sp : Sp}
    (F : FnOk P w K mg base CX k f fd ps sp) : FnG P w K mg base CX k f fd ps sp :=
  ⟨F.len, fun A outer s H args us vs Q E _ => F.run A outer s H args us vs Q E⟩

section
variable {P : Program} {w : World} {K : PySem.W.Frag} {mg : Str → Option Value} {base : Heap}

theorem Fun.okG {CX : CXT} {x qual : Str} {st : Stmt} {f : Addr} {fd : FuncData} {N ps : List Str}
    {k : Nat} {sp : Sp} (F : L2.Fun K x qual st f fd) (S : FnScope N ps (defScope st))
    (many : ∀ vs H Q E, sp vs H Q E → vs.length = ps.length)
    (body : ∀ (cdv : Value) (A : Around) (outer : List Env) (s : Shared) (H : Hp) (vs : List V) (Q : VK) (E : XK),
      Still (A.deeper (envOfC qual (defScope st) s.heap.objs.size f cdv)) →
      Room k (A.deeper (envOfC qual (defScope st) s.heap.objs.size f cdv)) → sp vs H Q E →
      ∃ t, PSs (cxOf CX P w K mg base N qual (defScope st) f cdv A outer s H E) (defBody st) t ∧
        t { nx := fun _ H' => Q .non H', rt := Q } (start N vs) H) :
    FnG P w K mg base CX (k + 1) f fd ps sp := by
  obtain ⟨oc, od, kV, doc, pm, an, cdv, ct, osl, rfl, lk, hcd⟩ := F.ex
  refine ⟨many, fun A outer s H args us vs Q E gA hr e0 hb r h => ?_⟩
  have old : ∀ b o, base.get? b = some o → s.heap.get? b = some o := fun b o e => (e0.bs b o e).1
  have KX := e0.mod.kin.keeps old
  have lim := e0.mod.nolimit.keeps old
  have hlen := many _ _ _ _ h
  have kinds : ∀ y ∈ ps.zip us, (defScope st).names.lookup y.1 = some .local ∨
      ((defScope st).names.lookup y.1 = some .cell ∧
        ((cellsFrom (s.heap.objs.size + 1) (defScope st).names []).lookup y.1).isSome = true) := by
    rintro ⟨n, v⟩ hy
    rcases S.par n (List.of_mem_zip hy).1 with q | q
    · exact Or.inl q
    · exact Or.inr ⟨q, PySem.W.cellsFrom_some _ _ _ (Or.inl q)⟩
  refine codeAny_call_function hr.depth (KX _ _ lk) rfl S.co S.gen rfl
    (PySem.W.codeRec_of KX hcd) (hb _ _ _ _ ?_)
  refine wpAny_newFunctionEnv_cells S.kind kinds (fun env he s1 x => ?_)
  subst he
  refine ⟨lim.keeps x.toInCall.keep, codeAny_func ?_⟩
  obtain ⟨t, ht, hq⟩ := body cdv A outer s H vs Q E gA (hr.deeper _) h
  have I := inv_start (CX := CX) (E := E) S hr.hd e0 hlen r x
  refine wpAny_mono (ht.run [] s1 (start N vs) H _ I hq) (fun fl s' hs => ?_) (fun e s' hs => hs)
  cases fl with
  | ret u =>
    obtain ⟨v, σ', H', J, rv, q⟩ := hs
    exact ⟨v, H', J.os, J.bare, J.base, J.hok, rv, q⟩
  | next =>
    obtain ⟨σ', H', J, q⟩ := hs
    exact ⟨V.non, H', J.os, J.bare, J.base, J.hok, rfl, q⟩
  | brk =>
    obtain ⟨_, _, _, q⟩ := hs
    exact q.elim
  | cont =>
    obtain ⟨_, _, _, q⟩ := hs
    exact q.elim
end

section
variable {X : Cx} {CX : CXT} {k : Nat} {f : Addr} {fd : FuncData} {ps : List Str} {sp : Sp}
  {E : XK} {x : Str} {p pos : Pos} {e : Expr} {es : List Expr} {t : TA}

theorem run_G {pins : List (Addr × Obj)} {σ : L2.St} {H : Hp} {s : Shared} {Q : VK} {us : List Value} {vs : List V}
    (F : FnG X.prog X.w X.K X.mg X.base CX k f fd ps sp) (gA : Still X.A) (hr : Room k X.A)
    (hb : Binds X.K fd ps []) (hx : Passes CX X E) (I : Inv X pins σ H s) (r : Vals vs us) (h : sp vs H Q E) :
    wpAny (model X.prog X.w) X.A (call (.ref f) us) (EP X pins σ Q) X.xe s := by
  have hl : us.length = ps.length := by rw [← r.length]; exact F.many _ _ _ _ h
  have b := hb s us I.kIn (by rw [List.append_nil]; exact hl)
  rw [List.append_nil] at b
  refine wpAny_call (codeAny_mono (F.go X.A X.stack s H ⟨us, []⟩ us vs Q E gA hr I.env0 b r h) (fun r s' hq => ?_))
  match r, hq with
  | .error er, hq => exact hx pins σ H s er s' I hq
  | .ok (.ret u), hq => exact I.after hq
  | .ok .next, hq => exact hq.elim
  | .ok .brk, hq => exact hq.elim
  | .ok .cont, hq => exact hq.elim

/-- f(e, ..) where no repr is under way -/
theorem pe_callG (F : FnG X.prog X.w X.K X.mg X.base CX k f fd ps sp) (gA : Still X.A) (hr : Room k X.A)
    (hg : Gl X x) (hm : X.mg x = some (.ref f)) (hk : PySem.W.keepIn X.K (.ref f) = true)
    (hb : Binds X.K fd ps []) (hx : Passes CX X E) (ha : PA X (e :: es) t)
    (hdb : (x == ("__debug__" : Str)) = false := by decide)
    (he : starEach (e :: es) X.env = (false, eval e X.env) :: starEach es X.env := by rfl)
    (hpl : (backTo pos (starEach es X.env)).any (·.1) = false := by rfl) :
    PE X (.Call (.Name x p) (e :: es) [] pos) (tCall sp [] E t) := by
  refine ⟨fun pins s σ H Q I h => wpAny_Call_Name_kw (ld_glob I hg hm ?_ hdb)⟩
  refine PySem.W.callWith_K (h₀ := X.base) I.ok.mod.kin hk (thn (ha.run pos pins s σ H _ I h) ?_) he hpl
  rintro us s1 ⟨vs, H1, I1, r, q⟩
  rw [List.append_nil] at q
  exact ⟨I1.kIn, run_G F gA hr hb hx I1 r q⟩
end

/-! ### the law's own call -/
theorem law_callG {P : Program} {w : World} {K : PySem.W.Frag} {mg mb : Str → Option Value} {CX : CXT} {k : Nat}
    {fa a : Addr} {fd : FuncData} {x : Str} {sp : Sp} {s₁ : Shared} {vs : List Value} {ns : List Int}
    (KX : K.In s₁.heap) (hns : s₁.heap.Ns mainGlobals mg) (hb : s₁.heap.Ns builtinsNs mb)
    (hbb : ∀ x : Str, x ≠ "__name__" → mb x = bootBuiltins x) (hlim : s₁.heap.NoLimit) (hg : s₁.gens = #[])
    (ha : s₁.heap.get? a = some { cls := .type "list", data := .seq vs.toArray }) (hi : IntsAre vs ns)
    (hl : ns.length ≤ sizeLine) (hr : Room k callerA)
    (F : ∀ base : Heap, K.In base → base.Ns mainGlobals mg → FnG P w K mg base CX k fa fd [x] sp)
    (hbind : ∀ (s : Shared) (u : Value), BindsTo s fd ⟨[u], []⟩ [(x, u)])
    (hsp : ∀ H : Hp, Only H → SqL K H a (ns.map V.int) → sp [.ref a] H (fun v _ => v = .bl true) fun _ _ _ => False)
    (hCX : ∀ H e s', CX [] H s₁ (fun _ _ _ => False) e s' → False) :
    codeAny (model P w) callerA (.call (.ref fa) ⟨[.ref a], []⟩)
      (fun r s' => r = .ok (.ret (.bool true)) ∧ OldK s₁.heap s'.heap ∧ s'.os = s₁.os ∧ AllBare s'.gens) s₁ := by
  have rv := vals_ints hi
  have core : ∀ H : Hp, Only H → SqL K H a (ns.map V.int) → HOk P w H s₁.heap →
      (∀ b, H b ≠ none → b = a) → (H a ≠ none → K.lookup a = none) →
      codeAny (model P w) callerA (.call (.ref fa) ⟨[.ref a], []⟩)
        (fun r s' => r = .ok (.ret (.bool true)) ∧ OldK s₁.heap s'.heap ∧ s'.os = s₁.os ∧ AllBare s'.gens) s₁ := by
    intro H hO hS hok hA hK
    have only : ∀ {b : Addr} {u : HO}, H b = some u → b = a := fun {b u} q => hA b (by rw [q]; exact fun z => by cases z)
    have noD : ∀ {b : Addr} {o : Obj} {es : Array DictEntry} {ep : Nat}, s₁.heap.get? b = some o →
        o.data = .dict es ep → H b = none := by
      intro b o es ep e d
      cases q : H b with
      | none => rfl
      | some u =>
        have e' := only q
        subst e'
        rw [ha] at e
        cases e
        cases d
    have nsK : ∀ {b : Addr} {m : Str → Option Value}, s₁.heap.Ns b m → (hidT s₁.heap H).Ns b m := by
      rintro b m ⟨o, es, ep, e, d, r⟩
      exact ⟨o, es, ep, hidT_get e (noD e d), d, r⟩
    have hKb : K.In (hidT s₁.heap H) := by
      intro b o e
      refine hidT_get (KX b o e) ?_
      cases q : H b with
      | none => rfl
      | some u =>
        have e' := only q
        subst e'
        rw [hK (by rw [q]; exact fun z => by cases z)] at e
        cases e
    obtain ⟨mc, l1, l2⟩ := hlim
    have hM : Mod K mg (hidT s₁.heap H) := ⟨hKb, nsK hns, ⟨mb, nsK hb, hbb⟩, ⟨mc, nsK l1, l2⟩⟩
    have nil : ∀ {b : Addr}, b ∉ ([] : List Addr) := fun h => by cases h
    have e0 : Env0 P w K mg (hidT s₁.heap H) callerA [] s₁ H :=
      ⟨rfl, hM, fun b o e => of_hidT e, Nat.le_of_eq (hidT_size _ _), trivial, fun b hb => (nil hb).elim, hok, .of_eq hg⟩
    refine codeAny_mono ((F _ hKb (nsK hns)).go callerA [] s₁ H ⟨[.ref a], []⟩ [.ref a] [.ref a] _ _ rfl hr e0
      (hbind s₁ (.ref a)) (.cons rfl .nil) (hsp H hO hS)) (fun r s' h => ?_)
    match r, h with
    | .error e, h => exact (hCX H e s' h).elim
    | .ok .next, h => exact h.elim
    | .ok .brk, h => exact h.elim
    | .ok .cont, h => exact h.elim
    | .ok (.ret u), h =>
      obtain ⟨v, H', os, bare, un, hok', r', q⟩ := h
      have q' : v = .bl true := q
      subst q'
      cases (show u = Value.bool true from r')
      refine ⟨rfl, OldK.of_keep (fun b o e => ?_), os, bare⟩
      rcases hO b with z | ⟨ob, xs, z⟩
      · exact un.keep b o e z nil nil
      · obtain ⟨e1, _⟩ := hok b _ z
        obtain ⟨e2, _⟩ := hok' b _ (un.frzs b ob _ z)
        rw [e] at e1
        cases e1
        exact e2
  cases hk : K.lookup a with
  | some o =>
    have e := KX a o hk
    rw [ha] at e
    cases e
    refine core (fun _ => none) (fun _ => Or.inl rfl) (Or.inr ⟨_, vs.toArray, _, hk, rfl, rfl, rfl, ?_, by simpa using rv⟩)
      (fun b u z => by cases (show (none : Option HO) = some u from z)) (fun b z => (z rfl).elim) (fun z => (z rfl).elim)
    rw [List.size_toArray, hi.length]
    exact hl
  | none =>
    let o0 : Obj := { cls := .type "list", data := .seq vs.toArray }
    refine core (fun b => if b = a then some (.frz o0 (.lst (ns.map V.int))) else none) (fun b => ?_)
      (Or.inl (Or.inr ⟨o0, if_pos rfl⟩)) (fun b u z => ?_) (fun b z => ?_) (fun _ => hk)
    · by_cases hb : b = a
      · exact Or.inr ⟨_, _, if_pos hb⟩
      · exact Or.inl (if_neg hb)
    · by_cases hb : b = a
      · cases (if_pos hb).symm.trans z
        subst hb
        exact ⟨ha, by rw [List.length_map]; exact hl, vs, _, rv, ha⟩
      · cases (if_neg hb).symm.trans z
    · by_cases hb : b = a
      · exact hb
      · exact (z (if_neg hb)).elim

theorem walk_ofG {l : PySem.W.OpenLaw} {n k : Nat} {q : Program} {loose : List Str}
    {XP : (Str → Option Value) → Heap → Prop} {YP : World → Heap → Prop} {d : DefRec}
    {K : Params → PySem.W.Frag} {CX : World → CXT} {sp : World → Sp} {x : Str}
    (hn : l.most = some n) (hn2 : n ≤ sizeLine) (hdf : d.params.defaults = []) (hr : Room k callerA)
    (hY : ∀ (w : World) (h : Heap), YP w h → (K w.params).In h)
    (F : ∀ (w : World) (mg : Str → Option Value) (fa : Addr) (h : Heap), (K w.params).In h →
      h.Ns mainGlobals mg → mg d.name = some (.ref fa) →
      ∃ fd : FuncData, (∀ (s : Shared) (u : Value), BindsTo s fd ⟨[u], []⟩ [(x, u)]) ∧
        ∀ base : Heap, (K w.params).In base → base.Ns mainGlobals mg →
          FnG l.prog w (K w.params) mg base (CX w) k fa fd [x] (sp w))
    (hsp : ∀ (w : World) (H : Hp) (a : Addr) (ns : List Int), ns.length ≤ n → Only H →
      SqL (K w.params) H a (ns.map V.int) → sp w [.ref a] H (fun v _ => v = .bl true) fun _ _ _ => False)
    (hCX : ∀ (w : World) (H : Hp) (s : Shared) (e : Value) (s' : Shared), CX w [] H s (fun _ _ _ => False) e s' → False) :
    PySem.W.WalkO q loose XP YP l.row.toRowW d [] (fun f vs => PySem.call f vs) := by
  refine Att.attach_call hn hdf ?_
  intro w s₀ s₁ mg mb fa o pm cd doc a vs ns G Y ho hd hcd hmg hobj hints hlen hg
  obtain ⟨fd, hb, hF⟩ := F w mg fa _ (hY w _ Y) G.T.g hmg
  exact law_callG (hY w _ Y) G.T.g G.T.b G.T.builtins G.T.nolimit hg hobj hints (Nat.le_trans hlen hn2) hr hF hb
    (fun H hO hS => hsp w H a ns hlen hO hS) (fun H e s' => hCX w H s₁ e s')
end Mq

namespace Mq
open PySem PySem.Spec PyProof.Rows L2

/-! ### repr of data, dicts among them -/
def keyD : Key → PyData
  | .inl i => .int i
  | .inr x => .str x
mutual
inductive Dg (K : PySem.W.Frag) (H : Hp) : V → PyData → Prop
  | non : Dg K H .non .none
  | bl (b : Bool) : Dg K H (.bl b) (.bool b)
  | int (i : Int) : Dg K H (.int i) (.int i)
  | str (x : Str) : Dg K H (.str x) (.str x)
  | lst {a : Addr} {xs : List V} {ds : List PyData} : a ≠ sysModules → SqL K H a xs → DgAll K H xs ds → Dg K H (.ref a) (.list ds)
  | tup {a : Addr} {xs : List V} {ds : List PyData} : SqT K H a xs → DgAll K H xs ds → Dg K H (.ref a) (.tuple ds)
  | dct {a : Addr} {kvs : List (Key × V)} {ds : List (PyData × PyData)} : H a = some (.dK kvs) → DgKv K H kvs ds → Dg K H (.ref a) (.dict ds)
inductive DgAll (K : PySem.W.Frag) (H : Hp) : List V → List PyData → Prop
  | nil : DgAll K H [] []
  | cons {v : V} {vs : List V} {d : PyData} {ds : List PyData} : Dg K H v d → DgAll K H vs ds → DgAll K H (v :: vs) (d :: ds)
inductive DgKv (K : PySem.W.Frag) (H : Hp) : List (Key × V) → List (PyData × PyData) → Prop
  | nil : DgKv K H [] []
  | cons {k : Key} {v : V} {vs : List (Key × V)} {d : PyData} {ds : List (PyData × PyData)} : Dg K H v d → DgKv K H vs ds → DgKv K H ((k, v) :: vs) ((keyD k, d) :: ds)
end
section
variable {X : Cx} {pins : List (Addr × Obj)} {σ : L2.St} {H : Hp} {s : Shared}
theorem reads_key {h : Heap} {k : Key} {u : Value} (e : keyIs k u = true) : Reads h u (keyD k) [] := by
  rcases keyIs_shape e with ⟨i, t, rfl, rfl⟩ | ⟨x, t, rfl, rfl⟩
  · exact Reads.int i t
  · exact Reads.str x t
mutual
theorem Dg.rd (I : Inv X pins σ H s) : ∀ {d : PyData} {v : V} {u : Value}, Dg X.K H v d → RelV v u →
    ∃ as, Reads s.heap u d as ∧ sysModules ∉ as
  | _, _, _, .non, r => by cases r; exact ⟨[], .none, fun h => by cases h⟩
  | _, _, _, .bl b, r => by cases r; exact ⟨[], .bool b, fun h => by cases h⟩
  | _, _, _, .int i, r => by obtain ⟨t, rfl⟩ := r; exact ⟨[], .int i t, fun h => by cases h⟩
  | _, _, _, .str x, r => by obtain ⟨t, rfl⟩ := r; exact ⟨[], .str x t, fun h => by cases h⟩
  | _, _, _, .lst ne hs ha, r => by
    cases r
    obtain ⟨its, rv, ⟨o, n, ho, hc, _, hd⟩, _⟩ := I.list hs
    obtain ⟨as, hr, hn⟩ := DgAll.rd I ha rv
    refine ⟨_, Reads.list ho hc hd hr, fun hm => ?_⟩
    rcases List.mem_cons.mp hm with e | e
    · exact ne e.symm
    · exact hn e
  | _, _, _, .tup hs ha, r => by
    cases r
    obtain ⟨its, rv, ⟨o, ho, hc, n, hd⟩, _⟩ := I.tuple hs
    obtain ⟨as, hr, hn⟩ := DgAll.rd I ha rv
    exact ⟨_, Reads.tuple ho hc hd hr, hn⟩
  | _, _, _, .dct (a := a) hs ha, r => by
    cases r
    obtain ⟨_, ns, us, rk, o, es, ep, ho, hx, hd, _, hp, _⟩ := I.hok a _ hs
    obtain ⟨as, bs, r1, r2, n1, n2⟩ := DgKv.rd I ha rk hp
    refine ⟨_, Reads.dict ho hx.1 hd r1 r2, fun hm => ?_⟩
    rcases List.mem_append.mp hm with hm | hm
    · rcases List.mem_cons.mp hm with e | e
      · rw [← e] at ns
        simp at ns
      · exact n1 e
    · exact n2 hm
theorem DgAll.rd (I : Inv X pins σ H s) : ∀ {ds : List PyData} {vs : List V} {us : List Value}, DgAll X.K H vs ds → Vals vs us →
    ∃ as, ReadsAll s.heap us ds as ∧ sysModules ∉ as
  | _, _, _, .nil, r => by cases r; exact ⟨[], .nil, fun h => by cases h⟩
  | _, _, _, .cons h1 h2, r => by
    cases r with
    | cons r1 r2 =>
      obtain ⟨as, q1, n1⟩ := Dg.rd I h1 r1
      obtain ⟨bs, q2, n2⟩ := DgAll.rd I h2 r2
      exact ⟨_, ReadsAll.cons q1 q2, fun hm => (List.mem_append.mp hm).elim n1 n2⟩
theorem DgKv.rd (I : Inv X pins σ H s) : ∀ {ds : List (PyData × PyData)} {vs : List (Key × V)} {us : List (Key × Value)} {es : List DictEntry}, DgKv X.K H vs ds → KV vs us →
    Pairs (mixKind X.prog X.w) es us →
    ∃ as bs, ReadsAll s.heap (es.map (·.key)) (ds.map (·.1)) as ∧ ReadsAll s.heap (es.map (·.val)) (ds.map (·.2)) bs ∧ sysModules ∉ as ∧ sysModules ∉ bs
  | _, _, _, _, .nil, r, p => by
    cases r
    cases p
    exact ⟨[], [], ReadsAll.nil, ReadsAll.nil, (fun h => by cases h), (fun h => by cases h)⟩
  | _, _, _, _, .cons h1 h2, r, p => by
    cases r with
    | cons r1 r2 =>
      cases p with
      | cons p3 p4 p2 =>
        obtain ⟨e1, e2⟩ := r1
        obtain ⟨as, q1, n1⟩ := Dg.rd I h1 e2
        obtain ⟨bs, cs, q2, q3, n2, n3⟩ := DgKv.rd I h2 r2 p2
        rw [← p4] at q1
        have p3' := p3
        rw [← e1] at p3'
        exact ⟨_, _, ReadsAll.cons (reads_key p3') q2, ReadsAll.cons q1 q3, fun hm => (List.mem_append.mp hm).elim (fun z => by cases z) n2,
          fun hm => (List.mem_append.mp hm).elim n1 n3⟩
end
/-- repr(v), v data -/
def rRep (K : PySem.W.Frag) : List V → Hp → VK → Prop := fun xs H Q => ∃ v d, xs = [v] ∧ Dg K H v d ∧ d.showable = true ∧
  d.depth ≤ 40 ∧ d.shown.length ≤ sizeLine ∧ Q (.str d.shown) H
theorem call_rep {k : Nat} (hr : Room k X.A) (gA : Still X.A) : CallR X (.builtin "repr") (rRep X.K) := by
  intro pins s σ H xs us Q I r h
  obtain ⟨v, d, rfl, hd, hs, hz, hl, q⟩ := h
  cases r with
  | cons rx rr =>
    cases rr
    have hu := hr.units
    obtain ⟨as, rd, hn⟩ := Dg.rd I hd rx
    have leaf : ∀ {d : PyData} {t : Tok}, Q (.str d.shown) H → EP X pins σ Q (.str d.shown t) { s with toks := s.toks + 1 } :=
      fun {d t} q => ⟨.str d.shown, H, I.tok _, ⟨_, rfl⟩, q⟩
    cases hd with
    | non =>
      cases rx
      exact PySem.P.repr_of_none (leaf (d := .none) q)
    | bl b =>
      cases rx
      exact PySem.P.repr_of_bool (leaf (d := .bool b) q)
    | int i =>
      obtain ⟨t, rfl⟩ := rx
      exact PySem.P.repr_of_int (by simpa [PyData.showable] using hs) (leaf (d := .int i) q)
    | str x =>
      obtain ⟨t, rfl⟩ := rx
      refine PySem.P.repr_of_str (leaf (d := .str x) q) ?_
      simpa only [PyData.shown] using hl
    | lst ne h1 h2 =>
      cases rx
      exact repr_of_reads' rd hs (fun _ => hn) gA (by omega) (fun _ _ e => e) (fun h' u tk k => ⟨.str _, H, I.kept k, ⟨_, rfl⟩, q⟩) hl
    | tup h1 h2 =>
      cases rx
      exact repr_of_reads' rd hs (fun _ => hn) gA (by omega) (fun _ _ e => e) (fun h' u tk k => ⟨.str _, H, I.kept k, ⟨_, rfl⟩, q⟩) hl
    | dct h1 h2 =>
      cases rx
      exact repr_of_reads' rd hs (fun _ => hn) gA (by omega) (fun _ _ e => e) (fun h' u tk k => ⟨.str _, H, I.kept k, ⟨_, rfl⟩, q⟩) hl
/-- no new object stands where the modules stand -/
theorem Inv.low (I : Inv X pins σ H s) : sysModules < s.heap.objs.size := by
  have h1 := I.mod.glob.lt
  have h2 := I.ok.bsz
  have h3 := I.sz
  have h4 : sysModules < mainGlobals := by decide
  exact Nat.lt_of_lt_of_le (Nat.lt_trans h4 h1) (Nat.le_trans h2 h3)
/-- a list display, told to stand elsewhere than the modules -/
def tLs (t : TA) : TE := fun σ H Q => t σ H fun xs H1 => xs.length ≤ sizeLine ∧ ∀ p, H1 p = none → p ≠ sysModules → Q (.ref p) (upd H1 p (.lst xs))
theorem pe_ls {es : List Expr} {t : TA} {pos : Pos} (h : PA X es t) : PE X (.List es pos) (tLs t) := by
  refine ⟨fun pins s σ H Q I hq => wpAny_List_spliced (thn (h.run pos pins s σ H _ I hq) ?_)⟩
  rintro us s1 ⟨xs, H1, I1, r, z, q⟩
  have hz : us.length ≤ sizeLine := by rw [← r.length]; exact z
  have nw : H1 s1.heap.objs.size = none := I1.hok.fresh (Nat.le_refl _)
  refine ⟨hz, .ref s1.heap.objs.size, upd H1 s1.heap.objs.size (.lst xs), ?_, rfl, q _ nw (Nat.ne_of_gt (Inv.low I1))⟩
  exact I1.laid (t' := s1.toks) (fun b u e => Heap.get?_push_of_some _ e) (Nat.le_refl _) ⟨z, us, 0, r, Heap.get?_push_size _ rfl⟩
end
end Mq

namespace Mq
open PySem PySem.Spec PyProof.Rows L2
open PySem.W (Frag)
open PySem.Builtin.ObjectAttr
/-! ### own errors over Exception, with one field -/
abbrev exTail : List Value := [.type "Exception", .type "BaseException", .type "object"]
section
variable {prog : Program} {w : World} {A : Around} {E : Value → Shared → Prop} {R : Result → Shared → Prop}
  {hp : Heap} {g : Array GenState} {d : Drawn} {t : Nat} {os : OsState} {K : Frag}
theorem osa_first {name : Str} {tk : Tok} {v : Value} {x C t1 : Addr} (X : K.In hp)
    (hx : hp.get? x = some (PySem.W.excObj C t1 none .none)) (ho : PySem.W.excOver K C exTail = true)
    (hh : PySem.W.hasDictIn K C = true) (ht : PySem.W.takerIn K C name = some none)
    (hq : ∀ h' tk' dx, (∀ b o, b ≠ x → hp.get? b = some o → h'.get? b = some o) → hp.objs.size ≤ dx → dx ≠ x →
      h'.get? x = some (PySem.W.excObj C t1 (some dx) .none) → h'.Ns1 dx (fun y => if y = name then some v else none) →
      R (.ok (.ret .none)) ⟨h', g, d, tk', os⟩) :
    codeAny (model prog w) A (.call (.builtin "object.__setattr__") ⟨[.ref x, .str name tk, v], []⟩) R ⟨hp, g, d, t, os⟩ := by
  refine PySem.W.osa_openX (od := none) (s := ⟨hp, g, d, t, os⟩) F.store_Exception X ⟨hx, rfl, rfl, trivial⟩ ho ht (fun b => ?_)
  obtain ⟨cd, hc, hd'⟩ := PySem.W.any_some hh
  refine wpAny_bind (wpAny_pure (wpAny_bind (PySem.W.instanceDict_exc hx (PySem.W.looks_clsIn X hc) hd' ?_)))
  show wpAny _ _ (storeInDict hp.objs.size (.str name tk) name v) _ _ _
  have hxs : x ≠ hp.objs.size := Nat.ne_of_lt (Heap.lt_size hx)
  have hx1 : (hp.push (PySem.W.dictOf [] 0)).get? x = some (PySem.W.excObj C t1 none .none) := Heap.get?_push_of_some _ hx
  refine PySem.HandSPX.store_in_new ?_ ?_
  · exact ⟨_, #[], _, (Heap.get?_update_ne _ _ _ _ hxs.symm).trans (Heap.get?_push_at rfl rfl), rfl, (fun e he => absurd he (by simp)), fun _ => rfl⟩
  · intro h' tk' hn' hs
    refine hq h' tk' hp.objs.size (fun b o hb ho => ?_) (Nat.le_refl _) hxs.symm ?_ hn'
    · exact (hs.2 b (Nat.ne_of_lt (Heap.lt_size ho))).trans ((Heap.get?_update_ne _ _ _ _ hb).trans (Heap.get?_push_of_some _ ho))
    · exact (hs.2 x hxs).trans (Heap.get?_update_self _ hx1 rfl)
end
end Mq


namespace MqE_thing
open PySem PySem.Spec PyProof.Rows L2 Mq PySem.W PySem.Calls
/-! ### errors whose one parameter is thing -/
def iA (p1 p2 : Pos) : Arguments := { posonlyargs := [], args := [{ arg := "self", annotation := none, pos := p1 }, { arg := "thing", annotation := none, pos := p2 }], vararg := none, kwonlyargs := [], kw_defaults := [], kwarg := none, defaults := [] }
def iB (q1 q2 q3 q4 : Pos) : List Stmt := [.Assign [.Attribute (.Name "self" q1) "thing" q2] (.Name "thing" q3) q4]
def iS : Scope := { kind := .function, names := [(PySem.Str.ofString "self", .local), (PySem.Str.ofString "thing", .local)], isGenerator := false, isCoroutine := false, more := [] }
/-- what the written part says of the class x at C, and of its __init__ at fI -/
structure Txt (K : Frag) (mg : Str → Option Value) (x qual : Str) (C fI : Addr) : Prop where
  gC : mg x = some (.ref C)
  kC : keepIn K (.ref C) = true
  ex : excInitIn K C exTail "Exception.__new__" = true
  ov : excOver K C exTail = true
  hdC : hasDictIn K C = true
  tk : takerIn K C "thing" = some none
  sa : findIn K (.ref C) "__setattr__" = some (some (.builtin "object.__setattr__"))
  iC : findIn K (.ref C) "__init__" = some (some (.ref fI))
  tC : typeIn K (.ref fI) = some (.type "function")
  exC : subIn K (.ref C) (.type "BaseException") = some true
  tyC : typeIn K (.ref C) = some (.type "type")
  fn : ∃ (oc : Value) (od : Option Addr) (doc pm : Value) (an : Option Addr) (cdv ct : Value) (osl : Array (Option Value)) (p1 p2 q1 q2 q3 q4 : Pos),
    K.lookup fI = some ⟨oc, od, .func (fnOf "__init__" qual (iA p1 p2) (iB q1 q2 q3 q4) iS .none .none doc pm an cdv ct), osl⟩ ∧ codeIn K cdv qual = true
theorem ld_loc {M : Model} {s : Shared} {name : Str} {scope : Scope} {L a : Addr} {cd : Value} {m : Str → Option Value} {y : Str} {pos : Pos} {v : Value}
    {Q : Value → Shared → Prop} {A : Around} {E : Value → Shared → Prop} (hn : s.heap.Ns L m) (hv : m y = some v) (h : Q v s)
    (hk : scope.kind = .function := by rfl) (hl : (envOfC name scope L a cd).kindOf y = some .local := by rfl) (hd : (y == ("__debug__" : Str)) = false := by decide) :
    wpAny M A (eval (.Name y pos) (envOfC name scope L a cd)) Q E s := wpAny_Name (wpAny_loadName_local hk hl hn hv h) hd
/-- what __init__ leaves of a new error at e -/
structure Filled (h h' : Heap) (e C dx t1 : Addr) (v : Value) : Prop where
  keep : ∀ b o, b ≠ e → h.get? b = some o → h'.get? b = some o
  obj : h'.get? e = some (excObj C t1 (some dx) .none)
  big : h.objs.size ≤ dx
  ne : dx ≠ e
  ns : h'.Ns1 dx (fun y => if y = "thing" then some v else none)
/-- a made error -/
structure Made (h h' : Heap) (e C d : Addr) (v : Value) : Prop where
  keep : ∀ b o, h.get? b = some o → h'.get? b = some o
  new : h.objs.size ≤ e
  obj : ∃ oe vs, h'.get? e = some oe ∧ oe.cls = .ref C ∧ oe.dict = some d ∧ oe.data = .fields vs ∧ vs[1]? = some .none
  big : h.objs.size ≤ d
  ne : d ≠ e
  ns : h'.Ns1 d (fun y => if y = "thing" then some v else none)
section
variable {prog : Program} {w : World} {A : Around} {E : Value → Shared → Prop} {R : Result → Shared → Prop} {s : Shared} {K : Frag} {mg : Str → Option Value} {x qual : Str} {C fI : Addr}
theorem init_run (T : Txt K mg x qual C fI) {e t0 : Addr} {v : Value} (X : K.In s.heap) (lim : s.heap.NoLimit) (he : s.heap.get? e = some (excObj C t0 none .none)) (room : A.depth < recursionLimit)
    (hq : ∀ h' tk dx, Filled s.heap h' e C dx t0 v → R (.ok (.ret .none)) { s with heap := h', toks := tk }) :
    codeAny (model prog w) A (.call (.ref fI) ⟨[.ref e, v], []⟩) R s := by
  obtain ⟨oc, od, doc, pm, an, cdv, ct, osl, p1, p2, q1, q2, q3, q4, ho, hcd⟩ := T.fn
  refine Att.call_fn (binds := [("self", .ref e), ("thing", v)]) X lim ho hcd room (BindsTo.of_eq (by first | rfl | with_unfolding_all rfl)) (by first | rfl | decide | with_unfolding_all rfl) (fun s₁ IC => ?_) rfl rfl rfl
  obtain ⟨h₁, tk₁, rfl⟩ := IC.toInCall.same
  have k : ∀ b o, s.heap.get? b = some o → h₁.get? b = some o := IC.toInCall.keep
  have hn := IC.toInCall.ns
  have X₁ : K.In h₁ := X.keeps k
  have he₁ := k _ _ he
  show wpAny _ _ (execs _ _) _ _ _
  refine wpAny_execs_cons (plainObj_wpAny_Assign_Attribute ?_)
  refine ld_loc (v := v) hn (by first | rfl | with_unfolding_all rfl | kernel_rfl) (ld_loc (v := .ref e) hn (by first | rfl | with_unfolding_all rfl | kernel_rfl) ?_)
  refine set_plain X₁ (ox := excObj C t0 none .none) (od := none) ⟨he₁, rfl, rfl, trivial⟩ T.sa ?_
  refine osa_first X₁ he₁ T.ov T.hdC T.tk (fun h₃ tk₃ dx k₃ dn dne he₃ hn₃ => ?_)
  show wpAny _ _ (execs _ _) _ _ _
  have z : s.heap.objs.size < h₁.objs.size := hn.lt
  exact wpAny_execs_nil (hq h₃ tk₃ dx ⟨fun b o hb e => k₃ b o hb (k b o e), he₃, Nat.le_of_lt (Nat.lt_of_lt_of_le z dn), dne, hn₃⟩)
theorem made_run (T : Txt K mg x qual C fI) {v : Value} (X : K.In s.heap) (lim : s.heap.NoLimit) (room : A.depth + 1 < recursionLimit)
    (hq : ∀ h' tk e d, Made s.heap h' e C d v → R (.ok (.ret (.ref e))) { s with heap := h', toks := tk }) :
    codeAny (model prog w) A (.call (.ref C) ⟨[v], []⟩) R s := by
  obtain ⟨nm, N, qn, bs, bm, hdct, sn, sub, ab, col, dd, k0, k1, k2, k3, k5, hC, hT⟩ := excInit_of X T.ex
  obtain ⟨hp, g, dr, tk, os⟩ := s
  have k : ∀ b o, hp.get? b = some o → ((hp.push (kdv_tup [v])).push (HandSPX.excO C hp.objs.size)).get? b = some o := fun b o e => Heap.get?_push_of_some _ (Heap.get?_push_of_some _ e)
  have hget : ((hp.push (kdv_tup [v])).push (HandSPX.excO C hp.objs.size)).get? (hp.objs.size + 1) = some (excObj C hp.objs.size none .none) := by heap_get
  refine HandSPX.call_own F.excBase_Exception hT hC (looks_findIn X T.iC) (fun self => bind_fn X self T.tC) (by rw [sizeLine_eq]; exact (by decide : 1 ≤ 16777216)) ?_
  refine init_run (s := ⟨(hp.push (kdv_tup [v])).push (HandSPX.excO C hp.objs.size), g, dr, tk, os⟩) T (X.keeps k) (lim.keeps k) hget ?_ (fun h' tk' dx M => ?_)
  · show A.depth + 1 < recursionLimit
    exact room
  · obtain ⟨k', hx, dn, dne, hns⟩ := M
    have old : ∀ b o, hp.get? b = some o → h'.get? b = some o := fun b o e => k' b o (Nat.ne_of_lt (Nat.lt_succ_of_lt (Heap.lt_size e))) (k b o e)
    have z : hp.objs.size + 1 + 1 ≤ dx := by
      have q := dn
      rw [Heap.size_push, Heap.size_push] at q
      exact q
    exact ⟨rfl, hq h' tk' (hp.objs.size + 1) dx ⟨old, Nat.le_succ _, ⟨_, _, hx, rfl, rfl, rfl, rfl⟩, Nat.le_trans (Nat.le_trans (Nat.le_succ _) (Nat.le_succ _)) z, dne, hns⟩⟩
end
theorem relO_f {v : V} {v' : Value} (r : RelV v v') (f : Str) : RelO (List.lookup f [(("thing" : Str), v)]) (if f = "thing" then some v' else none) := by
  by_cases hw : f = "thing"
  · subst hw
    rw [if_pos rfl]
    have q : List.lookup ("thing" : Str) [(("thing" : Str), v)] = some v := by simp [List.lookup]
    rw [q]
    exact r
  · rw [if_neg hw]
    have qw : (f == ("thing" : Str)) = false := by simpa using hw
    have q2 : List.lookup f [(("thing" : Str), v)] = none := by simp [List.lookup, qw]
    rw [q2]
    trivial
section
variable {X : Cx} {C fI : Addr} {x qual : Str}
/-- x(e) -/
def tMk (C : Addr) (ta : TA) : L2.St → Hp → XK → Prop := fun σ H Q => ta σ H fun vs H1 => ∃ v, vs = [v] ∧ ∀ d, H1 d = none → Q (.ref C) (some d) (upd H1 d (.xd [(("thing" : Str), v)]))
theorem pmk {a : Expr} {ta : TA} {p pos : Pos} {k : Nat} (T : Txt X.K X.mg x qual C fI) (hr : Room k X.A) (ha : PA X [a] ta) (hg : Gl X x := by rfl) (hdb : (x == ("__debug__" : Str)) = false := by decide)
    (he : starEach (a :: []) X.env = (false, eval a X.env) :: starEach [] X.env := by rfl) (hpl : (backTo pos (starEach [] X.env)).any (·.1) = false := by rfl) :
    PMk X (.Call (.Name x p) [a] [] pos) (tMk C ta) := by
  intro pins s σ H Q I h
  refine wpAny_Call_Name_kw (ld_glob I hg T.gC ?_ hdb)
  refine callWith_K (h₀ := X.base) I.ok.mod.kin T.kC (thn (ha.run pos pins s σ H _ I h) fun us s1 hh => ?_) he hpl
  obtain ⟨vs, H1, I1, r1, v, ev, q1⟩ := hh
  subst ev
  refine ⟨I1.kIn, ?_⟩
  cases r1 with
  | cons rv rn =>
    rename_i v' us'
    cases rn
    show wpAny _ _ (call (.ref C) [v']) _ _ _
    have hlim := I1.nolimit
    obtain ⟨hp, g, dr, tk, os⟩ := s1
    refine wpAny_call (made_run T I1.kIn hlim (by have := hr.dp; omega) (fun h' tk' e d M => ?_))
    show MkP X pins σ Q (.ref e) ⟨h', g, dr, tk', os⟩
    obtain ⟨oe, fv, hoe, hc, hd, hdat, h1⟩ := M.obj
    have hns := M.ns
    obtain ⟨G', g1, g2⟩ := restrict h' fun b => decide (b ≠ e)
    have gk : ∀ b, b ≠ e → G'.get? b = h'.get? b := fun b hb => g1 b (decide_eq_true hb)
    have ge : G'.get? e = none := g2 e (by simp)
    have old : ∀ b o, hp.get? b = some o → G'.get? b = some o := fun b o q => (gk b (Nat.ne_of_lt (Nat.lt_of_lt_of_le (Heap.lt_size q) M.new))).trans (M.keep b o q)
    have ob : ObjOk X.prog X.w (upd H1 d (.xd [(("thing" : Str), v)])) G' d (.xd [(("thing" : Str), v)]) :=
      ⟨_, hns.at (fun o q => (gk d M.ne).trans q), fun f => relO_f rv f⟩
    have J : L2.Inv X pins σ (upd H1 d (.xd [(("thing" : Str), v)])) ⟨G', g, dr, tk', os⟩ := I1.laid (t' := tk') old M.big ob
    refine ⟨e, oe, fv, ⟨G', g, dr, tk', os⟩, _, .ref C, some d, rfl, J, (fun b o q => ?_), ge, hoe, ⟨hc, hd⟩, hdat, h1, ?_, rfl, I1.bare, raises_own T.exC T.tyC, q1 d (I1.hok.fresh M.big)⟩
    · by_cases hb : b = e
      · have q' : G'.get? b = some o := q
        rw [hb, ge] at q'
        cases q'
      · exact (gk b hb).symm.trans q
    · rw [upd_ne (Ne.symm M.ne)]
      exact I1.hok.fresh M.new
/-- raise x(e) -/
def tRaise (C : Addr) (W : WX) (ta : TA) : TS := fun _ σ H => tMk C ta σ H fun cls d H' => W cls d σ H'
theorem ps_raise {a : Expr} {ta : TA} {W : WX} {p pos pos2 : Pos} {k : Nat} (hc : X.calm = true) (T : Txt X.K X.mg x qual C fI) (hr : Room k X.A) (tk : Takes X W) (ha : PA X [a] ta) (hg : Gl X x := by rfl) (hdb : (x == ("__debug__" : Str)) = false := by decide)
    (he : starEach (a :: []) X.env = (false, eval a X.env) :: starEach [] X.env := by rfl) (hpl : (backTo pos (starEach [] X.env)).any (·.1) = false := by rfl) :
    PS X (.Raise (some (.Call (.Name x p) [a] [] pos)) none pos2) (tRaise C W ta) := L2.ps_raise hc tk (pmk T hr ha hg hdb he hpl)
end
end MqE_thing

namespace Mq
open PySem PySem.Spec PyProof.Rows L2
/-! ### the error that a suite holds: its class, its field -/
/-- what the class at D says, so that isinstance asks its errors rightly -/
structure HeldC (K : PySem.W.Frag) (D : Addr) : Prop where
  cl : (PySem.W.clsIn K D).isSome = true
  ga : PySem.W.findIn K (.ref D) "__getattribute__" = some (some (.builtin "BaseException.__getattribute__"))
  gg : PySem.W.findIn K (.ref D) "__getattr__" = some none
  sb : PySem.W.subIn K (.ref D) (.type "BaseException") = some true
  ca : PySem.W.findIn K (.ref D) "__class__" = some (some (.builtin "object.__class__"))
  sp : PySem.W.specialIn K (.builtin "object.__class__") "__get__" = some (some (.builtin "getset_descriptor.__get__"))
  tk : PySem.W.takesIn K (.builtin "object.__class__") = some true
  mo : PySem.W.mroIn K D (.type "object") = some true
/-- isinstance(e, c), e the error at a -/
def rHeld (K : PySem.W.Frag) (D a : Addr) (d : Option Addr) : List V → Hp → VK → Prop := fun xs H Q => ∃ (dd c : Addr) (fs : List (Str × V)) (b : Bool),
  xs = [.ref a, .ref c] ∧ d = some dd ∧ H dd = some (.xd fs) ∧ PySem.W.kitOne K (.ref D) (.ref c) = some b ∧ Q (.bl b) H
theorem call_held {X : Cx} {a D : Addr} {oe : Obj} {d : Option Addr} {pn : List (Addr × Obj)} (C : HeldC X.K D) (hz : Zc (.ref D) d oe)
    (hf : ∃ vs, oe.data = .fields vs) : CallR (X.suite a ((a, oe) :: pn)) (.builtin "isinstance") (rHeld X.K D a d) := by
  intro pins s σ H xs us Q I r h
  obtain ⟨dd, c, fs, b, rfl, rfl, hd, e, q⟩ := h
  cases r with
  | cons rx rr =>
    cases rr with
    | cons rt rr =>
      cases rr
      cases rx
      cases rt
      obtain ⟨hget, _⟩ := I.pin (a, oe) (List.mem_append.mpr (Or.inl List.mem_cons_self))
      obtain ⟨vs, hv⟩ := hf
      obtain ⟨mA, ⟨od, es, ep, ho, _⟩, _⟩ := (show ObjOk X.prog X.w H s.heap dd (.xd fs) from I.hok dd _ hd)
      have J : PySem.W.InstAt s.heap a oe D (some od) := by
        refine ⟨hget, hz.1, ?_, ?_⟩
        · unfold PySem.W.notCls
          rw [hv]
        · rw [hz.2]
          exact ho
      refine PySem.W.kia_one (PySem.W.kitx_exc C.cl C.ga C.gg C.sb C.ca C.sp C.tk C.mo) I.kIn J e (fun z => by cases z) (fun tk => ?_)
      exact ⟨.bl b, H, I.kept (t' := tk) (fun _ _ z => z), rfl, q⟩
/-! ### methods that raise, called within a try -/
section
variable {X : Cx} {CX : CXT} {k : Nat} {f C : Addr} {fd : FuncData} {ps : List Str} {sp : Sp}
  {E : L2.St → XK} {m : Str} {pos apos : Pos} {e o : Expr} {es : List Expr} {kws : List Keyword} {ta : TE} {t tk : TA}
def tMethT (C : Addr) (m : Str) (sp : Sp) (E : L2.St → XK) (ta : TE) (t : TA) : TE := fun σ H Q => ta σ H fun x H1 => ∃ a dx fs,
  x = .ref a ∧ H1 a = some (.ins C dx fs) ∧ fs.lookup m = none ∧ t σ H1 fun vs H2 => sp (x :: vs) H2 Q (E σ)
theorem pe_methT {pl : Sem Bool} (he : PE X o ta) (c : Cls X.K C) (hm : Meth X.K C m f)
    (F : FnOk X.prog X.w X.K X.mg X.base CX k f fd ps sp) (hr : Room k X.A) (hb : Binds X.K fd ps [])
    (hx : ∀ σ, PassesAt CX X σ (E σ)) (ha : PA X (e :: es) t)
    (hst : starEach (e :: es) X.env = (false, eval e X.env) :: starEach es X.env := by rfl)
    (hpl : (backTo pos (starEach es X.env)).any (·.1) = false := by rfl)
    (ht : eval (.Call (.Attribute o m apos) (e :: es) [] pos) X.env = (do
      let ov ← eval o X.env
      standAt apos.atName
      let (f, first) ← holding [ov] (getMethod ov m pl)
      callWith pos f first (backTo pos (starEach (e :: es) X.env)) (backToKw pos (keywordEach [] X.env))) := by rfl) :
    PE X (.Call (.Attribute o m apos) (e :: es) [] pos) (tMethT C m sp E ta t) := by
  refine ⟨fun pins s σ H Q I h => PySem.W.methodCall_KW (pl := pl) (thn (he.run pins s σ H _ I h) ?_) ht⟩
  rintro u s1 ⟨x, H1, I1, rx, a, dx, fs, rfl, ea, l, q⟩
  cases rx
  refine getmeth_ok I1 ea c hm l ?_
  refine PySem.W.callWith_K (first := [.ref a]) (h₀ := X.base) I.ok.mod.kin hm.kp (thn (ha.run pos pins s1 σ H1 _ I1 q) ?_) hst hpl
  rintro us s2 ⟨vs, H2, I2, r, q2⟩
  exact ⟨I2.kIn, run_fnS (us := .ref a :: us) (vs := .ref a :: vs) F hr hb (hx σ) I2 (.cons rfl r) q2⟩
end
end Mq
namespace Mq
open PySem PySem.Spec PyProof.Rows L2
section
variable {X : Cx} {CX : CXT} {k : Nat} {f C : Addr} {fd : FuncData} {ps ks : List Str} {sp : Sp}
  {E : L2.St → XK} {m : Str} {pos apos : Pos} {o : Expr} {kws : List Keyword} {ta : TE} {tk : TA}
  {g : List Value → List Value → List Value} {gV : List V → List V → List V}
def tMethK (C : Addr) (m : Str) (many : Nat) (sp : Sp) (gV : List V → List V → List V) (E : L2.St → XK) (ta : TE) (tk : TA) : TE := fun σ H Q => ta σ H fun x H1 => ∃ a dx fs,
  x = .ref a ∧ H1 a = some (.ins C dx fs) ∧ fs.lookup m = none ∧ tk σ H1 fun zs H2 => zs.length = many ∧ sp (gV [x] zs) H2 Q (E σ)
/-- o.m(k = v, ..), what is raised being wished for at the slots as they stand -/
theorem pe_methK {pl : Sem Bool} (he : PE X o ta) (c : Cls X.K C) (hm : Meth X.K C m f)
    (F : FnOk X.prog X.w X.K X.mg X.base CX k f fd ps sp) (hr : Room k X.A) (hb : KBn X.K fd ps 1 ks g gV)
    (hx : ∀ σ, PassesAt CX X σ (E σ)) (hkw : PK X kws tk)
    (hall : (backToKw pos (keywordEach kws X.env)).all (·.1.isSome) = true := by rfl)
    (hks : (backToKw pos (keywordEach kws X.env)).filterMap (·.1) = ks := by rfl)
    (hpl : ((backTo pos (starEach [] X.env)).any (·.1) || (backToKw pos (keywordEach kws X.env)).any (·.1.isNone)) = false := by rfl)
    (ht : eval (.Call (.Attribute o m apos) [] kws pos) X.env = (do
      let ov ← eval o X.env
      standAt apos.atName
      let (f, first) ← holding [ov] (getMethod ov m pl)
      callWith pos f first (backTo pos (starEach [] X.env)) (backToKw pos (keywordEach kws X.env))) := by rfl) :
    PE X (.Call (.Attribute o m apos) [] kws pos) (tMethK C m ks.length sp gV E ta tk) := by
  refine ⟨fun pins s σ H Q I h => PySem.W.methodCall_KW (pl := pl) (thn (he.run pins s σ H _ I h) ?_) ht⟩
  rintro u s1 ⟨x, H1, I1, rx, a, dx, fs, rfl, ea, l, q⟩
  cases rx
  refine getmeth_ok I1 ea c hm l ?_
  refine PySem.W.callWith_KW0 (first := [.ref a]) (h₀ := X.base) I.ok.mod.kin hm.kp hall (thn (hkw.run pos pins s1 σ H1 _ I1 q) ?_) hpl
  rintro ws s2 ⟨zs, H2, I2, rz, hl, q2⟩
  refine ⟨I2.kIn, ?_⟩
  rw [hks]
  have r1 : Vals [V.ref a] [Value.ref a] := .cons rfl .nil
  have r2 := hb.rel r1 rz
  have lw : ws.length = ks.length := rz.length.symm.trans hl
  show wpAny _ _ (call (.ref f) [.ref a] (ks.zip ws)) _ _ _
  refine wpAny_call (codeAny_mono (F.run X.A X.stack s2 H2 ⟨[.ref a], ks.zip ws⟩ (g [.ref a] ws) (gV [.ref a] zs) Q (E σ) hr I2.env0
    (hb.to s2 [.ref a] ws I2.kIn rfl lw) r2 q2) (fun r s' hq => ?_))
  match r, hq with
  | .error er, hq => exact hx σ pins H2 s2 er s' I2 hq
  | .ok (.ret u), hq => exact I2.after hq
  | .ok .next, hq => exact hq.elim
  | .ok .brk, hq => exact hq.elim
  | .ok .cont, hq => exact hq.elim
end
end Mq

namespace Mq
open PySem PySem.Spec PyProof.Rows L2
open SX (S)
/-! ### what the module leaves of the built-in names -/
structure Blt (mg : Str → Option Value) : Prop where
  len : mg "len" = none
  range : mg "range" = none
  isi : mg "isinstance" = none
  all : mg "all" = none
  any : mg "any" = none
  int : mg "int" = none
  str : mg "str" = none
  bool : mg "bool" = none
  tuple : mg "tuple" = none
  list : mg "list" = none
  repr : mg "repr" = none
  enumerate : mg "enumerate" = none
/-! ### heaps that keep what was told -/
theorem same_new {H : Hp} {p : Addr} {o : HO} (h : H p = none) : Same H (upd H p o) := fun b u e => by
  rw [upd_ne (ne_of_none e h)]
  exact e
theorem Same.tup {K : PySem.W.Frag} {H H' : Hp} {a : Addr} {xs : List V} (e : Same H H') (h : SqT K H a xs) : SqT K H' a xs := by
  rcases h with (h | ⟨o, h⟩) | h
  · exact Or.inl (Or.inl (e _ _ h))
  · exact Or.inl (Or.inr ⟨o, e _ _ h⟩)
  · exact Or.inr h
mutual
theorem Dg.same {K : PySem.W.Frag} {H H' : Hp} (e : Same H H') : ∀ {v : V} {d : PyData}, Dg K H v d → Dg K H' v d
  | _, _, .non => .non
  | _, _, .bl b => .bl b
  | _, _, .int i => .int i
  | _, _, .str x => .str x
  | _, _, .lst n h a => .lst n (e.seq h) (DgAll.same e a)
  | _, _, .tup h a => .tup (Same.tup e h) (DgAll.same e a)
  | _, _, .dct h a => .dct (e _ _ h) (DgKv.same e a)
theorem DgAll.same {K : PySem.W.Frag} {H H' : Hp} (e : Same H H') : ∀ {v : List V} {d : List PyData}, DgAll K H v d → DgAll K H' v d
  | _, _, .nil => .nil
  | _, _, .cons a b => .cons (Dg.same e a) (DgAll.same e b)
theorem DgKv.same {K : PySem.W.Frag} {H H' : Hp} (e : Same H H') : ∀ {v : List (Key × V)} {d : List (PyData × PyData)}, DgKv K H v d → DgKv K H' v d
  | _, _, .nil => .nil
  | _, _, .cons a b => .cons (Dg.same e a) (DgKv.same e b)
end
mutual
theorem Dp.same {K : PySem.W.Frag} {H H' : Hp} (e : Same H H') : ∀ {v : V} {d : PyData}, Dp K H v d → Dp K H' v d
  | _, _, .non => .non
  | _, _, .bl b => .bl b
  | _, _, .int i => .int i
  | _, _, .str x => .str x
  | _, _, .lst h a => .lst (e.seq h) (DpAll.same e a)
  | _, _, .tup h a => .tup (Same.tup e h) (DpAll.same e a)
theorem DpAll.same {K : PySem.W.Frag} {H H' : Hp} (e : Same H H') : ∀ {v : List V} {d : List PyData}, DpAll K H v d → DpAll K H' v d
  | _, _, .nil => .nil
  | _, _, .cons a b => .cons (Dp.same e a) (DpAll.same e b)
end
/-! ### the kind of a value -/
def kindOf : PyData → String
  | .none => "NoneType"
  | .bool _ => "bool"
  | .int _ => "int"
  | .str _ => "str"
  | .list _ => "list"
  | .tuple _ => "tuple"
  | .dict _ => "dict"
theorem ty_list {K : PySem.W.Frag} {H : Hp} {a : Addr} {xs : List V} (h : SqL K H a xs) : TyX K H (.ref a) (.type "list") := by
  rcases h with (h | ⟨o, h⟩) | ⟨o, its, n, h, hc, _⟩
  · exact .base (.lst h)
  · exact .base (.frz h)
  · exact .kList h hc
theorem ty_tup {K : PySem.W.Frag} {H : Hp} {a : Addr} {xs : List V} (h : SqT K H a xs) : TyX K H (.ref a) (.type "tuple") := by
  rcases h with (h | ⟨o, h⟩) | ⟨o, its, n, h, hc, _⟩
  · exact .base (.tup h)
  · exact .fTuple h
  · exact .kTuple h hc
theorem Dg.ty {K : PySem.W.Frag} {H : Hp} {v : V} {d : PyData} (h : Dg K H v d) : TyX K H v (.type (kindOf d)) := by
  cases h with
  | non => exact .base .non
  | bl b => exact .base (.bl b)
  | int i => exact .base (.int i)
  | str x => exact .base (.str x)
  | lst _ h _ => exact ty_list h
  | tup h _ => exact ty_tup h
  | dct h _ => exact .base (.dK h)
theorem Dp.ty {K : PySem.W.Frag} {H : Hp} {v : V} {d : PyData} (h : Dp K H v d) : TyX K H v (.type (kindOf d)) := by
  cases h with
  | non => exact .base .non
  | bl b => exact .base (.bl b)
  | int i => exact .base (.int i)
  | str x => exact .base (.str x)
  | lst h _ => exact ty_list h
  | tup h _ => exact ty_tup h
/-- isinstance(x, T), T a built-in class -/
theorem isi_ty {K : PySem.W.Frag} {x : V} {a b : String} {r : Bool} {H : Hp} {Q : VK} (h : TyX K H x (.type a)) (e : kitB a b = some r) (q : Q (.bl r) H) :
    rIsi K [x, .ty b] H Q := ⟨x, .ty b, _, _, r, rfl, .ty b, h, kit_ty e, q⟩
theorem kit_known (a b : String) (ha : a ∈ ["NoneType", "bool", "int", "str", "list", "tuple", "dict"]) (hb : b ∈ ["str", "tuple", "list", "bool", "dict"]) :
    kitB a b = some (decide (a = b)) := by
  have h : (["NoneType", "bool", "int", "str", "list", "tuple", "dict"].all fun a => ["str", "tuple", "list", "bool", "dict"].all fun b =>
      decide (kitB a b = some (decide (a = b)))) = true := by decide +kernel
  have h1 := List.all_eq_true.mp h a ha
  have h2 := List.all_eq_true.mp h1 b hb
  exact of_decide_eq_true h2
theorem kind_in (d : PyData) : kindOf d ∈ ["NoneType", "bool", "int", "str", "list", "tuple", "dict"] := by
  cases d <;> simp [kindOf]
/-! ### comprehensions whose turns change nothing -/
theorem walk_rng {n : Nat} : Walk (Itr 0 n) n (fun _ => True) (YFn fun i => .int (i : Nat)) :=
  walk_range.mono (fun _ h => h) (fun i H x H' _ _ y => ⟨y.1, by rw [y.2]; show V.int (0 + (i : Int)) = V.int (i : Int); rw [Int.zero_add]⟩)
theorem lc_map {wi : TI} {J : It} {n : Nat} {G : Hp → Prop} {Y : Nat → Hp → V → Hp → Prop} (w : Walk J n G Y) {g : TG} {te : TE} {vs : List Nat} {σ : L2.St} {H0 : Hp} {Q : VK}
    (f : Nat → V) (hn : n ≤ 1000000) (hw : ∀ R : It → Hp → Prop, (∀ H, Same H0 H → G H → R J H) → wi σ H0 R) (hG : ∀ H H', Same H0 H → G H → Same H H' → G H')
    (hs : ∀ i x H H' (R : V → Hp → Prop), i < n → Same H0 H → Y i H x H' → (∀ H4, Same H H4 → R (f i) H4) →
      g x (wipe σ vs) H' fun σ2 H2 => wipe σ2 vs = wipe σ vs ∧ te σ2 H2 R)
    (hd : ∀ D H', H0 D = none → Same H0 H' → H' D = some (.lst ((List.range n).map f)) → Q (.ref D) H') : tLc wi g tYes te vs σ H0 Q := by
  refine hw _ (fun H sm0 hg0 D hD => ?_)
  have hD0 := sm0.free hD
  let Nx : Nat → Hp → Prop := fun i H' => Same H H' ∧ H' D = some (.lst ((List.range i).map f))
  refine ⟨fun i m H' => m = n - i ∧ i ≤ n ∧ Nx i H', ⟨n, by simp, Nat.zero_le _, same_new hD, upd_same⟩, ?_⟩
  rintro i m H' ⟨rfl, hi, sm, hl⟩
  have hg := hG H H' sm0 hg0 sm
  have sm' := sm0.trans sm
  by_cases hlt : i < n
  · refine Or.inr ⟨w.goes i H' hlt hg, Nx (i + 1), fun H'' p => ⟨n - (i + 1), by omega, rfl, hlt, p⟩, fun x H'' y => ?_⟩
    refine hs i x H' H'' _ hlt sm' (w.yields i H' x H'' hlt hg y) (fun H4 s4 => ?_)
    refine ⟨_, s4 D _ hl, ?_, fun b o e => ?_, ?_⟩
    · rw [List.length_map, List.length_range]
      exact Nat.lt_of_lt_of_le (Nat.lt_of_lt_of_le hlt hn) (by decide)
    · rw [upd_ne (ne_of_none e hD)]
      exact s4 b o (sm b o e)
    · rw [upd_same, List.range_succ, List.map_append]
      rfl
  · have e : i = n := by omega
    subst e
    exact Or.inl ⟨w.stops H' hg, hd D H' hD0 sm' hl⟩
end Mq

namespace Mq
open PySem PySem.Spec PyProof.Rows L2
/-! ### enumerate(v), v a tuple -/
theorem meets_enumT (l : Addr) (items : Array Value) :
    Meets (Builtin.«enumerate.__new__» ⟨[.type "enumerate", .ref l], []⟩) (fun _ R s => s.heap.IsTuple l items ∧
      R (.ok (.ret (.ref (s.heap.push { cls := .type "tuple_iterator", data := .fields #[.ref l, .int 0 0] }).objs.size)))
        { s with heap := (s.heap.push { cls := .type "tuple_iterator", data := .fields #[.ref l, .int 0 0] }).push { cls := .type "enumerate", data := .fields #[.none, .bool false, .ref s.heap.objs.size, rawInt 0, .none, .none] } }) :=
  .of_wp fun prog w A R s h => by
    obtain ⟨hp, g, d, tk, os⟩ := s; obtain ⟨hl, h⟩ := h
    have hsub := sub_enumerate
    have hL : Heap.IsTuple (Shared.heap ⟨hp, g, d, tk, os⟩) l items := hl
    obtain ⟨o, ho, _⟩ := id hl
    wp_walk using AutoSeq1.wpAny_loadPart' ho
    refine wpAny_stack_any fun st => wpAny_pure ?_
    split
    · rename_i c _ _ _ _ _
      cases (c == Value.type "enumerate")
      · wp_walk using AutoSeq1.wpAny_loadPart' ho, wpAny_pyIter_tuple hL
        exact ⟨_, rfl, h⟩
      · wp_walk using AutoSeq1.wpAny_loadPart' ho, wpAny_pyIter_tuple hL
        exact ⟨_, rfl, h⟩
    · wp_walk using AutoSeq1.wpAny_loadPart' ho, wpAny_pyIter_tuple hL
      exact ⟨_, rfl, h⟩
theorem call_enumT {prog : Program} {w : World} {A : Around} {E : Value → Shared → Prop} {s : Shared} {l : Addr} {items : Array Value} {Q : Value → Shared → Prop} (hL : s.heap.IsTuple l items)
    (h : ∀ h', IsEnum h' (s.heap.objs.size + 1) s.heap.objs.size 0 .none → h'.IsTupleIter s.heap.objs.size l 0 → h'.objs.size = s.heap.objs.size + 2 →
      (∀ b o, s.heap.get? b = some o → h'.get? b = some o) → Q (.ref (s.heap.objs.size + 1)) { s with heap := h' }) :
    wpAny (model prog w) A (call (.type "enumerate") [.ref l]) Q E s := by
  refine callType_new F.called_enumerate (by decide) (F.typeCall_enumerate_1 _) (F.newCall_enumerate_1 _) (fun obj => F.args_object_init_2 obj _) F.entry_enumerate_new
    (meets_enumT l items) ⟨hL, ?_⟩
  have hz : (s.heap.push { cls := .type "tuple_iterator", data := .fields #[.ref l, .int 0 0] }).objs.size = s.heap.objs.size + 1 := Heap.size_push ..
  show _ ∧ _
  rw [hz]
  have he : IsEnum ((s.heap.push { cls := .type "tuple_iterator", data := .fields #[.ref l, .int 0 0] }).push
      { cls := .type "enumerate", data := .fields #[.none, .bool false, .ref s.heap.objs.size, rawInt 0, .none, .none] }) (s.heap.objs.size + 1) s.heap.objs.size 0 .none := by
    have := Heap.get?_push_size (s.heap.push { cls := .type "tuple_iterator", data := .fields #[.ref l, .int 0 0] })
      (o := { cls := .type "enumerate", data := .fields #[.none, .bool false, .ref s.heap.objs.size, rawInt 0, .none, .none] }) rfl
    rw [hz] at this; exact this
  refine ⟨⟨_, he, rfl⟩, h _ he ⟨_, Heap.get?_push_of_some _ (Heap.get?_push_size _ rfl), rfl, rfl⟩ (by rw [Heap.size_push, hz]) fun b o x => Heap.get?_push_of_some _ (Heap.get?_push_of_some _ x)⟩
/-- the tuple at a, each item in a new pair -/
def Iee (K : PySem.W.Frag) (a : Addr) : It :=
  ⟨fun i H => ∃ (xs : List V) (x : V), SqT K H a xs ∧ xs[i]? = some x, fun i H v H' => ∃ T x, v = .ref T ∧ H T = none ∧ H' = upd H T (.tup [.int (i : Nat), x]) ∧ ∀ xs, SqT K H a xs → xs[i]? = some x, fun i H => ∃ xs : List V, SqT K H a xs ∧ xs.length ≤ i⟩
theorem turn_enumT {P : Program} {w : World} {K : PySem.W.Frag} {elts : List Expr} {kk : Nat} {tpos : Pos} (a e it : Addr) (ha : a ≠ it) (hae : a ≠ e) :
    Turn P w K (.Tuple elts kk tpos) (Iee K a) [e, it] e (fun i h => (∃ old, IsEnum h e it ((i : Nat) : Int) old) ∧ h.IsTupleIter it a i ∧ e ≠ it) where
  mem := by simp
  obj := fun i h st b hb => by
    obtain ⟨⟨old, he⟩, ⟨o, ho, hc, hd⟩, _⟩ := st
    have e' : b = e ∨ b = it := by simpa using hb
    rcases e' with z | z
    · rw [z]; exact ⟨_, he, fun v q => nomatch q⟩
    · rw [z]; exact ⟨o, ho, fun v q => by rw [hd] at q; cases q⟩
  keep := fun i h h' st k => let ⟨⟨old, he⟩, hi, hne⟩ := st; ⟨⟨old, k e (by simp) _ he⟩, hi.at fun o q => k it (by simp) o q, hne⟩
  item := by
    intro X hP hw hK hc i pins s σ H E I hf st hg
    subst hP hw hK
    obtain ⟨⟨old, he⟩, hit, hne⟩ := st
    obtain ⟨xs, x, hq, hx⟩ := hg
    obtain ⟨its, rv, p, hz⟩ := I.tuple hq
    obtain ⟨u, hu, ru⟩ := rv.get hx
    have hel : e < s.heap.objs.size := Heap.lt_size he
    have hil : it < s.heap.objs.size := by obtain ⟨_, q, _⟩ := hit; exact Heap.lt_size q
    have hp : s.heap.IsTuple a its.toArray := p
    have hu' : its.toArray[i]? = some u := by simpa using hu
    have hlt : i < its.toArray.size := by
      rw [List.size_toArray]
      rcases Nat.lt_or_ge i its.length with h | h
      · exact h
      · rw [List.getElem?_eq_none h] at hu
        cases hu
    refine wpAny_pyNext_enum_itemD (n := its.toArray.size) (Draws.tuple (show X.A.in1.handled = none from I.ok.hd hc) it a ha its.toArray) he ⟨hit, hp⟩ hlt hne (by simp only [List.mem_cons, List.not_mem_nil, or_false, not_or]; exact ⟨hne, fun z => hae z.symm⟩) fun x' h' tk hP' ho hst' hT hsz hk => ?_
    have ex : x' = u := by
      have h1 : some x' = some u := by rw [← hP', hu']
      exact Option.some.inj h1
    subst ex
    refine ⟨_, rfl, wpAny_letOwnedTupleGo_enum (s := { s with heap := h', toks := tk + 1 }) ho fun h'' he' sb => ?_⟩
    have hT2 : h''.get? s.heap.objs.size = some { cls := .type "tuple", data := .seq #[.int i tk, x'] } := (sb.2 _ (Nat.ne_of_gt hel)).trans hT
    have new : ObjOk X.prog X.w (upd H s.heap.objs.size (.tup [.int (i : Nat), x])) h'' s.heap.objs.size (.tup [.int (i : Nat), x]) :=
      ⟨by show 2 ≤ sizeLine; decide, [.int i tk, x'], .cons ⟨_, rfl⟩ (.cons ru .nil), ⟨_, hT2, rfl, _, rfl⟩⟩
    have I1 : Inv X pins σ (upd H s.heap.objs.size (.tup [.int (i : Nat), x])) { s with heap := h'', toks := tk + 1 } :=
      I.turnedNew (ch := [e, it]) (fun b ob hb q => (sb.2 b (fun z => hb (by simp [z]))).trans (hk b ob (fun z => hb (by simp [z])) (fun z => hb (by simp [z])) q)) hf (Nat.le_refl _) new
    refine ⟨.ref s.heap.objs.size, _, I1, rfl, ⟨_, x, rfl, I.hok.fresh (Nat.le_refl _), rfl, fun ys hy => by rw [I.tuple_inj hy hq]; exact hx⟩, ⟨⟨x', ?_⟩, hst'.1.at fun o q => (sb.2 it (Ne.symm hne)).trans q, hne⟩, fun b hb => ?_⟩
    · have e1 : ((i + 1 : Nat) : Int) = (i : Int) + 1 := by omega
      rw [e1]; exact he'
    · have hb' : b < s.heap.objs.size := by
        have e' : b = e ∨ b = it := by simpa using hb
        rcases e' with z | z
        · rw [z]; exact hel
        · rw [z]; exact hil
      rw [upd_ne (Nat.ne_of_lt hb')]
      exact (hf b hb).1
  done := by
    intro X hP hw hK hc i pins s σ H E I hf st hg
    subst hP hw hK
    obtain ⟨⟨old, he⟩, hit, hne⟩ := st
    obtain ⟨xs, hq, hx⟩ := hg
    obtain ⟨its, rv, p, hz⟩ := I.tuple hq
    obtain ⟨f0, f1, f2, f3, f4, f5⟩ := hf it (by simp)
    have hl := rv.length
    have hp : s.heap.IsTuple a its.toArray := p
    have D : Draws X.prog X.w X.A.in1 it [it, a] i (fun _ _ => False) (fun j h => j = i ∧ h.IsTupleIter it a i ∧ h.IsTuple a its.toArray) :=
      { live := fun _ _ st => let ⟨o, ho, _⟩ := st.2.1; ⟨o, ho⟩
        frame := fun _ _ _ st hk => ⟨st.1, st.2.1.at fun o e => hk it (by simp) o e, st.2.2.at fun o e => hk a (by simp) o e⟩
        item := fun j s Q E hi st hQ => absurd hi (by rw [st.1]; exact Nat.lt_irrefl i)
        done := fun s Q E st hE => wpAny_nextOf_tuple_end (show X.A.in1.handled = none from I.ok.hd hc) st.2.1 st.2.2 (by simp; omega) hE }
    exact wpAny_pyNext_enum_endD D he ⟨rfl, hit, hp⟩ fun h' eb => ⟨rfl, I.turned (t' := s.toks) (fun b o hb q => eb b o hb q) f0 f1 f3 f4 f5⟩
  self := fun A i s Q E st h => let ⟨⟨_, he⟩, _⟩ := st; wpAny_pyIter_enum he h
def iEnumT (K : PySem.W.Frag) (ta : TA) : TI := fun σ H R => ta σ H fun vs H1 => ∃ a xs, vs = [.ref a] ∧ SqT K H1 a xs ∧ R (Iee K a) H1
theorem pi_enumT {X : Cx} {e : Expr} {ta : TA} {p pos tpos : Pos} {elts : List Expr} {kk : Nat} (hg : Gl X "enumerate") (hm : X.mg "enumerate" = none) (ha : PA X [e] ta) (hs : starEach [e] X.env = [(false, eval e X.env)] := by rfl) :
    PI X (.Tuple elts kk tpos) (.Call (.Name "enumerate" p) [e] [] pos) (iEnumT X.K ta) := by
  refine ⟨fun pins s σ H R I h => ?_⟩
  refine Call_ (ld_blt I hg hm boot_enumerate (PyProof.Rows.callWith_type1 (thn (ha.run pos pins s σ H _ I h) fun us s1 ⟨vs, H1, I1, r1, q1⟩ => ?_) hs rfl))
  obtain ⟨a, xs, ex, hq, q⟩ := q1
  subst ex
  cases r1 with
  | cons r rr =>
    cases rr
    cases r
    obtain ⟨its, rv, p', hz⟩ := I1.tuple hq
    have hp : s1.heap.IsTuple a its.toArray := p'
    have hal : a < s1.heap.objs.size := by obtain ⟨_, q, _⟩ := hp; exact Heap.lt_size q
    refine call_enumT hp fun h' he hit hsz hk => wpAny_pyIter_enum he ?_
    have I2 : Inv X pins σ H1 { s1 with heap := h' } := I1.kept (t' := s1.toks) hk
    refine ⟨s1.heap.objs.size + 1, [s1.heap.objs.size + 1, s1.heap.objs.size], _, _, H1, rfl, I2, turn_enumT a (s1.heap.objs.size + 1) s1.heap.objs.size (Nat.ne_of_lt hal) (Nat.ne_of_lt (Nat.lt_succ_of_lt hal)), ⟨⟨.none, he⟩, hit, Nat.succ_ne_self _⟩, fun b hb => ?_, q⟩
    have e' : b = s1.heap.objs.size + 1 ∨ b = s1.heap.objs.size := by simpa using hb
    have hle : s1.heap.objs.size ≤ b := by
      rcases e' with z | z
      · rw [z]; exact Nat.le_add_right _ _
      · rw [z]; exact Nat.le_refl _
    exact I1.fpOk hle (I1.hok.fresh hle)
/-- the same, where what is walked is laid on the way -/
theorem lc_mapJ {wi : TI} {n : Nat} {Y : Nat → Hp → V → Hp → Prop} {g : TG} {te : TE} {vs : List Nat} {σ : L2.St} {H0 : Hp} {Q : VK}
    (f : Nat → V) (hn : n ≤ 1000000) (hw : ∀ R : It → Hp → Prop, (∀ (J : It) (G : Hp → Prop) (H : Hp), Walk J n G Y → (∀ H', G H → Same H H' → G H') → Same H0 H → G H → R J H) → wi σ H0 R)
    (hs : ∀ i x H H' (R : V → Hp → Prop), i < n → Same H0 H → Y i H x H' → (∀ H4, Same H H4 → R (f i) H4) →
      g x (wipe σ vs) H' fun σ2 H2 => wipe σ2 vs = wipe σ vs ∧ te σ2 H2 R)
    (hd : ∀ D H', H0 D = none → Same H0 H' → H' D = some (.lst ((List.range n).map f)) → Q (.ref D) H') : tLc wi g tYes te vs σ H0 Q := by
  refine hw _ (fun J G H w hG sm0 hg0 D hD => ?_)
  have hD0 := sm0.free hD
  let Nx : Nat → Hp → Prop := fun i H' => Same H H' ∧ H' D = some (.lst ((List.range i).map f))
  refine ⟨fun i m H' => m = n - i ∧ i ≤ n ∧ Nx i H', ⟨n, by simp, Nat.zero_le _, same_new hD, upd_same⟩, ?_⟩
  rintro i m H' ⟨rfl, hi, sm, hl⟩
  have hg := hG H' hg0 sm
  have sm' := sm0.trans sm
  by_cases hlt : i < n
  · refine Or.inr ⟨w.goes i H' hlt hg, Nx (i + 1), fun H'' p => ⟨n - (i + 1), by omega, rfl, hlt, p⟩, fun x H'' y => ?_⟩
    refine hs i x H' H'' _ hlt sm' (w.yields i H' x H'' hlt hg y) (fun H4 s4 => ?_)
    refine ⟨_, s4 D _ hl, ?_, fun b o e => ?_, ?_⟩
    · rw [List.length_map, List.length_range]
      exact Nat.lt_of_lt_of_le (Nat.lt_of_lt_of_le hlt hn) (by decide)
    · rw [upd_ne (ne_of_none e hD)]
      exact s4 b o (sm b o e)
    · rw [upd_same, List.range_succ, List.map_append]
      rfl
  · have e : i = n := by omega
    subst e
    exact Or.inl ⟨w.stops H' hg, hd D H' hD0 sm' hl⟩
end Mq

namespace Mq
open PySem PySem.Spec PyProof.Rows L2
/-- a comprehension without a test over what w walks -/
theorem lc_yes {J : It} {n : Nat} {G : Hp → Prop} {Y : Nat → Hp → V → Hp → Prop} (w : Walk J n G Y) {g : TG} {te : TE} {vs : List Nat} {σ : L2.St} {H1 : Hp} {D : Addr} {Qd : Hp → Prop} (Pv : Nat → Hp → Prop)
    (h0 : Pv 0 (upd H1 D (.lst []))) (hG : ∀ i H, i ≤ n → Pv i H → G H)
    (hs : ∀ i x H H', i < n → Pv i H → Y i H x H' → g x (wipe σ vs) H' fun σ2 H2 => wipe σ2 vs = wipe σ vs ∧ te σ2 H2 fun y H4 => ∃ acc, H4 D = some (.lst acc) ∧ acc.length < sizeLine ∧ Pv (i + 1) (upd H4 D (.lst (acc ++ [y]))))
    (hd : ∀ H, Pv n H → Qd H) :
    ∃ W : Nat → Nat → Hp → Prop, (∃ m, W 0 m (upd H1 D (.lst []))) ∧ ∀ i m H, W i m H →
      (J.stop i H ∧ Qd H) ∨ (J.go i H ∧ ∃ Nx : Hp → Prop, (∀ H', Nx H' → ∃ m', m' < m ∧ W (i + 1) m' H') ∧ ∀ x H', J.yld i H x H' → g x (wipe σ vs) H' fun σ2 H2 => wipe σ2 vs = wipe σ vs ∧ tYes σ2 H2 fun b H3 =>
        if b = true then te σ2 H3 fun y H4 => ∃ acc, H4 D = some (.lst acc) ∧ acc.length < sizeLine ∧ Nx (upd H4 D (.lst (acc ++ [y]))) else Nx H3) :=
  lc_it (tt := tYes) w Pv h0 hG hs hd
end Mq

namespace Mq
open PySem PySem.Spec PyProof.Rows L2
/-- isinstance(e, c), the held error's class being told among the values -/
theorem call_heldX {X : Cx} {a D : Addr} {oe : Obj} {cls : Value} {d : Option Addr} {pn : List (Addr × Obj)} (C : HeldC X.K D) (hz : Zc cls d oe)
    (hf : ∃ vs, oe.data = .fields vs) : CallR (X.suite a ((a, oe) :: pn)) (.builtin "isinstance") (fun xs H Q => cls = .ref D ∧ rHeld X.K D a d xs H Q) := by
  intro pins s σ H xs us Q I r h
  obtain ⟨rfl, h⟩ := h
  exact call_held C hz hf pins s σ H xs us Q I r h
/-! ### lists whose items are equal, told by != and == -/
theorem op_neFl {X : Cx} (hu : X.A.units + 64 < cLine) : OpR X (compareOp .NotEq) (fun x y H Q => ∃ a b xs, x = .ref a ∧ y = .ref b ∧ SqL X.K H a xs ∧ SqL X.K H b xs ∧ (∀ v ∈ xs, flatB v = true) ∧ Q (.bl false) H) := by
  intro pins s σ H x y v u Q I rx ry h
  obtain ⟨a, b, xs, rfl, rfl, ha, hb, hf, q⟩ := h
  cases (show v = Value.ref a from rx)
  cases (show u = Value.ref b from ry)
  obtain ⟨us, r1, p1, _⟩ := I.list ha
  obtain ⟨ws, r2, p2, _⟩ := I.list hb
  have hsz : us.toArray.size = ws.toArray.size := by
    rw [List.size_toArray, List.size_toArray, ← r1.length, ← r2.length]
  have he : ∀ j (h1 : j < us.toArray.size) (h2 : j < ws.toArray.size), SeqAt.EqAt X.A.in1 s us.toArray[j] ws.toArray[j] true := by
    intro j h1 h2
    have h1' : j < us.length := by simpa using h1
    have h2' : j < ws.length := by simpa using h2
    have e1 : xs.length = us.length := r1.length
    obtain ⟨u1, g1, k1⟩ := r1.get (i := j) (x := xs[j]'(by omega)) (List.getElem?_eq_getElem (by omega))
    obtain ⟨u2, g2, k2⟩ := r2.get (i := j) (x := xs[j]'(by omega)) (List.getElem?_eq_getElem (by omega))
    rw [List.getElem?_eq_getElem h1'] at g1
    rw [List.getElem?_eq_getElem h2'] at g2
    have k := eqAt_same (A := X.A.in1) (s := s) k1 k2 (hf _ (List.getElem_mem _))
    cases g1
    cases g2
    simpa using k
  have k := SeqAt.RcNeAt.lists (A := X.A) (s := s) (e := fun _ => true) p1.isList p2.isList hsz (by omega) he
  have z : (!(List.range us.toArray.size).all fun _ => true) = false := by rw [show ((List.range us.toArray.size).all fun _ => true) = true from List.all_eq_true.mpr fun _ _ => rfl]; rfl
  rw [z] at k
  exact k X.prog X.w _ _ ⟨.bl false, H, I, rfl, q⟩
/-- list(v), v a tuple: the new list is told to stand elsewhere than the modules -/
theorem call_lsN {X : Cx} : CallR X (.type "list") (fun xs H Q => ∃ p ys, xs = [.ref p] ∧ SqT X.K H p ys ∧ ∀ l, H l = none → l ≠ sysModules → Q (.ref l) (upd H l (.lst ys))) := by
  intro pins s σ H xs us Q I r hw
  obtain ⟨t, ys, rfl, ht, k⟩ := hw
  cases r with
  | cons r0 rr =>
    cases rr
    cases r0
    obtain ⟨its, rv, pl, hz⟩ := I.tuple ht
    have hlen := rv.length
    obtain ⟨o, ho, hc, n, hd⟩ := pl
    refine call_list_seq t (.inr rfl) ho hc hd (fun h2 c2 kp e => ?_) (by rw [List.size_toArray]; omega)
    have new : ObjOk X.prog X.w (upd H s.heap.objs.size (.lst ys)) h2 s.heap.objs.size (.lst ys) := ⟨hz, its, c2, rv, e⟩
    refine ⟨.ref _, upd H s.heap.objs.size (.lst ys), ?_, rfl, ?_⟩
    · exact I.laid (t' := s.toks) kp (Nat.le_refl _) new
    · exact k _ (I.hok.fresh (Nat.le_refl _)) (Nat.ne_of_gt (Inv.low I))
/-! ### how long what is shown can be -/
theorem small_short : ∀ n : Nat, n ≤ 1000 → (PyData.int (n : Nat)).shown.length ≤ 13 ∧ (PyData.int (n : Nat)).showable = true ∧ (PyData.int (n : Nat)).weight ≤ 20 := by
  have h : ((List.range 1001).all fun n => decide ((PyData.int (n : Nat)).shown.length ≤ 13) && ((PyData.int (n : Nat)).showable && decide ((PyData.int (n : Nat)).weight ≤ 20))) = true := by decide +kernel
  intro n hn
  have h1 := List.all_eq_true.mp h n (List.mem_range.mpr (by omega))
  obtain ⟨a, b⟩ := Bool.and_eq_true_iff.mp h1
  obtain ⟨b, c⟩ := Bool.and_eq_true_iff.mp b
  exact ⟨of_decide_eq_true a, b, of_decide_eq_true c⟩
theorem shown_fits {d : PyData} (h1 : d.canLay0 = true) (h2 : d.depth ≤ 64) (h3 : d.weight ≤ 1000000) (h4 : d.intsShort 13 = true) : d.shown.length ≤ sizeLine := by
  have h5 : d.weight ≤ 2 ^ 20 := Nat.le_trans h3 (by decide)
  have hl : PyData.layable0 d = true := by
    unfold PyData.layable0
    rw [h1, decide_eq_true h2, decide_eq_true h5]
    rfl
  exact Nat.le_trans (PyProof.Rows.shown_le13 hl h4) (by decide)
end Mq

namespace Mq
open PySem PySem.Spec PyProof.Rows L2
/-! ### a text, so many times -/
def repS (x : Str) (n : Nat) : Str := ⟨(List.replicate n x.cps).foldl (· ++ ·) #[]⟩
theorem op_mulS {X : Cx} : OpR X (binaryOp .Mult) (fun x y H Q => ∃ (z : Str) (n : Nat), x = .str z ∧ y = .int (n : Nat) ∧ 2 ≤ n ∧ n ≤ 1000 ∧ 1 ≤ z.length ∧ z.length ≤ 1000 ∧ (repS z n).length ≤ sizeLine ∧ Q (.str (repS z n)) H) := by
  intro pins s σ H x y v u Q I rx ry h
  obtain ⟨z, n, rfl, rfl, h1, h2, h3, h4, h5, q⟩ := h
  obtain ⟨t, rfl⟩ := rx
  obtain ⟨t', rfl⟩ := ry
  have hm : z.length * n ≤ 1000 * 1000 := Nat.mul_le_mul h4 h2
  have e1 : decide (((n : Nat) : Int) < -(2 ^ 63 : Int)) = false := decide_eq_false (by omega)
  have e2 : decide (((n : Nat) : Int) ≥ 2 ^ 63) = false := decide_eq_false (by omega)
  have e3 : (((n : Nat) : Int) == 1) = false := by
    rw [beq_eq_false_iff_ne]
    omega
  have e4 : (z.length == 0) = false := by
    rw [beq_eq_false_iff_ne]
    omega
  refine P.mul_str (by rw [e1, e2]; rfl) (fun _ _ => ?_) (fun _ _ => ?_) ?_
  · have hd : (1000 : Int) ≤ (2 ^ 63 - 1) / ((n : Nat) : Int) := by
      refine (Int.le_ediv_iff_mul_le (by omega)).mpr ?_
      omega
    omega
  · rw [Int.toNat_natCast]
    unfold Builtin.Str.tooLong
    exact decide_eq_false (by have : (1000 * 1000 : Nat) ≤ sizeLine := by decide
                              omega)
  · rw [if_neg (show ¬ ((n : Nat) : Int) < 1 by omega), e3, e4]
    exact ⟨h5, .str (repS z n), H, I.tok _, ⟨_, rfl⟩, q⟩
end Mq

namespace Mq
open PySem PySem.Spec PyProof.Rows L2
/-! ### f(k = v, ..), all by keyword -/
theorem vals_rev : ∀ {vs : List V} {us : List Value}, Vals vs us → Vals vs.reverse us.reverse
  | _, _, .nil => .nil
  | _, _, .cons r h => by
    rw [List.reverse_cons, List.reverse_cons]
    exact (vals_rev h).append (.cons r .nil)
def rev0 {α : Type} (_ ws : List α) : List α := ws.reverse
section
variable {X : Cx} {CX : CXT} {k : Nat} {f : Addr} {fd : FuncData} {ps ks : List Str} {sp : Sp}
  {E : L2.St → XK} {x : Str} {p pos : Pos} {kws : List Keyword} {tk : TA}
  {g : List Value → List Value → List Value} {gV : List V → List V → List V}
def tCallK0 (m : Nat) (sp : Sp) (gV : List V → List V → List V) (E : L2.St → XK) (tk : TA) : TE := fun σ H Q => tk σ H fun zs H2 => zs.length = m ∧ sp (gV [] zs) H2 Q (E σ)
theorem pe_callK0 (F : FnOk X.prog X.w X.K X.mg X.base CX k f fd ps sp) (hr : Room k X.A) (hg : Gl X x) (hm : X.mg x = some (.ref f)) (hk : PySem.W.keepIn X.K (.ref f) = true) (hb : KBn X.K fd ps 0 ks g gV)
    (hx : ∀ σ, PassesAt CX X σ (E σ)) (hkw : PK X kws tk)
    (hall : (backToKw pos (keywordEach kws X.env)).all (·.1.isSome) = true := by rfl)
    (hks : (backToKw pos (keywordEach kws X.env)).filterMap (·.1) = ks := by rfl)
    (hdb : (x == ("__debug__" : Str)) = false := by decide)
    (hpl : ((backTo pos (starEach [] X.env)).any (·.1) || (backToKw pos (keywordEach kws X.env)).any (·.1.isNone)) = false := by rfl) :
    PE X (.Call (.Name x p) [] kws pos) (tCallK0 ks.length sp gV E tk) := by
  refine ⟨fun pins s σ H Q I h => ?_⟩
  refine wpAny_Call_Name_kw (ld_glob I hg hm ?_ hdb)
  refine PySem.W.callWith_KW0 (h₀ := X.base) I.ok.mod.kin hk hall ?_ hpl
  refine thn (hkw.run pos pins s σ H _ I h) fun ws s2 ⟨zs, H2, I2, rz, hl, q2⟩ => ⟨I2.kIn, ?_⟩
  rw [hks]
  have r2 := hb.rel (vs := []) (us := []) .nil rz
  have lw : ws.length = ks.length := rz.length.symm.trans hl
  refine wpAny_call (codeAny_mono (F.run X.A X.stack s2 H2 ⟨[], ks.zip ws⟩ (g [] ws) (gV [] zs) Q (E σ) hr I2.env0
    (hb.to s2 [] ws I2.kIn rfl lw) r2 q2) (fun r s' hq => ?_))
  match r, hq with
  | .error er, hq => exact hx σ pins H2 s2 er s' I2 hq
  | .ok (.ret u), hq => exact I2.after hq
  | .ok .next, hq => exact hq.elim
  | .ok .brk, hq => exact hq.elim
  | .ok .cont, hq => exact hq.elim
end
theorem kbn_rev2 {K : PySem.W.Frag} {x qual : Str} {st : Stmt} {f : Addr} {fd : FuncData} {p1 p2 : Str} (F : Fun K x qual st f fd)
    (h : ∀ (kV doc pm : Value) (an : Option Addr) (cdv ct : Value) (a b : Value), bindArgs (PySem.W.fnOf x qual (defArgs st) (defBody st) (defScope st) .none kV doc pm an cdv ct) ⟨[], [(p2, a), (p1, b)]⟩ = pure [(p1, b), (p2, a)]) :
    KBn K fd [p1, p2] 0 [p2, p1] rev0 rev0 := by
  obtain ⟨oc, od, kV, doc, pm, an, cdv, ct, osl, rfl, lk, hcd⟩ := F.ex
  refine ⟨fun s us ws _ h1 h2 => ?_, fun a b => vals_rev b⟩
  match us, ws, h1, h2 with
  | [], [a, b], _, _ => exact .of_eq (h kV doc pm an cdv ct a b)
theorem kbn_rev3 {K : PySem.W.Frag} {x qual : Str} {st : Stmt} {f : Addr} {fd : FuncData} {p1 p2 p3 : Str} (F : Fun K x qual st f fd)
    (h : ∀ (kV doc pm : Value) (an : Option Addr) (cdv ct : Value) (a b c : Value), bindArgs (PySem.W.fnOf x qual (defArgs st) (defBody st) (defScope st) .none kV doc pm an cdv ct) ⟨[], [(p3, a), (p2, b), (p1, c)]⟩ = pure [(p1, c), (p2, b), (p3, a)]) :
    KBn K fd [p1, p2, p3] 0 [p3, p2, p1] rev0 rev0 := by
  obtain ⟨oc, od, kV, doc, pm, an, cdv, ct, osl, rfl, lk, hcd⟩ := F.ex
  refine ⟨fun s us ws _ h1 h2 => ?_, fun a b => vals_rev b⟩
  match us, ws, h1, h2 with
  | [], [a, b, c], _, _ => exact .of_eq (h kV doc pm an cdv ct a b c)
end Mq

namespace Mq
open PySem PySem.Spec PyProof.Rows L2
/-- repr of a list or tuple without dicts in it, wherever it stands -/
def rRepP (K : PySem.W.Frag) : List V → Hp → VK → Prop := fun xs H Q => ∃ (a : Addr) (d : PyData), xs = [.ref a] ∧ Dp K H (.ref a) d ∧ d.showable = true ∧ d.hasDict = false ∧
  d.depth ≤ 40 ∧ d.shown.length ≤ sizeLine ∧ Q (.str d.shown) H
theorem call_repP {X : Cx} {k : Nat} (hr : Room k X.A) (gA : Still X.A) : CallR X (.builtin "repr") (rRepP X.K) := by
  intro pins s σ H xs us Q I r h
  obtain ⟨a, d, rfl, hd, hs, hz, hde, hl, q⟩ := h
  obtain ⟨u, rfl, rx⟩ := vals1 r
  have hu := hr.units
  obtain ⟨as, rd⟩ := Dp.reads I d _ _ hd rx
  cases rx
  exact repr_of_reads' rd hs (fun z => by rw [hz] at z; cases z) gA (by omega) (fun _ _ e => e) (fun h' u tk k => ⟨.str _, H, I.kept k, ⟨_, rfl⟩, q⟩) hl
/-- what a rule asks, told otherwise -/
theorem PE_imp {X : Cx} {e : Expr} {t t' : TE} (h : PE X e t) (i : ∀ σ H Q, t' σ H Q → t σ H Q) : PE X e t' := ⟨fun pins s σ H Q I q => h.run pins s σ H Q I (i σ H Q q)⟩
end Mq

namespace Mq
open PySem PySem.Spec PySem.W PySem.Calls PySem.HandSPX PyProof.Rows
/-! ### an own error made by keywords -/
section
variable {M : Model} {A : Around} {E : Value → Shared → Prop} {h : Heap} {g : Array GenState} {dr : Drawn} {tk : Nat} {os : OsState}
variable {nm q : Str} {C N : Addr} {bs bm bmB : List Value} {hd : Bool} {sn : List Str} {sub : List Value} {ab : Bool} {col : Option Bool} {dd : Option Addr} {k0 k1 k2 k3 k5 : Option Value} {B newId initId : String}
theorem new_fine (F : ExcBaseFacts B newId initId bmB) (same : ∀ X : String, bm.contains (.type X) = bmB.contains (.type X)) {us : List Value} {kw : List (Str × Value)} {Q : Unit → Shared → Prop}
    (at' : h.get? C = some (excClassObj nm q C N bs bm hd sn sub ab col dd k0 k1 k2 k3 k5 newId)) (done : Q () ⟨h, g, dr, tk, os⟩) : wpAny M A (checkBuiltinCall newId ⟨.ref C :: us, kw⟩) Q E ⟨h, g, dr, tk, os⟩ := by
  have below : (Value.ref C :: bm).contains (.type B) = true := by rw [List.contains_cons, same, F.hasB, Bool.or_true]
  have ns := F.noStar
  simp only [checkBuiltinCall, F.newKind, F.newSplit, F.newRow]
  repeat (first
    | refine wpAny_loadPart_at at' ?_
    | (refine wpAny_isSubtype_exc at' ?_; rw [below])
    | refine wpAny_staticBase_exc at' ?_
    | refine wpAny_madeBy_exc at' ?_
    | simp only [bne_self_eq_false, Bool.false_eq_true, if_false]
    | wp_step)
  exact done
end
section
variable {prog : Program} {w : World} {A : Around} {E : Value → Shared → Prop} {R : Result → Shared → Prop} {h : Heap} {g : Array GenState} {dr : Drawn} {tk : Nat} {os : OsState}
variable {nm q : Str} {C N : Addr} {bs bm bmB : List Value} {hd : Bool} {sn : List Str} {sub : List Value} {ab : Bool} {col : Option Bool} {dd : Option Addr} {k0 k1 k2 k3 k5 : Option Value} {B newId initId : String}
theorem new_kw (F : ExcBaseFacts B newId initId bmB) (same : ∀ X : String, bm.contains (.type X) = bmB.contains (.type X)) {us : List Value} {kw : List (Str × Value)}
    (at' : h.get? C = some (excClassObj nm q C N bs bm hd sn sub ab col dd k0 k1 k2 k3 k5 newId)) (few : us.length ≤ sizeLine)
    (done : R (.ok (.ret (.ref (h.objs.size + 1)))) ⟨(h.push (kdv_tup us)).push (excO C h.objs.size), g, dr, tk, os⟩) :
    codeAny (model prog w) A (.builtin newId ⟨.ref C :: us, kw⟩) R ⟨h, g, dr, tk, os⟩ := by
  have ends := F.ends
  have isB : (Value.ref C :: bm).contains (.type B) = true := by rw [List.contains_cons, same, F.hasB, Bool.or_true]
  have isA : (Value.ref C :: bm).contains (.type "AttributeError") = false := by rw [List.contains_cons, same, F.noAttr]; rfl
  have isN : (Value.ref C :: bm).contains (.type "NameError") = false := by rw [List.contains_cons, same, F.noName]; rfl
  refine codeAny_builtinAt F.entry ?_
  unfold Builtin.«BaseException.__new__»
  refine PySem.wpAt_bind ?_
  show PySem.wpAt _ _ _ (stack >>= _) _ _ _
  refine PySem.wpAt_bind (PySem.wpAt_stack fun p below => PySem.wpAt_of_wpAny ?_)
  wp_walk
  refine PySem.wpAt_of_wpAny ?_
  rw [F.owner]
  repeat (first
    | with_reducible refine wpAny_madeHere_exc F.canon at' ?_
    | with_reducible refine wpAny_loadPart_at at' ?_
    | (with_reducible refine wpAny_isSubtype_exc at' ?_; first | rw [isB] | rw [isA] | rw [isN])
    | wp_step)
  show R _ _
  rw [Heap.size_push]
  exact done
theorem type_kw (F : ExcBaseFacts B newId initId bmB) (same : ∀ X : String, bm.contains (.type X) = bmB.contains (.type X)) {us : List Value} {kw : List (Str × Value)} {fI : Addr} {Q : Fin → Shared → Prop}
    (at' : h.get? C = some (excClassObj nm q C N bs bm hd sn sub ab col dd k0 k1 k2 k3 k5 newId)) (few : us.length ≤ sizeLine)
    (looks : Looks (model prog w) h (typeLookup (.ref C) "__init__") (some (.ref fI))) (binds : ∀ self, Looks (model prog w) h (bindSpecial (.ref fI) self) (.ref fI, [self]))
    (done : codeAny (model prog w) A (.call (.ref fI) ⟨.ref (h.objs.size + 1) :: us, kw⟩)
      (fun r s' => match r with | .ok (.ret v) => v = .none ∧ Q (.done (.ret (.ref (h.objs.size + 1)))) s' | .ok _ => False | .error e => E e s')
      ⟨(h.push (kdv_tup us)).push (excO C h.objs.size), g, dr, tk, os⟩) :
    wpAny (model prog w) A (Builtin.«type.__call__» ⟨.ref C :: us, kw⟩) Q E ⟨h, g, dr, tk, os⟩ := by
  repeat (first
    | with_reducible refine wpAny_loadPart_at at' ?_
    | with_reducible refine wpAny_madeBy_exc at' ?_
    | wp_step)
  refine codeAny_call_builtin_code (Code.quiet_builtin _ F.quiet) (new_fine F same at' ?_)
  refine new_kw F same at' few ?_
  show wpAny _ _ _ _ _ _
  have k : ∀ b o, h.get? b = some o → ((h.push (kdv_tup us)).push (excO C h.objs.size)).get? b = some o := fun b o e => Heap.get?_push_of_some _ (Heap.get?_push_of_some _ e)
  have at1 := k _ _ at'
  have new : ((h.push (kdv_tup us)).push (excO C h.objs.size)).get? (h.objs.size + 1) = some (excO C h.objs.size) := by heap_get
  have own : (Value.ref C :: bm).contains (.ref C) = true := by simp
  have i1 := looks.keeps k
  have b1 := (binds (.ref (h.objs.size + 1))).keeps k
  unfold isInstance
  repeat (first
    | with_reducible refine wpAny_loadPart_at new ?_
    | (with_reducible refine wpAny_isSubtype_exc at1 ?_; rw [own])
    | wp_step)
  show wpAny _ _ (typeLookup (.ref C) _) _ _ _
  refine i1.at ?_
  refine wpAny_holding (wpAny_bind (b1.at ?_))
  refine wpAny_bind (wpAny_call (codeAny_mono done fun r s' z => ?_))
  rcases r with e | (v | _ | _ | _) <;> first | exact z | exact z.elim | skip
  obtain ⟨rfl, z⟩ := z
  first
    | exact wpAny_pure (wpAny_pure z)
    | (wp_walk; exact z)
theorem call_kw (F : ExcBaseFacts B newId initId bmB) (same : ∀ X : String, bm.contains (.type X) = bmB.contains (.type X)) {us : List Value} {kw : List (Str × Value)} {fI : Addr}
    (at' : h.get? C = some (excClassObj nm q C N bs bm hd sn sub ab col dd k0 k1 k2 k3 k5 newId)) (few : us.length ≤ sizeLine)
    (looks : Looks (model prog w) h (typeLookup (.ref C) "__init__") (some (.ref fI))) (binds : ∀ self, Looks (model prog w) h (bindSpecial (.ref fI) self) (.ref fI, [self]))
    (done : codeAny (model prog w) (A.under (.builtin "type.__call__" ⟨.ref C :: us, kw⟩)) (.call (.ref fI) ⟨.ref (h.objs.size + 1) :: us, kw⟩) (InitBack (h.objs.size + 1) R)
      ⟨(h.push (kdv_tup us)).push (excO C h.objs.size), g, dr, tk, os⟩) :
    codeAny (model prog w) A (.call (.ref C) ⟨us, kw⟩) R ⟨h, g, dr, tk, os⟩ := by
  have f1 := tc_lookup
  have f2 := tc_bind (.ref C)
  have isT : (⟨h, g, dr, tk, os⟩ : Shared).TypeIs (.ref C) "type" := ⟨_, at', rfl⟩
  refine codeAny_of_tree ?_
  show wpAny _ _ (callAny (.ref C) _) _ _ _
  repeat (any_goals (first
    | assumption
    | with_reducible refine wpAny_loadPart_at at' ?_
    | wp_step))
  refine ⟨rfl, ?_⟩
  refine codeAny_call_builtin_at (Code.quiet_builtin _ (by decide +kernel)) entry_typeCall (wpAny_check_type_call_sub at' (type_kw F same at' few looks binds ?_))
  refine codeAny_mono done fun r s' z => ?_
  rcases r with e | (v | _ | _ | _) <;> exact z
end
end Mq

namespace Mq
open PySem PySem.Spec PyProof.Rows L2
open PySem.W (Frag)
open PySem.Builtin.ObjectAttr
/-! ### a second field -/
section
variable {prog : Program} {w : World} {A : Around} {E : Value → Shared → Prop} {R : Result → Shared → Prop}
  {hp : Heap} {g : Array GenState} {d : Drawn} {t : Nat} {os : OsState} {K : Frag}
theorem osa_next {name n0 : Str} {tk : Tok} {v v0 : Value} {x C t1 dx : Addr} (X : K.In hp)
    (hx : hp.get? x = some (PySem.W.excObj C t1 (some dx) .none)) (hn : hp.Ns1 dx (fun y => if y = n0 then some v0 else none)) (ho : PySem.W.excOver K C exTail = true)
    (hh : PySem.W.hasDictIn K C = true) (ht : PySem.W.takerIn K C name = some none)
    (hq : ∀ h' tk', (∀ b o, b ≠ dx → hp.get? b = some o → h'.get? b = some o) →
      h'.Ns1 dx (fun y => if y = name then some v else if y = n0 then some v0 else none) → R (.ok (.ret .none)) ⟨h', g, d, tk', os⟩) :
    codeAny (model prog w) A (.call (.builtin "object.__setattr__") ⟨[.ref x, .str name tk, v], []⟩) R ⟨hp, g, d, t, os⟩ := by
  obtain ⟨od, hod, _⟩ := lookIn_ns hn
  refine PySem.W.osa_openX (od := some od) (s := ⟨hp, g, d, t, os⟩) F.store_Exception X ⟨hx, rfl, rfl, hod⟩ ho ht (fun b => ?_)
  obtain ⟨cd, hc, hd'⟩ := PySem.W.any_some hh
  have Lc : PySem.W.Looks (model prog w) hp (classData C) cd := PySem.W.looks_clsIn X hc
  refine wpAny_bind (wpAny_pure (wpAny_bind ?_))
  unfold ownDictForStores
  show wpAny _ _ (instanceDict x true) _ _ _
  unfold instanceDict
  refine wpAny_bind (wpAny_loadPart hx ?_)
  dsimp only
  refine wpAny_bind (Lc.here ?_)
  rw [hd']
  rw [if_neg (by decide)]
  refine wpAny_pure ?_
  show wpAny _ _ (storeInDict dx (.str name tk) name v) _ _ _
  unfold storeInDict newKeyGuard
  refine wpAny_bind (wpAny_pure (wpAny_bind (wpAny_nsSet1 hn fun h' hn' hs => ?_)))
  have hw : PySem.Within (fun y => if y = name then some v else if y = n0 then some v0 else none) [name, n0] := by
    have h1 := PySem.Within.cons name v (PySem.Within.cons n0 v0 PySem.Within.nil)
    exact h1
  obtain ⟨oD, esD, epD, hoD, hdD, hcD⟩ := hn'.count hw
  refine wpAny_bind (wpAny_lookBehind hoD (by rw [hdD]; exact pastItsLine_dict (Nat.le_trans hcD (by rw [sizeLine_eq]; show 2 ≤ 16777216 + 1; decide))) ?_)
  wp_walk
  exact hq h' _ (fun b o hb ho => (hs.2 b hb).trans ho) hn'
end
/-! ### errors as values -/
def ExF (C : Addr) (d : Option Addr) (a : Addr) : HO := .ext fun h => ∃ (oe : Obj) (vs : Array Value), h.get? a = some oe ∧ Zc (.ref C) d oe ∧ oe.data = .fields vs
theorem exF_ok {P : Program} {w : World} {H : Hp} {h : Heap} {a C : Addr} {d : Option Addr} {oe : Obj} {vs : Array Value} (e : h.get? a = some oe) (z : Zc (.ref C) d oe) (f : oe.data = .fields vs) : ObjOk P w H h a (ExF C d a) :=
  ⟨⟨oe, vs, e, z, f⟩, ⟨oe, e⟩, fun _ _ ⟨o, v, q, r⟩ k => ⟨o, v, k o q, r⟩⟩
/-- the error at e, of the class C, its field's dict at d -/
structure ErrAt (H : Hp) (C e d : Addr) (fs : List (Str × V)) : Prop where
  ex : H e = some (ExF C (some d) e)
  fd : H d = some (.xd fs)
theorem ErrAt.same {H H' : Hp} {C e d : Addr} {fs : List (Str × V)} (h : ErrAt H C e d fs) (s : ∀ b o, H b = some o → H' b = some o) : ErrAt H' C e d fs := ⟨s _ _ h.ex, s _ _ h.fd⟩
section
variable {X : Cx} {pins : List (Addr × Obj)} {σ : L2.St} {H : Hp} {s : Shared}
/-- e.n, e an error that is a value -/
def tXv (C : Addr) (n : Str) (te : TE) : TE := fun σ H Q => te σ H fun x H1 => ∃ (a d : Addr) (fs : List (Str × V)) (v : V), x = .ref a ∧ ErrAt H1 C a d fs ∧ fs.lookup n = some v ∧ Q v H1
theorem pe_xv {C : Addr} {e : Expr} {te : TE} {pos : Pos} {n : Str} (T : XfC X.K C) (hno : PySem.W.findIn X.K (.ref C) n = some none)
    (he : PE X e te) (hb : attributeBase e n X.env (eval e X.env) = eval e X.env := by rfl) : PE X (.Attribute e n pos) (tXv C n te) := by
  refine ⟨fun pins s σ H Q I h => ?_⟩
  refine attr_of hb (thn (he.run pins s σ H _ I h) fun u s1 hh => ?_)
  obtain ⟨x, H1, I1, rx, a, dd, fs, v, ex, er, l, q⟩ := hh
  subst ex
  obtain rfl : u = Value.ref a := rx
  obtain ⟨⟨oe, vs, ha, hz, hd⟩, _, _⟩ := (show ObjOk X.prog X.w H1 s1.heap a (ExF C (some dd) a) from I1.hok a _ er.ex)
  obtain ⟨mA, hns, hr⟩ := (show ObjOk X.prog X.w H1 s1.heap dd (.xd fs) from I1.hok dd _ er.fd)
  obtain ⟨od, ho, hl⟩ := lookIn_ns hns
  obtain ⟨u, hu, ru⟩ := RelO.some_of (v := v) (o := mA n) (by rw [← l]; exact hr n)
  have J : PySem.W.InstAt s1.heap a oe C (some od) := by
    refine ⟨ha, hz.1, ?_, ?_⟩
    · unfold PySem.W.notCls
      rw [hd]
    · rw [hz.2]
      exact ho
  exact HandSPX.exc_get I1.kIn J T.ga T.gg T.exC (PySem.W.findObj_own T.hdC hno rfl (by rw [hl, hu])) (handed_of ru) ⟨v, H1, I1.tok _, ru, q⟩
/-- isinstance(e, c), e an error that is a value -/
def rIsE (K : PySem.W.Frag) : List V → Hp → VK → Prop := fun xs H Q => ∃ (a D : Addr) (d : Option Addr) (c : V) (u : Value) (b : Bool), xs = [.ref a, c] ∧ ClsV c u ∧ H a = some (ExF D d a) ∧
  (∀ x, d = some x → ∃ fs, H x = some (.xd fs)) ∧ HeldC K D ∧ PySem.W.kitOne K (.ref D) u = some b ∧ Q (.bl b) H
theorem call_isE : CallR X (.builtin "isinstance") (rIsE X.K) := by
  intro pins s σ H xs us Q I r h
  obtain ⟨a, D, d, c, u, b, rfl, k, ha, hdx, C, e, q⟩ := h
  obtain ⟨u1, u2, rfl, r1, r2⟩ := vals2 r
  have e2 := k.eq r2
  subst e2
  cases r1
  obtain ⟨⟨oe, vs, hget, hz, hv⟩, _, _⟩ := (show ObjOk X.prog X.w H s.heap a (ExF D d a) from I.hok a _ ha)
  obtain ⟨od, J⟩ : ∃ od, PySem.W.InstAt s.heap a oe D od := by
    cases d with
    | none =>
      refine ⟨none, hget, hz.1, ?_, ?_⟩
      · unfold PySem.W.notCls
        rw [hv]
      · rw [hz.2]
        trivial
    | some dd =>
      obtain ⟨fs, hf⟩ := hdx dd rfl
      obtain ⟨mA, ⟨od, es, ep, ho, _⟩, _⟩ := (show ObjOk X.prog X.w H s.heap dd (.xd fs) from I.hok dd _ hf)
      refine ⟨some od, hget, hz.1, ?_, ?_⟩
      · unfold PySem.W.notCls
        rw [hv]
      · rw [hz.2]
        exact ho
  refine PySem.W.kia_one (PySem.W.kitx_exc C.cl C.ga C.gg C.sb C.ca C.sp C.tk C.mo) I.kIn J e (fun z => by cases z) (fun tk => ?_)
  exact ⟨.bl b, H, I.kept (t' := tk) (fun _ _ z => z), rfl, q⟩
/-- C(), a bare one -/
theorem pe_exB {C : Addr} {bmB : List Value} {B newId initId : String} {x : Str} {p pos : Pos} (F : ExcBaseFacts B newId initId bmB) (q : PySem.W.excIn X.K C bmB newId = true) (gC : X.mg x = some (.ref C)) (kC : PySem.W.keepIn X.K (.ref C) = true) (hg : Gl X x)
    (hdb : (x == ("__debug__" : Str)) = false := by decide) :
    PE X (.Call (.Name x p) [] [] pos) (fun _ H Q => ∀ a, H a = none → Q (.ref a) (upd H a (ExF C none a))) := by
  refine ⟨fun pins s σ H Q I h => ?_⟩
  refine wpAny_Call_Name_kw (ld_glob I hg gC ?_ hdb)
  refine PySem.W.callWith_K0 I.kIn kC ?_
  obtain ⟨bm, N, nm, qn, bs, hdct, sn, sub, ab, col, dd, k0, k1, k2, k3, k5, mN, hC, hN, hni, T⟩ := exc_obj I.kIn q
  refine wpAny_call_exc_subT F T hC hN hni (fun h' a hm => ?_) (by show 0 ≤ sizeLine; exact Nat.zero_le _)
  have hn : H a = none := I.hok.gone hm.new
  obtain ⟨t, ht, _, _⟩ := hm.there
  exact ⟨.ref a, upd H a (ExF C none a), I.laidN hm.keeps hm.new hn (exF_ok ht ⟨rfl, rfl⟩ rfl), rfl, h a hn⟩
end
end Mq

namespace Mq
open PySem PySem.Spec PyProof.Rows L2
open PySem.W (Frag)
/-! ### the call of an error's class as a value -/
/-- a made error, its fields by m -/
structure MadeM (h h' : Heap) (e C d : Addr) (m : Str → Option Value) : Prop where
  keep : ∀ b o, h.get? b = some o → h'.get? b = some o
  new : h.objs.size ≤ e
  obj : ∃ oe vs, h'.get? e = some oe ∧ oe.cls = .ref C ∧ oe.dict = some d ∧ oe.data = .fields vs ∧ vs[1]? = some .none
  big : h.objs.size ≤ d
  ne : d ≠ e
  ns : h'.Ns1 d m
/-- what the written part says of an error's class -/
structure ErrC (K : Frag) (mg : Str → Option Value) (x : Str) (C fI : Addr) : Prop where
  gC : mg x = some (.ref C)
  kC : PySem.W.keepIn K (.ref C) = true
  ex : PySem.W.excInitIn K C exTail "Exception.__new__" = true
  ov : PySem.W.excOver K C exTail = true
  hdC : PySem.W.hasDictIn K C = true
  sa : PySem.W.findIn K (.ref C) "__setattr__" = some (some (.builtin "object.__setattr__"))
  iC : PySem.W.findIn K (.ref C) "__init__" = some (some (.ref fI))
  tC : PySem.W.typeIn K (.ref fI) = some (.type "function")
  exC : PySem.W.subIn K (.ref C) (.type "BaseException") = some true
  tyC : PySem.W.typeIn K (.ref C) = some (.type "type")
/-- calls of C with these arguments make an error with fields by m -/
def Makes (K : Frag) (C : Addr) (us : List Value) (kw : List (Str × Value)) (m : Str → Option Value) : Prop :=
  ∀ (prog : Program) (w : World) (A : Around) (R : Result → Shared → Prop) (s : Shared), K.In s.heap → s.heap.NoLimit → A.depth + 1 < recursionLimit →
    (∀ h' tk e d, MadeM s.heap h' e C d m → R (.ok (.ret (.ref e))) { s with heap := h', toks := tk }) → codeAny (model prog w) A (.call (.ref C) ⟨us, kw⟩) R s
theorem zip_rel : ∀ {ks : List Str} {vs : List V} {us : List Value}, Vals vs us → ∀ f : Str, RelO ((ks.zip vs).lookup f) ((ks.zip us).lookup f)
  | [], _, _, _, f => by simp [RelO]
  | _ :: _, _, _, .nil, f => by simp [RelO]
  | k :: ks, _, _, .cons r t, f => by
    rw [List.zip_cons_cons, List.zip_cons_cons, List.lookup_cons, List.lookup_cons]
    cases f == k with
    | true => exact r
    | false => exact zip_rel t f
section
variable {X : Cx} {pins : List (Addr × Obj)} {σ : L2.St} {H : Hp}
theorem laid_exc {hp h' : Heap} {g : Array GenState} {dr : Drawn} {tk tk' : Nat} {os : OsState} {e C d : Addr} {m : Str → Option Value} {fs : List (Str × V)}
    (I : L2.Inv X pins σ H ⟨hp, g, dr, tk, os⟩) (M : MadeM hp h' e C d m) (hr : ∀ f, RelO (fs.lookup f) (m f)) :
    H d = none ∧ H e = none ∧ L2.Inv X pins σ (upd (upd H d (.xd fs)) e (ExF C (some d) e)) ⟨h', g, dr, tk', os⟩ := by
  obtain ⟨oe, fv, hoe, hc, hd, hdat, h1⟩ := M.obj
  have hns := M.ns
  obtain ⟨G', g1, g2⟩ := restrict h' fun b => decide (b ≠ e)
  have gk : ∀ b, b ≠ e → G'.get? b = h'.get? b := fun b hb => g1 b (decide_eq_true hb)
  have ge : G'.get? e = none := g2 e (by simp)
  have old : ∀ b o, hp.get? b = some o → G'.get? b = some o := fun b o q => (gk b (Nat.ne_of_lt (Nat.lt_of_lt_of_le (Heap.lt_size q) M.new))).trans (M.keep b o q)
  have ob : ObjOk X.prog X.w (upd H d (.xd fs)) G' d (.xd fs) := ⟨m, hns.at (fun o q => (gk d M.ne).trans q), hr⟩
  have J : L2.Inv X pins σ (upd H d (.xd fs)) ⟨G', g, dr, tk', os⟩ := I.laid (t' := tk') old M.big ob
  have ne : upd H d (.xd fs) e = none := by
    rw [upd_ne (Ne.symm M.ne)]
    exact I.hok.fresh M.new
  have up : ∀ b o, G'.get? b = some o → h'.get? b = some o := fun b o q => by
    by_cases hb : b = e
    · rw [hb, ge] at q
      cases q
    · exact (gk b hb).symm.trans q
  exact ⟨I.hok.fresh M.big, I.hok.fresh M.new, J.laidN (s := ⟨G', g, dr, tk', os⟩) (t' := tk') up ge ne (exF_ok hoe ⟨hc, hd⟩ hdat)⟩
end
section
variable {X : Cx} {C fI : Addr} {x : Str} {k : Nat} {p pos : Pos} {e : Expr} {es : List Expr} {kws : List Keyword} {t tk : TA} {ks kks : List Str}
/-- C(e, ..) -/
def tMkP (C : Addr) (ks : List Str) (t : TA) : TE := fun σ H Q => t σ H fun vs H1 => vs.length = ks.length ∧ ∀ e d, H1 d = none → H1 e = none → d ≠ e → Q (.ref e) (upd (upd H1 d (.xd (ks.zip vs))) e (ExF C (some d) e))
theorem pe_mkP (T : ErrC X.K X.mg x C fI) (hr : Room k X.A) (M : ∀ us : List Value, us.length = ks.length → Makes X.K C us [] fun y => (ks.zip us).lookup y) (ha : PA X (e :: es) t) (hg : Gl X x := by rfl)
    (hdb : (x == ("__debug__" : Str)) = false := by decide) (he : starEach (e :: es) X.env = (false, eval e X.env) :: starEach es X.env := by rfl) (hpl : (backTo pos (starEach es X.env)).any (·.1) = false := by rfl) :
    PE X (.Call (.Name x p) (e :: es) [] pos) (tMkP C ks t) := by
  refine ⟨fun pins s σ H Q I h => ?_⟩
  refine wpAny_Call_Name_kw (ld_glob I hg T.gC ?_ hdb)
  refine PySem.W.callWith_K (h₀ := X.base) I.ok.mod.kin T.kC (thn (ha.run pos pins s σ H _ I h) fun us s1 hh => ?_) he hpl
  obtain ⟨vs, H1, I1, r1, hl, q1⟩ := hh
  refine ⟨I1.kIn, ?_⟩
  have hlim := I1.nolimit
  obtain ⟨hp, g, dr, tk, os⟩ := s1
  have hus : us.length = ks.length := r1.length.symm.trans hl
  show wpAny _ _ (call (.ref C) us) _ _ _
  refine wpAny_call (M us hus X.prog X.w _ _ _ I1.kIn hlim (by have := hr.dp; omega) (fun h' tk' e d MM => ?_))
  obtain ⟨n1, n2, J⟩ := laid_exc (tk' := tk') I1 MM (zip_rel r1)
  exact ⟨.ref e, _, J, rfl, q1 e d n1 n2 MM.ne⟩
/-- C(k = e, ..): the fields' values by g -/
def tMkK (C : Addr) (ks : List Str) (n : Nat) (g : {α : Type} → List α → List α) (tk : TA) : TE := fun σ H Q => tk σ H fun zs H1 => zs.length = n ∧ ∀ e d, H1 d = none → H1 e = none → d ≠ e → Q (.ref e) (upd (upd H1 d (.xd (ks.zip (g zs)))) e (ExF C (some d) e))
theorem pe_mkK {g : {α : Type} → List α → List α} (T : ErrC X.K X.mg x C fI) (hr : Room k X.A) (hg2 : ∀ {vs : List V} {us : List Value}, Vals vs us → Vals (g vs) (g us))
    (M : ∀ ws : List Value, ws.length = kks.length → Makes X.K C [] (kks.zip ws) fun y => (ks.zip (g ws)).lookup y) (hkw : PK X kws tk) (hg : Gl X x := by rfl)
    (hall : (backToKw pos (keywordEach kws X.env)).all (·.1.isSome) = true := by rfl) (hks : (backToKw pos (keywordEach kws X.env)).filterMap (·.1) = kks := by rfl)
    (hdb : (x == ("__debug__" : Str)) = false := by decide)
    (hpl : ((backTo pos (starEach [] X.env)).any (·.1) || (backToKw pos (keywordEach kws X.env)).any (·.1.isNone)) = false := by rfl) :
    PE X (.Call (.Name x p) [] kws pos) (tMkK C ks kks.length g tk) := by
  refine ⟨fun pins s σ H Q I h => ?_⟩
  refine wpAny_Call_Name_kw (ld_glob I hg T.gC ?_ hdb)
  refine PySem.W.callWith_KW0 (h₀ := X.base) I.ok.mod.kin T.kC hall ?_ hpl
  refine thn (hkw.run pos pins s σ H _ I h) fun ws s2 ⟨zs, H2, I2, rz, hl, q2⟩ => ⟨I2.kIn, ?_⟩
  rw [hks]
  have hlim := I2.nolimit
  have hws : ws.length = kks.length := rz.length.symm.trans hl
  obtain ⟨hp, gg, dr, tk, os⟩ := s2
  refine wpAny_call (M ws hws X.prog X.w _ _ _ I2.kIn hlim (by have := hr.dp; omega) (fun h' tk' e d MM => ?_))
  obtain ⟨n1, n2, J⟩ := laid_exc (tk' := tk') I2 MM (zip_rel (hg2 rz))
  exact ⟨.ref e, _, J, rfl, q2 e d n1 n2 MM.ne⟩
end
end Mq

namespace Mq
open PySem PySem.Spec PyProof.Rows L2
/-! ### such a call behind raise -/
section
variable {X : Cx} {pins : List (Addr × Obj)} {σ : L2.St} {H : Hp}
theorem flown {hp h' : Heap} {g : Array GenState} {dr : Drawn} {tk tk' : Nat} {os : OsState} {e C d : Addr} {m : Str → Option Value} {fs : List (Str × V)} {Q : XK}
    (I : L2.Inv X pins σ H ⟨hp, g, dr, tk, os⟩) (M : MadeM hp h' e C d m) (hr : ∀ f, RelO (fs.lookup f) (m f)) (rs : Raises X (.ref C)) (q : Q (.ref C) (some d) (upd H d (.xd fs))) (hd : H d = none) :
    MkP X pins σ Q (.ref e) ⟨h', g, dr, tk', os⟩ := by
  obtain ⟨oe, fv, hoe, hc, hd', hdat, h1⟩ := M.obj
  have hns := M.ns
  obtain ⟨G', g1, g2⟩ := restrict h' fun b => decide (b ≠ e)
  have gk : ∀ b, b ≠ e → G'.get? b = h'.get? b := fun b hb => g1 b (decide_eq_true hb)
  have ge : G'.get? e = none := g2 e (by simp)
  have old : ∀ b o, hp.get? b = some o → G'.get? b = some o := fun b o q => (gk b (Nat.ne_of_lt (Nat.lt_of_lt_of_le (Heap.lt_size q) M.new))).trans (M.keep b o q)
  have ob : ObjOk X.prog X.w (upd H d (.xd fs)) G' d (.xd fs) := ⟨m, hns.at (fun o q => (gk d M.ne).trans q), hr⟩
  have J : L2.Inv X pins σ (upd H d (.xd fs)) ⟨G', g, dr, tk', os⟩ := I.laid (t' := tk') old M.big ob
  refine ⟨e, oe, fv, ⟨G', g, dr, tk', os⟩, _, .ref C, some d, rfl, J, (fun b o q => ?_), ge, hoe, ⟨hc, hd'⟩, hdat, h1, ?_, rfl, I.bare, rs, q⟩
  · by_cases hb : b = e
    · have q' : G'.get? b = some o := q
      rw [hb, ge] at q'
      cases q'
    · exact (gk b hb).symm.trans q
  · rw [upd_ne (Ne.symm M.ne)]
    exact I.hok.fresh M.new
end
section
variable {X : Cx} {C fI : Addr} {x : Str} {k : Nat} {p pos : Pos} {e : Expr} {es : List Expr} {kws : List Keyword} {t tk : TA} {ks kks : List Str}
def tFlP (C : Addr) (ks : List Str) (t : TA) : L2.St → Hp → XK → Prop := fun σ H Q => t σ H fun vs H1 => vs.length = ks.length ∧ ∀ d, H1 d = none → Q (.ref C) (some d) (upd H1 d (.xd (ks.zip vs)))
theorem pmkP (T : ErrC X.K X.mg x C fI) (hr : Room k X.A) (M : ∀ us : List Value, us.length = ks.length → Makes X.K C us [] fun y => (ks.zip us).lookup y) (ha : PA X (e :: es) t) (hg : Gl X x := by rfl)
    (hdb : (x == ("__debug__" : Str)) = false := by decide) (he : starEach (e :: es) X.env = (false, eval e X.env) :: starEach es X.env := by rfl) (hpl : (backTo pos (starEach es X.env)).any (·.1) = false := by rfl) :
    PMk X (.Call (.Name x p) (e :: es) [] pos) (tFlP C ks t) := by
  intro pins s σ H Q I h
  refine wpAny_Call_Name_kw (ld_glob I hg T.gC ?_ hdb)
  refine PySem.W.callWith_K (h₀ := X.base) I.ok.mod.kin T.kC (thn (ha.run pos pins s σ H _ I h) fun us s1 hh => ?_) he hpl
  obtain ⟨vs, H1, I1, r1, hl, q1⟩ := hh
  refine ⟨I1.kIn, ?_⟩
  have hlim := I1.nolimit
  obtain ⟨hp, g, dr, tk, os⟩ := s1
  have hus : us.length = ks.length := r1.length.symm.trans hl
  show wpAny _ _ (call (.ref C) us) _ _ _
  refine wpAny_call (M us hus X.prog X.w _ _ _ I1.kIn hlim (by have := hr.dp; omega) (fun h' tk' e d MM => ?_))
  exact flown I1 MM (zip_rel r1) (raises_own T.exC T.tyC) (q1 d (I1.hok.fresh MM.big)) (I1.hok.fresh MM.big)
def tFlK (C : Addr) (ks : List Str) (n : Nat) (g : {α : Type} → List α → List α) (tk : TA) : L2.St → Hp → XK → Prop := fun σ H Q => tk σ H fun zs H1 => zs.length = n ∧ ∀ d, H1 d = none → Q (.ref C) (some d) (upd H1 d (.xd (ks.zip (g zs))))
theorem pmkK {g : {α : Type} → List α → List α} (T : ErrC X.K X.mg x C fI) (hr : Room k X.A) (hg2 : ∀ {vs : List V} {us : List Value}, Vals vs us → Vals (g vs) (g us))
    (M : ∀ ws : List Value, ws.length = kks.length → Makes X.K C [] (kks.zip ws) fun y => (ks.zip (g ws)).lookup y) (hkw : PK X kws tk) (hg : Gl X x := by rfl)
    (hall : (backToKw pos (keywordEach kws X.env)).all (·.1.isSome) = true := by rfl) (hks : (backToKw pos (keywordEach kws X.env)).filterMap (·.1) = kks := by rfl)
    (hdb : (x == ("__debug__" : Str)) = false := by decide)
    (hpl : ((backTo pos (starEach [] X.env)).any (·.1) || (backToKw pos (keywordEach kws X.env)).any (·.1.isNone)) = false := by rfl) :
    PMk X (.Call (.Name x p) [] kws pos) (tFlK C ks kks.length g tk) := by
  intro pins s σ H Q I h
  refine wpAny_Call_Name_kw (ld_glob I hg T.gC ?_ hdb)
  refine PySem.W.callWith_KW0 (h₀ := X.base) I.ok.mod.kin T.kC hall ?_ hpl
  refine thn (hkw.run pos pins s σ H _ I h) fun ws s2 ⟨zs, H2, I2, rz, hl, q2⟩ => ⟨I2.kIn, ?_⟩
  rw [hks]
  have hlim := I2.nolimit
  have hws : ws.length = kks.length := rz.length.symm.trans hl
  obtain ⟨hp, gg, dr, tk, os⟩ := s2
  refine wpAny_call (M ws hws X.prog X.w _ _ _ I2.kIn hlim (by have := hr.dp; omega) (fun h' tk' e d MM => ?_))
  exact flown I2 MM (zip_rel (hg2 rz)) (raises_own T.exC T.tyC) (q2 d (I2.hok.fresh MM.big)) (I2.hok.fresh MM.big)
end
end Mq

namespace Mq
open PySem PySem.Spec PyProof.Rows L2
section
variable {X : Cx} {pins : List (Addr × Obj)} {σ : L2.St} {H : Hp} {s : Shared}
/-- repr where an error is held: only the room below counts -/
theorem call_repU' (hu : X.A.units + 200 < cLine) (gA : Still X.A) : CallR X (.builtin "repr") (rRep X.K) := by
  intro pins s σ H xs us Q I r h
  obtain ⟨v, d, rfl, hd, hs, hz, hl, q⟩ := h
  cases r with
  | cons rx rr =>
    cases rr
    obtain ⟨as, rd, hn⟩ := Dg.rd I hd rx
    have leaf : ∀ {d : PyData} {t : Tok}, Q (.str d.shown) H → EP X pins σ Q (.str d.shown t) { s with toks := s.toks + 1 } :=
      fun {d t} q => ⟨.str d.shown, H, I.tok _, ⟨_, rfl⟩, q⟩
    cases hd with
    | non =>
      cases rx
      exact PySem.P.repr_of_none (leaf (d := .none) q)
    | bl b =>
      cases rx
      exact PySem.P.repr_of_bool (leaf (d := .bool b) q)
    | int i =>
      obtain ⟨t, rfl⟩ := rx
      exact PySem.P.repr_of_int (by simpa [PyData.showable] using hs) (leaf (d := .int i) q)
    | str x =>
      obtain ⟨t, rfl⟩ := rx
      refine PySem.P.repr_of_str (leaf (d := .str x) q) ?_
      simpa only [PyData.shown] using hl
    | lst ne h1 h2 =>
      cases rx
      exact repr_of_reads' rd hs (fun _ => hn) gA (by omega) (fun _ _ e => e) (fun h' u tk k => ⟨.str _, H, I.kept k, ⟨_, rfl⟩, q⟩) hl
    | tup h1 h2 =>
      cases rx
      exact repr_of_reads' rd hs (fun _ => hn) gA (by omega) (fun _ _ e => e) (fun h' u tk k => ⟨.str _, H, I.kept k, ⟨_, rfl⟩, q⟩) hl
    | dct h1 h2 =>
      cases rx
      exact repr_of_reads' rd hs (fun _ => hn) gA (by omega) (fun _ _ e => e) (fun h' u tk k => ⟨.str _, H, I.kept k, ⟨_, rfl⟩, q⟩) hl
/-- the same, the written part named -/
theorem call_repU {K0 : PySem.W.Frag} (hK : X.K = K0) (hu : X.A.units + 200 < cLine) (gA : Still X.A) : CallR X (.builtin "repr") (rRep K0) := hK ▸ call_repU' hu gA
theorem pe_bmK {K0 : PySem.W.Frag} {e : Expr} {T : String} {r : V → List V → Hp → VK → Prop} {to : TE} {t : TA} (hK : X.K = K0) (h : PE X e (tBM X.K T r to t)) : PE X e (tBM K0 T r to t) := hK ▸ h
end
end Mq

namespace MqV_part
open PySem PySem.Spec PyProof.Rows L2 Mq PySem.W PySem.Calls
def iA (p1 p2 : Pos) : Arguments := { posonlyargs := [], args := [{ arg := "self", annotation := none, pos := p1 }, { arg := "part", annotation := none, pos := p2 }], vararg := none, kwonlyargs := [], kw_defaults := [], kwarg := none, defaults := [] }
def iB (q1 q2 q3 q4 : Pos) : List Stmt := [.Assign [.Attribute (.Name "self" q1) "part" q2] (.Name "part" q3) q4]
def iS : Scope := { kind := .function, names := [(PySem.Str.ofString "self", .local), (PySem.Str.ofString "part", .local)], isGenerator := false, isCoroutine := false, more := [] }
structure Fn (K : Frag) (qual : Str) (C fI : Addr) : Prop where
  t1 : takerIn K C "part" = some none
  fn : ∃ (oc : Value) (od : Option Addr) (doc pm : Value) (an : Option Addr) (cdv ct : Value) (osl : Array (Option Value)) (p1 p2 q1 q2 q3 q4 : Pos),
    K.lookup fI = some ⟨oc, od, .func (fnOf "__init__" qual (iA p1 p2) (iB q1 q2 q3 q4) iS .none .none doc pm an cdv ct), osl⟩ ∧ codeIn K cdv qual = true
section
variable {prog : Program} {w : World} {A : Around} {E : Value → Shared → Prop} {R : Result → Shared → Prop} {s : Shared} {K : Frag} {mg : Str → Option Value} {x qual : Str} {C fI : Addr}
theorem ld_loc {M : Model} {s : Shared} {name : Str} {scope : Scope} {L a : Addr} {cd : Value} {m : Str → Option Value} {y : Str} {pos : Pos} {v : Value}
    {Q : Value → Shared → Prop} {A : Around} {E : Value → Shared → Prop} (hn : s.heap.Ns L m) (hv : m y = some v) (h : Q v s)
    (hk : scope.kind = .function := by rfl) (hl : (envOfC name scope L a cd).kindOf y = some .local := by rfl) (hd : (y == ("__debug__" : Str)) = false := by decide) :
    wpAny M A (eval (.Name y pos) (envOfC name scope L a cd)) Q E s := wpAny_Name (wpAny_loadName_local hk hl hn hv h) hd
theorem init_pos (T : ErrC K mg x C fI) (N : Fn K qual C fI) {e t0 : Addr} {v : Value} (X : K.In s.heap) (lim : s.heap.NoLimit) (he : s.heap.get? e = some (excObj C t0 none .none)) (room : A.depth < recursionLimit)
    (hq : ∀ h' tk dx, (∀ b o, b ≠ e → s.heap.get? b = some o → h'.get? b = some o) → h'.get? e = some (excObj C t0 (some dx) .none) → s.heap.objs.size ≤ dx → dx ≠ e → h'.Ns1 dx (fun y : Str => if y = "part" then some v else none) → R (.ok (.ret .none)) { s with heap := h', toks := tk }) :
    codeAny (model prog w) A (.call (.ref fI) ⟨[.ref e, v], []⟩) R s := by
  obtain ⟨oc, od, doc, pm, an, cdv, ct, osl, p1, p2, q1, q2, q3, q4, ho, hcd⟩ := N.fn
  refine Att.call_fn (binds := [("self", .ref e), ("part", v)]) X lim ho hcd room (BindsTo.of_eq (by first | rfl | with_unfolding_all rfl)) (by first | rfl | decide | with_unfolding_all rfl) (fun s1 IC => ?_) rfl rfl rfl
  obtain ⟨h1, tk1, rfl⟩ := IC.toInCall.same
  have k : ∀ b o, s.heap.get? b = some o → h1.get? b = some o := IC.toInCall.keep
  have hn := IC.toInCall.ns
  have X1 : K.In h1 := X.keeps k
  have he1 := k _ _ he
  have z : s.heap.objs.size < h1.objs.size := hn.lt
  have eL : s.heap.objs.size ≠ e := Ne.symm (Nat.ne_of_lt (Heap.lt_size he))
  show wpAny _ _ (execs _ _) _ _ _
  refine wpAny_execs_cons (plainObj_wpAny_Assign_Attribute ?_)
  refine ld_loc (v := v) hn (by first | rfl | with_unfolding_all rfl | kernel_rfl) (ld_loc (v := .ref e) hn (by first | rfl | with_unfolding_all rfl | kernel_rfl) ?_)
  refine set_plain X1 (ox := excObj C t0 none .none) (od := none) ⟨he1, rfl, rfl, trivial⟩ T.sa ?_
  refine osa_first X1 he1 T.ov T.hdC N.t1 (fun h3 tk3 dx k3 dn dne he3 hn3 => ?_)
  show wpAny _ _ (execs _ _) _ _ _
  exact wpAny_execs_nil (hq h3 tk3 dx (fun b o hb e' => k3 b o hb (k b o e')) he3 (Nat.le_of_lt (Nat.lt_of_lt_of_le z dn)) dne hn3)
theorem init_kw (T : ErrC K mg x C fI) (N : Fn K qual C fI) {e t0 : Addr} {v : Value} (X : K.In s.heap) (lim : s.heap.NoLimit) (he : s.heap.get? e = some (excObj C t0 none .none)) (room : A.depth < recursionLimit)
    (hq : ∀ h' tk dx, (∀ b o, b ≠ e → s.heap.get? b = some o → h'.get? b = some o) → h'.get? e = some (excObj C t0 (some dx) .none) → s.heap.objs.size ≤ dx → dx ≠ e → h'.Ns1 dx (fun y : Str => if y = "part" then some v else none) → R (.ok (.ret .none)) { s with heap := h', toks := tk }) :
    codeAny (model prog w) A (.call (.ref fI) ⟨[.ref e], [("part", v)]⟩) R s := by
  obtain ⟨oc, od, doc, pm, an, cdv, ct, osl, p1, p2, q1, q2, q3, q4, ho, hcd⟩ := N.fn
  refine Att.call_fn (binds := [("self", .ref e), ("part", v)]) X lim ho hcd room (BindsTo.of_eq (by first | rfl | with_unfolding_all rfl)) (by first | rfl | decide | with_unfolding_all rfl) (fun s1 IC => ?_) rfl rfl rfl
  obtain ⟨h1, tk1, rfl⟩ := IC.toInCall.same
  have k : ∀ b o, s.heap.get? b = some o → h1.get? b = some o := IC.toInCall.keep
  have hn := IC.toInCall.ns
  have X1 : K.In h1 := X.keeps k
  have he1 := k _ _ he
  have z : s.heap.objs.size < h1.objs.size := hn.lt
  have eL : s.heap.objs.size ≠ e := Ne.symm (Nat.ne_of_lt (Heap.lt_size he))
  show wpAny _ _ (execs _ _) _ _ _
  refine wpAny_execs_cons (plainObj_wpAny_Assign_Attribute ?_)
  refine ld_loc (v := v) hn (by first | rfl | with_unfolding_all rfl | kernel_rfl) (ld_loc (v := .ref e) hn (by first | rfl | with_unfolding_all rfl | kernel_rfl) ?_)
  refine set_plain X1 (ox := excObj C t0 none .none) (od := none) ⟨he1, rfl, rfl, trivial⟩ T.sa ?_
  refine osa_first X1 he1 T.ov T.hdC N.t1 (fun h3 tk3 dx k3 dn dne he3 hn3 => ?_)
  show wpAny _ _ (execs _ _) _ _ _
  exact wpAny_execs_nil (hq h3 tk3 dx (fun b o hb e' => k3 b o hb (k b o e')) he3 (Nat.le_of_lt (Nat.lt_of_lt_of_le z dn)) dne hn3)
theorem makes_pos (T : ErrC K mg x C fI) (N : Fn K qual C fI) : ∀ us : List Value, us.length = (["part"] : List Str).length → Makes K C us [] fun y => ((["part"] : List Str).zip us).lookup y := by
  intro us hus prog w A R s X lim room hq
  match us, hus with
  | [v], _ =>
    obtain ⟨nm, M0, qn, bs, bm, hdct, sn, sub, ab, col, dd, k0, k1, k2, k3, k5, hC, hT⟩ := excInit_of X T.ex
    obtain ⟨hp, g, dr, tk, os⟩ := s
    have k : ∀ b o, hp.get? b = some o → ((hp.push (kdv_tup [v])).push (HandSPX.excO C hp.objs.size)).get? b = some o := fun b o e => Heap.get?_push_of_some _ (Heap.get?_push_of_some _ e)
    have hget : ((hp.push (kdv_tup [v])).push (HandSPX.excO C hp.objs.size)).get? (hp.objs.size + 1) = some (excObj C hp.objs.size none .none) := by heap_get
    refine call_kw F.excBase_Exception hT hC (by rw [sizeLine_eq]; exact (by decide : 1 ≤ 16777216)) (looks_findIn X T.iC) (fun self => bind_fn X self T.tC) ?_
    refine init_pos (s := ⟨(hp.push (kdv_tup [v])).push (HandSPX.excO C hp.objs.size), g, dr, tk, os⟩) T N (X.keeps k) (lim.keeps k) hget ?_ (fun h' tk' dx kk hx dn dne hns => ?_)
    · show A.depth + 1 < recursionLimit
      exact room
    · have old : ∀ b o, hp.get? b = some o → h'.get? b = some o := fun b o e => kk b o (Nat.ne_of_lt (Nat.lt_succ_of_lt (Heap.lt_size e))) (k b o e)
      have z : hp.objs.size + 1 + 1 ≤ dx := by
        have q := dn
        rw [Heap.size_push, Heap.size_push] at q
        exact q
      refine ⟨rfl, hq h' tk' (hp.objs.size + 1) dx ⟨old, Nat.le_succ _, ⟨_, _, hx, rfl, rfl, rfl, rfl⟩, Nat.le_trans (Nat.le_trans (Nat.le_succ _) (Nat.le_succ _)) z, dne, ?_⟩⟩
      have em : (fun y : Str => ((["part"] : List Str).zip [v]).lookup y) = (fun y : Str => if y = "part" then some v else none) := by
        funext y
        simp only [List.zip_cons_cons, List.zip_nil_right, List.lookup_cons, List.lookup_nil, List.reverse_cons, List.reverse_nil, List.nil_append, List.cons_append]
        by_cases h : y = "part"
        · rw [if_pos h, show (y == "part") = true from beq_iff_eq.mpr h]
        · rw [if_neg h, show (y == "part") = false from beq_eq_false_iff_ne.mpr h]
      rw [em]
      exact hns
theorem makes_kw (T : ErrC K mg x C fI) (N : Fn K qual C fI) : ∀ us : List Value, us.length = (["part"] : List Str).length → Makes K C [] ((["part"] : List Str).zip us) fun y => ((["part"] : List Str).zip us).lookup y := by
  intro us hus prog w A R s X lim room hq
  match us, hus with
  | [v], _ =>
    obtain ⟨nm, M0, qn, bs, bm, hdct, sn, sub, ab, col, dd, k0, k1, k2, k3, k5, hC, hT⟩ := excInit_of X T.ex
    obtain ⟨hp, g, dr, tk, os⟩ := s
    have k : ∀ b o, hp.get? b = some o → ((hp.push (kdv_tup [])).push (HandSPX.excO C hp.objs.size)).get? b = some o := fun b o e => Heap.get?_push_of_some _ (Heap.get?_push_of_some _ e)
    have hget : ((hp.push (kdv_tup [])).push (HandSPX.excO C hp.objs.size)).get? (hp.objs.size + 1) = some (excObj C hp.objs.size none .none) := by heap_get
    refine call_kw F.excBase_Exception hT hC (by rw [sizeLine_eq]; exact (by decide : 0 ≤ 16777216)) (looks_findIn X T.iC) (fun self => bind_fn X self T.tC) ?_
    refine init_kw (s := ⟨(hp.push (kdv_tup [])).push (HandSPX.excO C hp.objs.size), g, dr, tk, os⟩) T N (X.keeps k) (lim.keeps k) hget ?_ (fun h' tk' dx kk hx dn dne hns => ?_)
    · show A.depth + 1 < recursionLimit
      exact room
    · have old : ∀ b o, hp.get? b = some o → h'.get? b = some o := fun b o e => kk b o (Nat.ne_of_lt (Nat.lt_succ_of_lt (Heap.lt_size e))) (k b o e)
      have z : hp.objs.size + 1 + 1 ≤ dx := by
        have q := dn
        rw [Heap.size_push, Heap.size_push] at q
        exact q
      refine ⟨rfl, hq h' tk' (hp.objs.size + 1) dx ⟨old, Nat.le_succ _, ⟨_, _, hx, rfl, rfl, rfl, rfl⟩, Nat.le_trans (Nat.le_trans (Nat.le_succ _) (Nat.le_succ _)) z, dne, ?_⟩⟩
      have em : (fun y : Str => ((["part"] : List Str).zip [v]).lookup y) = (fun y : Str => if y = "part" then some v else none) := by
        funext y
        simp only [List.zip_cons_cons, List.zip_nil_right, List.lookup_cons, List.lookup_nil, List.reverse_cons, List.reverse_nil, List.nil_append, List.cons_append]
        by_cases h : y = "part"
        · rw [if_pos h, show (y == "part") = true from beq_iff_eq.mpr h]
        · rw [if_neg h, show (y == "part") = false from beq_eq_false_iff_ne.mpr h]
      rw [em]
      exact hns
end
end MqV_part


namespace MqV_line
open PySem PySem.Spec PyProof.Rows L2 Mq PySem.W PySem.Calls
def iA (p1 p2 : Pos) : Arguments := { posonlyargs := [], args := [{ arg := "self", annotation := none, pos := p1 }, { arg := "line", annotation := none, pos := p2 }], vararg := none, kwonlyargs := [], kw_defaults := [], kwarg := none, defaults := [] }
def iB (q1 q2 q3 q4 : Pos) : List Stmt := [.Assign [.Attribute (.Name "self" q1) "line" q2] (.Name "line" q3) q4]
def iS : Scope := { kind := .function, names := [(PySem.Str.ofString "self", .local), (PySem.Str.ofString "line", .local)], isGenerator := false, isCoroutine := false, more := [] }
structure Fn (K : Frag) (qual : Str) (C fI : Addr) : Prop where
  t1 : takerIn K C "line" = some none
  fn : ∃ (oc : Value) (od : Option Addr) (doc pm : Value) (an : Option Addr) (cdv ct : Value) (osl : Array (Option Value)) (p1 p2 q1 q2 q3 q4 : Pos),
    K.lookup fI = some ⟨oc, od, .func (fnOf "__init__" qual (iA p1 p2) (iB q1 q2 q3 q4) iS .none .none doc pm an cdv ct), osl⟩ ∧ codeIn K cdv qual = true
section
variable {prog : Program} {w : World} {A : Around} {E : Value → Shared → Prop} {R : Result → Shared → Prop} {s : Shared} {K : Frag} {mg : Str → Option Value} {x qual : Str} {C fI : Addr}
theorem ld_loc {M : Model} {s : Shared} {name : Str} {scope : Scope} {L a : Addr} {cd : Value} {m : Str → Option Value} {y : Str} {pos : Pos} {v : Value}
    {Q : Value → Shared → Prop} {A : Around} {E : Value → Shared → Prop} (hn : s.heap.Ns L m) (hv : m y = some v) (h : Q v s)
    (hk : scope.kind = .function := by rfl) (hl : (envOfC name scope L a cd).kindOf y = some .local := by rfl) (hd : (y == ("__debug__" : Str)) = false := by decide) :
    wpAny M A (eval (.Name y pos) (envOfC name scope L a cd)) Q E s := wpAny_Name (wpAny_loadName_local hk hl hn hv h) hd
theorem init_pos (T : ErrC K mg x C fI) (N : Fn K qual C fI) {e t0 : Addr} {v : Value} (X : K.In s.heap) (lim : s.heap.NoLimit) (he : s.heap.get? e = some (excObj C t0 none .none)) (room : A.depth < recursionLimit)
    (hq : ∀ h' tk dx, (∀ b o, b ≠ e → s.heap.get? b = some o → h'.get? b = some o) → h'.get? e = some (excObj C t0 (some dx) .none) → s.heap.objs.size ≤ dx → dx ≠ e → h'.Ns1 dx (fun y : Str => if y = "line" then some v else none) → R (.ok (.ret .none)) { s with heap := h', toks := tk }) :
    codeAny (model prog w) A (.call (.ref fI) ⟨[.ref e, v], []⟩) R s := by
  obtain ⟨oc, od, doc, pm, an, cdv, ct, osl, p1, p2, q1, q2, q3, q4, ho, hcd⟩ := N.fn
  refine Att.call_fn (binds := [("self", .ref e), ("line", v)]) X lim ho hcd room (BindsTo.of_eq (by first | rfl | with_unfolding_all rfl)) (by first | rfl | decide | with_unfolding_all rfl) (fun s1 IC => ?_) rfl rfl rfl
  obtain ⟨h1, tk1, rfl⟩ := IC.toInCall.same
  have k : ∀ b o, s.heap.get? b = some o → h1.get? b = some o := IC.toInCall.keep
  have hn := IC.toInCall.ns
  have X1 : K.In h1 := X.keeps k
  have he1 := k _ _ he
  have z : s.heap.objs.size < h1.objs.size := hn.lt
  have eL : s.heap.objs.size ≠ e := Ne.symm (Nat.ne_of_lt (Heap.lt_size he))
  show wpAny _ _ (execs _ _) _ _ _
  refine wpAny_execs_cons (plainObj_wpAny_Assign_Attribute ?_)
  refine ld_loc (v := v) hn (by first | rfl | with_unfolding_all rfl | kernel_rfl) (ld_loc (v := .ref e) hn (by first | rfl | with_unfolding_all rfl | kernel_rfl) ?_)
  refine set_plain X1 (ox := excObj C t0 none .none) (od := none) ⟨he1, rfl, rfl, trivial⟩ T.sa ?_
  refine osa_first X1 he1 T.ov T.hdC N.t1 (fun h3 tk3 dx k3 dn dne he3 hn3 => ?_)
  show wpAny _ _ (execs _ _) _ _ _
  exact wpAny_execs_nil (hq h3 tk3 dx (fun b o hb e' => k3 b o hb (k b o e')) he3 (Nat.le_of_lt (Nat.lt_of_lt_of_le z dn)) dne hn3)
theorem init_kw (T : ErrC K mg x C fI) (N : Fn K qual C fI) {e t0 : Addr} {v : Value} (X : K.In s.heap) (lim : s.heap.NoLimit) (he : s.heap.get? e = some (excObj C t0 none .none)) (room : A.depth < recursionLimit)
    (hq : ∀ h' tk dx, (∀ b o, b ≠ e → s.heap.get? b = some o → h'.get? b = some o) → h'.get? e = some (excObj C t0 (some dx) .none) → s.heap.objs.size ≤ dx → dx ≠ e → h'.Ns1 dx (fun y : Str => if y = "line" then some v else none) → R (.ok (.ret .none)) { s with heap := h', toks := tk }) :
    codeAny (model prog w) A (.call (.ref fI) ⟨[.ref e], [("line", v)]⟩) R s := by
  obtain ⟨oc, od, doc, pm, an, cdv, ct, osl, p1, p2, q1, q2, q3, q4, ho, hcd⟩ := N.fn
  refine Att.call_fn (binds := [("self", .ref e), ("line", v)]) X lim ho hcd room (BindsTo.of_eq (by first | rfl | with_unfolding_all rfl)) (by first | rfl | decide | with_unfolding_all rfl) (fun s1 IC => ?_) rfl rfl rfl
  obtain ⟨h1, tk1, rfl⟩ := IC.toInCall.same
  have k : ∀ b o, s.heap.get? b = some o → h1.get? b = some o := IC.toInCall.keep
  have hn := IC.toInCall.ns
  have X1 : K.In h1 := X.keeps k
  have he1 := k _ _ he
  have z : s.heap.objs.size < h1.objs.size := hn.lt
  have eL : s.heap.objs.size ≠ e := Ne.symm (Nat.ne_of_lt (Heap.lt_size he))
  show wpAny _ _ (execs _ _) _ _ _
  refine wpAny_execs_cons (plainObj_wpAny_Assign_Attribute ?_)
  refine ld_loc (v := v) hn (by first | rfl | with_unfolding_all rfl | kernel_rfl) (ld_loc (v := .ref e) hn (by first | rfl | with_unfolding_all rfl | kernel_rfl) ?_)
  refine set_plain X1 (ox := excObj C t0 none .none) (od := none) ⟨he1, rfl, rfl, trivial⟩ T.sa ?_
  refine osa_first X1 he1 T.ov T.hdC N.t1 (fun h3 tk3 dx k3 dn dne he3 hn3 => ?_)
  show wpAny _ _ (execs _ _) _ _ _
  exact wpAny_execs_nil (hq h3 tk3 dx (fun b o hb e' => k3 b o hb (k b o e')) he3 (Nat.le_of_lt (Nat.lt_of_lt_of_le z dn)) dne hn3)
theorem makes_pos (T : ErrC K mg x C fI) (N : Fn K qual C fI) : ∀ us : List Value, us.length = (["line"] : List Str).length → Makes K C us [] fun y => ((["line"] : List Str).zip us).lookup y := by
  intro us hus prog w A R s X lim room hq
  match us, hus with
  | [v], _ =>
    obtain ⟨nm, M0, qn, bs, bm, hdct, sn, sub, ab, col, dd, k0, k1, k2, k3, k5, hC, hT⟩ := excInit_of X T.ex
    obtain ⟨hp, g, dr, tk, os⟩ := s
    have k : ∀ b o, hp.get? b = some o → ((hp.push (kdv_tup [v])).push (HandSPX.excO C hp.objs.size)).get? b = some o := fun b o e => Heap.get?_push_of_some _ (Heap.get?_push_of_some _ e)
    have hget : ((hp.push (kdv_tup [v])).push (HandSPX.excO C hp.objs.size)).get? (hp.objs.size + 1) = some (excObj C hp.objs.size none .none) := by heap_get
    refine call_kw F.excBase_Exception hT hC (by rw [sizeLine_eq]; exact (by decide : 1 ≤ 16777216)) (looks_findIn X T.iC) (fun self => bind_fn X self T.tC) ?_
    refine init_pos (s := ⟨(hp.push (kdv_tup [v])).push (HandSPX.excO C hp.objs.size), g, dr, tk, os⟩) T N (X.keeps k) (lim.keeps k) hget ?_ (fun h' tk' dx kk hx dn dne hns => ?_)
    · show A.depth + 1 < recursionLimit
      exact room
    · have old : ∀ b o, hp.get? b = some o → h'.get? b = some o := fun b o e => kk b o (Nat.ne_of_lt (Nat.lt_succ_of_lt (Heap.lt_size e))) (k b o e)
      have z : hp.objs.size + 1 + 1 ≤ dx := by
        have q := dn
        rw [Heap.size_push, Heap.size_push] at q
        exact q
      refine ⟨rfl, hq h' tk' (hp.objs.size + 1) dx ⟨old, Nat.le_succ _, ⟨_, _, hx, rfl, rfl, rfl, rfl⟩, Nat.le_trans (Nat.le_trans (Nat.le_succ _) (Nat.le_succ _)) z, dne, ?_⟩⟩
      have em : (fun y : Str => ((["line"] : List Str).zip [v]).lookup y) = (fun y : Str => if y = "line" then some v else none) := by
        funext y
        simp only [List.zip_cons_cons, List.zip_nil_right, List.lookup_cons, List.lookup_nil, List.reverse_cons, List.reverse_nil, List.nil_append, List.cons_append]
        by_cases h : y = "line"
        · rw [if_pos h, show (y == "line") = true from beq_iff_eq.mpr h]
        · rw [if_neg h, show (y == "line") = false from beq_eq_false_iff_ne.mpr h]
      rw [em]
      exact hns
theorem makes_kw (T : ErrC K mg x C fI) (N : Fn K qual C fI) : ∀ us : List Value, us.length = (["line"] : List Str).length → Makes K C [] ((["line"] : List Str).zip us) fun y => ((["line"] : List Str).zip us).lookup y := by
  intro us hus prog w A R s X lim room hq
  match us, hus with
  | [v], _ =>
    obtain ⟨nm, M0, qn, bs, bm, hdct, sn, sub, ab, col, dd, k0, k1, k2, k3, k5, hC, hT⟩ := excInit_of X T.ex
    obtain ⟨hp, g, dr, tk, os⟩ := s
    have k : ∀ b o, hp.get? b = some o → ((hp.push (kdv_tup [])).push (HandSPX.excO C hp.objs.size)).get? b = some o := fun b o e => Heap.get?_push_of_some _ (Heap.get?_push_of_some _ e)
    have hget : ((hp.push (kdv_tup [])).push (HandSPX.excO C hp.objs.size)).get? (hp.objs.size + 1) = some (excObj C hp.objs.size none .none) := by heap_get
    refine call_kw F.excBase_Exception hT hC (by rw [sizeLine_eq]; exact (by decide : 0 ≤ 16777216)) (looks_findIn X T.iC) (fun self => bind_fn X self T.tC) ?_
    refine init_kw (s := ⟨(hp.push (kdv_tup [])).push (HandSPX.excO C hp.objs.size), g, dr, tk, os⟩) T N (X.keeps k) (lim.keeps k) hget ?_ (fun h' tk' dx kk hx dn dne hns => ?_)
    · show A.depth + 1 < recursionLimit
      exact room
    · have old : ∀ b o, hp.get? b = some o → h'.get? b = some o := fun b o e => kk b o (Nat.ne_of_lt (Nat.lt_succ_of_lt (Heap.lt_size e))) (k b o e)
      have z : hp.objs.size + 1 + 1 ≤ dx := by
        have q := dn
        rw [Heap.size_push, Heap.size_push] at q
        exact q
      refine ⟨rfl, hq h' tk' (hp.objs.size + 1) dx ⟨old, Nat.le_succ _, ⟨_, _, hx, rfl, rfl, rfl, rfl⟩, Nat.le_trans (Nat.le_trans (Nat.le_succ _) (Nat.le_succ _)) z, dne, ?_⟩⟩
      have em : (fun y : Str => ((["line"] : List Str).zip [v]).lookup y) = (fun y : Str => if y = "line" then some v else none) := by
        funext y
        simp only [List.zip_cons_cons, List.zip_nil_right, List.lookup_cons, List.lookup_nil, List.reverse_cons, List.reverse_nil, List.nil_append, List.cons_append]
        by_cases h : y = "line"
        · rw [if_pos h, show (y == "line") = true from beq_iff_eq.mpr h]
        · rw [if_neg h, show (y == "line") = false from beq_eq_false_iff_ne.mpr h]
      rw [em]
      exact hns
end
end MqV_line


namespace MqV_thing
open PySem PySem.Spec PyProof.Rows L2 Mq PySem.W PySem.Calls
def iA (p1 p2 : Pos) : Arguments := { posonlyargs := [], args := [{ arg := "self", annotation := none, pos := p1 }, { arg := "thing", annotation := none, pos := p2 }], vararg := none, kwonlyargs := [], kw_defaults := [], kwarg := none, defaults := [] }
def iB (q1 q2 q3 q4 : Pos) : List Stmt := [.Assign [.Attribute (.Name "self" q1) "thing" q2] (.Name "thing" q3) q4]
def iS : Scope := { kind := .function, names := [(PySem.Str.ofString "self", .local), (PySem.Str.ofString "thing", .local)], isGenerator := false, isCoroutine := false, more := [] }
structure Fn (K : Frag) (qual : Str) (C fI : Addr) : Prop where
  t1 : takerIn K C "thing" = some none
  fn : ∃ (oc : Value) (od : Option Addr) (doc pm : Value) (an : Option Addr) (cdv ct : Value) (osl : Array (Option Value)) (p1 p2 q1 q2 q3 q4 : Pos),
    K.lookup fI = some ⟨oc, od, .func (fnOf "__init__" qual (iA p1 p2) (iB q1 q2 q3 q4) iS .none .none doc pm an cdv ct), osl⟩ ∧ codeIn K cdv qual = true
section
variable {prog : Program} {w : World} {A : Around} {E : Value → Shared → Prop} {R : Result → Shared → Prop} {s : Shared} {K : Frag} {mg : Str → Option Value} {x qual : Str} {C fI : Addr}
theorem ld_loc {M : Model} {s : Shared} {name : Str} {scope : Scope} {L a : Addr} {cd : Value} {m : Str → Option Value} {y : Str} {pos : Pos} {v : Value}
    {Q : Value → Shared → Prop} {A : Around} {E : Value → Shared → Prop} (hn : s.heap.Ns L m) (hv : m y = some v) (h : Q v s)
    (hk : scope.kind = .function := by rfl) (hl : (envOfC name scope L a cd).kindOf y = some .local := by rfl) (hd : (y == ("__debug__" : Str)) = false := by decide) :
    wpAny M A (eval (.Name y pos) (envOfC name scope L a cd)) Q E s := wpAny_Name (wpAny_loadName_local hk hl hn hv h) hd
theorem init_pos (T : ErrC K mg x C fI) (N : Fn K qual C fI) {e t0 : Addr} {v : Value} (X : K.In s.heap) (lim : s.heap.NoLimit) (he : s.heap.get? e = some (excObj C t0 none .none)) (room : A.depth < recursionLimit)
    (hq : ∀ h' tk dx, (∀ b o, b ≠ e → s.heap.get? b = some o → h'.get? b = some o) → h'.get? e = some (excObj C t0 (some dx) .none) → s.heap.objs.size ≤ dx → dx ≠ e → h'.Ns1 dx (fun y : Str => if y = "thing" then some v else none) → R (.ok (.ret .none)) { s with heap := h', toks := tk }) :
    codeAny (model prog w) A (.call (.ref fI) ⟨[.ref e, v], []⟩) R s := by
  obtain ⟨oc, od, doc, pm, an, cdv, ct, osl, p1, p2, q1, q2, q3, q4, ho, hcd⟩ := N.fn
  refine Att.call_fn (binds := [("self", .ref e), ("thing", v)]) X lim ho hcd room (BindsTo.of_eq (by first | rfl | with_unfolding_all rfl)) (by first | rfl | decide | with_unfolding_all rfl) (fun s1 IC => ?_) rfl rfl rfl
  obtain ⟨h1, tk1, rfl⟩ := IC.toInCall.same
  have k : ∀ b o, s.heap.get? b = some o → h1.get? b = some o := IC.toInCall.keep
  have hn := IC.toInCall.ns
  have X1 : K.In h1 := X.keeps k
  have he1 := k _ _ he
  have z : s.heap.objs.size < h1.objs.size := hn.lt
  have eL : s.heap.objs.size ≠ e := Ne.symm (Nat.ne_of_lt (Heap.lt_size he))
  show wpAny _ _ (execs _ _) _ _ _
  refine wpAny_execs_cons (plainObj_wpAny_Assign_Attribute ?_)
  refine ld_loc (v := v) hn (by first | rfl | with_unfolding_all rfl | kernel_rfl) (ld_loc (v := .ref e) hn (by first | rfl | with_unfolding_all rfl | kernel_rfl) ?_)
  refine set_plain X1 (ox := excObj C t0 none .none) (od := none) ⟨he1, rfl, rfl, trivial⟩ T.sa ?_
  refine osa_first X1 he1 T.ov T.hdC N.t1 (fun h3 tk3 dx k3 dn dne he3 hn3 => ?_)
  show wpAny _ _ (execs _ _) _ _ _
  exact wpAny_execs_nil (hq h3 tk3 dx (fun b o hb e' => k3 b o hb (k b o e')) he3 (Nat.le_of_lt (Nat.lt_of_lt_of_le z dn)) dne hn3)
theorem init_kw (T : ErrC K mg x C fI) (N : Fn K qual C fI) {e t0 : Addr} {v : Value} (X : K.In s.heap) (lim : s.heap.NoLimit) (he : s.heap.get? e = some (excObj C t0 none .none)) (room : A.depth < recursionLimit)
    (hq : ∀ h' tk dx, (∀ b o, b ≠ e → s.heap.get? b = some o → h'.get? b = some o) → h'.get? e = some (excObj C t0 (some dx) .none) → s.heap.objs.size ≤ dx → dx ≠ e → h'.Ns1 dx (fun y : Str => if y = "thing" then some v else none) → R (.ok (.ret .none)) { s with heap := h', toks := tk }) :
    codeAny (model prog w) A (.call (.ref fI) ⟨[.ref e], [("thing", v)]⟩) R s := by
  obtain ⟨oc, od, doc, pm, an, cdv, ct, osl, p1, p2, q1, q2, q3, q4, ho, hcd⟩ := N.fn
  refine Att.call_fn (binds := [("self", .ref e), ("thing", v)]) X lim ho hcd room (BindsTo.of_eq (by first | rfl | with_unfolding_all rfl)) (by first | rfl | decide | with_unfolding_all rfl) (fun s1 IC => ?_) rfl rfl rfl
  obtain ⟨h1, tk1, rfl⟩ := IC.toInCall.same
  have k : ∀ b o, s.heap.get? b = some o → h1.get? b = some o := IC.toInCall.keep
  have hn := IC.toInCall.ns
  have X1 : K.In h1 := X.keeps k
  have he1 := k _ _ he
  have z : s.heap.objs.size < h1.objs.size := hn.lt
  have eL : s.heap.objs.size ≠ e := Ne.symm (Nat.ne_of_lt (Heap.lt_size he))
  show wpAny _ _ (execs _ _) _ _ _
  refine wpAny_execs_cons (plainObj_wpAny_Assign_Attribute ?_)
  refine ld_loc (v := v) hn (by first | rfl | with_unfolding_all rfl | kernel_rfl) (ld_loc (v := .ref e) hn (by first | rfl | with_unfolding_all rfl | kernel_rfl) ?_)
  refine set_plain X1 (ox := excObj C t0 none .none) (od := none) ⟨he1, rfl, rfl, trivial⟩ T.sa ?_
  refine osa_first X1 he1 T.ov T.hdC N.t1 (fun h3 tk3 dx k3 dn dne he3 hn3 => ?_)
  show wpAny _ _ (execs _ _) _ _ _
  exact wpAny_execs_nil (hq h3 tk3 dx (fun b o hb e' => k3 b o hb (k b o e')) he3 (Nat.le_of_lt (Nat.lt_of_lt_of_le z dn)) dne hn3)
theorem makes_pos (T : ErrC K mg x C fI) (N : Fn K qual C fI) : ∀ us : List Value, us.length = (["thing"] : List Str).length → Makes K C us [] fun y => ((["thing"] : List Str).zip us).lookup y := by
  intro us hus prog w A R s X lim room hq
  match us, hus with
  | [v], _ =>
    obtain ⟨nm, M0, qn, bs, bm, hdct, sn, sub, ab, col, dd, k0, k1, k2, k3, k5, hC, hT⟩ := excInit_of X T.ex
    obtain ⟨hp, g, dr, tk, os⟩ := s
    have k : ∀ b o, hp.get? b = some o → ((hp.push (kdv_tup [v])).push (HandSPX.excO C hp.objs.size)).get? b = some o := fun b o e => Heap.get?_push_of_some _ (Heap.get?_push_of_some _ e)
    have hget : ((hp.push (kdv_tup [v])).push (HandSPX.excO C hp.objs.size)).get? (hp.objs.size + 1) = some (excObj C hp.objs.size none .none) := by heap_get
    refine call_kw F.excBase_Exception hT hC (by rw [sizeLine_eq]; exact (by decide : 1 ≤ 16777216)) (looks_findIn X T.iC) (fun self => bind_fn X self T.tC) ?_
    refine init_pos (s := ⟨(hp.push (kdv_tup [v])).push (HandSPX.excO C hp.objs.size), g, dr, tk, os⟩) T N (X.keeps k) (lim.keeps k) hget ?_ (fun h' tk' dx kk hx dn dne hns => ?_)
    · show A.depth + 1 < recursionLimit
      exact room
    · have old : ∀ b o, hp.get? b = some o → h'.get? b = some o := fun b o e => kk b o (Nat.ne_of_lt (Nat.lt_succ_of_lt (Heap.lt_size e))) (k b o e)
      have z : hp.objs.size + 1 + 1 ≤ dx := by
        have q := dn
        rw [Heap.size_push, Heap.size_push] at q
        exact q
      refine ⟨rfl, hq h' tk' (hp.objs.size + 1) dx ⟨old, Nat.le_succ _, ⟨_, _, hx, rfl, rfl, rfl, rfl⟩, Nat.le_trans (Nat.le_trans (Nat.le_succ _) (Nat.le_succ _)) z, dne, ?_⟩⟩
      have em : (fun y : Str => ((["thing"] : List Str).zip [v]).lookup y) = (fun y : Str => if y = "thing" then some v else none) := by
        funext y
        simp only [List.zip_cons_cons, List.zip_nil_right, List.lookup_cons, List.lookup_nil, List.reverse_cons, List.reverse_nil, List.nil_append, List.cons_append]
        by_cases h : y = "thing"
        · rw [if_pos h, show (y == "thing") = true from beq_iff_eq.mpr h]
        · rw [if_neg h, show (y == "thing") = false from beq_eq_false_iff_ne.mpr h]
      rw [em]
      exact hns
theorem makes_kw (T : ErrC K mg x C fI) (N : Fn K qual C fI) : ∀ us : List Value, us.length = (["thing"] : List Str).length → Makes K C [] ((["thing"] : List Str).zip us) fun y => ((["thing"] : List Str).zip us).lookup y := by
  intro us hus prog w A R s X lim room hq
  match us, hus with
  | [v], _ =>
    obtain ⟨nm, M0, qn, bs, bm, hdct, sn, sub, ab, col, dd, k0, k1, k2, k3, k5, hC, hT⟩ := excInit_of X T.ex
    obtain ⟨hp, g, dr, tk, os⟩ := s
    have k : ∀ b o, hp.get? b = some o → ((hp.push (kdv_tup [])).push (HandSPX.excO C hp.objs.size)).get? b = some o := fun b o e => Heap.get?_push_of_some _ (Heap.get?_push_of_some _ e)
    have hget : ((hp.push (kdv_tup [])).push (HandSPX.excO C hp.objs.size)).get? (hp.objs.size + 1) = some (excObj C hp.objs.size none .none) := by heap_get
    refine call_kw F.excBase_Exception hT hC (by rw [sizeLine_eq]; exact (by decide : 0 ≤ 16777216)) (looks_findIn X T.iC) (fun self => bind_fn X self T.tC) ?_
    refine init_kw (s := ⟨(hp.push (kdv_tup [])).push (HandSPX.excO C hp.objs.size), g, dr, tk, os⟩) T N (X.keeps k) (lim.keeps k) hget ?_ (fun h' tk' dx kk hx dn dne hns => ?_)
    · show A.depth + 1 < recursionLimit
      exact room
    · have old : ∀ b o, hp.get? b = some o → h'.get? b = some o := fun b o e => kk b o (Nat.ne_of_lt (Nat.lt_succ_of_lt (Heap.lt_size e))) (k b o e)
      have z : hp.objs.size + 1 + 1 ≤ dx := by
        have q := dn
        rw [Heap.size_push, Heap.size_push] at q
        exact q
      refine ⟨rfl, hq h' tk' (hp.objs.size + 1) dx ⟨old, Nat.le_succ _, ⟨_, _, hx, rfl, rfl, rfl, rfl⟩, Nat.le_trans (Nat.le_trans (Nat.le_succ _) (Nat.le_succ _)) z, dne, ?_⟩⟩
      have em : (fun y : Str => ((["thing"] : List Str).zip [v]).lookup y) = (fun y : Str => if y = "thing" then some v else none) := by
        funext y
        simp only [List.zip_cons_cons, List.zip_nil_right, List.lookup_cons, List.lookup_nil, List.reverse_cons, List.reverse_nil, List.nil_append, List.cons_append]
        by_cases h : y = "thing"
        · rw [if_pos h, show (y == "thing") = true from beq_iff_eq.mpr h]
        · rw [if_neg h, show (y == "thing") = false from beq_eq_false_iff_ne.mpr h]
      rw [em]
      exact hns
end
end MqV_thing


namespace MqV_most
open PySem PySem.Spec PyProof.Rows L2 Mq PySem.W PySem.Calls
def iA (p1 p2 : Pos) : Arguments := { posonlyargs := [], args := [{ arg := "self", annotation := none, pos := p1 }, { arg := "most", annotation := none, pos := p2 }], vararg := none, kwonlyargs := [], kw_defaults := [], kwarg := none, defaults := [] }
def iB (q1 q2 q3 q4 : Pos) : List Stmt := [.Assign [.Attribute (.Name "self" q1) "most" q2] (.Name "most" q3) q4]
def iS : Scope := { kind := .function, names := [(PySem.Str.ofString "self", .local), (PySem.Str.ofString "most", .local)], isGenerator := false, isCoroutine := false, more := [] }
structure Fn (K : Frag) (qual : Str) (C fI : Addr) : Prop where
  t1 : takerIn K C "most" = some none
  fn : ∃ (oc : Value) (od : Option Addr) (doc pm : Value) (an : Option Addr) (cdv ct : Value) (osl : Array (Option Value)) (p1 p2 q1 q2 q3 q4 : Pos),
    K.lookup fI = some ⟨oc, od, .func (fnOf "__init__" qual (iA p1 p2) (iB q1 q2 q3 q4) iS .none .none doc pm an cdv ct), osl⟩ ∧ codeIn K cdv qual = true
section
variable {prog : Program} {w : World} {A : Around} {E : Value → Shared → Prop} {R : Result → Shared → Prop} {s : Shared} {K : Frag} {mg : Str → Option Value} {x qual : Str} {C fI : Addr}
theorem ld_loc {M : Model} {s : Shared} {name : Str} {scope : Scope} {L a : Addr} {cd : Value} {m : Str → Option Value} {y : Str} {pos : Pos} {v : Value}
    {Q : Value → Shared → Prop} {A : Around} {E : Value → Shared → Prop} (hn : s.heap.Ns L m) (hv : m y = some v) (h : Q v s)
    (hk : scope.kind = .function := by rfl) (hl : (envOfC name scope L a cd).kindOf y = some .local := by rfl) (hd : (y == ("__debug__" : Str)) = false := by decide) :
    wpAny M A (eval (.Name y pos) (envOfC name scope L a cd)) Q E s := wpAny_Name (wpAny_loadName_local hk hl hn hv h) hd
theorem init_pos (T : ErrC K mg x C fI) (N : Fn K qual C fI) {e t0 : Addr} {v : Value} (X : K.In s.heap) (lim : s.heap.NoLimit) (he : s.heap.get? e = some (excObj C t0 none .none)) (room : A.depth < recursionLimit)
    (hq : ∀ h' tk dx, (∀ b o, b ≠ e → s.heap.get? b = some o → h'.get? b = some o) → h'.get? e = some (excObj C t0 (some dx) .none) → s.heap.objs.size ≤ dx → dx ≠ e → h'.Ns1 dx (fun y : Str => if y = "most" then some v else none) → R (.ok (.ret .none)) { s with heap := h', toks := tk }) :
    codeAny (model prog w) A (.call (.ref fI) ⟨[.ref e, v], []⟩) R s := by
  obtain ⟨oc, od, doc, pm, an, cdv, ct, osl, p1, p2, q1, q2, q3, q4, ho, hcd⟩ := N.fn
  refine Att.call_fn (binds := [("self", .ref e), ("most", v)]) X lim ho hcd room (BindsTo.of_eq (by first | rfl | with_unfolding_all rfl)) (by first | rfl | decide | with_unfolding_all rfl) (fun s1 IC => ?_) rfl rfl rfl
  obtain ⟨h1, tk1, rfl⟩ := IC.toInCall.same
  have k : ∀ b o, s.heap.get? b = some o → h1.get? b = some o := IC.toInCall.keep
  have hn := IC.toInCall.ns
  have X1 : K.In h1 := X.keeps k
  have he1 := k _ _ he
  have z : s.heap.objs.size < h1.objs.size := hn.lt
  have eL : s.heap.objs.size ≠ e := Ne.symm (Nat.ne_of_lt (Heap.lt_size he))
  show wpAny _ _ (execs _ _) _ _ _
  refine wpAny_execs_cons (plainObj_wpAny_Assign_Attribute ?_)
  refine ld_loc (v := v) hn (by first | rfl | with_unfolding_all rfl | kernel_rfl) (ld_loc (v := .ref e) hn (by first | rfl | with_unfolding_all rfl | kernel_rfl) ?_)
  refine set_plain X1 (ox := excObj C t0 none .none) (od := none) ⟨he1, rfl, rfl, trivial⟩ T.sa ?_
  refine osa_first X1 he1 T.ov T.hdC N.t1 (fun h3 tk3 dx k3 dn dne he3 hn3 => ?_)
  show wpAny _ _ (execs _ _) _ _ _
  exact wpAny_execs_nil (hq h3 tk3 dx (fun b o hb e' => k3 b o hb (k b o e')) he3 (Nat.le_of_lt (Nat.lt_of_lt_of_le z dn)) dne hn3)
theorem init_kw (T : ErrC K mg x C fI) (N : Fn K qual C fI) {e t0 : Addr} {v : Value} (X : K.In s.heap) (lim : s.heap.NoLimit) (he : s.heap.get? e = some (excObj C t0 none .none)) (room : A.depth < recursionLimit)
    (hq : ∀ h' tk dx, (∀ b o, b ≠ e → s.heap.get? b = some o → h'.get? b = some o) → h'.get? e = some (excObj C t0 (some dx) .none) → s.heap.objs.size ≤ dx → dx ≠ e → h'.Ns1 dx (fun y : Str => if y = "most" then some v else none) → R (.ok (.ret .none)) { s with heap := h', toks := tk }) :
    codeAny (model prog w) A (.call (.ref fI) ⟨[.ref e], [("most", v)]⟩) R s := by
  obtain ⟨oc, od, doc, pm, an, cdv, ct, osl, p1, p2, q1, q2, q3, q4, ho, hcd⟩ := N.fn
  refine Att.call_fn (binds := [("self", .ref e), ("most", v)]) X lim ho hcd room (BindsTo.of_eq (by first | rfl | with_unfolding_all rfl)) (by first | rfl | decide | with_unfolding_all rfl) (fun s1 IC => ?_) rfl rfl rfl
  obtain ⟨h1, tk1, rfl⟩ := IC.toInCall.same
  have k : ∀ b o, s.heap.get? b = some o → h1.get? b = some o := IC.toInCall.keep
  have hn := IC.toInCall.ns
  have X1 : K.In h1 := X.keeps k
  have he1 := k _ _ he
  have z : s.heap.objs.size < h1.objs.size := hn.lt
  have eL : s.heap.objs.size ≠ e := Ne.symm (Nat.ne_of_lt (Heap.lt_size he))
  show wpAny _ _ (execs _ _) _ _ _
  refine wpAny_execs_cons (plainObj_wpAny_Assign_Attribute ?_)
  refine ld_loc (v := v) hn (by first | rfl | with_unfolding_all rfl | kernel_rfl) (ld_loc (v := .ref e) hn (by first | rfl | with_unfolding_all rfl | kernel_rfl) ?_)
  refine set_plain X1 (ox := excObj C t0 none .none) (od := none) ⟨he1, rfl, rfl, trivial⟩ T.sa ?_
  refine osa_first X1 he1 T.ov T.hdC N.t1 (fun h3 tk3 dx k3 dn dne he3 hn3 => ?_)
  show wpAny _ _ (execs _ _) _ _ _
  exact wpAny_execs_nil (hq h3 tk3 dx (fun b o hb e' => k3 b o hb (k b o e')) he3 (Nat.le_of_lt (Nat.lt_of_lt_of_le z dn)) dne hn3)
theorem makes_pos (T : ErrC K mg x C fI) (N : Fn K qual C fI) : ∀ us : List Value, us.length = (["most"] : List Str).length → Makes K C us [] fun y => ((["most"] : List Str).zip us).lookup y := by
  intro us hus prog w A R s X lim room hq
  match us, hus with
  | [v], _ =>
    obtain ⟨nm, M0, qn, bs, bm, hdct, sn, sub, ab, col, dd, k0, k1, k2, k3, k5, hC, hT⟩ := excInit_of X T.ex
    obtain ⟨hp, g, dr, tk, os⟩ := s
    have k : ∀ b o, hp.get? b = some o → ((hp.push (kdv_tup [v])).push (HandSPX.excO C hp.objs.size)).get? b = some o := fun b o e => Heap.get?_push_of_some _ (Heap.get?_push_of_some _ e)
    have hget : ((hp.push (kdv_tup [v])).push (HandSPX.excO C hp.objs.size)).get? (hp.objs.size + 1) = some (excObj C hp.objs.size none .none) := by heap_get
    refine call_kw F.excBase_Exception hT hC (by rw [sizeLine_eq]; exact (by decide : 1 ≤ 16777216)) (looks_findIn X T.iC) (fun self => bind_fn X self T.tC) ?_
    refine init_pos (s := ⟨(hp.push (kdv_tup [v])).push (HandSPX.excO C hp.objs.size), g, dr, tk, os⟩) T N (X.keeps k) (lim.keeps k) hget ?_ (fun h' tk' dx kk hx dn dne hns => ?_)
    · show A.depth + 1 < recursionLimit
      exact room
    · have old : ∀ b o, hp.get? b = some o → h'.get? b = some o := fun b o e => kk b o (Nat.ne_of_lt (Nat.lt_succ_of_lt (Heap.lt_size e))) (k b o e)
      have z : hp.objs.size + 1 + 1 ≤ dx := by
        have q := dn
        rw [Heap.size_push, Heap.size_push] at q
        exact q
      refine ⟨rfl, hq h' tk' (hp.objs.size + 1) dx ⟨old, Nat.le_succ _, ⟨_, _, hx, rfl, rfl, rfl, rfl⟩, Nat.le_trans (Nat.le_trans (Nat.le_succ _) (Nat.le_succ _)) z, dne, ?_⟩⟩
      have em : (fun y : Str => ((["most"] : List Str).zip [v]).lookup y) = (fun y : Str => if y = "most" then some v else none) := by
        funext y
        simp only [List.zip_cons_cons, List.zip_nil_right, List.lookup_cons, List.lookup_nil, List.reverse_cons, List.reverse_nil, List.nil_append, List.cons_append]
        by_cases h : y = "most"
        · rw [if_pos h, show (y == "most") = true from beq_iff_eq.mpr h]
        · rw [if_neg h, show (y == "most") = false from beq_eq_false_iff_ne.mpr h]
      rw [em]
      exact hns
theorem makes_kw (T : ErrC K mg x C fI) (N : Fn K qual C fI) : ∀ us : List Value, us.length = (["most"] : List Str).length → Makes K C [] ((["most"] : List Str).zip us) fun y => ((["most"] : List Str).zip us).lookup y := by
  intro us hus prog w A R s X lim room hq
  match us, hus with
  | [v], _ =>
    obtain ⟨nm, M0, qn, bs, bm, hdct, sn, sub, ab, col, dd, k0, k1, k2, k3, k5, hC, hT⟩ := excInit_of X T.ex
    obtain ⟨hp, g, dr, tk, os⟩ := s
    have k : ∀ b o, hp.get? b = some o → ((hp.push (kdv_tup [])).push (HandSPX.excO C hp.objs.size)).get? b = some o := fun b o e => Heap.get?_push_of_some _ (Heap.get?_push_of_some _ e)
    have hget : ((hp.push (kdv_tup [])).push (HandSPX.excO C hp.objs.size)).get? (hp.objs.size + 1) = some (excObj C hp.objs.size none .none) := by heap_get
    refine call_kw F.excBase_Exception hT hC (by rw [sizeLine_eq]; exact (by decide : 0 ≤ 16777216)) (looks_findIn X T.iC) (fun self => bind_fn X self T.tC) ?_
    refine init_kw (s := ⟨(hp.push (kdv_tup [])).push (HandSPX.excO C hp.objs.size), g, dr, tk, os⟩) T N (X.keeps k) (lim.keeps k) hget ?_ (fun h' tk' dx kk hx dn dne hns => ?_)
    · show A.depth + 1 < recursionLimit
      exact room
    · have old : ∀ b o, hp.get? b = some o → h'.get? b = some o := fun b o e => kk b o (Nat.ne_of_lt (Nat.lt_succ_of_lt (Heap.lt_size e))) (k b o e)
      have z : hp.objs.size + 1 + 1 ≤ dx := by
        have q := dn
        rw [Heap.size_push, Heap.size_push] at q
        exact q
      refine ⟨rfl, hq h' tk' (hp.objs.size + 1) dx ⟨old, Nat.le_succ _, ⟨_, _, hx, rfl, rfl, rfl, rfl⟩, Nat.le_trans (Nat.le_trans (Nat.le_succ _) (Nat.le_succ _)) z, dne, ?_⟩⟩
      have em : (fun y : Str => ((["most"] : List Str).zip [v]).lookup y) = (fun y : Str => if y = "most" then some v else none) := by
        funext y
        simp only [List.zip_cons_cons, List.zip_nil_right, List.lookup_cons, List.lookup_nil, List.reverse_cons, List.reverse_nil, List.nil_append, List.cons_append]
        by_cases h : y = "most"
        · rw [if_pos h, show (y == "most") = true from beq_iff_eq.mpr h]
        · rw [if_neg h, show (y == "most") = false from beq_eq_false_iff_ne.mpr h]
      rw [em]
      exact hns
end
end MqV_most


namespace MqV_place
open PySem PySem.Spec PyProof.Rows L2 Mq PySem.W PySem.Calls
def iA (p1 p2 : Pos) : Arguments := { posonlyargs := [], args := [{ arg := "self", annotation := none, pos := p1 }, { arg := "place", annotation := none, pos := p2 }], vararg := none, kwonlyargs := [], kw_defaults := [], kwarg := none, defaults := [] }
def iB (q1 q2 q3 q4 : Pos) : List Stmt := [.Assign [.Attribute (.Name "self" q1) "place" q2] (.Name "place" q3) q4]
def iS : Scope := { kind := .function, names := [(PySem.Str.ofString "self", .local), (PySem.Str.ofString "place", .local)], isGenerator := false, isCoroutine := false, more := [] }
structure Fn (K : Frag) (qual : Str) (C fI : Addr) : Prop where
  t1 : takerIn K C "place" = some none
  fn : ∃ (oc : Value) (od : Option Addr) (doc pm : Value) (an : Option Addr) (cdv ct : Value) (osl : Array (Option Value)) (p1 p2 q1 q2 q3 q4 : Pos),
    K.lookup fI = some ⟨oc, od, .func (fnOf "__init__" qual (iA p1 p2) (iB q1 q2 q3 q4) iS .none .none doc pm an cdv ct), osl⟩ ∧ codeIn K cdv qual = true
section
variable {prog : Program} {w : World} {A : Around} {E : Value → Shared → Prop} {R : Result → Shared → Prop} {s : Shared} {K : Frag} {mg : Str → Option Value} {x qual : Str} {C fI : Addr}
theorem ld_loc {M : Model} {s : Shared} {name : Str} {scope : Scope} {L a : Addr} {cd : Value} {m : Str → Option Value} {y : Str} {pos : Pos} {v : Value}
    {Q : Value → Shared → Prop} {A : Around} {E : Value → Shared → Prop} (hn : s.heap.Ns L m) (hv : m y = some v) (h : Q v s)
    (hk : scope.kind = .function := by rfl) (hl : (envOfC name scope L a cd).kindOf y = some .local := by rfl) (hd : (y == ("__debug__" : Str)) = false := by decide) :
    wpAny M A (eval (.Name y pos) (envOfC name scope L a cd)) Q E s := wpAny_Name (wpAny_loadName_local hk hl hn hv h) hd
theorem init_pos (T : ErrC K mg x C fI) (N : Fn K qual C fI) {e t0 : Addr} {v : Value} (X : K.In s.heap) (lim : s.heap.NoLimit) (he : s.heap.get? e = some (excObj C t0 none .none)) (room : A.depth < recursionLimit)
    (hq : ∀ h' tk dx, (∀ b o, b ≠ e → s.heap.get? b = some o → h'.get? b = some o) → h'.get? e = some (excObj C t0 (some dx) .none) → s.heap.objs.size ≤ dx → dx ≠ e → h'.Ns1 dx (fun y : Str => if y = "place" then some v else none) → R (.ok (.ret .none)) { s with heap := h', toks := tk }) :
    codeAny (model prog w) A (.call (.ref fI) ⟨[.ref e, v], []⟩) R s := by
  obtain ⟨oc, od, doc, pm, an, cdv, ct, osl, p1, p2, q1, q2, q3, q4, ho, hcd⟩ := N.fn
  refine Att.call_fn (binds := [("self", .ref e), ("place", v)]) X lim ho hcd room (BindsTo.of_eq (by first | rfl | with_unfolding_all rfl)) (by first | rfl | decide | with_unfolding_all rfl) (fun s1 IC => ?_) rfl rfl rfl
  obtain ⟨h1, tk1, rfl⟩ := IC.toInCall.same
  have k : ∀ b o, s.heap.get? b = some o → h1.get? b = some o := IC.toInCall.keep
  have hn := IC.toInCall.ns
  have X1 : K.In h1 := X.keeps k
  have he1 := k _ _ he
  have z : s.heap.objs.size < h1.objs.size := hn.lt
  have eL : s.heap.objs.size ≠ e := Ne.symm (Nat.ne_of_lt (Heap.lt_size he))
  show wpAny _ _ (execs _ _) _ _ _
  refine wpAny_execs_cons (plainObj_wpAny_Assign_Attribute ?_)
  refine ld_loc (v := v) hn (by first | rfl | with_unfolding_all rfl | kernel_rfl) (ld_loc (v := .ref e) hn (by first | rfl | with_unfolding_all rfl | kernel_rfl) ?_)
  refine set_plain X1 (ox := excObj C t0 none .none) (od := none) ⟨he1, rfl, rfl, trivial⟩ T.sa ?_
  refine osa_first X1 he1 T.ov T.hdC N.t1 (fun h3 tk3 dx k3 dn dne he3 hn3 => ?_)
  show wpAny _ _ (execs _ _) _ _ _
  exact wpAny_execs_nil (hq h3 tk3 dx (fun b o hb e' => k3 b o hb (k b o e')) he3 (Nat.le_of_lt (Nat.lt_of_lt_of_le z dn)) dne hn3)
theorem init_kw (T : ErrC K mg x C fI) (N : Fn K qual C fI) {e t0 : Addr} {v : Value} (X : K.In s.heap) (lim : s.heap.NoLimit) (he : s.heap.get? e = some (excObj C t0 none .none)) (room : A.depth < recursionLimit)
    (hq : ∀ h' tk dx, (∀ b o, b ≠ e → s.heap.get? b = some o → h'.get? b = some o) → h'.get? e = some (excObj C t0 (some dx) .none) → s.heap.objs.size ≤ dx → dx ≠ e → h'.Ns1 dx (fun y : Str => if y = "place" then some v else none) → R (.ok (.ret .none)) { s with heap := h', toks := tk }) :
    codeAny (model prog w) A (.call (.ref fI) ⟨[.ref e], [("place", v)]⟩) R s := by
  obtain ⟨oc, od, doc, pm, an, cdv, ct, osl, p1, p2, q1, q2, q3, q4, ho, hcd⟩ := N.fn
  refine Att.call_fn (binds := [("self", .ref e), ("place", v)]) X lim ho hcd room (BindsTo.of_eq (by first | rfl | with_unfolding_all rfl)) (by first | rfl | decide | with_unfolding_all rfl) (fun s1 IC => ?_) rfl rfl rfl
  obtain ⟨h1, tk1, rfl⟩ := IC.toInCall.same
  have k : ∀ b o, s.heap.get? b = some o → h1.get? b = some o := IC.toInCall.keep
  have hn := IC.toInCall.ns
  have X1 : K.In h1 := X.keeps k
  have he1 := k _ _ he
  have z : s.heap.objs.size < h1.objs.size := hn.lt
  have eL : s.heap.objs.size ≠ e := Ne.symm (Nat.ne_of_lt (Heap.lt_size he))
  show wpAny _ _ (execs _ _) _ _ _
  refine wpAny_execs_cons (plainObj_wpAny_Assign_Attribute ?_)
  refine ld_loc (v := v) hn (by first | rfl | with_unfolding_all rfl | kernel_rfl) (ld_loc (v := .ref e) hn (by first | rfl | with_unfolding_all rfl | kernel_rfl) ?_)
  refine set_plain X1 (ox := excObj C t0 none .none) (od := none) ⟨he1, rfl, rfl, trivial⟩ T.sa ?_
  refine osa_first X1 he1 T.ov T.hdC N.t1 (fun h3 tk3 dx k3 dn dne he3 hn3 => ?_)
  show wpAny _ _ (execs _ _) _ _ _
  exact wpAny_execs_nil (hq h3 tk3 dx (fun b o hb e' => k3 b o hb (k b o e')) he3 (Nat.le_of_lt (Nat.lt_of_lt_of_le z dn)) dne hn3)
theorem makes_pos (T : ErrC K mg x C fI) (N : Fn K qual C fI) : ∀ us : List Value, us.length = (["place"] : List Str).length → Makes K C us [] fun y => ((["place"] : List Str).zip us).lookup y := by
  intro us hus prog w A R s X lim room hq
  match us, hus with
  | [v], _ =>
    obtain ⟨nm, M0, qn, bs, bm, hdct, sn, sub, ab, col, dd, k0, k1, k2, k3, k5, hC, hT⟩ := excInit_of X T.ex
    obtain ⟨hp, g, dr, tk, os⟩ := s
    have k : ∀ b o, hp.get? b = some o → ((hp.push (kdv_tup [v])).push (HandSPX.excO C hp.objs.size)).get? b = some o := fun b o e => Heap.get?_push_of_some _ (Heap.get?_push_of_some _ e)
    have hget : ((hp.push (kdv_tup [v])).push (HandSPX.excO C hp.objs.size)).get? (hp.objs.size + 1) = some (excObj C hp.objs.size none .none) := by heap_get
    refine call_kw F.excBase_Exception hT hC (by rw [sizeLine_eq]; exact (by decide : 1 ≤ 16777216)) (looks_findIn X T.iC) (fun self => bind_fn X self T.tC) ?_
    refine init_pos (s := ⟨(hp.push (kdv_tup [v])).push (HandSPX.excO C hp.objs.size), g, dr, tk, os⟩) T N (X.keeps k) (lim.keeps k) hget ?_ (fun h' tk' dx kk hx dn dne hns => ?_)
    · show A.depth + 1 < recursionLimit
      exact room
    · have old : ∀ b o, hp.get? b = some o → h'.get? b = some o := fun b o e => kk b o (Nat.ne_of_lt (Nat.lt_succ_of_lt (Heap.lt_size e))) (k b o e)
      have z : hp.objs.size + 1 + 1 ≤ dx := by
        have q := dn
        rw [Heap.size_push, Heap.size_push] at q
        exact q
      refine ⟨rfl, hq h' tk' (hp.objs.size + 1) dx ⟨old, Nat.le_succ _, ⟨_, _, hx, rfl, rfl, rfl, rfl⟩, Nat.le_trans (Nat.le_trans (Nat.le_succ _) (Nat.le_succ _)) z, dne, ?_⟩⟩
      have em : (fun y : Str => ((["place"] : List Str).zip [v]).lookup y) = (fun y : Str => if y = "place" then some v else none) := by
        funext y
        simp only [List.zip_cons_cons, List.zip_nil_right, List.lookup_cons, List.lookup_nil, List.reverse_cons, List.reverse_nil, List.nil_append, List.cons_append]
        by_cases h : y = "place"
        · rw [if_pos h, show (y == "place") = true from beq_iff_eq.mpr h]
        · rw [if_neg h, show (y == "place") = false from beq_eq_false_iff_ne.mpr h]
      rw [em]
      exact hns
theorem makes_kw (T : ErrC K mg x C fI) (N : Fn K qual C fI) : ∀ us : List Value, us.length = (["place"] : List Str).length → Makes K C [] ((["place"] : List Str).zip us) fun y => ((["place"] : List Str).zip us).lookup y := by
  intro us hus prog w A R s X lim room hq
  match us, hus with
  | [v], _ =>
    obtain ⟨nm, M0, qn, bs, bm, hdct, sn, sub, ab, col, dd, k0, k1, k2, k3, k5, hC, hT⟩ := excInit_of X T.ex
    obtain ⟨hp, g, dr, tk, os⟩ := s
    have k : ∀ b o, hp.get? b = some o → ((hp.push (kdv_tup [])).push (HandSPX.excO C hp.objs.size)).get? b = some o := fun b o e => Heap.get?_push_of_some _ (Heap.get?_push_of_some _ e)
    have hget : ((hp.push (kdv_tup [])).push (HandSPX.excO C hp.objs.size)).get? (hp.objs.size + 1) = some (excObj C hp.objs.size none .none) := by heap_get
    refine call_kw F.excBase_Exception hT hC (by rw [sizeLine_eq]; exact (by decide : 0 ≤ 16777216)) (looks_findIn X T.iC) (fun self => bind_fn X self T.tC) ?_
    refine init_kw (s := ⟨(hp.push (kdv_tup [])).push (HandSPX.excO C hp.objs.size), g, dr, tk, os⟩) T N (X.keeps k) (lim.keeps k) hget ?_ (fun h' tk' dx kk hx dn dne hns => ?_)
    · show A.depth + 1 < recursionLimit
      exact room
    · have old : ∀ b o, hp.get? b = some o → h'.get? b = some o := fun b o e => kk b o (Nat.ne_of_lt (Nat.lt_succ_of_lt (Heap.lt_size e))) (k b o e)
      have z : hp.objs.size + 1 + 1 ≤ dx := by
        have q := dn
        rw [Heap.size_push, Heap.size_push] at q
        exact q
      refine ⟨rfl, hq h' tk' (hp.objs.size + 1) dx ⟨old, Nat.le_succ _, ⟨_, _, hx, rfl, rfl, rfl, rfl⟩, Nat.le_trans (Nat.le_trans (Nat.le_succ _) (Nat.le_succ _)) z, dne, ?_⟩⟩
      have em : (fun y : Str => ((["place"] : List Str).zip [v]).lookup y) = (fun y : Str => if y = "place" then some v else none) := by
        funext y
        simp only [List.zip_cons_cons, List.zip_nil_right, List.lookup_cons, List.lookup_nil, List.reverse_cons, List.reverse_nil, List.nil_append, List.cons_append]
        by_cases h : y = "place"
        · rw [if_pos h, show (y == "place") = true from beq_iff_eq.mpr h]
        · rw [if_neg h, show (y == "place") = false from beq_eq_false_iff_ne.mpr h]
      rw [em]
      exact hns
end
end MqV_place


namespace MqV_outcome
open PySem PySem.Spec PyProof.Rows L2 Mq PySem.W PySem.Calls
def iA (p1 p2 : Pos) : Arguments := { posonlyargs := [], args := [{ arg := "self", annotation := none, pos := p1 }, { arg := "outcome", annotation := none, pos := p2 }], vararg := none, kwonlyargs := [], kw_defaults := [], kwarg := none, defaults := [] }
def iB (q1 q2 q3 q4 : Pos) : List Stmt := [.Assign [.Attribute (.Name "self" q1) "outcome" q2] (.Name "outcome" q3) q4]
def iS : Scope := { kind := .function, names := [(PySem.Str.ofString "self", .local), (PySem.Str.ofString "outcome", .local)], isGenerator := false, isCoroutine := false, more := [] }
structure Fn (K : Frag) (qual : Str) (C fI : Addr) : Prop where
  t1 : takerIn K C "outcome" = some none
  fn : ∃ (oc : Value) (od : Option Addr) (doc pm : Value) (an : Option Addr) (cdv ct : Value) (osl : Array (Option Value)) (p1 p2 q1 q2 q3 q4 : Pos),
    K.lookup fI = some ⟨oc, od, .func (fnOf "__init__" qual (iA p1 p2) (iB q1 q2 q3 q4) iS .none .none doc pm an cdv ct), osl⟩ ∧ codeIn K cdv qual = true
section
variable {prog : Program} {w : World} {A : Around} {E : Value → Shared → Prop} {R : Result → Shared → Prop} {s : Shared} {K : Frag} {mg : Str → Option Value} {x qual : Str} {C fI : Addr}
theorem ld_loc {M : Model} {s : Shared} {name : Str} {scope : Scope} {L a : Addr} {cd : Value} {m : Str → Option Value} {y : Str} {pos : Pos} {v : Value}
    {Q : Value → Shared → Prop} {A : Around} {E : Value → Shared → Prop} (hn : s.heap.Ns L m) (hv : m y = some v) (h : Q v s)
    (hk : scope.kind = .function := by rfl) (hl : (envOfC name scope L a cd).kindOf y = some .local := by rfl) (hd : (y == ("__debug__" : Str)) = false := by decide) :
    wpAny M A (eval (.Name y pos) (envOfC name scope L a cd)) Q E s := wpAny_Name (wpAny_loadName_local hk hl hn hv h) hd
theorem init_pos (T : ErrC K mg x C fI) (N : Fn K qual C fI) {e t0 : Addr} {v : Value} (X : K.In s.heap) (lim : s.heap.NoLimit) (he : s.heap.get? e = some (excObj C t0 none .none)) (room : A.depth < recursionLimit)
    (hq : ∀ h' tk dx, (∀ b o, b ≠ e → s.heap.get? b = some o → h'.get? b = some o) → h'.get? e = some (excObj C t0 (some dx) .none) → s.heap.objs.size ≤ dx → dx ≠ e → h'.Ns1 dx (fun y : Str => if y = "outcome" then some v else none) → R (.ok (.ret .none)) { s with heap := h', toks := tk }) :
    codeAny (model prog w) A (.call (.ref fI) ⟨[.ref e, v], []⟩) R s := by
  obtain ⟨oc, od, doc, pm, an, cdv, ct, osl, p1, p2, q1, q2, q3, q4, ho, hcd⟩ := N.fn
  refine Att.call_fn (binds := [("self", .ref e), ("outcome", v)]) X lim ho hcd room (BindsTo.of_eq (by first | rfl | with_unfolding_all rfl)) (by first | rfl | decide | with_unfolding_all rfl) (fun s1 IC => ?_) rfl rfl rfl
  obtain ⟨h1, tk1, rfl⟩ := IC.toInCall.same
  have k : ∀ b o, s.heap.get? b = some o → h1.get? b = some o := IC.toInCall.keep
  have hn := IC.toInCall.ns
  have X1 : K.In h1 := X.keeps k
  have he1 := k _ _ he
  have z : s.heap.objs.size < h1.objs.size := hn.lt
  have eL : s.heap.objs.size ≠ e := Ne.symm (Nat.ne_of_lt (Heap.lt_size he))
  show wpAny _ _ (execs _ _) _ _ _
  refine wpAny_execs_cons (plainObj_wpAny_Assign_Attribute ?_)
  refine ld_loc (v := v) hn (by first | rfl | with_unfolding_all rfl | kernel_rfl) (ld_loc (v := .ref e) hn (by first | rfl | with_unfolding_all rfl | kernel_rfl) ?_)
  refine set_plain X1 (ox := excObj C t0 none .none) (od := none) ⟨he1, rfl, rfl, trivial⟩ T.sa ?_
  refine osa_first X1 he1 T.ov T.hdC N.t1 (fun h3 tk3 dx k3 dn dne he3 hn3 => ?_)
  show wpAny _ _ (execs _ _) _ _ _
  exact wpAny_execs_nil (hq h3 tk3 dx (fun b o hb e' => k3 b o hb (k b o e')) he3 (Nat.le_of_lt (Nat.lt_of_lt_of_le z dn)) dne hn3)
theorem init_kw (T : ErrC K mg x C fI) (N : Fn K qual C fI) {e t0 : Addr} {v : Value} (X : K.In s.heap) (lim : s.heap.NoLimit) (he : s.heap.get? e = some (excObj C t0 none .none)) (room : A.depth < recursionLimit)
    (hq : ∀ h' tk dx, (∀ b o, b ≠ e → s.heap.get? b = some o → h'.get? b = some o) → h'.get? e = some (excObj C t0 (some dx) .none) → s.heap.objs.size ≤ dx → dx ≠ e → h'.Ns1 dx (fun y : Str => if y = "outcome" then some v else none) → R (.ok (.ret .none)) { s with heap := h', toks := tk }) :
    codeAny (model prog w) A (.call (.ref fI) ⟨[.ref e], [("outcome", v)]⟩) R s := by
  obtain ⟨oc, od, doc, pm, an, cdv, ct, osl, p1, p2, q1, q2, q3, q4, ho, hcd⟩ := N.fn
  refine Att.call_fn (binds := [("self", .ref e), ("outcome", v)]) X lim ho hcd room (BindsTo.of_eq (by first | rfl | with_unfolding_all rfl)) (by first | rfl | decide | with_unfolding_all rfl) (fun s1 IC => ?_) rfl rfl rfl
  obtain ⟨h1, tk1, rfl⟩ := IC.toInCall.same
  have k : ∀ b o, s.heap.get? b = some o → h1.get? b = some o := IC.toInCall.keep
  have hn := IC.toInCall.ns
  have X1 : K.In h1 := X.keeps k
  have he1 := k _ _ he
  have z : s.heap.objs.size < h1.objs.size := hn.lt
  have eL : s.heap.objs.size ≠ e := Ne.symm (Nat.ne_of_lt (Heap.lt_size he))
  show wpAny _ _ (execs _ _) _ _ _
  refine wpAny_execs_cons (plainObj_wpAny_Assign_Attribute ?_)
  refine ld_loc (v := v) hn (by first | rfl | with_unfolding_all rfl | kernel_rfl) (ld_loc (v := .ref e) hn (by first | rfl | with_unfolding_all rfl | kernel_rfl) ?_)
  refine set_plain X1 (ox := excObj C t0 none .none) (od := none) ⟨he1, rfl, rfl, trivial⟩ T.sa ?_
  refine osa_first X1 he1 T.ov T.hdC N.t1 (fun h3 tk3 dx k3 dn dne he3 hn3 => ?_)
  show wpAny _ _ (execs _ _) _ _ _
  exact wpAny_execs_nil (hq h3 tk3 dx (fun b o hb e' => k3 b o hb (k b o e')) he3 (Nat.le_of_lt (Nat.lt_of_lt_of_le z dn)) dne hn3)
theorem makes_pos (T : ErrC K mg x C fI) (N : Fn K qual C fI) : ∀ us : List Value, us.length = (["outcome"] : List Str).length → Makes K C us [] fun y => ((["outcome"] : List Str).zip us).lookup y := by
  intro us hus prog w A R s X lim room hq
  match us, hus with
  | [v], _ =>
    obtain ⟨nm, M0, qn, bs, bm, hdct, sn, sub, ab, col, dd, k0, k1, k2, k3, k5, hC, hT⟩ := excInit_of X T.ex
    obtain ⟨hp, g, dr, tk, os⟩ := s
    have k : ∀ b o, hp.get? b = some o → ((hp.push (kdv_tup [v])).push (HandSPX.excO C hp.objs.size)).get? b = some o := fun b o e => Heap.get?_push_of_some _ (Heap.get?_push_of_some _ e)
    have hget : ((hp.push (kdv_tup [v])).push (HandSPX.excO C hp.objs.size)).get? (hp.objs.size + 1) = some (excObj C hp.objs.size none .none) := by heap_get
    refine call_kw F.excBase_Exception hT hC (by rw [sizeLine_eq]; exact (by decide : 1 ≤ 16777216)) (looks_findIn X T.iC) (fun self => bind_fn X self T.tC) ?_
    refine init_pos (s := ⟨(hp.push (kdv_tup [v])).push (HandSPX.excO C hp.objs.size), g, dr, tk, os⟩) T N (X.keeps k) (lim.keeps k) hget ?_ (fun h' tk' dx kk hx dn dne hns => ?_)
    · show A.depth + 1 < recursionLimit
      exact room
    · have old : ∀ b o, hp.get? b = some o → h'.get? b = some o := fun b o e => kk b o (Nat.ne_of_lt (Nat.lt_succ_of_lt (Heap.lt_size e))) (k b o e)
      have z : hp.objs.size + 1 + 1 ≤ dx := by
        have q := dn
        rw [Heap.size_push, Heap.size_push] at q
        exact q
      refine ⟨rfl, hq h' tk' (hp.objs.size + 1) dx ⟨old, Nat.le_succ _, ⟨_, _, hx, rfl, rfl, rfl, rfl⟩, Nat.le_trans (Nat.le_trans (Nat.le_succ _) (Nat.le_succ _)) z, dne, ?_⟩⟩
      have em : (fun y : Str => ((["outcome"] : List Str).zip [v]).lookup y) = (fun y : Str => if y = "outcome" then some v else none) := by
        funext y
        simp only [List.zip_cons_cons, List.zip_nil_right, List.lookup_cons, List.lookup_nil, List.reverse_cons, List.reverse_nil, List.nil_append, List.cons_append]
        by_cases h : y = "outcome"
        · rw [if_pos h, show (y == "outcome") = true from beq_iff_eq.mpr h]
        · rw [if_neg h, show (y == "outcome") = false from beq_eq_false_iff_ne.mpr h]
      rw [em]
      exact hns
theorem makes_kw (T : ErrC K mg x C fI) (N : Fn K qual C fI) : ∀ us : List Value, us.length = (["outcome"] : List Str).length → Makes K C [] ((["outcome"] : List Str).zip us) fun y => ((["outcome"] : List Str).zip us).lookup y := by
  intro us hus prog w A R s X lim room hq
  match us, hus with
  | [v], _ =>
    obtain ⟨nm, M0, qn, bs, bm, hdct, sn, sub, ab, col, dd, k0, k1, k2, k3, k5, hC, hT⟩ := excInit_of X T.ex
    obtain ⟨hp, g, dr, tk, os⟩ := s
    have k : ∀ b o, hp.get? b = some o → ((hp.push (kdv_tup [])).push (HandSPX.excO C hp.objs.size)).get? b = some o := fun b o e => Heap.get?_push_of_some _ (Heap.get?_push_of_some _ e)
    have hget : ((hp.push (kdv_tup [])).push (HandSPX.excO C hp.objs.size)).get? (hp.objs.size + 1) = some (excObj C hp.objs.size none .none) := by heap_get
    refine call_kw F.excBase_Exception hT hC (by rw [sizeLine_eq]; exact (by decide : 0 ≤ 16777216)) (looks_findIn X T.iC) (fun self => bind_fn X self T.tC) ?_
    refine init_kw (s := ⟨(hp.push (kdv_tup [])).push (HandSPX.excO C hp.objs.size), g, dr, tk, os⟩) T N (X.keeps k) (lim.keeps k) hget ?_ (fun h' tk' dx kk hx dn dne hns => ?_)
    · show A.depth + 1 < recursionLimit
      exact room
    · have old : ∀ b o, hp.get? b = some o → h'.get? b = some o := fun b o e => kk b o (Nat.ne_of_lt (Nat.lt_succ_of_lt (Heap.lt_size e))) (k b o e)
      have z : hp.objs.size + 1 + 1 ≤ dx := by
        have q := dn
        rw [Heap.size_push, Heap.size_push] at q
        exact q
      refine ⟨rfl, hq h' tk' (hp.objs.size + 1) dx ⟨old, Nat.le_succ _, ⟨_, _, hx, rfl, rfl, rfl, rfl⟩, Nat.le_trans (Nat.le_trans (Nat.le_succ _) (Nat.le_succ _)) z, dne, ?_⟩⟩
      have em : (fun y : Str => ((["outcome"] : List Str).zip [v]).lookup y) = (fun y : Str => if y = "outcome" then some v else none) := by
        funext y
        simp only [List.zip_cons_cons, List.zip_nil_right, List.lookup_cons, List.lookup_nil, List.reverse_cons, List.reverse_nil, List.nil_append, List.cons_append]
        by_cases h : y = "outcome"
        · rw [if_pos h, show (y == "outcome") = true from beq_iff_eq.mpr h]
        · rw [if_neg h, show (y == "outcome") = false from beq_eq_false_iff_ne.mpr h]
      rw [em]
      exact hns
end
end MqV_outcome


namespace MqV_paper
open PySem PySem.Spec PyProof.Rows L2 Mq PySem.W PySem.Calls
def iA (p1 p2 : Pos) : Arguments := { posonlyargs := [], args := [{ arg := "self", annotation := none, pos := p1 }, { arg := "paper", annotation := none, pos := p2 }], vararg := none, kwonlyargs := [], kw_defaults := [], kwarg := none, defaults := [] }
def iB (q1 q2 q3 q4 : Pos) : List Stmt := [.Assign [.Attribute (.Name "self" q1) "paper" q2] (.Name "paper" q3) q4]
def iS : Scope := { kind := .function, names := [(PySem.Str.ofString "self", .local), (PySem.Str.ofString "paper", .local)], isGenerator := false, isCoroutine := false, more := [] }
structure Fn (K : Frag) (qual : Str) (C fI : Addr) : Prop where
  t1 : takerIn K C "paper" = some none
  fn : ∃ (oc : Value) (od : Option Addr) (doc pm : Value) (an : Option Addr) (cdv ct : Value) (osl : Array (Option Value)) (p1 p2 q1 q2 q3 q4 : Pos),
    K.lookup fI = some ⟨oc, od, .func (fnOf "__init__" qual (iA p1 p2) (iB q1 q2 q3 q4) iS .none .none doc pm an cdv ct), osl⟩ ∧ codeIn K cdv qual = true
section
variable {prog : Program} {w : World} {A : Around} {E : Value → Shared → Prop} {R : Result → Shared → Prop} {s : Shared} {K : Frag} {mg : Str → Option Value} {x qual : Str} {C fI : Addr}
theorem ld_loc {M : Model} {s : Shared} {name : Str} {scope : Scope} {L a : Addr} {cd : Value} {m : Str → Option Value} {y : Str} {pos : Pos} {v : Value}
    {Q : Value → Shared → Prop} {A : Around} {E : Value → Shared → Prop} (hn : s.heap.Ns L m) (hv : m y = some v) (h : Q v s)
    (hk : scope.kind = .function := by rfl) (hl : (envOfC name scope L a cd).kindOf y = some .local := by rfl) (hd : (y == ("__debug__" : Str)) = false := by decide) :
    wpAny M A (eval (.Name y pos) (envOfC name scope L a cd)) Q E s := wpAny_Name (wpAny_loadName_local hk hl hn hv h) hd
theorem init_pos (T : ErrC K mg x C fI) (N : Fn K qual C fI) {e t0 : Addr} {v : Value} (X : K.In s.heap) (lim : s.heap.NoLimit) (he : s.heap.get? e = some (excObj C t0 none .none)) (room : A.depth < recursionLimit)
    (hq : ∀ h' tk dx, (∀ b o, b ≠ e → s.heap.get? b = some o → h'.get? b = some o) → h'.get? e = some (excObj C t0 (some dx) .none) → s.heap.objs.size ≤ dx → dx ≠ e → h'.Ns1 dx (fun y : Str => if y = "paper" then some v else none) → R (.ok (.ret .none)) { s with heap := h', toks := tk }) :
    codeAny (model prog w) A (.call (.ref fI) ⟨[.ref e, v], []⟩) R s := by
  obtain ⟨oc, od, doc, pm, an, cdv, ct, osl, p1, p2, q1, q2, q3, q4, ho, hcd⟩ := N.fn
  refine Att.call_fn (binds := [("self", .ref e), ("paper", v)]) X lim ho hcd room (BindsTo.of_eq (by first | rfl | with_unfolding_all rfl)) (by first | rfl | decide | with_unfolding_all rfl) (fun s1 IC => ?_) rfl rfl rfl
  obtain ⟨h1, tk1, rfl⟩ := IC.toInCall.same
  have k : ∀ b o, s.heap.get? b = some o → h1.get? b = some o := IC.toInCall.keep
  have hn := IC.toInCall.ns
  have X1 : K.In h1 := X.keeps k
  have he1 := k _ _ he
  have z : s.heap.objs.size < h1.objs.size := hn.lt
  have eL : s.heap.objs.size ≠ e := Ne.symm (Nat.ne_of_lt (Heap.lt_size he))
  show wpAny _ _ (execs _ _) _ _ _
  refine wpAny_execs_cons (plainObj_wpAny_Assign_Attribute ?_)
  refine ld_loc (v := v) hn (by first | rfl | with_unfolding_all rfl | kernel_rfl) (ld_loc (v := .ref e) hn (by first | rfl | with_unfolding_all rfl | kernel_rfl) ?_)
  refine set_plain X1 (ox := excObj C t0 none .none) (od := none) ⟨he1, rfl, rfl, trivial⟩ T.sa ?_
  refine osa_first X1 he1 T.ov T.hdC N.t1 (fun h3 tk3 dx k3 dn dne he3 hn3 => ?_)
  show wpAny _ _ (execs _ _) _ _ _
  exact wpAny_execs_nil (hq h3 tk3 dx (fun b o hb e' => k3 b o hb (k b o e')) he3 (Nat.le_of_lt (Nat.lt_of_lt_of_le z dn)) dne hn3)
theorem init_kw (T : ErrC K mg x C fI) (N : Fn K qual C fI) {e t0 : Addr} {v : Value} (X : K.In s.heap) (lim : s.heap.NoLimit) (he : s.heap.get? e = some (excObj C t0 none .none)) (room : A.depth < recursionLimit)
    (hq : ∀ h' tk dx, (∀ b o, b ≠ e → s.heap.get? b = some o → h'.get? b = some o) → h'.get? e = some (excObj C t0 (some dx) .none) → s.heap.objs.size ≤ dx → dx ≠ e → h'.Ns1 dx (fun y : Str => if y = "paper" then some v else none) → R (.ok (.ret .none)) { s with heap := h', toks := tk }) :
    codeAny (model prog w) A (.call (.ref fI) ⟨[.ref e], [("paper", v)]⟩) R s := by
  obtain ⟨oc, od, doc, pm, an, cdv, ct, osl, p1, p2, q1, q2, q3, q4, ho, hcd⟩ := N.fn
  refine Att.call_fn (binds := [("self", .ref e), ("paper", v)]) X lim ho hcd room (BindsTo.of_eq (by first | rfl | with_unfolding_all rfl)) (by first | rfl | decide | with_unfolding_all rfl) (fun s1 IC => ?_) rfl rfl rfl
  obtain ⟨h1, tk1, rfl⟩ := IC.toInCall.same
  have k : ∀ b o, s.heap.get? b = some o → h1.get? b = some o := IC.toInCall.keep
  have hn := IC.toInCall.ns
  have X1 : K.In h1 := X.keeps k
  have he1 := k _ _ he
  have z : s.heap.objs.size < h1.objs.size := hn.lt
  have eL : s.heap.objs.size ≠ e := Ne.symm (Nat.ne_of_lt (Heap.lt_size he))
  show wpAny _ _ (execs _ _) _ _ _
  refine wpAny_execs_cons (plainObj_wpAny_Assign_Attribute ?_)
  refine ld_loc (v := v) hn (by first | rfl | with_unfolding_all rfl | kernel_rfl) (ld_loc (v := .ref e) hn (by first | rfl | with_unfolding_all rfl | kernel_rfl) ?_)
  refine set_plain X1 (ox := excObj C t0 none .none) (od := none) ⟨he1, rfl, rfl, trivial⟩ T.sa ?_
  refine osa_first X1 he1 T.ov T.hdC N.t1 (fun h3 tk3 dx k3 dn dne he3 hn3 => ?_)
  show wpAny _ _ (execs _ _) _ _ _
  exact wpAny_execs_nil (hq h3 tk3 dx (fun b o hb e' => k3 b o hb (k b o e')) he3 (Nat.le_of_lt (Nat.lt_of_lt_of_le z dn)) dne hn3)
theorem makes_pos (T : ErrC K mg x C fI) (N : Fn K qual C fI) : ∀ us : List Value, us.length = (["paper"] : List Str).length → Makes K C us [] fun y => ((["paper"] : List Str).zip us).lookup y := by
  intro us hus prog w A R s X lim room hq
  match us, hus with
  | [v], _ =>
    obtain ⟨nm, M0, qn, bs, bm, hdct, sn, sub, ab, col, dd, k0, k1, k2, k3, k5, hC, hT⟩ := excInit_of X T.ex
    obtain ⟨hp, g, dr, tk, os⟩ := s
    have k : ∀ b o, hp.get? b = some o → ((hp.push (kdv_tup [v])).push (HandSPX.excO C hp.objs.size)).get? b = some o := fun b o e => Heap.get?_push_of_some _ (Heap.get?_push_of_some _ e)
    have hget : ((hp.push (kdv_tup [v])).push (HandSPX.excO C hp.objs.size)).get? (hp.objs.size + 1) = some (excObj C hp.objs.size none .none) := by heap_get
    refine call_kw F.excBase_Exception hT hC (by rw [sizeLine_eq]; exact (by decide : 1 ≤ 16777216)) (looks_findIn X T.iC) (fun self => bind_fn X self T.tC) ?_
    refine init_pos (s := ⟨(hp.push (kdv_tup [v])).push (HandSPX.excO C hp.objs.size), g, dr, tk, os⟩) T N (X.keeps k) (lim.keeps k) hget ?_ (fun h' tk' dx kk hx dn dne hns => ?_)
    · show A.depth + 1 < recursionLimit
      exact room
    · have old : ∀ b o, hp.get? b = some o → h'.get? b = some o := fun b o e => kk b o (Nat.ne_of_lt (Nat.lt_succ_of_lt (Heap.lt_size e))) (k b o e)
      have z : hp.objs.size + 1 + 1 ≤ dx := by
        have q := dn
        rw [Heap.size_push, Heap.size_push] at q
        exact q
      refine ⟨rfl, hq h' tk' (hp.objs.size + 1) dx ⟨old, Nat.le_succ _, ⟨_, _, hx, rfl, rfl, rfl, rfl⟩, Nat.le_trans (Nat.le_trans (Nat.le_succ _) (Nat.le_succ _)) z, dne, ?_⟩⟩
      have em : (fun y : Str => ((["paper"] : List Str).zip [v]).lookup y) = (fun y : Str => if y = "paper" then some v else none) := by
        funext y
        simp only [List.zip_cons_cons, List.zip_nil_right, List.lookup_cons, List.lookup_nil, List.reverse_cons, List.reverse_nil, List.nil_append, List.cons_append]
        by_cases h : y = "paper"
        · rw [if_pos h, show (y == "paper") = true from beq_iff_eq.mpr h]
        · rw [if_neg h, show (y == "paper") = false from beq_eq_false_iff_ne.mpr h]
      rw [em]
      exact hns
theorem makes_kw (T : ErrC K mg x C fI) (N : Fn K qual C fI) : ∀ us : List Value, us.length = (["paper"] : List Str).length → Makes K C [] ((["paper"] : List Str).zip us) fun y => ((["paper"] : List Str).zip us).lookup y := by
  intro us hus prog w A R s X lim room hq
  match us, hus with
  | [v], _ =>
    obtain ⟨nm, M0, qn, bs, bm, hdct, sn, sub, ab, col, dd, k0, k1, k2, k3, k5, hC, hT⟩ := excInit_of X T.ex
    obtain ⟨hp, g, dr, tk, os⟩ := s
    have k : ∀ b o, hp.get? b = some o → ((hp.push (kdv_tup [])).push (HandSPX.excO C hp.objs.size)).get? b = some o := fun b o e => Heap.get?_push_of_some _ (Heap.get?_push_of_some _ e)
    have hget : ((hp.push (kdv_tup [])).push (HandSPX.excO C hp.objs.size)).get? (hp.objs.size + 1) = some (excObj C hp.objs.size none .none) := by heap_get
    refine call_kw F.excBase_Exception hT hC (by rw [sizeLine_eq]; exact (by decide : 0 ≤ 16777216)) (looks_findIn X T.iC) (fun self => bind_fn X self T.tC) ?_
    refine init_kw (s := ⟨(hp.push (kdv_tup [])).push (HandSPX.excO C hp.objs.size), g, dr, tk, os⟩) T N (X.keeps k) (lim.keeps k) hget ?_ (fun h' tk' dx kk hx dn dne hns => ?_)
    · show A.depth + 1 < recursionLimit
      exact room
    · have old : ∀ b o, hp.get? b = some o → h'.get? b = some o := fun b o e => kk b o (Nat.ne_of_lt (Nat.lt_succ_of_lt (Heap.lt_size e))) (k b o e)
      have z : hp.objs.size + 1 + 1 ≤ dx := by
        have q := dn
        rw [Heap.size_push, Heap.size_push] at q
        exact q
      refine ⟨rfl, hq h' tk' (hp.objs.size + 1) dx ⟨old, Nat.le_succ _, ⟨_, _, hx, rfl, rfl, rfl, rfl⟩, Nat.le_trans (Nat.le_trans (Nat.le_succ _) (Nat.le_succ _)) z, dne, ?_⟩⟩
      have em : (fun y : Str => ((["paper"] : List Str).zip [v]).lookup y) = (fun y : Str => if y = "paper" then some v else none) := by
        funext y
        simp only [List.zip_cons_cons, List.zip_nil_right, List.lookup_cons, List.lookup_nil, List.reverse_cons, List.reverse_nil, List.nil_append, List.cons_append]
        by_cases h : y = "paper"
        · rw [if_pos h, show (y == "paper") = true from beq_iff_eq.mpr h]
        · rw [if_neg h, show (y == "paper") = false from beq_eq_false_iff_ne.mpr h]
      rw [em]
      exact hns
end
end MqV_paper


namespace MqV_letter
open PySem PySem.Spec PyProof.Rows L2 Mq PySem.W PySem.Calls
def iA (p1 p2 : Pos) : Arguments := { posonlyargs := [], args := [{ arg := "self", annotation := none, pos := p1 }, { arg := "letter", annotation := none, pos := p2 }], vararg := none, kwonlyargs := [], kw_defaults := [], kwarg := none, defaults := [] }
def iB (q1 q2 q3 q4 : Pos) : List Stmt := [.Assign [.Attribute (.Name "self" q1) "letter" q2] (.Name "letter" q3) q4]
def iS : Scope := { kind := .function, names := [(PySem.Str.ofString "self", .local), (PySem.Str.ofString "letter", .local)], isGenerator := false, isCoroutine := false, more := [] }
structure Fn (K : Frag) (qual : Str) (C fI : Addr) : Prop where
  t1 : takerIn K C "letter" = some none
  fn : ∃ (oc : Value) (od : Option Addr) (doc pm : Value) (an : Option Addr) (cdv ct : Value) (osl : Array (Option Value)) (p1 p2 q1 q2 q3 q4 : Pos),
    K.lookup fI = some ⟨oc, od, .func (fnOf "__init__" qual (iA p1 p2) (iB q1 q2 q3 q4) iS .none .none doc pm an cdv ct), osl⟩ ∧ codeIn K cdv qual = true
section
variable {prog : Program} {w : World} {A : Around} {E : Value → Shared → Prop} {R : Result → Shared → Prop} {s : Shared} {K : Frag} {mg : Str → Option Value} {x qual : Str} {C fI : Addr}
theorem ld_loc {M : Model} {s : Shared} {name : Str} {scope : Scope} {L a : Addr} {cd : Value} {m : Str → Option Value} {y : Str} {pos : Pos} {v : Value}
    {Q : Value → Shared → Prop} {A : Around} {E : Value → Shared → Prop} (hn : s.heap.Ns L m) (hv : m y = some v) (h : Q v s)
    (hk : scope.kind = .function := by rfl) (hl : (envOfC name scope L a cd).kindOf y = some .local := by rfl) (hd : (y == ("__debug__" : Str)) = false := by decide) :
    wpAny M A (eval (.Name y pos) (envOfC name scope L a cd)) Q E s := wpAny_Name (wpAny_loadName_local hk hl hn hv h) hd
theorem init_pos (T : ErrC K mg x C fI) (N : Fn K qual C fI) {e t0 : Addr} {v : Value} (X : K.In s.heap) (lim : s.heap.NoLimit) (he : s.heap.get? e = some (excObj C t0 none .none)) (room : A.depth < recursionLimit)
    (hq : ∀ h' tk dx, (∀ b o, b ≠ e → s.heap.get? b = some o → h'.get? b = some o) → h'.get? e = some (excObj C t0 (some dx) .none) → s.heap.objs.size ≤ dx → dx ≠ e → h'.Ns1 dx (fun y : Str => if y = "letter" then some v else none) → R (.ok (.ret .none)) { s with heap := h', toks := tk }) :
    codeAny (model prog w) A (.call (.ref fI) ⟨[.ref e, v], []⟩) R s := by
  obtain ⟨oc, od, doc, pm, an, cdv, ct, osl, p1, p2, q1, q2, q3, q4, ho, hcd⟩ := N.fn
  refine Att.call_fn (binds := [("self", .ref e), ("letter", v)]) X lim ho hcd room (BindsTo.of_eq (by first | rfl | with_unfolding_all rfl)) (by first | rfl | decide | with_unfolding_all rfl) (fun s1 IC => ?_) rfl rfl rfl
  obtain ⟨h1, tk1, rfl⟩ := IC.toInCall.same
  have k : ∀ b o, s.heap.get? b = some o → h1.get? b = some o := IC.toInCall.keep
  have hn := IC.toInCall.ns
  have X1 : K.In h1 := X.keeps k
  have he1 := k _ _ he
  have z : s.heap.objs.size < h1.objs.size := hn.lt
  have eL : s.heap.objs.size ≠ e := Ne.symm (Nat.ne_of_lt (Heap.lt_size he))
  show wpAny _ _ (execs _ _) _ _ _
  refine wpAny_execs_cons (plainObj_wpAny_Assign_Attribute ?_)
  refine ld_loc (v := v) hn (by first | rfl | with_unfolding_all rfl | kernel_rfl) (ld_loc (v := .ref e) hn (by first | rfl | with_unfolding_all rfl | kernel_rfl) ?_)
  refine set_plain X1 (ox := excObj C t0 none .none) (od := none) ⟨he1, rfl, rfl, trivial⟩ T.sa ?_
  refine osa_first X1 he1 T.ov T.hdC N.t1 (fun h3 tk3 dx k3 dn dne he3 hn3 => ?_)
  show wpAny _ _ (execs _ _) _ _ _
  exact wpAny_execs_nil (hq h3 tk3 dx (fun b o hb e' => k3 b o hb (k b o e')) he3 (Nat.le_of_lt (Nat.lt_of_lt_of_le z dn)) dne hn3)
theorem init_kw (T : ErrC K mg x C fI) (N : Fn K qual C fI) {e t0 : Addr} {v : Value} (X : K.In s.heap) (lim : s.heap.NoLimit) (he : s.heap.get? e = some (excObj C t0 none .none)) (room : A.depth < recursionLimit)
    (hq : ∀ h' tk dx, (∀ b o, b ≠ e → s.heap.get? b = some o → h'.get? b = some o) → h'.get? e = some (excObj C t0 (some dx) .none) → s.heap.objs.size ≤ dx → dx ≠ e → h'.Ns1 dx (fun y : Str => if y = "letter" then some v else none) → R (.ok (.ret .none)) { s with heap := h', toks := tk }) :
    codeAny (model prog w) A (.call (.ref fI) ⟨[.ref e], [("letter", v)]⟩) R s := by
  obtain ⟨oc, od, doc, pm, an, cdv, ct, osl, p1, p2, q1, q2, q3, q4, ho, hcd⟩ := N.fn
  refine Att.call_fn (binds := [("self", .ref e), ("letter", v)]) X lim ho hcd room (BindsTo.of_eq (by first | rfl | with_unfolding_all rfl)) (by first | rfl | decide | with_unfolding_all rfl) (fun s1 IC => ?_) rfl rfl rfl
  obtain ⟨h1, tk1, rfl⟩ := IC.toInCall.same
  have k : ∀ b o, s.heap.get? b = some o → h1.get? b = some o := IC.toInCall.keep
  have hn := IC.toInCall.ns
  have X1 : K.In h1 := X.keeps k
  have he1 := k _ _ he
  have z : s.heap.objs.size < h1.objs.size := hn.lt
  have eL : s.heap.objs.size ≠ e := Ne.symm (Nat.ne_of_lt (Heap.lt_size he))
  show wpAny _ _ (execs _ _) _ _ _
  refine wpAny_execs_cons (plainObj_wpAny_Assign_Attribute ?_)
  refine ld_loc (v := v) hn (by first | rfl | with_unfolding_all rfl | kernel_rfl) (ld_loc (v := .ref e) hn (by first | rfl | with_unfolding_all rfl | kernel_rfl) ?_)
  refine set_plain X1 (ox := excObj C t0 none .none) (od := none) ⟨he1, rfl, rfl, trivial⟩ T.sa ?_
  refine osa_first X1 he1 T.ov T.hdC N.t1 (fun h3 tk3 dx k3 dn dne he3 hn3 => ?_)
  show wpAny _ _ (execs _ _) _ _ _
  exact wpAny_execs_nil (hq h3 tk3 dx (fun b o hb e' => k3 b o hb (k b o e')) he3 (Nat.le_of_lt (Nat.lt_of_lt_of_le z dn)) dne hn3)
theorem makes_pos (T : ErrC K mg x C fI) (N : Fn K qual C fI) : ∀ us : List Value, us.length = (["letter"] : List Str).length → Makes K C us [] fun y => ((["letter"] : List Str).zip us).lookup y := by
  intro us hus prog w A R s X lim room hq
  match us, hus with
  | [v], _ =>
    obtain ⟨nm, M0, qn, bs, bm, hdct, sn, sub, ab, col, dd, k0, k1, k2, k3, k5, hC, hT⟩ := excInit_of X T.ex
    obtain ⟨hp, g, dr, tk, os⟩ := s
    have k : ∀ b o, hp.get? b = some o → ((hp.push (kdv_tup [v])).push (HandSPX.excO C hp.objs.size)).get? b = some o := fun b o e => Heap.get?_push_of_some _ (Heap.get?_push_of_some _ e)
    have hget : ((hp.push (kdv_tup [v])).push (HandSPX.excO C hp.objs.size)).get? (hp.objs.size + 1) = some (excObj C hp.objs.size none .none) := by heap_get
    refine call_kw F.excBase_Exception hT hC (by rw [sizeLine_eq]; exact (by decide : 1 ≤ 16777216)) (looks_findIn X T.iC) (fun self => bind_fn X self T.tC) ?_
    refine init_pos (s := ⟨(hp.push (kdv_tup [v])).push (HandSPX.excO C hp.objs.size), g, dr, tk, os⟩) T N (X.keeps k) (lim.keeps k) hget ?_ (fun h' tk' dx kk hx dn dne hns => ?_)
    · show A.depth + 1 < recursionLimit
      exact room
    · have old : ∀ b o, hp.get? b = some o → h'.get? b = some o := fun b o e => kk b o (Nat.ne_of_lt (Nat.lt_succ_of_lt (Heap.lt_size e))) (k b o e)
      have z : hp.objs.size + 1 + 1 ≤ dx := by
        have q := dn
        rw [Heap.size_push, Heap.size_push] at q
        exact q
      refine ⟨rfl, hq h' tk' (hp.objs.size + 1) dx ⟨old, Nat.le_succ _, ⟨_, _, hx, rfl, rfl, rfl, rfl⟩, Nat.le_trans (Nat.le_trans (Nat.le_succ _) (Nat.le_succ _)) z, dne, ?_⟩⟩
      have em : (fun y : Str => ((["letter"] : List Str).zip [v]).lookup y) = (fun y : Str => if y = "letter" then some v else none) := by
        funext y
        simp only [List.zip_cons_cons, List.zip_nil_right, List.lookup_cons, List.lookup_nil, List.reverse_cons, List.reverse_nil, List.nil_append, List.cons_append]
        by_cases h : y = "letter"
        · rw [if_pos h, show (y == "letter") = true from beq_iff_eq.mpr h]
        · rw [if_neg h, show (y == "letter") = false from beq_eq_false_iff_ne.mpr h]
      rw [em]
      exact hns
theorem makes_kw (T : ErrC K mg x C fI) (N : Fn K qual C fI) : ∀ us : List Value, us.length = (["letter"] : List Str).length → Makes K C [] ((["letter"] : List Str).zip us) fun y => ((["letter"] : List Str).zip us).lookup y := by
  intro us hus prog w A R s X lim room hq
  match us, hus with
  | [v], _ =>
    obtain ⟨nm, M0, qn, bs, bm, hdct, sn, sub, ab, col, dd, k0, k1, k2, k3, k5, hC, hT⟩ := excInit_of X T.ex
    obtain ⟨hp, g, dr, tk, os⟩ := s
    have k : ∀ b o, hp.get? b = some o → ((hp.push (kdv_tup [])).push (HandSPX.excO C hp.objs.size)).get? b = some o := fun b o e => Heap.get?_push_of_some _ (Heap.get?_push_of_some _ e)
    have hget : ((hp.push (kdv_tup [])).push (HandSPX.excO C hp.objs.size)).get? (hp.objs.size + 1) = some (excObj C hp.objs.size none .none) := by heap_get
    refine call_kw F.excBase_Exception hT hC (by rw [sizeLine_eq]; exact (by decide : 0 ≤ 16777216)) (looks_findIn X T.iC) (fun self => bind_fn X self T.tC) ?_
    refine init_kw (s := ⟨(hp.push (kdv_tup [])).push (HandSPX.excO C hp.objs.size), g, dr, tk, os⟩) T N (X.keeps k) (lim.keeps k) hget ?_ (fun h' tk' dx kk hx dn dne hns => ?_)
    · show A.depth + 1 < recursionLimit
      exact room
    · have old : ∀ b o, hp.get? b = some o → h'.get? b = some o := fun b o e => kk b o (Nat.ne_of_lt (Nat.lt_succ_of_lt (Heap.lt_size e))) (k b o e)
      have z : hp.objs.size + 1 + 1 ≤ dx := by
        have q := dn
        rw [Heap.size_push, Heap.size_push] at q
        exact q
      refine ⟨rfl, hq h' tk' (hp.objs.size + 1) dx ⟨old, Nat.le_succ _, ⟨_, _, hx, rfl, rfl, rfl, rfl⟩, Nat.le_trans (Nat.le_trans (Nat.le_succ _) (Nat.le_succ _)) z, dne, ?_⟩⟩
      have em : (fun y : Str => ((["letter"] : List Str).zip [v]).lookup y) = (fun y : Str => if y = "letter" then some v else none) := by
        funext y
        simp only [List.zip_cons_cons, List.zip_nil_right, List.lookup_cons, List.lookup_nil, List.reverse_cons, List.reverse_nil, List.nil_append, List.cons_append]
        by_cases h : y = "letter"
        · rw [if_pos h, show (y == "letter") = true from beq_iff_eq.mpr h]
        · rw [if_neg h, show (y == "letter") = false from beq_eq_false_iff_ne.mpr h]
      rw [em]
      exact hns
end
end MqV_letter


namespace MqV_number
open PySem PySem.Spec PyProof.Rows L2 Mq PySem.W PySem.Calls
def iA (p1 p2 : Pos) : Arguments := { posonlyargs := [], args := [{ arg := "self", annotation := none, pos := p1 }, { arg := "number", annotation := none, pos := p2 }], vararg := none, kwonlyargs := [], kw_defaults := [], kwarg := none, defaults := [] }
def iB (q1 q2 q3 q4 : Pos) : List Stmt := [.Assign [.Attribute (.Name "self" q1) "number" q2] (.Name "number" q3) q4]
def iS : Scope := { kind := .function, names := [(PySem.Str.ofString "self", .local), (PySem.Str.ofString "number", .local)], isGenerator := false, isCoroutine := false, more := [] }
structure Fn (K : Frag) (qual : Str) (C fI : Addr) : Prop where
  t1 : takerIn K C "number" = some none
  fn : ∃ (oc : Value) (od : Option Addr) (doc pm : Value) (an : Option Addr) (cdv ct : Value) (osl : Array (Option Value)) (p1 p2 q1 q2 q3 q4 : Pos),
    K.lookup fI = some ⟨oc, od, .func (fnOf "__init__" qual (iA p1 p2) (iB q1 q2 q3 q4) iS .none .none doc pm an cdv ct), osl⟩ ∧ codeIn K cdv qual = true
section
variable {prog : Program} {w : World} {A : Around} {E : Value → Shared → Prop} {R : Result → Shared → Prop} {s : Shared} {K : Frag} {mg : Str → Option Value} {x qual : Str} {C fI : Addr}
theorem ld_loc {M : Model} {s : Shared} {name : Str} {scope : Scope} {L a : Addr} {cd : Value} {m : Str → Option Value} {y : Str} {pos : Pos} {v : Value}
    {Q : Value → Shared → Prop} {A : Around} {E : Value → Shared → Prop} (hn : s.heap.Ns L m) (hv : m y = some v) (h : Q v s)
    (hk : scope.kind = .function := by rfl) (hl : (envOfC name scope L a cd).kindOf y = some .local := by rfl) (hd : (y == ("__debug__" : Str)) = false := by decide) :
    wpAny M A (eval (.Name y pos) (envOfC name scope L a cd)) Q E s := wpAny_Name (wpAny_loadName_local hk hl hn hv h) hd
theorem init_pos (T : ErrC K mg x C fI) (N : Fn K qual C fI) {e t0 : Addr} {v : Value} (X : K.In s.heap) (lim : s.heap.NoLimit) (he : s.heap.get? e = some (excObj C t0 none .none)) (room : A.depth < recursionLimit)
    (hq : ∀ h' tk dx, (∀ b o, b ≠ e → s.heap.get? b = some o → h'.get? b = some o) → h'.get? e = some (excObj C t0 (some dx) .none) → s.heap.objs.size ≤ dx → dx ≠ e → h'.Ns1 dx (fun y : Str => if y = "number" then some v else none) → R (.ok (.ret .none)) { s with heap := h', toks := tk }) :
    codeAny (model prog w) A (.call (.ref fI) ⟨[.ref e, v], []⟩) R s := by
  obtain ⟨oc, od, doc, pm, an, cdv, ct, osl, p1, p2, q1, q2, q3, q4, ho, hcd⟩ := N.fn
  refine Att.call_fn (binds := [("self", .ref e), ("number", v)]) X lim ho hcd room (BindsTo.of_eq (by first | rfl | with_unfolding_all rfl)) (by first | rfl | decide | with_unfolding_all rfl) (fun s1 IC => ?_) rfl rfl rfl
  obtain ⟨h1, tk1, rfl⟩ := IC.toInCall.same
  have k : ∀ b o, s.heap.get? b = some o → h1.get? b = some o := IC.toInCall.keep
  have hn := IC.toInCall.ns
  have X1 : K.In h1 := X.keeps k
  have he1 := k _ _ he
  have z : s.heap.objs.size < h1.objs.size := hn.lt
  have eL : s.heap.objs.size ≠ e := Ne.symm (Nat.ne_of_lt (Heap.lt_size he))
  show wpAny _ _ (execs _ _) _ _ _
  refine wpAny_execs_cons (plainObj_wpAny_Assign_Attribute ?_)
  refine ld_loc (v := v) hn (by first | rfl | with_unfolding_all rfl | kernel_rfl) (ld_loc (v := .ref e) hn (by first | rfl | with_unfolding_all rfl | kernel_rfl) ?_)
  refine set_plain X1 (ox := excObj C t0 none .none) (od := none) ⟨he1, rfl, rfl, trivial⟩ T.sa ?_
  refine osa_first X1 he1 T.ov T.hdC N.t1 (fun h3 tk3 dx k3 dn dne he3 hn3 => ?_)
  show wpAny _ _ (execs _ _) _ _ _
  exact wpAny_execs_nil (hq h3 tk3 dx (fun b o hb e' => k3 b o hb (k b o e')) he3 (Nat.le_of_lt (Nat.lt_of_lt_of_le z dn)) dne hn3)
theorem init_kw (T : ErrC K mg x C fI) (N : Fn K qual C fI) {e t0 : Addr} {v : Value} (X : K.In s.heap) (lim : s.heap.NoLimit) (he : s.heap.get? e = some (excObj C t0 none .none)) (room : A.depth < recursionLimit)
    (hq : ∀ h' tk dx, (∀ b o, b ≠ e → s.heap.get? b = some o → h'.get? b = some o) → h'.get? e = some (excObj C t0 (some dx) .none) → s.heap.objs.size ≤ dx → dx ≠ e → h'.Ns1 dx (fun y : Str => if y = "number" then some v else none) → R (.ok (.ret .none)) { s with heap := h', toks := tk }) :
    codeAny (model prog w) A (.call (.ref fI) ⟨[.ref e], [("number", v)]⟩) R s := by
  obtain ⟨oc, od, doc, pm, an, cdv, ct, osl, p1, p2, q1, q2, q3, q4, ho, hcd⟩ := N.fn
  refine Att.call_fn (binds := [("self", .ref e), ("number", v)]) X lim ho hcd room (BindsTo.of_eq (by first | rfl | with_unfolding_all rfl)) (by first | rfl | decide | with_unfolding_all rfl) (fun s1 IC => ?_) rfl rfl rfl
  obtain ⟨h1, tk1, rfl⟩ := IC.toInCall.same
  have k : ∀ b o, s.heap.get? b = some o → h1.get? b = some o := IC.toInCall.keep
  have hn := IC.toInCall.ns
  have X1 : K.In h1 := X.keeps k
  have he1 := k _ _ he
  have z : s.heap.objs.size < h1.objs.size := hn.lt
  have eL : s.heap.objs.size ≠ e := Ne.symm (Nat.ne_of_lt (Heap.lt_size he))
  show wpAny _ _ (execs _ _) _ _ _
  refine wpAny_execs_cons (plainObj_wpAny_Assign_Attribute ?_)
  refine ld_loc (v := v) hn (by first | rfl | with_unfolding_all rfl | kernel_rfl) (ld_loc (v := .ref e) hn (by first | rfl | with_unfolding_all rfl | kernel_rfl) ?_)
  refine set_plain X1 (ox := excObj C t0 none .none) (od := none) ⟨he1, rfl, rfl, trivial⟩ T.sa ?_
  refine osa_first X1 he1 T.ov T.hdC N.t1 (fun h3 tk3 dx k3 dn dne he3 hn3 => ?_)
  show wpAny _ _ (execs _ _) _ _ _
  exact wpAny_execs_nil (hq h3 tk3 dx (fun b o hb e' => k3 b o hb (k b o e')) he3 (Nat.le_of_lt (Nat.lt_of_lt_of_le z dn)) dne hn3)
theorem makes_pos (T : ErrC K mg x C fI) (N : Fn K qual C fI) : ∀ us : List Value, us.length = (["number"] : List Str).length → Makes K C us [] fun y => ((["number"] : List Str).zip us).lookup y := by
  intro us hus prog w A R s X lim room hq
  match us, hus with
  | [v], _ =>
    obtain ⟨nm, M0, qn, bs, bm, hdct, sn, sub, ab, col, dd, k0, k1, k2, k3, k5, hC, hT⟩ := excInit_of X T.ex
    obtain ⟨hp, g, dr, tk, os⟩ := s
    have k : ∀ b o, hp.get? b = some o → ((hp.push (kdv_tup [v])).push (HandSPX.excO C hp.objs.size)).get? b = some o := fun b o e => Heap.get?_push_of_some _ (Heap.get?_push_of_some _ e)
    have hget : ((hp.push (kdv_tup [v])).push (HandSPX.excO C hp.objs.size)).get? (hp.objs.size + 1) = some (excObj C hp.objs.size none .none) := by heap_get
    refine call_kw F.excBase_Exception hT hC (by rw [sizeLine_eq]; exact (by decide : 1 ≤ 16777216)) (looks_findIn X T.iC) (fun self => bind_fn X self T.tC) ?_
    refine init_pos (s := ⟨(hp.push (kdv_tup [v])).push (HandSPX.excO C hp.objs.size), g, dr, tk, os⟩) T N (X.keeps k) (lim.keeps k) hget ?_ (fun h' tk' dx kk hx dn dne hns => ?_)
    · show A.depth + 1 < recursionLimit
      exact room
    · have old : ∀ b o, hp.get? b = some o → h'.get? b = some o := fun b o e => kk b o (Nat.ne_of_lt (Nat.lt_succ_of_lt (Heap.lt_size e))) (k b o e)
      have z : hp.objs.size + 1 + 1 ≤ dx := by
        have q := dn
        rw [Heap.size_push, Heap.size_push] at q
        exact q
      refine ⟨rfl, hq h' tk' (hp.objs.size + 1) dx ⟨old, Nat.le_succ _, ⟨_, _, hx, rfl, rfl, rfl, rfl⟩, Nat.le_trans (Nat.le_trans (Nat.le_succ _) (Nat.le_succ _)) z, dne, ?_⟩⟩
      have em : (fun y : Str => ((["number"] : List Str).zip [v]).lookup y) = (fun y : Str => if y = "number" then some v else none) := by
        funext y
        simp only [List.zip_cons_cons, List.zip_nil_right, List.lookup_cons, List.lookup_nil, List.reverse_cons, List.reverse_nil, List.nil_append, List.cons_append]
        by_cases h : y = "number"
        · rw [if_pos h, show (y == "number") = true from beq_iff_eq.mpr h]
        · rw [if_neg h, show (y == "number") = false from beq_eq_false_iff_ne.mpr h]
      rw [em]
      exact hns
theorem makes_kw (T : ErrC K mg x C fI) (N : Fn K qual C fI) : ∀ us : List Value, us.length = (["number"] : List Str).length → Makes K C [] ((["number"] : List Str).zip us) fun y => ((["number"] : List Str).zip us).lookup y := by
  intro us hus prog w A R s X lim room hq
  match us, hus with
  | [v], _ =>
    obtain ⟨nm, M0, qn, bs, bm, hdct, sn, sub, ab, col, dd, k0, k1, k2, k3, k5, hC, hT⟩ := excInit_of X T.ex
    obtain ⟨hp, g, dr, tk, os⟩ := s
    have k : ∀ b o, hp.get? b = some o → ((hp.push (kdv_tup [])).push (HandSPX.excO C hp.objs.size)).get? b = some o := fun b o e => Heap.get?_push_of_some _ (Heap.get?_push_of_some _ e)
    have hget : ((hp.push (kdv_tup [])).push (HandSPX.excO C hp.objs.size)).get? (hp.objs.size + 1) = some (excObj C hp.objs.size none .none) := by heap_get
    refine call_kw F.excBase_Exception hT hC (by rw [sizeLine_eq]; exact (by decide : 0 ≤ 16777216)) (looks_findIn X T.iC) (fun self => bind_fn X self T.tC) ?_
    refine init_kw (s := ⟨(hp.push (kdv_tup [])).push (HandSPX.excO C hp.objs.size), g, dr, tk, os⟩) T N (X.keeps k) (lim.keeps k) hget ?_ (fun h' tk' dx kk hx dn dne hns => ?_)
    · show A.depth + 1 < recursionLimit
      exact room
    · have old : ∀ b o, hp.get? b = some o → h'.get? b = some o := fun b o e => kk b o (Nat.ne_of_lt (Nat.lt_succ_of_lt (Heap.lt_size e))) (k b o e)
      have z : hp.objs.size + 1 + 1 ≤ dx := by
        have q := dn
        rw [Heap.size_push, Heap.size_push] at q
        exact q
      refine ⟨rfl, hq h' tk' (hp.objs.size + 1) dx ⟨old, Nat.le_succ _, ⟨_, _, hx, rfl, rfl, rfl, rfl⟩, Nat.le_trans (Nat.le_trans (Nat.le_succ _) (Nat.le_succ _)) z, dne, ?_⟩⟩
      have em : (fun y : Str => ((["number"] : List Str).zip [v]).lookup y) = (fun y : Str => if y = "number" then some v else none) := by
        funext y
        simp only [List.zip_cons_cons, List.zip_nil_right, List.lookup_cons, List.lookup_nil, List.reverse_cons, List.reverse_nil, List.nil_append, List.cons_append]
        by_cases h : y = "number"
        · rw [if_pos h, show (y == "number") = true from beq_iff_eq.mpr h]
        · rw [if_neg h, show (y == "number") = false from beq_eq_false_iff_ne.mpr h]
      rw [em]
      exact hns
end
end MqV_number


namespace MqV_name
open PySem PySem.Spec PyProof.Rows L2 Mq PySem.W PySem.Calls
def iA (p1 p2 : Pos) : Arguments := { posonlyargs := [], args := [{ arg := "self", annotation := none, pos := p1 }, { arg := "name", annotation := none, pos := p2 }], vararg := none, kwonlyargs := [], kw_defaults := [], kwarg := none, defaults := [] }
def iB (q1 q2 q3 q4 : Pos) : List Stmt := [.Assign [.Attribute (.Name "self" q1) "name" q2] (.Name "name" q3) q4]
def iS : Scope := { kind := .function, names := [(PySem.Str.ofString "self", .local), (PySem.Str.ofString "name", .local)], isGenerator := false, isCoroutine := false, more := [] }
structure Fn (K : Frag) (qual : Str) (C fI : Addr) : Prop where
  t1 : takerIn K C "name" = some none
  fn : ∃ (oc : Value) (od : Option Addr) (doc pm : Value) (an : Option Addr) (cdv ct : Value) (osl : Array (Option Value)) (p1 p2 q1 q2 q3 q4 : Pos),
    K.lookup fI = some ⟨oc, od, .func (fnOf "__init__" qual (iA p1 p2) (iB q1 q2 q3 q4) iS .none .none doc pm an cdv ct), osl⟩ ∧ codeIn K cdv qual = true
section
variable {prog : Program} {w : World} {A : Around} {E : Value → Shared → Prop} {R : Result → Shared → Prop} {s : Shared} {K : Frag} {mg : Str → Option Value} {x qual : Str} {C fI : Addr}
theorem ld_loc {M : Model} {s : Shared} {name : Str} {scope : Scope} {L a : Addr} {cd : Value} {m : Str → Option Value} {y : Str} {pos : Pos} {v : Value}
    {Q : Value → Shared → Prop} {A : Around} {E : Value → Shared → Prop} (hn : s.heap.Ns L m) (hv : m y = some v) (h : Q v s)
    (hk : scope.kind = .function := by rfl) (hl : (envOfC name scope L a cd).kindOf y = some .local := by rfl) (hd : (y == ("__debug__" : Str)) = false := by decide) :
    wpAny M A (eval (.Name y pos) (envOfC name scope L a cd)) Q E s := wpAny_Name (wpAny_loadName_local hk hl hn hv h) hd
theorem init_pos (T : ErrC K mg x C fI) (N : Fn K qual C fI) {e t0 : Addr} {v : Value} (X : K.In s.heap) (lim : s.heap.NoLimit) (he : s.heap.get? e = some (excObj C t0 none .none)) (room : A.depth < recursionLimit)
    (hq : ∀ h' tk dx, (∀ b o, b ≠ e → s.heap.get? b = some o → h'.get? b = some o) → h'.get? e = some (excObj C t0 (some dx) .none) → s.heap.objs.size ≤ dx → dx ≠ e → h'.Ns1 dx (fun y : Str => if y = "name" then some v else none) → R (.ok (.ret .none)) { s with heap := h', toks := tk }) :
    codeAny (model prog w) A (.call (.ref fI) ⟨[.ref e, v], []⟩) R s := by
  obtain ⟨oc, od, doc, pm, an, cdv, ct, osl, p1, p2, q1, q2, q3, q4, ho, hcd⟩ := N.fn
  refine Att.call_fn (binds := [("self", .ref e), ("name", v)]) X lim ho hcd room (BindsTo.of_eq (by first | rfl | with_unfolding_all rfl)) (by first | rfl | decide | with_unfolding_all rfl) (fun s1 IC => ?_) rfl rfl rfl
  obtain ⟨h1, tk1, rfl⟩ := IC.toInCall.same
  have k : ∀ b o, s.heap.get? b = some o → h1.get? b = some o := IC.toInCall.keep
  have hn := IC.toInCall.ns
  have X1 : K.In h1 := X.keeps k
  have he1 := k _ _ he
  have z : s.heap.objs.size < h1.objs.size := hn.lt
  have eL : s.heap.objs.size ≠ e := Ne.symm (Nat.ne_of_lt (Heap.lt_size he))
  show wpAny _ _ (execs _ _) _ _ _
  refine wpAny_execs_cons (plainObj_wpAny_Assign_Attribute ?_)
  refine ld_loc (v := v) hn (by first | rfl | with_unfolding_all rfl | kernel_rfl) (ld_loc (v := .ref e) hn (by first | rfl | with_unfolding_all rfl | kernel_rfl) ?_)
  refine set_plain X1 (ox := excObj C t0 none .none) (od := none) ⟨he1, rfl, rfl, trivial⟩ T.sa ?_
  refine osa_first X1 he1 T.ov T.hdC N.t1 (fun h3 tk3 dx k3 dn dne he3 hn3 => ?_)
  show wpAny _ _ (execs _ _) _ _ _
  exact wpAny_execs_nil (hq h3 tk3 dx (fun b o hb e' => k3 b o hb (k b o e')) he3 (Nat.le_of_lt (Nat.lt_of_lt_of_le z dn)) dne hn3)
theorem init_kw (T : ErrC K mg x C fI) (N : Fn K qual C fI) {e t0 : Addr} {v : Value} (X : K.In s.heap) (lim : s.heap.NoLimit) (he : s.heap.get? e = some (excObj C t0 none .none)) (room : A.depth < recursionLimit)
    (hq : ∀ h' tk dx, (∀ b o, b ≠ e → s.heap.get? b = some o → h'.get? b = some o) → h'.get? e = some (excObj C t0 (some dx) .none) → s.heap.objs.size ≤ dx → dx ≠ e → h'.Ns1 dx (fun y : Str => if y = "name" then some v else none) → R (.ok (.ret .none)) { s with heap := h', toks := tk }) :
    codeAny (model prog w) A (.call (.ref fI) ⟨[.ref e], [("name", v)]⟩) R s := by
  obtain ⟨oc, od, doc, pm, an, cdv, ct, osl, p1, p2, q1, q2, q3, q4, ho, hcd⟩ := N.fn
  refine Att.call_fn (binds := [("self", .ref e), ("name", v)]) X lim ho hcd room (BindsTo.of_eq (by first | rfl | with_unfolding_all rfl)) (by first | rfl | decide | with_unfolding_all rfl) (fun s1 IC => ?_) rfl rfl rfl
  obtain ⟨h1, tk1, rfl⟩ := IC.toInCall.same
  have k : ∀ b o, s.heap.get? b = some o → h1.get? b = some o := IC.toInCall.keep
  have hn := IC.toInCall.ns
  have X1 : K.In h1 := X.keeps k
  have he1 := k _ _ he
  have z : s.heap.objs.size < h1.objs.size := hn.lt
  have eL : s.heap.objs.size ≠ e := Ne.symm (Nat.ne_of_lt (Heap.lt_size he))
  show wpAny _ _ (execs _ _) _ _ _
  refine wpAny_execs_cons (plainObj_wpAny_Assign_Attribute ?_)
  refine ld_loc (v := v) hn (by first | rfl | with_unfolding_all rfl | kernel_rfl) (ld_loc (v := .ref e) hn (by first | rfl | with_unfolding_all rfl | kernel_rfl) ?_)
  refine set_plain X1 (ox := excObj C t0 none .none) (od := none) ⟨he1, rfl, rfl, trivial⟩ T.sa ?_
  refine osa_first X1 he1 T.ov T.hdC N.t1 (fun h3 tk3 dx k3 dn dne he3 hn3 => ?_)
  show wpAny _ _ (execs _ _) _ _ _
  exact wpAny_execs_nil (hq h3 tk3 dx (fun b o hb e' => k3 b o hb (k b o e')) he3 (Nat.le_of_lt (Nat.lt_of_lt_of_le z dn)) dne hn3)
theorem makes_pos (T : ErrC K mg x C fI) (N : Fn K qual C fI) : ∀ us : List Value, us.length = (["name"] : List Str).length → Makes K C us [] fun y => ((["name"] : List Str).zip us).lookup y := by
  intro us hus prog w A R s X lim room hq
  match us, hus with
  | [v], _ =>
    obtain ⟨nm, M0, qn, bs, bm, hdct, sn, sub, ab, col, dd, k0, k1, k2, k3, k5, hC, hT⟩ := excInit_of X T.ex
    obtain ⟨hp, g, dr, tk, os⟩ := s
    have k : ∀ b o, hp.get? b = some o → ((hp.push (kdv_tup [v])).push (HandSPX.excO C hp.objs.size)).get? b = some o := fun b o e => Heap.get?_push_of_some _ (Heap.get?_push_of_some _ e)
    have hget : ((hp.push (kdv_tup [v])).push (HandSPX.excO C hp.objs.size)).get? (hp.objs.size + 1) = some (excObj C hp.objs.size none .none) := by heap_get
    refine call_kw F.excBase_Exception hT hC (by rw [sizeLine_eq]; exact (by decide : 1 ≤ 16777216)) (looks_findIn X T.iC) (fun self => bind_fn X self T.tC) ?_
    refine init_pos (s := ⟨(hp.push (kdv_tup [v])).push (HandSPX.excO C hp.objs.size), g, dr, tk, os⟩) T N (X.keeps k) (lim.keeps k) hget ?_ (fun h' tk' dx kk hx dn dne hns => ?_)
    · show A.depth + 1 < recursionLimit
      exact room
    · have old : ∀ b o, hp.get? b = some o → h'.get? b = some o := fun b o e => kk b o (Nat.ne_of_lt (Nat.lt_succ_of_lt (Heap.lt_size e))) (k b o e)
      have z : hp.objs.size + 1 + 1 ≤ dx := by
        have q := dn
        rw [Heap.size_push, Heap.size_push] at q
        exact q
      refine ⟨rfl, hq h' tk' (hp.objs.size + 1) dx ⟨old, Nat.le_succ _, ⟨_, _, hx, rfl, rfl, rfl, rfl⟩, Nat.le_trans (Nat.le_trans (Nat.le_succ _) (Nat.le_succ _)) z, dne, ?_⟩⟩
      have em : (fun y : Str => ((["name"] : List Str).zip [v]).lookup y) = (fun y : Str => if y = "name" then some v else none) := by
        funext y
        simp only [List.zip_cons_cons, List.zip_nil_right, List.lookup_cons, List.lookup_nil, List.reverse_cons, List.reverse_nil, List.nil_append, List.cons_append]
        by_cases h : y = "name"
        · rw [if_pos h, show (y == "name") = true from beq_iff_eq.mpr h]
        · rw [if_neg h, show (y == "name") = false from beq_eq_false_iff_ne.mpr h]
      rw [em]
      exact hns
theorem makes_kw (T : ErrC K mg x C fI) (N : Fn K qual C fI) : ∀ us : List Value, us.length = (["name"] : List Str).length → Makes K C [] ((["name"] : List Str).zip us) fun y => ((["name"] : List Str).zip us).lookup y := by
  intro us hus prog w A R s X lim room hq
  match us, hus with
  | [v], _ =>
    obtain ⟨nm, M0, qn, bs, bm, hdct, sn, sub, ab, col, dd, k0, k1, k2, k3, k5, hC, hT⟩ := excInit_of X T.ex
    obtain ⟨hp, g, dr, tk, os⟩ := s
    have k : ∀ b o, hp.get? b = some o → ((hp.push (kdv_tup [])).push (HandSPX.excO C hp.objs.size)).get? b = some o := fun b o e => Heap.get?_push_of_some _ (Heap.get?_push_of_some _ e)
    have hget : ((hp.push (kdv_tup [])).push (HandSPX.excO C hp.objs.size)).get? (hp.objs.size + 1) = some (excObj C hp.objs.size none .none) := by heap_get
    refine call_kw F.excBase_Exception hT hC (by rw [sizeLine_eq]; exact (by decide : 0 ≤ 16777216)) (looks_findIn X T.iC) (fun self => bind_fn X self T.tC) ?_
    refine init_kw (s := ⟨(hp.push (kdv_tup [])).push (HandSPX.excO C hp.objs.size), g, dr, tk, os⟩) T N (X.keeps k) (lim.keeps k) hget ?_ (fun h' tk' dx kk hx dn dne hns => ?_)
    · show A.depth + 1 < recursionLimit
      exact room
    · have old : ∀ b o, hp.get? b = some o → h'.get? b = some o := fun b o e => kk b o (Nat.ne_of_lt (Nat.lt_succ_of_lt (Heap.lt_size e))) (k b o e)
      have z : hp.objs.size + 1 + 1 ≤ dx := by
        have q := dn
        rw [Heap.size_push, Heap.size_push] at q
        exact q
      refine ⟨rfl, hq h' tk' (hp.objs.size + 1) dx ⟨old, Nat.le_succ _, ⟨_, _, hx, rfl, rfl, rfl, rfl⟩, Nat.le_trans (Nat.le_trans (Nat.le_succ _) (Nat.le_succ _)) z, dne, ?_⟩⟩
      have em : (fun y : Str => ((["name"] : List Str).zip [v]).lookup y) = (fun y : Str => if y = "name" then some v else none) := by
        funext y
        simp only [List.zip_cons_cons, List.zip_nil_right, List.lookup_cons, List.lookup_nil, List.reverse_cons, List.reverse_nil, List.nil_append, List.cons_append]
        by_cases h : y = "name"
        · rw [if_pos h, show (y == "name") = true from beq_iff_eq.mpr h]
        · rw [if_neg h, show (y == "name") = false from beq_eq_false_iff_ne.mpr h]
      rw [em]
      exact hns
end
end MqV_name


namespace MqV_web_further
open PySem PySem.Spec PyProof.Rows L2 Mq PySem.W PySem.Calls
def iA (p1 p2 p3 : Pos) : Arguments := { posonlyargs := [], args := [{ arg := "self", annotation := none, pos := p1 }, { arg := "web", annotation := none, pos := p2 }, { arg := "further", annotation := none, pos := p3 }], vararg := none, kwonlyargs := [], kw_defaults := [], kwarg := none, defaults := [] }
def iB (q1 q2 q3 q4 q5 q6 q7 q8 : Pos) : List Stmt := [.Assign [.Attribute (.Name "self" q1) "web" q2] (.Name "web" q3) q4, .Assign [.Attribute (.Name "self" q5) "further" q6] (.Name "further" q7) q8]
def iS : Scope := { kind := .function, names := [(PySem.Str.ofString "self", .local), (PySem.Str.ofString "web", .local), (PySem.Str.ofString "further", .local)], isGenerator := false, isCoroutine := false, more := [] }
structure Fn (K : Frag) (qual : Str) (C fI : Addr) : Prop where
  t1 : takerIn K C "web" = some none
  t2 : takerIn K C "further" = some none
  fn : ∃ (oc : Value) (od : Option Addr) (doc pm : Value) (an : Option Addr) (cdv ct : Value) (osl : Array (Option Value)) (p1 p2 p3 q1 q2 q3 q4 q5 q6 q7 q8 : Pos),
    K.lookup fI = some ⟨oc, od, .func (fnOf "__init__" qual (iA p1 p2 p3) (iB q1 q2 q3 q4 q5 q6 q7 q8) iS .none .none doc pm an cdv ct), osl⟩ ∧ codeIn K cdv qual = true
section
variable {prog : Program} {w : World} {A : Around} {E : Value → Shared → Prop} {R : Result → Shared → Prop} {s : Shared} {K : Frag} {mg : Str → Option Value} {x qual : Str} {C fI : Addr}
theorem ld_loc {M : Model} {s : Shared} {name : Str} {scope : Scope} {L a : Addr} {cd : Value} {m : Str → Option Value} {y : Str} {pos : Pos} {v : Value}
    {Q : Value → Shared → Prop} {A : Around} {E : Value → Shared → Prop} (hn : s.heap.Ns L m) (hv : m y = some v) (h : Q v s)
    (hk : scope.kind = .function := by rfl) (hl : (envOfC name scope L a cd).kindOf y = some .local := by rfl) (hd : (y == ("__debug__" : Str)) = false := by decide) :
    wpAny M A (eval (.Name y pos) (envOfC name scope L a cd)) Q E s := wpAny_Name (wpAny_loadName_local hk hl hn hv h) hd
theorem init_pos (T : ErrC K mg x C fI) (N : Fn K qual C fI) {e t0 : Addr} {v u : Value} (X : K.In s.heap) (lim : s.heap.NoLimit) (he : s.heap.get? e = some (excObj C t0 none .none)) (room : A.depth < recursionLimit) (kn : ∀ a o, K.lookup a = some o → a ≠ e)
    (hq : ∀ h' tk dx, (∀ b o, b ≠ e → s.heap.get? b = some o → h'.get? b = some o) → h'.get? e = some (excObj C t0 (some dx) .none) → s.heap.objs.size ≤ dx → dx ≠ e → h'.Ns1 dx (fun y : Str => if y = "further" then some u else if y = "web" then some v else none) → R (.ok (.ret .none)) { s with heap := h', toks := tk }) :
    codeAny (model prog w) A (.call (.ref fI) ⟨[.ref e, v, u], []⟩) R s := by
  obtain ⟨oc, od, doc, pm, an, cdv, ct, osl, p1, p2, p3, q1, q2, q3, q4, q5, q6, q7, q8, ho, hcd⟩ := N.fn
  refine Att.call_fn (binds := [("self", .ref e), ("web", v), ("further", u)]) X lim ho hcd room (BindsTo.of_eq (by first | rfl | with_unfolding_all rfl)) (by first | rfl | decide | with_unfolding_all rfl) (fun s1 IC => ?_) rfl rfl rfl
  obtain ⟨h1, tk1, rfl⟩ := IC.toInCall.same
  have k : ∀ b o, s.heap.get? b = some o → h1.get? b = some o := IC.toInCall.keep
  have hn := IC.toInCall.ns
  have X1 : K.In h1 := X.keeps k
  have he1 := k _ _ he
  have z : s.heap.objs.size < h1.objs.size := hn.lt
  have eL : s.heap.objs.size ≠ e := Ne.symm (Nat.ne_of_lt (Heap.lt_size he))
  show wpAny _ _ (execs _ _) _ _ _
  refine wpAny_execs_cons (plainObj_wpAny_Assign_Attribute ?_)
  refine ld_loc (v := v) hn (by first | rfl | with_unfolding_all rfl | kernel_rfl) (ld_loc (v := .ref e) hn (by first | rfl | with_unfolding_all rfl | kernel_rfl) ?_)
  refine set_plain X1 (ox := excObj C t0 none .none) (od := none) ⟨he1, rfl, rfl, trivial⟩ T.sa ?_
  refine osa_first X1 he1 T.ov T.hdC N.t1 (fun h3 tk3 dx k3 dn dne he3 hn3 => ?_)
  show wpAny _ _ (execs _ _) _ _ _
  have X3 : K.In h3 := fun a o q => k3 a o (kn a o q) (X1 a o q)
  have hnL := hn.at (fun o q => k3 _ _ eL q)
  refine wpAny_execs_cons (plainObj_wpAny_Assign_Attribute ?_)
  refine ld_loc (v := u) hnL (by first | rfl | with_unfolding_all rfl | kernel_rfl) (ld_loc (v := .ref e) hnL (by first | rfl | with_unfolding_all rfl | kernel_rfl) ?_)
  obtain ⟨oD, hoD, _⟩ := lookIn_ns hn3
  refine set_plain X3 (ox := excObj C t0 (some dx) .none) (od := some oD) ⟨he3, rfl, rfl, hoD⟩ T.sa ?_
  refine osa_next X3 he3 hn3 T.ov T.hdC N.t2 (fun h4 tk4 k4 hn4 => ?_)
  show wpAny _ _ (execs _ _) _ _ _
  exact wpAny_execs_nil (hq h4 tk4 dx (fun b o hb e' => k4 b o (Nat.ne_of_lt (Nat.lt_of_lt_of_le (Nat.lt_trans (Heap.lt_size e') z) dn)) (k3 b o hb (k b o e'))) (k4 _ _ (Ne.symm dne) he3) (Nat.le_of_lt (Nat.lt_of_lt_of_le z dn)) dne hn4)
theorem init_kw (T : ErrC K mg x C fI) (N : Fn K qual C fI) {e t0 : Addr} {v u : Value} (X : K.In s.heap) (lim : s.heap.NoLimit) (he : s.heap.get? e = some (excObj C t0 none .none)) (room : A.depth < recursionLimit) (kn : ∀ a o, K.lookup a = some o → a ≠ e)
    (hq : ∀ h' tk dx, (∀ b o, b ≠ e → s.heap.get? b = some o → h'.get? b = some o) → h'.get? e = some (excObj C t0 (some dx) .none) → s.heap.objs.size ≤ dx → dx ≠ e → h'.Ns1 dx (fun y : Str => if y = "further" then some u else if y = "web" then some v else none) → R (.ok (.ret .none)) { s with heap := h', toks := tk }) :
    codeAny (model prog w) A (.call (.ref fI) ⟨[.ref e], [("further", u), ("web", v)]⟩) R s := by
  obtain ⟨oc, od, doc, pm, an, cdv, ct, osl, p1, p2, p3, q1, q2, q3, q4, q5, q6, q7, q8, ho, hcd⟩ := N.fn
  refine Att.call_fn (binds := [("self", .ref e), ("web", v), ("further", u)]) X lim ho hcd room (BindsTo.of_eq (by first | rfl | with_unfolding_all rfl)) (by first | rfl | decide | with_unfolding_all rfl) (fun s1 IC => ?_) rfl rfl rfl
  obtain ⟨h1, tk1, rfl⟩ := IC.toInCall.same
  have k : ∀ b o, s.heap.get? b = some o → h1.get? b = some o := IC.toInCall.keep
  have hn := IC.toInCall.ns
  have X1 : K.In h1 := X.keeps k
  have he1 := k _ _ he
  have z : s.heap.objs.size < h1.objs.size := hn.lt
  have eL : s.heap.objs.size ≠ e := Ne.symm (Nat.ne_of_lt (Heap.lt_size he))
  show wpAny _ _ (execs _ _) _ _ _
  refine wpAny_execs_cons (plainObj_wpAny_Assign_Attribute ?_)
  refine ld_loc (v := v) hn (by first | rfl | with_unfolding_all rfl | kernel_rfl) (ld_loc (v := .ref e) hn (by first | rfl | with_unfolding_all rfl | kernel_rfl) ?_)
  refine set_plain X1 (ox := excObj C t0 none .none) (od := none) ⟨he1, rfl, rfl, trivial⟩ T.sa ?_
  refine osa_first X1 he1 T.ov T.hdC N.t1 (fun h3 tk3 dx k3 dn dne he3 hn3 => ?_)
  show wpAny _ _ (execs _ _) _ _ _
  have X3 : K.In h3 := fun a o q => k3 a o (kn a o q) (X1 a o q)
  have hnL := hn.at (fun o q => k3 _ _ eL q)
  refine wpAny_execs_cons (plainObj_wpAny_Assign_Attribute ?_)
  refine ld_loc (v := u) hnL (by first | rfl | with_unfolding_all rfl | kernel_rfl) (ld_loc (v := .ref e) hnL (by first | rfl | with_unfolding_all rfl | kernel_rfl) ?_)
  obtain ⟨oD, hoD, _⟩ := lookIn_ns hn3
  refine set_plain X3 (ox := excObj C t0 (some dx) .none) (od := some oD) ⟨he3, rfl, rfl, hoD⟩ T.sa ?_
  refine osa_next X3 he3 hn3 T.ov T.hdC N.t2 (fun h4 tk4 k4 hn4 => ?_)
  show wpAny _ _ (execs _ _) _ _ _
  exact wpAny_execs_nil (hq h4 tk4 dx (fun b o hb e' => k4 b o (Nat.ne_of_lt (Nat.lt_of_lt_of_le (Nat.lt_trans (Heap.lt_size e') z) dn)) (k3 b o hb (k b o e'))) (k4 _ _ (Ne.symm dne) he3) (Nat.le_of_lt (Nat.lt_of_lt_of_le z dn)) dne hn4)
theorem makes_pos (T : ErrC K mg x C fI) (N : Fn K qual C fI) : ∀ us : List Value, us.length = (["web", "further"] : List Str).length → Makes K C us [] fun y => ((["web", "further"] : List Str).zip us).lookup y := by
  intro us hus prog w A R s X lim room hq
  match us, hus with
  | [v, u], _ =>
    obtain ⟨nm, M0, qn, bs, bm, hdct, sn, sub, ab, col, dd, k0, k1, k2, k3, k5, hC, hT⟩ := excInit_of X T.ex
    obtain ⟨hp, g, dr, tk, os⟩ := s
    have k : ∀ b o, hp.get? b = some o → ((hp.push (kdv_tup [v, u])).push (HandSPX.excO C hp.objs.size)).get? b = some o := fun b o e => Heap.get?_push_of_some _ (Heap.get?_push_of_some _ e)
    have hget : ((hp.push (kdv_tup [v, u])).push (HandSPX.excO C hp.objs.size)).get? (hp.objs.size + 1) = some (excObj C hp.objs.size none .none) := by heap_get
    refine call_kw F.excBase_Exception hT hC (by rw [sizeLine_eq]; exact (by decide : 2 ≤ 16777216)) (looks_findIn X T.iC) (fun self => bind_fn X self T.tC) ?_
    refine init_pos (s := ⟨(hp.push (kdv_tup [v, u])).push (HandSPX.excO C hp.objs.size), g, dr, tk, os⟩) T N (X.keeps k) (lim.keeps k) hget ?_ (fun a o q => Nat.ne_of_lt (Nat.lt_succ_of_lt (Heap.lt_size (X a o q)))) (fun h' tk' dx kk hx dn dne hns => ?_)
    · show A.depth + 1 < recursionLimit
      exact room
    · have old : ∀ b o, hp.get? b = some o → h'.get? b = some o := fun b o e => kk b o (Nat.ne_of_lt (Nat.lt_succ_of_lt (Heap.lt_size e))) (k b o e)
      have z : hp.objs.size + 1 + 1 ≤ dx := by
        have q := dn
        rw [Heap.size_push, Heap.size_push] at q
        exact q
      refine ⟨rfl, hq h' tk' (hp.objs.size + 1) dx ⟨old, Nat.le_succ _, ⟨_, _, hx, rfl, rfl, rfl, rfl⟩, Nat.le_trans (Nat.le_trans (Nat.le_succ _) (Nat.le_succ _)) z, dne, ?_⟩⟩
      have em : (fun y : Str => ((["web", "further"] : List Str).zip [v, u]).lookup y) = (fun y : Str => if y = "further" then some u else if y = "web" then some v else none) := by
        funext y
        simp only [List.zip_cons_cons, List.zip_nil_right, List.lookup_cons, List.lookup_nil, List.reverse_cons, List.reverse_nil, List.nil_append, List.cons_append]
        by_cases h : y = "web"
        · have n : y ≠ "further" := by
            rw [h]
            decide +kernel
          rw [if_neg n, if_pos h, show (y == "web") = true from beq_iff_eq.mpr h]
        · rw [show (y == "web") = false from beq_eq_false_iff_ne.mpr h]
          by_cases h2 : y = "further"
          · rw [if_pos h2, show (y == "further") = true from beq_iff_eq.mpr h2]
          · rw [if_neg h2, if_neg h, show (y == "further") = false from beq_eq_false_iff_ne.mpr h2]
      rw [em]
      exact hns
theorem makes_kw (T : ErrC K mg x C fI) (N : Fn K qual C fI) : ∀ us : List Value, us.length = (["further", "web"] : List Str).length → Makes K C [] ((["further", "web"] : List Str).zip us) fun y => ((["web", "further"] : List Str).zip us.reverse).lookup y := by
  intro us hus prog w A R s X lim room hq
  match us, hus with
  | [u, v], _ =>
    obtain ⟨nm, M0, qn, bs, bm, hdct, sn, sub, ab, col, dd, k0, k1, k2, k3, k5, hC, hT⟩ := excInit_of X T.ex
    obtain ⟨hp, g, dr, tk, os⟩ := s
    have k : ∀ b o, hp.get? b = some o → ((hp.push (kdv_tup [])).push (HandSPX.excO C hp.objs.size)).get? b = some o := fun b o e => Heap.get?_push_of_some _ (Heap.get?_push_of_some _ e)
    have hget : ((hp.push (kdv_tup [])).push (HandSPX.excO C hp.objs.size)).get? (hp.objs.size + 1) = some (excObj C hp.objs.size none .none) := by heap_get
    refine call_kw F.excBase_Exception hT hC (by rw [sizeLine_eq]; exact (by decide : 0 ≤ 16777216)) (looks_findIn X T.iC) (fun self => bind_fn X self T.tC) ?_
    refine init_kw (s := ⟨(hp.push (kdv_tup [])).push (HandSPX.excO C hp.objs.size), g, dr, tk, os⟩) T N (X.keeps k) (lim.keeps k) hget ?_ (fun a o q => Nat.ne_of_lt (Nat.lt_succ_of_lt (Heap.lt_size (X a o q)))) (fun h' tk' dx kk hx dn dne hns => ?_)
    · show A.depth + 1 < recursionLimit
      exact room
    · have old : ∀ b o, hp.get? b = some o → h'.get? b = some o := fun b o e => kk b o (Nat.ne_of_lt (Nat.lt_succ_of_lt (Heap.lt_size e))) (k b o e)
      have z : hp.objs.size + 1 + 1 ≤ dx := by
        have q := dn
        rw [Heap.size_push, Heap.size_push] at q
        exact q
      refine ⟨rfl, hq h' tk' (hp.objs.size + 1) dx ⟨old, Nat.le_succ _, ⟨_, _, hx, rfl, rfl, rfl, rfl⟩, Nat.le_trans (Nat.le_trans (Nat.le_succ _) (Nat.le_succ _)) z, dne, ?_⟩⟩
      have em : (fun y : Str => ((["web", "further"] : List Str).zip [u, v].reverse).lookup y) = (fun y : Str => if y = "further" then some u else if y = "web" then some v else none) := by
        funext y
        simp only [List.zip_cons_cons, List.zip_nil_right, List.lookup_cons, List.lookup_nil, List.reverse_cons, List.reverse_nil, List.nil_append, List.cons_append]
        by_cases h : y = "web"
        · have n : y ≠ "further" := by
            rw [h]
            decide +kernel
          rw [if_neg n, if_pos h, show (y == "web") = true from beq_iff_eq.mpr h]
        · rw [show (y == "web") = false from beq_eq_false_iff_ne.mpr h]
          by_cases h2 : y = "further"
          · rw [if_pos h2, show (y == "further") = true from beq_iff_eq.mpr h2]
          · rw [if_neg h2, if_neg h, show (y == "further") = false from beq_eq_false_iff_ne.mpr h2]
      rw [em]
      exact hns
end
end MqV_web_further


namespace MqV_promise_paper
open PySem PySem.Spec PyProof.Rows L2 Mq PySem.W PySem.Calls
def iA (p1 p2 p3 : Pos) : Arguments := { posonlyargs := [], args := [{ arg := "self", annotation := none, pos := p1 }, { arg := "promise", annotation := none, pos := p2 }, { arg := "paper", annotation := none, pos := p3 }], vararg := none, kwonlyargs := [], kw_defaults := [], kwarg := none, defaults := [] }
def iB (q1 q2 q3 q4 q5 q6 q7 q8 : Pos) : List Stmt := [.Assign [.Attribute (.Name "self" q1) "promise" q2] (.Name "promise" q3) q4, .Assign [.Attribute (.Name "self" q5) "paper" q6] (.Name "paper" q7) q8]
def iS : Scope := { kind := .function, names := [(PySem.Str.ofString "self", .local), (PySem.Str.ofString "promise", .local), (PySem.Str.ofString "paper", .local)], isGenerator := false, isCoroutine := false, more := [] }
structure Fn (K : Frag) (qual : Str) (C fI : Addr) : Prop where
  t1 : takerIn K C "promise" = some none
  t2 : takerIn K C "paper" = some none
  fn : ∃ (oc : Value) (od : Option Addr) (doc pm : Value) (an : Option Addr) (cdv ct : Value) (osl : Array (Option Value)) (p1 p2 p3 q1 q2 q3 q4 q5 q6 q7 q8 : Pos),
    K.lookup fI = some ⟨oc, od, .func (fnOf "__init__" qual (iA p1 p2 p3) (iB q1 q2 q3 q4 q5 q6 q7 q8) iS .none .none doc pm an cdv ct), osl⟩ ∧ codeIn K cdv qual = true
section
variable {prog : Program} {w : World} {A : Around} {E : Value → Shared → Prop} {R : Result → Shared → Prop} {s : Shared} {K : Frag} {mg : Str → Option Value} {x qual : Str} {C fI : Addr}
theorem ld_loc {M : Model} {s : Shared} {name : Str} {scope : Scope} {L a : Addr} {cd : Value} {m : Str → Option Value} {y : Str} {pos : Pos} {v : Value}
    {Q : Value → Shared → Prop} {A : Around} {E : Value → Shared → Prop} (hn : s.heap.Ns L m) (hv : m y = some v) (h : Q v s)
    (hk : scope.kind = .function := by rfl) (hl : (envOfC name scope L a cd).kindOf y = some .local := by rfl) (hd : (y == ("__debug__" : Str)) = false := by decide) :
    wpAny M A (eval (.Name y pos) (envOfC name scope L a cd)) Q E s := wpAny_Name (wpAny_loadName_local hk hl hn hv h) hd
theorem init_pos (T : ErrC K mg x C fI) (N : Fn K qual C fI) {e t0 : Addr} {v u : Value} (X : K.In s.heap) (lim : s.heap.NoLimit) (he : s.heap.get? e = some (excObj C t0 none .none)) (room : A.depth < recursionLimit) (kn : ∀ a o, K.lookup a = some o → a ≠ e)
    (hq : ∀ h' tk dx, (∀ b o, b ≠ e → s.heap.get? b = some o → h'.get? b = some o) → h'.get? e = some (excObj C t0 (some dx) .none) → s.heap.objs.size ≤ dx → dx ≠ e → h'.Ns1 dx (fun y : Str => if y = "paper" then some u else if y = "promise" then some v else none) → R (.ok (.ret .none)) { s with heap := h', toks := tk }) :
    codeAny (model prog w) A (.call (.ref fI) ⟨[.ref e, v, u], []⟩) R s := by
  obtain ⟨oc, od, doc, pm, an, cdv, ct, osl, p1, p2, p3, q1, q2, q3, q4, q5, q6, q7, q8, ho, hcd⟩ := N.fn
  refine Att.call_fn (binds := [("self", .ref e), ("promise", v), ("paper", u)]) X lim ho hcd room (BindsTo.of_eq (by first | rfl | with_unfolding_all rfl)) (by first | rfl | decide | with_unfolding_all rfl) (fun s1 IC => ?_) rfl rfl rfl
  obtain ⟨h1, tk1, rfl⟩ := IC.toInCall.same
  have k : ∀ b o, s.heap.get? b = some o → h1.get? b = some o := IC.toInCall.keep
  have hn := IC.toInCall.ns
  have X1 : K.In h1 := X.keeps k
  have he1 := k _ _ he
  have z : s.heap.objs.size < h1.objs.size := hn.lt
  have eL : s.heap.objs.size ≠ e := Ne.symm (Nat.ne_of_lt (Heap.lt_size he))
  show wpAny _ _ (execs _ _) _ _ _
  refine wpAny_execs_cons (plainObj_wpAny_Assign_Attribute ?_)
  refine ld_loc (v := v) hn (by first | rfl | with_unfolding_all rfl | kernel_rfl) (ld_loc (v := .ref e) hn (by first | rfl | with_unfolding_all rfl | kernel_rfl) ?_)
  refine set_plain X1 (ox := excObj C t0 none .none) (od := none) ⟨he1, rfl, rfl, trivial⟩ T.sa ?_
  refine osa_first X1 he1 T.ov T.hdC N.t1 (fun h3 tk3 dx k3 dn dne he3 hn3 => ?_)
  show wpAny _ _ (execs _ _) _ _ _
  have X3 : K.In h3 := fun a o q => k3 a o (kn a o q) (X1 a o q)
  have hnL := hn.at (fun o q => k3 _ _ eL q)
  refine wpAny_execs_cons (plainObj_wpAny_Assign_Attribute ?_)
  refine ld_loc (v := u) hnL (by first | rfl | with_unfolding_all rfl | kernel_rfl) (ld_loc (v := .ref e) hnL (by first | rfl | with_unfolding_all rfl | kernel_rfl) ?_)
  obtain ⟨oD, hoD, _⟩ := lookIn_ns hn3
  refine set_plain X3 (ox := excObj C t0 (some dx) .none) (od := some oD) ⟨he3, rfl, rfl, hoD⟩ T.sa ?_
  refine osa_next X3 he3 hn3 T.ov T.hdC N.t2 (fun h4 tk4 k4 hn4 => ?_)
  show wpAny _ _ (execs _ _) _ _ _
  exact wpAny_execs_nil (hq h4 tk4 dx (fun b o hb e' => k4 b o (Nat.ne_of_lt (Nat.lt_of_lt_of_le (Nat.lt_trans (Heap.lt_size e') z) dn)) (k3 b o hb (k b o e'))) (k4 _ _ (Ne.symm dne) he3) (Nat.le_of_lt (Nat.lt_of_lt_of_le z dn)) dne hn4)
theorem init_kw (T : ErrC K mg x C fI) (N : Fn K qual C fI) {e t0 : Addr} {v u : Value} (X : K.In s.heap) (lim : s.heap.NoLimit) (he : s.heap.get? e = some (excObj C t0 none .none)) (room : A.depth < recursionLimit) (kn : ∀ a o, K.lookup a = some o → a ≠ e)
    (hq : ∀ h' tk dx, (∀ b o, b ≠ e → s.heap.get? b = some o → h'.get? b = some o) → h'.get? e = some (excObj C t0 (some dx) .none) → s.heap.objs.size ≤ dx → dx ≠ e → h'.Ns1 dx (fun y : Str => if y = "paper" then some u else if y = "promise" then some v else none) → R (.ok (.ret .none)) { s with heap := h', toks := tk }) :
    codeAny (model prog w) A (.call (.ref fI) ⟨[.ref e], [("paper", u), ("promise", v)]⟩) R s := by
  obtain ⟨oc, od, doc, pm, an, cdv, ct, osl, p1, p2, p3, q1, q2, q3, q4, q5, q6, q7, q8, ho, hcd⟩ := N.fn
  refine Att.call_fn (binds := [("self", .ref e), ("promise", v), ("paper", u)]) X lim ho hcd room (BindsTo.of_eq (by first | rfl | with_unfolding_all rfl)) (by first | rfl | decide | with_unfolding_all rfl) (fun s1 IC => ?_) rfl rfl rfl
  obtain ⟨h1, tk1, rfl⟩ := IC.toInCall.same
  have k : ∀ b o, s.heap.get? b = some o → h1.get? b = some o := IC.toInCall.keep
  have hn := IC.toInCall.ns
  have X1 : K.In h1 := X.keeps k
  have he1 := k _ _ he
  have z : s.heap.objs.size < h1.objs.size := hn.lt
  have eL : s.heap.objs.size ≠ e := Ne.symm (Nat.ne_of_lt (Heap.lt_size he))
  show wpAny _ _ (execs _ _) _ _ _
  refine wpAny_execs_cons (plainObj_wpAny_Assign_Attribute ?_)
  refine ld_loc (v := v) hn (by first | rfl | with_unfolding_all rfl | kernel_rfl) (ld_loc (v := .ref e) hn (by first | rfl | with_unfolding_all rfl | kernel_rfl) ?_)
  refine set_plain X1 (ox := excObj C t0 none .none) (od := none) ⟨he1, rfl, rfl, trivial⟩ T.sa ?_
  refine osa_first X1 he1 T.ov T.hdC N.t1 (fun h3 tk3 dx k3 dn dne he3 hn3 => ?_)
  show wpAny _ _ (execs _ _) _ _ _
  have X3 : K.In h3 := fun a o q => k3 a o (kn a o q) (X1 a o q)
  have hnL := hn.at (fun o q => k3 _ _ eL q)
  refine wpAny_execs_cons (plainObj_wpAny_Assign_Attribute ?_)
  refine ld_loc (v := u) hnL (by first | rfl | with_unfolding_all rfl | kernel_rfl) (ld_loc (v := .ref e) hnL (by first | rfl | with_unfolding_all rfl | kernel_rfl) ?_)
  obtain ⟨oD, hoD, _⟩ := lookIn_ns hn3
  refine set_plain X3 (ox := excObj C t0 (some dx) .none) (od := some oD) ⟨he3, rfl, rfl, hoD⟩ T.sa ?_
  refine osa_next X3 he3 hn3 T.ov T.hdC N.t2 (fun h4 tk4 k4 hn4 => ?_)
  show wpAny _ _ (execs _ _) _ _ _
  exact wpAny_execs_nil (hq h4 tk4 dx (fun b o hb e' => k4 b o (Nat.ne_of_lt (Nat.lt_of_lt_of_le (Nat.lt_trans (Heap.lt_size e') z) dn)) (k3 b o hb (k b o e'))) (k4 _ _ (Ne.symm dne) he3) (Nat.le_of_lt (Nat.lt_of_lt_of_le z dn)) dne hn4)
theorem makes_pos (T : ErrC K mg x C fI) (N : Fn K qual C fI) : ∀ us : List Value, us.length = (["promise", "paper"] : List Str).length → Makes K C us [] fun y => ((["promise", "paper"] : List Str).zip us).lookup y := by
  intro us hus prog w A R s X lim room hq
  match us, hus with
  | [v, u], _ =>
    obtain ⟨nm, M0, qn, bs, bm, hdct, sn, sub, ab, col, dd, k0, k1, k2, k3, k5, hC, hT⟩ := excInit_of X T.ex
    obtain ⟨hp, g, dr, tk, os⟩ := s
    have k : ∀ b o, hp.get? b = some o → ((hp.push (kdv_tup [v, u])).push (HandSPX.excO C hp.objs.size)).get? b = some o := fun b o e => Heap.get?_push_of_some _ (Heap.get?_push_of_some _ e)
    have hget : ((hp.push (kdv_tup [v, u])).push (HandSPX.excO C hp.objs.size)).get? (hp.objs.size + 1) = some (excObj C hp.objs.size none .none) := by heap_get
    refine call_kw F.excBase_Exception hT hC (by rw [sizeLine_eq]; exact (by decide : 2 ≤ 16777216)) (looks_findIn X T.iC) (fun self => bind_fn X self T.tC) ?_
    refine init_pos (s := ⟨(hp.push (kdv_tup [v, u])).push (HandSPX.excO C hp.objs.size), g, dr, tk, os⟩) T N (X.keeps k) (lim.keeps k) hget ?_ (fun a o q => Nat.ne_of_lt (Nat.lt_succ_of_lt (Heap.lt_size (X a o q)))) (fun h' tk' dx kk hx dn dne hns => ?_)
    · show A.depth + 1 < recursionLimit
      exact room
    · have old : ∀ b o, hp.get? b = some o → h'.get? b = some o := fun b o e => kk b o (Nat.ne_of_lt (Nat.lt_succ_of_lt (Heap.lt_size e))) (k b o e)
      have z : hp.objs.size + 1 + 1 ≤ dx := by
        have q := dn
        rw [Heap.size_push, Heap.size_push] at q
        exact q
      refine ⟨rfl, hq h' tk' (hp.objs.size + 1) dx ⟨old, Nat.le_succ _, ⟨_, _, hx, rfl, rfl, rfl, rfl⟩, Nat.le_trans (Nat.le_trans (Nat.le_succ _) (Nat.le_succ _)) z, dne, ?_⟩⟩
      have em : (fun y : Str => ((["promise", "paper"] : List Str).zip [v, u]).lookup y) = (fun y : Str => if y = "paper" then some u else if y = "promise" then some v else none) := by
        funext y
        simp only [List.zip_cons_cons, List.zip_nil_right, List.lookup_cons, List.lookup_nil, List.reverse_cons, List.reverse_nil, List.nil_append, List.cons_append]
        by_cases h : y = "promise"
        · have n : y ≠ "paper" := by
            rw [h]
            decide +kernel
          rw [if_neg n, if_pos h, show (y == "promise") = true from beq_iff_eq.mpr h]
        · rw [show (y == "promise") = false from beq_eq_false_iff_ne.mpr h]
          by_cases h2 : y = "paper"
          · rw [if_pos h2, show (y == "paper") = true from beq_iff_eq.mpr h2]
          · rw [if_neg h2, if_neg h, show (y == "paper") = false from beq_eq_false_iff_ne.mpr h2]
      rw [em]
      exact hns
theorem makes_kw (T : ErrC K mg x C fI) (N : Fn K qual C fI) : ∀ us : List Value, us.length = (["paper", "promise"] : List Str).length → Makes K C [] ((["paper", "promise"] : List Str).zip us) fun y => ((["promise", "paper"] : List Str).zip us.reverse).lookup y := by
  intro us hus prog w A R s X lim room hq
  match us, hus with
  | [u, v], _ =>
    obtain ⟨nm, M0, qn, bs, bm, hdct, sn, sub, ab, col, dd, k0, k1, k2, k3, k5, hC, hT⟩ := excInit_of X T.ex
    obtain ⟨hp, g, dr, tk, os⟩ := s
    have k : ∀ b o, hp.get? b = some o → ((hp.push (kdv_tup [])).push (HandSPX.excO C hp.objs.size)).get? b = some o := fun b o e => Heap.get?_push_of_some _ (Heap.get?_push_of_some _ e)
    have hget : ((hp.push (kdv_tup [])).push (HandSPX.excO C hp.objs.size)).get? (hp.objs.size + 1) = some (excObj C hp.objs.size none .none) := by heap_get
    refine call_kw F.excBase_Exception hT hC (by rw [sizeLine_eq]; exact (by decide : 0 ≤ 16777216)) (looks_findIn X T.iC) (fun self => bind_fn X self T.tC) ?_
    refine init_kw (s := ⟨(hp.push (kdv_tup [])).push (HandSPX.excO C hp.objs.size), g, dr, tk, os⟩) T N (X.keeps k) (lim.keeps k) hget ?_ (fun a o q => Nat.ne_of_lt (Nat.lt_succ_of_lt (Heap.lt_size (X a o q)))) (fun h' tk' dx kk hx dn dne hns => ?_)
    · show A.depth + 1 < recursionLimit
      exact room
    · have old : ∀ b o, hp.get? b = some o → h'.get? b = some o := fun b o e => kk b o (Nat.ne_of_lt (Nat.lt_succ_of_lt (Heap.lt_size e))) (k b o e)
      have z : hp.objs.size + 1 + 1 ≤ dx := by
        have q := dn
        rw [Heap.size_push, Heap.size_push] at q
        exact q
      refine ⟨rfl, hq h' tk' (hp.objs.size + 1) dx ⟨old, Nat.le_succ _, ⟨_, _, hx, rfl, rfl, rfl, rfl⟩, Nat.le_trans (Nat.le_trans (Nat.le_succ _) (Nat.le_succ _)) z, dne, ?_⟩⟩
      have em : (fun y : Str => ((["promise", "paper"] : List Str).zip [u, v].reverse).lookup y) = (fun y : Str => if y = "paper" then some u else if y = "promise" then some v else none) := by
        funext y
        simp only [List.zip_cons_cons, List.zip_nil_right, List.lookup_cons, List.lookup_nil, List.reverse_cons, List.reverse_nil, List.nil_append, List.cons_append]
        by_cases h : y = "promise"
        · have n : y ≠ "paper" := by
            rw [h]
            decide +kernel
          rw [if_neg n, if_pos h, show (y == "promise") = true from beq_iff_eq.mpr h]
        · rw [show (y == "promise") = false from beq_eq_false_iff_ne.mpr h]
          by_cases h2 : y = "paper"
          · rw [if_pos h2, show (y == "paper") = true from beq_iff_eq.mpr h2]
          · rw [if_neg h2, if_neg h, show (y == "paper") = false from beq_eq_false_iff_ne.mpr h2]
      rw [em]
      exact hns
end
end MqV_promise_paper


namespace Lw
open PySem PySem.Spec PyProof.Rows L2 Mq
def topS (i : Nat) : Stmt := PySem.Challenge.pw_millhands_k00_errors_of_any_value.main.body.getD i (.Pass ⟨0, 0, 0, 0⟩)
abbrev s__law_deck : Stmt := topS 37
theorem sc__law_deck : FnScope ["_law_script", "_law_cells", "_law_mixed", "_law_cell"] ["_law_script"] (defScope s__law_deck) := ⟨rfl, rfl, rfl, by decide +kernel, rfl, by decide +kernel, by decide +kernel⟩
abbrev s__law_draw : Stmt := topS 38
theorem sc__law_draw : FnScope ["_law_deck_here", "_law_below", "_law_mixed", "_law_cell"] ["_law_deck_here", "_law_below"] (defScope s__law_draw) := ⟨rfl, rfl, rfl, by decide +kernel, rfl, by decide +kernel, by decide +kernel⟩
abbrev s__law_pick : Stmt := topS 39
theorem sc__law_pick : FnScope ["_law_deck_here", "_law_some"] ["_law_deck_here", "_law_some"] (defScope s__law_pick) := ⟨rfl, rfl, rfl, by decide +kernel, rfl, by decide +kernel, by decide +kernel⟩
abbrev s__law_near : Stmt := topS 40
theorem sc__law_near : FnScope ["_law_at", "_law_it_here", "_law_one", "_law_two"] ["_law_at", "_law_it_here"] (defScope s__law_near) := ⟨rfl, rfl, rfl, by decide +kernel, rfl, by decide +kernel, by decide +kernel⟩
abbrev s__law_mid : Stmt := topS 41
theorem sc__law_mid : FnScope ["_law_at", "_law_it_here", "_law_one", "_law_two"] ["_law_at", "_law_it_here"] (defScope s__law_mid) := ⟨rfl, rfl, rfl, by decide +kernel, rfl, by decide +kernel, by decide +kernel⟩
abbrev s__law_far : Stmt := topS 42
theorem sc__law_far : FnScope ["_law_at", "_law_it_here", "_law_one", "_law_two"] ["_law_at", "_law_it_here"] (defScope s__law_far) := ⟨rfl, rfl, rfl, by decide +kernel, rfl, by decide +kernel, by decide +kernel⟩
abbrev s__law_made : Stmt := topS 43
theorem sc__law_made : FnScope ["_law_at", "_law_it_here"] ["_law_at", "_law_it_here"] (defScope s__law_made) := ⟨rfl, rfl, rfl, by decide +kernel, rfl, by decide +kernel, by decide +kernel⟩
abbrev s__law_both : Stmt := topS 44
theorem sc__law_both : FnScope ["_law_at", "_law_it_here", "_law_that", "_law_one", "_law_two"] ["_law_at", "_law_it_here", "_law_that"] (defScope s__law_both) := ⟨rfl, rfl, rfl, by decide +kernel, rfl, by decide +kernel, by decide +kernel⟩
abbrev s__law_bare : Stmt := topS 45
theorem sc__law_bare : FnScope ["_law_at"] ["_law_at"] (defScope s__law_bare) := ⟨rfl, rfl, rfl, by decide +kernel, rfl, by decide +kernel, by decide +kernel⟩
abbrev s__law_kinds : Stmt := topS 46
theorem sc__law_kinds : FnScope ["_law_e", "_law_found"] ["_law_e"] (defScope s__law_kinds) := ⟨rfl, rfl, rfl, by decide +kernel, rfl, by decide +kernel, by decide +kernel⟩
abbrev s__law_is_pure : Stmt := topS 47
theorem sc__law_is_pure : FnScope ["_law_e", "_law_at", "_law_some", "_law_k"] ["_law_e", "_law_at"] (defScope s__law_is_pure) := ⟨rfl, rfl, rfl, by decide +kernel, rfl, by decide +kernel, by decide +kernel⟩
abbrev s__law_it : Stmt := topS 48
theorem sc__law_it : FnScope ["_law_deck_here", "_law_some"] ["_law_deck_here"] (defScope s__law_it) := ⟨rfl, rfl, rfl, by decide +kernel, rfl, by decide +kernel, by decide +kernel⟩
abbrev s__law_is_caught : Stmt := topS 49
theorem sc__law_is_caught : FnScope ["_law_it_here", "_law_that", "_law_found", "_law_e"] ["_law_it_here", "_law_that"] (defScope s__law_is_caught) := ⟨rfl, rfl, rfl, by decide +kernel, rfl, by decide +kernel, by decide +kernel⟩
abbrev s_law : Stmt := topS 50
theorem sc_law : FnScope ["_law_script", "_law_deck_here", "_law_at", "_law_here", "_law_there", "_law_near_here", "_law_far_here", "_law_one", "_law_two", "_law_is_borne", "_law_e"] ["_law_script"] (defScope s_law) := ⟨rfl, rfl, rfl, by decide +kernel, rfl, by decide +kernel, by decide +kernel⟩
end Lw

namespace Lw
open PySem PySem.Spec PyProof.Rows L2 Mq
open SX (S)
theorem sz_le {n : Nat} (h : n ≤ 1000000) : n ≤ sizeLine := Nat.le_trans h (by decide)
theorem sz_lt {n : Nat} (h : n ≤ 1000000) : n < sizeLine := Nat.lt_of_le_of_lt h (by decide)
theorem ifF {c : Bool} {p q : Prop} (h : c = false) (hq : q) : (if c = true then p else q) := by rw [h]; exact hq
theorem ifT {c : Bool} {p q : Prop} (h : c = true) (hp : p) : (if c = true then p else q) := by rw [h]; exact hp
theorem len_tup {K : PySem.W.Frag} {H : Hp} {a : Addr} {xs : List V} (h : SqT K H a xs) : LenV K (.ref a) H xs.length := Or.inr ⟨xs, h, rfl⟩
theorem at_get {l : List Nat} {k : Nat} (h : k < l.length) : atI (S l).cps.toList (k : Int) = some (l.getD k 0) := by
  refine atI_nat ?_
  show l[k]? = _
  rw [List.getElem?_eq_getElem h, List.getD_eq_getElem?_getD, List.getElem?_eq_getElem h]
  rfl
theorem len_S {K : PySem.W.Frag} {H : Hp} {l : List Nat} (hl : l.length ≤ 100000) : LenV K (.str (S l)) H (l.length : Nat) := by
  have hz := SX.S_len l
  refine ⟨?_, ?_⟩
  · rw [hz]
    exact sz_le (by omega)
  · rw [hz]
theorem pos_of {α : Type} {l : List α} (h : l ≠ []) : 0 < l.length := by
  cases l with
  | nil => exact (h rfl).elim
  | cons a l => exact Nat.zero_lt_succ _
/-! ### errors that are values -/
/-- an error of the class C -/
def ErrW (H : Hp) (C e : Addr) : Prop := ∃ dd : Option Addr, H e = some (ExF C dd e) ∧ ∀ x, dd = some x → ∃ fs, H x = some (.xd fs)
theorem ErrW.same {H H' : Hp} {C e : Addr} (h : ErrW H C e) (s : Same H H') : ErrW H' C e := by
  obtain ⟨dd, a, b⟩ := h
  refine ⟨dd, s _ _ a, fun x hx => ?_⟩
  obtain ⟨fs, c⟩ := b x hx
  exact ⟨fs, s _ _ c⟩
theorem _root_.Mq.ErrAt.w {H : Hp} {C e d : Addr} {fs : List (Str × V)} (h : ErrAt H C e d fs) : ErrW H C e := ⟨some d, h.ex, fun x hx => by cases hx; exact ⟨fs, h.fd⟩⟩
theorem same_exc {H : Hp} {d e : Addr} {o u : HO} (h1 : H d = none) (h2 : H e = none) : Same H (upd (upd H d o) e u) := by
  intro b p hb
  rw [upd_ne (ne_of_none hb h2), upd_ne (ne_of_none hb h1)]
  exact hb
theorem err_new {H : Hp} {C e d : Addr} {fs : List (Str × V)} (ne : d ≠ e) : ErrAt (upd (upd H d (.xd fs)) e (ExF C (some d) e)) C e d fs := ⟨upd_same, (upd_ne ne).trans upd_same⟩
theorem lk_one (f : Str) (v : V) : List.lookup f (([f] : List Str).zip [v]) = some v := by simp [List.lookup]
def spMade (cl : Nat → Addr) (lo hi : Nat) : Sp := fun vs H Q _ => ∃ (at' : Nat) (v : V), vs = [.int (at' : Nat), v] ∧ lo ≤ at' ∧ at' < hi ∧
  ∀ H' T e1 e2, Same H H' → H' T = some (.tup [.ref e1, .ref e2, v, v]) → ErrW H' (cl at') e1 → ErrW H' (cl at') e2 → Q (.ref T) H'
theorem made_fin {cl : Nat → Addr} {v : V} {Q : VK} {H : Hp} {i : Nat} (q : ∀ H' T e1 e2, Same H H' → H' T = some (.tup [.ref e1, .ref e2, v, v]) → ErrW H' (cl i) e1 → ErrW H' (cl i) e2 → Q (.ref T) H') (f : Str) :
    ∀ e1 d1, H d1 = none → H e1 = none → d1 ≠ e1 → ∀ e2 d2, upd (upd H d1 (.xd (([f] : List Str).zip [v]))) e1 (ExF (cl i) (some d1) e1) d2 = none → upd (upd H d1 (.xd (([f] : List Str).zip [v]))) e1 (ExF (cl i) (some d1) e1) e2 = none → d2 ≠ e2 →
      ErrAt (upd (upd (upd (upd H d1 (.xd (([f] : List Str).zip [v]))) e1 (ExF (cl i) (some d1) e1)) d2 (.xd (([f] : List Str).zip [v]))) e2 (ExF (cl i) (some d2) e2)) (cl i) e1 d1 (([f] : List Str).zip [v]) ∧
      ErrAt (upd (upd (upd (upd H d1 (.xd (([f] : List Str).zip [v]))) e1 (ExF (cl i) (some d1) e1)) d2 (.xd (([f] : List Str).zip [v]))) e2 (ExF (cl i) (some d2) e2)) (cl i) e2 d2 (([f] : List Str).zip [v]) ∧
      ∀ T, upd (upd (upd (upd H d1 (.xd (([f] : List Str).zip [v]))) e1 (ExF (cl i) (some d1) e1)) d2 (.xd (([f] : List Str).zip [v]))) e2 (ExF (cl i) (some d2) e2) T = none →
        Q (.ref T) (upd (upd (upd (upd (upd H d1 (.xd (([f] : List Str).zip [v]))) e1 (ExF (cl i) (some d1) e1)) d2 (.xd (([f] : List Str).zip [v]))) e2 (ExF (cl i) (some d2) e2)) T (.tup [.ref e1, .ref e2, v, v])) := by
  intro e1 d1 h1 h2 ne1 e2 d2 h3 h4 ne2
  have s1 : Same H (upd (upd H d1 (.xd (([f] : List Str).zip [v]))) e1 (ExF (cl i) (some d1) e1)) := same_exc h1 h2
  have w1 : ErrAt (upd (upd H d1 (.xd (([f] : List Str).zip [v]))) e1 (ExF (cl i) (some d1) e1)) (cl i) e1 d1 (([f] : List Str).zip [v]) := err_new ne1
  generalize upd (upd H d1 (.xd (([f] : List Str).zip [v]))) e1 (ExF (cl i) (some d1) e1) = H1 at s1 w1 h3 h4 ⊢
  have s2 : Same H1 (upd (upd H1 d2 (.xd (([f] : List Str).zip [v]))) e2 (ExF (cl i) (some d2) e2)) := same_exc h3 h4
  have w2 : ErrAt (upd (upd H1 d2 (.xd (([f] : List Str).zip [v]))) e2 (ExF (cl i) (some d2) e2)) (cl i) e2 d2 (([f] : List Str).zip [v]) := err_new ne2
  have w1 := w1.same s2
  have s2 := s1.trans s2
  refine ⟨w1, w2, fun T hT => ?_⟩
  have s3 := same_new (o := HO.tup [V.ref e1, V.ref e2, v, v]) hT
  exact q _ T e1 e2 (s2.trans s3) upd_same (w1.same s3).w (w2.same s3).w
end Lw

namespace Lw
open PySem PySem.Spec PyProof.Rows L2 Mq
open SX (S)
section
variable {P : Program} {w : World} {K : PySem.W.Frag} {mg : Str → Option Value} {base : Heap} {cl fi : Nat → Addr}
theorem ok_near {f : Addr} {fd : FuncData} (F : Fun K "_law_near" "_law_near" s__law_near f fd)
    (T0 : ErrC K mg "BadBook" (cl 0) (fi 0)) (N0 : MqV_part.Fn K "BadBook.__init__" (cl 0) (fi 0)) (X0 : XfC K (cl 0)) (n0 : PySem.W.findIn K (.ref (cl 0)) "part" = some none)
    (T1 : ErrC K mg "BadText" (cl 1) (fi 1)) (N1 : MqV_line.Fn K "BadText.__init__" (cl 1) (fi 1)) (X1 : XfC K (cl 1)) (n1 : PySem.W.findIn K (.ref (cl 1)) "line" = some none)
    (T2 : ErrC K mg "BadWeb" (cl 2) (fi 2)) (N2 : MqV_thing.Fn K "BadWeb.__init__" (cl 2) (fi 2)) (X2 : XfC K (cl 2)) (n2 : PySem.W.findIn K (.ref (cl 2)) "thing" = some none)
    (T3 : ErrC K mg "TooMany" (cl 3) (fi 3)) (N3 : MqV_most.Fn K "TooMany.__init__" (cl 3) (fi 3)) (X3 : XfC K (cl 3)) (n3 : PySem.W.findIn K (.ref (cl 3)) "most" = some none)
    (T4 : ErrC K mg "BadReader" (cl 4) (fi 4)) (N4 : MqV_part.Fn K "BadReader.__init__" (cl 4) (fi 4)) (X4 : XfC K (cl 4)) (n4 : PySem.W.findIn K (.ref (cl 4)) "part" = some none)
    (T5 : ErrC K mg "BadTeller" (cl 5) (fi 5)) (N5 : MqV_part.Fn K "BadTeller.__init__" (cl 5) (fi 5)) (X5 : XfC K (cl 5)) (n5 : PySem.W.findIn K (.ref (cl 5)) "part" = some none)
    (T6 : ErrC K mg "BadFan" (cl 6) (fi 6)) (N6 : MqV_part.Fn K "BadFan.__init__" (cl 6) (fi 6)) (X6 : XfC K (cl 6)) (n6 : PySem.W.findIn K (.ref (cl 6)) "part" = some none)
    (T7 : ErrC K mg "BadWeft" (cl 7) (fi 7)) (N7 : MqV_thing.Fn K "BadWeft.__init__" (cl 7) (fi 7)) (X7 : XfC K (cl 7)) (n7 : PySem.W.findIn K (.ref (cl 7)) "thing" = some none)
    (T8 : ErrC K mg "TooLong" (cl 8) (fi 8)) (N8 : MqV_most.Fn K "TooLong.__init__" (cl 8) (fi 8)) (X8 : XfC K (cl 8)) (n8 : PySem.W.findIn K (.ref (cl 8)) "most" = some none)
    : FnOk P w K mg base CX0 2 f fd ["_law_at", "_law_it_here"] (spMade cl 0 9) := by
  refine F.ok sc__law_near (fun vs H Q E h => ?_) (fun cdv A outer s H vs Q E hr h => ?_)
  · obtain ⟨_, _, rfl, _⟩ := h
    rfl
  · obtain ⟨at', v, rfl, h1, h2, q⟩ := h
    refine ⟨_, (pss_cons (ps_if (pt_cmpR op_eq (pv 0) pe_int (nomark _)) (pss_cons (ps_par (i := 2) (j := 3) rfl sc__law_near.nd rfl rfl (by decide) rfl rfl (pa_cons (pe_mkP T0 hr (MqV_part.makes_pos T0 N0) (pa_cons (pv 1) pa_nil)) (pa_cons (pe_mkK (g := fun l => l) T0 hr (fun r => r) (MqV_part.makes_kw T0 N0) (pk_cons (pv 1) pk_nil)) pa_nil)) (by rfl)) (pss_one (ps_ret (pe_tup (pa_cons (pv 2) (pa_cons (pv 3) (pa_cons (pe_xv X0 n0 (pv 2)) (pa_cons (pe_xv X0 n0 (pv 3)) pa_nil)))))))) pss_nil)
      (pss_cons (ps_if (pt_cmpR op_eq (pv 0) pe_int (nomark _)) (pss_cons (ps_par (i := 2) (j := 3) rfl sc__law_near.nd rfl rfl (by decide) rfl rfl (pa_cons (pe_mkP T1 hr (MqV_line.makes_pos T1 N1) (pa_cons (pv 1) pa_nil)) (pa_cons (pe_mkK (g := fun l => l) T1 hr (fun r => r) (MqV_line.makes_kw T1 N1) (pk_cons (pv 1) pk_nil)) pa_nil)) (by rfl)) (pss_one (ps_ret (pe_tup (pa_cons (pv 2) (pa_cons (pv 3) (pa_cons (pe_xv X1 n1 (pv 2)) (pa_cons (pe_xv X1 n1 (pv 3)) pa_nil)))))))) pss_nil)
      (pss_cons (ps_if (pt_cmpR op_eq (pv 0) pe_int (nomark _)) (pss_cons (ps_par (i := 2) (j := 3) rfl sc__law_near.nd rfl rfl (by decide) rfl rfl (pa_cons (pe_mkP T2 hr (MqV_thing.makes_pos T2 N2) (pa_cons (pv 1) pa_nil)) (pa_cons (pe_mkK (g := fun l => l) T2 hr (fun r => r) (MqV_thing.makes_kw T2 N2) (pk_cons (pv 1) pk_nil)) pa_nil)) (by rfl)) (pss_one (ps_ret (pe_tup (pa_cons (pv 2) (pa_cons (pv 3) (pa_cons (pe_xv X2 n2 (pv 2)) (pa_cons (pe_xv X2 n2 (pv 3)) pa_nil)))))))) pss_nil)
      (pss_cons (ps_if (pt_cmpR op_eq (pv 0) pe_int (nomark _)) (pss_cons (ps_par (i := 2) (j := 3) rfl sc__law_near.nd rfl rfl (by decide) rfl rfl (pa_cons (pe_mkP T3 hr (MqV_most.makes_pos T3 N3) (pa_cons (pv 1) pa_nil)) (pa_cons (pe_mkK (g := fun l => l) T3 hr (fun r => r) (MqV_most.makes_kw T3 N3) (pk_cons (pv 1) pk_nil)) pa_nil)) (by rfl)) (pss_one (ps_ret (pe_tup (pa_cons (pv 2) (pa_cons (pv 3) (pa_cons (pe_xv X3 n3 (pv 2)) (pa_cons (pe_xv X3 n3 (pv 3)) pa_nil)))))))) pss_nil)
      (pss_cons (ps_if (pt_cmpR op_eq (pv 0) pe_int (nomark _)) (pss_cons (ps_par (i := 2) (j := 3) rfl sc__law_near.nd rfl rfl (by decide) rfl rfl (pa_cons (pe_mkP T4 hr (MqV_part.makes_pos T4 N4) (pa_cons (pv 1) pa_nil)) (pa_cons (pe_mkK (g := fun l => l) T4 hr (fun r => r) (MqV_part.makes_kw T4 N4) (pk_cons (pv 1) pk_nil)) pa_nil)) (by rfl)) (pss_one (ps_ret (pe_tup (pa_cons (pv 2) (pa_cons (pv 3) (pa_cons (pe_xv X4 n4 (pv 2)) (pa_cons (pe_xv X4 n4 (pv 3)) pa_nil)))))))) pss_nil)
      (pss_cons (ps_if (pt_cmpR op_eq (pv 0) pe_int (nomark _)) (pss_cons (ps_par (i := 2) (j := 3) rfl sc__law_near.nd rfl rfl (by decide) rfl rfl (pa_cons (pe_mkP T5 hr (MqV_part.makes_pos T5 N5) (pa_cons (pv 1) pa_nil)) (pa_cons (pe_mkK (g := fun l => l) T5 hr (fun r => r) (MqV_part.makes_kw T5 N5) (pk_cons (pv 1) pk_nil)) pa_nil)) (by rfl)) (pss_one (ps_ret (pe_tup (pa_cons (pv 2) (pa_cons (pv 3) (pa_cons (pe_xv X5 n5 (pv 2)) (pa_cons (pe_xv X5 n5 (pv 3)) pa_nil)))))))) pss_nil)
      (pss_cons (ps_if (pt_cmpR op_eq (pv 0) pe_int (nomark _)) (pss_cons (ps_par (i := 2) (j := 3) rfl sc__law_near.nd rfl rfl (by decide) rfl rfl (pa_cons (pe_mkP T6 hr (MqV_part.makes_pos T6 N6) (pa_cons (pv 1) pa_nil)) (pa_cons (pe_mkK (g := fun l => l) T6 hr (fun r => r) (MqV_part.makes_kw T6 N6) (pk_cons (pv 1) pk_nil)) pa_nil)) (by rfl)) (pss_one (ps_ret (pe_tup (pa_cons (pv 2) (pa_cons (pv 3) (pa_cons (pe_xv X6 n6 (pv 2)) (pa_cons (pe_xv X6 n6 (pv 3)) pa_nil)))))))) pss_nil)
      (pss_cons (ps_if (pt_cmpR op_eq (pv 0) pe_int (nomark _)) (pss_cons (ps_par (i := 2) (j := 3) rfl sc__law_near.nd rfl rfl (by decide) rfl rfl (pa_cons (pe_mkP T7 hr (MqV_thing.makes_pos T7 N7) (pa_cons (pv 1) pa_nil)) (pa_cons (pe_mkK (g := fun l => l) T7 hr (fun r => r) (MqV_thing.makes_kw T7 N7) (pk_cons (pv 1) pk_nil)) pa_nil)) (by rfl)) (pss_one (ps_ret (pe_tup (pa_cons (pv 2) (pa_cons (pv 3) (pa_cons (pe_xv X7 n7 (pv 2)) (pa_cons (pe_xv X7 n7 (pv 3)) pa_nil)))))))) pss_nil)
      (pss_cons (ps_par (i := 2) (j := 3) rfl sc__law_near.nd rfl rfl (by decide) rfl rfl (pa_cons (pe_mkP T8 hr (MqV_most.makes_pos T8 N8) (pa_cons (pv 1) pa_nil)) (pa_cons (pe_mkK (g := fun l => l) T8 hr (fun r => r) (MqV_most.makes_kw T8 N8) (pk_cons (pv 1) pk_nil)) pa_nil)) (by rfl)) (pss_one (ps_ret (pe_tup (pa_cons (pv 2) (pa_cons (pv 3) (pa_cons (pe_xv X8 n8 (pv 2)) (pa_cons (pe_xv X8 n8 (pv 3)) pa_nil)))))))))))))))), ?_⟩
    have fin := fun (i : Nat) (e : at' = i) => made_fin (cl := cl) (v := v) (Q := Q) (H := H) (i := i) (by rw [← e]; exact q)
    have hc : at' = 0 ∨ at' = 1 ∨ at' = 2 ∨ at' = 3 ∨ at' = 4 ∨ at' = 5 ∨ at' = 6 ∨ at' = 7 ∨ at' = 8 := by omega
    rcases hc with rfl | rfl | rfl | rfl | rfl | rfl | rfl | rfl | rfl
    · refine ⟨_, rfl, rfl, _, rfl, ifT (by decide) ?_⟩
      refine ⟨_, rfl, rfl, fun e1 d1 hd1 he1 ne1 => ⟨_, rfl, rfl, fun e2 d2 hd2 he2 ne2 => ⟨_, _, rfl, ?_⟩⟩⟩
      obtain ⟨a1, a2, a3⟩ := fin 0 rfl "part" e1 d1 hd1 he1 ne1 e2 d2 hd2 he2 ne2
      exact ⟨_, rfl, _, rfl, _, rfl, e1, d1, _, v, rfl, a1, lk_one _ v, _, rfl, e2, d2, _, v, rfl, a2, lk_one _ v, sz_le (n := 4) (by decide), fun T hT => a3 T hT⟩
    · refine ⟨_, rfl, rfl, _, rfl, ifF (by decide) ⟨_, rfl, rfl, _, rfl, ifT (by decide) ?_⟩⟩
      refine ⟨_, rfl, rfl, fun e1 d1 hd1 he1 ne1 => ⟨_, rfl, rfl, fun e2 d2 hd2 he2 ne2 => ⟨_, _, rfl, ?_⟩⟩⟩
      obtain ⟨a1, a2, a3⟩ := fin 1 rfl "line" e1 d1 hd1 he1 ne1 e2 d2 hd2 he2 ne2
      exact ⟨_, rfl, _, rfl, _, rfl, e1, d1, _, v, rfl, a1, lk_one _ v, _, rfl, e2, d2, _, v, rfl, a2, lk_one _ v, sz_le (n := 4) (by decide), fun T hT => a3 T hT⟩
    · refine ⟨_, rfl, rfl, _, rfl, ifF (by decide) ⟨_, rfl, rfl, _, rfl, ifF (by decide) ⟨_, rfl, rfl, _, rfl, ifT (by decide) ?_⟩⟩⟩
      refine ⟨_, rfl, rfl, fun e1 d1 hd1 he1 ne1 => ⟨_, rfl, rfl, fun e2 d2 hd2 he2 ne2 => ⟨_, _, rfl, ?_⟩⟩⟩
      obtain ⟨a1, a2, a3⟩ := fin 2 rfl "thing" e1 d1 hd1 he1 ne1 e2 d2 hd2 he2 ne2
      exact ⟨_, rfl, _, rfl, _, rfl, e1, d1, _, v, rfl, a1, lk_one _ v, _, rfl, e2, d2, _, v, rfl, a2, lk_one _ v, sz_le (n := 4) (by decide), fun T hT => a3 T hT⟩
    · refine ⟨_, rfl, rfl, _, rfl, ifF (by decide) ⟨_, rfl, rfl, _, rfl, ifF (by decide) ⟨_, rfl, rfl, _, rfl, ifF (by decide) ⟨_, rfl, rfl, _, rfl, ifT (by decide) ?_⟩⟩⟩⟩
      refine ⟨_, rfl, rfl, fun e1 d1 hd1 he1 ne1 => ⟨_, rfl, rfl, fun e2 d2 hd2 he2 ne2 => ⟨_, _, rfl, ?_⟩⟩⟩
      obtain ⟨a1, a2, a3⟩ := fin 3 rfl "most" e1 d1 hd1 he1 ne1 e2 d2 hd2 he2 ne2
      exact ⟨_, rfl, _, rfl, _, rfl, e1, d1, _, v, rfl, a1, lk_one _ v, _, rfl, e2, d2, _, v, rfl, a2, lk_one _ v, sz_le (n := 4) (by decide), fun T hT => a3 T hT⟩
    · refine ⟨_, rfl, rfl, _, rfl, ifF (by decide) ⟨_, rfl, rfl, _, rfl, ifF (by decide) ⟨_, rfl, rfl, _, rfl, ifF (by decide) ⟨_, rfl, rfl, _, rfl, ifF (by decide) ⟨_, rfl, rfl, _, rfl, ifT (by decide) ?_⟩⟩⟩⟩⟩
      refine ⟨_, rfl, rfl, fun e1 d1 hd1 he1 ne1 => ⟨_, rfl, rfl, fun e2 d2 hd2 he2 ne2 => ⟨_, _, rfl, ?_⟩⟩⟩
      obtain ⟨a1, a2, a3⟩ := fin 4 rfl "part" e1 d1 hd1 he1 ne1 e2 d2 hd2 he2 ne2
      exact ⟨_, rfl, _, rfl, _, rfl, e1, d1, _, v, rfl, a1, lk_one _ v, _, rfl, e2, d2, _, v, rfl, a2, lk_one _ v, sz_le (n := 4) (by decide), fun T hT => a3 T hT⟩
    · refine ⟨_, rfl, rfl, _, rfl, ifF (by decide) ⟨_, rfl, rfl, _, rfl, ifF (by decide) ⟨_, rfl, rfl, _, rfl, ifF (by decide) ⟨_, rfl, rfl, _, rfl, ifF (by decide) ⟨_, rfl, rfl, _, rfl, ifF (by decide) ⟨_, rfl, rfl, _, rfl, ifT (by decide) ?_⟩⟩⟩⟩⟩⟩
      refine ⟨_, rfl, rfl, fun e1 d1 hd1 he1 ne1 => ⟨_, rfl, rfl, fun e2 d2 hd2 he2 ne2 => ⟨_, _, rfl, ?_⟩⟩⟩
      obtain ⟨a1, a2, a3⟩ := fin 5 rfl "part" e1 d1 hd1 he1 ne1 e2 d2 hd2 he2 ne2
      exact ⟨_, rfl, _, rfl, _, rfl, e1, d1, _, v, rfl, a1, lk_one _ v, _, rfl, e2, d2, _, v, rfl, a2, lk_one _ v, sz_le (n := 4) (by decide), fun T hT => a3 T hT⟩
    · refine ⟨_, rfl, rfl, _, rfl, ifF (by decide) ⟨_, rfl, rfl, _, rfl, ifF (by decide) ⟨_, rfl, rfl, _, rfl, ifF (by decide) ⟨_, rfl, rfl, _, rfl, ifF (by decide) ⟨_, rfl, rfl, _, rfl, ifF (by decide) ⟨_, rfl, rfl, _, rfl, ifF (by decide) ⟨_, rfl, rfl, _, rfl, ifT (by decide) ?_⟩⟩⟩⟩⟩⟩⟩
      refine ⟨_, rfl, rfl, fun e1 d1 hd1 he1 ne1 => ⟨_, rfl, rfl, fun e2 d2 hd2 he2 ne2 => ⟨_, _, rfl, ?_⟩⟩⟩
      obtain ⟨a1, a2, a3⟩ := fin 6 rfl "part" e1 d1 hd1 he1 ne1 e2 d2 hd2 he2 ne2
      exact ⟨_, rfl, _, rfl, _, rfl, e1, d1, _, v, rfl, a1, lk_one _ v, _, rfl, e2, d2, _, v, rfl, a2, lk_one _ v, sz_le (n := 4) (by decide), fun T hT => a3 T hT⟩
    · refine ⟨_, rfl, rfl, _, rfl, ifF (by decide) ⟨_, rfl, rfl, _, rfl, ifF (by decide) ⟨_, rfl, rfl, _, rfl, ifF (by decide) ⟨_, rfl, rfl, _, rfl, ifF (by decide) ⟨_, rfl, rfl, _, rfl, ifF (by decide) ⟨_, rfl, rfl, _, rfl, ifF (by decide) ⟨_, rfl, rfl, _, rfl, ifF (by decide) ⟨_, rfl, rfl, _, rfl, ifT (by decide) ?_⟩⟩⟩⟩⟩⟩⟩⟩
      refine ⟨_, rfl, rfl, fun e1 d1 hd1 he1 ne1 => ⟨_, rfl, rfl, fun e2 d2 hd2 he2 ne2 => ⟨_, _, rfl, ?_⟩⟩⟩
      obtain ⟨a1, a2, a3⟩ := fin 7 rfl "thing" e1 d1 hd1 he1 ne1 e2 d2 hd2 he2 ne2
      exact ⟨_, rfl, _, rfl, _, rfl, e1, d1, _, v, rfl, a1, lk_one _ v, _, rfl, e2, d2, _, v, rfl, a2, lk_one _ v, sz_le (n := 4) (by decide), fun T hT => a3 T hT⟩
    · refine ⟨_, rfl, rfl, _, rfl, ifF (by decide) ⟨_, rfl, rfl, _, rfl, ifF (by decide) ⟨_, rfl, rfl, _, rfl, ifF (by decide) ⟨_, rfl, rfl, _, rfl, ifF (by decide) ⟨_, rfl, rfl, _, rfl, ifF (by decide) ⟨_, rfl, rfl, _, rfl, ifF (by decide) ⟨_, rfl, rfl, _, rfl, ifF (by decide) ⟨_, rfl, rfl, _, rfl, ifF (by decide) ?_⟩⟩⟩⟩⟩⟩⟩⟩
      refine ⟨_, rfl, rfl, fun e1 d1 hd1 he1 ne1 => ⟨_, rfl, rfl, fun e2 d2 hd2 he2 ne2 => ⟨_, _, rfl, ?_⟩⟩⟩
      obtain ⟨a1, a2, a3⟩ := fin 8 rfl "most" e1 d1 hd1 he1 ne1 e2 d2 hd2 he2 ne2
      exact ⟨_, rfl, _, rfl, _, rfl, e1, d1, _, v, rfl, a1, lk_one _ v, _, rfl, e2, d2, _, v, rfl, a2, lk_one _ v, sz_le (n := 4) (by decide), fun T hT => a3 T hT⟩
theorem ok_mid {f : Addr} {fd : FuncData} (F : Fun K "_law_mid" "_law_mid" s__law_mid f fd)
    (T9 : ErrC K mg "BadCourse" (cl 9) (fi 9)) (N9 : MqV_place.Fn K "BadCourse.__init__" (cl 9) (fi 9)) (X9 : XfC K (cl 9)) (n9 : PySem.W.findIn K (.ref (cl 9)) "place" = some none)
    (T10 : ErrC K mg "BadWish" (cl 10) (fi 10)) (N10 : MqV_thing.Fn K "BadWish.__init__" (cl 10) (fi 10)) (X10 : XfC K (cl 10)) (n10 : PySem.W.findIn K (.ref (cl 10)) "thing" = some none)
    (T11 : ErrC K mg "Unsound" (cl 11) (fi 11)) (N11 : MqV_outcome.Fn K "Unsound.__init__" (cl 11) (fi 11)) (X11 : XfC K (cl 11)) (n11 : PySem.W.findIn K (.ref (cl 11)) "outcome" = some none)
    (T12 : ErrC K mg "BadProgram" (cl 12) (fi 12)) (N12 : MqV_part.Fn K "BadProgram.__init__" (cl 12) (fi 12)) (X12 : XfC K (cl 12)) (n12 : PySem.W.findIn K (.ref (cl 12)) "part" = some none)
    (T13 : ErrC K mg "BadDuel" (cl 13) (fi 13)) (N13 : MqV_part.Fn K "BadDuel.__init__" (cl 13) (fi 13)) (X13 : XfC K (cl 13)) (n13 : PySem.W.findIn K (.ref (cl 13)) "part" = some none)
    (T14 : ErrC K mg "Lost" (cl 14) (fi 14)) (N14 : MqV_paper.Fn K "Lost.__init__" (cl 14) (fi 14)) (X14 : XfC K (cl 14)) (n14 : PySem.W.findIn K (.ref (cl 14)) "paper" = some none)
    (T15 : ErrC K mg "NoMove" (cl 15) (fi 15)) (N15 : MqV_letter.Fn K "NoMove.__init__" (cl 15) (fi 15)) (X15 : XfC K (cl 15)) (n15 : PySem.W.findIn K (.ref (cl 15)) "letter" = some none)
    (T16 : ErrC K mg "BadRow" (cl 16) (fi 16)) (N16 : MqV_thing.Fn K "BadRow.__init__" (cl 16) (fi 16)) (X16 : XfC K (cl 16)) (n16 : PySem.W.findIn K (.ref (cl 16)) "thing" = some none)
    (T17 : ErrC K mg "BadPlace" (cl 17) (fi 17)) (N17 : MqV_place.Fn K "BadPlace.__init__" (cl 17) (fi 17)) (X17 : XfC K (cl 17)) (n17 : PySem.W.findIn K (.ref (cl 17)) "place" = some none)
    : FnOk P w K mg base CX0 2 f fd ["_law_at", "_law_it_here"] (spMade cl 9 18) := by
  refine F.ok sc__law_mid (fun vs H Q E h => ?_) (fun cdv A outer s H vs Q E hr h => ?_)
  · obtain ⟨_, _, rfl, _⟩ := h
    rfl
  · obtain ⟨at', v, rfl, h1, h2, q⟩ := h
    refine ⟨_, (pss_cons (ps_if (pt_cmpR op_eq (pv 0) pe_int (nomark _)) (pss_cons (ps_par (i := 2) (j := 3) rfl sc__law_mid.nd rfl rfl (by decide) rfl rfl (pa_cons (pe_mkP T9 hr (MqV_place.makes_pos T9 N9) (pa_cons (pv 1) pa_nil)) (pa_cons (pe_mkK (g := fun l => l) T9 hr (fun r => r) (MqV_place.makes_kw T9 N9) (pk_cons (pv 1) pk_nil)) pa_nil)) (by rfl)) (pss_one (ps_ret (pe_tup (pa_cons (pv 2) (pa_cons (pv 3) (pa_cons (pe_xv X9 n9 (pv 2)) (pa_cons (pe_xv X9 n9 (pv 3)) pa_nil)))))))) pss_nil)
      (pss_cons (ps_if (pt_cmpR op_eq (pv 0) pe_int (nomark _)) (pss_cons (ps_par (i := 2) (j := 3) rfl sc__law_mid.nd rfl rfl (by decide) rfl rfl (pa_cons (pe_mkP T10 hr (MqV_thing.makes_pos T10 N10) (pa_cons (pv 1) pa_nil)) (pa_cons (pe_mkK (g := fun l => l) T10 hr (fun r => r) (MqV_thing.makes_kw T10 N10) (pk_cons (pv 1) pk_nil)) pa_nil)) (by rfl)) (pss_one (ps_ret (pe_tup (pa_cons (pv 2) (pa_cons (pv 3) (pa_cons (pe_xv X10 n10 (pv 2)) (pa_cons (pe_xv X10 n10 (pv 3)) pa_nil)))))))) pss_nil)
      (pss_cons (ps_if (pt_cmpR op_eq (pv 0) pe_int (nomark _)) (pss_cons (ps_par (i := 2) (j := 3) rfl sc__law_mid.nd rfl rfl (by decide) rfl rfl (pa_cons (pe_mkP T11 hr (MqV_outcome.makes_pos T11 N11) (pa_cons (pv 1) pa_nil)) (pa_cons (pe_mkK (g := fun l => l) T11 hr (fun r => r) (MqV_outcome.makes_kw T11 N11) (pk_cons (pv 1) pk_nil)) pa_nil)) (by rfl)) (pss_one (ps_ret (pe_tup (pa_cons (pv 2) (pa_cons (pv 3) (pa_cons (pe_xv X11 n11 (pv 2)) (pa_cons (pe_xv X11 n11 (pv 3)) pa_nil)))))))) pss_nil)
      (pss_cons (ps_if (pt_cmpR op_eq (pv 0) pe_int (nomark _)) (pss_cons (ps_par (i := 2) (j := 3) rfl sc__law_mid.nd rfl rfl (by decide) rfl rfl (pa_cons (pe_mkP T12 hr (MqV_part.makes_pos T12 N12) (pa_cons (pv 1) pa_nil)) (pa_cons (pe_mkK (g := fun l => l) T12 hr (fun r => r) (MqV_part.makes_kw T12 N12) (pk_cons (pv 1) pk_nil)) pa_nil)) (by rfl)) (pss_one (ps_ret (pe_tup (pa_cons (pv 2) (pa_cons (pv 3) (pa_cons (pe_xv X12 n12 (pv 2)) (pa_cons (pe_xv X12 n12 (pv 3)) pa_nil)))))))) pss_nil)
      (pss_cons (ps_if (pt_cmpR op_eq (pv 0) pe_int (nomark _)) (pss_cons (ps_par (i := 2) (j := 3) rfl sc__law_mid.nd rfl rfl (by decide) rfl rfl (pa_cons (pe_mkP T13 hr (MqV_part.makes_pos T13 N13) (pa_cons (pv 1) pa_nil)) (pa_cons (pe_mkK (g := fun l => l) T13 hr (fun r => r) (MqV_part.makes_kw T13 N13) (pk_cons (pv 1) pk_nil)) pa_nil)) (by rfl)) (pss_one (ps_ret (pe_tup (pa_cons (pv 2) (pa_cons (pv 3) (pa_cons (pe_xv X13 n13 (pv 2)) (pa_cons (pe_xv X13 n13 (pv 3)) pa_nil)))))))) pss_nil)
      (pss_cons (ps_if (pt_cmpR op_eq (pv 0) pe_int (nomark _)) (pss_cons (ps_par (i := 2) (j := 3) rfl sc__law_mid.nd rfl rfl (by decide) rfl rfl (pa_cons (pe_mkP T14 hr (MqV_paper.makes_pos T14 N14) (pa_cons (pv 1) pa_nil)) (pa_cons (pe_mkK (g := fun l => l) T14 hr (fun r => r) (MqV_paper.makes_kw T14 N14) (pk_cons (pv 1) pk_nil)) pa_nil)) (by rfl)) (pss_one (ps_ret (pe_tup (pa_cons (pv 2) (pa_cons (pv 3) (pa_cons (pe_xv X14 n14 (pv 2)) (pa_cons (pe_xv X14 n14 (pv 3)) pa_nil)))))))) pss_nil)
      (pss_cons (ps_if (pt_cmpR op_eq (pv 0) pe_int (nomark _)) (pss_cons (ps_par (i := 2) (j := 3) rfl sc__law_mid.nd rfl rfl (by decide) rfl rfl (pa_cons (pe_mkP T15 hr (MqV_letter.makes_pos T15 N15) (pa_cons (pv 1) pa_nil)) (pa_cons (pe_mkK (g := fun l => l) T15 hr (fun r => r) (MqV_letter.makes_kw T15 N15) (pk_cons (pv 1) pk_nil)) pa_nil)) (by rfl)) (pss_one (ps_ret (pe_tup (pa_cons (pv 2) (pa_cons (pv 3) (pa_cons (pe_xv X15 n15 (pv 2)) (pa_cons (pe_xv X15 n15 (pv 3)) pa_nil)))))))) pss_nil)
      (pss_cons (ps_if (pt_cmpR op_eq (pv 0) pe_int (nomark _)) (pss_cons (ps_par (i := 2) (j := 3) rfl sc__law_mid.nd rfl rfl (by decide) rfl rfl (pa_cons (pe_mkP T16 hr (MqV_thing.makes_pos T16 N16) (pa_cons (pv 1) pa_nil)) (pa_cons (pe_mkK (g := fun l => l) T16 hr (fun r => r) (MqV_thing.makes_kw T16 N16) (pk_cons (pv 1) pk_nil)) pa_nil)) (by rfl)) (pss_one (ps_ret (pe_tup (pa_cons (pv 2) (pa_cons (pv 3) (pa_cons (pe_xv X16 n16 (pv 2)) (pa_cons (pe_xv X16 n16 (pv 3)) pa_nil)))))))) pss_nil)
      (pss_cons (ps_par (i := 2) (j := 3) rfl sc__law_mid.nd rfl rfl (by decide) rfl rfl (pa_cons (pe_mkP T17 hr (MqV_place.makes_pos T17 N17) (pa_cons (pv 1) pa_nil)) (pa_cons (pe_mkK (g := fun l => l) T17 hr (fun r => r) (MqV_place.makes_kw T17 N17) (pk_cons (pv 1) pk_nil)) pa_nil)) (by rfl)) (pss_one (ps_ret (pe_tup (pa_cons (pv 2) (pa_cons (pv 3) (pa_cons (pe_xv X17 n17 (pv 2)) (pa_cons (pe_xv X17 n17 (pv 3)) pa_nil)))))))))))))))), ?_⟩
    have fin := fun (i : Nat) (e : at' = i) => made_fin (cl := cl) (v := v) (Q := Q) (H := H) (i := i) (by rw [← e]; exact q)
    have hc : at' = 9 ∨ at' = 10 ∨ at' = 11 ∨ at' = 12 ∨ at' = 13 ∨ at' = 14 ∨ at' = 15 ∨ at' = 16 ∨ at' = 17 := by omega
    rcases hc with rfl | rfl | rfl | rfl | rfl | rfl | rfl | rfl | rfl
    · refine ⟨_, rfl, rfl, _, rfl, ifT (by decide) ?_⟩
      refine ⟨_, rfl, rfl, fun e1 d1 hd1 he1 ne1 => ⟨_, rfl, rfl, fun e2 d2 hd2 he2 ne2 => ⟨_, _, rfl, ?_⟩⟩⟩
      obtain ⟨a1, a2, a3⟩ := fin 9 rfl "place" e1 d1 hd1 he1 ne1 e2 d2 hd2 he2 ne2
      exact ⟨_, rfl, _, rfl, _, rfl, e1, d1, _, v, rfl, a1, lk_one _ v, _, rfl, e2, d2, _, v, rfl, a2, lk_one _ v, sz_le (n := 4) (by decide), fun T hT => a3 T hT⟩
    · refine ⟨_, rfl, rfl, _, rfl, ifF (by decide) ⟨_, rfl, rfl, _, rfl, ifT (by decide) ?_⟩⟩
      refine ⟨_, rfl, rfl, fun e1 d1 hd1 he1 ne1 => ⟨_, rfl, rfl, fun e2 d2 hd2 he2 ne2 => ⟨_, _, rfl, ?_⟩⟩⟩
      obtain ⟨a1, a2, a3⟩ := fin 10 rfl "thing" e1 d1 hd1 he1 ne1 e2 d2 hd2 he2 ne2
      exact ⟨_, rfl, _, rfl, _, rfl, e1, d1, _, v, rfl, a1, lk_one _ v, _, rfl, e2, d2, _, v, rfl, a2, lk_one _ v, sz_le (n := 4) (by decide), fun T hT => a3 T hT⟩
    · refine ⟨_, rfl, rfl, _, rfl, ifF (by decide) ⟨_, rfl, rfl, _, rfl, ifF (by decide) ⟨_, rfl, rfl, _, rfl, ifT (by decide) ?_⟩⟩⟩
      refine ⟨_, rfl, rfl, fun e1 d1 hd1 he1 ne1 => ⟨_, rfl, rfl, fun e2 d2 hd2 he2 ne2 => ⟨_, _, rfl, ?_⟩⟩⟩
      obtain ⟨a1, a2, a3⟩ := fin 11 rfl "outcome" e1 d1 hd1 he1 ne1 e2 d2 hd2 he2 ne2
      exact ⟨_, rfl, _, rfl, _, rfl, e1, d1, _, v, rfl, a1, lk_one _ v, _, rfl, e2, d2, _, v, rfl, a2, lk_one _ v, sz_le (n := 4) (by decide), fun T hT => a3 T hT⟩
    · refine ⟨_, rfl, rfl, _, rfl, ifF (by decide) ⟨_, rfl, rfl, _, rfl, ifF (by decide) ⟨_, rfl, rfl, _, rfl, ifF (by decide) ⟨_, rfl, rfl, _, rfl, ifT (by decide) ?_⟩⟩⟩⟩
      refine ⟨_, rfl, rfl, fun e1 d1 hd1 he1 ne1 => ⟨_, rfl, rfl, fun e2 d2 hd2 he2 ne2 => ⟨_, _, rfl, ?_⟩⟩⟩
      obtain ⟨a1, a2, a3⟩ := fin 12 rfl "part" e1 d1 hd1 he1 ne1 e2 d2 hd2 he2 ne2
      exact ⟨_, rfl, _, rfl, _, rfl, e1, d1, _, v, rfl, a1, lk_one _ v, _, rfl, e2, d2, _, v, rfl, a2, lk_one _ v, sz_le (n := 4) (by decide), fun T hT => a3 T hT⟩
    · refine ⟨_, rfl, rfl, _, rfl, ifF (by decide) ⟨_, rfl, rfl, _, rfl, ifF (by decide) ⟨_, rfl, rfl, _, rfl, ifF (by decide) ⟨_, rfl, rfl, _, rfl, ifF (by decide) ⟨_, rfl, rfl, _, rfl, ifT (by decide) ?_⟩⟩⟩⟩⟩
      refine ⟨_, rfl, rfl, fun e1 d1 hd1 he1 ne1 => ⟨_, rfl, rfl, fun e2 d2 hd2 he2 ne2 => ⟨_, _, rfl, ?_⟩⟩⟩
      obtain ⟨a1, a2, a3⟩ := fin 13 rfl "part" e1 d1 hd1 he1 ne1 e2 d2 hd2 he2 ne2
      exact ⟨_, rfl, _, rfl, _, rfl, e1, d1, _, v, rfl, a1, lk_one _ v, _, rfl, e2, d2, _, v, rfl, a2, lk_one _ v, sz_le (n := 4) (by decide), fun T hT => a3 T hT⟩
    · refine ⟨_, rfl, rfl, _, rfl, ifF (by decide) ⟨_, rfl, rfl, _, rfl, ifF (by decide) ⟨_, rfl, rfl, _, rfl, ifF (by decide) ⟨_, rfl, rfl, _, rfl, ifF (by decide) ⟨_, rfl, rfl, _, rfl, ifF (by decide) ⟨_, rfl, rfl, _, rfl, ifT (by decide) ?_⟩⟩⟩⟩⟩⟩
      refine ⟨_, rfl, rfl, fun e1 d1 hd1 he1 ne1 => ⟨_, rfl, rfl, fun e2 d2 hd2 he2 ne2 => ⟨_, _, rfl, ?_⟩⟩⟩
      obtain ⟨a1, a2, a3⟩ := fin 14 rfl "paper" e1 d1 hd1 he1 ne1 e2 d2 hd2 he2 ne2
      exact ⟨_, rfl, _, rfl, _, rfl, e1, d1, _, v, rfl, a1, lk_one _ v, _, rfl, e2, d2, _, v, rfl, a2, lk_one _ v, sz_le (n := 4) (by decide), fun T hT => a3 T hT⟩
    · refine ⟨_, rfl, rfl, _, rfl, ifF (by decide) ⟨_, rfl, rfl, _, rfl, ifF (by decide) ⟨_, rfl, rfl, _, rfl, ifF (by decide) ⟨_, rfl, rfl, _, rfl, ifF (by decide) ⟨_, rfl, rfl, _, rfl, ifF (by decide) ⟨_, rfl, rfl, _, rfl, ifF (by decide) ⟨_, rfl, rfl, _, rfl, ifT (by decide) ?_⟩⟩⟩⟩⟩⟩⟩
      refine ⟨_, rfl, rfl, fun e1 d1 hd1 he1 ne1 => ⟨_, rfl, rfl, fun e2 d2 hd2 he2 ne2 => ⟨_, _, rfl, ?_⟩⟩⟩
      obtain ⟨a1, a2, a3⟩ := fin 15 rfl "letter" e1 d1 hd1 he1 ne1 e2 d2 hd2 he2 ne2
      exact ⟨_, rfl, _, rfl, _, rfl, e1, d1, _, v, rfl, a1, lk_one _ v, _, rfl, e2, d2, _, v, rfl, a2, lk_one _ v, sz_le (n := 4) (by decide), fun T hT => a3 T hT⟩
    · refine ⟨_, rfl, rfl, _, rfl, ifF (by decide) ⟨_, rfl, rfl, _, rfl, ifF (by decide) ⟨_, rfl, rfl, _, rfl, ifF (by decide) ⟨_, rfl, rfl, _, rfl, ifF (by decide) ⟨_, rfl, rfl, _, rfl, ifF (by decide) ⟨_, rfl, rfl, _, rfl, ifF (by decide) ⟨_, rfl, rfl, _, rfl, ifF (by decide) ⟨_, rfl, rfl, _, rfl, ifT (by decide) ?_⟩⟩⟩⟩⟩⟩⟩⟩
      refine ⟨_, rfl, rfl, fun e1 d1 hd1 he1 ne1 => ⟨_, rfl, rfl, fun e2 d2 hd2 he2 ne2 => ⟨_, _, rfl, ?_⟩⟩⟩
      obtain ⟨a1, a2, a3⟩ := fin 16 rfl "thing" e1 d1 hd1 he1 ne1 e2 d2 hd2 he2 ne2
      exact ⟨_, rfl, _, rfl, _, rfl, e1, d1, _, v, rfl, a1, lk_one _ v, _, rfl, e2, d2, _, v, rfl, a2, lk_one _ v, sz_le (n := 4) (by decide), fun T hT => a3 T hT⟩
    · refine ⟨_, rfl, rfl, _, rfl, ifF (by decide) ⟨_, rfl, rfl, _, rfl, ifF (by decide) ⟨_, rfl, rfl, _, rfl, ifF (by decide) ⟨_, rfl, rfl, _, rfl, ifF (by decide) ⟨_, rfl, rfl, _, rfl, ifF (by decide) ⟨_, rfl, rfl, _, rfl, ifF (by decide) ⟨_, rfl, rfl, _, rfl, ifF (by decide) ⟨_, rfl, rfl, _, rfl, ifF (by decide) ?_⟩⟩⟩⟩⟩⟩⟩⟩
      refine ⟨_, rfl, rfl, fun e1 d1 hd1 he1 ne1 => ⟨_, rfl, rfl, fun e2 d2 hd2 he2 ne2 => ⟨_, _, rfl, ?_⟩⟩⟩
      obtain ⟨a1, a2, a3⟩ := fin 17 rfl "place" e1 d1 hd1 he1 ne1 e2 d2 hd2 he2 ne2
      exact ⟨_, rfl, _, rfl, _, rfl, e1, d1, _, v, rfl, a1, lk_one _ v, _, rfl, e2, d2, _, v, rfl, a2, lk_one _ v, sz_le (n := 4) (by decide), fun T hT => a3 T hT⟩
theorem ok_far {f : Addr} {fd : FuncData} (F : Fun K "_law_far" "_law_far" s__law_far f fd)
    (T18 : ErrC K mg "Full" (cl 18) (fi 18)) (N18 : MqV_part.Fn K "Full.__init__" (cl 18) (fi 18)) (X18 : XfC K (cl 18)) (n18 : PySem.W.findIn K (.ref (cl 18)) "part" = some none)
    (T19 : ErrC K mg "NoHand" (cl 19) (fi 19)) (N19 : MqV_number.Fn K "NoHand.__init__" (cl 19) (fi 19)) (X19 : XfC K (cl 19)) (n19 : PySem.W.findIn K (.ref (cl 19)) "number" = some none)
    (T20 : ErrC K mg "Waits" (cl 20) (fi 20)) (N20 : MqV_number.Fn K "Waits.__init__" (cl 20) (fi 20)) (X20 : XfC K (cl 20)) (n20 : PySem.W.findIn K (.ref (cl 20)) "number" = some none)
    (T21 : ErrC K mg "BadDeed" (cl 21) (fi 21)) (N21 : MqV_thing.Fn K "BadDeed.__init__" (cl 21) (fi 21)) (X21 : XfC K (cl 21)) (n21 : PySem.W.findIn K (.ref (cl 21)) "thing" = some none)
    (T22 : ErrC K mg "NoWish" (cl 22) (fi 22)) (N22 : MqV_number.Fn K "NoWish.__init__" (cl 22) (fi 22)) (X22 : XfC K (cl 22)) (n22 : PySem.W.findIn K (.ref (cl 22)) "number" = some none)
    (T23 : ErrC K mg "BadName" (cl 23) (fi 23)) (N23 : MqV_name.Fn K "BadName.__init__" (cl 23) (fi 23)) (X23 : XfC K (cl 23)) (n23 : PySem.W.findIn K (.ref (cl 23)) "name" = some none)
    (T24 : ErrC K mg "NoName" (cl 24) (fi 24)) (N24 : MqV_name.Fn K "NoName.__init__" (cl 24) (fi 24)) (X24 : XfC K (cl 24)) (n24 : PySem.W.findIn K (.ref (cl 24)) "name" = some none)
    (T25 : ErrC K mg "BadPromise" (cl 25) (fi 25)) (N25 : MqV_thing.Fn K "BadPromise.__init__" (cl 25) (fi 25)) (X25 : XfC K (cl 25)) (n25 : PySem.W.findIn K (.ref (cl 25)) "thing" = some none)
    : FnOk P w K mg base CX0 2 f fd ["_law_at", "_law_it_here"] (spMade cl 18 26) := by
  refine F.ok sc__law_far (fun vs H Q E h => ?_) (fun cdv A outer s H vs Q E hr h => ?_)
  · obtain ⟨_, _, rfl, _⟩ := h
    rfl
  · obtain ⟨at', v, rfl, h1, h2, q⟩ := h
    refine ⟨_, (pss_cons (ps_if (pt_cmpR op_eq (pv 0) pe_int (nomark _)) (pss_cons (ps_par (i := 2) (j := 3) rfl sc__law_far.nd rfl rfl (by decide) rfl rfl (pa_cons (pe_mkP T18 hr (MqV_part.makes_pos T18 N18) (pa_cons (pv 1) pa_nil)) (pa_cons (pe_mkK (g := fun l => l) T18 hr (fun r => r) (MqV_part.makes_kw T18 N18) (pk_cons (pv 1) pk_nil)) pa_nil)) (by rfl)) (pss_one (ps_ret (pe_tup (pa_cons (pv 2) (pa_cons (pv 3) (pa_cons (pe_xv X18 n18 (pv 2)) (pa_cons (pe_xv X18 n18 (pv 3)) pa_nil)))))))) pss_nil)
      (pss_cons (ps_if (pt_cmpR op_eq (pv 0) pe_int (nomark _)) (pss_cons (ps_par (i := 2) (j := 3) rfl sc__law_far.nd rfl rfl (by decide) rfl rfl (pa_cons (pe_mkP T19 hr (MqV_number.makes_pos T19 N19) (pa_cons (pv 1) pa_nil)) (pa_cons (pe_mkK (g := fun l => l) T19 hr (fun r => r) (MqV_number.makes_kw T19 N19) (pk_cons (pv 1) pk_nil)) pa_nil)) (by rfl)) (pss_one (ps_ret (pe_tup (pa_cons (pv 2) (pa_cons (pv 3) (pa_cons (pe_xv X19 n19 (pv 2)) (pa_cons (pe_xv X19 n19 (pv 3)) pa_nil)))))))) pss_nil)
      (pss_cons (ps_if (pt_cmpR op_eq (pv 0) pe_int (nomark _)) (pss_cons (ps_par (i := 2) (j := 3) rfl sc__law_far.nd rfl rfl (by decide) rfl rfl (pa_cons (pe_mkP T20 hr (MqV_number.makes_pos T20 N20) (pa_cons (pv 1) pa_nil)) (pa_cons (pe_mkK (g := fun l => l) T20 hr (fun r => r) (MqV_number.makes_kw T20 N20) (pk_cons (pv 1) pk_nil)) pa_nil)) (by rfl)) (pss_one (ps_ret (pe_tup (pa_cons (pv 2) (pa_cons (pv 3) (pa_cons (pe_xv X20 n20 (pv 2)) (pa_cons (pe_xv X20 n20 (pv 3)) pa_nil)))))))) pss_nil)
      (pss_cons (ps_if (pt_cmpR op_eq (pv 0) pe_int (nomark _)) (pss_cons (ps_par (i := 2) (j := 3) rfl sc__law_far.nd rfl rfl (by decide) rfl rfl (pa_cons (pe_mkP T21 hr (MqV_thing.makes_pos T21 N21) (pa_cons (pv 1) pa_nil)) (pa_cons (pe_mkK (g := fun l => l) T21 hr (fun r => r) (MqV_thing.makes_kw T21 N21) (pk_cons (pv 1) pk_nil)) pa_nil)) (by rfl)) (pss_one (ps_ret (pe_tup (pa_cons (pv 2) (pa_cons (pv 3) (pa_cons (pe_xv X21 n21 (pv 2)) (pa_cons (pe_xv X21 n21 (pv 3)) pa_nil)))))))) pss_nil)
      (pss_cons (ps_if (pt_cmpR op_eq (pv 0) pe_int (nomark _)) (pss_cons (ps_par (i := 2) (j := 3) rfl sc__law_far.nd rfl rfl (by decide) rfl rfl (pa_cons (pe_mkP T22 hr (MqV_number.makes_pos T22 N22) (pa_cons (pv 1) pa_nil)) (pa_cons (pe_mkK (g := fun l => l) T22 hr (fun r => r) (MqV_number.makes_kw T22 N22) (pk_cons (pv 1) pk_nil)) pa_nil)) (by rfl)) (pss_one (ps_ret (pe_tup (pa_cons (pv 2) (pa_cons (pv 3) (pa_cons (pe_xv X22 n22 (pv 2)) (pa_cons (pe_xv X22 n22 (pv 3)) pa_nil)))))))) pss_nil)
      (pss_cons (ps_if (pt_cmpR op_eq (pv 0) pe_int (nomark _)) (pss_cons (ps_par (i := 2) (j := 3) rfl sc__law_far.nd rfl rfl (by decide) rfl rfl (pa_cons (pe_mkP T23 hr (MqV_name.makes_pos T23 N23) (pa_cons (pv 1) pa_nil)) (pa_cons (pe_mkK (g := fun l => l) T23 hr (fun r => r) (MqV_name.makes_kw T23 N23) (pk_cons (pv 1) pk_nil)) pa_nil)) (by rfl)) (pss_one (ps_ret (pe_tup (pa_cons (pv 2) (pa_cons (pv 3) (pa_cons (pe_xv X23 n23 (pv 2)) (pa_cons (pe_xv X23 n23 (pv 3)) pa_nil)))))))) pss_nil)
      (pss_cons (ps_if (pt_cmpR op_eq (pv 0) pe_int (nomark _)) (pss_cons (ps_par (i := 2) (j := 3) rfl sc__law_far.nd rfl rfl (by decide) rfl rfl (pa_cons (pe_mkP T24 hr (MqV_name.makes_pos T24 N24) (pa_cons (pv 1) pa_nil)) (pa_cons (pe_mkK (g := fun l => l) T24 hr (fun r => r) (MqV_name.makes_kw T24 N24) (pk_cons (pv 1) pk_nil)) pa_nil)) (by rfl)) (pss_one (ps_ret (pe_tup (pa_cons (pv 2) (pa_cons (pv 3) (pa_cons (pe_xv X24 n24 (pv 2)) (pa_cons (pe_xv X24 n24 (pv 3)) pa_nil)))))))) pss_nil)
      (pss_cons (ps_par (i := 2) (j := 3) rfl sc__law_far.nd rfl rfl (by decide) rfl rfl (pa_cons (pe_mkP T25 hr (MqV_thing.makes_pos T25 N25) (pa_cons (pv 1) pa_nil)) (pa_cons (pe_mkK (g := fun l => l) T25 hr (fun r => r) (MqV_thing.makes_kw T25 N25) (pk_cons (pv 1) pk_nil)) pa_nil)) (by rfl)) (pss_one (ps_ret (pe_tup (pa_cons (pv 2) (pa_cons (pv 3) (pa_cons (pe_xv X25 n25 (pv 2)) (pa_cons (pe_xv X25 n25 (pv 3)) pa_nil))))))))))))))), ?_⟩
    have fin := fun (i : Nat) (e : at' = i) => made_fin (cl := cl) (v := v) (Q := Q) (H := H) (i := i) (by rw [← e]; exact q)
    have hc : at' = 18 ∨ at' = 19 ∨ at' = 20 ∨ at' = 21 ∨ at' = 22 ∨ at' = 23 ∨ at' = 24 ∨ at' = 25 := by omega
    rcases hc with rfl | rfl | rfl | rfl | rfl | rfl | rfl | rfl
    · refine ⟨_, rfl, rfl, _, rfl, ifT (by decide) ?_⟩
      refine ⟨_, rfl, rfl, fun e1 d1 hd1 he1 ne1 => ⟨_, rfl, rfl, fun e2 d2 hd2 he2 ne2 => ⟨_, _, rfl, ?_⟩⟩⟩
      obtain ⟨a1, a2, a3⟩ := fin 18 rfl "part" e1 d1 hd1 he1 ne1 e2 d2 hd2 he2 ne2
      exact ⟨_, rfl, _, rfl, _, rfl, e1, d1, _, v, rfl, a1, lk_one _ v, _, rfl, e2, d2, _, v, rfl, a2, lk_one _ v, sz_le (n := 4) (by decide), fun T hT => a3 T hT⟩
    · refine ⟨_, rfl, rfl, _, rfl, ifF (by decide) ⟨_, rfl, rfl, _, rfl, ifT (by decide) ?_⟩⟩
      refine ⟨_, rfl, rfl, fun e1 d1 hd1 he1 ne1 => ⟨_, rfl, rfl, fun e2 d2 hd2 he2 ne2 => ⟨_, _, rfl, ?_⟩⟩⟩
      obtain ⟨a1, a2, a3⟩ := fin 19 rfl "number" e1 d1 hd1 he1 ne1 e2 d2 hd2 he2 ne2
      exact ⟨_, rfl, _, rfl, _, rfl, e1, d1, _, v, rfl, a1, lk_one _ v, _, rfl, e2, d2, _, v, rfl, a2, lk_one _ v, sz_le (n := 4) (by decide), fun T hT => a3 T hT⟩
    · refine ⟨_, rfl, rfl, _, rfl, ifF (by decide) ⟨_, rfl, rfl, _, rfl, ifF (by decide) ⟨_, rfl, rfl, _, rfl, ifT (by decide) ?_⟩⟩⟩
      refine ⟨_, rfl, rfl, fun e1 d1 hd1 he1 ne1 => ⟨_, rfl, rfl, fun e2 d2 hd2 he2 ne2 => ⟨_, _, rfl, ?_⟩⟩⟩
      obtain ⟨a1, a2, a3⟩ := fin 20 rfl "number" e1 d1 hd1 he1 ne1 e2 d2 hd2 he2 ne2
      exact ⟨_, rfl, _, rfl, _, rfl, e1, d1, _, v, rfl, a1, lk_one _ v, _, rfl, e2, d2, _, v, rfl, a2, lk_one _ v, sz_le (n := 4) (by decide), fun T hT => a3 T hT⟩
    · refine ⟨_, rfl, rfl, _, rfl, ifF (by decide) ⟨_, rfl, rfl, _, rfl, ifF (by decide) ⟨_, rfl, rfl, _, rfl, ifF (by decide) ⟨_, rfl, rfl, _, rfl, ifT (by decide) ?_⟩⟩⟩⟩
      refine ⟨_, rfl, rfl, fun e1 d1 hd1 he1 ne1 => ⟨_, rfl, rfl, fun e2 d2 hd2 he2 ne2 => ⟨_, _, rfl, ?_⟩⟩⟩
      obtain ⟨a1, a2, a3⟩ := fin 21 rfl "thing" e1 d1 hd1 he1 ne1 e2 d2 hd2 he2 ne2
      exact ⟨_, rfl, _, rfl, _, rfl, e1, d1, _, v, rfl, a1, lk_one _ v, _, rfl, e2, d2, _, v, rfl, a2, lk_one _ v, sz_le (n := 4) (by decide), fun T hT => a3 T hT⟩
    · refine ⟨_, rfl, rfl, _, rfl, ifF (by decide) ⟨_, rfl, rfl, _, rfl, ifF (by decide) ⟨_, rfl, rfl, _, rfl, ifF (by decide) ⟨_, rfl, rfl, _, rfl, ifF (by decide) ⟨_, rfl, rfl, _, rfl, ifT (by decide) ?_⟩⟩⟩⟩⟩
      refine ⟨_, rfl, rfl, fun e1 d1 hd1 he1 ne1 => ⟨_, rfl, rfl, fun e2 d2 hd2 he2 ne2 => ⟨_, _, rfl, ?_⟩⟩⟩
      obtain ⟨a1, a2, a3⟩ := fin 22 rfl "number" e1 d1 hd1 he1 ne1 e2 d2 hd2 he2 ne2
      exact ⟨_, rfl, _, rfl, _, rfl, e1, d1, _, v, rfl, a1, lk_one _ v, _, rfl, e2, d2, _, v, rfl, a2, lk_one _ v, sz_le (n := 4) (by decide), fun T hT => a3 T hT⟩
    · refine ⟨_, rfl, rfl, _, rfl, ifF (by decide) ⟨_, rfl, rfl, _, rfl, ifF (by decide) ⟨_, rfl, rfl, _, rfl, ifF (by decide) ⟨_, rfl, rfl, _, rfl, ifF (by decide) ⟨_, rfl, rfl, _, rfl, ifF (by decide) ⟨_, rfl, rfl, _, rfl, ifT (by decide) ?_⟩⟩⟩⟩⟩⟩
      refine ⟨_, rfl, rfl, fun e1 d1 hd1 he1 ne1 => ⟨_, rfl, rfl, fun e2 d2 hd2 he2 ne2 => ⟨_, _, rfl, ?_⟩⟩⟩
      obtain ⟨a1, a2, a3⟩ := fin 23 rfl "name" e1 d1 hd1 he1 ne1 e2 d2 hd2 he2 ne2
      exact ⟨_, rfl, _, rfl, _, rfl, e1, d1, _, v, rfl, a1, lk_one _ v, _, rfl, e2, d2, _, v, rfl, a2, lk_one _ v, sz_le (n := 4) (by decide), fun T hT => a3 T hT⟩
    · refine ⟨_, rfl, rfl, _, rfl, ifF (by decide) ⟨_, rfl, rfl, _, rfl, ifF (by decide) ⟨_, rfl, rfl, _, rfl, ifF (by decide) ⟨_, rfl, rfl, _, rfl, ifF (by decide) ⟨_, rfl, rfl, _, rfl, ifF (by decide) ⟨_, rfl, rfl, _, rfl, ifF (by decide) ⟨_, rfl, rfl, _, rfl, ifT (by decide) ?_⟩⟩⟩⟩⟩⟩⟩
      refine ⟨_, rfl, rfl, fun e1 d1 hd1 he1 ne1 => ⟨_, rfl, rfl, fun e2 d2 hd2 he2 ne2 => ⟨_, _, rfl, ?_⟩⟩⟩
      obtain ⟨a1, a2, a3⟩ := fin 24 rfl "name" e1 d1 hd1 he1 ne1 e2 d2 hd2 he2 ne2
      exact ⟨_, rfl, _, rfl, _, rfl, e1, d1, _, v, rfl, a1, lk_one _ v, _, rfl, e2, d2, _, v, rfl, a2, lk_one _ v, sz_le (n := 4) (by decide), fun T hT => a3 T hT⟩
    · refine ⟨_, rfl, rfl, _, rfl, ifF (by decide) ⟨_, rfl, rfl, _, rfl, ifF (by decide) ⟨_, rfl, rfl, _, rfl, ifF (by decide) ⟨_, rfl, rfl, _, rfl, ifF (by decide) ⟨_, rfl, rfl, _, rfl, ifF (by decide) ⟨_, rfl, rfl, _, rfl, ifF (by decide) ⟨_, rfl, rfl, _, rfl, ifF (by decide) ?_⟩⟩⟩⟩⟩⟩⟩
      refine ⟨_, rfl, rfl, fun e1 d1 hd1 he1 ne1 => ⟨_, rfl, rfl, fun e2 d2 hd2 he2 ne2 => ⟨_, _, rfl, ?_⟩⟩⟩
      obtain ⟨a1, a2, a3⟩ := fin 25 rfl "thing" e1 d1 hd1 he1 ne1 e2 d2 hd2 he2 ne2
      exact ⟨_, rfl, _, rfl, _, rfl, e1, d1, _, v, rfl, a1, lk_one _ v, _, rfl, e2, d2, _, v, rfl, a2, lk_one _ v, sz_le (n := 4) (by decide), fun T hT => a3 T hT⟩
end
end Lw

namespace Lw
open PySem PySem.Spec PyProof.Rows L2 Mq
open SX (S)
structure ShowOk (d : PyData) : Prop where
  sh : d.showable = true
  de : d.depth ≤ 40
  le : d.shown.length ≤ sizeLine
theorem lk_two1 {f g : Str} (u v : V) : List.lookup f (([f, g] : List Str).zip [u, v]) = some u := by simp [List.lookup]
theorem lk_two2 {f g : Str} (h : (g == f) = false) (u v : V) : List.lookup g (([f, g] : List Str).zip [u, v]) = some v := by simp [List.lookup, h]
def spBoth (K : PySem.W.Frag) (cl : Nat → Addr) : Sp := fun vs H Q _ => ∃ (at' : Nat) (u v : V) (a b : PyData), vs = [.int (at' : Nat), u, v] ∧ 26 ≤ at' ∧ at' < 28 ∧ Dg K H u a ∧ Dg K H v b ∧ ShowOk (.list [a, b, a, b]) ∧
  ∀ H' T e1 e2, Same H H' → H' T = some (.tup [.ref e1, .ref e2, .bl true]) → ErrW H' (cl at') e1 → ErrW H' (cl at') e2 → Q (.ref T) H'
def spBare (cl : Nat → Addr) : Sp := fun vs H Q _ => ∃ at' : Nat, vs = [.int (at' : Nat)] ∧ 28 ≤ at' ∧ at' < 34 ∧ ∀ H' e, Same H H' → ErrW H' (cl at') e → Q (.ref e) H'
def spKinds (cl : Nat → Addr) : Sp := fun vs H Q _ => ∃ (at' : Nat) (e : Addr), vs = [.ref e] ∧ at' < 34 ∧ ErrW H (cl at') e ∧
  ∀ H' p, Same H H' → H' p = some (.lst ((List.range 34).map fun k => .bl (decide (at' = k)))) → Q (.ref p) H'
/-- what the written part says of all classes -/
structure AllC (K : PySem.W.Frag) (mg : Str → Option Value) (cl : Nat → Addr) (CM : Addr) : Prop where
  held : ∀ i, i < 34 → HeldC K (cl i)
  kit : ∀ i j, i < 34 → j < 34 → PySem.W.kitOne K (.ref (cl i)) (.ref (cl j)) = some (decide (i = j))
  mill : ∀ i, i < 34 → PySem.W.kitOne K (.ref (cl i)) (.ref CM) = some true
  exc : ∀ i, i < 34 → PySem.W.kitOne K (.ref (cl i)) (.type "Exception") = some true
  oth : ∀ i, i < 34 → ∀ n ∈ ["ValueError", "TypeError", "LookupError", "ArithmeticError", "RuntimeError", "AttributeError"], PySem.W.kitOne K (.ref (cl i)) (.type n) = some false
  gM : mg "MillError" = some (.ref CM)
  nx : ∀ n : String, n ∈ ["Exception", "ValueError", "TypeError", "LookupError", "ArithmeticError", "RuntimeError", "AttributeError"] → mg (PySem.Str.ofString n) = none
section
variable {P : Program} {w : World} {K : PySem.W.Frag} {mg : Str → Option Value} {base : Heap} {cl fi : Nat → Addr} {CM : Addr}
theorem ok_made {f fN fD fF : Addr} {fd fdN fdD fdF : FuncData} (F : Fun K "_law_made" "_law_made" s__law_made f fd)
    (FN : Fun K "_law_near" "_law_near" s__law_near fN fdN) (gN : mg "_law_near" = some (.ref fN)) (bN : Binds K fdN ["_law_at", "_law_it_here"] []) (GN : FnOk P w K mg base CX0 2 fN fdN ["_law_at", "_law_it_here"] (spMade cl 0 9))
    (FD : Fun K "_law_mid" "_law_mid" s__law_mid fD fdD) (gD : mg "_law_mid" = some (.ref fD)) (bD : Binds K fdD ["_law_at", "_law_it_here"] []) (GD : FnOk P w K mg base CX0 2 fD fdD ["_law_at", "_law_it_here"] (spMade cl 9 18))
    (FF : Fun K "_law_far" "_law_far" s__law_far fF fdF) (gF : mg "_law_far" = some (.ref fF)) (bF : Binds K fdF ["_law_at", "_law_it_here"] []) (GF : FnOk P w K mg base CX0 2 fF fdF ["_law_at", "_law_it_here"] (spMade cl 18 26)) :
    FnOk P w K mg base CX0 3 f fd ["_law_at", "_law_it_here"] (spMade cl 0 26) := by
  refine F.ok sc__law_made (fun vs H Q E h => ?_) (fun cdv A outer s H vs Q E hr h => ?_)
  · obtain ⟨_, _, rfl, _⟩ := h
    rfl
  · obtain ⟨at', v, rfl, h1, h2, q⟩ := h
    refine ⟨_, (pss_cons (ps_if (pt_cmpR op_lt (pv 0) pe_int (nomark _)) (pss_one (ps_ret (pe_call GN (hr.mono (by decide)) (by rfl) gN FN.kp bN .nil pass0 (pa_cons (pv 0) (pa_cons (pv 1) pa_nil))))) pss_nil)
      (pss_one (ps_ret (pe_ifExp (pt_cmpR op_lt (pv 0) pe_int (nomark _)) (pe_call GD (hr.mono (by decide)) (by rfl) gD FD.kp bD .nil pass0 (pa_cons (pv 0) (pa_cons (pv 1) pa_nil))) (pe_call GF (hr.mono (by decide)) (by rfl) gF FF.kp bF .nil pass0 (pa_cons (pv 0) (pa_cons (pv 1) pa_nil))))))), ?_⟩
    refine ⟨_, rfl, _, _, rfl, rfl, _, rfl, ite2 (fun hc => ?_) (fun hc => ?_)⟩
    · have hc' : ((at' : Nat) : Int) < 9 := of_decide_eq_true hc
      exact ⟨_, rfl, _, rfl, at', v, rfl, by omega, by omega, q⟩
    · have hc' : ¬ ((at' : Nat) : Int) < 9 := fun z => hc (decide_eq_true z)
      refine ⟨_, rfl, _, _, rfl, rfl, _, rfl, ite2 (fun hd => ?_) (fun hd => ?_)⟩
      · have hd' : ((at' : Nat) : Int) < 18 := of_decide_eq_true hd
        exact ⟨_, rfl, _, rfl, at', v, rfl, by omega, by omega, q⟩
      · have hd' : ¬ ((at' : Nat) : Int) < 18 := fun z => hd (decide_eq_true z)
        exact ⟨_, rfl, _, rfl, at', v, rfl, by omega, by omega, q⟩
theorem ok_both {f : Addr} {fd : FuncData} (F : Fun K "_law_both" "_law_both" s__law_both f fd) (B : Blt mg)
    (T26 : ErrC K mg "Merged" (cl 26) (fi 26)) (N26 : MqV_web_further.Fn K "Merged.__init__" (cl 26) (fi 26)) (X26 : XfC K (cl 26)) (n26a : PySem.W.findIn K (.ref (cl 26)) "web" = some none) (n26b : PySem.W.findIn K (.ref (cl 26)) "further" = some none)
    (T27 : ErrC K mg "Broken" (cl 27) (fi 27)) (N27 : MqV_promise_paper.Fn K "Broken.__init__" (cl 27) (fi 27)) (X27 : XfC K (cl 27)) (n27a : PySem.W.findIn K (.ref (cl 27)) "promise" = some none) (n27b : PySem.W.findIn K (.ref (cl 27)) "paper" = some none) :
    FnG P w K mg base CX0 2 f fd ["_law_at", "_law_it_here", "_law_that"] (spBoth K cl) := by
  refine Mq.Fun.okG F sc__law_both (fun vs H Q E h => ?_) (fun cdv A outer s H vs Q E gA hr h => ?_)
  · obtain ⟨_, _, _, _, _, rfl, _⟩ := h
    rfl
  · obtain ⟨at', u, v, a, b, rfl, h1, h2, ha, hb, ok, q⟩ := h
    refine ⟨_, (pss_cons (ps_if (pt_cmpR op_eq (pv 0) pe_int (nomark _)) (pss_cons (ps_par (i := 3) (j := 4) rfl sc__law_both.nd rfl rfl (by decide) rfl rfl (pa_cons (pe_mkP T26 hr (MqV_web_further.makes_pos T26 N26) (pa_cons (pv 1) (pa_cons (pv 2) pa_nil))) (pa_cons (pe_mkK (g := fun l => l.reverse) T26 hr vals_rev (MqV_web_further.makes_kw T26 N26) (pk_cons (pv 2) (pk_cons (pv 1) pk_nil))) pa_nil)) (by rfl)) (pss_one (ps_ret (pe_tup (pa_cons (pv 3) (pa_cons (pv 4) (pa_cons (pe_cmpR op_eq (pe_callB (call_rep hr gA) (by rfl) B.repr (by decide +kernel) (pa_cons (Mq.pe_ls (pa_cons (pe_xv X26 n26a (pv 3)) (pa_cons (pe_xv X26 n26b (pv 3)) (pa_cons (pe_xv X26 n26a (pv 4)) (pa_cons (pe_xv X26 n26b (pv 4)) pa_nil))))) pa_nil)) (pe_callB (call_rep hr gA) (by rfl) B.repr (by decide +kernel) (pa_cons (Mq.pe_ls (pa_cons (pv 1) (pa_cons (pv 2) (pa_cons (pv 1) (pa_cons (pv 2) pa_nil))))) pa_nil)) (nomark _)) pa_nil))))))) pss_nil)
      (pss_cons (ps_par (i := 3) (j := 4) rfl sc__law_both.nd rfl rfl (by decide) rfl rfl (pa_cons (pe_mkP T27 hr (MqV_promise_paper.makes_pos T27 N27) (pa_cons (pv 1) (pa_cons (pv 2) pa_nil))) (pa_cons (pe_mkK (g := fun l => l.reverse) T27 hr vals_rev (MqV_promise_paper.makes_kw T27 N27) (pk_cons (pv 2) (pk_cons (pv 1) pk_nil))) pa_nil)) (by rfl)) (pss_one (ps_ret (pe_tup (pa_cons (pv 3) (pa_cons (pv 4) (pa_cons (pe_cmpR op_eq (pe_callB (call_rep hr gA) (by rfl) B.repr (by decide +kernel) (pa_cons (Mq.pe_ls (pa_cons (pe_xv X27 n27a (pv 3)) (pa_cons (pe_xv X27 n27b (pv 3)) (pa_cons (pe_xv X27 n27a (pv 4)) (pa_cons (pe_xv X27 n27b (pv 4)) pa_nil))))) pa_nil)) (pe_callB (call_rep hr gA) (by rfl) B.repr (by decide +kernel) (pa_cons (Mq.pe_ls (pa_cons (pv 1) (pa_cons (pv 2) (pa_cons (pv 1) (pa_cons (pv 2) pa_nil))))) pa_nil)) (nomark _)) pa_nil)))))))), ?_⟩
    have hc : at' = 26 ∨ at' = 27 := by omega
    rcases hc with rfl | rfl
    · refine ⟨_, rfl, rfl, _, rfl, ifT (by decide) ?_⟩
      refine ⟨_, rfl, _, rfl, rfl, fun e1 d1 hd1 he1 ne1 => ⟨_, rfl, _, rfl, rfl, fun e2 d2 hd2 he2 ne2 => ⟨_, _, rfl, ?_⟩⟩⟩
      have s1 : Same H (upd (upd H d1 (.xd (([("web" : Str), "further"]).zip [u, v]))) e1 (ExF (cl 26) (some d1) e1)) := same_exc hd1 he1
      have w1 : ErrAt (upd (upd H d1 (.xd (([("web" : Str), "further"]).zip [u, v]))) e1 (ExF (cl 26) (some d1) e1)) (cl 26) e1 d1 (([("web" : Str), "further"]).zip [u, v]) := err_new ne1
      have s2 := same_exc (o := .xd (([("web" : Str), "further"]).zip [u, v])) (u := ExF (cl 26) (some d2) e2) hd2 he2
      have w2 := err_new (H := upd (upd H d1 (.xd (([("web" : Str), "further"]).zip [u, v]))) e1 (ExF (cl 26) (some d1) e1)) (C := cl 26) (fs := ([("web" : Str), "further"]).zip [u, v]) ne2
      have w1 := w1.same s2
      have s2 := s1.trans s2
      refine ⟨_, rfl, _, rfl, _, rfl, e1, d1, _, u, rfl, w1, lk_two1 _ _, _, rfl, e1, d1, _, v, rfl, w1, lk_two2 (by decide) _ _, _, rfl, e2, d2, _, u, rfl, w2, lk_two1 _ _, _, rfl, e2, d2, _, v, rfl, w2, lk_two2 (by decide) _ _, sz_le (n := 4) (by decide), fun p hp hn => ?_⟩
      have s3 := same_new (o := HO.lst [u, v, u, v]) hp
      have h23 := s2.trans s3
      refine ⟨_, .list [a, b, a, b], rfl, .lst hn (SqL.of upd_same) (.cons (ha.same h23) (.cons (hb.same h23) (.cons (ha.same h23) (.cons (hb.same h23) .nil)))), ok.sh, ok.de, ok.le, ?_⟩
      have w1 := w1.same s3
      have w2 := w2.same s3
      refine ⟨_, rfl, _, rfl, _, rfl, _, rfl, sz_le (n := 4) (by decide), fun p' hp' hn' => ?_⟩
      have s4 := same_new (o := HO.lst [u, v, u, v]) hp'
      have h24 := h23.trans s4
      refine ⟨_, .list [a, b, a, b], rfl, .lst hn' (SqL.of upd_same) (.cons (ha.same h24) (.cons (hb.same h24) (.cons (ha.same h24) (.cons (hb.same h24) .nil)))), ok.sh, ok.de, ok.le, rfl, ?_⟩
      rw [decide_eq_true rfl]
      refine ⟨sz_le (n := 3) (by decide), fun T hT => ?_⟩
      have s5 := same_new (o := HO.tup [V.ref e1, V.ref e2, V.bl true]) hT
      exact q _ T e1 e2 (h24.trans s5) upd_same ((w1.same s4).same s5).w ((w2.same s4).same s5).w
    · refine ⟨_, rfl, rfl, _, rfl, ifF (by decide) ?_⟩
      refine ⟨_, rfl, _, rfl, rfl, fun e1 d1 hd1 he1 ne1 => ⟨_, rfl, _, rfl, rfl, fun e2 d2 hd2 he2 ne2 => ⟨_, _, rfl, ?_⟩⟩⟩
      have s1 : Same H (upd (upd H d1 (.xd (([("promise" : Str), "paper"]).zip [u, v]))) e1 (ExF (cl 27) (some d1) e1)) := same_exc hd1 he1
      have w1 : ErrAt (upd (upd H d1 (.xd (([("promise" : Str), "paper"]).zip [u, v]))) e1 (ExF (cl 27) (some d1) e1)) (cl 27) e1 d1 (([("promise" : Str), "paper"]).zip [u, v]) := err_new ne1
      have s2 := same_exc (o := .xd (([("promise" : Str), "paper"]).zip [u, v])) (u := ExF (cl 27) (some d2) e2) hd2 he2
      have w2 := err_new (H := upd (upd H d1 (.xd (([("promise" : Str), "paper"]).zip [u, v]))) e1 (ExF (cl 27) (some d1) e1)) (C := cl 27) (fs := ([("promise" : Str), "paper"]).zip [u, v]) ne2
      have w1 := w1.same s2
      have s2 := s1.trans s2
      refine ⟨_, rfl, _, rfl, _, rfl, e1, d1, _, u, rfl, w1, lk_two1 _ _, _, rfl, e1, d1, _, v, rfl, w1, lk_two2 (by decide) _ _, _, rfl, e2, d2, _, u, rfl, w2, lk_two1 _ _, _, rfl, e2, d2, _, v, rfl, w2, lk_two2 (by decide) _ _, sz_le (n := 4) (by decide), fun p hp hn => ?_⟩
      have s3 := same_new (o := HO.lst [u, v, u, v]) hp
      have h23 := s2.trans s3
      refine ⟨_, .list [a, b, a, b], rfl, .lst hn (SqL.of upd_same) (.cons (ha.same h23) (.cons (hb.same h23) (.cons (ha.same h23) (.cons (hb.same h23) .nil)))), ok.sh, ok.de, ok.le, ?_⟩
      have w1 := w1.same s3
      have w2 := w2.same s3
      refine ⟨_, rfl, _, rfl, _, rfl, _, rfl, sz_le (n := 4) (by decide), fun p' hp' hn' => ?_⟩
      have s4 := same_new (o := HO.lst [u, v, u, v]) hp'
      have h24 := h23.trans s4
      refine ⟨_, .list [a, b, a, b], rfl, .lst hn' (SqL.of upd_same) (.cons (ha.same h24) (.cons (hb.same h24) (.cons (ha.same h24) (.cons (hb.same h24) .nil)))), ok.sh, ok.de, ok.le, rfl, ?_⟩
      rw [decide_eq_true rfl]
      refine ⟨sz_le (n := 3) (by decide), fun T hT => ?_⟩
      have s5 := same_new (o := HO.tup [V.ref e1, V.ref e2, V.bl true]) hT
      exact q _ T e1 e2 (h24.trans s5) upd_same ((w1.same s4).same s5).w ((w2.same s4).same s5).w
theorem ok_bare {f : Addr} {fd : FuncData} (Fu : Fun K "_law_bare" "_law_bare" s__law_bare f fd)
    (q28 : PySem.W.excIn K (cl 28) exTail "Exception.__new__" = true) (g28 : mg "OtherLetters" = some (.ref (cl 28))) (k28 : PySem.W.keepIn K (.ref (cl 28)) = true)
    (q29 : PySem.W.excIn K (cl 29) exTail "Exception.__new__" = true) (g29 : mg "NotNow" = some (.ref (cl 29))) (k29 : PySem.W.keepIn K (.ref (cl 29)) = true)
    (q30 : PySem.W.excIn K (cl 30) exTail "Exception.__new__" = true) (g30 : mg "NothingToUndo" = some (.ref (cl 30))) (k30 : PySem.W.keepIn K (.ref (cl 30)) = true)
    (q31 : PySem.W.excIn K (cl 31) exTail "Exception.__new__" = true) (g31 : mg "NothingToRedo" = some (.ref (cl 31))) (k31 : PySem.W.keepIn K (.ref (cl 31)) = true)
    (q32 : PySem.W.excIn K (cl 32) exTail "Exception.__new__" = true) (g32 : mg "NoMill" = some (.ref (cl 32))) (k32 : PySem.W.keepIn K (.ref (cl 32)) = true)
    (q33 : PySem.W.excIn K (cl 33) exTail "Exception.__new__" = true) (g33 : mg "InvalidCommand" = some (.ref (cl 33))) (k33 : PySem.W.keepIn K (.ref (cl 33)) = true)
    : FnOk P w K mg base CX0 2 f fd ["_law_at"] (spBare cl) := by
  refine Fu.ok sc__law_bare (fun vs H Q E h => ?_) (fun cdv A outer s H vs Q E hr h => ?_)
  · obtain ⟨_, rfl, _⟩ := h
    rfl
  · obtain ⟨at', rfl, h1, h2, q⟩ := h
    refine ⟨_, (pss_cons (ps_if (pt_cmpR op_lt (pv 0) pe_int (nomark _)) (pss_one (ps_ret (pe_ifExp (pt_cmpR op_eq (pv 0) pe_int (nomark _)) (pe_exB F.excBase_Exception q28 g28 k28 (by rfl)) (pe_exB F.excBase_Exception q29 g29 k29 (by rfl))))) pss_nil)
      (pss_cons (ps_if (pt_cmpR op_lt (pv 0) pe_int (nomark _)) (pss_one (ps_ret (pe_ifExp (pt_cmpR op_eq (pv 0) pe_int (nomark _)) (pe_exB F.excBase_Exception q30 g30 k30 (by rfl)) (pe_exB F.excBase_Exception q31 g31 k31 (by rfl))))) pss_nil)
      (pss_one (ps_ret (pe_ifExp (pt_cmpR op_eq (pv 0) pe_int (nomark _)) (pe_exB F.excBase_Exception q32 g32 k32 (by rfl)) (pe_exB F.excBase_Exception q33 g33 k33 (by rfl))))))), ?_⟩
    have fin : ∀ a, H a = none → Q (.ref a) (upd H a (ExF (cl at') none a)) := fun a ha => q _ a (same_new ha) ⟨none, upd_same, fun x hx => by cases hx⟩
    have hc : at' = 28 ∨ at' = 29 ∨ at' = 30 ∨ at' = 31 ∨ at' = 32 ∨ at' = 33 := by omega
    rcases hc with rfl | rfl | rfl | rfl | rfl | rfl
    · exact ⟨_, rfl, _, _, rfl, rfl, _, rfl, ifT (by decide) ⟨_, rfl, rfl, _, rfl, ifT (by decide) fin⟩⟩
    · exact ⟨_, rfl, _, _, rfl, rfl, _, rfl, ifT (by decide) ⟨_, rfl, rfl, _, rfl, ifF (by decide) fin⟩⟩
    · exact ⟨_, rfl, _, _, rfl, rfl, _, rfl, ifF (by decide) ⟨_, rfl, _, _, rfl, rfl, _, rfl, ifT (by decide) ⟨_, rfl, rfl, _, rfl, ifT (by decide) fin⟩⟩⟩
    · exact ⟨_, rfl, _, _, rfl, rfl, _, rfl, ifF (by decide) ⟨_, rfl, _, _, rfl, rfl, _, rfl, ifT (by decide) ⟨_, rfl, rfl, _, rfl, ifF (by decide) fin⟩⟩⟩
    · exact ⟨_, rfl, _, _, rfl, rfl, _, rfl, ifF (by decide) ⟨_, rfl, _, _, rfl, rfl, _, rfl, ifF (by decide) ⟨_, rfl, rfl, _, rfl, ifT (by decide) fin⟩⟩⟩
    · exact ⟨_, rfl, _, _, rfl, rfl, _, rfl, ifF (by decide) ⟨_, rfl, _, _, rfl, rfl, _, rfl, ifF (by decide) ⟨_, rfl, rfl, _, rfl, ifF (by decide) fin⟩⟩⟩
theorem ok_kinds {f : Addr} {fd : FuncData} (F : Fun K "_law_kinds" "_law_kinds" s__law_kinds f fd) (B : Blt mg) (AC : AllC K mg cl CM)
    (g0 : mg "BadBook" = some (.ref (cl 0)))
    (g1 : mg "BadText" = some (.ref (cl 1)))
    (g2 : mg "BadWeb" = some (.ref (cl 2)))
    (g3 : mg "TooMany" = some (.ref (cl 3)))
    (g4 : mg "BadReader" = some (.ref (cl 4)))
    (g5 : mg "BadTeller" = some (.ref (cl 5)))
    (g6 : mg "BadFan" = some (.ref (cl 6)))
    (g7 : mg "BadWeft" = some (.ref (cl 7)))
    (g8 : mg "TooLong" = some (.ref (cl 8)))
    (g9 : mg "BadCourse" = some (.ref (cl 9)))
    (g10 : mg "BadWish" = some (.ref (cl 10)))
    (g11 : mg "Unsound" = some (.ref (cl 11)))
    (g12 : mg "BadProgram" = some (.ref (cl 12)))
    (g13 : mg "BadDuel" = some (.ref (cl 13)))
    (g14 : mg "Lost" = some (.ref (cl 14)))
    (g15 : mg "NoMove" = some (.ref (cl 15)))
    (g16 : mg "BadRow" = some (.ref (cl 16)))
    (g17 : mg "BadPlace" = some (.ref (cl 17)))
    (g18 : mg "Full" = some (.ref (cl 18)))
    (g19 : mg "NoHand" = some (.ref (cl 19)))
    (g20 : mg "Waits" = some (.ref (cl 20)))
    (g21 : mg "BadDeed" = some (.ref (cl 21)))
    (g22 : mg "NoWish" = some (.ref (cl 22)))
    (g23 : mg "BadName" = some (.ref (cl 23)))
    (g24 : mg "NoName" = some (.ref (cl 24)))
    (g25 : mg "BadPromise" = some (.ref (cl 25)))
    (g26 : mg "Merged" = some (.ref (cl 26)))
    (g27 : mg "Broken" = some (.ref (cl 27)))
    (g28 : mg "OtherLetters" = some (.ref (cl 28)))
    (g29 : mg "NotNow" = some (.ref (cl 29)))
    (g30 : mg "NothingToUndo" = some (.ref (cl 30)))
    (g31 : mg "NothingToRedo" = some (.ref (cl 31)))
    (g32 : mg "NoMill" = some (.ref (cl 32)))
    (g33 : mg "InvalidCommand" = some (.ref (cl 33)))
    : FnOk P w K mg base CX0 1 f fd ["_law_e"] (spKinds cl) := by
  refine F.ok sc__law_kinds (fun vs H Q E h => ?_) (fun cdv A outer s H vs Q E hr h => ?_)
  · obtain ⟨_, _, rfl, _⟩ := h
    rfl
  · obtain ⟨at', e, rfl, h34, he, q⟩ := h
    refine ⟨_, (pss_cons (ps_set (i := 1) sc__law_kinds.nd rfl (Or.inl rfl) (Mq.pe_ls (pa_cons (pe_callB call_isE (by rfl) B.isi (by decide +kernel) (pa_cons (pv 0) (pa_cons (pe_glob (v := .ref (cl 0)) (by rfl) g0 rfl) pa_nil))) (pa_cons (pe_callB call_isE (by rfl) B.isi (by decide +kernel) (pa_cons (pv 0) (pa_cons (pe_glob (v := .ref (cl 1)) (by rfl) g1 rfl) pa_nil))) (pa_cons (pe_callB call_isE (by rfl) B.isi (by decide +kernel) (pa_cons (pv 0) (pa_cons (pe_glob (v := .ref (cl 2)) (by rfl) g2 rfl) pa_nil))) (pa_cons (pe_callB call_isE (by rfl) B.isi (by decide +kernel) (pa_cons (pv 0) (pa_cons (pe_glob (v := .ref (cl 3)) (by rfl) g3 rfl) pa_nil))) pa_nil))))))
      (pss_cons (ps_set (i := 1) sc__law_kinds.nd rfl (Or.inl rfl) (pe_op op_cat (pv 1) (Mq.pe_ls (pa_cons (pe_callB call_isE (by rfl) B.isi (by decide +kernel) (pa_cons (pv 0) (pa_cons (pe_glob (v := .ref (cl 4)) (by rfl) g4 rfl) pa_nil))) (pa_cons (pe_callB call_isE (by rfl) B.isi (by decide +kernel) (pa_cons (pv 0) (pa_cons (pe_glob (v := .ref (cl 5)) (by rfl) g5 rfl) pa_nil))) (pa_cons (pe_callB call_isE (by rfl) B.isi (by decide +kernel) (pa_cons (pv 0) (pa_cons (pe_glob (v := .ref (cl 6)) (by rfl) g6 rfl) pa_nil))) (pa_cons (pe_callB call_isE (by rfl) B.isi (by decide +kernel) (pa_cons (pv 0) (pa_cons (pe_glob (v := .ref (cl 7)) (by rfl) g7 rfl) pa_nil))) pa_nil)))))))
      (pss_cons (ps_set (i := 1) sc__law_kinds.nd rfl (Or.inl rfl) (pe_op op_cat (pv 1) (Mq.pe_ls (pa_cons (pe_callB call_isE (by rfl) B.isi (by decide +kernel) (pa_cons (pv 0) (pa_cons (pe_glob (v := .ref (cl 8)) (by rfl) g8 rfl) pa_nil))) (pa_cons (pe_callB call_isE (by rfl) B.isi (by decide +kernel) (pa_cons (pv 0) (pa_cons (pe_glob (v := .ref (cl 9)) (by rfl) g9 rfl) pa_nil))) (pa_cons (pe_callB call_isE (by rfl) B.isi (by decide +kernel) (pa_cons (pv 0) (pa_cons (pe_glob (v := .ref (cl 10)) (by rfl) g10 rfl) pa_nil))) (pa_cons (pe_callB call_isE (by rfl) B.isi (by decide +kernel) (pa_cons (pv 0) (pa_cons (pe_glob (v := .ref (cl 11)) (by rfl) g11 rfl) pa_nil))) pa_nil)))))))
      (pss_cons (ps_set (i := 1) sc__law_kinds.nd rfl (Or.inl rfl) (pe_op op_cat (pv 1) (Mq.pe_ls (pa_cons (pe_callB call_isE (by rfl) B.isi (by decide +kernel) (pa_cons (pv 0) (pa_cons (pe_glob (v := .ref (cl 12)) (by rfl) g12 rfl) pa_nil))) (pa_cons (pe_callB call_isE (by rfl) B.isi (by decide +kernel) (pa_cons (pv 0) (pa_cons (pe_glob (v := .ref (cl 13)) (by rfl) g13 rfl) pa_nil))) (pa_cons (pe_callB call_isE (by rfl) B.isi (by decide +kernel) (pa_cons (pv 0) (pa_cons (pe_glob (v := .ref (cl 14)) (by rfl) g14 rfl) pa_nil))) (pa_cons (pe_callB call_isE (by rfl) B.isi (by decide +kernel) (pa_cons (pv 0) (pa_cons (pe_glob (v := .ref (cl 15)) (by rfl) g15 rfl) pa_nil))) pa_nil)))))))
      (pss_cons (ps_set (i := 1) sc__law_kinds.nd rfl (Or.inl rfl) (pe_op op_cat (pv 1) (Mq.pe_ls (pa_cons (pe_callB call_isE (by rfl) B.isi (by decide +kernel) (pa_cons (pv 0) (pa_cons (pe_glob (v := .ref (cl 16)) (by rfl) g16 rfl) pa_nil))) (pa_cons (pe_callB call_isE (by rfl) B.isi (by decide +kernel) (pa_cons (pv 0) (pa_cons (pe_glob (v := .ref (cl 17)) (by rfl) g17 rfl) pa_nil))) (pa_cons (pe_callB call_isE (by rfl) B.isi (by decide +kernel) (pa_cons (pv 0) (pa_cons (pe_glob (v := .ref (cl 18)) (by rfl) g18 rfl) pa_nil))) (pa_cons (pe_callB call_isE (by rfl) B.isi (by decide +kernel) (pa_cons (pv 0) (pa_cons (pe_glob (v := .ref (cl 19)) (by rfl) g19 rfl) pa_nil))) pa_nil)))))))
      (pss_cons (ps_set (i := 1) sc__law_kinds.nd rfl (Or.inl rfl) (pe_op op_cat (pv 1) (Mq.pe_ls (pa_cons (pe_callB call_isE (by rfl) B.isi (by decide +kernel) (pa_cons (pv 0) (pa_cons (pe_glob (v := .ref (cl 20)) (by rfl) g20 rfl) pa_nil))) (pa_cons (pe_callB call_isE (by rfl) B.isi (by decide +kernel) (pa_cons (pv 0) (pa_cons (pe_glob (v := .ref (cl 21)) (by rfl) g21 rfl) pa_nil))) (pa_cons (pe_callB call_isE (by rfl) B.isi (by decide +kernel) (pa_cons (pv 0) (pa_cons (pe_glob (v := .ref (cl 22)) (by rfl) g22 rfl) pa_nil))) (pa_cons (pe_callB call_isE (by rfl) B.isi (by decide +kernel) (pa_cons (pv 0) (pa_cons (pe_glob (v := .ref (cl 23)) (by rfl) g23 rfl) pa_nil))) pa_nil)))))))
      (pss_cons (ps_set (i := 1) sc__law_kinds.nd rfl (Or.inl rfl) (pe_op op_cat (pv 1) (Mq.pe_ls (pa_cons (pe_callB call_isE (by rfl) B.isi (by decide +kernel) (pa_cons (pv 0) (pa_cons (pe_glob (v := .ref (cl 24)) (by rfl) g24 rfl) pa_nil))) (pa_cons (pe_callB call_isE (by rfl) B.isi (by decide +kernel) (pa_cons (pv 0) (pa_cons (pe_glob (v := .ref (cl 25)) (by rfl) g25 rfl) pa_nil))) (pa_cons (pe_callB call_isE (by rfl) B.isi (by decide +kernel) (pa_cons (pv 0) (pa_cons (pe_glob (v := .ref (cl 26)) (by rfl) g26 rfl) pa_nil))) (pa_cons (pe_callB call_isE (by rfl) B.isi (by decide +kernel) (pa_cons (pv 0) (pa_cons (pe_glob (v := .ref (cl 27)) (by rfl) g27 rfl) pa_nil))) pa_nil)))))))
      (pss_cons (ps_set (i := 1) sc__law_kinds.nd rfl (Or.inl rfl) (pe_op op_cat (pv 1) (Mq.pe_ls (pa_cons (pe_callB call_isE (by rfl) B.isi (by decide +kernel) (pa_cons (pv 0) (pa_cons (pe_glob (v := .ref (cl 28)) (by rfl) g28 rfl) pa_nil))) (pa_cons (pe_callB call_isE (by rfl) B.isi (by decide +kernel) (pa_cons (pv 0) (pa_cons (pe_glob (v := .ref (cl 29)) (by rfl) g29 rfl) pa_nil))) pa_nil)))))
      (pss_cons (ps_set (i := 1) sc__law_kinds.nd rfl (Or.inl rfl) (pe_op op_cat (pv 1) (Mq.pe_ls (pa_cons (pe_callB call_isE (by rfl) B.isi (by decide +kernel) (pa_cons (pv 0) (pa_cons (pe_glob (v := .ref (cl 30)) (by rfl) g30 rfl) pa_nil))) (pa_cons (pe_callB call_isE (by rfl) B.isi (by decide +kernel) (pa_cons (pv 0) (pa_cons (pe_glob (v := .ref (cl 31)) (by rfl) g31 rfl) pa_nil))) pa_nil)))))
      (pss_cons (ps_set (i := 1) sc__law_kinds.nd rfl (Or.inl rfl) (pe_op op_cat (pv 1) (Mq.pe_ls (pa_cons (pe_callB call_isE (by rfl) B.isi (by decide +kernel) (pa_cons (pv 0) (pa_cons (pe_glob (v := .ref (cl 32)) (by rfl) g32 rfl) pa_nil))) (pa_cons (pe_callB call_isE (by rfl) B.isi (by decide +kernel) (pa_cons (pv 0) (pa_cons (pe_glob (v := .ref (cl 33)) (by rfl) g33 rfl) pa_nil))) pa_nil)))))
      (pss_one (ps_ret (pv 1))))))))))))), ?_⟩
    obtain ⟨dd, ea, eb⟩ := he
    have A : ∀ {H1 : Hp}, Same H H1 → H1 e = some (ExF (cl at') dd e) := fun s1 => s1 _ _ ea
    have Bf : ∀ {H1 : Hp}, Same H H1 → ∀ x, dd = some x → ∃ fs, H1 x = some (.xd fs) := fun s1 x hx => by
      obtain ⟨fs, c⟩ := eb x hx
      exact ⟨fs, s1 _ _ c⟩
    let b : Nat → V := fun k => .bl (decide (at' = k))
    refine ⟨_, rfl, e, cl at', dd, _, _, _, rfl, .own _, A (Same.refl H), Bf (Same.refl H), AC.held at' h34, AC.kit at' 0 h34 (by decide), ?_⟩
    refine ⟨_, rfl, e, cl at', dd, _, _, _, rfl, .own _, A (Same.refl H), Bf (Same.refl H), AC.held at' h34, AC.kit at' 1 h34 (by decide), ?_⟩
    refine ⟨_, rfl, e, cl at', dd, _, _, _, rfl, .own _, A (Same.refl H), Bf (Same.refl H), AC.held at' h34, AC.kit at' 2 h34 (by decide), ?_⟩
    refine ⟨_, rfl, e, cl at', dd, _, _, _, rfl, .own _, A (Same.refl H), Bf (Same.refl H), AC.held at' h34, AC.kit at' 3 h34 (by decide), ?_⟩
    refine ⟨sz_le (n := 4) (by decide), fun q0 hq0 _ => ?_⟩
    have s0 := same_new (o := HO.lst [b 0, b 1, b 2, b 3]) hq0
    have L0 : upd H q0 (.lst [b 0, b 1, b 2, b 3]) q0 = some (.lst [b 0, b 1, b 2, b 3]) := upd_same
    generalize upd H q0 (.lst [b 0, b 1, b 2, b 3]) = H0 at s0 L0 ⊢
    refine ⟨_, rfl, ?_⟩
    refine ⟨_, rfl, e, cl at', dd, _, _, _, rfl, .own _, A (s0), Bf (s0), AC.held at' h34, AC.kit at' 4 h34 (by decide), ?_⟩
    refine ⟨_, rfl, e, cl at', dd, _, _, _, rfl, .own _, A (s0), Bf (s0), AC.held at' h34, AC.kit at' 5 h34 (by decide), ?_⟩
    refine ⟨_, rfl, e, cl at', dd, _, _, _, rfl, .own _, A (s0), Bf (s0), AC.held at' h34, AC.kit at' 6 h34 (by decide), ?_⟩
    refine ⟨_, rfl, e, cl at', dd, _, _, _, rfl, .own _, A (s0), Bf (s0), AC.held at' h34, AC.kit at' 7 h34 (by decide), ?_⟩
    refine ⟨sz_le (n := 4) (by decide), fun q1 hq1 _ => ?_⟩
    have r1 := same_new (o := HO.lst [b 4, b 5, b 6, b 7]) hq1
    refine ⟨q0, q1, [b 0, b 1, b 2, b 3], [b 4, b 5, b 6, b 7], rfl, rfl, r1 _ _ L0, upd_same, sz_le (n := 8) (by decide), fun p1 hp1 => ?_⟩
    have L1 : upd (upd H0 q1 (.lst [b 4, b 5, b 6, b 7])) p1 (.lst ([b 0, b 1, b 2, b 3] ++ [b 4, b 5, b 6, b 7])) p1 = some (.lst [b 0, b 1, b 2, b 3, b 4, b 5, b 6, b 7]) := upd_same
    have s1 := (s0.trans r1).trans (same_new (o := HO.lst ([b 0, b 1, b 2, b 3] ++ [b 4, b 5, b 6, b 7])) hp1)
    generalize upd (upd H0 q1 (.lst [b 4, b 5, b 6, b 7])) p1 (.lst ([b 0, b 1, b 2, b 3] ++ [b 4, b 5, b 6, b 7])) = H1 at s1 L1 ⊢
    refine ⟨_, rfl, ?_⟩
    refine ⟨_, rfl, e, cl at', dd, _, _, _, rfl, .own _, A (s1), Bf (s1), AC.held at' h34, AC.kit at' 8 h34 (by decide), ?_⟩
    refine ⟨_, rfl, e, cl at', dd, _, _, _, rfl, .own _, A (s1), Bf (s1), AC.held at' h34, AC.kit at' 9 h34 (by decide), ?_⟩
    refine ⟨_, rfl, e, cl at', dd, _, _, _, rfl, .own _, A (s1), Bf (s1), AC.held at' h34, AC.kit at' 10 h34 (by decide), ?_⟩
    refine ⟨_, rfl, e, cl at', dd, _, _, _, rfl, .own _, A (s1), Bf (s1), AC.held at' h34, AC.kit at' 11 h34 (by decide), ?_⟩
    refine ⟨sz_le (n := 4) (by decide), fun q2 hq2 _ => ?_⟩
    have r2 := same_new (o := HO.lst [b 8, b 9, b 10, b 11]) hq2
    refine ⟨p1, q2, [b 0, b 1, b 2, b 3, b 4, b 5, b 6, b 7], [b 8, b 9, b 10, b 11], rfl, rfl, r2 _ _ L1, upd_same, sz_le (n := 12) (by decide), fun p2 hp2 => ?_⟩
    have L2 : upd (upd H1 q2 (.lst [b 8, b 9, b 10, b 11])) p2 (.lst ([b 0, b 1, b 2, b 3, b 4, b 5, b 6, b 7] ++ [b 8, b 9, b 10, b 11])) p2 = some (.lst [b 0, b 1, b 2, b 3, b 4, b 5, b 6, b 7, b 8, b 9, b 10, b 11]) := upd_same
    have s2 := (s1.trans r2).trans (same_new (o := HO.lst ([b 0, b 1, b 2, b 3, b 4, b 5, b 6, b 7] ++ [b 8, b 9, b 10, b 11])) hp2)
    generalize upd (upd H1 q2 (.lst [b 8, b 9, b 10, b 11])) p2 (.lst ([b 0, b 1, b 2, b 3, b 4, b 5, b 6, b 7] ++ [b 8, b 9, b 10, b 11])) = H2 at s2 L2 ⊢
    refine ⟨_, rfl, ?_⟩
    refine ⟨_, rfl, e, cl at', dd, _, _, _, rfl, .own _, A (s2), Bf (s2), AC.held at' h34, AC.kit at' 12 h34 (by decide), ?_⟩
    refine ⟨_, rfl, e, cl at', dd, _, _, _, rfl, .own _, A (s2), Bf (s2), AC.held at' h34, AC.kit at' 13 h34 (by decide), ?_⟩
    refine ⟨_, rfl, e, cl at', dd, _, _, _, rfl, .own _, A (s2), Bf (s2), AC.held at' h34, AC.kit at' 14 h34 (by decide), ?_⟩
    refine ⟨_, rfl, e, cl at', dd, _, _, _, rfl, .own _, A (s2), Bf (s2), AC.held at' h34, AC.kit at' 15 h34 (by decide), ?_⟩
    refine ⟨sz_le (n := 4) (by decide), fun q3 hq3 _ => ?_⟩
    have r3 := same_new (o := HO.lst [b 12, b 13, b 14, b 15]) hq3
    refine ⟨p2, q3, [b 0, b 1, b 2, b 3, b 4, b 5, b 6, b 7, b 8, b 9, b 10, b 11], [b 12, b 13, b 14, b 15], rfl, rfl, r3 _ _ L2, upd_same, sz_le (n := 16) (by decide), fun p3 hp3 => ?_⟩
    have L3 : upd (upd H2 q3 (.lst [b 12, b 13, b 14, b 15])) p3 (.lst ([b 0, b 1, b 2, b 3, b 4, b 5, b 6, b 7, b 8, b 9, b 10, b 11] ++ [b 12, b 13, b 14, b 15])) p3 = some (.lst [b 0, b 1, b 2, b 3, b 4, b 5, b 6, b 7, b 8, b 9, b 10, b 11, b 12, b 13, b 14, b 15]) := upd_same
    have s3 := (s2.trans r3).trans (same_new (o := HO.lst ([b 0, b 1, b 2, b 3, b 4, b 5, b 6, b 7, b 8, b 9, b 10, b 11] ++ [b 12, b 13, b 14, b 15])) hp3)
    generalize upd (upd H2 q3 (.lst [b 12, b 13, b 14, b 15])) p3 (.lst ([b 0, b 1, b 2, b 3, b 4, b 5, b 6, b 7, b 8, b 9, b 10, b 11] ++ [b 12, b 13, b 14, b 15])) = H3 at s3 L3 ⊢
    refine ⟨_, rfl, ?_⟩
    refine ⟨_, rfl, e, cl at', dd, _, _, _, rfl, .own _, A (s3), Bf (s3), AC.held at' h34, AC.kit at' 16 h34 (by decide), ?_⟩
    refine ⟨_, rfl, e, cl at', dd, _, _, _, rfl, .own _, A (s3), Bf (s3), AC.held at' h34, AC.kit at' 17 h34 (by decide), ?_⟩
    refine ⟨_, rfl, e, cl at', dd, _, _, _, rfl, .own _, A (s3), Bf (s3), AC.held at' h34, AC.kit at' 18 h34 (by decide), ?_⟩
    refine ⟨_, rfl, e, cl at', dd, _, _, _, rfl, .own _, A (s3), Bf (s3), AC.held at' h34, AC.kit at' 19 h34 (by decide), ?_⟩
    refine ⟨sz_le (n := 4) (by decide), fun q4 hq4 _ => ?_⟩
    have r4 := same_new (o := HO.lst [b 16, b 17, b 18, b 19]) hq4
    refine ⟨p3, q4, [b 0, b 1, b 2, b 3, b 4, b 5, b 6, b 7, b 8, b 9, b 10, b 11, b 12, b 13, b 14, b 15], [b 16, b 17, b 18, b 19], rfl, rfl, r4 _ _ L3, upd_same, sz_le (n := 20) (by decide), fun p4 hp4 => ?_⟩
    have L4 : upd (upd H3 q4 (.lst [b 16, b 17, b 18, b 19])) p4 (.lst ([b 0, b 1, b 2, b 3, b 4, b 5, b 6, b 7, b 8, b 9, b 10, b 11, b 12, b 13, b 14, b 15] ++ [b 16, b 17, b 18, b 19])) p4 = some (.lst [b 0, b 1, b 2, b 3, b 4, b 5, b 6, b 7, b 8, b 9, b 10, b 11, b 12, b 13, b 14, b 15, b 16, b 17, b 18, b 19]) := upd_same
    have s4 := (s3.trans r4).trans (same_new (o := HO.lst ([b 0, b 1, b 2, b 3, b 4, b 5, b 6, b 7, b 8, b 9, b 10, b 11, b 12, b 13, b 14, b 15] ++ [b 16, b 17, b 18, b 19])) hp4)
    generalize upd (upd H3 q4 (.lst [b 16, b 17, b 18, b 19])) p4 (.lst ([b 0, b 1, b 2, b 3, b 4, b 5, b 6, b 7, b 8, b 9, b 10, b 11, b 12, b 13, b 14, b 15] ++ [b 16, b 17, b 18, b 19])) = H4 at s4 L4 ⊢
    refine ⟨_, rfl, ?_⟩
    refine ⟨_, rfl, e, cl at', dd, _, _, _, rfl, .own _, A (s4), Bf (s4), AC.held at' h34, AC.kit at' 20 h34 (by decide), ?_⟩
    refine ⟨_, rfl, e, cl at', dd, _, _, _, rfl, .own _, A (s4), Bf (s4), AC.held at' h34, AC.kit at' 21 h34 (by decide), ?_⟩
    refine ⟨_, rfl, e, cl at', dd, _, _, _, rfl, .own _, A (s4), Bf (s4), AC.held at' h34, AC.kit at' 22 h34 (by decide), ?_⟩
    refine ⟨_, rfl, e, cl at', dd, _, _, _, rfl, .own _, A (s4), Bf (s4), AC.held at' h34, AC.kit at' 23 h34 (by decide), ?_⟩
    refine ⟨sz_le (n := 4) (by decide), fun q5 hq5 _ => ?_⟩
    have r5 := same_new (o := HO.lst [b 20, b 21, b 22, b 23]) hq5
    refine ⟨p4, q5, [b 0, b 1, b 2, b 3, b 4, b 5, b 6, b 7, b 8, b 9, b 10, b 11, b 12, b 13, b 14, b 15, b 16, b 17, b 18, b 19], [b 20, b 21, b 22, b 23], rfl, rfl, r5 _ _ L4, upd_same, sz_le (n := 24) (by decide), fun p5 hp5 => ?_⟩
    have L5 : upd (upd H4 q5 (.lst [b 20, b 21, b 22, b 23])) p5 (.lst ([b 0, b 1, b 2, b 3, b 4, b 5, b 6, b 7, b 8, b 9, b 10, b 11, b 12, b 13, b 14, b 15, b 16, b 17, b 18, b 19] ++ [b 20, b 21, b 22, b 23])) p5 = some (.lst [b 0, b 1, b 2, b 3, b 4, b 5, b 6, b 7, b 8, b 9, b 10, b 11, b 12, b 13, b 14, b 15, b 16, b 17, b 18, b 19, b 20, b 21, b 22, b 23]) := upd_same
    have s5 := (s4.trans r5).trans (same_new (o := HO.lst ([b 0, b 1, b 2, b 3, b 4, b 5, b 6, b 7, b 8, b 9, b 10, b 11, b 12, b 13, b 14, b 15, b 16, b 17, b 18, b 19] ++ [b 20, b 21, b 22, b 23])) hp5)
    generalize upd (upd H4 q5 (.lst [b 20, b 21, b 22, b 23])) p5 (.lst ([b 0, b 1, b 2, b 3, b 4, b 5, b 6, b 7, b 8, b 9, b 10, b 11, b 12, b 13, b 14, b 15, b 16, b 17, b 18, b 19] ++ [b 20, b 21, b 22, b 23])) = H5 at s5 L5 ⊢
    refine ⟨_, rfl, ?_⟩
    refine ⟨_, rfl, e, cl at', dd, _, _, _, rfl, .own _, A (s5), Bf (s5), AC.held at' h34, AC.kit at' 24 h34 (by decide), ?_⟩
    refine ⟨_, rfl, e, cl at', dd, _, _, _, rfl, .own _, A (s5), Bf (s5), AC.held at' h34, AC.kit at' 25 h34 (by decide), ?_⟩
    refine ⟨_, rfl, e, cl at', dd, _, _, _, rfl, .own _, A (s5), Bf (s5), AC.held at' h34, AC.kit at' 26 h34 (by decide), ?_⟩
    refine ⟨_, rfl, e, cl at', dd, _, _, _, rfl, .own _, A (s5), Bf (s5), AC.held at' h34, AC.kit at' 27 h34 (by decide), ?_⟩
    refine ⟨sz_le (n := 4) (by decide), fun q6 hq6 _ => ?_⟩
    have r6 := same_new (o := HO.lst [b 24, b 25, b 26, b 27]) hq6
    refine ⟨p5, q6, [b 0, b 1, b 2, b 3, b 4, b 5, b 6, b 7, b 8, b 9, b 10, b 11, b 12, b 13, b 14, b 15, b 16, b 17, b 18, b 19, b 20, b 21, b 22, b 23], [b 24, b 25, b 26, b 27], rfl, rfl, r6 _ _ L5, upd_same, sz_le (n := 28) (by decide), fun p6 hp6 => ?_⟩
    have L6 : upd (upd H5 q6 (.lst [b 24, b 25, b 26, b 27])) p6 (.lst ([b 0, b 1, b 2, b 3, b 4, b 5, b 6, b 7, b 8, b 9, b 10, b 11, b 12, b 13, b 14, b 15, b 16, b 17, b 18, b 19, b 20, b 21, b 22, b 23] ++ [b 24, b 25, b 26, b 27])) p6 = some (.lst [b 0, b 1, b 2, b 3, b 4, b 5, b 6, b 7, b 8, b 9, b 10, b 11, b 12, b 13, b 14, b 15, b 16, b 17, b 18, b 19, b 20, b 21, b 22, b 23, b 24, b 25, b 26, b 27]) := upd_same
    have s6 := (s5.trans r6).trans (same_new (o := HO.lst ([b 0, b 1, b 2, b 3, b 4, b 5, b 6, b 7, b 8, b 9, b 10, b 11, b 12, b 13, b 14, b 15, b 16, b 17, b 18, b 19, b 20, b 21, b 22, b 23] ++ [b 24, b 25, b 26, b 27])) hp6)
    generalize upd (upd H5 q6 (.lst [b 24, b 25, b 26, b 27])) p6 (.lst ([b 0, b 1, b 2, b 3, b 4, b 5, b 6, b 7, b 8, b 9, b 10, b 11, b 12, b 13, b 14, b 15, b 16, b 17, b 18, b 19, b 20, b 21, b 22, b 23] ++ [b 24, b 25, b 26, b 27])) = H6 at s6 L6 ⊢
    refine ⟨_, rfl, ?_⟩
    refine ⟨_, rfl, e, cl at', dd, _, _, _, rfl, .own _, A (s6), Bf (s6), AC.held at' h34, AC.kit at' 28 h34 (by decide), ?_⟩
    refine ⟨_, rfl, e, cl at', dd, _, _, _, rfl, .own _, A (s6), Bf (s6), AC.held at' h34, AC.kit at' 29 h34 (by decide), ?_⟩
    refine ⟨sz_le (n := 2) (by decide), fun q7 hq7 _ => ?_⟩
    have r7 := same_new (o := HO.lst [b 28, b 29]) hq7
    refine ⟨p6, q7, [b 0, b 1, b 2, b 3, b 4, b 5, b 6, b 7, b 8, b 9, b 10, b 11, b 12, b 13, b 14, b 15, b 16, b 17, b 18, b 19, b 20, b 21, b 22, b 23, b 24, b 25, b 26, b 27], [b 28, b 29], rfl, rfl, r7 _ _ L6, upd_same, sz_le (n := 30) (by decide), fun p7 hp7 => ?_⟩
    have L7 : upd (upd H6 q7 (.lst [b 28, b 29])) p7 (.lst ([b 0, b 1, b 2, b 3, b 4, b 5, b 6, b 7, b 8, b 9, b 10, b 11, b 12, b 13, b 14, b 15, b 16, b 17, b 18, b 19, b 20, b 21, b 22, b 23, b 24, b 25, b 26, b 27] ++ [b 28, b 29])) p7 = some (.lst [b 0, b 1, b 2, b 3, b 4, b 5, b 6, b 7, b 8, b 9, b 10, b 11, b 12, b 13, b 14, b 15, b 16, b 17, b 18, b 19, b 20, b 21, b 22, b 23, b 24, b 25, b 26, b 27, b 28, b 29]) := upd_same
    have s7 := (s6.trans r7).trans (same_new (o := HO.lst ([b 0, b 1, b 2, b 3, b 4, b 5, b 6, b 7, b 8, b 9, b 10, b 11, b 12, b 13, b 14, b 15, b 16, b 17, b 18, b 19, b 20, b 21, b 22, b 23, b 24, b 25, b 26, b 27] ++ [b 28, b 29])) hp7)
    generalize upd (upd H6 q7 (.lst [b 28, b 29])) p7 (.lst ([b 0, b 1, b 2, b 3, b 4, b 5, b 6, b 7, b 8, b 9, b 10, b 11, b 12, b 13, b 14, b 15, b 16, b 17, b 18, b 19, b 20, b 21, b 22, b 23, b 24, b 25, b 26, b 27] ++ [b 28, b 29])) = H7 at s7 L7 ⊢
    refine ⟨_, rfl, ?_⟩
    refine ⟨_, rfl, e, cl at', dd, _, _, _, rfl, .own _, A (s7), Bf (s7), AC.held at' h34, AC.kit at' 30 h34 (by decide), ?_⟩
    refine ⟨_, rfl, e, cl at', dd, _, _, _, rfl, .own _, A (s7), Bf (s7), AC.held at' h34, AC.kit at' 31 h34 (by decide), ?_⟩
    refine ⟨sz_le (n := 2) (by decide), fun q8 hq8 _ => ?_⟩
    have r8 := same_new (o := HO.lst [b 30, b 31]) hq8
    refine ⟨p7, q8, [b 0, b 1, b 2, b 3, b 4, b 5, b 6, b 7, b 8, b 9, b 10, b 11, b 12, b 13, b 14, b 15, b 16, b 17, b 18, b 19, b 20, b 21, b 22, b 23, b 24, b 25, b 26, b 27, b 28, b 29], [b 30, b 31], rfl, rfl, r8 _ _ L7, upd_same, sz_le (n := 32) (by decide), fun p8 hp8 => ?_⟩
    have L8 : upd (upd H7 q8 (.lst [b 30, b 31])) p8 (.lst ([b 0, b 1, b 2, b 3, b 4, b 5, b 6, b 7, b 8, b 9, b 10, b 11, b 12, b 13, b 14, b 15, b 16, b 17, b 18, b 19, b 20, b 21, b 22, b 23, b 24, b 25, b 26, b 27, b 28, b 29] ++ [b 30, b 31])) p8 = some (.lst [b 0, b 1, b 2, b 3, b 4, b 5, b 6, b 7, b 8, b 9, b 10, b 11, b 12, b 13, b 14, b 15, b 16, b 17, b 18, b 19, b 20, b 21, b 22, b 23, b 24, b 25, b 26, b 27, b 28, b 29, b 30, b 31]) := upd_same
    have s8 := (s7.trans r8).trans (same_new (o := HO.lst ([b 0, b 1, b 2, b 3, b 4, b 5, b 6, b 7, b 8, b 9, b 10, b 11, b 12, b 13, b 14, b 15, b 16, b 17, b 18, b 19, b 20, b 21, b 22, b 23, b 24, b 25, b 26, b 27, b 28, b 29] ++ [b 30, b 31])) hp8)
    generalize upd (upd H7 q8 (.lst [b 30, b 31])) p8 (.lst ([b 0, b 1, b 2, b 3, b 4, b 5, b 6, b 7, b 8, b 9, b 10, b 11, b 12, b 13, b 14, b 15, b 16, b 17, b 18, b 19, b 20, b 21, b 22, b 23, b 24, b 25, b 26, b 27, b 28, b 29] ++ [b 30, b 31])) = H8 at s8 L8 ⊢
    refine ⟨_, rfl, ?_⟩
    refine ⟨_, rfl, e, cl at', dd, _, _, _, rfl, .own _, A (s8), Bf (s8), AC.held at' h34, AC.kit at' 32 h34 (by decide), ?_⟩
    refine ⟨_, rfl, e, cl at', dd, _, _, _, rfl, .own _, A (s8), Bf (s8), AC.held at' h34, AC.kit at' 33 h34 (by decide), ?_⟩
    refine ⟨sz_le (n := 2) (by decide), fun q9 hq9 _ => ?_⟩
    have r9 := same_new (o := HO.lst [b 32, b 33]) hq9
    refine ⟨p8, q9, [b 0, b 1, b 2, b 3, b 4, b 5, b 6, b 7, b 8, b 9, b 10, b 11, b 12, b 13, b 14, b 15, b 16, b 17, b 18, b 19, b 20, b 21, b 22, b 23, b 24, b 25, b 26, b 27, b 28, b 29, b 30, b 31], [b 32, b 33], rfl, rfl, r9 _ _ L8, upd_same, sz_le (n := 34) (by decide), fun p9 hp9 => ?_⟩
    have L9 : upd (upd H8 q9 (.lst [b 32, b 33])) p9 (.lst ([b 0, b 1, b 2, b 3, b 4, b 5, b 6, b 7, b 8, b 9, b 10, b 11, b 12, b 13, b 14, b 15, b 16, b 17, b 18, b 19, b 20, b 21, b 22, b 23, b 24, b 25, b 26, b 27, b 28, b 29, b 30, b 31] ++ [b 32, b 33])) p9 = some (.lst [b 0, b 1, b 2, b 3, b 4, b 5, b 6, b 7, b 8, b 9, b 10, b 11, b 12, b 13, b 14, b 15, b 16, b 17, b 18, b 19, b 20, b 21, b 22, b 23, b 24, b 25, b 26, b 27, b 28, b 29, b 30, b 31, b 32, b 33]) := upd_same
    have s9 := (s8.trans r9).trans (same_new (o := HO.lst ([b 0, b 1, b 2, b 3, b 4, b 5, b 6, b 7, b 8, b 9, b 10, b 11, b 12, b 13, b 14, b 15, b 16, b 17, b 18, b 19, b 20, b 21, b 22, b 23, b 24, b 25, b 26, b 27, b 28, b 29, b 30, b 31] ++ [b 32, b 33])) hp9)
    generalize upd (upd H8 q9 (.lst [b 32, b 33])) p9 (.lst ([b 0, b 1, b 2, b 3, b 4, b 5, b 6, b 7, b 8, b 9, b 10, b 11, b 12, b 13, b 14, b 15, b 16, b 17, b 18, b 19, b 20, b 21, b 22, b 23, b 24, b 25, b 26, b 27, b 28, b 29, b 30, b 31] ++ [b 32, b 33])) = H9 at s9 L9 ⊢
    exact ⟨_, rfl, q _ p9 s9 L9⟩
end
end Lw

namespace Lw
open PySem PySem.Spec PyProof.Rows L2 Mq
open SX (S)
/-! ### the deck -/
def deckKv (c : Addr) (m : Int) (t : Nat) : List (Key × V) := [(.inr "cells", .ref c), (.inr "mixed", .int m), (.inr "turn", .int (t : Nat))]
structure DeckAt (D C : Addr) (T : Nat) (H : Hp) : Prop where
  ex : ∃ (m : Int) (t : Nat) (js : List Int), H D = some (.dK (deckKv C m t)) ∧ H C = some (.lst (js.map V.int)) ∧ js.length ≤ 100 ∧ t ≤ T
def Off (D C : Addr) (H H' : Hp) : Prop := ∀ b o, b ≠ D → b ≠ C → H b = some o → H' b = some o
theorem Off.refl (D C : Addr) (H : Hp) : Off D C H H := fun _ _ _ _ e => e
theorem Off.trans {D C : Addr} {H H' H'' : Hp} (a : Off D C H H') (b : Off D C H' H'') : Off D C H H'' := fun x o h1 h2 e => b x o h1 h2 (a x o h1 h2 e)
theorem Off.same {D C : Addr} {H H' : Hp} (e : Same H H') : Off D C H H' := fun b o _ _ h => e b o h
theorem DeckAt.same {D C : Addr} {T : Nat} {H H' : Hp} (h : DeckAt D C T H) (e : Same H H') : DeckAt D C T H' := let ⟨m, t, js, a, b, c, d⟩ := h.ex; ⟨m, t, js, e _ _ a, e _ _ b, c, d⟩
theorem DeckAt.mono {D C : Addr} {T T' : Nat} {H : Hp} (h : DeckAt D C T H) (e : T ≤ T') : DeckAt D C T' H := let ⟨m, t, js, a, b, c, d⟩ := h.ex; ⟨m, t, js, a, b, c, Nat.le_trans d e⟩
theorem DeckAt.ne {D C : Addr} {T : Nat} {H : Hp} (h : DeckAt D C T H) : C ≠ D := by
  obtain ⟨m, t, js, a, b, c, d⟩ := h.ex
  rintro rfl
  rw [a] at b
  cases b
/-- what is no list and no dict is none of the deck's -/
theorem Off.at {D C : Addr} {T : Nat} {H H' : Hp} {a : Addr} {o : HO} (f : Off D C H H') (k : DeckAt D C T H) (h : H a = some o) (n : (∀ xs, o ≠ .lst xs) ∧ ∀ kvs, o ≠ .dK kvs) : H' a = some o := by
  obtain ⟨m, t, js, x, y, _, _⟩ := k.ex
  refine f a o ?_ ?_ h
  · rintro rfl
    rw [x] at h
    cases h
    exact n.2 _ rfl
  · rintro rfl
    rw [y] at h
    cases h
    exact n.1 _ rfl
theorem Off.tup {K : PySem.W.Frag} {D C : Addr} {T : Nat} {H H' : Hp} {a : Addr} {xs : List V} (f : Off D C H H') (k : DeckAt D C T H) (h : SqT K H a xs) : SqT K H' a xs := by
  rcases h with (h | ⟨o, h⟩) | h
  · exact Or.inl (Or.inl (f.at k h ⟨(fun _ z => nomatch z), (fun _ z => nomatch z)⟩))
  · exact Or.inl (Or.inr ⟨o, f.at k h ⟨(fun _ z => nomatch z), (fun _ z => nomatch z)⟩⟩)
  · exact Or.inr h
theorem dp_ints' {K : PySem.W.Frag} {H : Hp} : ∀ js : List Int, DpAll K H (js.map V.int) (js.map PyData.int)
  | [] => .nil
  | t :: ts => .cons (.int _) (dp_ints' ts)
theorem lay_ints' (js : List Int) : PyData.canLayAll0 (js.map PyData.int) = true ∧ PyData.depthAll (js.map PyData.int) = 0 := by
  induction js with
  | nil => exact ⟨rfl, rfl⟩
  | cons t ts ih =>
    refine ⟨ih.1, ?_⟩
    show max 0 _ = 0
    rw [ih.2]
    rfl
theorem shaped_ints (js : List Int) : SeqAt.shaped (.list (js.map PyData.int)) = true := by
  unfold SeqAt.shaped
  obtain ⟨a, b⟩ := lay_ints' js
  rw [show (PyData.list (js.map PyData.int)).canLay0 = true from a]
  have : (PyData.list (js.map PyData.int)).depth ≤ 64 := by
    show PyData.depthAll _ + 1 ≤ 64
    omega
  rw [decide_eq_true this]
  rfl
def spDraw : Sp := fun vs H Q _ => ∃ (D C : Addr) (T b : Nat), vs = [.ref D, .int (b : Nat)] ∧ DeckAt D C T H ∧ T ≤ 1000000 ∧ 0 < b ∧ b ≤ 1000 ∧
  ∀ H' (r : Nat), r < b → DeckAt D C (T + 1) H' → Off D C H H' → Q (.int (r : Nat)) H'
theorem fmod_nat (i : Int) {b : Nat} (h : 0 < b) : ∃ r : Nat, i.fmod (b : Int) = (r : Nat) ∧ r < b := by
  have h1 : 0 ≤ i.fmod (b : Int) := Int.fmod_nonneg_of_pos i (by omega)
  have h2 : i.fmod (b : Int) < b := Int.fmod_lt_of_pos i (by omega)
  exact ⟨(i.fmod b).toNat, by omega, by omega⟩
theorem bound_mod (i : Int) : -(2 ^ 64) < i.fmod 2147483647 ∧ i.fmod 2147483647 < 2 ^ 64 := by
  obtain ⟨r, e, l⟩ := fmod_nat i (b := 2147483647) (by decide)
  have e' : i.fmod 2147483647 = (r : Nat) := e
  rw [e']
  omega
theorem mod_fin {b : Nat} (h : 0 < b) (i : Int) {H : Hp} {Q : VK} (k : ∀ r : Nat, r < b → Q (.int (r : Nat)) H) : Q (.int (i.fmod (b : Nat))) H := by
  obtain ⟨r, e, l⟩ := fmod_nat i h
  rw [e]
  exact k r l
section
variable {P : Program} {w : World} {K : PySem.W.Frag} {mg : Str → Option Value} {base : Heap}
theorem ok_draw {f : Addr} {fd : FuncData} (F : Fun K "_law_draw" "_law_draw" s__law_draw f fd) (B : Blt mg) :
    FnOk P w K mg base CX0 1 f fd ["_law_deck_here", "_law_below"] spDraw := by
  refine F.ok sc__law_draw (fun vs H Q E h => ?_) (fun cdv A outer s H vs Q E hr h => ?_)
  · obtain ⟨_, _, _, _, rfl, _⟩ := h
    rfl
  · obtain ⟨D, C, T, b, rfl, hdk, hT, hb0, hb1, q⟩ := h
    have hu : (A.deeper (envOfC "_law_draw" (defScope s__law_draw) s.heap.objs.size f cdv)).units + 64 < cLine := by
      have := hr.units
      omega
    have hu1 : (A.deeper (envOfC "_law_draw" (defScope s__law_draw) s.heap.objs.size f cdv)).units + 1 < cLine := by omega
    refine ⟨_, (pss_cons (ps_dput hu1 (pv 0) pe_str (pe_op op_add (pe_dget hu1 (pv 0) pe_str (fun _ _ => rfl)) pe_int) rfl)
      (pss_cons (ps_set (i := 2) sc__law_draw.nd rfl (Or.inl rfl) (pe_op op_add (pe_dget hu1 (pv 0) pe_str (fun _ _ => rfl)) (pe_op op_mul (pe_op op_mul pe_int (pe_dget hu1 (pv 0) pe_str (fun _ _ => rfl))) (pe_dget hu1 (pv 0) pe_str (fun _ _ => rfl)))))
      (pss_cons (ps_if (pt_cmpR (op_neD hu) (pe_dget hu1 (pv 0) pe_str (fun _ _ => rfl)) (pe_ls pa_nil) (nomark _)) (pss_cons (ps_set (i := 3) sc__law_draw.nd rfl (Or.inl rfl) (pe_bm0 PySem.F.plainAttrs_list PySem.F.slot_list_pop PySem.F.type_list_pop mt_pop (pe_dget hu1 (pv 0) pe_str (fun _ _ => rfl))))
        (pss_cons (ps_if (pt_cmpR op_ge (pv 3) (pe_op op_pow pe_int pe_int) (nomark _)) (pss_cons (ps_expr (pe_bm PySem.F.plainAttrs_list PySem.F.slot_list_append PySem.F.type_list_append mt_append (pe_dget hu1 (pv 0) pe_str (fun _ _ => rfl)) (pa_cons (pe_op op_fdivN (pv 3) (pv 1)) pa_nil)))
          (pss_one (ps_ret (pe_op op_modN (pe_callTy call_int1 (by rfl) B.int (by decide +kernel) (pa_cons (pv 3) pa_nil)) (pv 1))))) pss_nil)
        (pss_one (ps_set (i := 2) sc__law_draw.nd rfl (Or.inl rfl) (pe_op op_add (pv 2) (pe_op op_modN (pe_callTy call_int1 (by rfl) B.int (by decide +kernel) (pa_cons (pv 3) pa_nil)) pe_int)))))) pss_nil)
      (pss_cons (ps_set (i := 2) sc__law_draw.nd rfl (Or.inl rfl) (pe_op op_modN (pe_callTy call_int1 (by rfl) B.int (by decide +kernel) (pa_cons (pe_op op_add (pe_op op_mul (pe_op op_modN (pv 2) pe_int) pe_int) (pe_dget hu1 (pv 0) pe_str (fun _ _ => rfl))) pa_nil)) pe_int))
      (pss_cons (ps_set (i := 2) sc__law_draw.nd rfl (Or.inl rfl) (pe_op op_modN (pe_callTy call_int1 (by rfl) B.int (by decide +kernel) (pa_cons (pe_op op_add (pe_op op_add (pe_op op_mul (pv 2) (pv 2)) (pe_op op_mul pe_int (pe_dget hu1 (pv 0) pe_str (fun _ _ => rfl)))) pe_int) pa_nil)) pe_int))
      (pss_one (ps_ret (pe_op op_modN (pe_op op_fdivN (pe_op op_modN (pe_callTy call_int1 (by rfl) B.int (by decide +kernel) (pa_cons (pe_op op_mul (pv 2) pe_int) pa_nil)) pe_int) pe_int) (pv 1))))))))), ?_⟩
    obtain ⟨m, t, js, hD, hC, hjs, ht⟩ := hdk.ex
    have ne := hdk.ne
    have e : ((t : Nat) : Int) + 1 = ((t + 1 : Nat) : Int) := by omega
    have eH : upd H D (.dK (deckKv C m (t + 1))) = upd H D (.dK (putK (deckKv C m t) (.inr "turn") (.int (((t : Nat) : Int) + 1)))) := by
      rw [e]
      rfl
    have o1 : Off D C H (upd H D (.dK (deckKv C m (t + 1)))) := fun x o h1 h2 h => (upd_ne h1).trans h
    have hD1 : upd H D (.dK (deckKv C m (t + 1))) D = some (.dK (deckKv C m (t + 1))) := upd_same
    have hC1 : upd H D (.dK (deckKv C m (t + 1))) C = some (.lst (js.map V.int)) := (upd_ne ne).trans hC
    refine ⟨_, rfl, D, .int (t : Nat), rfl, (DGet.k (k := .inr "turn") hD : DGet H D (.str "turn") (some (.int (t : Nat)))), _, _, rfl, rfl, _, rfl, D, upd H D (.dK (deckKv C m (t + 1))), rfl, Or.inl ⟨deckKv C m t, .inr "turn", hD, rfl, sz_lt (by show 3 ≤ _; decide), eH⟩, ?_⟩
    generalize upd H D (.dK (deckKv C m (t + 1))) = H1 at o1 hD1 hC1 ⊢
    have gT : ∀ {H2 : Hp}, H2 D = some (.dK (deckKv C m (t + 1))) → DGet H2 D (.str "turn") (some (.int (t + 1 : Nat))) := fun h => DGet.k (k := .inr "turn") h
    have gM : ∀ {H2 : Hp}, H2 D = some (.dK (deckKv C m (t + 1))) → DGet H2 D (.str "mixed") (some (.int m)) := fun h => DGet.k (k := .inr "mixed") h
    have gC : ∀ {H2 : Hp}, H2 D = some (.dK (deckKv C m (t + 1))) → DGet H2 D (.str "cells") (some (.ref C)) := fun h => DGet.k (k := .inr "cells") h
    have cT : -(2 ^ 64) < (((t + 1 : Nat)) : Int) ∧ (((t + 1 : Nat)) : Int) < 2 ^ 64 := by omega
    refine ⟨_, rfl, D, _, rfl, gM hD1, _, rfl, D, _, rfl, gT hD1, _, _, rfl, rfl, Or.inl (by decide), _, rfl, D, _, rfl, gT hD1, _, _, rfl, rfl, Or.inr cT, _, _, rfl, rfl, ?_⟩
    refine ⟨_, rfl, D, _, rfl, gC hD1, sz_le (n := 0) (by decide), fun p hp _ => ?_⟩
    have sp1 : Same H1 (upd H1 p (.lst [])) := same_new hp
    refine ⟨.list (js.map PyData.int), .list [], .lst (SqL.of (sp1 _ _ hC1)) (dp_ints' js), .lst (SqL.of upd_same) .nil, shaped_ints js, by decide +kernel, _, rfl, ?_⟩
    have hD2 := sp1 _ _ hD1
    have hC2 := sp1 _ _ hC1
    have o2 : Off D C H (upd H1 p (.lst [])) := o1.trans (Off.same sp1)
    generalize upd H1 p (.lst []) = H2 at hD2 hC2 o2 ⊢
    have fin : ∀ (H3 : Hp) (js' : List Int), H3 D = some (.dK (deckKv C m (t + 1))) → H3 C = some (.lst (js'.map V.int)) → js'.length ≤ 100 → Off D C H H3 → ∀ r : Nat, r < b → Q (.int (r : Nat)) H3 :=
      fun H3 js' h1 h2 h3 h4 r hr => q H3 r hr ⟨m, t + 1, js', h1, h2, h3, by omega⟩ h4
    rcases List.eq_nil_or_concat js with rfl | ⟨js', j, rfl⟩
    · refine ifF rfl ?_
      have hDx := hD2
      have kq := fin H2 [] hD2 hC2 (by decide) o2
      refine ⟨_, rfl, _, _, rfl, rfl, (show (2147483549 : Int) ≠ 0 by decide), _, _, rfl, rfl, Or.inr (by decide), _, rfl, D, _, rfl, gT hDx, _, _, rfl, rfl, Or.inl ⟨_, rfl, _, _, rfl, rfl, (show (2147483647 : Int) ≠ 0 by decide), ?_⟩⟩
      refine ⟨_, rfl, _, rfl, _, _, rfl, rfl, Or.inl ?_, _, rfl, D, _, rfl, gT hDx, _, _, rfl, rfl, Or.inl (by decide), _, _, rfl, rfl, _, _, rfl, rfl, Or.inl ⟨_, rfl, _, _, rfl, rfl, (show (2147483579 : Int) ≠ 0 by decide), ?_⟩⟩
      · exact bound_mod _
      · refine ⟨_, rfl, _, _, rfl, rfl, Or.inr (by decide), Or.inl ⟨_, rfl, _, _, rfl, rfl, (show (2147483629 : Int) ≠ 0 by decide), _, _, rfl, rfl, ⟨by decide, by decide⟩, _, rfl, _, _, rfl, rfl, (show ((b : Nat) : Int) ≠ 0 by omega), ?_⟩⟩
        exact mod_fin hb0 _ kq
    · rw [List.concat_eq_append] at *
      refine ifT (by cases js' <;> rfl) ?_
      have hlast : ((js' ++ [j]).map V.int)[((js' ++ [j]).map V.int).length - 1]? = some (.int j) := by simp
      have hdrop : ((js' ++ [j]).map V.int).dropLast = js'.map V.int := by simp
      refine ⟨_, rfl, D, _, rfl, gC hD2, Or.inl ⟨rfl, _, Or.inl (Or.inl hC2)⟩, C, _, _, rfl, rfl, hC2, hlast, ?_⟩
      rw [hdrop]
      have hD3 : upd H2 C (.lst (js'.map V.int)) D = some (.dK (deckKv C m (t + 1))) := (upd_ne (Ne.symm ne)).trans hD2
      have hC3 : upd H2 C (.lst (js'.map V.int)) C = some (.lst (js'.map V.int)) := upd_same
      have o3 : Off D C H (upd H2 C (.lst (js'.map V.int))) := o2.trans (fun x o h1 h2 h => (upd_ne h2).trans h)
      generalize upd H2 C (.lst (js'.map V.int)) = H3 at hD3 hC3 o3 ⊢
      have hl' : js'.length + 1 ≤ 100 := by simpa using hjs
      refine ⟨_, rfl, _, _, rfl, rfl, ⟨by decide, by decide, by decide⟩, _, _, rfl, rfl, _, rfl, ite2 (fun hc => ?_) (fun hc => ?_)⟩
      · have hj : (10 : Int) ^ 18 ≤ j := of_decide_eq_true hc
        refine ⟨_, rfl, D, _, rfl, gC hD3, Or.inl ⟨rfl, _, Or.inl (Or.inl hC3)⟩, _, rfl, _, rfl, _, _, rfl, rfl, ⟨by omega, by omega⟩, C, _, _, rfl, rfl, hC3, sz_lt (by rw [List.length_map]; omega), ?_⟩
        have hD4 : upd H3 C (.lst (js'.map V.int ++ [.int (j.fdiv (b : Nat))])) D = some (.dK (deckKv C m (t + 1))) := (upd_ne (Ne.symm ne)).trans hD3
        have hC4 : upd H3 C (.lst (js'.map V.int ++ [.int (j.fdiv (b : Nat))])) C = some (.lst ((js' ++ [j.fdiv (b : Nat)]).map V.int)) := upd_same.trans (by rw [List.map_append]; rfl)
        have o4 : Off D C H (upd H3 C (.lst (js'.map V.int ++ [.int (j.fdiv (b : Nat))]))) := o3.trans (fun x o h1 h2 h => (upd_ne h2).trans h)
        have kq := fin _ _ hD4 hC4 (by rw [List.length_append]; exact hl') o4
        refine ⟨_, rfl, Or.inl ⟨_, rfl, _, rfl, _, _, rfl, rfl, (show ((b : Nat) : Int) ≠ 0 by omega), ?_⟩⟩
        exact mod_fin hb0 _ kq
      · refine ⟨_, rfl, _, rfl, Or.inl ⟨_, rfl, _, _, rfl, rfl, (show (2147483563 : Int) ≠ 0 by decide), _, _, rfl, rfl, ?_⟩⟩
        have hDx := hD3
        have kq := fin H3 js' hD3 hC3 (by omega) o3
        refine ⟨_, rfl, _, _, rfl, rfl, (show (2147483549 : Int) ≠ 0 by decide), _, _, rfl, rfl, Or.inr (by decide), _, rfl, D, _, rfl, gT hDx, _, _, rfl, rfl, Or.inl ⟨_, rfl, _, _, rfl, rfl, (show (2147483647 : Int) ≠ 0 by decide), ?_⟩⟩
        refine ⟨_, rfl, _, rfl, _, _, rfl, rfl, Or.inl ?_, _, rfl, D, _, rfl, gT hDx, _, _, rfl, rfl, Or.inl (by decide), _, _, rfl, rfl, _, _, rfl, rfl, Or.inl ⟨_, rfl, _, _, rfl, rfl, (show (2147483579 : Int) ≠ 0 by decide), ?_⟩⟩
        · exact bound_mod _
        · refine ⟨_, rfl, _, _, rfl, rfl, Or.inr (by decide), Or.inl ⟨_, rfl, _, _, rfl, rfl, (show (2147483629 : Int) ≠ 0 by decide), _, _, rfl, rfl, ⟨by decide, by decide⟩, _, rfl, _, _, rfl, rfl, (show ((b : Nat) : Int) ≠ 0 by omega), ?_⟩⟩
          exact mod_fin hb0 _ kq
end
end Lw

namespace Lw
open PySem PySem.Spec PyProof.Rows L2 Mq
open SX (S)
def spDeck (K : PySem.W.Frag) : Sp := fun vs H Q _ => ∃ (a : Addr) (ns : List Int), vs = [.ref a] ∧ SqL K H a (ns.map V.int) ∧ ns.length ≤ 63 ∧
  ∀ H' D C, Same H H' → DeckAt D C 0 H' → Q (.ref D) H'
def spPick : Sp := fun vs H Q _ => ∃ (D C : Addr) (T : Nat) (x : V), vs = [.ref D, x] ∧ DeckAt D C T H ∧ T ≤ 1000000 ∧
  ((∃ l : List Nat, x = .str (S l) ∧ 0 < l.length ∧ l.length ≤ 1000 ∧ ∀ H' c, c ∈ l → DeckAt D C (T + 1) H' → Off D C H H' → Q (.str (S [c])) H') ∨
   ∃ (p : Addr) (xs : List V), x = .ref p ∧ H p = some (.lst xs) ∧ p ≠ C ∧ 0 < xs.length ∧ xs.length ≤ 1000 ∧ ∀ H' v, v ∈ xs → DeckAt D C (T + 1) H' → Off D C H H' → Q v H')
section
variable {P : Program} {w : World} {K : PySem.W.Frag} {mg : Str → Option Value} {base : Heap}
theorem ok_deck {f : Addr} {fd : FuncData} (F : Fun K "_law_deck" "_law_deck" s__law_deck f fd) (B : Blt mg) :
    FnOk P w K mg base CX0 1 f fd ["_law_script"] (spDeck K) := by
  refine F.ok sc__law_deck (fun vs H Q E h => ?_) (fun cdv A outer s H vs Q E hr h => ?_)
  · obtain ⟨_, _, rfl, _⟩ := h
    rfl
  · obtain ⟨a, ns, rfl, ha, hn, q⟩ := h
    refine ⟨_, (pss_cons (ps_par (i := 1) (j := 2) rfl sc__law_deck.nd rfl rfl (by decide) rfl rfl (pa_cons (pe_callTy call_list_of (by rfl) B.list (by decide +kernel) (pa_cons (pe_slice sl_list (pv 0) po_none (po_some pe_int)) pa_nil)) (pa_cons pe_int pa_nil)) (by rfl))
      (pss_cons (ps_for PassesOwn.never rfl (pi_list (pv 1)) (pg_name (i := 3) sc__law_deck.nd rfl (Or.inl rfl))
        (pss_one (ps_set (i := 2) sc__law_deck.nd rfl (Or.inl rfl) (pe_op op_modN (pe_callTy call_int1 (by rfl) B.int (by decide +kernel) (pa_cons (pe_op op_add (pe_op op_add (pe_op op_mul (pv 2) pe_int) (pe_op op_modN (pe_callTy call_int1 (by rfl) B.int (by decide +kernel) (pa_cons (pv 3) pa_nil)) pe_int)) pe_int) pa_nil)) pe_int))))
      (pss_one (ps_ret (pe_disp (pps_cons pe_str (pe_revL (pv 1)) (pps_cons pe_str (pv 2) (pps_cons pe_str pe_int pps_nil))) (by rfl) (by rfl) (fun z => by cases z) (by decide)))))), ?_⟩
    obtain ⟨ms, hms, hml⟩ : ∃ ms : List Int, cutV (ns.map V.int) none (some 63) = ms.map V.int ∧ ms.length ≤ 63 := by
      refine ⟨(ns.drop (HT.sIx (ns.map V.int).length 0 none)).take (HT.sIx (ns.map V.int).length (ns.map V.int).length (some 63) - HT.sIx (ns.map V.int).length 0 none), ?_, ?_⟩
      · unfold cutV
        rw [← List.map_drop, ← List.map_take]
      · rw [List.length_take, List.length_drop]
        omega
    refine ⟨_, rfl, 63, rfl, a, _, rfl, ha, fun p1 hp1 => ⟨p1, _, rfl, Or.inl (SqL.of upd_same), fun c hc => ?_⟩⟩
    rw [hms] at hc ⊢
    have s1 : Same H (upd H p1 (.lst (ms.map V.int))) := same_new hp1
    generalize upd H p1 (.lst (ms.map V.int)) = H1 at s1 hc ⊢
    have s2 : Same H (upd H1 c (.lst (ms.map V.int))) := s1.trans (same_new hc)
    have hC : upd H1 c (.lst (ms.map V.int)) c = some (.lst (ms.map V.int)) := upd_same
    generalize upd H1 c (.lst (ms.map V.int)) = H2 at s2 hC ⊢
    refine ⟨_, _, rfl, ?_⟩
    refine ⟨_, rfl, c, rfl, ⟨_, SqL.of hC⟩, ?_⟩
    refine for_list (xs := ms.map V.int) (fun i σ H' => H' = H2 ∧ ∃ (m : Int) (o : Option V), σ = [some (.ref a), some (.ref c), some (.int m), o]) ⟨rfl, _, _, rfl⟩ (fun i σ H' _ p => by rw [p.1]; exact SqL.of hC) ?_ ?_
    · rintro i x σ H' hx ⟨rfl, m, o, rfl⟩
      obtain ⟨j, rfl⟩ : ∃ j, x = .int j := by
        rw [List.getElem?_map] at hx
        cases h : ms[i]? with
        | none => rw [h] at hx; cases hx
        | some j => rw [h] at hx; cases hx; exact ⟨j, rfl⟩
      refine ⟨_, rfl, _, _, rfl, rfl, Or.inr (by decide), _, rfl, Or.inl ⟨_, rfl, _, _, rfl, rfl, (show (2147483587 : Int) ≠ 0 by decide), _, _, rfl, rfl, _, _, rfl, rfl, Or.inl ⟨_, rfl, _, _, rfl, rfl, (show (2147483629 : Int) ≠ 0 by decide), rfl, _, _, rfl⟩⟩⟩
    · rintro σ H' ⟨rfl, m, o, rfl⟩
      refine fun p hp => ?_
      have s3 : Same H' (upd H' p (.dK [])) := same_new hp
      refine ⟨_, rfl, c, _, rfl, SqL.of (s3 _ _ hC), fun p2 hp2 => ⟨_, rfl, ?_⟩⟩
      have s4 : Same H' (upd (upd H' p (.dK [])) p2 (.lst (ms.map V.int).reverse)) := s3.trans (same_new hp2)
      have hp4 : upd (upd H' p (.dK [])) p2 (.lst (ms.map V.int).reverse) p = some (.dK []) := (same_new hp2) _ _ upd_same
      refine ⟨hp4, deckKv p2 m 0, rfl, by show 3 ≤ 15; decide, ?_⟩
      have ne : p2 ≠ p := by
        rintro rfl
        rw [upd_same] at hp2
        cases hp2
      refine q _ p p2 ?_ ⟨m, 0, ms.reverse, upd_same.trans ?_, ?_, by rw [List.length_reverse]; omega, Nat.le_refl _⟩
      · intro b o e
        have e2 := s2 b o e
        rw [upd_ne (ne_of_none e2 hp)]
        exact s4 b o e2
      · rfl
      · rw [upd_ne ne, upd_same, List.map_reverse]
end
end Lw

namespace Lw
open PySem PySem.Spec PyProof.Rows L2 Mq
open SX (S)
section
variable {P : Program} {w : World} {K : PySem.W.Frag} {mg : Str → Option Value} {base : Heap}
theorem ok_pick {f fD : Addr} {fd fdD : FuncData} (F : Fun K "_law_pick" "_law_pick" s__law_pick f fd) (B : Blt mg)
    (FD : Fun K "_law_draw" "_law_draw" s__law_draw fD fdD) (gD : mg "_law_draw" = some (.ref fD)) (bD : Binds K fdD ["_law_deck_here", "_law_below"] []) :
    FnOk P w K mg base CX0 2 f fd ["_law_deck_here", "_law_some"] spPick := by
  have GD : FnOk P w K mg base CX0 1 fD fdD ["_law_deck_here", "_law_below"] spDraw := ok_draw FD B
  refine F.ok sc__law_pick (fun vs H Q E h => ?_) (fun cdv A outer s H vs Q E hr h => ?_)
  · obtain ⟨_, _, _, _, rfl, _⟩ := h
    rfl
  · obtain ⟨D, C, T, x, rfl, hdk, hT, h⟩ := h
    refine ⟨_, (pss_one (ps_ret (pe_ix ix_seq (pv 1) (pe_call GD (hr.mono (by decide)) (by rfl) gD FD.kp bD .nil pass0 (pa_cons (pv 0) (pa_cons (pe_callB call_len (by rfl) B.len (by decide +kernel) (pa_cons (pv 1) pa_nil)) pa_nil))) (fun _ _ => rfl)))), ?_⟩
    rcases h with ⟨l, rfl, h0, h1, q⟩ | ⟨p, xs, rfl, hp, hpC, h0, h1, q⟩
    · refine ⟨_, rfl, _, rfl, _, rfl, _, _, rfl, len_S (by omega), D, C, T, l.length, rfl, hdk, hT, h0, h1, fun H' r hr dk off => ?_⟩
      refine Or.inr (Or.inr ⟨S l, _, l.getD r 0, rfl, rfl, sz_le (by rw [SX.S_len]; omega), at_get hr, ?_⟩)
      refine q H' _ ?_ dk off
      rw [List.getD_eq_getElem?_getD, List.getElem?_eq_getElem hr]
      exact List.getElem_mem hr
    · refine ⟨_, rfl, _, rfl, _, rfl, _, _, rfl, Or.inl ⟨xs, SqL.of hp, rfl⟩, D, C, T, xs.length, rfl, hdk, hT, h0, h1, fun H' r hr dk off => ?_⟩
      have hpD : p ≠ D := by
        rintro rfl
        obtain ⟨_, _, _, e, _⟩ := hdk.ex
        rw [hp] at e
        cases e
      have hp' := off p _ hpD hpC hp
      refine Or.inl ⟨p, xs, _, xs[r], rfl, rfl, SqL.of hp', atI_nat (List.getElem?_eq_getElem hr), q H' _ (List.getElem_mem hr) dk off⟩
end
end Lw

namespace Lw
open PySem PySem.Spec PyProof.Rows L2 Mq
open SX (S)
def spPure (cl : Nat → Addr) : Sp := fun vs H Q _ => ∃ (at' : Nat) (e : Addr), vs = [.ref e, .int (at' : Nat)] ∧ at' < 34 ∧ ErrW H (cl at') e ∧ ∀ H', Same H H' → Q (.bl true) H'
section
variable {P : Program} {w : World} {K : PySem.W.Frag} {mg : Str → Option Value} {base : Heap} {cl fi : Nat → Addr} {CM : Addr}
theorem ok_pure {f fK : Addr} {fd fdK : FuncData} (F : Fun K "_law_is_pure" "_law_is_pure" s__law_is_pure f fd) (B : Blt mg) (AC : AllC K mg cl CM)
    (FK : Fun K "_law_kinds" "_law_kinds" s__law_kinds fK fdK) (gK : mg "_law_kinds" = some (.ref fK)) (bK : Binds K fdK ["_law_e"] []) (GK : FnOk P w K mg base CX0 1 fK fdK ["_law_e"] (spKinds cl)) :
    FnOk P w K mg base CX0 3 f fd ["_law_e", "_law_at"] (spPure cl) := by
  refine F.ok sc__law_is_pure (fun vs H Q E h => ?_) (fun cdv A outer s H vs Q E hr h => ?_)
  · obtain ⟨_, _, rfl, _⟩ := h
    rfl
  · obtain ⟨at', e, rfl, h34, ⟨dd, ea, eb⟩, q⟩ := h
    have hu : (A.deeper (envOfC "_law_is_pure" (defScope s__law_is_pure) s.heap.objs.size f cdv)).units + 64 < cLine := by
      have := hr.units
      omega
    have hr1 : Room 1 (A.deeper (envOfC "_law_is_pure" (defScope s__law_is_pure) s.heap.objs.size f cdv)) := hr.mono (by decide)
    refine ⟨_, (pss_cons (ps_if (PW.pt (pw_or (pt_not (pt_val (pe_callB call_isE (by rfl) B.isi (by decide +kernel) (pa_cons (pv 0) (pa_cons (pe_glob (v := .ref CM) (by rfl) AC.gM rfl) pa_nil))))) (pw_or1 (pt_not (pt_val (pe_callB call_isE (by rfl) B.isi (by decide +kernel) (pa_cons (pv 0) (pa_cons (pe_bltn (v := .ty "Exception") (by rfl) (AC.nx "Exception" (by decide)) (by decide +kernel) rfl) pa_nil)))))))) (pss_one (ps_ret pe_bl)) pss_nil)
      (pss_cons (ps_if (pt_cmpR (op_neFl hu) (pe_call GK (hr.mono (by decide)) (by rfl) gK FK.kp bK .nil pass0 (pa_cons (pv 0) pa_nil)) (pe_lc (own := [("_law_k", 3)]) (g := gName 3) (tt := tYes) rfl sc__law_is_pure.nd (pi_range1 (by rfl) B.range (pa_cons pe_int pa_nil)) (blkOk_by (own := [("_law_k", 3)]) (N := ["_law_e", "_law_at", "_law_some", "_law_k"]) (sc := defScope s__law_is_pure) (by decide +kernel)) (fun _ _ _ _ _ => pg_name (i := 3) sc__law_is_pure.nd rfl (Or.inl rfl)) (fun _ _ _ _ _ => pts_nil) (fun _ _ _ _ _ => (pe_cmpR op_eq (pv 3) (pv 1) (nomark _)))) (nomark _)) (pss_one (ps_ret pe_bl)) pss_nil)
      (pss_cons (ps_set (i := 2) sc__law_is_pure.nd rfl (Or.inl rfl) (Mq.pe_ls (pa_cons (pe_callB call_isE (by rfl) B.isi (by decide +kernel) (pa_cons (pv 0) (pa_cons (pe_bltn (v := .ty "ValueError") (by rfl) (AC.nx "ValueError" (by decide)) (by decide +kernel) rfl) pa_nil))) (pa_cons (pe_callB call_isE (by rfl) B.isi (by decide +kernel) (pa_cons (pv 0) (pa_cons (pe_bltn (v := .ty "TypeError") (by rfl) (AC.nx "TypeError" (by decide)) (by decide +kernel) rfl) pa_nil))) (pa_cons (pe_callB call_isE (by rfl) B.isi (by decide +kernel) (pa_cons (pv 0) (pa_cons (pe_bltn (v := .ty "LookupError") (by rfl) (AC.nx "LookupError" (by decide)) (by decide +kernel) rfl) pa_nil))) pa_nil)))))
      (pss_cons (ps_set (i := 2) sc__law_is_pure.nd rfl (Or.inl rfl) (pe_op op_cat (pv 2) (Mq.pe_ls (pa_cons (pe_callB call_isE (by rfl) B.isi (by decide +kernel) (pa_cons (pv 0) (pa_cons (pe_bltn (v := .ty "ArithmeticError") (by rfl) (AC.nx "ArithmeticError" (by decide)) (by decide +kernel) rfl) pa_nil))) (pa_cons (pe_callB call_isE (by rfl) B.isi (by decide +kernel) (pa_cons (pv 0) (pa_cons (pe_bltn (v := .ty "RuntimeError") (by rfl) (AC.nx "RuntimeError" (by decide)) (by decide +kernel) rfl) pa_nil))) (pa_cons (pe_callB call_isE (by rfl) B.isi (by decide +kernel) (pa_cons (pv 0) (pa_cons (pe_bltn (v := .ty "AttributeError") (by rfl) (AC.nx "AttributeError" (by decide)) (by decide +kernel) rfl) pa_nil))) pa_nil))))))
      (pss_one (ps_ret (pe_cmpR (op_eqG (rcG_list mon_flat eqG_flat) hr1) (pv 2) (pe_op op_rep (Mq.pe_ls (pa_cons pe_bl pa_nil)) pe_int) (nomark _)))))))), ?_⟩
    have A : ∀ {H1 : Hp}, Same H H1 → H1 e = some (ExF (cl at') dd e) := fun s1 => s1 _ _ ea
    have Bf : ∀ {H1 : Hp}, Same H H1 → ∀ x, dd = some x → ∃ fs, H1 x = some (.xd fs) := fun s1 x hx => by
      obtain ⟨fs, c⟩ := eb x hx
      exact ⟨fs, s1 _ _ c⟩
    have O := AC.oth at' h34
    refine ⟨_, rfl, e, cl at', dd, _, _, true, rfl, .own _, A (Same.refl H), Bf (Same.refl H), AC.held at' h34, AC.mill at' h34, true, rfl, ifF rfl ?_⟩
    refine ⟨_, rfl, e, cl at', dd, _, _, true, rfl, .ty _, A (Same.refl H), Bf (Same.refl H), AC.held at' h34, AC.exc at' h34, true, rfl, ifF rfl ?_⟩
    refine ⟨_, rfl, at', e, rfl, h34, ⟨dd, ea, eb⟩, fun H1 p s1 hp => ?_⟩
    dsimp only
    refine lc_map (n := 34) walk_rng (fun k => .bl (decide (at' = k))) (by decide) (fun R k => ⟨34, rfl, by decide, by decide, k _ (Same.refl _) trivial⟩) (fun _ _ _ _ _ => trivial) ?_ ?_
    · rintro k x H2 H3 R hk sm ⟨rfl, rfl⟩ kq
      refine ⟨rfl, _, rfl, _, rfl, rfl, ?_⟩
      have ed : decide (V.int (k : Nat) = V.int (at' : Nat)) = decide (at' = k) := decide_eq_decide.mpr ⟨fun z => by injection z with z; omega, fun z => by rw [z]⟩
      rw [ed]
      exact kq _ (Same.refl _)
    · intro L H2 hL0 s2 hL
      have s02 := s1.trans s2
      refine ⟨p, L, _, rfl, rfl, SqL.of (s2 _ _ hp), SqL.of hL, ?_, false, rfl, ifF rfl ?_⟩
      · intro v hv
        obtain ⟨k, _, rfl⟩ := List.mem_map.mp hv
        rfl
      refine ⟨_, rfl, e, cl at', dd, _, _, false, rfl, .ty _, A s02, Bf s02, AC.held at' h34, O _ (by decide), _, rfl, e, cl at', dd, _, _, false, rfl, .ty _, A s02, Bf s02, AC.held at' h34, O _ (by decide), _, rfl, e, cl at', dd, _, _, false, rfl, .ty _, A s02, Bf s02, AC.held at' h34, O _ (by decide), sz_le (n := 3) (by decide), fun p1 hp1 _ => ?_⟩
      have r1 := same_new (o := HO.lst [V.bl false, V.bl false, V.bl false]) hp1
      have L1 : upd H2 p1 (.lst [V.bl false, V.bl false, V.bl false]) p1 = some (.lst [V.bl false, V.bl false, V.bl false]) := upd_same
      have s03 := s02.trans r1
      generalize upd H2 p1 (.lst [V.bl false, V.bl false, V.bl false]) = H3 at s03 L1 ⊢
      refine ⟨_, rfl, _, rfl, e, cl at', dd, _, _, false, rfl, .ty _, A s03, Bf s03, AC.held at' h34, O _ (by decide), _, rfl, e, cl at', dd, _, _, false, rfl, .ty _, A s03, Bf s03, AC.held at' h34, O _ (by decide), _, rfl, e, cl at', dd, _, _, false, rfl, .ty _, A s03, Bf s03, AC.held at' h34, O _ (by decide), sz_le (n := 3) (by decide), fun p2 hp2 _ => ?_⟩
      have r2 := same_new (o := HO.lst [V.bl false, V.bl false, V.bl false]) hp2
      refine ⟨p1, p2, _, _, rfl, rfl, r2 _ _ L1, upd_same, sz_le (n := 6) (by decide), fun p3 hp3 => ?_⟩
      have s04 := (s03.trans r2).trans (same_new (o := HO.lst ([V.bl false, V.bl false, V.bl false] ++ [V.bl false, V.bl false, V.bl false])) hp3)
      have L3 : upd (upd H3 p2 (.lst [V.bl false, V.bl false, V.bl false])) p3 (.lst ([V.bl false, V.bl false, V.bl false] ++ [V.bl false, V.bl false, V.bl false])) p3 = some (.lst [V.bl false, V.bl false, V.bl false, V.bl false, V.bl false, V.bl false]) := upd_same
      generalize upd (upd H3 p2 (.lst [V.bl false, V.bl false, V.bl false])) p3 (.lst ([V.bl false, V.bl false, V.bl false] ++ [V.bl false, V.bl false, V.bl false])) = H4 at s04 L3 ⊢
      refine ⟨_, rfl, sz_le (n := 1) (by decide), fun p4 hp4 _ => ?_⟩
      refine ⟨p4, 6, _, rfl, rfl, upd_same, by decide, by decide, sz_le (n := 6) (by decide), fun p5 hp5 => ?_⟩
      have r5 := (same_new (o := HO.lst [V.bl false]) hp4).trans (same_new (o := HO.lst (List.replicate (6 : Int).toNat [V.bl false]).flatten) hp5)
      refine ⟨⟨p3, p5, _, _, rfl, rfl, r5 _ _ L3, upd_same, rfl, fun i x y e1 e2 => ?_⟩, fun H' e5 => q H' ((s04.trans r5).trans e5)⟩
      have e2' : [V.bl false, V.bl false, V.bl false, V.bl false, V.bl false, V.bl false][i]? = some y := e2
      rw [e1] at e2'
      cases e2'
      have hm := List.mem_of_getElem? e1
      simp only [List.mem_cons, List.not_mem_nil, or_false, or_self] at hm
      subst hm
      exact ⟨rfl, rfl, rfl⟩
end
end Lw

namespace Lw
open PySem PySem.Spec PyProof.Rows L2 Mq
open SX (S)
/-! ### the values that are drawn -/
def datas : List PyData := [.none, .bool true, .bool false, .int 0, .int (-1), .int 7, .int ((10 : Int) ^ 39), .str "", .str "a", .str "folds", .str "letters", .tuple [], .tuple [.int 0], .tuple [.str "a", .tuple [.int 1]], .list [], .list [.int 1, .str "x"], .dict [],
  .dict [(.str "a", .int 1)], .tuple [.tuple [], .tuple []], .str "?a", .tuple [.str "goes", .str "x"], .int (-((10 : Int) ^ 39)), .str " ", .str "book ab\nfold a b -"]
def okL (ds : List PyData) : Bool := (PyData.list ds).showable && (decide ((PyData.list ds).depth ≤ 40) && decide ((PyData.list ds).shown.length ≤ 1000))
def okP (a b : PyData) : Bool := okL [a, a, b, b] && (okL [a, b] && okL [a, b, a, b])
theorem sh0 : (datas.all fun b => okP (.none) b) = true := by decide +kernel
theorem sh1 : (datas.all fun b => okP (.bool true) b) = true := by decide +kernel
theorem sh2 : (datas.all fun b => okP (.bool false) b) = true := by decide +kernel
theorem sh3 : (datas.all fun b => okP (.int 0) b) = true := by decide +kernel
theorem sh4 : (datas.all fun b => okP (.int (-1)) b) = true := by decide +kernel
theorem sh5 : (datas.all fun b => okP (.int 7) b) = true := by decide +kernel
theorem sh6 : (datas.all fun b => okP (.int ((10 : Int) ^ 39)) b) = true := by decide +kernel
theorem sh7 : (datas.all fun b => okP (.str "") b) = true := by decide +kernel
theorem sh8 : (datas.all fun b => okP (.str "a") b) = true := by decide +kernel
theorem sh9 : (datas.all fun b => okP (.str "folds") b) = true := by decide +kernel
theorem sh10 : (datas.all fun b => okP (.str "letters") b) = true := by decide +kernel
theorem sh11 : (datas.all fun b => okP (.tuple []) b) = true := by decide +kernel
theorem sh12 : (datas.all fun b => okP (.tuple [.int 0]) b) = true := by decide +kernel
theorem sh13 : (datas.all fun b => okP (.tuple [.str "a", .tuple [.int 1]]) b) = true := by decide +kernel
theorem sh14 : (datas.all fun b => okP (.list []) b) = true := by decide +kernel
theorem sh15 : (datas.all fun b => okP (.list [.int 1, .str "x"]) b) = true := by decide +kernel
theorem sh16 : (datas.all fun b => okP (.dict []) b) = true := by decide +kernel
theorem sh17 : (datas.all fun b => okP (.dict [(.str "a", .int 1)]) b) = true := by decide +kernel
theorem sh18 : (datas.all fun b => okP (.tuple [.tuple [], .tuple []]) b) = true := by decide +kernel
theorem sh19 : (datas.all fun b => okP (.str "?a") b) = true := by decide +kernel
theorem sh20 : (datas.all fun b => okP (.tuple [.str "goes", .str "x"]) b) = true := by decide +kernel
theorem sh21 : (datas.all fun b => okP (.int (-((10 : Int) ^ 39))) b) = true := by decide +kernel
theorem sh22 : (datas.all fun b => okP (.str " ") b) = true := by decide +kernel
theorem sh23 : (datas.all fun b => okP (.str "book ab\nfold a b -") b) = true := by decide +kernel
theorem all_show : (datas.all fun a => datas.all fun b => okP a b) = true := by
  refine List.all_eq_true.mpr fun a ha => ?_
  simp only [datas, List.mem_cons, List.not_mem_nil, or_false] at ha
  rcases ha with rfl | rfl | rfl | rfl | rfl | rfl | rfl | rfl | rfl | rfl | rfl | rfl | rfl | rfl | rfl | rfl | rfl | rfl | rfl | rfl | rfl | rfl | rfl | rfl
  · exact sh0
  · exact sh1
  · exact sh2
  · exact sh3
  · exact sh4
  · exact sh5
  · exact sh6
  · exact sh7
  · exact sh8
  · exact sh9
  · exact sh10
  · exact sh11
  · exact sh12
  · exact sh13
  · exact sh14
  · exact sh15
  · exact sh16
  · exact sh17
  · exact sh18
  · exact sh19
  · exact sh20
  · exact sh21
  · exact sh22
  · exact sh23
end Lw

namespace Lw
open PySem PySem.Spec PyProof.Rows L2 Mq
open SX (S)
theorem okL_of {ds : List PyData} (h : okL ds = true) : ShowOk (.list ds) := by
  obtain ⟨a, b⟩ := Bool.and_eq_true_iff.mp h
  obtain ⟨b, c⟩ := Bool.and_eq_true_iff.mp b
  have c' := of_decide_eq_true c
  exact ⟨a, of_decide_eq_true b, Nat.le_trans c' (by decide)⟩
theorem pair_show {a b : PyData} (ha : a ∈ datas) (hb : b ∈ datas) : ShowOk (.list [a, a, b, b]) ∧ ShowOk (.list [a, b]) ∧ ShowOk (.list [a, b, a, b]) := by
  have h : okP a b = true := List.all_eq_true.mp (List.all_eq_true.mp all_show a ha) b hb
  obtain ⟨x, h⟩ := Bool.and_eq_true_iff.mp h
  obtain ⟨y, z⟩ := Bool.and_eq_true_iff.mp h
  exact ⟨okL_of x, okL_of y, okL_of z⟩
theorem new_ne {D C : Addr} {T : Nat} {H : Hp} {q : Addr} (k : DeckAt D C T H) (h : H q = none) : q ≠ D ∧ q ≠ C := by
  obtain ⟨_, _, _, e1, e2, _⟩ := k.ex
  refine ⟨?_, ?_⟩
  · rintro rfl
    rw [h] at e1
    cases e1
  · rintro rfl
    rw [h] at e2
    cases e2
/-- a thing of ours, none of the deck's -/
def Sits (D C : Addr) (H : Hp) (a : Addr) (o : HO) : Prop := H a = some o ∧ a ≠ D ∧ a ≠ C
theorem Sits.same {D C : Addr} {H H' : Hp} {a : Addr} {o : HO} (h : Sits D C H a o) (s : Same H H') : Sits D C H' a o := ⟨s _ _ h.1, h.2⟩
theorem Sits.off {D C : Addr} {H H' : Hp} {a : Addr} {o : HO} (h : Sits D C H a o) (s : Off D C H H') : H' a = some o := s a o h.2.1 h.2.2 h.1
/-- a drawn value: what it is stays, whatever is drawn -/
def ItemAt (K : PySem.W.Frag) (D C : Addr) (H : Hp) (v : V) (d : PyData) : Prop := d ∈ datas ∧ ∀ H', Off D C H H' → Dg K H' v d
theorem ItemAt.off {K : PySem.W.Frag} {D C : Addr} {H H' : Hp} {v : V} {d : PyData} (h : ItemAt K D C H v d) (s : Off D C H H') : ItemAt K D C H' v d := ⟨h.1, fun G g => h.2 G (s.trans g)⟩
def spIt (K : PySem.W.Frag) : Sp := fun vs H Q _ => ∃ (D C : Addr) (T : Nat), vs = [.ref D] ∧ DeckAt D C T H ∧ T ≤ 900000 ∧ ∀ H' v d, ItemAt K D C H' v d → DeckAt D C (T + 1) H' → Off D C H H' → Q v H'
section
variable {P : Program} {w : World} {K : PySem.W.Frag} {mg : Str → Option Value} {base : Heap}
theorem ok_it {f fP : Addr} {fd fdP : FuncData} (F : Fun K "_law_it" "_law_it" s__law_it f fd)
    (FP : Fun K "_law_pick" "_law_pick" s__law_pick fP fdP) (gP : mg "_law_pick" = some (.ref fP)) (bP : Binds K fdP ["_law_deck_here", "_law_some"] []) (GP : FnOk P w K mg base CX0 2 fP fdP ["_law_deck_here", "_law_some"] spPick) :
    FnOk P w K mg base CX0 3 f fd ["_law_deck_here"] (spIt K) := by
  refine F.ok sc__law_it (fun vs H Q E h => ?_) (fun cdv A outer s H vs Q E hr h => ?_)
  · obtain ⟨_, _, _, rfl, _⟩ := h
    rfl
  · obtain ⟨D, C, T, rfl, hdk, hT, q⟩ := h
    refine ⟨_, (pss_cons (ps_set (i := 1) sc__law_it.nd rfl (Or.inl rfl) (Mq.pe_ls (pa_cons pe_non (pa_cons pe_bl (pa_cons pe_bl (pa_cons pe_int (pa_cons (pe_un un_neg pe_int) (pa_cons pe_int (pa_cons (pe_op op_pow pe_int pe_int) (pa_cons pe_str (pa_cons pe_str (pa_cons pe_str (pa_cons pe_str (pa_cons (pe_tup pa_nil) (pa_cons (pe_tup (pa_cons pe_int pa_nil)) (pa_cons (pe_tup (pa_cons pe_str (pa_cons (pe_tup (pa_cons pe_int pa_nil)) pa_nil))) (pa_cons (Mq.pe_ls pa_nil) (pa_cons (Mq.pe_ls (pa_cons pe_int (pa_cons pe_str pa_nil))) (pa_cons pe_dnewK pa_nil)))))))))))))))))))
      (pss_one (ps_ret (pe_call GP (hr.mono (by decide)) (by rfl) gP FP.kp bP .nil pass0 (pa_cons (pv 0) (pa_cons (pe_op op_cat (pv 1) (Mq.pe_ls (pa_cons (pe_disp (pps_cons pe_str pe_int pps_nil) (by rfl) (by rfl) (fun z => by cases z) (by decide)) (pa_cons (pe_tup (pa_cons (pe_tup pa_nil) (pa_cons (pe_tup pa_nil) pa_nil))) (pa_cons pe_str (pa_cons (pe_tup (pa_cons pe_str (pa_cons pe_str pa_nil))) (pa_cons (pe_un un_neg (pe_op op_pow pe_int pe_int)) (pa_cons pe_str (pa_cons pe_str pa_nil))))))))) pa_nil)))))), ?_⟩
    refine ⟨_, rfl, _, _, rfl, rfl, ⟨by decide, by decide, by decide⟩, sz_le (n := 0) (by decide), fun a1 ha1 => ?_⟩
    have m0 := new_ne (hdk.same (Same.refl H)) ha1
    have r0 := same_new (o := HO.tup []) ha1
    have za1 : Sits D C (upd H a1 (HO.tup [])) a1 (HO.tup []) := ⟨upd_same, m0⟩
    have s0 := (Same.refl H).trans r0
    generalize upd H a1 (HO.tup []) = G0 at s0 za1 ⊢
    refine ⟨sz_le (n := 1) (by decide), fun a2 ha2 => ?_⟩
    have m1 := new_ne (hdk.same (s0)) ha2
    have r1 := same_new (o := HO.tup [V.int 0]) ha2
    have za2 : Sits D C (upd G0 a2 (HO.tup [V.int 0])) a2 (HO.tup [V.int 0]) := ⟨upd_same, m1⟩
    have za1 := za1.same r1
    have s1 := (s0).trans r1
    generalize upd G0 a2 (HO.tup [V.int 0]) = G1 at s1 za1 za2 ⊢
    refine ⟨sz_le (n := 1) (by decide), fun a3 ha3 => ?_⟩
    have m2 := new_ne (hdk.same (s1)) ha3
    have r2 := same_new (o := HO.tup [V.int 1]) ha3
    have za3 : Sits D C (upd G1 a3 (HO.tup [V.int 1])) a3 (HO.tup [V.int 1]) := ⟨upd_same, m2⟩
    have za1 := za1.same r2
    have za2 := za2.same r2
    have s2 := (s1).trans r2
    generalize upd G1 a3 (HO.tup [V.int 1]) = G2 at s2 za1 za2 za3 ⊢
    refine ⟨sz_le (n := 2) (by decide), fun a4 ha4 => ?_⟩
    have m3 := new_ne (hdk.same (s2)) ha4
    have r3 := same_new (o := HO.tup [V.str "a", V.ref a3]) ha4
    have za4 : Sits D C (upd G2 a4 (HO.tup [V.str "a", V.ref a3])) a4 (HO.tup [V.str "a", V.ref a3]) := ⟨upd_same, m3⟩
    have za1 := za1.same r3
    have za2 := za2.same r3
    have za3 := za3.same r3
    have s3 := (s2).trans r3
    generalize upd G2 a4 (HO.tup [V.str "a", V.ref a3]) = G3 at s3 za1 za2 za3 za4 ⊢
    refine ⟨sz_le (n := 0) (by decide), fun a5 ha5 na5 => ?_⟩
    have m4 := new_ne (hdk.same (s3)) ha5
    have r4 := same_new (o := HO.lst []) ha5
    have za5 : Sits D C (upd G3 a5 (HO.lst [])) a5 (HO.lst []) := ⟨upd_same, m4⟩
    have za1 := za1.same r4
    have za2 := za2.same r4
    have za3 := za3.same r4
    have za4 := za4.same r4
    have s4 := (s3).trans r4
    generalize upd G3 a5 (HO.lst []) = G4 at s4 za1 za2 za3 za4 za5 ⊢
    refine ⟨sz_le (n := 2) (by decide), fun a6 ha6 na6 => ?_⟩
    have m5 := new_ne (hdk.same (s4)) ha6
    have r5 := same_new (o := HO.lst [V.int 1, V.str "x"]) ha6
    have za6 : Sits D C (upd G4 a6 (HO.lst [V.int 1, V.str "x"])) a6 (HO.lst [V.int 1, V.str "x"]) := ⟨upd_same, m5⟩
    have za1 := za1.same r5
    have za2 := za2.same r5
    have za3 := za3.same r5
    have za4 := za4.same r5
    have za5 := za5.same r5
    have s5 := (s4).trans r5
    generalize upd G4 a6 (HO.lst [V.int 1, V.str "x"]) = G5 at s5 za1 za2 za3 za4 za5 za6 ⊢
    refine fun a7 ha7 => ?_
    have m6 := new_ne (hdk.same (s5)) ha7
    have r6 := same_new (o := HO.dK []) ha7
    have za7 : Sits D C (upd G5 a7 (HO.dK [])) a7 (HO.dK []) := ⟨upd_same, m6⟩
    have za1 := za1.same r6
    have za2 := za2.same r6
    have za3 := za3.same r6
    have za4 := za4.same r6
    have za5 := za5.same r6
    have za6 := za6.same r6
    have s6 := (s5).trans r6
    generalize upd G5 a7 (HO.dK []) = G6 at s6 za1 za2 za3 za4 za5 za6 za7 ⊢
    refine ⟨sz_le (n := 17) (by decide), fun p1 hp1 np1 => ?_⟩
    show gName 1 (V.ref p1) _ (upd G6 p1 (HO.lst [V.non, V.bl true, V.bl false, V.int 0, V.int (-1), V.int 7, V.int ((10 : Int) ^ 39), V.str "", V.str "a", V.str "folds", V.str "letters", V.ref a1, V.ref a2, V.ref a4, V.ref a5, V.ref a6, V.ref a7])) _
    have m7 := new_ne (hdk.same (s6)) hp1
    have r7 := same_new (o := HO.lst [V.non, V.bl true, V.bl false, V.int 0, V.int (-1), V.int 7, V.int ((10 : Int) ^ 39), V.str "", V.str "a", V.str "folds", V.str "letters", V.ref a1, V.ref a2, V.ref a4, V.ref a5, V.ref a6, V.ref a7]) hp1
    have zp1 : Sits D C (upd G6 p1 (HO.lst [V.non, V.bl true, V.bl false, V.int 0, V.int (-1), V.int 7, V.int ((10 : Int) ^ 39), V.str "", V.str "a", V.str "folds", V.str "letters", V.ref a1, V.ref a2, V.ref a4, V.ref a5, V.ref a6, V.ref a7])) p1 (HO.lst [V.non, V.bl true, V.bl false, V.int 0, V.int (-1), V.int 7, V.int ((10 : Int) ^ 39), V.str "", V.str "a", V.str "folds", V.str "letters", V.ref a1, V.ref a2, V.ref a4, V.ref a5, V.ref a6, V.ref a7]) := ⟨upd_same, m7⟩
    have za1 := za1.same r7
    have za2 := za2.same r7
    have za3 := za3.same r7
    have za4 := za4.same r7
    have za5 := za5.same r7
    have za6 := za6.same r7
    have za7 := za7.same r7
    have s7 := (s6).trans r7
    generalize upd G6 p1 (HO.lst [V.non, V.bl true, V.bl false, V.int 0, V.int (-1), V.int 7, V.int ((10 : Int) ^ 39), V.str "", V.str "a", V.str "folds", V.str "letters", V.ref a1, V.ref a2, V.ref a4, V.ref a5, V.ref a6, V.ref a7]) = G7 at s7 za1 za2 za3 za4 za5 za6 za7 zp1 ⊢
    refine ⟨_, rfl, _, rfl, fun a8 ha8 => ⟨upd_same, [(.inr "a", .int 1)], rfl, by decide, ?_⟩⟩
    have m8 := new_ne (hdk.same s7) ha8
    have e8 : upd (upd G7 a8 (.dK [])) a8 (.dK (mergeK [] [(Sum.inr "a", V.int 1)])) a8 = some (.dK [(Sum.inr "a", V.int 1)]) := upd_same
    have r8 : Same G7 (upd (upd G7 a8 (.dK [])) a8 (.dK (mergeK [] [(Sum.inr "a", V.int 1)]))) := fun b u e => by
      rw [upd_ne (ne_of_none e ha8), upd_ne (ne_of_none e ha8)]
      exact e
    have za8 : Sits D C (upd (upd G7 a8 (.dK [])) a8 (.dK (mergeK [] [(Sum.inr "a", V.int 1)]))) a8 (.dK [(Sum.inr "a", V.int 1)]) := ⟨e8, m8⟩
    have za1 := za1.same r8
    have za2 := za2.same r8
    have za3 := za3.same r8
    have za4 := za4.same r8
    have za5 := za5.same r8
    have za6 := za6.same r8
    have za7 := za7.same r8
    have zp1 := zp1.same r8
    have s8 := s7.trans r8
    clear e8
    generalize upd (upd G7 a8 (.dK [])) a8 (.dK (mergeK [] [(Sum.inr "a", V.int 1)])) = G8 at s8 za1 za2 za3 za4 za5 za6 za7 zp1 za8 ⊢
    refine ⟨sz_le (n := 0) (by decide), fun a9 ha9 => ?_⟩
    have m9 := new_ne (hdk.same (s8)) ha9
    have r9 := same_new (o := HO.tup []) ha9
    have za9 : Sits D C (upd G8 a9 (HO.tup [])) a9 (HO.tup []) := ⟨upd_same, m9⟩
    have za1 := za1.same r9
    have za2 := za2.same r9
    have za3 := za3.same r9
    have za4 := za4.same r9
    have za5 := za5.same r9
    have za6 := za6.same r9
    have za7 := za7.same r9
    have zp1 := zp1.same r9
    have za8 := za8.same r9
    have s9 := (s8).trans r9
    generalize upd G8 a9 (HO.tup []) = G9 at s9 za1 za2 za3 za4 za5 za6 za7 zp1 za8 za9 ⊢
    refine ⟨sz_le (n := 0) (by decide), fun a10 ha10 => ?_⟩
    have m10 := new_ne (hdk.same (s9)) ha10
    have r10 := same_new (o := HO.tup []) ha10
    have za10 : Sits D C (upd G9 a10 (HO.tup [])) a10 (HO.tup []) := ⟨upd_same, m10⟩
    have za1 := za1.same r10
    have za2 := za2.same r10
    have za3 := za3.same r10
    have za4 := za4.same r10
    have za5 := za5.same r10
    have za6 := za6.same r10
    have za7 := za7.same r10
    have zp1 := zp1.same r10
    have za8 := za8.same r10
    have za9 := za9.same r10
    have s10 := (s9).trans r10
    generalize upd G9 a10 (HO.tup []) = G10 at s10 za1 za2 za3 za4 za5 za6 za7 zp1 za8 za9 za10 ⊢
    refine ⟨sz_le (n := 2) (by decide), fun a11 ha11 => ?_⟩
    have m11 := new_ne (hdk.same (s10)) ha11
    have r11 := same_new (o := HO.tup [V.ref a9, V.ref a10]) ha11
    have za11 : Sits D C (upd G10 a11 (HO.tup [V.ref a9, V.ref a10])) a11 (HO.tup [V.ref a9, V.ref a10]) := ⟨upd_same, m11⟩
    have za1 := za1.same r11
    have za2 := za2.same r11
    have za3 := za3.same r11
    have za4 := za4.same r11
    have za5 := za5.same r11
    have za6 := za6.same r11
    have za7 := za7.same r11
    have zp1 := zp1.same r11
    have za8 := za8.same r11
    have za9 := za9.same r11
    have za10 := za10.same r11
    have s11 := (s10).trans r11
    generalize upd G10 a11 (HO.tup [V.ref a9, V.ref a10]) = G11 at s11 za1 za2 za3 za4 za5 za6 za7 zp1 za8 za9 za10 za11 ⊢
    refine ⟨sz_le (n := 2) (by decide), fun a12 ha12 => ?_⟩
    have m12 := new_ne (hdk.same (s11)) ha12
    have r12 := same_new (o := HO.tup [V.str "goes", V.str "x"]) ha12
    have za12 : Sits D C (upd G11 a12 (HO.tup [V.str "goes", V.str "x"])) a12 (HO.tup [V.str "goes", V.str "x"]) := ⟨upd_same, m12⟩
    have za1 := za1.same r12
    have za2 := za2.same r12
    have za3 := za3.same r12
    have za4 := za4.same r12
    have za5 := za5.same r12
    have za6 := za6.same r12
    have za7 := za7.same r12
    have zp1 := zp1.same r12
    have za8 := za8.same r12
    have za9 := za9.same r12
    have za10 := za10.same r12
    have za11 := za11.same r12
    have s12 := (s11).trans r12
    generalize upd G11 a12 (HO.tup [V.str "goes", V.str "x"]) = G12 at s12 za1 za2 za3 za4 za5 za6 za7 zp1 za8 za9 za10 za11 za12 ⊢
    refine ⟨_, _, rfl, rfl, ⟨by decide, by decide, by decide⟩, _, rfl, sz_le (n := 7) (by decide), fun p2 hp2 np2 => ?_⟩
    show rCat (V.ref p1) (V.ref p2) (upd G12 p2 (HO.lst [V.ref a8, V.ref a11, V.str "?a", V.ref a12, V.int (-((10 : Int) ^ 39)), V.str " ", V.str "book ab\nfold a b -"])) _
    have m13 := new_ne (hdk.same (s12)) hp2
    have r13 := same_new (o := HO.lst [V.ref a8, V.ref a11, V.str "?a", V.ref a12, V.int (-((10 : Int) ^ 39)), V.str " ", V.str "book ab\nfold a b -"]) hp2
    have zp2 : Sits D C (upd G12 p2 (HO.lst [V.ref a8, V.ref a11, V.str "?a", V.ref a12, V.int (-((10 : Int) ^ 39)), V.str " ", V.str "book ab\nfold a b -"])) p2 (HO.lst [V.ref a8, V.ref a11, V.str "?a", V.ref a12, V.int (-((10 : Int) ^ 39)), V.str " ", V.str "book ab\nfold a b -"]) := ⟨upd_same, m13⟩
    have za1 := za1.same r13
    have za2 := za2.same r13
    have za3 := za3.same r13
    have za4 := za4.same r13
    have za5 := za5.same r13
    have za6 := za6.same r13
    have za7 := za7.same r13
    have zp1 := zp1.same r13
    have za8 := za8.same r13
    have za9 := za9.same r13
    have za10 := za10.same r13
    have za11 := za11.same r13
    have za12 := za12.same r13
    have s13 := (s12).trans r13
    generalize upd G12 p2 (HO.lst [V.ref a8, V.ref a11, V.str "?a", V.ref a12, V.int (-((10 : Int) ^ 39)), V.str " ", V.str "book ab\nfold a b -"]) = G13 at s13 za1 za2 za3 za4 za5 za6 za7 zp1 za8 za9 za10 za11 za12 zp2 ⊢
    refine ⟨p1, p2, _, _, rfl, rfl, zp1.1, zp2.1, sz_le (n := 24) (by decide), fun p3 hp3 => ?_⟩
    have m14 := new_ne (hdk.same (s13)) hp3
    have r14 := same_new (o := HO.lst ([V.non, V.bl true, V.bl false, V.int 0, V.int (-1), V.int 7, V.int ((10 : Int) ^ 39), V.str "", V.str "a", V.str "folds", V.str "letters", V.ref a1, V.ref a2, V.ref a4, V.ref a5, V.ref a6, V.ref a7] ++ [V.ref a8, V.ref a11, V.str "?a", V.ref a12, V.int (-((10 : Int) ^ 39)), V.str " ", V.str "book ab\nfold a b -"])) hp3
    have zp3 : Sits D C (upd G13 p3 (HO.lst ([V.non, V.bl true, V.bl false, V.int 0, V.int (-1), V.int 7, V.int ((10 : Int) ^ 39), V.str "", V.str "a", V.str "folds", V.str "letters", V.ref a1, V.ref a2, V.ref a4, V.ref a5, V.ref a6, V.ref a7] ++ [V.ref a8, V.ref a11, V.str "?a", V.ref a12, V.int (-((10 : Int) ^ 39)), V.str " ", V.str "book ab\nfold a b -"]))) p3 (HO.lst ([V.non, V.bl true, V.bl false, V.int 0, V.int (-1), V.int 7, V.int ((10 : Int) ^ 39), V.str "", V.str "a", V.str "folds", V.str "letters", V.ref a1, V.ref a2, V.ref a4, V.ref a5, V.ref a6, V.ref a7] ++ [V.ref a8, V.ref a11, V.str "?a", V.ref a12, V.int (-((10 : Int) ^ 39)), V.str " ", V.str "book ab\nfold a b -"])) := ⟨upd_same, m14⟩
    have za1 := za1.same r14
    have za2 := za2.same r14
    have za3 := za3.same r14
    have za4 := za4.same r14
    have za5 := za5.same r14
    have za6 := za6.same r14
    have za7 := za7.same r14
    have zp1 := zp1.same r14
    have za8 := za8.same r14
    have za9 := za9.same r14
    have za10 := za10.same r14
    have za11 := za11.same r14
    have za12 := za12.same r14
    have zp2 := zp2.same r14
    have s14 := (s13).trans r14
    generalize upd G13 p3 (HO.lst ([V.non, V.bl true, V.bl false, V.int 0, V.int (-1), V.int 7, V.int ((10 : Int) ^ 39), V.str "", V.str "a", V.str "folds", V.str "letters", V.ref a1, V.ref a2, V.ref a4, V.ref a5, V.ref a6, V.ref a7] ++ [V.ref a8, V.ref a11, V.str "?a", V.ref a12, V.int (-((10 : Int) ^ 39)), V.str " ", V.str "book ab\nfold a b -"])) = G14 at s14 za1 za2 za3 za4 za5 za6 za7 zp1 za8 za9 za10 za11 za12 zp2 zp3 ⊢
    refine ⟨D, C, T, .ref p3, rfl, hdk.same s14, by omega, Or.inr ⟨p3, _, rfl, zp3.1, zp3.2.2, Nat.zero_lt_succ _, by show 24 ≤ 1000; decide, fun H' v hv dk' off' => ?_⟩⟩
    have off0 : Off D C H H' := (Off.same s14).trans off'
    have fin : ∀ d, d ∈ datas → (∀ G, Off D C G14 G → Dg K G v d) → Q v H' := fun d hd hg => q H' v d ⟨hd, fun G g => hg G (off'.trans g)⟩ dk' off0
    clear q hdk dk' off0
    simp only [List.cons_append, List.nil_append, List.mem_cons, List.not_mem_nil, or_false] at hv
    rcases hv with rfl | rfl | rfl | rfl | rfl | rfl | rfl | rfl | rfl | rfl | rfl | rfl | rfl | rfl | rfl | rfl | rfl | rfl | rfl | rfl | rfl | rfl | rfl | rfl
    · exact fin _ (List.mem_of_getElem? (i := 0) rfl) fun G g => .non
    · exact fin _ (List.mem_of_getElem? (i := 1) rfl) fun G g => .bl _
    · exact fin _ (List.mem_of_getElem? (i := 2) rfl) fun G g => .bl _
    · exact fin _ (List.mem_of_getElem? (i := 3) rfl) fun G g => .int _
    · exact fin _ (List.mem_of_getElem? (i := 4) rfl) fun G g => .int _
    · exact fin _ (List.mem_of_getElem? (i := 5) rfl) fun G g => .int _
    · exact fin _ (List.mem_of_getElem? (i := 6) rfl) fun G g => .int _
    · exact fin _ (List.mem_of_getElem? (i := 7) rfl) fun G g => .str _
    · exact fin _ (List.mem_of_getElem? (i := 8) rfl) fun G g => .str _
    · exact fin _ (List.mem_of_getElem? (i := 9) rfl) fun G g => .str _
    · exact fin _ (List.mem_of_getElem? (i := 10) rfl) fun G g => .str _
    · exact fin _ (List.mem_of_getElem? (i := 11) rfl) fun G g => .tup (Or.inl (Or.inl (za1.off g))) .nil
    · exact fin _ (List.mem_of_getElem? (i := 12) rfl) fun G g => .tup (Or.inl (Or.inl (za2.off g))) (.cons (.int _) .nil)
    · exact fin _ (List.mem_of_getElem? (i := 13) rfl) fun G g => .tup (Or.inl (Or.inl (za4.off g))) (.cons (.str _) (.cons (.tup (Or.inl (Or.inl (za3.off g))) (.cons (.int _) .nil)) .nil))
    · exact fin _ (List.mem_of_getElem? (i := 14) rfl) fun G g => .lst na5 (SqL.of (za5.off g)) .nil
    · exact fin _ (List.mem_of_getElem? (i := 15) rfl) fun G g => .lst na6 (SqL.of (za6.off g)) (.cons (.int _) (.cons (.str _) .nil))
    · exact fin _ (List.mem_of_getElem? (i := 16) rfl) fun G g => .dct (za7.off g) .nil
    · exact fin _ (List.mem_of_getElem? (i := 17) rfl) fun G g => .dct (za8.off g) (.cons (.int _) .nil)
    · exact fin _ (List.mem_of_getElem? (i := 18) rfl) fun G g => .tup (Or.inl (Or.inl (za11.off g))) (.cons (.tup (Or.inl (Or.inl (za9.off g))) .nil) (.cons (.tup (Or.inl (Or.inl (za10.off g))) .nil) .nil))
    · exact fin _ (List.mem_of_getElem? (i := 19) rfl) fun G g => .str _
    · exact fin _ (List.mem_of_getElem? (i := 20) rfl) fun G g => .tup (Or.inl (Or.inl (za12.off g))) (.cons (.str _) (.cons (.str _) .nil))
    · exact fin _ (List.mem_of_getElem? (i := 21) rfl) fun G g => .int _
    · exact fin _ (List.mem_of_getElem? (i := 22) rfl) fun G g => .str _
    · exact fin _ (List.mem_of_getElem? (i := 23) rfl) fun G g => .str _
end
end Lw

namespace Lw
open PySem PySem.Spec PyProof.Rows L2 Mq
open SX (S)
def spCaught (K : PySem.W.Frag) : Sp := fun vs H Q _ => ∃ (u v : V) (a b : PyData), vs = [u, v] ∧ Dg K H u a ∧ Dg K H v b ∧ ShowOk (.list [a, b]) ∧ ∀ H', Q (.bl true) H'
section
variable {P : Program} {w : World} {K : PySem.W.Frag} {mg : Str → Option Value} {base : Heap} {cl fi : Nat → Addr} {CM : Addr}
theorem ok_caught {f : Addr} {fd : FuncData} (F : Fun K "_law_is_caught" "_law_is_caught" s__law_is_caught f fd) (B : Blt mg) (AC : AllC K mg cl CM)
    (T7 : ErrC K mg "BadWeft" (cl 7) (fi 7)) (N7 : MqV_thing.Fn K "BadWeft.__init__" (cl 7) (fi 7)) (x7 : PySem.W.exmOne K (.ref (cl 7)) (.ref CM) = some true)
    (T27 : ErrC K mg "Broken" (cl 27) (fi 27)) (N27 : MqV_promise_paper.Fn K "Broken.__init__" (cl 27) (fi 27)) (X27 : XfC K (cl 27)) (n27a : PySem.W.findIn K (.ref (cl 27)) "promise" = some none) (n27b : PySem.W.findIn K (.ref (cl 27)) "paper" = some none)
    (x27 : PySem.W.exmOne K (.ref (cl 27)) (.ref (cl 27)) = some true) :
    FnG P w K mg base CX0 2 f fd ["_law_it_here", "_law_that"] (spCaught K) := by
  refine Mq.Fun.okG F sc__law_is_caught (fun vs H Q E h => ?_) (fun cdv A outer s H vs Q E gA hr h => ?_)
  · obtain ⟨_, _, _, _, rfl, _⟩ := h
    rfl
  · obtain ⟨u, v, a, b, rfl, ha, hb, ok, q⟩ := h
    have hr1 : Room 1 (A.deeper (envOfC "_law_is_caught" (defScope s__law_is_caught) s.heap.objs.size f cdv)) := hr.mono (by decide)
    have hu : (A.deeper (envOfC "_law_is_caught" (defScope s__law_is_caught) s.heap.objs.size f cdv)).units + 200 < cLine := by
      have := hr.un
      omega
    refine ⟨_, (pss_cons (ps_set (i := 2) sc__law_is_caught.nd rfl (Or.inl rfl) (Mq.pe_ls pa_nil))
      (pss_cons (ps_try_as (i := 3) (Wout := fun _ _ _ _ => False) (c := .ref CM) rfl rfl sc__law_is_caught.nd rfl rfl ⟨rfl, by decide, Or.inl AC.gM⟩ takes0
        (fun W pn xe tk _ => pss_one (ps_raise rfl tk (pmkP T7 hr (MqV_thing.makes_pos T7 N7) (pa_cons (pv 0) pa_nil))))
        (fun a oe cls d pn hz hf => pss_one (ps_expr (pe_bmK (K0 := K) rfl (pe_bm PySem.F.plainAttrs_list PySem.F.slot_list_append PySem.F.type_list_append mt_append (pv 2) (pa_cons (pe_callB (call_heldX (AC.held 7 (by decide)) hz hf) (by rfl) B.isi (by decide +kernel) (pa_cons (pv 3) (pa_cons (pe_glob (v := .ref (cl 7)) (by rfl) T7.gC rfl) pa_nil))) pa_nil))))))
      (pss_cons (ps_try_as (i := 3) (Wout := fun _ _ _ _ => False) (c := .ref (cl 27)) rfl rfl sc__law_is_caught.nd rfl rfl ⟨rfl, by decide, Or.inl T27.gC⟩ takes0
        (fun W pn xe tk _ => pss_one (ps_raise rfl tk (pmkK (g := fun l => l.reverse) T27 hr vals_rev (MqV_promise_paper.makes_kw T27 N27) (pk_cons (pv 1) (pk_cons (pv 0) pk_nil)))))
        (fun a oe cls d pn hz hf => pss_one (ps_expr (pe_bmK (K0 := K) rfl (pe_bm PySem.F.plainAttrs_list PySem.F.slot_list_append PySem.F.type_list_append mt_append (pv 2) (pa_cons (pe_cmpR op_eq (pe_callB (call_repU (K0 := K) rfl (by exact hu) (by exact gA)) (by rfl) B.repr (by decide +kernel) (pa_cons (Mq.pe_ls (pa_cons (pe_xf X27 n27a hz hf (pv 3)) (pa_cons (pe_xf X27 n27b hz hf (pv 3)) pa_nil))) pa_nil)) (pe_callB (call_repU (K0 := K) rfl (by exact hu) (by exact gA)) (by rfl) B.repr (by decide +kernel) (pa_cons (Mq.pe_ls (pa_cons (pv 0) (pa_cons (pv 1) pa_nil))) pa_nil)) (nomark _)) pa_nil))))))
      (pss_one (ps_ret (pe_cmpR (op_eqG (rcG_list mon_flat eqG_flat) hr1) (pv 2) (Mq.pe_ls (pa_cons pe_bl (pa_cons pe_bl pa_nil))) (nomark _))))))), ?_⟩
    refine ⟨sz_le (n := 0) (by decide), fun p hp np => ?_⟩
    have r0 := same_new (o := HO.lst []) hp
    have L0 : upd H p (.lst []) p = some (.lst []) := upd_same
    generalize upd H p (.lst []) = H1 at r0 L0 ⊢
    refine ⟨_, rfl, rfl, fun d1 hd1 => ⟨true, x7, fun _ a0 ha0 => ?_, fun z => nomatch z⟩⟩
    have r1 : Same H1 (upd H1 d1 (.xd (([("thing" : Str)]).zip [u]))) := same_new hd1
    have X1 : upd H1 d1 (.xd (([("thing" : Str)]).zip [u])) d1 = some (.xd (([("thing" : Str)]).zip [u])) := upd_same
    have L1 := r1 _ _ L0
    have s1 := r0.trans r1
    generalize upd H1 d1 (.xd (([("thing" : Str)]).zip [u])) = H2 at s1 L1 X1 ha0 ⊢
    have k7 := AC.kit 7 7 (by decide) (by decide)
    refine ⟨_, rfl, Or.inl ⟨rfl, _, SqL.of L1⟩, _, rfl, rfl, d1, cl 7, _, true, rfl, rfl, X1, k7, p, _, _, rfl, rfl, L1, sz_lt (n := 0) (by decide), ?_⟩
    have L2' : upd H2 p (.lst ([] ++ [V.bl true])) p = some (.lst [V.bl true]) := upd_same
    have nd : ∀ b o, H b = some o → b ≠ p := fun b o e => ne_of_none e hp
    have s2 : Same H (upd H2 p (.lst ([] ++ [V.bl true]))) := fun b o e => (upd_ne (nd b o e)).trans (s1 _ _ e)
    generalize upd H2 p (.lst ([] ++ [V.bl true])) = H3 at s2 L2' ⊢
    refine ⟨_, rfl, _, rfl, rfl, fun d2 hd2 => ⟨true, x27, fun _ a1 ha1 => ?_, fun z => nomatch z⟩⟩
    show tDrop _ _ _ (upd H3 d2 (.xd (([("promise" : Str), "paper"]).zip [u, v])))
    have r2 : Same H3 (upd H3 d2 (.xd (([("promise" : Str), "paper"]).zip [u, v]))) := same_new hd2
    have X2 : upd H3 d2 (.xd (([("promise" : Str), "paper"]).zip [u, v])) d2 = some (.xd (([("promise" : Str), "paper"]).zip [u, v])) := upd_same
    have L3 := r2 _ _ L2'
    have s3 := s2.trans r2
    generalize upd H3 d2 (.xd (([("promise" : Str), "paper"]).zip [u, v])) = H4 at s3 L3 X2 ha1 ⊢
    refine ⟨_, rfl, Or.inl ⟨rfl, _, SqL.of L3⟩, _, rfl, rfl, rfl, d2, _, u, rfl, X2, lk_two1 _ _, _, rfl, rfl, rfl, d2, _, v, rfl, X2, lk_two2 (by decide) _ _, sz_le (n := 2) (by decide), fun p1 hp1 hn1 => ?_⟩
    have r4 := same_new (o := HO.lst [u, v]) hp1
    have s4 := s3.trans r4
    refine ⟨_, .list [a, b], rfl, .lst hn1 (SqL.of upd_same) (.cons (ha.same s4) (.cons (hb.same s4) .nil)), ok.sh, ok.de, ok.le, ?_⟩
    refine ⟨_, rfl, _, rfl, sz_le (n := 2) (by decide), fun p2 hp2 hn2 => ?_⟩
    have r5 := same_new (o := HO.lst [u, v]) hp2
    have s5 := s4.trans r5
    refine ⟨_, .list [a, b], rfl, .lst hn2 (SqL.of upd_same) (.cons (ha.same s5) (.cons (hb.same s5) .nil)), ok.sh, ok.de, ok.le, rfl, ?_⟩
    rw [decide_eq_true rfl]
    refine ⟨p, _, _, rfl, rfl, r5 _ _ (r4 _ _ L3), sz_lt (n := 1) (by decide), ?_⟩
    refine ⟨_, rfl, sz_le (n := 2) (by decide), fun p3 hp3 hn3 => ?_⟩
    have pe : p ≠ p3 := ne_of_none upd_same hp3
    refine ⟨⟨p, p3, _, _, rfl, rfl, (upd_ne pe).trans upd_same, upd_same, rfl, fun i x y e1 e2 => ?_⟩, fun H' _ => q H'⟩
    have e2' : [V.bl true, V.bl true][i]? = some y := e2
    have e1' : [V.bl true, V.bl true][i]? = some x := e1
    rw [e1'] at e2'
    cases e2'
    have hm := List.mem_of_getElem? e1'
    simp only [List.mem_cons, List.not_mem_nil, or_false, or_self] at hm
    subst hm
    exact ⟨rfl, rfl, rfl⟩
end
end Lw

namespace Lw
open PySem PySem.Spec PyProof.Rows L2 Mq
open SX (S)
def spLaw (K : PySem.W.Frag) : Sp := fun vs H Q _ => ∃ (a : Addr) (ns : List Int), vs = [.ref a] ∧ SqL K H a (ns.map V.int) ∧ ns.length ≤ 63 ∧ ∀ H', Q (.bl true) H'
/-- a comprehension whose test always fails: an empty list -/
theorem lc_none {K : PySem.W.Frag} {a : Addr} {xs : List V} {g : TG} {tt : TT} {te : TE} {vs : List Nat} {σ : L2.St} {H1 : Hp} {D : Addr} {Qd : Hp → Prop}
    (ht : ∀ H, Same (upd H1 D (.lst [])) H → SqT K H a xs) (fin : ∀ H, Same (upd H1 D (.lst [])) H → Qd H)
    (step : ∀ (i : Nat) (x : V) (H : Hp) (R : Hp → Prop), xs[i]? = some x → Same (upd H1 D (.lst [])) H → (∀ H3, Same H H3 → R H3) →
      g x (wipe σ vs) H fun σ2 H2 => wipe σ2 vs = wipe σ vs ∧ tt σ2 H2 fun b H3 => if b = true then te σ2 H3 fun y H4 => ∃ acc, H4 D = some (HO.lst acc) ∧ acc.length < sizeLine ∧ R (upd H4 D (HO.lst (acc ++ [y]))) else R H3) :
    ∃ W : Nat → Nat → Hp → Prop, (∃ m, W 0 m (upd H1 D (HO.lst []))) ∧ ∀ (i m : Nat) (H : Hp), W i m H → (Itt K a).stop i H ∧ Qd H ∨ (Itt K a).go i H ∧ ∃ Nx : Hp → Prop, (∀ H', Nx H' → ∃ m', m' < m ∧ W (i + 1) m' H') ∧
      ∀ (x : V) (H' : Hp), (Itt K a).yld i H x H' → g x (wipe σ vs) H' fun σ2 H2 => wipe σ2 vs = wipe σ vs ∧ tt σ2 H2 fun b H3 => if b = true then te σ2 H3 fun y H4 => ∃ acc, H4 D = some (HO.lst acc) ∧ acc.length < sizeLine ∧ Nx (upd H4 D (HO.lst (acc ++ [y]))) else Nx H3 := by
  refine ⟨fun i m H => i ≤ xs.length ∧ m = xs.length - i ∧ Same (upd H1 D (.lst [])) H, ⟨_, Nat.zero_le _, rfl, Same.refl _⟩, ?_⟩
  rintro i m H ⟨h1, rfl, sm⟩
  by_cases hi : i < xs.length
  · refine Or.inr ⟨⟨xs, xs[i], ht H sm, List.getElem?_eq_getElem hi⟩, Same (upd H1 D (.lst [])), fun H' s' => ⟨_, ?_, by omega, rfl, s'⟩, ?_⟩
    · omega
    · rintro x H' ⟨rfl, hy⟩
      exact step i x _ _ (hy xs (ht _ sm)) sm fun H3 s3 => sm.trans s3
  · exact Or.inl ⟨⟨xs, ht H sm, by omega⟩, fin H sm⟩
section
variable {P : Program} {w : World} {K : PySem.W.Frag} {mg : Str → Option Value} {base : Heap} {cl : Nat → Addr} {CM : Addr}
theorem ok_law {f fD fI fM fB fR fP fC : Addr} {fd fdD fdI fdM fdB fdR fdP fdC : FuncData} (F : Fun K "law" "law" s_law f fd) (B : Blt mg)
    (FD : Fun K "_law_deck" "_law_deck" s__law_deck fD fdD) (gD : mg "_law_deck" = some (.ref fD)) (bD : Binds K fdD ["_law_script"] []) (GD : FnOk P w K mg base CX0 1 fD fdD ["_law_script"] (spDeck K))
    (FI : Fun K "_law_it" "_law_it" s__law_it fI fdI) (gI : mg "_law_it" = some (.ref fI)) (bI : Binds K fdI ["_law_deck_here"] []) (GI : FnOk P w K mg base CX0 3 fI fdI ["_law_deck_here"] (spIt K))
    (FM : Fun K "_law_made" "_law_made" s__law_made fM fdM) (gM : mg "_law_made" = some (.ref fM)) (bM : Binds K fdM ["_law_at", "_law_it_here"] []) (GM : FnOk P w K mg base CX0 3 fM fdM ["_law_at", "_law_it_here"] (spMade cl 0 26))
    (FB : Fun K "_law_both" "_law_both" s__law_both fB fdB) (gB : mg "_law_both" = some (.ref fB)) (bB : Binds K fdB ["_law_at", "_law_it_here", "_law_that"] []) (GB : FnG P w K mg base CX0 2 fB fdB ["_law_at", "_law_it_here", "_law_that"] (spBoth K cl))
    (FR : Fun K "_law_bare" "_law_bare" s__law_bare fR fdR) (gR : mg "_law_bare" = some (.ref fR)) (bR : Binds K fdR ["_law_at"] []) (GR : FnOk P w K mg base CX0 2 fR fdR ["_law_at"] (spBare cl))
    (FP : Fun K "_law_is_pure" "_law_is_pure" s__law_is_pure fP fdP) (gP : mg "_law_is_pure" = some (.ref fP)) (bP : Binds K fdP ["_law_e", "_law_at"] []) (GP : FnOk P w K mg base CX0 3 fP fdP ["_law_e", "_law_at"] (spPure cl))
    (FC : Fun K "_law_is_caught" "_law_is_caught" s__law_is_caught fC fdC) (gC : mg "_law_is_caught" = some (.ref fC)) (bC : Binds K fdC ["_law_it_here", "_law_that"] []) (GC : FnG P w K mg base CX0 2 fC fdC ["_law_it_here", "_law_that"] (spCaught K)) :
    FnG P w K mg base CX0 4 f fd ["_law_script"] (spLaw K) := by
  refine Mq.Fun.okG F sc_law (fun vs H Q E h => ?_) (fun cdv A outer s H vs Q E gA hr h => ?_)
  · obtain ⟨_, _, rfl, _⟩ := h
    rfl
  · obtain ⟨a, ns0, rfl, ha, hn0, q⟩ := h
    have hu : (A.deeper (envOfC "law" (defScope s_law) s.heap.objs.size f cdv)).units + 64 < cLine := by
      have := hr.units
      omega
    refine ⟨_, (pss_cons (ps_set (i := 1) sc_law.nd rfl (Or.inl rfl) (pe_call GD (hr.mono (by decide)) (by rfl) gD FD.kp bD .nil pass0 (pa_cons (pv 0) pa_nil)))
      (pss_cons (ps_for (passes_of rfl) rfl (pi_range1 (by rfl) B.range (pa_cons pe_int pa_nil)) (pg_name (i := 2) sc_law.nd rfl (Or.inr rfl))
        (pss_cons (ps_par (i := 3) (j := 4) rfl sc_law.nd rfl rfl (by decide) rfl rfl (pa_cons (pe_call GI (hr.mono (by decide)) (by rfl) gI FI.kp bI .nil pass0 (pa_cons (pv 1) pa_nil)) (pa_cons (pe_call GI (hr.mono (by decide)) (by rfl) gI FI.kp bI .nil pass0 (pa_cons (pv 1) pa_nil)) pa_nil)) (by rfl))
        (pss_cons (ps_par (i := 5) (j := 6) rfl sc_law.nd rfl rfl (by decide) rfl rfl (pa_cons (pe_call GM (hr.mono (by decide)) (by rfl) gM FM.kp bM .nil pass0 (pa_cons (pv 2) (pa_cons (pv 3) pa_nil))) (pa_cons (pe_call GM (hr.mono (by decide)) (by rfl) gM FM.kp bM .nil pass0 (pa_cons (pv 2) (pa_cons (pv 4) pa_nil))) pa_nil)) (by rfl))
        (pss_cons (ps_if (pt_cmpR op_ne (pe_callB (call_rep hr gA) (by rfl) B.repr (by decide +kernel) (pa_cons (Mq.pe_ls (pa_cons (pe_ix ix_tup (pv 5) pe_int (fun _ _ => rfl)) (pa_cons (pe_ix ix_tup (pv 5) pe_int (fun _ _ => rfl)) (pa_cons (pe_ix ix_tup (pv 6) pe_int (fun _ _ => rfl)) (pa_cons (pe_ix ix_tup (pv 6) pe_int (fun _ _ => rfl)) pa_nil))))) pa_nil)) (pe_callB (call_rep hr gA) (by rfl) B.repr (by decide +kernel) (pa_cons (Mq.pe_ls (pa_cons (pv 3) (pa_cons (pv 3) (pa_cons (pv 4) (pa_cons (pv 4) pa_nil))))) pa_nil)) (nomark _)) (pss_one (ps_ret pe_bl)) pss_nil)
        (pss_cons (ps_if (pt_cmpR (op_neFl hu) (pe_lc (own := [("_law_e", 10)]) (g := gName 10) rfl sc_law.nd (pi_tup (pe_tup (pa_cons (pe_ix ix_tup (pv 5) pe_int (fun _ _ => rfl)) (pa_cons (pe_ix ix_tup (pv 5) pe_int (fun _ _ => rfl)) (pa_cons (pe_ix ix_tup (pv 6) pe_int (fun _ _ => rfl)) pa_nil))))) (blkOk_by (own := [("_law_e", 10)]) (N := ["_law_script", "_law_deck_here", "_law_at", "_law_here", "_law_there", "_law_near_here", "_law_far_here", "_law_one", "_law_two", "_law_is_borne", "_law_e"]) (sc := defScope s_law) (by decide +kernel)) (fun _ _ _ _ _ => pg_name (i := 10) sc_law.nd rfl (Or.inl rfl)) (fun _ _ _ _ _ => pts_one (pt_not (pt_val (pe_call GP (hr.mono (by decide)) (by rfl) gP FP.kp bP .nil pass0 (pa_cons (pv 10) (pa_cons (pv 2) pa_nil)))))) (fun _ _ _ _ _ => (pv 10))) (Mq.pe_ls pa_nil) (nomark _)) (pss_one (ps_ret pe_bl)) pss_nil)
        (pss_one (ps_if (pt_cmpR op_ne (pe_callB (call_rep hr gA) (by rfl) B.repr (by decide +kernel) (pa_cons (Mq.pe_ls (pa_cons (pe_ix ix_tup (pv 5) pe_int (fun _ _ => rfl)) (pa_cons (pe_ix ix_tup (pe_call GM (hr.mono (by decide)) (by rfl) gM FM.kp bM .nil pass0 (pa_cons (pv 2) (pa_cons (pv 4) pa_nil))) pe_int (fun _ _ => rfl)) pa_nil))) pa_nil)) (pe_callB (call_rep hr gA) (by rfl) B.repr (by decide +kernel) (pa_cons (Mq.pe_ls (pa_cons (pv 3) (pa_cons (pv 4) pa_nil))) pa_nil)) (nomark _)) (pss_one (ps_ret pe_bl)) pss_nil)))))))
      (pss_cons (ps_for (passes_of rfl) rfl (pi_tup (pe_tup (pa_cons pe_int (pa_cons pe_int pa_nil)))) (pg_name (i := 2) sc_law.nd rfl (Or.inr rfl))
        (pss_cons (ps_asg (Mq.pe_callG GB gA (hr.mono (by decide)) (by rfl) gB FB.kp bB pass0 (pa_cons (pv 2) (pa_cons (pe_call GI (hr.mono (by decide)) (by rfl) gI FI.kp bI .nil pass0 (pa_cons (pv 1) pa_nil)) (pa_cons (pe_call GI (hr.mono (by decide)) (by rfl) gI FI.kp bI .nil pass0 (pa_cons (pv 1) pa_nil)) pa_nil)))) (pg_tup rfl (pgs_cons (pg_name (i := 7) sc_law.nd rfl (Or.inl rfl)) (pgs_cons (pg_name (i := 8) sc_law.nd rfl (Or.inl rfl)) (pgs_cons (pg_name (i := 9) sc_law.nd rfl (Or.inl rfl)) pgs_nil)))))
        (pss_one (ps_if (PW.pt (pw_or (pt_not (pt_val (pv 9))) (pw_or (pt_not (pt_val (pe_call GP (hr.mono (by decide)) (by rfl) gP FP.kp bP .nil pass0 (pa_cons (pv 7) (pa_cons (pv 2) pa_nil))))) (pw_or1 (pt_not (pt_val (pe_call GP (hr.mono (by decide)) (by rfl) gP FP.kp bP .nil pass0 (pa_cons (pv 8) (pa_cons (pv 2) pa_nil))))))))) (pss_one (ps_ret pe_bl)) pss_nil))))
      (pss_cons (ps_for (passes_of rfl) rfl (pi_range2 (by rfl) B.range (pa_cons pe_int (pa_cons pe_int pa_nil))) (pg_name (i := 2) sc_law.nd rfl (Or.inr rfl))
        (pss_one (ps_if (pt_not (pt_val (pe_call GP (hr.mono (by decide)) (by rfl) gP FP.kp bP .nil pass0 (pa_cons (pe_call GR (hr.mono (by decide)) (by rfl) gR FR.kp bR .nil pass0 (pa_cons (pv 2) pa_nil)) (pa_cons (pv 2) pa_nil))))) (pss_one (ps_ret pe_bl)) pss_nil)))
      (pss_one (ps_ret (Mq.pe_callG GC gA (hr.mono (by decide)) (by rfl) gC FC.kp bC pass0 (pa_cons (pe_call GI (hr.mono (by decide)) (by rfl) gI FI.kp bI .nil pass0 (pa_cons (pv 1) pa_nil)) (pa_cons (pe_call GI (hr.mono (by decide)) (by rfl) gI FI.kp bI .nil pass0 (pa_cons (pv 1) pa_nil)) pa_nil))))))))), ?_⟩
    refine ⟨_, rfl, a, ns0, rfl, ha, hn0, fun H1 D C s1 dk1 => ?_⟩
    refine ⟨26, rfl, by decide, by decide, ?_⟩
    refine for_it (walk_rng (n := 26)) (fun at' σ H' => DeckAt D C (2 * at') H' ∧ ∃ o2 o3 o4 o5 o6 o7 o8 o9 o10, σ = [some (.ref a), some (.ref D), o2, o3, o4, o5, o6, o7, o8, o9, o10]) ⟨dk1, _, _, _, _, _, _, _, _, _, rfl⟩ (fun _ _ _ _ _ => trivial) ?_ ?_
    · rintro at' x0 σ H2 H2' hgo ⟨dk2, o2, o3, o4, o5, o6, o7, o8, o9, o10, rfl⟩ ⟨rfl, rfl⟩
      refine ⟨_, rfl, D, C, _, rfl, dk2, by omega, fun H3 u da hua dk3 off3 => ⟨_, rfl, D, C, _, rfl, dk3, by omega, fun H4 v db hvb dk4 off4 => ⟨_, _, rfl, ?_⟩⟩⟩
      refine ⟨_, rfl, _, rfl, at', u, rfl, Nat.zero_le _, hgo, fun H5 T1 e1 e2 s5 hT1 w1 w2 => ⟨_, rfl, _, rfl, at', v, rfl, Nat.zero_le _, hgo, fun H6 T2 e3 e4 s6 hT2 w3 w4 => ⟨_, _, rfl, ?_⟩⟩⟩
      have hua6 : Dg K H6 u da := hua.2 _ (((off4.trans (Off.same s5))).trans (Off.same s6))
      have hvb6 : Dg K H6 v db := hvb.2 _ ((Off.same s5).trans (Off.same s6))
      have w1 := w1.same s6
      have w2 := w2.same s6
      have hT1 : SqT K H6 T1 _ := Or.inl (Or.inl (s6 _ _ hT1))
      have hT2 : SqT K H6 T2 _ := Or.inl (Or.inl hT2)
      have dk6 := (dk4.same s5).same s6
      obtain ⟨sh4, sh2, _⟩ := pair_show hua.1 hvb.1
      refine ⟨_, rfl, T1, _, _, _, rfl, rfl, hT1, rfl, _, rfl, T1, _, _, _, rfl, rfl, hT1, rfl, _, rfl, T2, _, _, _, rfl, rfl, hT2, rfl, _, rfl, T2, _, _, _, rfl, rfl, hT2, rfl, sz_le (n := 4) (by decide), fun p hp hn => ?_⟩
      have s7 := same_new (o := HO.lst [u, u, v, v]) hp
      refine ⟨_, .list [da, da, db, db], rfl, .lst hn (SqL.of upd_same) (.cons (hua6.same s7) (.cons (hua6.same s7) (.cons (hvb6.same s7) (.cons (hvb6.same s7) .nil)))), sh4.sh, sh4.de, sh4.le, ?_⟩
      refine ⟨_, rfl, _, rfl, _, rfl, _, rfl, sz_le (n := 4) (by decide), fun p' hp' hn' => ?_⟩
      have s8 := s7.trans (same_new (o := HO.lst [u, u, v, v]) hp')
      refine ⟨_, .list [da, da, db, db], rfl, .lst hn' (SqL.of upd_same) (.cons (hua6.same s8) (.cons (hua6.same s8) (.cons (hvb6.same s8) (.cons (hvb6.same s8) .nil)))), sh4.sh, sh4.de, sh4.le, rfl, _, rfl, ifF (by rw [decide_eq_true rfl]; rfl) ?_⟩
      generalize upd (upd H6 p (.lst [u, u, v, v])) p' (.lst [u, u, v, v]) = H7 at s8 ⊢
      clear s7 hp hp'
      have hua7 := hua6.same s8
      have hvb7 := hvb6.same s8
      have w1 := w1.same s8
      have w2 := w2.same s8
      have w3 := w3.same s8
      have hT1 := Same.tup s8 hT1
      have hT2 := Same.tup s8 hT2
      have dk7 := dk6.same s8
      refine ⟨_, rfl, T1, _, _, _, rfl, rfl, hT1, rfl, _, rfl, T1, _, _, _, rfl, rfl, hT1, rfl, _, rfl, T2, _, _, _, rfl, rfl, hT2, rfl, sz_le (n := 3) (by decide), fun pt hpt => ⟨pt, rfl, ⟨_, Or.inl (Or.inl upd_same)⟩, fun Dl hDl => ?_⟩⟩
      have s9 : Same H7 (upd H7 pt (.tup [V.ref e1, V.ref e2, V.ref e3])) := same_new hpt
      have z9 : upd H7 pt (.tup [V.ref e1, V.ref e2, V.ref e3]) pt = some (.tup [V.ref e1, V.ref e2, V.ref e3]) := upd_same
      generalize upd H7 pt (.tup [V.ref e1, V.ref e2, V.ref e3]) = H8 at s9 z9 hDl ⊢
      have s10 := same_new (o := HO.lst []) hDl
      refine lc_none (K := K) (xs := [V.ref e1, V.ref e2, V.ref e3]) (fun H' s' => Or.inl (Or.inl (s' _ _ (s10 _ _ z9)))) (fun H9 s11 => ?_) (fun i x H9 R hx s11 kq => ?_)
      · refine ⟨sz_le (n := 0) (by decide), fun p0 hp0 _ => ⟨Dl, p0, [], rfl, rfl, SqL.of (same_new hp0 _ _ (s11 _ _ upd_same)), SqL.of upd_same, (fun _ z => by cases z), _, rfl, ifF rfl ?_⟩⟩
        have s12 : Same H7 (upd H9 p0 (.lst [])) := ((s9.trans s10).trans s11).trans (same_new hp0)
        generalize upd H9 p0 (.lst []) = H10 at s12 ⊢
        have hua10 := hua7.same s12
        have hvb10 := hvb7.same s12
        have hT1 := Same.tup s12 hT1
        have dk10 := dk7.same s12
        refine ⟨_, rfl, T1, _, _, _, rfl, rfl, hT1, rfl, _, rfl, _, rfl, at', v, rfl, Nat.zero_le _, hgo, fun H11 T3 e5 e6 s13 hT3 _ _ => ⟨T3, _, _, _, rfl, rfl, Or.inl (Or.inl hT3), rfl, sz_le (n := 2) (by decide), fun p1 hp1 hn1 => ?_⟩⟩
        have s14 := s13.trans (same_new (o := HO.lst [u, v]) hp1)
        refine ⟨_, .list [da, db], rfl, .lst hn1 (SqL.of upd_same) (.cons (hua10.same s14) (.cons (hvb10.same s14) .nil)), sh2.sh, sh2.de, sh2.le, ?_⟩
        refine ⟨_, rfl, _, rfl, sz_le (n := 2) (by decide), fun p2 hp2 hn2 => ?_⟩
        have s15 := s14.trans (same_new (o := HO.lst [u, v]) hp2)
        refine ⟨_, .list [da, db], rfl, .lst hn2 (SqL.of upd_same) (.cons (hua10.same s15) (.cons (hvb10.same s15) .nil)), sh2.sh, sh2.de, sh2.le, rfl, _, rfl, ifF (by rw [decide_eq_true rfl]; rfl) ?_⟩
        exact ⟨(dk10.same s15).mono (by omega), _, _, _, _, _, _, _, _, _, rfl⟩
      · have hs := (s9.trans s10).trans s11
        obtain ⟨e, rfl, we⟩ : ∃ e, x = .ref e ∧ ErrW H7 (cl at') e := by
          match i, hx with
          | 0, hx => exact ⟨e1, by cases hx; rfl, w1⟩
          | 1, hx => exact ⟨e2, by cases hx; rfl, w2⟩
          | 2, hx => exact ⟨e3, by cases hx; rfl, w3⟩
          | n + 3, hx => cases hx
        refine ⟨rfl, _, rfl, _, rfl, at', e, rfl, by omega, we.same hs, fun H' s' => ⟨_, rfl, ifF rfl (kq _ s')⟩⟩
    · rintro σ H2 ⟨dk2, o2, o3, o4, o5, o6, o7, o8, o9, o10, rfl⟩
      refine ⟨sz_le (n := 2) (by decide), fun pt hpt => ⟨pt, rfl, ⟨_, Or.inl (Or.inl upd_same)⟩, ?_⟩⟩
      have r2 := same_new (o := HO.tup [V.int 26, V.int 27]) hpt
      have zt : Sits D C (upd H2 pt (.tup [V.int 26, V.int 27])) pt (.tup [V.int 26, V.int 27]) := ⟨upd_same, new_ne dk2 hpt⟩
      have dk3 := dk2.same r2
      generalize upd H2 pt (.tup [V.int 26, V.int 27]) = H3 at zt dk3 ⊢
      refine for_it (walk_tup (K := K) (a := pt) (xs := [V.int 26, V.int 27])) (fun i σ H' => DeckAt D C (52 + 2 * i) H' ∧ Sits D C H' pt (.tup [V.int 26, V.int 27]) ∧ ∃ o2 o3 o4 o5 o6 o7 o8 o9 o10, σ = [some (.ref a), some (.ref D), o2, o3, o4, o5, o6, o7, o8, o9, o10])
        ⟨dk3, zt, _, _, _, _, _, _, _, _, _, rfl⟩ (fun _ _ _ _ h => Or.inl (Or.inl h.2.1.1)) ?_ ?_
      · rintro i x0 σ H4 H4' hi ⟨dk4, zt4, o2, o3, o4, o5, o6, o7, o8, o9, o10, rfl⟩ ⟨rfl, hx⟩
        obtain ⟨h26, h28, rfl⟩ : 26 ≤ 26 + i ∧ 26 + i < 28 ∧ x0 = .int ((26 + i : Nat)) := by
          match i, hi, hx with
          | 0, _, hx => exact ⟨by decide, by decide, by cases hx; rfl⟩
          | 1, _, hx => exact ⟨by decide, by decide, by cases hx; rfl⟩
        refine ⟨_, rfl, _, rfl, D, C, _, rfl, dk4, by omega, fun H5 u da hua dk5 off5 => ⟨_, rfl, D, C, _, rfl, dk5, by omega, fun H6 v db hvb dk6 off6 => ?_⟩⟩
        have sh := (pair_show hua.1 hvb.1).2.2
        refine ⟨26 + i, u, v, da, db, rfl, h26, h28, hua.2 _ off6, hvb.2 _ (Off.same (Same.refl _)), sh, fun H7 T e1 e2 s7 hT w1 w2 => ?_⟩
        have w1 := w1.same (Same.refl _)
        have dk7 := dk6.same s7
        have zt7 : Sits D C H7 pt (.tup [V.int 26, V.int 27]) := ⟨s7 _ _ (off6 _ _ zt4.2.1 zt4.2.2 (off5 _ _ zt4.2.1 zt4.2.2 zt4.1)), zt4.2⟩
        refine ⟨T, _, rfl, Or.inl (Or.inl hT), rfl, _, _, rfl, _, _, rfl, _, _, rfl, rfl, ?_⟩
        refine ⟨_, rfl, true, rfl, ifF rfl ?_⟩
        refine ⟨_, rfl, _, rfl, 26 + i, e1, rfl, by omega, w1, fun H8 s8 => ⟨true, rfl, ifF rfl ?_⟩⟩
        refine ⟨_, rfl, _, rfl, 26 + i, e2, rfl, by omega, w2.same s8, fun H9 s9 => ⟨true, rfl, ifF rfl ?_⟩⟩
        refine ⟨((dk7.same s8).same s9).mono (by omega), (zt7.same s8).same s9, _, _, _, _, _, _, _, _, _, rfl⟩
      · rintro σ H4 ⟨dk4, _, o2, o3, o4, o5, o6, o7, o8, o9, o10, rfl⟩
        refine ⟨28, 34, rfl, ⟨by decide, by decide, by decide, by decide⟩, ?_⟩
        have wk : Walk (Itr 28 6) 6 (fun _ => True) (YFn fun i => .int ((28 + i : Nat))) := ⟨fun i H h _ => h, fun H _ => Nat.le_refl _, fun i H x H' h _ hy => ⟨hy.1, hy.2.trans (by show V.int (28 + (i : Int)) = V.int ((28 + i : Nat)); rw [Int.natCast_add]; rfl)⟩⟩
        refine for_it wk (fun i σ H' => DeckAt D C 56 H' ∧ ∃ o2 o3 o4 o5 o6 o7 o8 o9 o10, σ = [some (.ref a), some (.ref D), o2, o3, o4, o5, o6, o7, o8, o9, o10])
          ⟨dk4, _, _, _, _, _, _, _, _, _, rfl⟩ (fun _ _ _ _ _ => trivial) ?_ ?_
        · rintro i x0 σ H5 H5' hi ⟨dk5, o2, o3, o4, o5, o6, o7, o8, o9, o10, rfl⟩ ⟨rfl, rfl⟩
          refine ⟨_, rfl, 28 + i, rfl, by omega, by omega, fun H6 e s6 we => ⟨_, rfl, 28 + i, e, rfl, by omega, we, fun H7 s7 => ⟨true, rfl, ifF rfl ?_⟩⟩⟩
          exact ⟨(dk5.same s6).same s7, _, _, _, _, _, _, _, _, _, rfl⟩
        · rintro σ H5 ⟨dk5, o2, o3, o4, o5, o6, o7, o8, o9, o10, rfl⟩
          refine ⟨_, rfl, D, C, _, rfl, dk5, by omega, fun H6 u da hua dk6 off6 => ⟨_, rfl, D, C, _, rfl, dk6, by omega, fun H7 v db hvb dk7 off7 => ?_⟩⟩
          exact ⟨u, v, da, db, rfl, hua.2 _ off7, hvb.2 _ (Off.same (Same.refl _)), (pair_show hua.1 hvb.1).2.1, q⟩
end
end Lw

namespace Lw
open PySem PySem.Spec PyProof.Rows L2 Mq
open SX (S)
/-- an error's class, right below the base class CM -/
def ClsAt (K : PySem.W.Frag) (CM C : Addr) : Prop := ∃ nm q N bs sn sub ab col dd m0 m1 m2 m3 m5, K.lookup C = some (excClassObj nm q C N bs [.ref CM, .type "Exception", .type "BaseException", .type "object"] true sn sub ab col dd m0 m1 m2 m3 m5 "Exception.__new__")
section
variable {K : PySem.W.Frag} {CM C : Addr}
theorem ClsAt.isC (h : ClsAt K CM C) : (PySem.W.clsIn K C).isSome = true := by
  obtain ⟨_, _, _, _, _, _, _, _, _, _, _, _, _, _, h⟩ := h
  simp [PySem.W.clsIn, h, excClassObj]
theorem ClsAt.ty (h : ClsAt K CM C) : PySem.W.typeIn K (.ref C) = some (.type "type") := by
  obtain ⟨_, _, _, _, _, _, _, _, _, _, _, _, _, _, h⟩ := h
  simp [PySem.W.typeIn, h, excClassObj]
theorem ClsAt.has (h : ClsAt K CM C) : PySem.W.hasDictIn K C = true := by
  obtain ⟨_, _, _, _, _, _, _, _, _, _, _, _, _, _, h⟩ := h
  simp [PySem.W.hasDictIn, PySem.W.clsIn, h, excClassObj]
theorem ClsAt.mro (h : ClsAt K CM C) (b : Value) : PySem.W.mroIn K C b = some ((Value.ref C :: Value.ref CM :: exTail).contains b) := by
  obtain ⟨_, _, _, _, _, _, _, _, _, _, _, _, _, _, h⟩ := h
  simp [PySem.W.mroIn, PySem.W.clsIn, h, excClassObj, exTail]
theorem ClsAt.init (h : ClsAt K CM C) : PySem.W.excInitIn K C exTail "Exception.__new__" = true := by
  obtain ⟨_, _, _, _, _, _, _, _, _, _, _, _, _, _, h⟩ := h
  unfold PySem.W.excInitIn
  rw [h]
  simp [excClassObj, PySem.W.excTail, exTail]
theorem ClsAt.over (h : ClsAt K CM C) : PySem.W.excOver K C exTail = true := by
  obtain ⟨_, _, _, _, _, _, _, _, _, _, _, _, _, _, h⟩ := h
  unfold PySem.W.excOver PySem.W.clsIn
  rw [h]
  simp [excClassObj, PySem.W.excTail, exTail]
theorem ClsAt.keep (h : ClsAt K CM C) : PySem.W.keepIn K (.ref C) = true := by
  have ht := h.ty
  obtain ⟨_, _, _, _, _, _, _, _, _, _, _, _, _, _, h⟩ := h
  unfold PySem.W.keepIn
  dsimp only
  rw [h]
  dsimp only
  unfold PySem.W.specialIn
  rw [ht]
  show (fastLookup "type" "__call__" == some (some (Value.builtin "type.__call__"))) = true
  decide +kernel
theorem ClsAt.sub (h : ClsAt K CM C) (b : Value) : PySem.W.subIn K (.ref C) b = some ((Value.ref C :: Value.ref CM :: exTail).contains b) := h.mro b
theorem ref_eq (a b : Addr) : (Value.ref a == Value.ref b) = decide (a = b) := by
  by_cases h : a = b
  · subst h; simp
  · simp [h]
theorem ClsAt.kit {D : Addr} (h : ClsAt K CM C) (hD : ClsAt K CM D) (ne : D ≠ CM) : PySem.W.kitOne K (.ref C) (.ref D) = some (decide (C = D)) := by
  unfold PySem.W.kitOne
  by_cases e : C = D
  · subst e; simp
  · simp [e, PySem.W.kitCls, hD.isC, hD.ty, h.sub, exTail, Ne.symm e, ne]
theorem ClsAt.mill (h : ClsAt K CM C) (h1 : PySem.W.isClsIn K CM = true) (h2 : PySem.W.typeIn K (.ref CM) = some (.type "type")) : PySem.W.kitOne K (.ref C) (.ref CM) = some true := by
  have h1 : (PySem.W.clsIn K CM).isSome = true := h1
  unfold PySem.W.kitOne
  by_cases e : C = CM
  · subst e; simp
  · simp [e, PySem.W.kitCls, h1, h2, h.sub, exTail]
theorem ClsAt.typ (h : ClsAt K CM C) {n : String} (hm : PySem.W.kitMeta n = true) : PySem.W.kitOne K (.ref C) (.type n) = some (exTail.contains (.type n)) := by
  unfold PySem.W.kitOne
  simp [PySem.W.kitCls, hm, h.sub]
/-- what the written part says of such a class -/
structure ClsF (K : PySem.W.Frag) (CM C : Addr) : Prop where
  at_ : ClsAt K CM C
  ga : PySem.W.findIn K (.ref C) "__getattribute__" = some (some (.builtin "BaseException.__getattribute__"))
  gg : PySem.W.findIn K (.ref C) "__getattr__" = some none
  ca : PySem.W.findIn K (.ref C) "__class__" = some (some (.builtin "object.__class__"))
theorem ClsF.base (h : ClsF K CM C) : PySem.W.subIn K (.ref C) (.type "BaseException") = some true := by
  rw [h.at_.sub]
  simp [exTail]
theorem ClsF.xf (h : ClsF K CM C) : XfC K C := ⟨h.ga, h.gg, h.base, h.at_.has⟩
theorem ClsF.held (h : ClsF K CM C) (sp : PySem.W.specialIn K (.builtin "object.__class__") "__get__" = some (some (.builtin "getset_descriptor.__get__"))) (tk : PySem.W.takesIn K (.builtin "object.__class__") = some true) : HeldC K C :=
  ⟨h.at_.isC, h.ga, h.gg, h.base, h.ca, sp, tk, by rw [h.at_.mro]; simp [exTail]⟩
theorem errC {mg : Str → Option Value} {x : Str} {f : Addr} {od : Option Addr} {g : FuncData} {sl : Array (Option Value)} (h : ClsF K CM C) (gC : mg x = some (.ref C))
    (sa : PySem.W.findIn K (.ref C) "__setattr__" = some (some (.builtin "object.__setattr__"))) (iC : PySem.W.findIn K (.ref C) "__init__" = some (some (.ref f)))
    (lf : K.lookup f = some ⟨.type "function", od, .func g, sl⟩) : ErrC K mg x C f :=
  ⟨gC, h.at_.keep, h.at_.init, h.at_.over, h.at_.has, sa, iC, by simp [PySem.W.typeIn, lf], h.base, h.at_.ty⟩
theorem fcons {α : Type} {p : α → Prop} {a : α} {l : List α} (h : p a) (t : ∀ x ∈ l, p x) : ∀ x ∈ a :: l, p x := fun x hx => (List.mem_cons.mp hx).elim (fun e => e ▸ h) (t x)
theorem fnil {α : Type} {p : α → Prop} : ∀ x ∈ ([] : List α), p x := fun x hx => by cases hx
@[reducible] def clO (L : List Addr) (i : Nat) : Addr := L.getD i 0
theorem clO_mem {L : List Addr} {i : Nat} (h : i < L.length) : clO L i ∈ L := by
  unfold clO
  rw [List.getD_eq_getElem?_getD, List.getElem?_eq_getElem h]
  exact List.getElem_mem h
theorem clO_inj {L : List Addr} (nd : L.Nodup) {i j : Nat} (hi : i < L.length) (hj : j < L.length) : clO L i = clO L j ↔ i = j := by
  unfold clO
  rw [List.getD_eq_getElem?_getD, List.getD_eq_getElem?_getD, List.getElem?_eq_getElem hi, List.getElem?_eq_getElem hj]
  exact List.getElem_inj nd
theorem kt {n : String} (h : n ∈ ["ValueError", "TypeError", "LookupError", "ArithmeticError", "RuntimeError", "AttributeError"]) : PySem.W.kitMeta n = true ∧ exTail.contains (.type n) = false := by
  simp only [List.mem_cons, List.not_mem_nil, or_false] at h
  rcases h with rfl | rfl | rfl | rfl | rfl | rfl <;> exact ⟨by decide +kernel, by decide +kernel⟩
theorem allC {mg : Str → Option Value} {L : List Addr} (hl : L.length = 34) (all : ∀ C ∈ L, ClsF K CM C) (nd : (CM :: L).Nodup) (h1 : PySem.W.isClsIn K CM = true) (h2 : PySem.W.typeIn K (.ref CM) = some (.type "type"))
    (sp : PySem.W.specialIn K (.builtin "object.__class__") "__get__" = some (some (.builtin "getset_descriptor.__get__"))) (tk : PySem.W.takesIn K (.builtin "object.__class__") = some true)
    (gM : mg "MillError" = some (.ref CM)) (nx : ∀ n : String, n ∈ ["Exception", "ValueError", "TypeError", "LookupError", "ArithmeticError", "RuntimeError", "AttributeError"] → mg (PySem.Str.ofString n) = none) : AllC K mg (clO L) CM := by
  have mem : ∀ i, i < 34 → clO L i ∈ L := fun i hi => clO_mem (by omega)
  obtain ⟨nM, nd⟩ := List.nodup_cons.mp nd
  refine ⟨fun i hi => (all _ (mem i hi)).held sp tk, fun i j hi hj => ?_, fun i hi => (all _ (mem i hi)).at_.mill h1 h2, fun i hi => ?_, fun i hi n hn => ?_, gM, nx⟩
  · have hne : clO L j ≠ CM := fun e => nM (e ▸ mem j hj)
    rw [(all _ (mem i hi)).at_.kit (all _ (mem j hj)).at_ hne]
    congr 1
    exact decide_eq_decide.mpr (clO_inj nd (by omega) (by omega))
  · rw [(all _ (mem i hi)).at_.typ (by decide +kernel)]
    congr 1
  · rw [(all _ (mem i hi)).at_.typ (kt hn).1, (kt hn).2]
theorem exm_mill (h : ClsF K CM C) (h1 : PySem.W.isClsIn K CM = true) (h2 : PySem.W.typeIn K (.ref CM) = some (.type "type")) (h3 : PySem.W.subIn K (.ref CM) (.type "BaseException") = some true) : PySem.W.exmOne K (.ref C) (.ref CM) = some true := by
  have h1 : (PySem.W.clsIn K CM).isSome = true := h1
  simp [PySem.W.exmOne, PySem.W.kitCls, h1, h2, h3, h.at_.sub, exTail]
theorem exm_own (h : ClsF K CM C) : PySem.W.exmOne K (.ref C) (.ref C) = some true := by
  simp [PySem.W.exmOne, PySem.W.kitCls, h.at_.isC, h.at_.ty, h.at_.sub, exTail]
end
example : ([1, 2, 3] : List Nat).Nodup := by decide
end Lw

namespace Lw
open PySem PySem.Spec PyProof.Rows L2 Mq
open SX (S)
/-! ### the head's facts by a Hook of our own -/
def exB (fs : List (PySem.W.Frag → Bool)) (K : PySem.W.Frag) : Bool := fs.all fun f => f K
def obsM (n : Nat) (fn : List He.FnD) (fs : List (PySem.W.Frag → Bool)) (g : Addr → Option Obj) : He.Al × Bool :=
  (He.obsG n [] fn g, exB fs (He.frG g (He.asG g n)))
def hookM (n : Nat) (fn : List He.FnD) (fs : List (PySem.W.Frag → Bool)) : PySem.W.Hook where
  α := He.Al × Bool
  obs := fun s => obsM n fn fs s.heap.get?
  val := fun _ => (He.valE fn, true)
  says := fun _ h => ∃ K : PySem.W.Frag, K.In h ∧ He.SaysE [] fn K ∧ exB fs K = true
  of := fun w s e => ⟨He.frG s.heap.get? (He.asG s.heap.get? n), He.frG_in, congrArg Prod.fst e, congrArg Prod.snd e⟩
  keeps := fun w h h' ⟨K, a, b, c⟩ k => ⟨K, a.keeps k, b, c⟩
abbrev AlT := He.Al × Bool
theorem obsM_eq {n : Nat} {fn : List He.FnD} {fs : List (PySem.W.Frag → Bool)} {g : Addr → Option Obj} {s : Shared} (h : ∀ a, g a = s.heap.get? a) : obsM n fn fs g = (hookM n fn fs).obs s := by
  have e : g = s.heap.get? := funext h
  rw [e]
  rfl
theorem exAt {fs : List (PySem.W.Frag → Bool)} {K : PySem.W.Frag} (h : exB fs K = true) (i : Nat) {f : PySem.W.Frag → Bool} (e : fs[i]? = some f) : f K = true := List.all_eq_true.mp h f (List.mem_of_getElem? e)
def fFind (x n : Str) (v : Option Value) : PySem.W.Frag → Bool := fun K => He.eqO (PySem.W.findIn K (.ref (He.ga K x)) n) (some v)
def fInit (x : Str) : PySem.W.Frag → Bool := fun K => He.eqO (PySem.W.findIn K (.ref (He.ga K x)) "__init__") (some (some (.ref (He.ma K (He.ga K x) "__init__"))))
def fGlo (x : Str) : PySem.W.Frag → Bool := fun K => He.eqO (PySem.W.nsIn K mainGlobals x) (some (some (.ref (He.ga K x))))
def fFree (x : Str) : PySem.W.Frag → Bool := fun K => He.eqO (PySem.W.nsIn K mainGlobals x) (some none)
def fExc (x : Str) : PySem.W.Frag → Bool := fun K => PySem.W.excIn K (He.ga K x) exTail "Exception.__new__"
def clsB (K : PySem.W.Frag) (CM C : Addr) : Bool :=
  match K.lookup C with
  | some ⟨.type T, _, .cls cd, sl⟩ => decide (T = "type") && cd.hasDict && !cd.hasDel &&
      (match cd.mro with
       | [.ref a, .ref b, .type t1, .type t2, .type t3] => decide (a = C) && decide (b = CM) && decide (t1 = "Exception") && decide (t2 = "BaseException") && decide (t3 = "object")
       | _ => false) &&
      (match sl.toList with
       | [_, _, _, _, some (.builtin n), _] => decide (n = "Exception.__new__")
       | _ => false)
  | _ => false
def fCls (x : Str) : PySem.W.Frag → Bool := fun K => clsB K (He.ga K "MillError") (He.ga K x)
def fnB (K : PySem.W.Frag) (f : Addr) : Bool :=
  match K.lookup f with
  | some ⟨.type T, _, .func fd, _⟩ => decide (T = "function") && (match fd.kwdefaults with | .none => true | _ => false)
  | _ => false
def fFn (x : Str) : PySem.W.Frag → Bool := fun K => fnB K (He.ma K (He.ga K x) "__init__")
theorem clsB_ok {K : PySem.W.Frag} {CM C : Addr} (h : clsB K CM C = true) : ClsAt K CM C := by
  unfold clsB at h
  split at h
  · rename_i T dd cd sl hl
    obtain ⟨nm, bs, mro, N, qn, hd, sn, sub, ab, col, hdel⟩ := cd
    simp only [Bool.and_eq_true] at h
    obtain ⟨⟨⟨⟨h1, h2⟩, h3⟩, h4⟩, h5⟩ := h
    split at h4
    · simp only [Bool.and_eq_true, decide_eq_true_eq] at h4
      obtain ⟨⟨⟨⟨a1, a2⟩, a3⟩, a4⟩, a5⟩ := h4
      split at h5
      · rename_i m0 m1 m2 m3 n m5 hs
        have hs' := congrArg List.toArray hs
        rw [Array.toArray_toList] at hs'
        have e1 := of_decide_eq_true h1
        have e5 := of_decide_eq_true h5
        simp only [Bool.not_eq_true'] at h3
        subst e1 a1 a2 a3 a4 a5 e5 hs' h3
        have h2' : hd = true := h2
        subst h2'
        exact ⟨_, _, _, _, _, _, _, _, _, _, _, _, _, _, hl⟩
      · cases h5
    · cases h4
  · cases h
theorem fnB_ok {K : PySem.W.Frag} {f : Addr} {oc kV dV doc pm cd ct : Value} {od an : Option Addr} {osl : Array (Option Value)} {nm q : Str} {a : Arguments} {b : List Stmt} {s : Scope}
    (h : fnB K f = true) (l : K.lookup f = some ⟨oc, od, .func (PySem.W.fnOf nm q a b s dV kV doc pm an cd ct), osl⟩) : oc = .type "function" ∧ kV = .none := by
  unfold fnB at h
  rw [l] at h
  split at h
  · rename_i hh
    cases hh
    simp only [Bool.and_eq_true] at h
    obtain ⟨h1, h2⟩ := h
    refine ⟨by rw [of_decide_eq_true h1], ?_⟩
    split at h2
    · rfl
    · cases h2
  · cases h
theorem keep_fn {K : PySem.W.Frag} {f : Addr} {oc : Value} {od : Option Addr} {g : FuncData} {osl : Array (Option Value)} (l : K.lookup f = some ⟨oc, od, .func g, osl⟩) : PySem.W.keepIn K (.ref f) = true := by
  unfold PySem.W.keepIn
  dsimp only
  rw [l]
theorem walk_ofGE {l : PySem.W.OpenLaw} {n k : Nat} {q : Program} {loose : List Str}
    {XP : (Str → Option Value) → Heap → Prop} {YP : World → Heap → Prop} {d : DefRec} {CX : CXT} {x : Str}
    (hn : l.most = some n) (hn2 : n ≤ sizeLine) (hdf : d.params.defaults = []) (hr : Room k callerA)
    (F : ∀ (w : World) (mg : Str → Option Value) (fa : Addr) (h : Heap), YP w h → h.Ns mainGlobals mg → mg d.name = some (.ref fa) →
      ∃ (K : PySem.W.Frag) (fd : FuncData) (sp : Sp), K.In h ∧ (∀ (s : Shared) (u : Value), BindsTo s fd ⟨[u], []⟩ [(x, u)]) ∧
        (∀ (H : Hp) (a : Addr) (ns : List Int), ns.length ≤ n → Only H → SqL K H a (ns.map V.int) → sp [.ref a] H (fun v _ => v = .bl true) fun _ _ _ => False) ∧
        ∀ base : Heap, K.In base → base.Ns mainGlobals mg → FnG l.prog w K mg base CX k fa fd [x] sp)
    (hCX : ∀ (H : Hp) (s : Shared) (e : Value) (s' : Shared), CX [] H s (fun _ _ _ => False) e s' → False) :
    PySem.W.WalkO q loose XP YP l.row.toRowW d [] (fun f vs => PySem.call f vs) := by
  refine Att.attach_call hn hdf ?_
  intro w s₀ s₁ mg mb fa o pm cd doc a vs ns G Y ho hd hcd hmg hobj hints hlen hg
  obtain ⟨K, fd, sp, KX, hb, hsp, hF⟩ := F w mg fa _ Y G.T.g hmg
  exact law_callG KX G.T.g G.T.b G.T.builtins G.T.nolimit hg hobj hints (Nat.le_trans hlen hn2) hr hF hb
    (fun H hO hS => hsp H a ns hlen hO hS) (fun H e s' => hCX H s₁ e s')
theorem glo_of {K : PySem.W.Frag} {x : Str} (h : fGlo x K = true) : PySem.W.nsIn K mainGlobals x = some (some (.ref (He.ga K x))) := He.eqO_ok h
theorem free_of {K : PySem.W.Frag} {x : Str} (h : fFree x K = true) : PySem.W.nsIn K mainGlobals x = some none := He.eqO_ok h
theorem find_of {K : PySem.W.Frag} {x n : Str} {v : Option Value} (h : fFind x n v K = true) : PySem.W.findIn K (.ref (He.ga K x)) n = some v := He.eqO_ok h
theorem init_of {K : PySem.W.Frag} {x : Str} (h : fInit x K = true) : PySem.W.findIn K (.ref (He.ga K x)) "__init__" = some (some (.ref (He.ma K (He.ga K x) "__init__"))) := He.eqO_ok h
theorem cls_of {K : PySem.W.Frag} {x : Str} (h : fCls x K = true) : ClsAt K (He.ga K "MillError") (He.ga K x) := clsB_ok h
theorem exc_of {K : PySem.W.Frag} {x : Str} (h : fExc x K = true) : PySem.W.excIn K (He.ga K x) exTail "Exception.__new__" = true := h
end Lw

namespace Lw
open PySem PySem.Spec PyProof.Rows L2 Mq
open SX (S)
theorem all_mk {P : Program} {w : World} {K : PySem.W.Frag} {h : Heap} {mg : Str → Option Value} {fa CM : Addr} (X : K.In h) (G : h.Ns mainGlobals mg) (hfa : mg "law" = some (.ref fa))
    {C0 C1 C2 C3 C4 C5 C6 C7 C8 C9 C10 C11 C12 C13 C14 C15 C16 C17 C18 C19 C20 C21 C22 C23 C24 C25 C26 C27 C28 C29 C30 C31 C32 C33 : Addr}
    (aM : PySem.W.nsIn K mainGlobals "MillError" = some (some (.ref CM)))
    (aC0 : PySem.W.nsIn K mainGlobals "BadBook" = some (some (.ref C0)))
    (aC1 : PySem.W.nsIn K mainGlobals "BadText" = some (some (.ref C1)))
    (aC2 : PySem.W.nsIn K mainGlobals "BadWeb" = some (some (.ref C2)))
    (aC3 : PySem.W.nsIn K mainGlobals "TooMany" = some (some (.ref C3)))
    (aC4 : PySem.W.nsIn K mainGlobals "BadReader" = some (some (.ref C4)))
    (aC5 : PySem.W.nsIn K mainGlobals "BadTeller" = some (some (.ref C5)))
    (aC6 : PySem.W.nsIn K mainGlobals "BadFan" = some (some (.ref C6)))
    (aC7 : PySem.W.nsIn K mainGlobals "BadWeft" = some (some (.ref C7)))
    (aC8 : PySem.W.nsIn K mainGlobals "TooLong" = some (some (.ref C8)))
    (aC9 : PySem.W.nsIn K mainGlobals "BadCourse" = some (some (.ref C9)))
    (aC10 : PySem.W.nsIn K mainGlobals "BadWish" = some (some (.ref C10)))
    (aC11 : PySem.W.nsIn K mainGlobals "Unsound" = some (some (.ref C11)))
    (aC12 : PySem.W.nsIn K mainGlobals "BadProgram" = some (some (.ref C12)))
    (aC13 : PySem.W.nsIn K mainGlobals "BadDuel" = some (some (.ref C13)))
    (aC14 : PySem.W.nsIn K mainGlobals "Lost" = some (some (.ref C14)))
    (aC15 : PySem.W.nsIn K mainGlobals "NoMove" = some (some (.ref C15)))
    (aC16 : PySem.W.nsIn K mainGlobals "BadRow" = some (some (.ref C16)))
    (aC17 : PySem.W.nsIn K mainGlobals "BadPlace" = some (some (.ref C17)))
    (aC18 : PySem.W.nsIn K mainGlobals "Full" = some (some (.ref C18)))
    (aC19 : PySem.W.nsIn K mainGlobals "NoHand" = some (some (.ref C19)))
    (aC20 : PySem.W.nsIn K mainGlobals "Waits" = some (some (.ref C20)))
    (aC21 : PySem.W.nsIn K mainGlobals "BadDeed" = some (some (.ref C21)))
    (aC22 : PySem.W.nsIn K mainGlobals "NoWish" = some (some (.ref C22)))
    (aC23 : PySem.W.nsIn K mainGlobals "BadName" = some (some (.ref C23)))
    (aC24 : PySem.W.nsIn K mainGlobals "NoName" = some (some (.ref C24)))
    (aC25 : PySem.W.nsIn K mainGlobals "BadPromise" = some (some (.ref C25)))
    (aC26 : PySem.W.nsIn K mainGlobals "Merged" = some (some (.ref C26)))
    (aC27 : PySem.W.nsIn K mainGlobals "Broken" = some (some (.ref C27)))
    (aC28 : PySem.W.nsIn K mainGlobals "OtherLetters" = some (some (.ref C28)))
    (aC29 : PySem.W.nsIn K mainGlobals "NotNow" = some (some (.ref C29)))
    (aC30 : PySem.W.nsIn K mainGlobals "NothingToUndo" = some (some (.ref C30)))
    (aC31 : PySem.W.nsIn K mainGlobals "NothingToRedo" = some (some (.ref C31)))
    (aC32 : PySem.W.nsIn K mainGlobals "NoMill" = some (some (.ref C32)))
    (aC33 : PySem.W.nsIn K mainGlobals "InvalidCommand" = some (some (.ref C33)))
    (dn : (CM :: ([C0, C1, C2, C3, C4, C5, C6, C7, C8, C9, C10, C11, C12, C13, C14, C15, C16, C17, C18, C19, C20, C21, C22, C23, C24, C25, C26, C27, C28, C29, C30, C31, C32, C33] : List Addr)).Nodup)
    (xC0 : ClsAt K CM C0)
    (ga0 : PySem.W.findIn K (.ref C0) "__getattribute__" = some (some (.builtin "BaseException.__getattribute__")))
    (gg0 : PySem.W.findIn K (.ref C0) "__getattr__" = some none)
    (ca0 : PySem.W.findIn K (.ref C0) "__class__" = some (some (.builtin "object.__class__")))
    {F0 : Addr}
    (wi0 : PySem.W.findIn K (.ref C0) "__init__" = some (some (.ref F0)))
    (ws0 : PySem.W.findIn K (.ref C0) "__setattr__" = some (some (.builtin "object.__setattr__")))
    (n0a : PySem.W.findIn K (.ref C0) "part" = some none)
    {odB0 anB0 : Option Addr} {slB0 : Array (Option Value)} {dcB0 pmB0 cdB0 ctB0 : Value}
    (lB0 : K.lookup F0 = some ⟨.type "function", odB0, .func (PySem.W.fnOf "__init__" "BadBook.__init__" (MqV_part.iA ⟨6, 17, 6, 21⟩ ⟨6, 23, 6, 27⟩) (MqV_part.iB ⟨7, 8, 7, 12⟩ ⟨7, 8, 7, 17⟩ ⟨7, 20, 7, 24⟩ ⟨7, 8, 7, 24⟩) MqV_part.iS .none .none dcB0 pmB0 anB0 cdB0 ctB0), slB0⟩)
    (cB0 : PySem.W.codeIn K cdB0 "BadBook.__init__" = true)
    (xC1 : ClsAt K CM C1)
    (ga1 : PySem.W.findIn K (.ref C1) "__getattribute__" = some (some (.builtin "BaseException.__getattribute__")))
    (gg1 : PySem.W.findIn K (.ref C1) "__getattr__" = some none)
    (ca1 : PySem.W.findIn K (.ref C1) "__class__" = some (some (.builtin "object.__class__")))
    {F1 : Addr}
    (wi1 : PySem.W.findIn K (.ref C1) "__init__" = some (some (.ref F1)))
    (ws1 : PySem.W.findIn K (.ref C1) "__setattr__" = some (some (.builtin "object.__setattr__")))
    (n1a : PySem.W.findIn K (.ref C1) "line" = some none)
    {odB1 anB1 : Option Addr} {slB1 : Array (Option Value)} {dcB1 pmB1 cdB1 ctB1 : Value}
    (lB1 : K.lookup F1 = some ⟨.type "function", odB1, .func (PySem.W.fnOf "__init__" "BadText.__init__" (MqV_line.iA ⟨10, 17, 10, 21⟩ ⟨10, 23, 10, 27⟩) (MqV_line.iB ⟨11, 8, 11, 12⟩ ⟨11, 8, 11, 17⟩ ⟨11, 20, 11, 24⟩ ⟨11, 8, 11, 24⟩) MqV_line.iS .none .none dcB1 pmB1 anB1 cdB1 ctB1), slB1⟩)
    (cB1 : PySem.W.codeIn K cdB1 "BadText.__init__" = true)
    (xC2 : ClsAt K CM C2)
    (ga2 : PySem.W.findIn K (.ref C2) "__getattribute__" = some (some (.builtin "BaseException.__getattribute__")))
    (gg2 : PySem.W.findIn K (.ref C2) "__getattr__" = some none)
    (ca2 : PySem.W.findIn K (.ref C2) "__class__" = some (some (.builtin "object.__class__")))
    {F2 : Addr}
    (wi2 : PySem.W.findIn K (.ref C2) "__init__" = some (some (.ref F2)))
    (ws2 : PySem.W.findIn K (.ref C2) "__setattr__" = some (some (.builtin "object.__setattr__")))
    (n2a : PySem.W.findIn K (.ref C2) "thing" = some none)
    {odB2 anB2 : Option Addr} {slB2 : Array (Option Value)} {dcB2 pmB2 cdB2 ctB2 : Value}
    (lB2 : K.lookup F2 = some ⟨.type "function", odB2, .func (PySem.W.fnOf "__init__" "BadWeb.__init__" (MqV_thing.iA ⟨14, 17, 14, 21⟩ ⟨14, 23, 14, 28⟩) (MqV_thing.iB ⟨15, 8, 15, 12⟩ ⟨15, 8, 15, 18⟩ ⟨15, 21, 15, 26⟩ ⟨15, 8, 15, 26⟩) MqV_thing.iS .none .none dcB2 pmB2 anB2 cdB2 ctB2), slB2⟩)
    (cB2 : PySem.W.codeIn K cdB2 "BadWeb.__init__" = true)
    (xC3 : ClsAt K CM C3)
    (ga3 : PySem.W.findIn K (.ref C3) "__getattribute__" = some (some (.builtin "BaseException.__getattribute__")))
    (gg3 : PySem.W.findIn K (.ref C3) "__getattr__" = some none)
    (ca3 : PySem.W.findIn K (.ref C3) "__class__" = some (some (.builtin "object.__class__")))
    {F3 : Addr}
    (wi3 : PySem.W.findIn K (.ref C3) "__init__" = some (some (.ref F3)))
    (ws3 : PySem.W.findIn K (.ref C3) "__setattr__" = some (some (.builtin "object.__setattr__")))
    (n3a : PySem.W.findIn K (.ref C3) "most" = some none)
    {odB3 anB3 : Option Addr} {slB3 : Array (Option Value)} {dcB3 pmB3 cdB3 ctB3 : Value}
    (lB3 : K.lookup F3 = some ⟨.type "function", odB3, .func (PySem.W.fnOf "__init__" "TooMany.__init__" (MqV_most.iA ⟨20, 17, 20, 21⟩ ⟨20, 23, 20, 27⟩) (MqV_most.iB ⟨21, 8, 21, 12⟩ ⟨21, 8, 21, 17⟩ ⟨21, 20, 21, 24⟩ ⟨21, 8, 21, 24⟩) MqV_most.iS .none .none dcB3 pmB3 anB3 cdB3 ctB3), slB3⟩)
    (cB3 : PySem.W.codeIn K cdB3 "TooMany.__init__" = true)
    (xC4 : ClsAt K CM C4)
    (ga4 : PySem.W.findIn K (.ref C4) "__getattribute__" = some (some (.builtin "BaseException.__getattribute__")))
    (gg4 : PySem.W.findIn K (.ref C4) "__getattr__" = some none)
    (ca4 : PySem.W.findIn K (.ref C4) "__class__" = some (some (.builtin "object.__class__")))
    {F4 : Addr}
    (wi4 : PySem.W.findIn K (.ref C4) "__init__" = some (some (.ref F4)))
    (ws4 : PySem.W.findIn K (.ref C4) "__setattr__" = some (some (.builtin "object.__setattr__")))
    (n4a : PySem.W.findIn K (.ref C4) "part" = some none)
    {odB4 anB4 : Option Addr} {slB4 : Array (Option Value)} {dcB4 pmB4 cdB4 ctB4 : Value}
    (lB4 : K.lookup F4 = some ⟨.type "function", odB4, .func (PySem.W.fnOf "__init__" "BadReader.__init__" (MqV_part.iA ⟨24, 17, 24, 21⟩ ⟨24, 23, 24, 27⟩) (MqV_part.iB ⟨25, 8, 25, 12⟩ ⟨25, 8, 25, 17⟩ ⟨25, 20, 25, 24⟩ ⟨25, 8, 25, 24⟩) MqV_part.iS .none .none dcB4 pmB4 anB4 cdB4 ctB4), slB4⟩)
    (cB4 : PySem.W.codeIn K cdB4 "BadReader.__init__" = true)
    (xC5 : ClsAt K CM C5)
    (ga5 : PySem.W.findIn K (.ref C5) "__getattribute__" = some (some (.builtin "BaseException.__getattribute__")))
    (gg5 : PySem.W.findIn K (.ref C5) "__getattr__" = some none)
    (ca5 : PySem.W.findIn K (.ref C5) "__class__" = some (some (.builtin "object.__class__")))
    {F5 : Addr}
    (wi5 : PySem.W.findIn K (.ref C5) "__init__" = some (some (.ref F5)))
    (ws5 : PySem.W.findIn K (.ref C5) "__setattr__" = some (some (.builtin "object.__setattr__")))
    (n5a : PySem.W.findIn K (.ref C5) "part" = some none)
    {odB5 anB5 : Option Addr} {slB5 : Array (Option Value)} {dcB5 pmB5 cdB5 ctB5 : Value}
    (lB5 : K.lookup F5 = some ⟨.type "function", odB5, .func (PySem.W.fnOf "__init__" "BadTeller.__init__" (MqV_part.iA ⟨28, 17, 28, 21⟩ ⟨28, 23, 28, 27⟩) (MqV_part.iB ⟨29, 8, 29, 12⟩ ⟨29, 8, 29, 17⟩ ⟨29, 20, 29, 24⟩ ⟨29, 8, 29, 24⟩) MqV_part.iS .none .none dcB5 pmB5 anB5 cdB5 ctB5), slB5⟩)
    (cB5 : PySem.W.codeIn K cdB5 "BadTeller.__init__" = true)
    (xC6 : ClsAt K CM C6)
    (ga6 : PySem.W.findIn K (.ref C6) "__getattribute__" = some (some (.builtin "BaseException.__getattribute__")))
    (gg6 : PySem.W.findIn K (.ref C6) "__getattr__" = some none)
    (ca6 : PySem.W.findIn K (.ref C6) "__class__" = some (some (.builtin "object.__class__")))
    {F6 : Addr}
    (wi6 : PySem.W.findIn K (.ref C6) "__init__" = some (some (.ref F6)))
    (ws6 : PySem.W.findIn K (.ref C6) "__setattr__" = some (some (.builtin "object.__setattr__")))
    (n6a : PySem.W.findIn K (.ref C6) "part" = some none)
    {odB6 anB6 : Option Addr} {slB6 : Array (Option Value)} {dcB6 pmB6 cdB6 ctB6 : Value}
    (lB6 : K.lookup F6 = some ⟨.type "function", odB6, .func (PySem.W.fnOf "__init__" "BadFan.__init__" (MqV_part.iA ⟨32, 17, 32, 21⟩ ⟨32, 23, 32, 27⟩) (MqV_part.iB ⟨33, 8, 33, 12⟩ ⟨33, 8, 33, 17⟩ ⟨33, 20, 33, 24⟩ ⟨33, 8, 33, 24⟩) MqV_part.iS .none .none dcB6 pmB6 anB6 cdB6 ctB6), slB6⟩)
    (cB6 : PySem.W.codeIn K cdB6 "BadFan.__init__" = true)
    (xC7 : ClsAt K CM C7)
    (ga7 : PySem.W.findIn K (.ref C7) "__getattribute__" = some (some (.builtin "BaseException.__getattribute__")))
    (gg7 : PySem.W.findIn K (.ref C7) "__getattr__" = some none)
    (ca7 : PySem.W.findIn K (.ref C7) "__class__" = some (some (.builtin "object.__class__")))
    {F7 : Addr}
    (wi7 : PySem.W.findIn K (.ref C7) "__init__" = some (some (.ref F7)))
    (ws7 : PySem.W.findIn K (.ref C7) "__setattr__" = some (some (.builtin "object.__setattr__")))
    (n7a : PySem.W.findIn K (.ref C7) "thing" = some none)
    {odB7 anB7 : Option Addr} {slB7 : Array (Option Value)} {dcB7 pmB7 cdB7 ctB7 : Value}
    (lB7 : K.lookup F7 = some ⟨.type "function", odB7, .func (PySem.W.fnOf "__init__" "BadWeft.__init__" (MqV_thing.iA ⟨36, 17, 36, 21⟩ ⟨36, 23, 36, 28⟩) (MqV_thing.iB ⟨37, 8, 37, 12⟩ ⟨37, 8, 37, 18⟩ ⟨37, 21, 37, 26⟩ ⟨37, 8, 37, 26⟩) MqV_thing.iS .none .none dcB7 pmB7 anB7 cdB7 ctB7), slB7⟩)
    (cB7 : PySem.W.codeIn K cdB7 "BadWeft.__init__" = true)
    (xC8 : ClsAt K CM C8)
    (ga8 : PySem.W.findIn K (.ref C8) "__getattribute__" = some (some (.builtin "BaseException.__getattribute__")))
    (gg8 : PySem.W.findIn K (.ref C8) "__getattr__" = some none)
    (ca8 : PySem.W.findIn K (.ref C8) "__class__" = some (some (.builtin "object.__class__")))
    {F8 : Addr}
    (wi8 : PySem.W.findIn K (.ref C8) "__init__" = some (some (.ref F8)))
    (ws8 : PySem.W.findIn K (.ref C8) "__setattr__" = some (some (.builtin "object.__setattr__")))
    (n8a : PySem.W.findIn K (.ref C8) "most" = some none)
    {odB8 anB8 : Option Addr} {slB8 : Array (Option Value)} {dcB8 pmB8 cdB8 ctB8 : Value}
    (lB8 : K.lookup F8 = some ⟨.type "function", odB8, .func (PySem.W.fnOf "__init__" "TooLong.__init__" (MqV_most.iA ⟨45, 17, 45, 21⟩ ⟨45, 23, 45, 27⟩) (MqV_most.iB ⟨46, 8, 46, 12⟩ ⟨46, 8, 46, 17⟩ ⟨46, 20, 46, 24⟩ ⟨46, 8, 46, 24⟩) MqV_most.iS .none .none dcB8 pmB8 anB8 cdB8 ctB8), slB8⟩)
    (cB8 : PySem.W.codeIn K cdB8 "TooLong.__init__" = true)
    (xC9 : ClsAt K CM C9)
    (ga9 : PySem.W.findIn K (.ref C9) "__getattribute__" = some (some (.builtin "BaseException.__getattribute__")))
    (gg9 : PySem.W.findIn K (.ref C9) "__getattr__" = some none)
    (ca9 : PySem.W.findIn K (.ref C9) "__class__" = some (some (.builtin "object.__class__")))
    {F9 : Addr}
    (wi9 : PySem.W.findIn K (.ref C9) "__init__" = some (some (.ref F9)))
    (ws9 : PySem.W.findIn K (.ref C9) "__setattr__" = some (some (.builtin "object.__setattr__")))
    (n9a : PySem.W.findIn K (.ref C9) "place" = some none)
    {odB9 anB9 : Option Addr} {slB9 : Array (Option Value)} {dcB9 pmB9 cdB9 ctB9 : Value}
    (lB9 : K.lookup F9 = some ⟨.type "function", odB9, .func (PySem.W.fnOf "__init__" "BadCourse.__init__" (MqV_place.iA ⟨49, 17, 49, 21⟩ ⟨49, 23, 49, 28⟩) (MqV_place.iB ⟨50, 8, 50, 12⟩ ⟨50, 8, 50, 18⟩ ⟨50, 21, 50, 26⟩ ⟨50, 8, 50, 26⟩) MqV_place.iS .none .none dcB9 pmB9 anB9 cdB9 ctB9), slB9⟩)
    (cB9 : PySem.W.codeIn K cdB9 "BadCourse.__init__" = true)
    (xC10 : ClsAt K CM C10)
    (ga10 : PySem.W.findIn K (.ref C10) "__getattribute__" = some (some (.builtin "BaseException.__getattribute__")))
    (gg10 : PySem.W.findIn K (.ref C10) "__getattr__" = some none)
    (ca10 : PySem.W.findIn K (.ref C10) "__class__" = some (some (.builtin "object.__class__")))
    {F10 : Addr}
    (wi10 : PySem.W.findIn K (.ref C10) "__init__" = some (some (.ref F10)))
    (ws10 : PySem.W.findIn K (.ref C10) "__setattr__" = some (some (.builtin "object.__setattr__")))
    (n10a : PySem.W.findIn K (.ref C10) "thing" = some none)
    {odB10 anB10 : Option Addr} {slB10 : Array (Option Value)} {dcB10 pmB10 cdB10 ctB10 : Value}
    (lB10 : K.lookup F10 = some ⟨.type "function", odB10, .func (PySem.W.fnOf "__init__" "BadWish.__init__" (MqV_thing.iA ⟨53, 17, 53, 21⟩ ⟨53, 23, 53, 28⟩) (MqV_thing.iB ⟨54, 8, 54, 12⟩ ⟨54, 8, 54, 18⟩ ⟨54, 21, 54, 26⟩ ⟨54, 8, 54, 26⟩) MqV_thing.iS .none .none dcB10 pmB10 anB10 cdB10 ctB10), slB10⟩)
    (cB10 : PySem.W.codeIn K cdB10 "BadWish.__init__" = true)
    (xC11 : ClsAt K CM C11)
    (ga11 : PySem.W.findIn K (.ref C11) "__getattribute__" = some (some (.builtin "BaseException.__getattribute__")))
    (gg11 : PySem.W.findIn K (.ref C11) "__getattr__" = some none)
    (ca11 : PySem.W.findIn K (.ref C11) "__class__" = some (some (.builtin "object.__class__")))
    {F11 : Addr}
    (wi11 : PySem.W.findIn K (.ref C11) "__init__" = some (some (.ref F11)))
    (ws11 : PySem.W.findIn K (.ref C11) "__setattr__" = some (some (.builtin "object.__setattr__")))
    (n11a : PySem.W.findIn K (.ref C11) "outcome" = some none)
    {odB11 anB11 : Option Addr} {slB11 : Array (Option Value)} {dcB11 pmB11 cdB11 ctB11 : Value}
    (lB11 : K.lookup F11 = some ⟨.type "function", odB11, .func (PySem.W.fnOf "__init__" "Unsound.__init__" (MqV_outcome.iA ⟨57, 17, 57, 21⟩ ⟨57, 23, 57, 30⟩) (MqV_outcome.iB ⟨58, 8, 58, 12⟩ ⟨58, 8, 58, 20⟩ ⟨58, 23, 58, 30⟩ ⟨58, 8, 58, 30⟩) MqV_outcome.iS .none .none dcB11 pmB11 anB11 cdB11 ctB11), slB11⟩)
    (cB11 : PySem.W.codeIn K cdB11 "Unsound.__init__" = true)
    (xC12 : ClsAt K CM C12)
    (ga12 : PySem.W.findIn K (.ref C12) "__getattribute__" = some (some (.builtin "BaseException.__getattribute__")))
    (gg12 : PySem.W.findIn K (.ref C12) "__getattr__" = some none)
    (ca12 : PySem.W.findIn K (.ref C12) "__class__" = some (some (.builtin "object.__class__")))
    {F12 : Addr}
    (wi12 : PySem.W.findIn K (.ref C12) "__init__" = some (some (.ref F12)))
    (ws12 : PySem.W.findIn K (.ref C12) "__setattr__" = some (some (.builtin "object.__setattr__")))
    (n12a : PySem.W.findIn K (.ref C12) "part" = some none)
    {odB12 anB12 : Option Addr} {slB12 : Array (Option Value)} {dcB12 pmB12 cdB12 ctB12 : Value}
    (lB12 : K.lookup F12 = some ⟨.type "function", odB12, .func (PySem.W.fnOf "__init__" "BadProgram.__init__" (MqV_part.iA ⟨61, 17, 61, 21⟩ ⟨61, 23, 61, 27⟩) (MqV_part.iB ⟨62, 8, 62, 12⟩ ⟨62, 8, 62, 17⟩ ⟨62, 20, 62, 24⟩ ⟨62, 8, 62, 24⟩) MqV_part.iS .none .none dcB12 pmB12 anB12 cdB12 ctB12), slB12⟩)
    (cB12 : PySem.W.codeIn K cdB12 "BadProgram.__init__" = true)
    (xC13 : ClsAt K CM C13)
    (ga13 : PySem.W.findIn K (.ref C13) "__getattribute__" = some (some (.builtin "BaseException.__getattribute__")))
    (gg13 : PySem.W.findIn K (.ref C13) "__getattr__" = some none)
    (ca13 : PySem.W.findIn K (.ref C13) "__class__" = some (some (.builtin "object.__class__")))
    {F13 : Addr}
    (wi13 : PySem.W.findIn K (.ref C13) "__init__" = some (some (.ref F13)))
    (ws13 : PySem.W.findIn K (.ref C13) "__setattr__" = some (some (.builtin "object.__setattr__")))
    (n13a : PySem.W.findIn K (.ref C13) "part" = some none)
    {odB13 anB13 : Option Addr} {slB13 : Array (Option Value)} {dcB13 pmB13 cdB13 ctB13 : Value}
    (lB13 : K.lookup F13 = some ⟨.type "function", odB13, .func (PySem.W.fnOf "__init__" "BadDuel.__init__" (MqV_part.iA ⟨65, 17, 65, 21⟩ ⟨65, 23, 65, 27⟩) (MqV_part.iB ⟨66, 8, 66, 12⟩ ⟨66, 8, 66, 17⟩ ⟨66, 20, 66, 24⟩ ⟨66, 8, 66, 24⟩) MqV_part.iS .none .none dcB13 pmB13 anB13 cdB13 ctB13), slB13⟩)
    (cB13 : PySem.W.codeIn K cdB13 "BadDuel.__init__" = true)
    (xC14 : ClsAt K CM C14)
    (ga14 : PySem.W.findIn K (.ref C14) "__getattribute__" = some (some (.builtin "BaseException.__getattribute__")))
    (gg14 : PySem.W.findIn K (.ref C14) "__getattr__" = some none)
    (ca14 : PySem.W.findIn K (.ref C14) "__class__" = some (some (.builtin "object.__class__")))
    {F14 : Addr}
    (wi14 : PySem.W.findIn K (.ref C14) "__init__" = some (some (.ref F14)))
    (ws14 : PySem.W.findIn K (.ref C14) "__setattr__" = some (some (.builtin "object.__setattr__")))
    (n14a : PySem.W.findIn K (.ref C14) "paper" = some none)
    {odB14 anB14 : Option Addr} {slB14 : Array (Option Value)} {dcB14 pmB14 cdB14 ctB14 : Value}
    (lB14 : K.lookup F14 = some ⟨.type "function", odB14, .func (PySem.W.fnOf "__init__" "Lost.__init__" (MqV_paper.iA ⟨69, 17, 69, 21⟩ ⟨69, 23, 69, 28⟩) (MqV_paper.iB ⟨70, 8, 70, 12⟩ ⟨70, 8, 70, 18⟩ ⟨70, 21, 70, 26⟩ ⟨70, 8, 70, 26⟩) MqV_paper.iS .none .none dcB14 pmB14 anB14 cdB14 ctB14), slB14⟩)
    (cB14 : PySem.W.codeIn K cdB14 "Lost.__init__" = true)
    (xC15 : ClsAt K CM C15)
    (ga15 : PySem.W.findIn K (.ref C15) "__getattribute__" = some (some (.builtin "BaseException.__getattribute__")))
    (gg15 : PySem.W.findIn K (.ref C15) "__getattr__" = some none)
    (ca15 : PySem.W.findIn K (.ref C15) "__class__" = some (some (.builtin "object.__class__")))
    {F15 : Addr}
    (wi15 : PySem.W.findIn K (.ref C15) "__init__" = some (some (.ref F15)))
    (ws15 : PySem.W.findIn K (.ref C15) "__setattr__" = some (some (.builtin "object.__setattr__")))
    (n15a : PySem.W.findIn K (.ref C15) "letter" = some none)
    {odB15 anB15 : Option Addr} {slB15 : Array (Option Value)} {dcB15 pmB15 cdB15 ctB15 : Value}
    (lB15 : K.lookup F15 = some ⟨.type "function", odB15, .func (PySem.W.fnOf "__init__" "NoMove.__init__" (MqV_letter.iA ⟨75, 17, 75, 21⟩ ⟨75, 23, 75, 29⟩) (MqV_letter.iB ⟨76, 8, 76, 12⟩ ⟨76, 8, 76, 19⟩ ⟨76, 22, 76, 28⟩ ⟨76, 8, 76, 28⟩) MqV_letter.iS .none .none dcB15 pmB15 anB15 cdB15 ctB15), slB15⟩)
    (cB15 : PySem.W.codeIn K cdB15 "NoMove.__init__" = true)
    (xC16 : ClsAt K CM C16)
    (ga16 : PySem.W.findIn K (.ref C16) "__getattribute__" = some (some (.builtin "BaseException.__getattribute__")))
    (gg16 : PySem.W.findIn K (.ref C16) "__getattr__" = some none)
    (ca16 : PySem.W.findIn K (.ref C16) "__class__" = some (some (.builtin "object.__class__")))
    {F16 : Addr}
    (wi16 : PySem.W.findIn K (.ref C16) "__init__" = some (some (.ref F16)))
    (ws16 : PySem.W.findIn K (.ref C16) "__setattr__" = some (some (.builtin "object.__setattr__")))
    (n16a : PySem.W.findIn K (.ref C16) "thing" = some none)
    {odB16 anB16 : Option Addr} {slB16 : Array (Option Value)} {dcB16 pmB16 cdB16 ctB16 : Value}
    (lB16 : K.lookup F16 = some ⟨.type "function", odB16, .func (PySem.W.fnOf "__init__" "BadRow.__init__" (MqV_thing.iA ⟨83, 17, 83, 21⟩ ⟨83, 23, 83, 28⟩) (MqV_thing.iB ⟨84, 8, 84, 12⟩ ⟨84, 8, 84, 18⟩ ⟨84, 21, 84, 26⟩ ⟨84, 8, 84, 26⟩) MqV_thing.iS .none .none dcB16 pmB16 anB16 cdB16 ctB16), slB16⟩)
    (cB16 : PySem.W.codeIn K cdB16 "BadRow.__init__" = true)
    (xC17 : ClsAt K CM C17)
    (ga17 : PySem.W.findIn K (.ref C17) "__getattribute__" = some (some (.builtin "BaseException.__getattribute__")))
    (gg17 : PySem.W.findIn K (.ref C17) "__getattr__" = some none)
    (ca17 : PySem.W.findIn K (.ref C17) "__class__" = some (some (.builtin "object.__class__")))
    {F17 : Addr}
    (wi17 : PySem.W.findIn K (.ref C17) "__init__" = some (some (.ref F17)))
    (ws17 : PySem.W.findIn K (.ref C17) "__setattr__" = some (some (.builtin "object.__setattr__")))
    (n17a : PySem.W.findIn K (.ref C17) "place" = some none)
    {odB17 anB17 : Option Addr} {slB17 : Array (Option Value)} {dcB17 pmB17 cdB17 ctB17 : Value}
    (lB17 : K.lookup F17 = some ⟨.type "function", odB17, .func (PySem.W.fnOf "__init__" "BadPlace.__init__" (MqV_place.iA ⟨87, 17, 87, 21⟩ ⟨87, 23, 87, 28⟩) (MqV_place.iB ⟨88, 8, 88, 12⟩ ⟨88, 8, 88, 18⟩ ⟨88, 21, 88, 26⟩ ⟨88, 8, 88, 26⟩) MqV_place.iS .none .none dcB17 pmB17 anB17 cdB17 ctB17), slB17⟩)
    (cB17 : PySem.W.codeIn K cdB17 "BadPlace.__init__" = true)
    (xC18 : ClsAt K CM C18)
    (ga18 : PySem.W.findIn K (.ref C18) "__getattribute__" = some (some (.builtin "BaseException.__getattribute__")))
    (gg18 : PySem.W.findIn K (.ref C18) "__getattr__" = some none)
    (ca18 : PySem.W.findIn K (.ref C18) "__class__" = some (some (.builtin "object.__class__")))
    {F18 : Addr}
    (wi18 : PySem.W.findIn K (.ref C18) "__init__" = some (some (.ref F18)))
    (ws18 : PySem.W.findIn K (.ref C18) "__setattr__" = some (some (.builtin "object.__setattr__")))
    (n18a : PySem.W.findIn K (.ref C18) "part" = some none)
    {odB18 anB18 : Option Addr} {slB18 : Array (Option Value)} {dcB18 pmB18 cdB18 ctB18 : Value}
    (lB18 : K.lookup F18 = some ⟨.type "function", odB18, .func (PySem.W.fnOf "__init__" "Full.__init__" (MqV_part.iA ⟨91, 17, 91, 21⟩ ⟨91, 23, 91, 27⟩) (MqV_part.iB ⟨92, 8, 92, 12⟩ ⟨92, 8, 92, 17⟩ ⟨92, 20, 92, 24⟩ ⟨92, 8, 92, 24⟩) MqV_part.iS .none .none dcB18 pmB18 anB18 cdB18 ctB18), slB18⟩)
    (cB18 : PySem.W.codeIn K cdB18 "Full.__init__" = true)
    (xC19 : ClsAt K CM C19)
    (ga19 : PySem.W.findIn K (.ref C19) "__getattribute__" = some (some (.builtin "BaseException.__getattribute__")))
    (gg19 : PySem.W.findIn K (.ref C19) "__getattr__" = some none)
    (ca19 : PySem.W.findIn K (.ref C19) "__class__" = some (some (.builtin "object.__class__")))
    {F19 : Addr}
    (wi19 : PySem.W.findIn K (.ref C19) "__init__" = some (some (.ref F19)))
    (ws19 : PySem.W.findIn K (.ref C19) "__setattr__" = some (some (.builtin "object.__setattr__")))
    (n19a : PySem.W.findIn K (.ref C19) "number" = some none)
    {odB19 anB19 : Option Addr} {slB19 : Array (Option Value)} {dcB19 pmB19 cdB19 ctB19 : Value}
    (lB19 : K.lookup F19 = some ⟨.type "function", odB19, .func (PySem.W.fnOf "__init__" "NoHand.__init__" (MqV_number.iA ⟨95, 17, 95, 21⟩ ⟨95, 23, 95, 29⟩) (MqV_number.iB ⟨96, 8, 96, 12⟩ ⟨96, 8, 96, 19⟩ ⟨96, 22, 96, 28⟩ ⟨96, 8, 96, 28⟩) MqV_number.iS .none .none dcB19 pmB19 anB19 cdB19 ctB19), slB19⟩)
    (cB19 : PySem.W.codeIn K cdB19 "NoHand.__init__" = true)
    (xC20 : ClsAt K CM C20)
    (ga20 : PySem.W.findIn K (.ref C20) "__getattribute__" = some (some (.builtin "BaseException.__getattribute__")))
    (gg20 : PySem.W.findIn K (.ref C20) "__getattr__" = some none)
    (ca20 : PySem.W.findIn K (.ref C20) "__class__" = some (some (.builtin "object.__class__")))
    {F20 : Addr}
    (wi20 : PySem.W.findIn K (.ref C20) "__init__" = some (some (.ref F20)))
    (ws20 : PySem.W.findIn K (.ref C20) "__setattr__" = some (some (.builtin "object.__setattr__")))
    (n20a : PySem.W.findIn K (.ref C20) "number" = some none)
    {odB20 anB20 : Option Addr} {slB20 : Array (Option Value)} {dcB20 pmB20 cdB20 ctB20 : Value}
    (lB20 : K.lookup F20 = some ⟨.type "function", odB20, .func (PySem.W.fnOf "__init__" "Waits.__init__" (MqV_number.iA ⟨99, 17, 99, 21⟩ ⟨99, 23, 99, 29⟩) (MqV_number.iB ⟨100, 8, 100, 12⟩ ⟨100, 8, 100, 19⟩ ⟨100, 22, 100, 28⟩ ⟨100, 8, 100, 28⟩) MqV_number.iS .none .none dcB20 pmB20 anB20 cdB20 ctB20), slB20⟩)
    (cB20 : PySem.W.codeIn K cdB20 "Waits.__init__" = true)
    (xC21 : ClsAt K CM C21)
    (ga21 : PySem.W.findIn K (.ref C21) "__getattribute__" = some (some (.builtin "BaseException.__getattribute__")))
    (gg21 : PySem.W.findIn K (.ref C21) "__getattr__" = some none)
    (ca21 : PySem.W.findIn K (.ref C21) "__class__" = some (some (.builtin "object.__class__")))
    {F21 : Addr}
    (wi21 : PySem.W.findIn K (.ref C21) "__init__" = some (some (.ref F21)))
    (ws21 : PySem.W.findIn K (.ref C21) "__setattr__" = some (some (.builtin "object.__setattr__")))
    (n21a : PySem.W.findIn K (.ref C21) "thing" = some none)
    {odB21 anB21 : Option Addr} {slB21 : Array (Option Value)} {dcB21 pmB21 cdB21 ctB21 : Value}
    (lB21 : K.lookup F21 = some ⟨.type "function", odB21, .func (PySem.W.fnOf "__init__" "BadDeed.__init__" (MqV_thing.iA ⟨103, 17, 103, 21⟩ ⟨103, 23, 103, 28⟩) (MqV_thing.iB ⟨104, 8, 104, 12⟩ ⟨104, 8, 104, 18⟩ ⟨104, 21, 104, 26⟩ ⟨104, 8, 104, 26⟩) MqV_thing.iS .none .none dcB21 pmB21 anB21 cdB21 ctB21), slB21⟩)
    (cB21 : PySem.W.codeIn K cdB21 "BadDeed.__init__" = true)
    (xC22 : ClsAt K CM C22)
    (ga22 : PySem.W.findIn K (.ref C22) "__getattribute__" = some (some (.builtin "BaseException.__getattribute__")))
    (gg22 : PySem.W.findIn K (.ref C22) "__getattr__" = some none)
    (ca22 : PySem.W.findIn K (.ref C22) "__class__" = some (some (.builtin "object.__class__")))
    {F22 : Addr}
    (wi22 : PySem.W.findIn K (.ref C22) "__init__" = some (some (.ref F22)))
    (ws22 : PySem.W.findIn K (.ref C22) "__setattr__" = some (some (.builtin "object.__setattr__")))
    (n22a : PySem.W.findIn K (.ref C22) "number" = some none)
    {odB22 anB22 : Option Addr} {slB22 : Array (Option Value)} {dcB22 pmB22 cdB22 ctB22 : Value}
    (lB22 : K.lookup F22 = some ⟨.type "function", odB22, .func (PySem.W.fnOf "__init__" "NoWish.__init__" (MqV_number.iA ⟨107, 17, 107, 21⟩ ⟨107, 23, 107, 29⟩) (MqV_number.iB ⟨108, 8, 108, 12⟩ ⟨108, 8, 108, 19⟩ ⟨108, 22, 108, 28⟩ ⟨108, 8, 108, 28⟩) MqV_number.iS .none .none dcB22 pmB22 anB22 cdB22 ctB22), slB22⟩)
    (cB22 : PySem.W.codeIn K cdB22 "NoWish.__init__" = true)
    (xC23 : ClsAt K CM C23)
    (ga23 : PySem.W.findIn K (.ref C23) "__getattribute__" = some (some (.builtin "BaseException.__getattribute__")))
    (gg23 : PySem.W.findIn K (.ref C23) "__getattr__" = some none)
    (ca23 : PySem.W.findIn K (.ref C23) "__class__" = some (some (.builtin "object.__class__")))
    {F23 : Addr}
    (wi23 : PySem.W.findIn K (.ref C23) "__init__" = some (some (.ref F23)))
    (ws23 : PySem.W.findIn K (.ref C23) "__setattr__" = some (some (.builtin "object.__setattr__")))
    (n23a : PySem.W.findIn K (.ref C23) "name" = some none)
    {odB23 anB23 : Option Addr} {slB23 : Array (Option Value)} {dcB23 pmB23 cdB23 ctB23 : Value}
    (lB23 : K.lookup F23 = some ⟨.type "function", odB23, .func (PySem.W.fnOf "__init__" "BadName.__init__" (MqV_name.iA ⟨111, 17, 111, 21⟩ ⟨111, 23, 111, 27⟩) (MqV_name.iB ⟨112, 8, 112, 12⟩ ⟨112, 8, 112, 17⟩ ⟨112, 20, 112, 24⟩ ⟨112, 8, 112, 24⟩) MqV_name.iS .none .none dcB23 pmB23 anB23 cdB23 ctB23), slB23⟩)
    (cB23 : PySem.W.codeIn K cdB23 "BadName.__init__" = true)
    (xC24 : ClsAt K CM C24)
    (ga24 : PySem.W.findIn K (.ref C24) "__getattribute__" = some (some (.builtin "BaseException.__getattribute__")))
    (gg24 : PySem.W.findIn K (.ref C24) "__getattr__" = some none)
    (ca24 : PySem.W.findIn K (.ref C24) "__class__" = some (some (.builtin "object.__class__")))
    {F24 : Addr}
    (wi24 : PySem.W.findIn K (.ref C24) "__init__" = some (some (.ref F24)))
    (ws24 : PySem.W.findIn K (.ref C24) "__setattr__" = some (some (.builtin "object.__setattr__")))
    (n24a : PySem.W.findIn K (.ref C24) "name" = some none)
    {odB24 anB24 : Option Addr} {slB24 : Array (Option Value)} {dcB24 pmB24 cdB24 ctB24 : Value}
    (lB24 : K.lookup F24 = some ⟨.type "function", odB24, .func (PySem.W.fnOf "__init__" "NoName.__init__" (MqV_name.iA ⟨115, 17, 115, 21⟩ ⟨115, 23, 115, 27⟩) (MqV_name.iB ⟨116, 8, 116, 12⟩ ⟨116, 8, 116, 17⟩ ⟨116, 20, 116, 24⟩ ⟨116, 8, 116, 24⟩) MqV_name.iS .none .none dcB24 pmB24 anB24 cdB24 ctB24), slB24⟩)
    (cB24 : PySem.W.codeIn K cdB24 "NoName.__init__" = true)
    (xC25 : ClsAt K CM C25)
    (ga25 : PySem.W.findIn K (.ref C25) "__getattribute__" = some (some (.builtin "BaseException.__getattribute__")))
    (gg25 : PySem.W.findIn K (.ref C25) "__getattr__" = some none)
    (ca25 : PySem.W.findIn K (.ref C25) "__class__" = some (some (.builtin "object.__class__")))
    {F25 : Addr}
    (wi25 : PySem.W.findIn K (.ref C25) "__init__" = some (some (.ref F25)))
    (ws25 : PySem.W.findIn K (.ref C25) "__setattr__" = some (some (.builtin "object.__setattr__")))
    (n25a : PySem.W.findIn K (.ref C25) "thing" = some none)
    {odB25 anB25 : Option Addr} {slB25 : Array (Option Value)} {dcB25 pmB25 cdB25 ctB25 : Value}
    (lB25 : K.lookup F25 = some ⟨.type "function", odB25, .func (PySem.W.fnOf "__init__" "BadPromise.__init__" (MqV_thing.iA ⟨119, 17, 119, 21⟩ ⟨119, 23, 119, 28⟩) (MqV_thing.iB ⟨120, 8, 120, 12⟩ ⟨120, 8, 120, 18⟩ ⟨120, 21, 120, 26⟩ ⟨120, 8, 120, 26⟩) MqV_thing.iS .none .none dcB25 pmB25 anB25 cdB25 ctB25), slB25⟩)
    (cB25 : PySem.W.codeIn K cdB25 "BadPromise.__init__" = true)
    (xC26 : ClsAt K CM C26)
    (ga26 : PySem.W.findIn K (.ref C26) "__getattribute__" = some (some (.builtin "BaseException.__getattribute__")))
    (gg26 : PySem.W.findIn K (.ref C26) "__getattr__" = some none)
    (ca26 : PySem.W.findIn K (.ref C26) "__class__" = some (some (.builtin "object.__class__")))
    {F26 : Addr}
    (wi26 : PySem.W.findIn K (.ref C26) "__init__" = some (some (.ref F26)))
    (ws26 : PySem.W.findIn K (.ref C26) "__setattr__" = some (some (.builtin "object.__setattr__")))
    (n26a : PySem.W.findIn K (.ref C26) "web" = some none)
    (n26b : PySem.W.findIn K (.ref C26) "further" = some none)
    {odB26 anB26 : Option Addr} {slB26 : Array (Option Value)} {dcB26 pmB26 cdB26 ctB26 : Value}
    (lB26 : K.lookup F26 = some ⟨.type "function", odB26, .func (PySem.W.fnOf "__init__" "Merged.__init__" (MqV_web_further.iA ⟨40, 17, 40, 21⟩ ⟨40, 23, 40, 26⟩ ⟨40, 28, 40, 35⟩) (MqV_web_further.iB ⟨41, 8, 41, 12⟩ ⟨41, 8, 41, 16⟩ ⟨41, 19, 41, 22⟩ ⟨41, 8, 41, 22⟩ ⟨42, 8, 42, 12⟩ ⟨42, 8, 42, 20⟩ ⟨42, 23, 42, 30⟩ ⟨42, 8, 42, 30⟩) MqV_web_further.iS .none .none dcB26 pmB26 anB26 cdB26 ctB26), slB26⟩)
    (cB26 : PySem.W.codeIn K cdB26 "Merged.__init__" = true)
    (xC27 : ClsAt K CM C27)
    (ga27 : PySem.W.findIn K (.ref C27) "__getattribute__" = some (some (.builtin "BaseException.__getattribute__")))
    (gg27 : PySem.W.findIn K (.ref C27) "__getattr__" = some none)
    (ca27 : PySem.W.findIn K (.ref C27) "__class__" = some (some (.builtin "object.__class__")))
    {F27 : Addr}
    (wi27 : PySem.W.findIn K (.ref C27) "__init__" = some (some (.ref F27)))
    (ws27 : PySem.W.findIn K (.ref C27) "__setattr__" = some (some (.builtin "object.__setattr__")))
    (n27a : PySem.W.findIn K (.ref C27) "promise" = some none)
    (n27b : PySem.W.findIn K (.ref C27) "paper" = some none)
    {odB27 anB27 : Option Addr} {slB27 : Array (Option Value)} {dcB27 pmB27 cdB27 ctB27 : Value}
    (lB27 : K.lookup F27 = some ⟨.type "function", odB27, .func (PySem.W.fnOf "__init__" "Broken.__init__" (MqV_promise_paper.iA ⟨123, 17, 123, 21⟩ ⟨123, 23, 123, 30⟩ ⟨123, 32, 123, 37⟩) (MqV_promise_paper.iB ⟨124, 8, 124, 12⟩ ⟨124, 8, 124, 20⟩ ⟨124, 23, 124, 30⟩ ⟨124, 8, 124, 30⟩ ⟨125, 8, 125, 12⟩ ⟨125, 8, 125, 18⟩ ⟨125, 21, 125, 26⟩ ⟨125, 8, 125, 26⟩) MqV_promise_paper.iS .none .none dcB27 pmB27 anB27 cdB27 ctB27), slB27⟩)
    (cB27 : PySem.W.codeIn K cdB27 "Broken.__init__" = true)
    (xC28 : ClsAt K CM C28)
    (ga28 : PySem.W.findIn K (.ref C28) "__getattribute__" = some (some (.builtin "BaseException.__getattribute__")))
    (gg28 : PySem.W.findIn K (.ref C28) "__getattr__" = some none)
    (ca28 : PySem.W.findIn K (.ref C28) "__class__" = some (some (.builtin "object.__class__")))
    (qq28 : PySem.W.excIn K C28 exTail "Exception.__new__" = true)
    (xC29 : ClsAt K CM C29)
    (ga29 : PySem.W.findIn K (.ref C29) "__getattribute__" = some (some (.builtin "BaseException.__getattribute__")))
    (gg29 : PySem.W.findIn K (.ref C29) "__getattr__" = some none)
    (ca29 : PySem.W.findIn K (.ref C29) "__class__" = some (some (.builtin "object.__class__")))
    (qq29 : PySem.W.excIn K C29 exTail "Exception.__new__" = true)
    (xC30 : ClsAt K CM C30)
    (ga30 : PySem.W.findIn K (.ref C30) "__getattribute__" = some (some (.builtin "BaseException.__getattribute__")))
    (gg30 : PySem.W.findIn K (.ref C30) "__getattr__" = some none)
    (ca30 : PySem.W.findIn K (.ref C30) "__class__" = some (some (.builtin "object.__class__")))
    (qq30 : PySem.W.excIn K C30 exTail "Exception.__new__" = true)
    (xC31 : ClsAt K CM C31)
    (ga31 : PySem.W.findIn K (.ref C31) "__getattribute__" = some (some (.builtin "BaseException.__getattribute__")))
    (gg31 : PySem.W.findIn K (.ref C31) "__getattr__" = some none)
    (ca31 : PySem.W.findIn K (.ref C31) "__class__" = some (some (.builtin "object.__class__")))
    (qq31 : PySem.W.excIn K C31 exTail "Exception.__new__" = true)
    (xC32 : ClsAt K CM C32)
    (ga32 : PySem.W.findIn K (.ref C32) "__getattribute__" = some (some (.builtin "BaseException.__getattribute__")))
    (gg32 : PySem.W.findIn K (.ref C32) "__getattr__" = some none)
    (ca32 : PySem.W.findIn K (.ref C32) "__class__" = some (some (.builtin "object.__class__")))
    (qq32 : PySem.W.excIn K C32 exTail "Exception.__new__" = true)
    (xC33 : ClsAt K CM C33)
    (ga33 : PySem.W.findIn K (.ref C33) "__getattribute__" = some (some (.builtin "BaseException.__getattribute__")))
    (gg33 : PySem.W.findIn K (.ref C33) "__getattr__" = some none)
    (ca33 : PySem.W.findIn K (.ref C33) "__class__" = some (some (.builtin "object.__class__")))
    (qq33 : PySem.W.excIn K C33 exTail "Exception.__new__" = true)
    (h1 : PySem.W.isClsIn K CM = true)
    (h2 : PySem.W.typeIn K (.ref CM) = some (.type "type"))
    (h3 : PySem.W.subIn K (.ref CM) (.type "BaseException") = some true)
    (sp : PySem.W.specialIn K (.builtin "object.__class__") "__get__" = some (some (.builtin "getset_descriptor.__get__")))
    (tk : PySem.W.takesIn K (.builtin "object.__class__") = some true)
    {f0 : Addr} {od0 an0 : Option Addr} {sl0 : Array (Option Value)} {oc0 kV0 dc0 pm0 cd0 ct0 : Value}
    (a0 : PySem.W.nsIn K mainGlobals "_law_deck" = some (some (.ref f0)))
    (l0 : K.lookup f0 = some ⟨oc0, od0, .func (PySem.W.fnOf "_law_deck" "_law_deck" (defArgs s__law_deck) (defBody s__law_deck) (defScope s__law_deck) .none kV0 dc0 pm0 an0 cd0 ct0), sl0⟩)
    (c0 : PySem.W.codeIn K cd0 "_law_deck" = true)
    {f1 : Addr} {od1 an1 : Option Addr} {sl1 : Array (Option Value)} {oc1 kV1 dc1 pm1 cd1 ct1 : Value}
    (a1 : PySem.W.nsIn K mainGlobals "_law_draw" = some (some (.ref f1)))
    (l1 : K.lookup f1 = some ⟨oc1, od1, .func (PySem.W.fnOf "_law_draw" "_law_draw" (defArgs s__law_draw) (defBody s__law_draw) (defScope s__law_draw) .none kV1 dc1 pm1 an1 cd1 ct1), sl1⟩)
    (c1 : PySem.W.codeIn K cd1 "_law_draw" = true)
    {f2 : Addr} {od2 an2 : Option Addr} {sl2 : Array (Option Value)} {oc2 kV2 dc2 pm2 cd2 ct2 : Value}
    (a2 : PySem.W.nsIn K mainGlobals "_law_pick" = some (some (.ref f2)))
    (l2 : K.lookup f2 = some ⟨oc2, od2, .func (PySem.W.fnOf "_law_pick" "_law_pick" (defArgs s__law_pick) (defBody s__law_pick) (defScope s__law_pick) .none kV2 dc2 pm2 an2 cd2 ct2), sl2⟩)
    (c2 : PySem.W.codeIn K cd2 "_law_pick" = true)
    {f3 : Addr} {od3 an3 : Option Addr} {sl3 : Array (Option Value)} {oc3 kV3 dc3 pm3 cd3 ct3 : Value}
    (a3 : PySem.W.nsIn K mainGlobals "_law_near" = some (some (.ref f3)))
    (l3 : K.lookup f3 = some ⟨oc3, od3, .func (PySem.W.fnOf "_law_near" "_law_near" (defArgs s__law_near) (defBody s__law_near) (defScope s__law_near) .none kV3 dc3 pm3 an3 cd3 ct3), sl3⟩)
    (c3 : PySem.W.codeIn K cd3 "_law_near" = true)
    {f4 : Addr} {od4 an4 : Option Addr} {sl4 : Array (Option Value)} {oc4 kV4 dc4 pm4 cd4 ct4 : Value}
    (a4 : PySem.W.nsIn K mainGlobals "_law_mid" = some (some (.ref f4)))
    (l4 : K.lookup f4 = some ⟨oc4, od4, .func (PySem.W.fnOf "_law_mid" "_law_mid" (defArgs s__law_mid) (defBody s__law_mid) (defScope s__law_mid) .none kV4 dc4 pm4 an4 cd4 ct4), sl4⟩)
    (c4 : PySem.W.codeIn K cd4 "_law_mid" = true)
    {f5 : Addr} {od5 an5 : Option Addr} {sl5 : Array (Option Value)} {oc5 kV5 dc5 pm5 cd5 ct5 : Value}
    (a5 : PySem.W.nsIn K mainGlobals "_law_far" = some (some (.ref f5)))
    (l5 : K.lookup f5 = some ⟨oc5, od5, .func (PySem.W.fnOf "_law_far" "_law_far" (defArgs s__law_far) (defBody s__law_far) (defScope s__law_far) .none kV5 dc5 pm5 an5 cd5 ct5), sl5⟩)
    (c5 : PySem.W.codeIn K cd5 "_law_far" = true)
    {f6 : Addr} {od6 an6 : Option Addr} {sl6 : Array (Option Value)} {oc6 kV6 dc6 pm6 cd6 ct6 : Value}
    (a6 : PySem.W.nsIn K mainGlobals "_law_made" = some (some (.ref f6)))
    (l6 : K.lookup f6 = some ⟨oc6, od6, .func (PySem.W.fnOf "_law_made" "_law_made" (defArgs s__law_made) (defBody s__law_made) (defScope s__law_made) .none kV6 dc6 pm6 an6 cd6 ct6), sl6⟩)
    (c6 : PySem.W.codeIn K cd6 "_law_made" = true)
    {f7 : Addr} {od7 an7 : Option Addr} {sl7 : Array (Option Value)} {oc7 kV7 dc7 pm7 cd7 ct7 : Value}
    (a7 : PySem.W.nsIn K mainGlobals "_law_both" = some (some (.ref f7)))
    (l7 : K.lookup f7 = some ⟨oc7, od7, .func (PySem.W.fnOf "_law_both" "_law_both" (defArgs s__law_both) (defBody s__law_both) (defScope s__law_both) .none kV7 dc7 pm7 an7 cd7 ct7), sl7⟩)
    (c7 : PySem.W.codeIn K cd7 "_law_both" = true)
    {f8 : Addr} {od8 an8 : Option Addr} {sl8 : Array (Option Value)} {oc8 kV8 dc8 pm8 cd8 ct8 : Value}
    (a8 : PySem.W.nsIn K mainGlobals "_law_bare" = some (some (.ref f8)))
    (l8 : K.lookup f8 = some ⟨oc8, od8, .func (PySem.W.fnOf "_law_bare" "_law_bare" (defArgs s__law_bare) (defBody s__law_bare) (defScope s__law_bare) .none kV8 dc8 pm8 an8 cd8 ct8), sl8⟩)
    (c8 : PySem.W.codeIn K cd8 "_law_bare" = true)
    {f9 : Addr} {od9 an9 : Option Addr} {sl9 : Array (Option Value)} {oc9 kV9 dc9 pm9 cd9 ct9 : Value}
    (a9 : PySem.W.nsIn K mainGlobals "_law_kinds" = some (some (.ref f9)))
    (l9 : K.lookup f9 = some ⟨oc9, od9, .func (PySem.W.fnOf "_law_kinds" "_law_kinds" (defArgs s__law_kinds) (defBody s__law_kinds) (defScope s__law_kinds) .none kV9 dc9 pm9 an9 cd9 ct9), sl9⟩)
    (c9 : PySem.W.codeIn K cd9 "_law_kinds" = true)
    {f10 : Addr} {od10 an10 : Option Addr} {sl10 : Array (Option Value)} {oc10 kV10 dc10 pm10 cd10 ct10 : Value}
    (a10 : PySem.W.nsIn K mainGlobals "_law_is_pure" = some (some (.ref f10)))
    (l10 : K.lookup f10 = some ⟨oc10, od10, .func (PySem.W.fnOf "_law_is_pure" "_law_is_pure" (defArgs s__law_is_pure) (defBody s__law_is_pure) (defScope s__law_is_pure) .none kV10 dc10 pm10 an10 cd10 ct10), sl10⟩)
    (c10 : PySem.W.codeIn K cd10 "_law_is_pure" = true)
    {f11 : Addr} {od11 an11 : Option Addr} {sl11 : Array (Option Value)} {oc11 kV11 dc11 pm11 cd11 ct11 : Value}
    (a11 : PySem.W.nsIn K mainGlobals "_law_it" = some (some (.ref f11)))
    (l11 : K.lookup f11 = some ⟨oc11, od11, .func (PySem.W.fnOf "_law_it" "_law_it" (defArgs s__law_it) (defBody s__law_it) (defScope s__law_it) .none kV11 dc11 pm11 an11 cd11 ct11), sl11⟩)
    (c11 : PySem.W.codeIn K cd11 "_law_it" = true)
    {f12 : Addr} {od12 an12 : Option Addr} {sl12 : Array (Option Value)} {oc12 kV12 dc12 pm12 cd12 ct12 : Value}
    (a12 : PySem.W.nsIn K mainGlobals "_law_is_caught" = some (some (.ref f12)))
    (l12 : K.lookup f12 = some ⟨oc12, od12, .func (PySem.W.fnOf "_law_is_caught" "_law_is_caught" (defArgs s__law_is_caught) (defBody s__law_is_caught) (defScope s__law_is_caught) .none kV12 dc12 pm12 an12 cd12 ct12), sl12⟩)
    (c12 : PySem.W.codeIn K cd12 "_law_is_caught" = true)
    {f13 : Addr} {od13 an13 : Option Addr} {sl13 : Array (Option Value)} {oc13 kV13 dc13 pm13 cd13 ct13 : Value}
    (a13 : PySem.W.nsIn K mainGlobals "law" = some (some (.ref f13)))
    (l13 : K.lookup f13 = some ⟨oc13, od13, .func (PySem.W.fnOf "law" "law" (defArgs s_law) (defBody s_law) (defScope s_law) .none kV13 dc13 pm13 an13 cd13 ct13), sl13⟩)
    (c13 : PySem.W.codeIn K cd13 "law" = true)
    (b_len : PySem.W.nsIn K mainGlobals "len" = some none)
    (b_range : PySem.W.nsIn K mainGlobals "range" = some none)
    (b_isinstance : PySem.W.nsIn K mainGlobals "isinstance" = some none)
    (b_all : PySem.W.nsIn K mainGlobals "all" = some none)
    (b_any : PySem.W.nsIn K mainGlobals "any" = some none)
    (b_int : PySem.W.nsIn K mainGlobals "int" = some none)
    (b_str : PySem.W.nsIn K mainGlobals "str" = some none)
    (b_bool : PySem.W.nsIn K mainGlobals "bool" = some none)
    (b_tuple : PySem.W.nsIn K mainGlobals "tuple" = some none)
    (b_list : PySem.W.nsIn K mainGlobals "list" = some none)
    (b_repr : PySem.W.nsIn K mainGlobals "repr" = some none)
    (b_enumerate : PySem.W.nsIn K mainGlobals "enumerate" = some none)
    (b_Exception : PySem.W.nsIn K mainGlobals "Exception" = some none)
    (b_ValueError : PySem.W.nsIn K mainGlobals "ValueError" = some none)
    (b_TypeError : PySem.W.nsIn K mainGlobals "TypeError" = some none)
    (b_LookupError : PySem.W.nsIn K mainGlobals "LookupError" = some none)
    (b_ArithmeticError : PySem.W.nsIn K mainGlobals "ArithmeticError" = some none)
    (b_RuntimeError : PySem.W.nsIn K mainGlobals "RuntimeError" = some none)
    (b_AttributeError : PySem.W.nsIn K mainGlobals "AttributeError" = some none) :
    ∃ fd : FuncData, (∀ (s : Shared) (u : Value), BindsTo s fd ⟨[u], []⟩ [("_law_script", u)]) ∧ ∀ base : Heap, K.In base → base.Ns mainGlobals mg → FnG P w K mg base CX0 4 fa fd ["_law_script"] (spLaw K) := by
  have e := hfa.symm.trans (PySem.W.mg_of X G a13)
  cases e
  have B : Blt mg := ⟨PySem.W.mg_none_of X G b_len, PySem.W.mg_none_of X G b_range, PySem.W.mg_none_of X G b_isinstance, PySem.W.mg_none_of X G b_all, PySem.W.mg_none_of X G b_any, PySem.W.mg_none_of X G b_int, PySem.W.mg_none_of X G b_str, PySem.W.mg_none_of X G b_bool, PySem.W.mg_none_of X G b_tuple, PySem.W.mg_none_of X G b_list, PySem.W.mg_none_of X G b_repr, PySem.W.mg_none_of X G b_enumerate⟩
  have U0 := fun_mk (st := s__law_deck) l0 c0 (keep_fn l0)
  have g0 := PySem.W.mg_of X G a0
  have b0 := U0.binds (ps := ["_law_script"]) fun _ _ _ _ _ _ us hl => match us, hl with | [_], _ => rfl
  have U1 := fun_mk (st := s__law_draw) l1 c1 (keep_fn l1)
  have g1 := PySem.W.mg_of X G a1
  have b1 := U1.binds (ps := ["_law_deck_here", "_law_below"]) fun _ _ _ _ _ _ us hl => match us, hl with | [_, _], _ => rfl
  have U2 := fun_mk (st := s__law_pick) l2 c2 (keep_fn l2)
  have g2 := PySem.W.mg_of X G a2
  have b2 := U2.binds (ps := ["_law_deck_here", "_law_some"]) fun _ _ _ _ _ _ us hl => match us, hl with | [_, _], _ => rfl
  have U3 := fun_mk (st := s__law_near) l3 c3 (keep_fn l3)
  have g3 := PySem.W.mg_of X G a3
  have b3 := U3.binds (ps := ["_law_at", "_law_it_here"]) fun _ _ _ _ _ _ us hl => match us, hl with | [_, _], _ => rfl
  have U4 := fun_mk (st := s__law_mid) l4 c4 (keep_fn l4)
  have g4 := PySem.W.mg_of X G a4
  have b4 := U4.binds (ps := ["_law_at", "_law_it_here"]) fun _ _ _ _ _ _ us hl => match us, hl with | [_, _], _ => rfl
  have U5 := fun_mk (st := s__law_far) l5 c5 (keep_fn l5)
  have g5 := PySem.W.mg_of X G a5
  have b5 := U5.binds (ps := ["_law_at", "_law_it_here"]) fun _ _ _ _ _ _ us hl => match us, hl with | [_, _], _ => rfl
  have U6 := fun_mk (st := s__law_made) l6 c6 (keep_fn l6)
  have g6 := PySem.W.mg_of X G a6
  have b6 := U6.binds (ps := ["_law_at", "_law_it_here"]) fun _ _ _ _ _ _ us hl => match us, hl with | [_, _], _ => rfl
  have U7 := fun_mk (st := s__law_both) l7 c7 (keep_fn l7)
  have g7 := PySem.W.mg_of X G a7
  have b7 := U7.binds (ps := ["_law_at", "_law_it_here", "_law_that"]) fun _ _ _ _ _ _ us hl => match us, hl with | [_, _, _], _ => rfl
  have U8 := fun_mk (st := s__law_bare) l8 c8 (keep_fn l8)
  have g8 := PySem.W.mg_of X G a8
  have b8 := U8.binds (ps := ["_law_at"]) fun _ _ _ _ _ _ us hl => match us, hl with | [_], _ => rfl
  have U9 := fun_mk (st := s__law_kinds) l9 c9 (keep_fn l9)
  have g9 := PySem.W.mg_of X G a9
  have b9 := U9.binds (ps := ["_law_e"]) fun _ _ _ _ _ _ us hl => match us, hl with | [_], _ => rfl
  have U10 := fun_mk (st := s__law_is_pure) l10 c10 (keep_fn l10)
  have g10 := PySem.W.mg_of X G a10
  have b10 := U10.binds (ps := ["_law_e", "_law_at"]) fun _ _ _ _ _ _ us hl => match us, hl with | [_, _], _ => rfl
  have U11 := fun_mk (st := s__law_it) l11 c11 (keep_fn l11)
  have g11 := PySem.W.mg_of X G a11
  have b11 := U11.binds (ps := ["_law_deck_here"]) fun _ _ _ _ _ _ us hl => match us, hl with | [_], _ => rfl
  have U12 := fun_mk (st := s__law_is_caught) l12 c12 (keep_fn l12)
  have g12 := PySem.W.mg_of X G a12
  have b12 := U12.binds (ps := ["_law_it_here", "_law_that"]) fun _ _ _ _ _ _ us hl => match us, hl with | [_, _], _ => rfl
  have U13 := fun_mk (st := s_law) l13 c13 (keep_fn l13)
  have g13 := PySem.W.mg_of X G a13
  have b13 := U13.binds (ps := ["_law_script"]) fun _ _ _ _ _ _ us hl => match us, hl with | [_], _ => rfl
  have Y0 : ClsF K CM C0 := ⟨xC0, ga0, gg0, ca0⟩
  have gC0 := PySem.W.mg_of X G aC0
  have T0 := errC Y0 gC0 ws0 wi0 lB0
  have V0 : MqV_part.Fn K "BadBook.__init__" C0 F0 := ⟨NoAttr.taker n0a, _, _, _, _, _, _, _, _, _, _, _, _, _, _, lB0, cB0⟩
  have Y1 : ClsF K CM C1 := ⟨xC1, ga1, gg1, ca1⟩
  have gC1 := PySem.W.mg_of X G aC1
  have T1 := errC Y1 gC1 ws1 wi1 lB1
  have V1 : MqV_line.Fn K "BadText.__init__" C1 F1 := ⟨NoAttr.taker n1a, _, _, _, _, _, _, _, _, _, _, _, _, _, _, lB1, cB1⟩
  have Y2 : ClsF K CM C2 := ⟨xC2, ga2, gg2, ca2⟩
  have gC2 := PySem.W.mg_of X G aC2
  have T2 := errC Y2 gC2 ws2 wi2 lB2
  have V2 : MqV_thing.Fn K "BadWeb.__init__" C2 F2 := ⟨NoAttr.taker n2a, _, _, _, _, _, _, _, _, _, _, _, _, _, _, lB2, cB2⟩
  have Y3 : ClsF K CM C3 := ⟨xC3, ga3, gg3, ca3⟩
  have gC3 := PySem.W.mg_of X G aC3
  have T3 := errC Y3 gC3 ws3 wi3 lB3
  have V3 : MqV_most.Fn K "TooMany.__init__" C3 F3 := ⟨NoAttr.taker n3a, _, _, _, _, _, _, _, _, _, _, _, _, _, _, lB3, cB3⟩
  have Y4 : ClsF K CM C4 := ⟨xC4, ga4, gg4, ca4⟩
  have gC4 := PySem.W.mg_of X G aC4
  have T4 := errC Y4 gC4 ws4 wi4 lB4
  have V4 : MqV_part.Fn K "BadReader.__init__" C4 F4 := ⟨NoAttr.taker n4a, _, _, _, _, _, _, _, _, _, _, _, _, _, _, lB4, cB4⟩
  have Y5 : ClsF K CM C5 := ⟨xC5, ga5, gg5, ca5⟩
  have gC5 := PySem.W.mg_of X G aC5
  have T5 := errC Y5 gC5 ws5 wi5 lB5
  have V5 : MqV_part.Fn K "BadTeller.__init__" C5 F5 := ⟨NoAttr.taker n5a, _, _, _, _, _, _, _, _, _, _, _, _, _, _, lB5, cB5⟩
  have Y6 : ClsF K CM C6 := ⟨xC6, ga6, gg6, ca6⟩
  have gC6 := PySem.W.mg_of X G aC6
  have T6 := errC Y6 gC6 ws6 wi6 lB6
  have V6 : MqV_part.Fn K "BadFan.__init__" C6 F6 := ⟨NoAttr.taker n6a, _, _, _, _, _, _, _, _, _, _, _, _, _, _, lB6, cB6⟩
  have Y7 : ClsF K CM C7 := ⟨xC7, ga7, gg7, ca7⟩
  have gC7 := PySem.W.mg_of X G aC7
  have T7 := errC Y7 gC7 ws7 wi7 lB7
  have V7 : MqV_thing.Fn K "BadWeft.__init__" C7 F7 := ⟨NoAttr.taker n7a, _, _, _, _, _, _, _, _, _, _, _, _, _, _, lB7, cB7⟩
  have Y8 : ClsF K CM C8 := ⟨xC8, ga8, gg8, ca8⟩
  have gC8 := PySem.W.mg_of X G aC8
  have T8 := errC Y8 gC8 ws8 wi8 lB8
  have V8 : MqV_most.Fn K "TooLong.__init__" C8 F8 := ⟨NoAttr.taker n8a, _, _, _, _, _, _, _, _, _, _, _, _, _, _, lB8, cB8⟩
  have Y9 : ClsF K CM C9 := ⟨xC9, ga9, gg9, ca9⟩
  have gC9 := PySem.W.mg_of X G aC9
  have T9 := errC Y9 gC9 ws9 wi9 lB9
  have V9 : MqV_place.Fn K "BadCourse.__init__" C9 F9 := ⟨NoAttr.taker n9a, _, _, _, _, _, _, _, _, _, _, _, _, _, _, lB9, cB9⟩
  have Y10 : ClsF K CM C10 := ⟨xC10, ga10, gg10, ca10⟩
  have gC10 := PySem.W.mg_of X G aC10
  have T10 := errC Y10 gC10 ws10 wi10 lB10
  have V10 : MqV_thing.Fn K "BadWish.__init__" C10 F10 := ⟨NoAttr.taker n10a, _, _, _, _, _, _, _, _, _, _, _, _, _, _, lB10, cB10⟩
  have Y11 : ClsF K CM C11 := ⟨xC11, ga11, gg11, ca11⟩
  have gC11 := PySem.W.mg_of X G aC11
  have T11 := errC Y11 gC11 ws11 wi11 lB11
  have V11 : MqV_outcome.Fn K "Unsound.__init__" C11 F11 := ⟨NoAttr.taker n11a, _, _, _, _, _, _, _, _, _, _, _, _, _, _, lB11, cB11⟩
  have Y12 : ClsF K CM C12 := ⟨xC12, ga12, gg12, ca12⟩
  have gC12 := PySem.W.mg_of X G aC12
  have T12 := errC Y12 gC12 ws12 wi12 lB12
  have V12 : MqV_part.Fn K "BadProgram.__init__" C12 F12 := ⟨NoAttr.taker n12a, _, _, _, _, _, _, _, _, _, _, _, _, _, _, lB12, cB12⟩
  have Y13 : ClsF K CM C13 := ⟨xC13, ga13, gg13, ca13⟩
  have gC13 := PySem.W.mg_of X G aC13
  have T13 := errC Y13 gC13 ws13 wi13 lB13
  have V13 : MqV_part.Fn K "BadDuel.__init__" C13 F13 := ⟨NoAttr.taker n13a, _, _, _, _, _, _, _, _, _, _, _, _, _, _, lB13, cB13⟩
  have Y14 : ClsF K CM C14 := ⟨xC14, ga14, gg14, ca14⟩
  have gC14 := PySem.W.mg_of X G aC14
  have T14 := errC Y14 gC14 ws14 wi14 lB14
  have V14 : MqV_paper.Fn K "Lost.__init__" C14 F14 := ⟨NoAttr.taker n14a, _, _, _, _, _, _, _, _, _, _, _, _, _, _, lB14, cB14⟩
  have Y15 : ClsF K CM C15 := ⟨xC15, ga15, gg15, ca15⟩
  have gC15 := PySem.W.mg_of X G aC15
  have T15 := errC Y15 gC15 ws15 wi15 lB15
  have V15 : MqV_letter.Fn K "NoMove.__init__" C15 F15 := ⟨NoAttr.taker n15a, _, _, _, _, _, _, _, _, _, _, _, _, _, _, lB15, cB15⟩
  have Y16 : ClsF K CM C16 := ⟨xC16, ga16, gg16, ca16⟩
  have gC16 := PySem.W.mg_of X G aC16
  have T16 := errC Y16 gC16 ws16 wi16 lB16
  have V16 : MqV_thing.Fn K "BadRow.__init__" C16 F16 := ⟨NoAttr.taker n16a, _, _, _, _, _, _, _, _, _, _, _, _, _, _, lB16, cB16⟩
  have Y17 : ClsF K CM C17 := ⟨xC17, ga17, gg17, ca17⟩
  have gC17 := PySem.W.mg_of X G aC17
  have T17 := errC Y17 gC17 ws17 wi17 lB17
  have V17 : MqV_place.Fn K "BadPlace.__init__" C17 F17 := ⟨NoAttr.taker n17a, _, _, _, _, _, _, _, _, _, _, _, _, _, _, lB17, cB17⟩
  have Y18 : ClsF K CM C18 := ⟨xC18, ga18, gg18, ca18⟩
  have gC18 := PySem.W.mg_of X G aC18
  have T18 := errC Y18 gC18 ws18 wi18 lB18
  have V18 : MqV_part.Fn K "Full.__init__" C18 F18 := ⟨NoAttr.taker n18a, _, _, _, _, _, _, _, _, _, _, _, _, _, _, lB18, cB18⟩
  have Y19 : ClsF K CM C19 := ⟨xC19, ga19, gg19, ca19⟩
  have gC19 := PySem.W.mg_of X G aC19
  have T19 := errC Y19 gC19 ws19 wi19 lB19
  have V19 : MqV_number.Fn K "NoHand.__init__" C19 F19 := ⟨NoAttr.taker n19a, _, _, _, _, _, _, _, _, _, _, _, _, _, _, lB19, cB19⟩
  have Y20 : ClsF K CM C20 := ⟨xC20, ga20, gg20, ca20⟩
  have gC20 := PySem.W.mg_of X G aC20
  have T20 := errC Y20 gC20 ws20 wi20 lB20
  have V20 : MqV_number.Fn K "Waits.__init__" C20 F20 := ⟨NoAttr.taker n20a, _, _, _, _, _, _, _, _, _, _, _, _, _, _, lB20, cB20⟩
  have Y21 : ClsF K CM C21 := ⟨xC21, ga21, gg21, ca21⟩
  have gC21 := PySem.W.mg_of X G aC21
  have T21 := errC Y21 gC21 ws21 wi21 lB21
  have V21 : MqV_thing.Fn K "BadDeed.__init__" C21 F21 := ⟨NoAttr.taker n21a, _, _, _, _, _, _, _, _, _, _, _, _, _, _, lB21, cB21⟩
  have Y22 : ClsF K CM C22 := ⟨xC22, ga22, gg22, ca22⟩
  have gC22 := PySem.W.mg_of X G aC22
  have T22 := errC Y22 gC22 ws22 wi22 lB22
  have V22 : MqV_number.Fn K "NoWish.__init__" C22 F22 := ⟨NoAttr.taker n22a, _, _, _, _, _, _, _, _, _, _, _, _, _, _, lB22, cB22⟩
  have Y23 : ClsF K CM C23 := ⟨xC23, ga23, gg23, ca23⟩
  have gC23 := PySem.W.mg_of X G aC23
  have T23 := errC Y23 gC23 ws23 wi23 lB23
  have V23 : MqV_name.Fn K "BadName.__init__" C23 F23 := ⟨NoAttr.taker n23a, _, _, _, _, _, _, _, _, _, _, _, _, _, _, lB23, cB23⟩
  have Y24 : ClsF K CM C24 := ⟨xC24, ga24, gg24, ca24⟩
  have gC24 := PySem.W.mg_of X G aC24
  have T24 := errC Y24 gC24 ws24 wi24 lB24
  have V24 : MqV_name.Fn K "NoName.__init__" C24 F24 := ⟨NoAttr.taker n24a, _, _, _, _, _, _, _, _, _, _, _, _, _, _, lB24, cB24⟩
  have Y25 : ClsF K CM C25 := ⟨xC25, ga25, gg25, ca25⟩
  have gC25 := PySem.W.mg_of X G aC25
  have T25 := errC Y25 gC25 ws25 wi25 lB25
  have V25 : MqV_thing.Fn K "BadPromise.__init__" C25 F25 := ⟨NoAttr.taker n25a, _, _, _, _, _, _, _, _, _, _, _, _, _, _, lB25, cB25⟩
  have Y26 : ClsF K CM C26 := ⟨xC26, ga26, gg26, ca26⟩
  have gC26 := PySem.W.mg_of X G aC26
  have T26 := errC Y26 gC26 ws26 wi26 lB26
  have V26 : MqV_web_further.Fn K "Merged.__init__" C26 F26 := ⟨NoAttr.taker n26a, NoAttr.taker n26b, _, _, _, _, _, _, _, _, _, _, _, _, _, _, _, _, _, _, _, lB26, cB26⟩
  have Y27 : ClsF K CM C27 := ⟨xC27, ga27, gg27, ca27⟩
  have gC27 := PySem.W.mg_of X G aC27
  have T27 := errC Y27 gC27 ws27 wi27 lB27
  have V27 : MqV_promise_paper.Fn K "Broken.__init__" C27 F27 := ⟨NoAttr.taker n27a, NoAttr.taker n27b, _, _, _, _, _, _, _, _, _, _, _, _, _, _, _, _, _, _, _, lB27, cB27⟩
  have Y28 : ClsF K CM C28 := ⟨xC28, ga28, gg28, ca28⟩
  have gC28 := PySem.W.mg_of X G aC28
  have Y29 : ClsF K CM C29 := ⟨xC29, ga29, gg29, ca29⟩
  have gC29 := PySem.W.mg_of X G aC29
  have Y30 : ClsF K CM C30 := ⟨xC30, ga30, gg30, ca30⟩
  have gC30 := PySem.W.mg_of X G aC30
  have Y31 : ClsF K CM C31 := ⟨xC31, ga31, gg31, ca31⟩
  have gC31 := PySem.W.mg_of X G aC31
  have Y32 : ClsF K CM C32 := ⟨xC32, ga32, gg32, ca32⟩
  have gC32 := PySem.W.mg_of X G aC32
  have Y33 : ClsF K CM C33 := ⟨xC33, ga33, gg33, ca33⟩
  have gC33 := PySem.W.mg_of X G aC33
  have all : ∀ C ∈ ([C0, C1, C2, C3, C4, C5, C6, C7, C8, C9, C10, C11, C12, C13, C14, C15, C16, C17, C18, C19, C20, C21, C22, C23, C24, C25, C26, C27, C28, C29, C30, C31, C32, C33] : List Addr), ClsF K CM C := (fcons Y0 (fcons Y1 (fcons Y2 (fcons Y3 (fcons Y4 (fcons Y5 (fcons Y6 (fcons Y7 (fcons Y8 (fcons Y9 (fcons Y10 (fcons Y11 (fcons Y12 (fcons Y13 (fcons Y14 (fcons Y15 (fcons Y16 (fcons Y17 (fcons Y18 (fcons Y19 (fcons Y20 (fcons Y21 (fcons Y22 (fcons Y23 (fcons Y24 (fcons Y25 (fcons Y26 (fcons Y27 (fcons Y28 (fcons Y29 (fcons Y30 (fcons Y31 (fcons Y32 (fcons Y33 fnil))))))))))))))))))))))))))))))))))
  have nx : ∀ n : String, n ∈ ["Exception", "ValueError", "TypeError", "LookupError", "ArithmeticError", "RuntimeError", "AttributeError"] → mg (PySem.Str.ofString n) = none := fcons (PySem.W.mg_none_of X G b_Exception) (fcons (PySem.W.mg_none_of X G b_ValueError) (fcons (PySem.W.mg_none_of X G b_TypeError) (fcons (PySem.W.mg_none_of X G b_LookupError) (fcons (PySem.W.mg_none_of X G b_ArithmeticError) (fcons (PySem.W.mg_none_of X G b_RuntimeError) (fcons (PySem.W.mg_none_of X G b_AttributeError) (fnil)))))))
  have AC : AllC K mg (clO [C0, C1, C2, C3, C4, C5, C6, C7, C8, C9, C10, C11, C12, C13, C14, C15, C16, C17, C18, C19, C20, C21, C22, C23, C24, C25, C26, C27, C28, C29, C30, C31, C32, C33]) CM := allC rfl all dn h1 h2 sp tk (PySem.W.mg_of X G aM) nx
  refine ⟨PySem.W.fnOf "law" "law" (defArgs s_law) (defBody s_law) (defScope s_law) .none kV13 dc13 pm13 an13 cd13 ct13, fun s u => .of_eq rfl, fun base _ _ => ?_⟩
  have Gdec : FnOk P w K mg base CX0 1 f0 _ ["_law_script"] (spDeck K) := ok_deck U0 B
  have Gpic : FnOk P w K mg base CX0 2 f2 _ ["_law_deck_here", "_law_some"] spPick := ok_pick U2 B U1 g1 b1
  have Gnea : FnOk P w K mg base CX0 2 f3 _ ["_law_at", "_law_it_here"] (spMade (clO [C0, C1, C2, C3, C4, C5, C6, C7, C8, C9, C10, C11, C12, C13, C14, C15, C16, C17, C18, C19, C20, C21, C22, C23, C24, C25, C26, C27, C28, C29, C30, C31, C32, C33]) 0 9) := ok_near (fi := (clO [F0, F1, F2, F3, F4, F5, F6, F7, F8, F9, F10, F11, F12, F13, F14, F15, F16, F17, F18, F19, F20, F21, F22, F23, F24, F25, F26, F27, 0, 0, 0, 0, 0, 0])) U3 T0 V0 Y0.xf n0a T1 V1 Y1.xf n1a T2 V2 Y2.xf n2a T3 V3 Y3.xf n3a T4 V4 Y4.xf n4a T5 V5 Y5.xf n5a T6 V6 Y6.xf n6a T7 V7 Y7.xf n7a T8 V8 Y8.xf n8a
  have Gmid : FnOk P w K mg base CX0 2 f4 _ ["_law_at", "_law_it_here"] (spMade (clO [C0, C1, C2, C3, C4, C5, C6, C7, C8, C9, C10, C11, C12, C13, C14, C15, C16, C17, C18, C19, C20, C21, C22, C23, C24, C25, C26, C27, C28, C29, C30, C31, C32, C33]) 9 18) := ok_mid (fi := (clO [F0, F1, F2, F3, F4, F5, F6, F7, F8, F9, F10, F11, F12, F13, F14, F15, F16, F17, F18, F19, F20, F21, F22, F23, F24, F25, F26, F27, 0, 0, 0, 0, 0, 0])) U4 T9 V9 Y9.xf n9a T10 V10 Y10.xf n10a T11 V11 Y11.xf n11a T12 V12 Y12.xf n12a T13 V13 Y13.xf n13a T14 V14 Y14.xf n14a T15 V15 Y15.xf n15a T16 V16 Y16.xf n16a T17 V17 Y17.xf n17a
  have Gfar : FnOk P w K mg base CX0 2 f5 _ ["_law_at", "_law_it_here"] (spMade (clO [C0, C1, C2, C3, C4, C5, C6, C7, C8, C9, C10, C11, C12, C13, C14, C15, C16, C17, C18, C19, C20, C21, C22, C23, C24, C25, C26, C27, C28, C29, C30, C31, C32, C33]) 18 26) := ok_far (fi := (clO [F0, F1, F2, F3, F4, F5, F6, F7, F8, F9, F10, F11, F12, F13, F14, F15, F16, F17, F18, F19, F20, F21, F22, F23, F24, F25, F26, F27, 0, 0, 0, 0, 0, 0])) U5 T18 V18 Y18.xf n18a T19 V19 Y19.xf n19a T20 V20 Y20.xf n20a T21 V21 Y21.xf n21a T22 V22 Y22.xf n22a T23 V23 Y23.xf n23a T24 V24 Y24.xf n24a T25 V25 Y25.xf n25a
  have Gmad : FnOk P w K mg base CX0 3 f6 _ ["_law_at", "_law_it_here"] (spMade (clO [C0, C1, C2, C3, C4, C5, C6, C7, C8, C9, C10, C11, C12, C13, C14, C15, C16, C17, C18, C19, C20, C21, C22, C23, C24, C25, C26, C27, C28, C29, C30, C31, C32, C33]) 0 26) := ok_made U6 U3 g3 b3 Gnea U4 g4 b4 Gmid U5 g5 b5 Gfar
  have Gbot : FnG P w K mg base CX0 2 f7 _ ["_law_at", "_law_it_here", "_law_that"] (spBoth K (clO [C0, C1, C2, C3, C4, C5, C6, C7, C8, C9, C10, C11, C12, C13, C14, C15, C16, C17, C18, C19, C20, C21, C22, C23, C24, C25, C26, C27, C28, C29, C30, C31, C32, C33])) := ok_both (fi := (clO [F0, F1, F2, F3, F4, F5, F6, F7, F8, F9, F10, F11, F12, F13, F14, F15, F16, F17, F18, F19, F20, F21, F22, F23, F24, F25, F26, F27, 0, 0, 0, 0, 0, 0])) U7 B T26 V26 Y26.xf n26a n26b T27 V27 Y27.xf n27a n27b
  have Gbar : FnOk P w K mg base CX0 2 f8 _ ["_law_at"] (spBare (clO [C0, C1, C2, C3, C4, C5, C6, C7, C8, C9, C10, C11, C12, C13, C14, C15, C16, C17, C18, C19, C20, C21, C22, C23, C24, C25, C26, C27, C28, C29, C30, C31, C32, C33])) := ok_bare U8 qq28 gC28 Y28.at_.keep qq29 gC29 Y29.at_.keep qq30 gC30 Y30.at_.keep qq31 gC31 Y31.at_.keep qq32 gC32 Y32.at_.keep qq33 gC33 Y33.at_.keep
  have Gkin : FnOk P w K mg base CX0 1 f9 _ ["_law_e"] (spKinds (clO [C0, C1, C2, C3, C4, C5, C6, C7, C8, C9, C10, C11, C12, C13, C14, C15, C16, C17, C18, C19, C20, C21, C22, C23, C24, C25, C26, C27, C28, C29, C30, C31, C32, C33])) := ok_kinds U9 B AC gC0 gC1 gC2 gC3 gC4 gC5 gC6 gC7 gC8 gC9 gC10 gC11 gC12 gC13 gC14 gC15 gC16 gC17 gC18 gC19 gC20 gC21 gC22 gC23 gC24 gC25 gC26 gC27 gC28 gC29 gC30 gC31 gC32 gC33
  have Gpur : FnOk P w K mg base CX0 3 f10 _ ["_law_e", "_law_at"] (spPure (clO [C0, C1, C2, C3, C4, C5, C6, C7, C8, C9, C10, C11, C12, C13, C14, C15, C16, C17, C18, C19, C20, C21, C22, C23, C24, C25, C26, C27, C28, C29, C30, C31, C32, C33])) := ok_pure U10 B AC U9 g9 b9 Gkin
  have Git : FnOk P w K mg base CX0 3 f11 _ ["_law_deck_here"] (spIt K) := ok_it U11 U2 g2 b2 Gpic
  have Gcau : FnG P w K mg base CX0 2 f12 _ ["_law_it_here", "_law_that"] (spCaught K) := ok_caught (cl := (clO [C0, C1, C2, C3, C4, C5, C6, C7, C8, C9, C10, C11, C12, C13, C14, C15, C16, C17, C18, C19, C20, C21, C22, C23, C24, C25, C26, C27, C28, C29, C30, C31, C32, C33])) (fi := (clO [F0, F1, F2, F3, F4, F5, F6, F7, F8, F9, F10, F11, F12, F13, F14, F15, F16, F17, F18, F19, F20, F21, F22, F23, F24, F25, F26, F27, 0, 0, 0, 0, 0, 0])) U12 B AC T7 V7 (exm_mill Y7 h1 h2 h3) T27 V27 Y27.xf n27a n27b (exm_own Y27)
  exact ok_law (cl := (clO [C0, C1, C2, C3, C4, C5, C6, C7, C8, C9, C10, C11, C12, C13, C14, C15, C16, C17, C18, C19, C20, C21, C22, C23, C24, C25, C26, C27, C28, C29, C30, C31, C32, C33])) U13 B U0 g0 b0 Gdec U11 g11 b11 Git U6 g6 b6 Gmad U7 g7 b7 Gbot U8 g8 b8 Gbar U10 g10 b10 Gpur U12 g12 b12 Gcau
end Lw

namespace Lw
open PySem PySem.Spec PyProof.Rows L2 Mq
open SX (S)
def fDn : PySem.W.Frag → Bool := fun K => decide (List.Nodup ([He.ga K "MillError", He.ga K "BadBook", He.ga K "BadText", He.ga K "BadWeb", He.ga K "TooMany", He.ga K "BadReader", He.ga K "BadTeller", He.ga K "BadFan", He.ga K "BadWeft", He.ga K "TooLong", He.ga K "BadCourse", He.ga K "BadWish", He.ga K "Unsound", He.ga K "BadProgram", He.ga K "BadDuel", He.ga K "Lost", He.ga K "NoMove", He.ga K "BadRow", He.ga K "BadPlace", He.ga K "Full", He.ga K "NoHand", He.ga K "Waits", He.ga K "BadDeed", He.ga K "NoWish", He.ga K "BadName", He.ga K "NoName", He.ga K "BadPromise", He.ga K "Merged", He.ga K "Broken", He.ga K "OtherLetters", He.ga K "NotNow", He.ga K "NothingToUndo", He.ga K "NothingToRedo", He.ga K "NoMill", He.ga K "InvalidCommand"] : List Addr))
theorem dn_of {K : PySem.W.Frag} (h : fDn K = true) : List.Nodup ([He.ga K "MillError", He.ga K "BadBook", He.ga K "BadText", He.ga K "BadWeb", He.ga K "TooMany", He.ga K "BadReader", He.ga K "BadTeller", He.ga K "BadFan", He.ga K "BadWeft", He.ga K "TooLong", He.ga K "BadCourse", He.ga K "BadWish", He.ga K "Unsound", He.ga K "BadProgram", He.ga K "BadDuel", He.ga K "Lost", He.ga K "NoMove", He.ga K "BadRow", He.ga K "BadPlace", He.ga K "Full", He.ga K "NoHand", He.ga K "Waits", He.ga K "BadDeed", He.ga K "NoWish", He.ga K "BadName", He.ga K "NoName", He.ga K "BadPromise", He.ga K "Merged", He.ga K "Broken", He.ga K "OtherLetters", He.ga K "NotNow", He.ga K "NothingToUndo", He.ga K "NothingToRedo", He.ga K "NoMill", He.ga K "InvalidCommand"] : List Addr) := of_decide_eq_true h
def fnL : List He.FnD := [⟨("_law_deck", none), "_law_deck", "_law_deck", defArgs s__law_deck, defBody s__law_deck, defScope s__law_deck⟩,
  ⟨("_law_draw", none), "_law_draw", "_law_draw", defArgs s__law_draw, defBody s__law_draw, defScope s__law_draw⟩,
  ⟨("_law_pick", none), "_law_pick", "_law_pick", defArgs s__law_pick, defBody s__law_pick, defScope s__law_pick⟩,
  ⟨("_law_near", none), "_law_near", "_law_near", defArgs s__law_near, defBody s__law_near, defScope s__law_near⟩,
  ⟨("_law_mid", none), "_law_mid", "_law_mid", defArgs s__law_mid, defBody s__law_mid, defScope s__law_mid⟩,
  ⟨("_law_far", none), "_law_far", "_law_far", defArgs s__law_far, defBody s__law_far, defScope s__law_far⟩,
  ⟨("_law_made", none), "_law_made", "_law_made", defArgs s__law_made, defBody s__law_made, defScope s__law_made⟩,
  ⟨("_law_both", none), "_law_both", "_law_both", defArgs s__law_both, defBody s__law_both, defScope s__law_both⟩,
  ⟨("_law_bare", none), "_law_bare", "_law_bare", defArgs s__law_bare, defBody s__law_bare, defScope s__law_bare⟩,
  ⟨("_law_kinds", none), "_law_kinds", "_law_kinds", defArgs s__law_kinds, defBody s__law_kinds, defScope s__law_kinds⟩,
  ⟨("_law_is_pure", none), "_law_is_pure", "_law_is_pure", defArgs s__law_is_pure, defBody s__law_is_pure, defScope s__law_is_pure⟩,
  ⟨("_law_it", none), "_law_it", "_law_it", defArgs s__law_it, defBody s__law_it, defScope s__law_it⟩,
  ⟨("_law_is_caught", none), "_law_is_caught", "_law_is_caught", defArgs s__law_is_caught, defBody s__law_is_caught, defScope s__law_is_caught⟩,
  ⟨("law", none), "law", "law", defArgs s_law, defBody s_law, defScope s_law⟩,
  ⟨("BadBook", some "__init__"), "__init__", "BadBook.__init__", MqV_part.iA ⟨6, 17, 6, 21⟩ ⟨6, 23, 6, 27⟩, MqV_part.iB ⟨7, 8, 7, 12⟩ ⟨7, 8, 7, 17⟩ ⟨7, 20, 7, 24⟩ ⟨7, 8, 7, 24⟩, MqV_part.iS⟩,
  ⟨("BadText", some "__init__"), "__init__", "BadText.__init__", MqV_line.iA ⟨10, 17, 10, 21⟩ ⟨10, 23, 10, 27⟩, MqV_line.iB ⟨11, 8, 11, 12⟩ ⟨11, 8, 11, 17⟩ ⟨11, 20, 11, 24⟩ ⟨11, 8, 11, 24⟩, MqV_line.iS⟩,
  ⟨("BadWeb", some "__init__"), "__init__", "BadWeb.__init__", MqV_thing.iA ⟨14, 17, 14, 21⟩ ⟨14, 23, 14, 28⟩, MqV_thing.iB ⟨15, 8, 15, 12⟩ ⟨15, 8, 15, 18⟩ ⟨15, 21, 15, 26⟩ ⟨15, 8, 15, 26⟩, MqV_thing.iS⟩,
  ⟨("TooMany", some "__init__"), "__init__", "TooMany.__init__", MqV_most.iA ⟨20, 17, 20, 21⟩ ⟨20, 23, 20, 27⟩, MqV_most.iB ⟨21, 8, 21, 12⟩ ⟨21, 8, 21, 17⟩ ⟨21, 20, 21, 24⟩ ⟨21, 8, 21, 24⟩, MqV_most.iS⟩,
  ⟨("BadReader", some "__init__"), "__init__", "BadReader.__init__", MqV_part.iA ⟨24, 17, 24, 21⟩ ⟨24, 23, 24, 27⟩, MqV_part.iB ⟨25, 8, 25, 12⟩ ⟨25, 8, 25, 17⟩ ⟨25, 20, 25, 24⟩ ⟨25, 8, 25, 24⟩, MqV_part.iS⟩,
  ⟨("BadTeller", some "__init__"), "__init__", "BadTeller.__init__", MqV_part.iA ⟨28, 17, 28, 21⟩ ⟨28, 23, 28, 27⟩, MqV_part.iB ⟨29, 8, 29, 12⟩ ⟨29, 8, 29, 17⟩ ⟨29, 20, 29, 24⟩ ⟨29, 8, 29, 24⟩, MqV_part.iS⟩,
  ⟨("BadFan", some "__init__"), "__init__", "BadFan.__init__", MqV_part.iA ⟨32, 17, 32, 21⟩ ⟨32, 23, 32, 27⟩, MqV_part.iB ⟨33, 8, 33, 12⟩ ⟨33, 8, 33, 17⟩ ⟨33, 20, 33, 24⟩ ⟨33, 8, 33, 24⟩, MqV_part.iS⟩,
  ⟨("BadWeft", some "__init__"), "__init__", "BadWeft.__init__", MqV_thing.iA ⟨36, 17, 36, 21⟩ ⟨36, 23, 36, 28⟩, MqV_thing.iB ⟨37, 8, 37, 12⟩ ⟨37, 8, 37, 18⟩ ⟨37, 21, 37, 26⟩ ⟨37, 8, 37, 26⟩, MqV_thing.iS⟩,
  ⟨("TooLong", some "__init__"), "__init__", "TooLong.__init__", MqV_most.iA ⟨45, 17, 45, 21⟩ ⟨45, 23, 45, 27⟩, MqV_most.iB ⟨46, 8, 46, 12⟩ ⟨46, 8, 46, 17⟩ ⟨46, 20, 46, 24⟩ ⟨46, 8, 46, 24⟩, MqV_most.iS⟩,
  ⟨("BadCourse", some "__init__"), "__init__", "BadCourse.__init__", MqV_place.iA ⟨49, 17, 49, 21⟩ ⟨49, 23, 49, 28⟩, MqV_place.iB ⟨50, 8, 50, 12⟩ ⟨50, 8, 50, 18⟩ ⟨50, 21, 50, 26⟩ ⟨50, 8, 50, 26⟩, MqV_place.iS⟩,
  ⟨("BadWish", some "__init__"), "__init__", "BadWish.__init__", MqV_thing.iA ⟨53, 17, 53, 21⟩ ⟨53, 23, 53, 28⟩, MqV_thing.iB ⟨54, 8, 54, 12⟩ ⟨54, 8, 54, 18⟩ ⟨54, 21, 54, 26⟩ ⟨54, 8, 54, 26⟩, MqV_thing.iS⟩,
  ⟨("Unsound", some "__init__"), "__init__", "Unsound.__init__", MqV_outcome.iA ⟨57, 17, 57, 21⟩ ⟨57, 23, 57, 30⟩, MqV_outcome.iB ⟨58, 8, 58, 12⟩ ⟨58, 8, 58, 20⟩ ⟨58, 23, 58, 30⟩ ⟨58, 8, 58, 30⟩, MqV_outcome.iS⟩,
  ⟨("BadProgram", some "__init__"), "__init__", "BadProgram.__init__", MqV_part.iA ⟨61, 17, 61, 21⟩ ⟨61, 23, 61, 27⟩, MqV_part.iB ⟨62, 8, 62, 12⟩ ⟨62, 8, 62, 17⟩ ⟨62, 20, 62, 24⟩ ⟨62, 8, 62, 24⟩, MqV_part.iS⟩,
  ⟨("BadDuel", some "__init__"), "__init__", "BadDuel.__init__", MqV_part.iA ⟨65, 17, 65, 21⟩ ⟨65, 23, 65, 27⟩, MqV_part.iB ⟨66, 8, 66, 12⟩ ⟨66, 8, 66, 17⟩ ⟨66, 20, 66, 24⟩ ⟨66, 8, 66, 24⟩, MqV_part.iS⟩,
  ⟨("Lost", some "__init__"), "__init__", "Lost.__init__", MqV_paper.iA ⟨69, 17, 69, 21⟩ ⟨69, 23, 69, 28⟩, MqV_paper.iB ⟨70, 8, 70, 12⟩ ⟨70, 8, 70, 18⟩ ⟨70, 21, 70, 26⟩ ⟨70, 8, 70, 26⟩, MqV_paper.iS⟩,
  ⟨("NoMove", some "__init__"), "__init__", "NoMove.__init__", MqV_letter.iA ⟨75, 17, 75, 21⟩ ⟨75, 23, 75, 29⟩, MqV_letter.iB ⟨76, 8, 76, 12⟩ ⟨76, 8, 76, 19⟩ ⟨76, 22, 76, 28⟩ ⟨76, 8, 76, 28⟩, MqV_letter.iS⟩,
  ⟨("BadRow", some "__init__"), "__init__", "BadRow.__init__", MqV_thing.iA ⟨83, 17, 83, 21⟩ ⟨83, 23, 83, 28⟩, MqV_thing.iB ⟨84, 8, 84, 12⟩ ⟨84, 8, 84, 18⟩ ⟨84, 21, 84, 26⟩ ⟨84, 8, 84, 26⟩, MqV_thing.iS⟩,
  ⟨("BadPlace", some "__init__"), "__init__", "BadPlace.__init__", MqV_place.iA ⟨87, 17, 87, 21⟩ ⟨87, 23, 87, 28⟩, MqV_place.iB ⟨88, 8, 88, 12⟩ ⟨88, 8, 88, 18⟩ ⟨88, 21, 88, 26⟩ ⟨88, 8, 88, 26⟩, MqV_place.iS⟩,
  ⟨("Full", some "__init__"), "__init__", "Full.__init__", MqV_part.iA ⟨91, 17, 91, 21⟩ ⟨91, 23, 91, 27⟩, MqV_part.iB ⟨92, 8, 92, 12⟩ ⟨92, 8, 92, 17⟩ ⟨92, 20, 92, 24⟩ ⟨92, 8, 92, 24⟩, MqV_part.iS⟩,
  ⟨("NoHand", some "__init__"), "__init__", "NoHand.__init__", MqV_number.iA ⟨95, 17, 95, 21⟩ ⟨95, 23, 95, 29⟩, MqV_number.iB ⟨96, 8, 96, 12⟩ ⟨96, 8, 96, 19⟩ ⟨96, 22, 96, 28⟩ ⟨96, 8, 96, 28⟩, MqV_number.iS⟩,
  ⟨("Waits", some "__init__"), "__init__", "Waits.__init__", MqV_number.iA ⟨99, 17, 99, 21⟩ ⟨99, 23, 99, 29⟩, MqV_number.iB ⟨100, 8, 100, 12⟩ ⟨100, 8, 100, 19⟩ ⟨100, 22, 100, 28⟩ ⟨100, 8, 100, 28⟩, MqV_number.iS⟩,
  ⟨("BadDeed", some "__init__"), "__init__", "BadDeed.__init__", MqV_thing.iA ⟨103, 17, 103, 21⟩ ⟨103, 23, 103, 28⟩, MqV_thing.iB ⟨104, 8, 104, 12⟩ ⟨104, 8, 104, 18⟩ ⟨104, 21, 104, 26⟩ ⟨104, 8, 104, 26⟩, MqV_thing.iS⟩,
  ⟨("NoWish", some "__init__"), "__init__", "NoWish.__init__", MqV_number.iA ⟨107, 17, 107, 21⟩ ⟨107, 23, 107, 29⟩, MqV_number.iB ⟨108, 8, 108, 12⟩ ⟨108, 8, 108, 19⟩ ⟨108, 22, 108, 28⟩ ⟨108, 8, 108, 28⟩, MqV_number.iS⟩,
  ⟨("BadName", some "__init__"), "__init__", "BadName.__init__", MqV_name.iA ⟨111, 17, 111, 21⟩ ⟨111, 23, 111, 27⟩, MqV_name.iB ⟨112, 8, 112, 12⟩ ⟨112, 8, 112, 17⟩ ⟨112, 20, 112, 24⟩ ⟨112, 8, 112, 24⟩, MqV_name.iS⟩,
  ⟨("NoName", some "__init__"), "__init__", "NoName.__init__", MqV_name.iA ⟨115, 17, 115, 21⟩ ⟨115, 23, 115, 27⟩, MqV_name.iB ⟨116, 8, 116, 12⟩ ⟨116, 8, 116, 17⟩ ⟨116, 20, 116, 24⟩ ⟨116, 8, 116, 24⟩, MqV_name.iS⟩,
  ⟨("BadPromise", some "__init__"), "__init__", "BadPromise.__init__", MqV_thing.iA ⟨119, 17, 119, 21⟩ ⟨119, 23, 119, 28⟩, MqV_thing.iB ⟨120, 8, 120, 12⟩ ⟨120, 8, 120, 18⟩ ⟨120, 21, 120, 26⟩ ⟨120, 8, 120, 26⟩, MqV_thing.iS⟩,
  ⟨("Merged", some "__init__"), "__init__", "Merged.__init__", MqV_web_further.iA ⟨40, 17, 40, 21⟩ ⟨40, 23, 40, 26⟩ ⟨40, 28, 40, 35⟩, MqV_web_further.iB ⟨41, 8, 41, 12⟩ ⟨41, 8, 41, 16⟩ ⟨41, 19, 41, 22⟩ ⟨41, 8, 41, 22⟩ ⟨42, 8, 42, 12⟩ ⟨42, 8, 42, 20⟩ ⟨42, 23, 42, 30⟩ ⟨42, 8, 42, 30⟩, MqV_web_further.iS⟩,
  ⟨("Broken", some "__init__"), "__init__", "Broken.__init__", MqV_promise_paper.iA ⟨123, 17, 123, 21⟩ ⟨123, 23, 123, 30⟩ ⟨123, 32, 123, 37⟩, MqV_promise_paper.iB ⟨124, 8, 124, 12⟩ ⟨124, 8, 124, 20⟩ ⟨124, 23, 124, 30⟩ ⟨124, 8, 124, 30⟩ ⟨125, 8, 125, 12⟩ ⟨125, 8, 125, 18⟩ ⟨125, 21, 125, 26⟩ ⟨125, 8, 125, 26⟩, MqV_promise_paper.iS⟩]
def fs0 : List (PySem.W.Frag → Bool) := [fGlo "MillError",
  fGlo "BadBook",
  fGlo "BadText",
  fGlo "BadWeb",
  fGlo "TooMany",
  fGlo "BadReader",
  fGlo "BadTeller",
  fGlo "BadFan",
  fGlo "BadWeft",
  fGlo "TooLong",
  fGlo "BadCourse",
  fGlo "BadWish",
  fGlo "Unsound",
  fGlo "BadProgram",
  fGlo "BadDuel",
  fGlo "Lost",
  fGlo "NoMove",
  fGlo "BadRow",
  fGlo "BadPlace",
  fGlo "Full",
  fGlo "NoHand",
  fGlo "Waits",
  fGlo "BadDeed",
  fGlo "NoWish",
  fGlo "BadName",
  fGlo "NoName",
  fGlo "BadPromise",
  fGlo "Merged",
  fGlo "Broken",
  fGlo "OtherLetters"]
def fs1 : List (PySem.W.Frag → Bool) := [fGlo "NotNow",
  fGlo "NothingToUndo",
  fGlo "NothingToRedo",
  fGlo "NoMill",
  fGlo "InvalidCommand",
  fDn,
  fCls "BadBook",
  fFind "BadBook" "__getattribute__" (some (.builtin "BaseException.__getattribute__")),
  fFind "BadBook" "__getattr__" none,
  fFind "BadBook" "__class__" (some (.builtin "object.__class__")),
  fInit "BadBook",
  fFind "BadBook" "__setattr__" (some (.builtin "object.__setattr__")),
  fFind "BadBook" "part" none,
  fFn "BadBook",
  fCls "BadText",
  fFind "BadText" "__getattribute__" (some (.builtin "BaseException.__getattribute__")),
  fFind "BadText" "__getattr__" none,
  fFind "BadText" "__class__" (some (.builtin "object.__class__")),
  fInit "BadText",
  fFind "BadText" "__setattr__" (some (.builtin "object.__setattr__")),
  fFind "BadText" "line" none,
  fFn "BadText",
  fCls "BadWeb",
  fFind "BadWeb" "__getattribute__" (some (.builtin "BaseException.__getattribute__")),
  fFind "BadWeb" "__getattr__" none,
  fFind "BadWeb" "__class__" (some (.builtin "object.__class__")),
  fInit "BadWeb",
  fFind "BadWeb" "__setattr__" (some (.builtin "object.__setattr__")),
  fFind "BadWeb" "thing" none,
  fFn "BadWeb"]
def fs2 : List (PySem.W.Frag → Bool) := [fCls "TooMany",
  fFind "TooMany" "__getattribute__" (some (.builtin "BaseException.__getattribute__")),
  fFind "TooMany" "__getattr__" none,
  fFind "TooMany" "__class__" (some (.builtin "object.__class__")),
  fInit "TooMany",
  fFind "TooMany" "__setattr__" (some (.builtin "object.__setattr__")),
  fFind "TooMany" "most" none,
  fFn "TooMany",
  fCls "BadReader",
  fFind "BadReader" "__getattribute__" (some (.builtin "BaseException.__getattribute__")),
  fFind "BadReader" "__getattr__" none,
  fFind "BadReader" "__class__" (some (.builtin "object.__class__")),
  fInit "BadReader",
  fFind "BadReader" "__setattr__" (some (.builtin "object.__setattr__")),
  fFind "BadReader" "part" none,
  fFn "BadReader",
  fCls "BadTeller",
  fFind "BadTeller" "__getattribute__" (some (.builtin "BaseException.__getattribute__")),
  fFind "BadTeller" "__getattr__" none,
  fFind "BadTeller" "__class__" (some (.builtin "object.__class__")),
  fInit "BadTeller",
  fFind "BadTeller" "__setattr__" (some (.builtin "object.__setattr__")),
  fFind "BadTeller" "part" none,
  fFn "BadTeller",
  fCls "BadFan",
  fFind "BadFan" "__getattribute__" (some (.builtin "BaseException.__getattribute__")),
  fFind "BadFan" "__getattr__" none,
  fFind "BadFan" "__class__" (some (.builtin "object.__class__")),
  fInit "BadFan",
  fFind "BadFan" "__setattr__" (some (.builtin "object.__setattr__"))]
def fs3 : List (PySem.W.Frag → Bool) := [fFind "BadFan" "part" none,
  fFn "BadFan",
  fCls "BadWeft",
  fFind "BadWeft" "__getattribute__" (some (.builtin "BaseException.__getattribute__")),
  fFind "BadWeft" "__getattr__" none,
  fFind "BadWeft" "__class__" (some (.builtin "object.__class__")),
  fInit "BadWeft",
  fFind "BadWeft" "__setattr__" (some (.builtin "object.__setattr__")),
  fFind "BadWeft" "thing" none,
  fFn "BadWeft",
  fCls "TooLong",
  fFind "TooLong" "__getattribute__" (some (.builtin "BaseException.__getattribute__")),
  fFind "TooLong" "__getattr__" none,
  fFind "TooLong" "__class__" (some (.builtin "object.__class__")),
  fInit "TooLong",
  fFind "TooLong" "__setattr__" (some (.builtin "object.__setattr__")),
  fFind "TooLong" "most" none,
  fFn "TooLong",
  fCls "BadCourse",
  fFind "BadCourse" "__getattribute__" (some (.builtin "BaseException.__getattribute__")),
  fFind "BadCourse" "__getattr__" none,
  fFind "BadCourse" "__class__" (some (.builtin "object.__class__")),
  fInit "BadCourse",
  fFind "BadCourse" "__setattr__" (some (.builtin "object.__setattr__")),
  fFind "BadCourse" "place" none,
  fFn "BadCourse",
  fCls "BadWish",
  fFind "BadWish" "__getattribute__" (some (.builtin "BaseException.__getattribute__")),
  fFind "BadWish" "__getattr__" none,
  fFind "BadWish" "__class__" (some (.builtin "object.__class__"))]
def fs4 : List (PySem.W.Frag → Bool) := [fInit "BadWish",
  fFind "BadWish" "__setattr__" (some (.builtin "object.__setattr__")),
  fFind "BadWish" "thing" none,
  fFn "BadWish",
  fCls "Unsound",
  fFind "Unsound" "__getattribute__" (some (.builtin "BaseException.__getattribute__")),
  fFind "Unsound" "__getattr__" none,
  fFind "Unsound" "__class__" (some (.builtin "object.__class__")),
  fInit "Unsound",
  fFind "Unsound" "__setattr__" (some (.builtin "object.__setattr__")),
  fFind "Unsound" "outcome" none,
  fFn "Unsound",
  fCls "BadProgram",
  fFind "BadProgram" "__getattribute__" (some (.builtin "BaseException.__getattribute__")),
  fFind "BadProgram" "__getattr__" none,
  fFind "BadProgram" "__class__" (some (.builtin "object.__class__")),
  fInit "BadProgram",
  fFind "BadProgram" "__setattr__" (some (.builtin "object.__setattr__")),
  fFind "BadProgram" "part" none,
  fFn "BadProgram",
  fCls "BadDuel",
  fFind "BadDuel" "__getattribute__" (some (.builtin "BaseException.__getattribute__")),
  fFind "BadDuel" "__getattr__" none,
  fFind "BadDuel" "__class__" (some (.builtin "object.__class__")),
  fInit "BadDuel",
  fFind "BadDuel" "__setattr__" (some (.builtin "object.__setattr__")),
  fFind "BadDuel" "part" none,
  fFn "BadDuel",
  fCls "Lost",
  fFind "Lost" "__getattribute__" (some (.builtin "BaseException.__getattribute__"))]
def fs5 : List (PySem.W.Frag → Bool) := [fFind "Lost" "__getattr__" none,
  fFind "Lost" "__class__" (some (.builtin "object.__class__")),
  fInit "Lost",
  fFind "Lost" "__setattr__" (some (.builtin "object.__setattr__")),
  fFind "Lost" "paper" none,
  fFn "Lost",
  fCls "NoMove",
  fFind "NoMove" "__getattribute__" (some (.builtin "BaseException.__getattribute__")),
  fFind "NoMove" "__getattr__" none,
  fFind "NoMove" "__class__" (some (.builtin "object.__class__")),
  fInit "NoMove",
  fFind "NoMove" "__setattr__" (some (.builtin "object.__setattr__")),
  fFind "NoMove" "letter" none,
  fFn "NoMove",
  fCls "BadRow",
  fFind "BadRow" "__getattribute__" (some (.builtin "BaseException.__getattribute__")),
  fFind "BadRow" "__getattr__" none,
  fFind "BadRow" "__class__" (some (.builtin "object.__class__")),
  fInit "BadRow",
  fFind "BadRow" "__setattr__" (some (.builtin "object.__setattr__")),
  fFind "BadRow" "thing" none,
  fFn "BadRow",
  fCls "BadPlace",
  fFind "BadPlace" "__getattribute__" (some (.builtin "BaseException.__getattribute__")),
  fFind "BadPlace" "__getattr__" none,
  fFind "BadPlace" "__class__" (some (.builtin "object.__class__")),
  fInit "BadPlace",
  fFind "BadPlace" "__setattr__" (some (.builtin "object.__setattr__")),
  fFind "BadPlace" "place" none,
  fFn "BadPlace"]
def fs6 : List (PySem.W.Frag → Bool) := [fCls "Full",
  fFind "Full" "__getattribute__" (some (.builtin "BaseException.__getattribute__")),
  fFind "Full" "__getattr__" none,
  fFind "Full" "__class__" (some (.builtin "object.__class__")),
  fInit "Full",
  fFind "Full" "__setattr__" (some (.builtin "object.__setattr__")),
  fFind "Full" "part" none,
  fFn "Full",
  fCls "NoHand",
  fFind "NoHand" "__getattribute__" (some (.builtin "BaseException.__getattribute__")),
  fFind "NoHand" "__getattr__" none,
  fFind "NoHand" "__class__" (some (.builtin "object.__class__")),
  fInit "NoHand",
  fFind "NoHand" "__setattr__" (some (.builtin "object.__setattr__")),
  fFind "NoHand" "number" none,
  fFn "NoHand",
  fCls "Waits",
  fFind "Waits" "__getattribute__" (some (.builtin "BaseException.__getattribute__")),
  fFind "Waits" "__getattr__" none,
  fFind "Waits" "__class__" (some (.builtin "object.__class__")),
  fInit "Waits",
  fFind "Waits" "__setattr__" (some (.builtin "object.__setattr__")),
  fFind "Waits" "number" none,
  fFn "Waits",
  fCls "BadDeed",
  fFind "BadDeed" "__getattribute__" (some (.builtin "BaseException.__getattribute__")),
  fFind "BadDeed" "__getattr__" none,
  fFind "BadDeed" "__class__" (some (.builtin "object.__class__")),
  fInit "BadDeed",
  fFind "BadDeed" "__setattr__" (some (.builtin "object.__setattr__"))]
def fs7 : List (PySem.W.Frag → Bool) := [fFind "BadDeed" "thing" none,
  fFn "BadDeed",
  fCls "NoWish",
  fFind "NoWish" "__getattribute__" (some (.builtin "BaseException.__getattribute__")),
  fFind "NoWish" "__getattr__" none,
  fFind "NoWish" "__class__" (some (.builtin "object.__class__")),
  fInit "NoWish",
  fFind "NoWish" "__setattr__" (some (.builtin "object.__setattr__")),
  fFind "NoWish" "number" none,
  fFn "NoWish",
  fCls "BadName",
  fFind "BadName" "__getattribute__" (some (.builtin "BaseException.__getattribute__")),
  fFind "BadName" "__getattr__" none,
  fFind "BadName" "__class__" (some (.builtin "object.__class__")),
  fInit "BadName",
  fFind "BadName" "__setattr__" (some (.builtin "object.__setattr__")),
  fFind "BadName" "name" none,
  fFn "BadName",
  fCls "NoName",
  fFind "NoName" "__getattribute__" (some (.builtin "BaseException.__getattribute__")),
  fFind "NoName" "__getattr__" none,
  fFind "NoName" "__class__" (some (.builtin "object.__class__")),
  fInit "NoName",
  fFind "NoName" "__setattr__" (some (.builtin "object.__setattr__")),
  fFind "NoName" "name" none,
  fFn "NoName",
  fCls "BadPromise",
  fFind "BadPromise" "__getattribute__" (some (.builtin "BaseException.__getattribute__")),
  fFind "BadPromise" "__getattr__" none,
  fFind "BadPromise" "__class__" (some (.builtin "object.__class__"))]
def fs8 : List (PySem.W.Frag → Bool) := [fInit "BadPromise",
  fFind "BadPromise" "__setattr__" (some (.builtin "object.__setattr__")),
  fFind "BadPromise" "thing" none,
  fFn "BadPromise",
  fCls "Merged",
  fFind "Merged" "__getattribute__" (some (.builtin "BaseException.__getattribute__")),
  fFind "Merged" "__getattr__" none,
  fFind "Merged" "__class__" (some (.builtin "object.__class__")),
  fInit "Merged",
  fFind "Merged" "__setattr__" (some (.builtin "object.__setattr__")),
  fFind "Merged" "web" none,
  fFind "Merged" "further" none,
  fFn "Merged",
  fCls "Broken",
  fFind "Broken" "__getattribute__" (some (.builtin "BaseException.__getattribute__")),
  fFind "Broken" "__getattr__" none,
  fFind "Broken" "__class__" (some (.builtin "object.__class__")),
  fInit "Broken",
  fFind "Broken" "__setattr__" (some (.builtin "object.__setattr__")),
  fFind "Broken" "promise" none,
  fFind "Broken" "paper" none,
  fFn "Broken",
  fCls "OtherLetters",
  fFind "OtherLetters" "__getattribute__" (some (.builtin "BaseException.__getattribute__")),
  fFind "OtherLetters" "__getattr__" none,
  fFind "OtherLetters" "__class__" (some (.builtin "object.__class__")),
  fExc "OtherLetters",
  fCls "NotNow",
  fFind "NotNow" "__getattribute__" (some (.builtin "BaseException.__getattribute__")),
  fFind "NotNow" "__getattr__" none]
def fs9 : List (PySem.W.Frag → Bool) := [fFind "NotNow" "__class__" (some (.builtin "object.__class__")),
  fExc "NotNow",
  fCls "NothingToUndo",
  fFind "NothingToUndo" "__getattribute__" (some (.builtin "BaseException.__getattribute__")),
  fFind "NothingToUndo" "__getattr__" none,
  fFind "NothingToUndo" "__class__" (some (.builtin "object.__class__")),
  fExc "NothingToUndo",
  fCls "NothingToRedo",
  fFind "NothingToRedo" "__getattribute__" (some (.builtin "BaseException.__getattribute__")),
  fFind "NothingToRedo" "__getattr__" none,
  fFind "NothingToRedo" "__class__" (some (.builtin "object.__class__")),
  fExc "NothingToRedo",
  fCls "NoMill",
  fFind "NoMill" "__getattribute__" (some (.builtin "BaseException.__getattribute__")),
  fFind "NoMill" "__getattr__" none,
  fFind "NoMill" "__class__" (some (.builtin "object.__class__")),
  fExc "NoMill",
  fCls "InvalidCommand",
  fFind "InvalidCommand" "__getattribute__" (some (.builtin "BaseException.__getattribute__")),
  fFind "InvalidCommand" "__getattr__" none,
  fFind "InvalidCommand" "__class__" (some (.builtin "object.__class__")),
  fExc "InvalidCommand",
  (fun K => PySem.W.isClsIn K (He.ga K "MillError")),
  (fun K => decide (PySem.W.typeIn K (.ref (He.ga K "MillError")) = some (.type "type"))),
  (fun K => decide (PySem.W.subIn K (.ref (He.ga K "MillError")) (.type "BaseException") = some true)),
  (fun K => He.eqO (PySem.W.specialIn K (.builtin "object.__class__") "__get__") (some (some (.builtin "getset_descriptor.__get__")))),
  (fun K => decide (PySem.W.takesIn K (.builtin "object.__class__") = some true)),
  fGlo "_law_deck",
  fGlo "_law_draw",
  fGlo "_law_pick"]
def fs10 : List (PySem.W.Frag → Bool) := [fGlo "_law_near",
  fGlo "_law_mid",
  fGlo "_law_far",
  fGlo "_law_made",
  fGlo "_law_both",
  fGlo "_law_bare",
  fGlo "_law_kinds",
  fGlo "_law_is_pure",
  fGlo "_law_it",
  fGlo "_law_is_caught",
  fGlo "law",
  fFree "len",
  fFree "range",
  fFree "isinstance",
  fFree "all",
  fFree "any",
  fFree "int",
  fFree "str",
  fFree "bool",
  fFree "tuple",
  fFree "list",
  fFree "repr",
  fFree "enumerate",
  fFree "Exception",
  fFree "ValueError",
  fFree "TypeError",
  fFree "LookupError",
  fFree "ArithmeticError",
  fFree "RuntimeError",
  fFree "AttributeError"]
def fsL : List (PySem.W.Frag → Bool) := fs0 ++ fs1 ++ fs2 ++ fs3 ++ fs4 ++ fs5 ++ fs6 ++ fs7 ++ fs8 ++ fs9 ++ fs10
theorem facts {P : Program} {w : World} {K : PySem.W.Frag} {h : Heap} {mg : Str → Option Value} {fa : Addr} (X : K.In h) (G : h.Ns mainGlobals mg) (hfa : mg ("law" : Str) = some (.ref fa)) (c : He.SaysE [] fnL K) (hx : exB fsL K = true) :
    ∃ fd : FuncData, (∀ (s : Shared) (u : Value), BindsTo s fd ⟨[u], []⟩ [("_law_script", u)]) ∧ ∀ base : Heap, K.In base → base.Ns mainGlobals mg → FnG P w K mg base CX0 4 fa fd ["_law_script"] (spLaw K) := by
  obtain ⟨_, _, _, _, _, _, _, _, _, l0, c0⟩ := c.def_ 0 rfl
  obtain ⟨_, _, _, _, _, _, _, _, _, l1, c1⟩ := c.def_ 1 rfl
  obtain ⟨_, _, _, _, _, _, _, _, _, l2, c2⟩ := c.def_ 2 rfl
  obtain ⟨_, _, _, _, _, _, _, _, _, l3, c3⟩ := c.def_ 3 rfl
  obtain ⟨_, _, _, _, _, _, _, _, _, l4, c4⟩ := c.def_ 4 rfl
  obtain ⟨_, _, _, _, _, _, _, _, _, l5, c5⟩ := c.def_ 5 rfl
  obtain ⟨_, _, _, _, _, _, _, _, _, l6, c6⟩ := c.def_ 6 rfl
  obtain ⟨_, _, _, _, _, _, _, _, _, l7, c7⟩ := c.def_ 7 rfl
  obtain ⟨_, _, _, _, _, _, _, _, _, l8, c8⟩ := c.def_ 8 rfl
  obtain ⟨_, _, _, _, _, _, _, _, _, l9, c9⟩ := c.def_ 9 rfl
  obtain ⟨_, _, _, _, _, _, _, _, _, l10, c10⟩ := c.def_ 10 rfl
  obtain ⟨_, _, _, _, _, _, _, _, _, l11, c11⟩ := c.def_ 11 rfl
  obtain ⟨_, _, _, _, _, _, _, _, _, l12, c12⟩ := c.def_ 12 rfl
  obtain ⟨_, _, _, _, _, _, _, _, _, l13, c13⟩ := c.def_ 13 rfl
  obtain ⟨_, _, _, _, _, _, _, _, _, lB0, cB0⟩ := c.def_ 14 rfl
  obtain ⟨rfl, rfl⟩ := fnB_ok (exAt hx 43 (f := fFn "BadBook") rfl) lB0
  obtain ⟨_, _, _, _, _, _, _, _, _, lB1, cB1⟩ := c.def_ 15 rfl
  obtain ⟨rfl, rfl⟩ := fnB_ok (exAt hx 51 (f := fFn "BadText") rfl) lB1
  obtain ⟨_, _, _, _, _, _, _, _, _, lB2, cB2⟩ := c.def_ 16 rfl
  obtain ⟨rfl, rfl⟩ := fnB_ok (exAt hx 59 (f := fFn "BadWeb") rfl) lB2
  obtain ⟨_, _, _, _, _, _, _, _, _, lB3, cB3⟩ := c.def_ 17 rfl
  obtain ⟨rfl, rfl⟩ := fnB_ok (exAt hx 67 (f := fFn "TooMany") rfl) lB3
  obtain ⟨_, _, _, _, _, _, _, _, _, lB4, cB4⟩ := c.def_ 18 rfl
  obtain ⟨rfl, rfl⟩ := fnB_ok (exAt hx 75 (f := fFn "BadReader") rfl) lB4
  obtain ⟨_, _, _, _, _, _, _, _, _, lB5, cB5⟩ := c.def_ 19 rfl
  obtain ⟨rfl, rfl⟩ := fnB_ok (exAt hx 83 (f := fFn "BadTeller") rfl) lB5
  obtain ⟨_, _, _, _, _, _, _, _, _, lB6, cB6⟩ := c.def_ 20 rfl
  obtain ⟨rfl, rfl⟩ := fnB_ok (exAt hx 91 (f := fFn "BadFan") rfl) lB6
  obtain ⟨_, _, _, _, _, _, _, _, _, lB7, cB7⟩ := c.def_ 21 rfl
  obtain ⟨rfl, rfl⟩ := fnB_ok (exAt hx 99 (f := fFn "BadWeft") rfl) lB7
  obtain ⟨_, _, _, _, _, _, _, _, _, lB8, cB8⟩ := c.def_ 22 rfl
  obtain ⟨rfl, rfl⟩ := fnB_ok (exAt hx 107 (f := fFn "TooLong") rfl) lB8
  obtain ⟨_, _, _, _, _, _, _, _, _, lB9, cB9⟩ := c.def_ 23 rfl
  obtain ⟨rfl, rfl⟩ := fnB_ok (exAt hx 115 (f := fFn "BadCourse") rfl) lB9
  obtain ⟨_, _, _, _, _, _, _, _, _, lB10, cB10⟩ := c.def_ 24 rfl
  obtain ⟨rfl, rfl⟩ := fnB_ok (exAt hx 123 (f := fFn "BadWish") rfl) lB10
  obtain ⟨_, _, _, _, _, _, _, _, _, lB11, cB11⟩ := c.def_ 25 rfl
  obtain ⟨rfl, rfl⟩ := fnB_ok (exAt hx 131 (f := fFn "Unsound") rfl) lB11
  obtain ⟨_, _, _, _, _, _, _, _, _, lB12, cB12⟩ := c.def_ 26 rfl
  obtain ⟨rfl, rfl⟩ := fnB_ok (exAt hx 139 (f := fFn "BadProgram") rfl) lB12
  obtain ⟨_, _, _, _, _, _, _, _, _, lB13, cB13⟩ := c.def_ 27 rfl
  obtain ⟨rfl, rfl⟩ := fnB_ok (exAt hx 147 (f := fFn "BadDuel") rfl) lB13
  obtain ⟨_, _, _, _, _, _, _, _, _, lB14, cB14⟩ := c.def_ 28 rfl
  obtain ⟨rfl, rfl⟩ := fnB_ok (exAt hx 155 (f := fFn "Lost") rfl) lB14
  obtain ⟨_, _, _, _, _, _, _, _, _, lB15, cB15⟩ := c.def_ 29 rfl
  obtain ⟨rfl, rfl⟩ := fnB_ok (exAt hx 163 (f := fFn "NoMove") rfl) lB15
  obtain ⟨_, _, _, _, _, _, _, _, _, lB16, cB16⟩ := c.def_ 30 rfl
  obtain ⟨rfl, rfl⟩ := fnB_ok (exAt hx 171 (f := fFn "BadRow") rfl) lB16
  obtain ⟨_, _, _, _, _, _, _, _, _, lB17, cB17⟩ := c.def_ 31 rfl
  obtain ⟨rfl, rfl⟩ := fnB_ok (exAt hx 179 (f := fFn "BadPlace") rfl) lB17
  obtain ⟨_, _, _, _, _, _, _, _, _, lB18, cB18⟩ := c.def_ 32 rfl
  obtain ⟨rfl, rfl⟩ := fnB_ok (exAt hx 187 (f := fFn "Full") rfl) lB18
  obtain ⟨_, _, _, _, _, _, _, _, _, lB19, cB19⟩ := c.def_ 33 rfl
  obtain ⟨rfl, rfl⟩ := fnB_ok (exAt hx 195 (f := fFn "NoHand") rfl) lB19
  obtain ⟨_, _, _, _, _, _, _, _, _, lB20, cB20⟩ := c.def_ 34 rfl
  obtain ⟨rfl, rfl⟩ := fnB_ok (exAt hx 203 (f := fFn "Waits") rfl) lB20
  obtain ⟨_, _, _, _, _, _, _, _, _, lB21, cB21⟩ := c.def_ 35 rfl
  obtain ⟨rfl, rfl⟩ := fnB_ok (exAt hx 211 (f := fFn "BadDeed") rfl) lB21
  obtain ⟨_, _, _, _, _, _, _, _, _, lB22, cB22⟩ := c.def_ 36 rfl
  obtain ⟨rfl, rfl⟩ := fnB_ok (exAt hx 219 (f := fFn "NoWish") rfl) lB22
  obtain ⟨_, _, _, _, _, _, _, _, _, lB23, cB23⟩ := c.def_ 37 rfl
  obtain ⟨rfl, rfl⟩ := fnB_ok (exAt hx 227 (f := fFn "BadName") rfl) lB23
  obtain ⟨_, _, _, _, _, _, _, _, _, lB24, cB24⟩ := c.def_ 38 rfl
  obtain ⟨rfl, rfl⟩ := fnB_ok (exAt hx 235 (f := fFn "NoName") rfl) lB24
  obtain ⟨_, _, _, _, _, _, _, _, _, lB25, cB25⟩ := c.def_ 39 rfl
  obtain ⟨rfl, rfl⟩ := fnB_ok (exAt hx 243 (f := fFn "BadPromise") rfl) lB25
  obtain ⟨_, _, _, _, _, _, _, _, _, lB26, cB26⟩ := c.def_ 40 rfl
  obtain ⟨rfl, rfl⟩ := fnB_ok (exAt hx 252 (f := fFn "Merged") rfl) lB26
  obtain ⟨_, _, _, _, _, _, _, _, _, lB27, cB27⟩ := c.def_ 41 rfl
  obtain ⟨rfl, rfl⟩ := fnB_ok (exAt hx 261 (f := fFn "Broken") rfl) lB27
  exact all_mk X G hfa (glo_of (exAt hx 0 (f := fGlo "MillError") rfl)) (glo_of (exAt hx 1 (f := fGlo "BadBook") rfl)) (glo_of (exAt hx 2 (f := fGlo "BadText") rfl)) (glo_of (exAt hx 3 (f := fGlo "BadWeb") rfl)) (glo_of (exAt hx 4 (f := fGlo "TooMany") rfl)) (glo_of (exAt hx 5 (f := fGlo "BadReader") rfl)) (glo_of (exAt hx 6 (f := fGlo "BadTeller") rfl)) (glo_of (exAt hx 7 (f := fGlo "BadFan") rfl)) (glo_of (exAt hx 8 (f := fGlo "BadWeft") rfl)) (glo_of (exAt hx 9 (f := fGlo "TooLong") rfl)) (glo_of (exAt hx 10 (f := fGlo "BadCourse") rfl)) (glo_of (exAt hx 11 (f := fGlo "BadWish") rfl)) (glo_of (exAt hx 12 (f := fGlo "Unsound") rfl)) (glo_of (exAt hx 13 (f := fGlo "BadProgram") rfl)) (glo_of (exAt hx 14 (f := fGlo "BadDuel") rfl)) (glo_of (exAt hx 15 (f := fGlo "Lost") rfl)) (glo_of (exAt hx 16 (f := fGlo "NoMove") rfl)) (glo_of (exAt hx 17 (f := fGlo "BadRow") rfl)) (glo_of (exAt hx 18 (f := fGlo "BadPlace") rfl)) (glo_of (exAt hx 19 (f := fGlo "Full") rfl)) (glo_of (exAt hx 20 (f := fGlo "NoHand") rfl)) (glo_of (exAt hx 21 (f := fGlo "Waits") rfl)) (glo_of (exAt hx 22 (f := fGlo "BadDeed") rfl)) (glo_of (exAt hx 23 (f := fGlo "NoWish") rfl)) (glo_of (exAt hx 24 (f := fGlo "BadName") rfl)) (glo_of (exAt hx 25 (f := fGlo "NoName") rfl)) (glo_of (exAt hx 26 (f := fGlo "BadPromise") rfl)) (glo_of (exAt hx 27 (f := fGlo "Merged") rfl)) (glo_of (exAt hx 28 (f := fGlo "Broken") rfl)) (glo_of (exAt hx 29 (f := fGlo "OtherLetters") rfl)) (glo_of (exAt hx 30 (f := fGlo "NotNow") rfl)) (glo_of (exAt hx 31 (f := fGlo "NothingToUndo") rfl)) (glo_of (exAt hx 32 (f := fGlo "NothingToRedo") rfl)) (glo_of (exAt hx 33 (f := fGlo "NoMill") rfl)) (glo_of (exAt hx 34 (f := fGlo "InvalidCommand") rfl)) (dn_of (exAt hx 35 (f := fDn) rfl)) (cls_of (exAt hx 36 (f := fCls "BadBook") rfl)) (find_of (exAt hx 37 (f := fFind "BadBook" "__getattribute__" (some (.builtin "BaseException.__getattribute__"))) rfl)) (find_of (exAt hx 38 (f := fFind "BadBook" "__getattr__" none) rfl)) (find_of (exAt hx 39 (f := fFind "BadBook" "__class__" (some (.builtin "object.__class__"))) rfl)) (init_of (exAt hx 40 (f := fInit "BadBook") rfl)) (find_of (exAt hx 41 (f := fFind "BadBook" "__setattr__" (some (.builtin "object.__setattr__"))) rfl)) (find_of (exAt hx 42 (f := fFind "BadBook" "part" none) rfl)) lB0 cB0 (cls_of (exAt hx 44 (f := fCls "BadText") rfl)) (find_of (exAt hx 45 (f := fFind "BadText" "__getattribute__" (some (.builtin "BaseException.__getattribute__"))) rfl)) (find_of (exAt hx 46 (f := fFind "BadText" "__getattr__" none) rfl)) (find_of (exAt hx 47 (f := fFind "BadText" "__class__" (some (.builtin "object.__class__"))) rfl)) (init_of (exAt hx 48 (f := fInit "BadText") rfl)) (find_of (exAt hx 49 (f := fFind "BadText" "__setattr__" (some (.builtin "object.__setattr__"))) rfl)) (find_of (exAt hx 50 (f := fFind "BadText" "line" none) rfl)) lB1 cB1 (cls_of (exAt hx 52 (f := fCls "BadWeb") rfl)) (find_of (exAt hx 53 (f := fFind "BadWeb" "__getattribute__" (some (.builtin "BaseException.__getattribute__"))) rfl)) (find_of (exAt hx 54 (f := fFind "BadWeb" "__getattr__" none) rfl)) (find_of (exAt hx 55 (f := fFind "BadWeb" "__class__" (some (.builtin "object.__class__"))) rfl)) (init_of (exAt hx 56 (f := fInit "BadWeb") rfl)) (find_of (exAt hx 57 (f := fFind "BadWeb" "__setattr__" (some (.builtin "object.__setattr__"))) rfl)) (find_of (exAt hx 58 (f := fFind "BadWeb" "thing" none) rfl)) lB2 cB2 (cls_of (exAt hx 60 (f := fCls "TooMany") rfl)) (find_of (exAt hx 61 (f := fFind "TooMany" "__getattribute__" (some (.builtin "BaseException.__getattribute__"))) rfl)) (find_of (exAt hx 62 (f := fFind "TooMany" "__getattr__" none) rfl)) (find_of (exAt hx 63 (f := fFind "TooMany" "__class__" (some (.builtin "object.__class__"))) rfl)) (init_of (exAt hx 64 (f := fInit "TooMany") rfl)) (find_of (exAt hx 65 (f := fFind "TooMany" "__setattr__" (some (.builtin "object.__setattr__"))) rfl)) (find_of (exAt hx 66 (f := fFind "TooMany" "most" none) rfl)) lB3 cB3 (cls_of (exAt hx 68 (f := fCls "BadReader") rfl)) (find_of (exAt hx 69 (f := fFind "BadReader" "__getattribute__" (some (.builtin "BaseException.__getattribute__"))) rfl)) (find_of (exAt hx 70 (f := fFind "BadReader" "__getattr__" none) rfl)) (find_of (exAt hx 71 (f := fFind "BadReader" "__class__" (some (.builtin "object.__class__"))) rfl)) (init_of (exAt hx 72 (f := fInit "BadReader") rfl)) (find_of (exAt hx 73 (f := fFind "BadReader" "__setattr__" (some (.builtin "object.__setattr__"))) rfl)) (find_of (exAt hx 74 (f := fFind "BadReader" "part" none) rfl)) lB4 cB4 (cls_of (exAt hx 76 (f := fCls "BadTeller") rfl)) (find_of (exAt hx 77 (f := fFind "BadTeller" "__getattribute__" (some (.builtin "BaseException.__getattribute__"))) rfl)) (find_of (exAt hx 78 (f := fFind "BadTeller" "__getattr__" none) rfl)) (find_of (exAt hx 79 (f := fFind "BadTeller" "__class__" (some (.builtin "object.__class__"))) rfl)) (init_of (exAt hx 80 (f := fInit "BadTeller") rfl)) (find_of (exAt hx 81 (f := fFind "BadTeller" "__setattr__" (some (.builtin "object.__setattr__"))) rfl)) (find_of (exAt hx 82 (f := fFind "BadTeller" "part" none) rfl)) lB5 cB5 (cls_of (exAt hx 84 (f := fCls "BadFan") rfl)) (find_of (exAt hx 85 (f := fFind "BadFan" "__getattribute__" (some (.builtin "BaseException.__getattribute__"))) rfl)) (find_of (exAt hx 86 (f := fFind "BadFan" "__getattr__" none) rfl)) (find_of (exAt hx 87 (f := fFind "BadFan" "__class__" (some (.builtin "object.__class__"))) rfl)) (init_of (exAt hx 88 (f := fInit "BadFan") rfl)) (find_of (exAt hx 89 (f := fFind "BadFan" "__setattr__" (some (.builtin "object.__setattr__"))) rfl)) (find_of (exAt hx 90 (f := fFind "BadFan" "part" none) rfl)) lB6 cB6 (cls_of (exAt hx 92 (f := fCls "BadWeft") rfl)) (find_of (exAt hx 93 (f := fFind "BadWeft" "__getattribute__" (some (.builtin "BaseException.__getattribute__"))) rfl)) (find_of (exAt hx 94 (f := fFind "BadWeft" "__getattr__" none) rfl)) (find_of (exAt hx 95 (f := fFind "BadWeft" "__class__" (some (.builtin "object.__class__"))) rfl)) (init_of (exAt hx 96 (f := fInit "BadWeft") rfl)) (find_of (exAt hx 97 (f := fFind "BadWeft" "__setattr__" (some (.builtin "object.__setattr__"))) rfl)) (find_of (exAt hx 98 (f := fFind "BadWeft" "thing" none) rfl)) lB7 cB7 (cls_of (exAt hx 100 (f := fCls "TooLong") rfl)) (find_of (exAt hx 101 (f := fFind "TooLong" "__getattribute__" (some (.builtin "BaseException.__getattribute__"))) rfl)) (find_of (exAt hx 102 (f := fFind "TooLong" "__getattr__" none) rfl)) (find_of (exAt hx 103 (f := fFind "TooLong" "__class__" (some (.builtin "object.__class__"))) rfl)) (init_of (exAt hx 104 (f := fInit "TooLong") rfl)) (find_of (exAt hx 105 (f := fFind "TooLong" "__setattr__" (some (.builtin "object.__setattr__"))) rfl)) (find_of (exAt hx 106 (f := fFind "TooLong" "most" none) rfl)) lB8 cB8 (cls_of (exAt hx 108 (f := fCls "BadCourse") rfl)) (find_of (exAt hx 109 (f := fFind "BadCourse" "__getattribute__" (some (.builtin "BaseException.__getattribute__"))) rfl)) (find_of (exAt hx 110 (f := fFind "BadCourse" "__getattr__" none) rfl)) (find_of (exAt hx 111 (f := fFind "BadCourse" "__class__" (some (.builtin "object.__class__"))) rfl)) (init_of (exAt hx 112 (f := fInit "BadCourse") rfl)) (find_of (exAt hx 113 (f := fFind "BadCourse" "__setattr__" (some (.builtin "object.__setattr__"))) rfl)) (find_of (exAt hx 114 (f := fFind "BadCourse" "place" none) rfl)) lB9 cB9 (cls_of (exAt hx 116 (f := fCls "BadWish") rfl)) (find_of (exAt hx 117 (f := fFind "BadWish" "__getattribute__" (some (.builtin "BaseException.__getattribute__"))) rfl)) (find_of (exAt hx 118 (f := fFind "BadWish" "__getattr__" none) rfl)) (find_of (exAt hx 119 (f := fFind "BadWish" "__class__" (some (.builtin "object.__class__"))) rfl)) (init_of (exAt hx 120 (f := fInit "BadWish") rfl)) (find_of (exAt hx 121 (f := fFind "BadWish" "__setattr__" (some (.builtin "object.__setattr__"))) rfl)) (find_of (exAt hx 122 (f := fFind "BadWish" "thing" none) rfl)) lB10 cB10 (cls_of (exAt hx 124 (f := fCls "Unsound") rfl)) (find_of (exAt hx 125 (f := fFind "Unsound" "__getattribute__" (some (.builtin "BaseException.__getattribute__"))) rfl)) (find_of (exAt hx 126 (f := fFind "Unsound" "__getattr__" none) rfl)) (find_of (exAt hx 127 (f := fFind "Unsound" "__class__" (some (.builtin "object.__class__"))) rfl)) (init_of (exAt hx 128 (f := fInit "Unsound") rfl)) (find_of (exAt hx 129 (f := fFind "Unsound" "__setattr__" (some (.builtin "object.__setattr__"))) rfl)) (find_of (exAt hx 130 (f := fFind "Unsound" "outcome" none) rfl)) lB11 cB11 (cls_of (exAt hx 132 (f := fCls "BadProgram") rfl)) (find_of (exAt hx 133 (f := fFind "BadProgram" "__getattribute__" (some (.builtin "BaseException.__getattribute__"))) rfl)) (find_of (exAt hx 134 (f := fFind "BadProgram" "__getattr__" none) rfl)) (find_of (exAt hx 135 (f := fFind "BadProgram" "__class__" (some (.builtin "object.__class__"))) rfl)) (init_of (exAt hx 136 (f := fInit "BadProgram") rfl)) (find_of (exAt hx 137 (f := fFind "BadProgram" "__setattr__" (some (.builtin "object.__setattr__"))) rfl)) (find_of (exAt hx 138 (f := fFind "BadProgram" "part" none) rfl)) lB12 cB12 (cls_of (exAt hx 140 (f := fCls "BadDuel") rfl)) (find_of (exAt hx 141 (f := fFind "BadDuel" "__getattribute__" (some (.builtin "BaseException.__getattribute__"))) rfl)) (find_of (exAt hx 142 (f := fFind "BadDuel" "__getattr__" none) rfl)) (find_of (exAt hx 143 (f := fFind "BadDuel" "__class__" (some (.builtin "object.__class__"))) rfl)) (init_of (exAt hx 144 (f := fInit "BadDuel") rfl)) (find_of (exAt hx 145 (f := fFind "BadDuel" "__setattr__" (some (.builtin "object.__setattr__"))) rfl)) (find_of (exAt hx 146 (f := fFind "BadDuel" "part" none) rfl)) lB13 cB13 (cls_of (exAt hx 148 (f := fCls "Lost") rfl)) (find_of (exAt hx 149 (f := fFind "Lost" "__getattribute__" (some (.builtin "BaseException.__getattribute__"))) rfl)) (find_of (exAt hx 150 (f := fFind "Lost" "__getattr__" none) rfl)) (find_of (exAt hx 151 (f := fFind "Lost" "__class__" (some (.builtin "object.__class__"))) rfl)) (init_of (exAt hx 152 (f := fInit "Lost") rfl)) (find_of (exAt hx 153 (f := fFind "Lost" "__setattr__" (some (.builtin "object.__setattr__"))) rfl)) (find_of (exAt hx 154 (f := fFind "Lost" "paper" none) rfl)) lB14 cB14 (cls_of (exAt hx 156 (f := fCls "NoMove") rfl)) (find_of (exAt hx 157 (f := fFind "NoMove" "__getattribute__" (some (.builtin "BaseException.__getattribute__"))) rfl)) (find_of (exAt hx 158 (f := fFind "NoMove" "__getattr__" none) rfl)) (find_of (exAt hx 159 (f := fFind "NoMove" "__class__" (some (.builtin "object.__class__"))) rfl)) (init_of (exAt hx 160 (f := fInit "NoMove") rfl)) (find_of (exAt hx 161 (f := fFind "NoMove" "__setattr__" (some (.builtin "object.__setattr__"))) rfl)) (find_of (exAt hx 162 (f := fFind "NoMove" "letter" none) rfl)) lB15 cB15 (cls_of (exAt hx 164 (f := fCls "BadRow") rfl)) (find_of (exAt hx 165 (f := fFind "BadRow" "__getattribute__" (some (.builtin "BaseException.__getattribute__"))) rfl)) (find_of (exAt hx 166 (f := fFind "BadRow" "__getattr__" none) rfl)) (find_of (exAt hx 167 (f := fFind "BadRow" "__class__" (some (.builtin "object.__class__"))) rfl)) (init_of (exAt hx 168 (f := fInit "BadRow") rfl)) (find_of (exAt hx 169 (f := fFind "BadRow" "__setattr__" (some (.builtin "object.__setattr__"))) rfl)) (find_of (exAt hx 170 (f := fFind "BadRow" "thing" none) rfl)) lB16 cB16 (cls_of (exAt hx 172 (f := fCls "BadPlace") rfl)) (find_of (exAt hx 173 (f := fFind "BadPlace" "__getattribute__" (some (.builtin "BaseException.__getattribute__"))) rfl)) (find_of (exAt hx 174 (f := fFind "BadPlace" "__getattr__" none) rfl)) (find_of (exAt hx 175 (f := fFind "BadPlace" "__class__" (some (.builtin "object.__class__"))) rfl)) (init_of (exAt hx 176 (f := fInit "BadPlace") rfl)) (find_of (exAt hx 177 (f := fFind "BadPlace" "__setattr__" (some (.builtin "object.__setattr__"))) rfl)) (find_of (exAt hx 178 (f := fFind "BadPlace" "place" none) rfl)) lB17 cB17 (cls_of (exAt hx 180 (f := fCls "Full") rfl)) (find_of (exAt hx 181 (f := fFind "Full" "__getattribute__" (some (.builtin "BaseException.__getattribute__"))) rfl)) (find_of (exAt hx 182 (f := fFind "Full" "__getattr__" none) rfl)) (find_of (exAt hx 183 (f := fFind "Full" "__class__" (some (.builtin "object.__class__"))) rfl)) (init_of (exAt hx 184 (f := fInit "Full") rfl)) (find_of (exAt hx 185 (f := fFind "Full" "__setattr__" (some (.builtin "object.__setattr__"))) rfl)) (find_of (exAt hx 186 (f := fFind "Full" "part" none) rfl)) lB18 cB18 (cls_of (exAt hx 188 (f := fCls "NoHand") rfl)) (find_of (exAt hx 189 (f := fFind "NoHand" "__getattribute__" (some (.builtin "BaseException.__getattribute__"))) rfl)) (find_of (exAt hx 190 (f := fFind "NoHand" "__getattr__" none) rfl)) (find_of (exAt hx 191 (f := fFind "NoHand" "__class__" (some (.builtin "object.__class__"))) rfl)) (init_of (exAt hx 192 (f := fInit "NoHand") rfl)) (find_of (exAt hx 193 (f := fFind "NoHand" "__setattr__" (some (.builtin "object.__setattr__"))) rfl)) (find_of (exAt hx 194 (f := fFind "NoHand" "number" none) rfl)) lB19 cB19 (cls_of (exAt hx 196 (f := fCls "Waits") rfl)) (find_of (exAt hx 197 (f := fFind "Waits" "__getattribute__" (some (.builtin "BaseException.__getattribute__"))) rfl)) (find_of (exAt hx 198 (f := fFind "Waits" "__getattr__" none) rfl)) (find_of (exAt hx 199 (f := fFind "Waits" "__class__" (some (.builtin "object.__class__"))) rfl)) (init_of (exAt hx 200 (f := fInit "Waits") rfl)) (find_of (exAt hx 201 (f := fFind "Waits" "__setattr__" (some (.builtin "object.__setattr__"))) rfl)) (find_of (exAt hx 202 (f := fFind "Waits" "number" none) rfl)) lB20 cB20 (cls_of (exAt hx 204 (f := fCls "BadDeed") rfl)) (find_of (exAt hx 205 (f := fFind "BadDeed" "__getattribute__" (some (.builtin "BaseException.__getattribute__"))) rfl)) (find_of (exAt hx 206 (f := fFind "BadDeed" "__getattr__" none) rfl)) (find_of (exAt hx 207 (f := fFind "BadDeed" "__class__" (some (.builtin "object.__class__"))) rfl)) (init_of (exAt hx 208 (f := fInit "BadDeed") rfl)) (find_of (exAt hx 209 (f := fFind "BadDeed" "__setattr__" (some (.builtin "object.__setattr__"))) rfl)) (find_of (exAt hx 210 (f := fFind "BadDeed" "thing" none) rfl)) lB21 cB21 (cls_of (exAt hx 212 (f := fCls "NoWish") rfl)) (find_of (exAt hx 213 (f := fFind "NoWish" "__getattribute__" (some (.builtin "BaseException.__getattribute__"))) rfl)) (find_of (exAt hx 214 (f := fFind "NoWish" "__getattr__" none) rfl)) (find_of (exAt hx 215 (f := fFind "NoWish" "__class__" (some (.builtin "object.__class__"))) rfl)) (init_of (exAt hx 216 (f := fInit "NoWish") rfl)) (find_of (exAt hx 217 (f := fFind "NoWish" "__setattr__" (some (.builtin "object.__setattr__"))) rfl)) (find_of (exAt hx 218 (f := fFind "NoWish" "number" none) rfl)) lB22 cB22 (cls_of (exAt hx 220 (f := fCls "BadName") rfl)) (find_of (exAt hx 221 (f := fFind "BadName" "__getattribute__" (some (.builtin "BaseException.__getattribute__"))) rfl)) (find_of (exAt hx 222 (f := fFind "BadName" "__getattr__" none) rfl)) (find_of (exAt hx 223 (f := fFind "BadName" "__class__" (some (.builtin "object.__class__"))) rfl)) (init_of (exAt hx 224 (f := fInit "BadName") rfl)) (find_of (exAt hx 225 (f := fFind "BadName" "__setattr__" (some (.builtin "object.__setattr__"))) rfl)) (find_of (exAt hx 226 (f := fFind "BadName" "name" none) rfl)) lB23 cB23 (cls_of (exAt hx 228 (f := fCls "NoName") rfl)) (find_of (exAt hx 229 (f := fFind "NoName" "__getattribute__" (some (.builtin "BaseException.__getattribute__"))) rfl)) (find_of (exAt hx 230 (f := fFind "NoName" "__getattr__" none) rfl)) (find_of (exAt hx 231 (f := fFind "NoName" "__class__" (some (.builtin "object.__class__"))) rfl)) (init_of (exAt hx 232 (f := fInit "NoName") rfl)) (find_of (exAt hx 233 (f := fFind "NoName" "__setattr__" (some (.builtin "object.__setattr__"))) rfl)) (find_of (exAt hx 234 (f := fFind "NoName" "name" none) rfl)) lB24 cB24 (cls_of (exAt hx 236 (f := fCls "BadPromise") rfl)) (find_of (exAt hx 237 (f := fFind "BadPromise" "__getattribute__" (some (.builtin "BaseException.__getattribute__"))) rfl)) (find_of (exAt hx 238 (f := fFind "BadPromise" "__getattr__" none) rfl)) (find_of (exAt hx 239 (f := fFind "BadPromise" "__class__" (some (.builtin "object.__class__"))) rfl)) (init_of (exAt hx 240 (f := fInit "BadPromise") rfl)) (find_of (exAt hx 241 (f := fFind "BadPromise" "__setattr__" (some (.builtin "object.__setattr__"))) rfl)) (find_of (exAt hx 242 (f := fFind "BadPromise" "thing" none) rfl)) lB25 cB25 (cls_of (exAt hx 244 (f := fCls "Merged") rfl)) (find_of (exAt hx 245 (f := fFind "Merged" "__getattribute__" (some (.builtin "BaseException.__getattribute__"))) rfl)) (find_of (exAt hx 246 (f := fFind "Merged" "__getattr__" none) rfl)) (find_of (exAt hx 247 (f := fFind "Merged" "__class__" (some (.builtin "object.__class__"))) rfl)) (init_of (exAt hx 248 (f := fInit "Merged") rfl)) (find_of (exAt hx 249 (f := fFind "Merged" "__setattr__" (some (.builtin "object.__setattr__"))) rfl)) (find_of (exAt hx 250 (f := fFind "Merged" "web" none) rfl)) (find_of (exAt hx 251 (f := fFind "Merged" "further" none) rfl)) lB26 cB26 (cls_of (exAt hx 253 (f := fCls "Broken") rfl)) (find_of (exAt hx 254 (f := fFind "Broken" "__getattribute__" (some (.builtin "BaseException.__getattribute__"))) rfl)) (find_of (exAt hx 255 (f := fFind "Broken" "__getattr__" none) rfl)) (find_of (exAt hx 256 (f := fFind "Broken" "__class__" (some (.builtin "object.__class__"))) rfl)) (init_of (exAt hx 257 (f := fInit "Broken") rfl)) (find_of (exAt hx 258 (f := fFind "Broken" "__setattr__" (some (.builtin "object.__setattr__"))) rfl)) (find_of (exAt hx 259 (f := fFind "Broken" "promise" none) rfl)) (find_of (exAt hx 260 (f := fFind "Broken" "paper" none) rfl)) lB27 cB27 (cls_of (exAt hx 262 (f := fCls "OtherLetters") rfl)) (find_of (exAt hx 263 (f := fFind "OtherLetters" "__getattribute__" (some (.builtin "BaseException.__getattribute__"))) rfl)) (find_of (exAt hx 264 (f := fFind "OtherLetters" "__getattr__" none) rfl)) (find_of (exAt hx 265 (f := fFind "OtherLetters" "__class__" (some (.builtin "object.__class__"))) rfl)) (exc_of (exAt hx 266 (f := fExc "OtherLetters") rfl)) (cls_of (exAt hx 267 (f := fCls "NotNow") rfl)) (find_of (exAt hx 268 (f := fFind "NotNow" "__getattribute__" (some (.builtin "BaseException.__getattribute__"))) rfl)) (find_of (exAt hx 269 (f := fFind "NotNow" "__getattr__" none) rfl)) (find_of (exAt hx 270 (f := fFind "NotNow" "__class__" (some (.builtin "object.__class__"))) rfl)) (exc_of (exAt hx 271 (f := fExc "NotNow") rfl)) (cls_of (exAt hx 272 (f := fCls "NothingToUndo") rfl)) (find_of (exAt hx 273 (f := fFind "NothingToUndo" "__getattribute__" (some (.builtin "BaseException.__getattribute__"))) rfl)) (find_of (exAt hx 274 (f := fFind "NothingToUndo" "__getattr__" none) rfl)) (find_of (exAt hx 275 (f := fFind "NothingToUndo" "__class__" (some (.builtin "object.__class__"))) rfl)) (exc_of (exAt hx 276 (f := fExc "NothingToUndo") rfl)) (cls_of (exAt hx 277 (f := fCls "NothingToRedo") rfl)) (find_of (exAt hx 278 (f := fFind "NothingToRedo" "__getattribute__" (some (.builtin "BaseException.__getattribute__"))) rfl)) (find_of (exAt hx 279 (f := fFind "NothingToRedo" "__getattr__" none) rfl)) (find_of (exAt hx 280 (f := fFind "NothingToRedo" "__class__" (some (.builtin "object.__class__"))) rfl)) (exc_of (exAt hx 281 (f := fExc "NothingToRedo") rfl)) (cls_of (exAt hx 282 (f := fCls "NoMill") rfl)) (find_of (exAt hx 283 (f := fFind "NoMill" "__getattribute__" (some (.builtin "BaseException.__getattribute__"))) rfl)) (find_of (exAt hx 284 (f := fFind "NoMill" "__getattr__" none) rfl)) (find_of (exAt hx 285 (f := fFind "NoMill" "__class__" (some (.builtin "object.__class__"))) rfl)) (exc_of (exAt hx 286 (f := fExc "NoMill") rfl)) (cls_of (exAt hx 287 (f := fCls "InvalidCommand") rfl)) (find_of (exAt hx 288 (f := fFind "InvalidCommand" "__getattribute__" (some (.builtin "BaseException.__getattribute__"))) rfl)) (find_of (exAt hx 289 (f := fFind "InvalidCommand" "__getattr__" none) rfl)) (find_of (exAt hx 290 (f := fFind "InvalidCommand" "__class__" (some (.builtin "object.__class__"))) rfl)) (exc_of (exAt hx 291 (f := fExc "InvalidCommand") rfl)) (exAt hx 292 (f := (fun K => PySem.W.isClsIn K (He.ga K "MillError"))) rfl) (of_decide_eq_true (exAt hx 293 (f := (fun K => decide (PySem.W.typeIn K (.ref (He.ga K "MillError")) = some (.type "type")))) rfl)) (of_decide_eq_true (exAt hx 294 (f := (fun K => decide (PySem.W.subIn K (.ref (He.ga K "MillError")) (.type "BaseException") = some true))) rfl)) (He.eqO_ok (exAt hx 295 (f := (fun K => He.eqO (PySem.W.specialIn K (.builtin "object.__class__") "__get__") (some (some (.builtin "getset_descriptor.__get__"))))) rfl)) (of_decide_eq_true (exAt hx 296 (f := (fun K => decide (PySem.W.takesIn K (.builtin "object.__class__") = some true))) rfl)) (glo_of (exAt hx 297 (f := fGlo "_law_deck") rfl)) l0 c0 (glo_of (exAt hx 298 (f := fGlo "_law_draw") rfl)) l1 c1 (glo_of (exAt hx 299 (f := fGlo "_law_pick") rfl)) l2 c2 (glo_of (exAt hx 300 (f := fGlo "_law_near") rfl)) l3 c3 (glo_of (exAt hx 301 (f := fGlo "_law_mid") rfl)) l4 c4 (glo_of (exAt hx 302 (f := fGlo "_law_far") rfl)) l5 c5 (glo_of (exAt hx 303 (f := fGlo "_law_made") rfl)) l6 c6 (glo_of (exAt hx 304 (f := fGlo "_law_both") rfl)) l7 c7 (glo_of (exAt hx 305 (f := fGlo "_law_bare") rfl)) l8 c8 (glo_of (exAt hx 306 (f := fGlo "_law_kinds") rfl)) l9 c9 (glo_of (exAt hx 307 (f := fGlo "_law_is_pure") rfl)) l10 c10 (glo_of (exAt hx 308 (f := fGlo "_law_it") rfl)) l11 c11 (glo_of (exAt hx 309 (f := fGlo "_law_is_caught") rfl)) l12 c12 (glo_of (exAt hx 310 (f := fGlo "law") rfl)) l13 c13 (free_of (exAt hx 311 (f := fFree "len") rfl)) (free_of (exAt hx 312 (f := fFree "range") rfl)) (free_of (exAt hx 313 (f := fFree "isinstance") rfl)) (free_of (exAt hx 314 (f := fFree "all") rfl)) (free_of (exAt hx 315 (f := fFree "any") rfl)) (free_of (exAt hx 316 (f := fFree "int") rfl)) (free_of (exAt hx 317 (f := fFree "str") rfl)) (free_of (exAt hx 318 (f := fFree "bool") rfl)) (free_of (exAt hx 319 (f := fFree "tuple") rfl)) (free_of (exAt hx 320 (f := fFree "list") rfl)) (free_of (exAt hx 321 (f := fFree "repr") rfl)) (free_of (exAt hx 322 (f := fFree "enumerate") rfl)) (free_of (exAt hx 323 (f := fFree "Exception") rfl)) (free_of (exAt hx 324 (f := fFree "ValueError") rfl)) (free_of (exAt hx 325 (f := fFree "TypeError") rfl)) (free_of (exAt hx 326 (f := fFree "LookupError") rfl)) (free_of (exAt hx 327 (f := fFree "ArithmeticError") rfl)) (free_of (exAt hx 328 (f := fFree "RuntimeError") rfl)) (free_of (exAt hx 329 (f := fFree "AttributeError") rfl))
end Lw

namespace Lw
open PySem PySem.W PySem.Calls PyProof.Rows
abbrev RR : OpenRow := OpenLaw.row PySem.Challenge.rw_millhands_k00_errors_of_any_value
def nmA : List PySem.Str := ["MillError", "BadBook", "BadText", "BadWeb", "OtherLetters", "TooMany", "BadReader", "BadTeller", "BadFan", "BadWeft", "Merged", "TooLong", "BadCourse", "BadWish", "Unsound", "BadProgram", "BadDuel", "Lost", "NotNow", "NoMove", "NothingToUndo", "NothingToRedo", "BadRow", "BadPlace", "Full", "NoHand", "Waits", "BadDeed", "NoWish", "BadName"]
def nmB : List PySem.Str := ["NoName", "BadPromise", "Broken", "NoMill", "InvalidCommand", "_law_deck", "_law_draw", "_law_pick", "_law_near", "_law_mid", "_law_far", "_law_made", "_law_both", "_law_bare", "_law_kinds", "_law_is_pure", "_law_it", "_law_is_caught"]
abbrev nmL : List PySem.Str := nmA ++ nmB
abbrev hk : Hook := hookM 5 fnL fsL
def ob (s : SharedT) : AlT := obsM 5 fnL fsL (HandSHeadRun.getT s)
theorem ob_eq (s : SharedT) : ob s = hk.obs s.abs := obsM_eq (HandSHeadRun.getT_eq s)
theorem run (w : World) : HandSHeadRun.RunEq RR (view RR.prog [50]) hk ob 9600 nmL w := by
  intro os
  kernel_rfl
end Lw

open PySem PySem.W PySem.Calls PyProof.Rows
theorem PySem.Challenge.cw_millhands_k00_errors_of_any_value_holds : PySem.Challenge.rw_millhands_k00_errors_of_any_value.Holds := by
  w_on; o_law
  refine HandSHeadRun.head_any (r := OpenLaw.row PySem.Challenge.rw_millhands_k00_errors_of_any_value) (q := view (OpenLaw.row PySem.Challenge.rw_millhands_k00_errors_of_any_value).prog [50]) (H := Lw.hk) (ob := Lw.ob) (M := 9600) (loose := Lw.nmL) (d := HandSHeadRun.topDef (OpenLaw.row PySem.Challenge.rw_millhands_k00_errors_of_any_value).prog 50) (kwd := []) Lw.ob_eq
    (by kernel_rfl) (fun s => by kernel_rfl) Lw.run (by kernel_rfl) (by kernel_rfl) (by kernel_rfl) (by rfl) (by first | assumption | decide +kernel) (by decide +kernel) ⟨rfl, rfl, rfl, rfl, rfl, by decide +kernel⟩ ?hw ?hc
  case hw => w_witness2
  case hc =>
    refine Lw.walk_ofGE (l := PySem.Challenge.rw_millhands_k00_errors_of_any_value) (n := 63) (k := 4) (x := "_law_script") (CX := L2.CX0) rfl (by decide) (by kernel_rfl) ⟨rfl, by decide, by decide⟩ ?F (fun _ _ _ _ z => z)
    intro w mg fa h Y G hmg0
    obtain ⟨K, KX, c, hx⟩ := Y
    have hmg : mg ("law" : PySem.Str) = some (.ref fa) := by
      have e : (HandSHeadRun.topDef (OpenLaw.row PySem.Challenge.rw_millhands_k00_errors_of_any_value).prog 50).name = ("law" : PySem.Str) := by kernel_rfl
      rw [← e]
      exact hmg0
    obtain ⟨fd, hb, hF⟩ := Lw.facts (P := (PySem.Challenge.rw_millhands_k00_errors_of_any_value).prog) (w := w) KX G hmg c hx
    exact ⟨K, fd, Lw.spLaw K, KX, hb, fun H a ns hl _ hS => ⟨a, ns, rfl, hS, hl, fun _ => rfl⟩, hF⟩

