import PyProof.Rows.All
import Wide.All
import OpenK.AllK
import Wide.FinOn
import PyProof.EqAt
import PyProof.EqKinds
import PyProof.TupleCall
import PyProof.ReprReads
import KE.KExcInit
import HandS.ForMost
import HandS.ForExc
import HandS.ExcField
import HandS.Flow
import HandS.Style
import PyProof.ReprRoads
import HandS.ExcIs
import KE.KExcIs
import HandS.Defaults
import HandS.Walk
import HandS.IsInst
import HandS.Codes
import HandS.StrMore
import KE.GoesMore
import HandS.CallLocal
import HandS.More
import PyProof.StrOps2
import KE.KSortTupG
import KE.KDictSum
import HandS.Iter
import HandS.Dict
import HandS.Conv
import HandS.TupLe
import HandS.MakeKwOnly
import PySem.Challenge.RW_millhands_k03_letters_laid
import HandS.Replace
import HandS.OwnEq
set_option Elab.async false
set_option linter.all false
set_option maxRecDepth 100000
set_option maxHeartbeats 4000000
namespace Mq
open PySem PySem.Spec PyProof.Rows L2

/-! ### defs that are entered where no repr is under way -/
def Still (A : Around) : Prop := A.guards = some []

structure FnG (P : Program) (w : World) (K : PySem.W.Frag) (mg : Str → Option Value)
    (base : Heap) (CX : CXT) (k : Nat) (f : Addr) (fd : FuncData) (ps : List Str) (sp : Sp) : Prop where
  many : ∀ vs H Q E, sp vs H Q E → vs.length = ps.length
  go : ∀ (A : Around) (outer : List Env) (s : Shared) (H : Hp) (args : Args)
    (us : List Value) (vs : List V) (Q : VK) (E : XK), Still A → Room k A →
    Env0 P w K mg base A outer s H → BindsTo s fd args (ps.zip us) → Vals vs us → sp vs H Q E →
    codeAny (model P w) A (.call (.ref f) args) (CR CX outer P w H s Q E) s

theorem FnG.of {P : Program} {w : World} {K : PySem.W.Frag} {mg : Str → Option Value}
    {base : Heap} {CX : CXT} {k : Nat} {f : Addr} {fd : FuncData} {ps : List Str} {sp : Sp}
    (F : FnOk P w K mg base CX k f fd ps sp) : FnG P w K mg base CX k f fd ps sp :=
  ⟨F.len, fun A outer s H args us vs Q E _ => F.run A outer s H args us vs Q E⟩

section
variable {P : Program} {w : World} {K : PySem.W.Frag} {mg : Str → Option Value} {base : Heap}

theorem Fun.okG {CX : CXT} {x qual : Str} {st : Stmt} {f : Addr} {fd : FuncData} {N ps : List Str}
    {k : Nat} {sp : Sp} (F : L2.Fun K x qual st f fd) (S : FnScope N ps (defScope st))
    (many : ∀ vs H Q E, sp vs H Q E → vs.length = ps.length)
    (body : ∀ (cdv : Value) (A : Around) (outer : List Env) (s : Shared) (H : Hp) (vs : List V) (Q : VK) (E : XK),
      Still (A.deeper (envOfC qual (defScope st) s.heap.objs.size f cdv)) →
      Room k (A.deeper (envOfC qual (defScope st) s.heap.objs.size f cdv)) → sp vs H Q E →
      ∃ t, PSs (cxOf CX P w K mg base N qual (defScope st) f cdv A outer s H E) (defBody st) t ∧
        t { nx := fun _ H' => Q .non H', rt := Q } (start N vs) H) :
    FnG P w K mg base CX (k + 1) f fd ps sp := by
  obtain ⟨oc, od, kV, doc, pm, an, cdv, ct, osl, rfl, lk, hcd⟩ := F.ex
  refine ⟨many, fun A outer s H args us vs Q E gA hr e0 hb r h => ?_⟩
  have old : ∀ b o, base.get? b = some o → s.heap.get? b = some o := fun b o e => (e0.bs b o e).1
  have KX := e0.mod.kin.keeps old
  have lim := e0.mod.nolimit.keeps old
  have hlen := many _ _ _ _ h
  have kinds : ∀ y ∈ ps.zip us, (defScope st).names.lookup y.1 = some .local ∨
      ((defScope st).names.lookup y.1 = some .cell ∧
        ((cellsFrom (s.heap.objs.size + 1) (defScope st).names []).lookup y.1).isSome = true) := by
    rintro ⟨n, v⟩ hy
    rcases S.par n (List.of_mem_zip hy).1 with q | q
    · exact Or.inl q
    · exact Or.inr ⟨q, PySem.W.cellsFrom_some _ _ _ (Or.inl q)⟩
  refine codeAny_call_function hr.depth (KX _ _ lk) rfl S.co S.gen rfl
    (PySem.W.codeRec_of KX hcd) (hb _ _ _ _ ?_)
  refine wpAny_newFunctionEnv_cells S.kind kinds (fun env he s1 x => ?_)
  subst he
  refine ⟨lim.keeps x.toInCall.keep, codeAny_func ?_⟩
  obtain ⟨t, ht, hq⟩ := body cdv A outer s H vs Q E gA (hr.deeper _) h
  have I := inv_start (CX := CX) (E := E) S hr.hd e0 hlen r x
  refine wpAny_mono (ht.run [] s1 (start N vs) H _ I hq) (fun fl s' hs => ?_) (fun e s' hs => hs)
  cases fl with
  | ret u =>
    obtain ⟨v, σ', H', J, rv, q⟩ := hs
    exact ⟨v, H', J.os, J.bare, J.base, J.hok, rv, q⟩
  | next =>
    obtain ⟨σ', H', J, q⟩ := hs
    exact ⟨V.non, H', J.os, J.bare, J.base, J.hok, rfl, q⟩
  | brk =>
    obtain ⟨_, _, _, q⟩ := hs
    exact q.elim
  | cont =>
    obtain ⟨_, _, _, q⟩ := hs
    exact q.elim
end

section
variable {X : Cx} {CX : CXT} {k : Nat} {f : Addr} {fd : FuncData} {ps : List Str} {sp : Sp}
  {E : XK} {x : Str} {p pos : Pos} {e : Expr} {es : List Expr} {t : TA}

theorem run_G {pins : List (Addr × Obj)} {σ : L2.St} {H : Hp} {s : Shared} {Q : VK} {us : List Value} {vs : List V}
    (F : FnG X.prog X.w X.K X.mg X.base CX k f fd ps sp) (gA : Still X.A) (hr : Room k X.A)
    (hb : Binds X.K fd ps []) (hx : Passes CX X E) (I : Inv X pins σ H s) (r : Vals vs us) (h : sp vs H Q E) :
    wpAny (model X.prog X.w) X.A (call (.ref f) us) (EP X pins σ Q) X.xe s := by
  have hl : us.length = ps.length := by rw [← r.length]; exact F.many _ _ _ _ h
  have b := hb s us I.kIn (by rw [List.append_nil]; exact hl)
  rw [List.append_nil] at b
  refine wpAny_call (codeAny_mono (F.go X.A X.stack s H ⟨us, []⟩ us vs Q E gA hr I.env0 b r h) (fun r s' hq => ?_))
  match r, hq with
  | .error er, hq => exact hx pins σ H s er s' I hq
  | .ok (.ret u), hq => exact I.after hq
  | .ok .next, hq => exact hq.elim
  | .ok .brk, hq => exact hq.elim
  | .ok .cont, hq => exact hq.elim

/-- f(e, ..) where no repr is under way -/
theorem pe_callG (F : FnG X.prog X.w X.K X.mg X.base CX k f fd ps sp) (gA : Still X.A) (hr : Room k X.A)
    (hg : Gl X x) (hm : X.mg x = some (.ref f)) (hk : PySem.W.keepIn X.K (.ref f) = true)
    (hb : Binds X.K fd ps []) (hx : Passes CX X E) (ha : PA X (e :: es) t)
    (hdb : (x == ("__debug__" : Str)) = false := by decide)
    (he : starEach (e :: es) X.env = (false, eval e X.env) :: starEach es X.env := by rfl)
    (hpl : (backTo pos (starEach es X.env)).any (·.1) = false := by rfl) :
    PE X (.Call (.Name x p) (e :: es) [] pos) (tCall sp [] E t) := by
  refine ⟨fun pins s σ H Q I h => wpAny_Call_Name_kw (ld_glob I hg hm ?_ hdb)⟩
  refine PySem.W.callWith_K (h₀ := X.base) I.ok.mod.kin hk (thn (ha.run pos pins s σ H _ I h) ?_) he hpl
  rintro us s1 ⟨vs, H1, I1, r, q⟩
  rw [List.append_nil] at q
  exact ⟨I1.kIn, run_G F gA hr hb hx I1 r q⟩
end

/-! ### the law's own call -/
theorem law_callG {P : Program} {w : World} {K : PySem.W.Frag} {mg mb : Str → Option Value} {CX : CXT} {k : Nat}
    {fa a : Addr} {fd : FuncData} {x : Str} {sp : Sp} {s₁ : Shared} {vs : List Value} {ns : List Int}
    (KX : K.In s₁.heap) (hns : s₁.heap.Ns mainGlobals mg) (hb : s₁.heap.Ns builtinsNs mb)
    (hbb : ∀ x : Str, x ≠ "__name__" → mb x = bootBuiltins x) (hlim : s₁.heap.NoLimit) (hg : s₁.gens = #[])
    (ha : s₁.heap.get? a = some { cls := .type "list", data := .seq vs.toArray }) (hi : IntsAre vs ns)
    (hl : ns.length ≤ sizeLine) (hr : Room k callerA)
    (F : ∀ base : Heap, K.In base → base.Ns mainGlobals mg → FnG P w K mg base CX k fa fd [x] sp)
    (hbind : ∀ (s : Shared) (u : Value), BindsTo s fd ⟨[u], []⟩ [(x, u)])
    (hsp : ∀ H : Hp, Only H → SqL K H a (ns.map V.int) → sp [.ref a] H (fun v _ => v = .bl true) fun _ _ _ => False)
    (hCX : ∀ H e s', CX [] H s₁ (fun _ _ _ => False) e s' → False) :
    codeAny (model P w) callerA (.call (.ref fa) ⟨[.ref a], []⟩)
      (fun r s' => r = .ok (.ret (.bool true)) ∧ OldK s₁.heap s'.heap ∧ s'.os = s₁.os ∧ AllBare s'.gens) s₁ := by
  have rv := vals_ints hi
  have core : ∀ H : Hp, Only H → SqL K H a (ns.map V.int) → HOk P w H s₁.heap →
      (∀ b, H b ≠ none → b = a) → (H a ≠ none → K.lookup a = none) →
      codeAny (model P w) callerA (.call (.ref fa) ⟨[.ref a], []⟩)
        (fun r s' => r = .ok (.ret (.bool true)) ∧ OldK s₁.heap s'.heap ∧ s'.os = s₁.os ∧ AllBare s'.gens) s₁ := by
    intro H hO hS hok hA hK
    have only : ∀ {b : Addr} {u : HO}, H b = some u → b = a := fun {b u} q => hA b (by rw [q]; exact fun z => by cases z)
    have noD : ∀ {b : Addr} {o : Obj} {es : Array DictEntry} {ep : Nat}, s₁.heap.get? b = some o →
        o.data = .dict es ep → H b = none := by
      intro b o es ep e d
      cases q : H b with
      | none => rfl
      | some u =>
        have e' := only q
        subst e'
        rw [ha] at e
        cases e
        cases d
    have nsK : ∀ {b : Addr} {m : Str → Option Value}, s₁.heap.Ns b m → (hidT s₁.heap H).Ns b m := by
      rintro b m ⟨o, es, ep, e, d, r⟩
      exact ⟨o, es, ep, hidT_get e (noD e d), d, r⟩
    have hKb : K.In (hidT s₁.heap H) := by
      intro b o e
      refine hidT_get (KX b o e) ?_
      cases q : H b with
      | none => rfl
      | some u =>
        have e' := only q
        subst e'
        rw [hK (by rw [q]; exact fun z => by cases z)] at e
        cases e
    obtain ⟨mc, l1, l2⟩ := hlim
    have hM : Mod K mg (hidT s₁.heap H) := ⟨hKb, nsK hns, ⟨mb, nsK hb, hbb⟩, ⟨mc, nsK l1, l2⟩⟩
    have nil : ∀ {b : Addr}, b ∉ ([] : List Addr) := fun h => by cases h
    have e0 : Env0 P w K mg (hidT s₁.heap H) callerA [] s₁ H :=
      ⟨rfl, hM, fun b o e => of_hidT e, Nat.le_of_eq (hidT_size _ _), trivial, fun b hb => (nil hb).elim, hok, .of_eq hg⟩
    refine codeAny_mono ((F _ hKb (nsK hns)).go callerA [] s₁ H ⟨[.ref a], []⟩ [.ref a] [.ref a] _ _ rfl hr e0
      (hbind s₁ (.ref a)) (.cons rfl .nil) (hsp H hO hS)) (fun r s' h => ?_)
    match r, h with
    | .error e, h => exact (hCX H e s' h).elim
    | .ok .next, h => exact h.elim
    | .ok .brk, h => exact h.elim
    | .ok .cont, h => exact h.elim
    | .ok (.ret u), h =>
      obtain ⟨v, H', os, bare, un, hok', r', q⟩ := h
      have q' : v = .bl true := q
      subst q'
      cases (show u = Value.bool true from r')
      refine ⟨rfl, OldK.of_keep (fun b o e => ?_), os, bare⟩
      rcases hO b with z | ⟨ob, xs, z⟩
      · exact un.keep b o e z nil nil
      · obtain ⟨e1, _⟩ := hok b _ z
        obtain ⟨e2, _⟩ := hok' b _ (un.frzs b ob _ z)
        rw [e] at e1
        cases e1
        exact e2
  cases hk : K.lookup a with
  | some o =>
    have e := KX a o hk
    rw [ha] at e
    cases e
    refine core (fun _ => none) (fun _ => Or.inl rfl) (Or.inr ⟨_, vs.toArray, _, hk, rfl, rfl, rfl, ?_, by simpa using rv⟩)
      (fun b u z => by cases (show (none : Option HO) = some u from z)) (fun b z => (z rfl).elim) (fun z => (z rfl).elim)
    rw [List.size_toArray, hi.length]
    exact hl
  | none =>
    let o0 : Obj := { cls := .type "list", data := .seq vs.toArray }
    refine core (fun b => if b = a then some (.frz o0 (.lst (ns.map V.int))) else none) (fun b => ?_)
      (Or.inl (Or.inr ⟨o0, if_pos rfl⟩)) (fun b u z => ?_) (fun b z => ?_) (fun _ => hk)
    · by_cases hb : b = a
      · exact Or.inr ⟨_, _, if_pos hb⟩
      · exact Or.inl (if_neg hb)
    · by_cases hb : b = a
      · cases (if_pos hb).symm.trans z
        subst hb
        exact ⟨ha, by rw [List.length_map]; exact hl, vs, _, rv, ha⟩
      · cases (if_neg hb).symm.trans z
    · by_cases hb : b = a
      · exact hb
      · exact (z (if_neg hb)).elim

theorem walk_ofG {l : PySem.W.OpenLaw} {n k : Nat} {q : Program} {loose : List Str}
    {XP : (Str → Option Value) → Heap → Prop} {YP : World → Heap → Prop} {d : DefRec}
    {K : Params → PySem.W.Frag} {CX : World → CXT} {sp : World → Sp} {x : Str}
    (hn : l.most = some n) (hn2 : n ≤ sizeLine) (hdf : d.params.defaults = []) (hr : Room k callerA)
    (hY : ∀ (w : World) (h : Heap), YP w h → (K w.params).In h)
    (F : ∀ (w : World) (mg : Str → Option Value) (fa : Addr) (h : Heap), (K w.params).In h →
      h.Ns mainGlobals mg → mg d.name = some (.ref fa) →
      ∃ fd : FuncData, (∀ (s : Shared) (u : Value), BindsTo s fd ⟨[u], []⟩ [(x, u)]) ∧
        ∀ base : Heap, (K w.params).In base → base.Ns mainGlobals mg →
          FnG l.prog w (K w.params) mg base (CX w) k fa fd [x] (sp w))
    (hsp : ∀ (w : World) (H : Hp) (a : Addr) (ns : List Int), ns.length ≤ n → Only H →
      SqL (K w.params) H a (ns.map V.int) → sp w [.ref a] H (fun v _ => v = .bl true) fun _ _ _ => False)
    (hCX : ∀ (w : World) (H : Hp) (s : Shared) (e : Value) (s' : Shared), CX w [] H s (fun _ _ _ => False) e s' → False) :
    PySem.W.WalkO q loose XP YP l.row.toRowW d [] (fun f vs => PySem.call f vs) := by
  refine Att.attach_call hn hdf ?_
  intro w s₀ s₁ mg mb fa o pm cd doc a vs ns G Y ho hd hcd hmg hobj hints hlen hg
  obtain ⟨fd, hb, hF⟩ := F w mg fa _ (hY w _ Y) G.T.g hmg
  exact law_callG (hY w _ Y) G.T.g G.T.b G.T.builtins G.T.nolimit hg hobj hints (Nat.le_trans hlen hn2) hr hF hb
    (fun H hO hS => hsp w H a ns hlen hO hS) (fun H e s' => hCX w H s₁ e s')
end Mq

namespace Mq
open PySem PySem.Spec PyProof.Rows L2

/-! ### repr of data, dicts among them -/
def keyD : Key → PyData
  | .inl i => .int i
  | .inr x => .str x
mutual
inductive Dg (K : PySem.W.Frag) (H : Hp) : V → PyData → Prop
  | non : Dg K H .non .none
  | bl (b : Bool) : Dg K H (.bl b) (.bool b)
  | int (i : Int) : Dg K H (.int i) (.int i)
  | str (x : Str) : Dg K H (.str x) (.str x)
  | lst {a : Addr} {xs : List V} {ds : List PyData} : a ≠ sysModules → SqL K H a xs → DgAll K H xs ds → Dg K H (.ref a) (.list ds)
  | tup {a : Addr} {xs : List V} {ds : List PyData} : SqT K H a xs → DgAll K H xs ds → Dg K H (.ref a) (.tuple ds)
  | dct {a : Addr} {kvs : List (Key × V)} {ds : List (PyData × PyData)} : H a = some (.dK kvs) → DgKv K H kvs ds → Dg K H (.ref a) (.dict ds)
inductive DgAll (K : PySem.W.Frag) (H : Hp) : List V → List PyData → Prop
  | nil : DgAll K H [] []
  | cons {v : V} {vs : List V} {d : PyData} {ds : List PyData} : Dg K H v d → DgAll K H vs ds → DgAll K H (v :: vs) (d :: ds)
inductive DgKv (K : PySem.W.Frag) (H : Hp) : List (Key × V) → List (PyData × PyData) → Prop
  | nil : DgKv K H [] []
  | cons {k : Key} {v : V} {vs : List (Key × V)} {d : PyData} {ds : List (PyData × PyData)} : Dg K H v d → DgKv K H vs ds → DgKv K H ((k, v) :: vs) ((keyD k, d) :: ds)
end
section
variable {X : Cx} {pins : List (Addr × Obj)} {σ : L2.St} {H : Hp} {s : Shared}
theorem reads_key {h : Heap} {k : Key} {u : Value} (e : keyIs k u = true) : Reads h u (keyD k) [] := by
  rcases keyIs_shape e with ⟨i, t, rfl, rfl⟩ | ⟨x, t, rfl, rfl⟩
  · exact Reads.int i t
  · exact Reads.str x t
mutual
theorem Dg.rd (I : Inv X pins σ H s) : ∀ {d : PyData} {v : V} {u : Value}, Dg X.K H v d → RelV v u →
    ∃ as, Reads s.heap u d as ∧ sysModules ∉ as
  | _, _, _, .non, r => by cases r; exact ⟨[], .none, fun h => by cases h⟩
  | _, _, _, .bl b, r => by cases r; exact ⟨[], .bool b, fun h => by cases h⟩
  | _, _, _, .int i, r => by obtain ⟨t, rfl⟩ := r; exact ⟨[], .int i t, fun h => by cases h⟩
  | _, _, _, .str x, r => by obtain ⟨t, rfl⟩ := r; exact ⟨[], .str x t, fun h => by cases h⟩
  | _, _, _, .lst ne hs ha, r => by
    cases r
    obtain ⟨its, rv, ⟨o, n, ho, hc, _, hd⟩, _⟩ := I.list hs
    obtain ⟨as, hr, hn⟩ := DgAll.rd I ha rv
    refine ⟨_, Reads.list ho hc hd hr, fun hm => ?_⟩
    rcases List.mem_cons.mp hm with e | e
    · exact ne e.symm
    · exact hn e
  | _, _, _, .tup hs ha, r => by
    cases r
    obtain ⟨its, rv, ⟨o, ho, hc, n, hd⟩, _⟩ := I.tuple hs
    obtain ⟨as, hr, hn⟩ := DgAll.rd I ha rv
    exact ⟨_, Reads.tuple ho hc hd hr, hn⟩
  | _, _, _, .dct (a := a) hs ha, r => by
    cases r
    obtain ⟨_, ns, us, rk, o, es, ep, ho, hx, hd, _, hp, _⟩ := I.hok a _ hs
    obtain ⟨as, bs, r1, r2, n1, n2⟩ := DgKv.rd I ha rk hp
    refine ⟨_, Reads.dict ho hx.1 hd r1 r2, fun hm => ?_⟩
    rcases List.mem_append.mp hm with hm | hm
    · rcases List.mem_cons.mp hm with e | e
      · rw [← e] at ns
        simp at ns
      · exact n1 e
    · exact n2 hm
theorem DgAll.rd (I : Inv X pins σ H s) : ∀ {ds : List PyData} {vs : List V} {us : List Value}, DgAll X.K H vs ds → Vals vs us →
    ∃ as, ReadsAll s.heap us ds as ∧ sysModules ∉ as
  | _, _, _, .nil, r => by cases r; exact ⟨[], .nil, fun h => by cases h⟩
  | _, _, _, .cons h1 h2, r => by
    cases r with
    | cons r1 r2 =>
      obtain ⟨as, q1, n1⟩ := Dg.rd I h1 r1
      obtain ⟨bs, q2, n2⟩ := DgAll.rd I h2 r2
      exact ⟨_, ReadsAll.cons q1 q2, fun hm => (List.mem_append.mp hm).elim n1 n2⟩
theorem DgKv.rd (I : Inv X pins σ H s) : ∀ {ds : List (PyData × PyData)} {vs : List (Key × V)} {us : List (Key × Value)} {es : List DictEntry}, DgKv X.K H vs ds → KV vs us →
    Pairs (mixKind X.prog X.w) es us →
    ∃ as bs, ReadsAll s.heap (es.map (·.key)) (ds.map (·.1)) as ∧ ReadsAll s.heap (es.map (·.val)) (ds.map (·.2)) bs ∧ sysModules ∉ as ∧ sysModules ∉ bs
  | _, _, _, _, .nil, r, p => by
    cases r
    cases p
    exact ⟨[], [], ReadsAll.nil, ReadsAll.nil, (fun h => by cases h), (fun h => by cases h)⟩
  | _, _, _, _, .cons h1 h2, r, p => by
    cases r with
    | cons r1 r2 =>
      cases p with
      | cons p3 p4 p2 =>
        obtain ⟨e1, e2⟩ := r1
        obtain ⟨as, q1, n1⟩ := Dg.rd I h1 e2
        obtain ⟨bs, cs, q2, q3, n2, n3⟩ := DgKv.rd I h2 r2 p2
        rw [← p4] at q1
        have p3' := p3
        rw [← e1] at p3'
        exact ⟨_, _, ReadsAll.cons (reads_key p3') q2, ReadsAll.cons q1 q3, fun hm => (List.mem_append.mp hm).elim (fun z => by cases z) n2,
          fun hm => (List.mem_append.mp hm).elim n1 n3⟩
end
/-- repr(v), v data -/
def rRep (K : PySem.W.Frag) : List V → Hp → VK → Prop := fun xs H Q => ∃ v d, xs = [v] ∧ Dg K H v d ∧ d.showable = true ∧
  d.depth ≤ 40 ∧ d.shown.length ≤ sizeLine ∧ Q (.str d.shown) H
theorem call_rep {k : Nat} (hr : Room k X.A) (gA : Still X.A) : CallR X (.builtin "repr") (rRep X.K) := by
  intro pins s σ H xs us Q I r h
  obtain ⟨v, d, rfl, hd, hs, hz, hl, q⟩ := h
  cases r with
  | cons rx rr =>
    cases rr
    have hu := hr.units
    obtain ⟨as, rd, hn⟩ := Dg.rd I hd rx
    have leaf : ∀ {d : PyData} {t : Tok}, Q (.str d.shown) H → EP X pins σ Q (.str d.shown t) { s with toks := s.toks + 1 } :=
      fun {d t} q => ⟨.str d.shown, H, I.tok _, ⟨_, rfl⟩, q⟩
    cases hd with
    | non =>
      cases rx
      exact PySem.P.repr_of_none (leaf (d := .none) q)
    | bl b =>
      cases rx
      exact PySem.P.repr_of_bool (leaf (d := .bool b) q)
    | int i =>
      obtain ⟨t, rfl⟩ := rx
      exact PySem.P.repr_of_int (by simpa [PyData.showable] using hs) (leaf (d := .int i) q)
    | str x =>
      obtain ⟨t, rfl⟩ := rx
      refine PySem.P.repr_of_str (leaf (d := .str x) q) ?_
      simpa only [PyData.shown] using hl
    | lst ne h1 h2 =>
      cases rx
      exact repr_of_reads' rd hs (fun _ => hn) gA (by omega) (fun _ _ e => e) (fun h' u tk k => ⟨.str _, H, I.kept k, ⟨_, rfl⟩, q⟩) hl
    | tup h1 h2 =>
      cases rx
      exact repr_of_reads' rd hs (fun _ => hn) gA (by omega) (fun _ _ e => e) (fun h' u tk k => ⟨.str _, H, I.kept k, ⟨_, rfl⟩, q⟩) hl
    | dct h1 h2 =>
      cases rx
      exact repr_of_reads' rd hs (fun _ => hn) gA (by omega) (fun _ _ e => e) (fun h' u tk k => ⟨.str _, H, I.kept k, ⟨_, rfl⟩, q⟩) hl
/-- no new object stands where the modules stand -/
theorem Inv.low (I : Inv X pins σ H s) : sysModules < s.heap.objs.size := by
  have h1 := I.mod.glob.lt
  have h2 := I.ok.bsz
  have h3 := I.sz
  have h4 : sysModules < mainGlobals := by decide
  exact Nat.lt_of_lt_of_le (Nat.lt_trans h4 h1) (Nat.le_trans h2 h3)
/-- a list display, told to stand elsewhere than the modules -/
def tLs (t : TA) : TE := fun σ H Q => t σ H fun xs H1 => xs.length ≤ sizeLine ∧ ∀ p, H1 p = none → p ≠ sysModules → Q (.ref p) (upd H1 p (.lst xs))
theorem pe_ls {es : List Expr} {t : TA} {pos : Pos} (h : PA X es t) : PE X (.List es pos) (tLs t) := by
  refine ⟨fun pins s σ H Q I hq => wpAny_List_spliced (thn (h.run pos pins s σ H _ I hq) ?_)⟩
  rintro us s1 ⟨xs, H1, I1, r, z, q⟩
  have hz : us.length ≤ sizeLine := by rw [← r.length]; exact z
  have nw : H1 s1.heap.objs.size = none := I1.hok.fresh (Nat.le_refl _)
  refine ⟨hz, .ref s1.heap.objs.size, upd H1 s1.heap.objs.size (.lst xs), ?_, rfl, q _ nw (Nat.ne_of_gt (Inv.low I1))⟩
  exact I1.laid (t' := s1.toks) (fun b u e => Heap.get?_push_of_some _ e) (Nat.le_refl _) ⟨z, us, 0, r, Heap.get?_push_size _ rfl⟩
end
end Mq

namespace Mq
open PySem PySem.Spec PyProof.Rows L2
open PySem.W (Frag)
open PySem.Builtin.ObjectAttr
/-! ### own errors over Exception, with one field -/
abbrev exTail : List Value := [.type "Exception", .type "BaseException", .type "object"]
section
variable {prog : Program} {w : World} {A : Around} {E : Value → Shared → Prop} {R : Result → Shared → Prop}
  {hp : Heap} {g : Array GenState} {d : Drawn} {t : Nat} {os : OsState} {K : Frag}
theorem osa_first {name : Str} {tk : Tok} {v : Value} {x C t1 : Addr} (X : K.In hp)
    (hx : hp.get? x = some (PySem.W.excObj C t1 none .none)) (ho : PySem.W.excOver K C exTail = true)
    (hh : PySem.W.hasDictIn K C = true) (ht : PySem.W.takerIn K C name = some none)
    (hq : ∀ h' tk' dx, (∀ b o, b ≠ x → hp.get? b = some o → h'.get? b = some o) → hp.objs.size ≤ dx → dx ≠ x →
      h'.get? x = some (PySem.W.excObj C t1 (some dx) .none) → h'.Ns1 dx (fun y => if y = name then some v else none) →
      R (.ok (.ret .none)) ⟨h', g, d, tk', os⟩) :
    codeAny (model prog w) A (.call (.builtin "object.__setattr__") ⟨[.ref x, .str name tk, v], []⟩) R ⟨hp, g, d, t, os⟩ := by
  refine PySem.W.osa_openX (od := none) (s := ⟨hp, g, d, t, os⟩) F.store_Exception X ⟨hx, rfl, rfl, trivial⟩ ho ht (fun b => ?_)
  obtain ⟨cd, hc, hd'⟩ := PySem.W.any_some hh
  refine wpAny_bind (wpAny_pure (wpAny_bind (PySem.W.instanceDict_exc hx (PySem.W.looks_clsIn X hc) hd' ?_)))
  show wpAny _ _ (storeInDict hp.objs.size (.str name tk) name v) _ _ _
  have hxs : x ≠ hp.objs.size := Nat.ne_of_lt (Heap.lt_size hx)
  have hx1 : (hp.push (PySem.W.dictOf [] 0)).get? x = some (PySem.W.excObj C t1 none .none) := Heap.get?_push_of_some _ hx
  refine PySem.HandSPX.store_in_new ?_ ?_
  · exact ⟨_, #[], _, (Heap.get?_update_ne _ _ _ _ hxs.symm).trans (Heap.get?_push_at rfl rfl), rfl, (fun e he => absurd he (by simp)), fun _ => rfl⟩
  · intro h' tk' hn' hs
    refine hq h' tk' hp.objs.size (fun b o hb ho => ?_) (Nat.le_refl _) hxs.symm ?_ hn'
    · exact (hs.2 b (Nat.ne_of_lt (Heap.lt_size ho))).trans ((Heap.get?_update_ne _ _ _ _ hb).trans (Heap.get?_push_of_some _ ho))
    · exact (hs.2 x hxs).trans (Heap.get?_update_self _ hx1 rfl)
end
end Mq


namespace MqE_thing
open PySem PySem.Spec PyProof.Rows L2 Mq PySem.W PySem.Calls
/-! ### errors whose one parameter is thing -/
def iA (p1 p2 : Pos) : Arguments := { posonlyargs := [], args := [{ arg := "self", annotation := none, pos := p1 }, { arg := "thing", annotation := none, pos := p2 }], vararg := none, kwonlyargs := [], kw_defaults := [], kwarg := none, defaults := [] }
def iB (q1 q2 q3 q4 : Pos) : List Stmt := [.Assign [.Attribute (.Name "self" q1) "thing" q2] (.Name "thing" q3) q4]
def iS : Scope := { kind := .function, names := [(PySem.Str.ofString "self", .local), (PySem.Str.ofString "thing", .local)], isGenerator := false, isCoroutine := false, more := [] }
/-- what the written part says of the class x at C, and of its __init__ at fI -/
structure Txt (K : Frag) (mg : Str → Option Value) (x qual : Str) (C fI : Addr) : Prop where
  gC : mg x = some (.ref C)
  kC : keepIn K (.ref C) = true
  ex : excInitIn K C exTail "Exception.__new__" = true
  ov : excOver K C exTail = true
  hdC : hasDictIn K C = true
  tk : takerIn K C "thing" = some none
  sa : findIn K (.ref C) "__setattr__" = some (some (.builtin "object.__setattr__"))
  iC : findIn K (.ref C) "__init__" = some (some (.ref fI))
  tC : typeIn K (.ref fI) = some (.type "function")
  exC : subIn K (.ref C) (.type "BaseException") = some true
  tyC : typeIn K (.ref C) = some (.type "type")
  fn : ∃ (oc : Value) (od : Option Addr) (doc pm : Value) (an : Option Addr) (cdv ct : Value) (osl : Array (Option Value)) (p1 p2 q1 q2 q3 q4 : Pos),
    K.lookup fI = some ⟨oc, od, .func (fnOf "__init__" qual (iA p1 p2) (iB q1 q2 q3 q4) iS .none .none doc pm an cdv ct), osl⟩ ∧ codeIn K cdv qual = true
theorem ld_loc {M : Model} {s : Shared} {name : Str} {scope : Scope} {L a : Addr} {cd : Value} {m : Str → Option Value} {y : Str} {pos : Pos} {v : Value}
    {Q : Value → Shared → Prop} {A : Around} {E : Value → Shared → Prop} (hn : s.heap.Ns L m) (hv : m y = some v) (h : Q v s)
    (hk : scope.kind = .function := by rfl) (hl : (envOfC name scope L a cd).kindOf y = some .local := by rfl) (hd : (y == ("__debug__" : Str)) = false := by decide) :
    wpAny M A (eval (.Name y pos) (envOfC name scope L a cd)) Q E s := wpAny_Name (wpAny_loadName_local hk hl hn hv h) hd
/-- what __init__ leaves of a new error at e -/
structure Filled (h h' : Heap) (e C dx t1 : Addr) (v : Value) : Prop where
  keep : ∀ b o, b ≠ e → h.get? b = some o → h'.get? b = some o
  obj : h'.get? e = some (excObj C t1 (some dx) .none)
  big : h.objs.size ≤ dx
  ne : dx ≠ e
  ns : h'.Ns1 dx (fun y => if y = "thing" then some v else none)
/-- a made error -/
structure Made (h h' : Heap) (e C d : Addr) (v : Value) : Prop where
  keep : ∀ b o, h.get? b = some o → h'.get? b = some o
  new : h.objs.size ≤ e
  obj : ∃ oe vs, h'.get? e = some oe ∧ oe.cls = .ref C ∧ oe.dict = some d ∧ oe.data = .fields vs ∧ vs[1]? = some .none
  big : h.objs.size ≤ d
  ne : d ≠ e
  ns : h'.Ns1 d (fun y => if y = "thing" then some v else none)
section
variable {prog : Program} {w : World} {A : Around} {E : Value → Shared → Prop} {R : Result → Shared → Prop} {s : Shared} {K : Frag} {mg : Str → Option Value} {x qual : Str} {C fI : Addr}
theorem init_run (T : Txt K mg x qual C fI) {e t0 : Addr} {v : Value} (X : K.In s.heap) (lim : s.heap.NoLimit) (he : s.heap.get? e = some (excObj C t0 none .none)) (room : A.depth < recursionLimit)
    (hq : ∀ h' tk dx, Filled s.heap h' e C dx t0 v → R (.ok (.ret .none)) { s with heap := h', toks := tk }) :
    codeAny (model prog w) A (.call (.ref fI) ⟨[.ref e, v], []⟩) R s := by
  obtain ⟨oc, od, doc, pm, an, cdv, ct, osl, p1, p2, q1, q2, q3, q4, ho, hcd⟩ := T.fn
  refine Att.call_fn (binds := [("self", .ref e), ("thing", v)]) X lim ho hcd room (BindsTo.of_eq (by first | rfl | with_unfolding_all rfl)) (by first | rfl | decide | with_unfolding_all rfl) (fun s₁ IC => ?_) rfl rfl rfl
  obtain ⟨h₁, tk₁, rfl⟩ := IC.toInCall.same
  have k : ∀ b o, s.heap.get? b = some o → h₁.get? b = some o := IC.toInCall.keep
  have hn := IC.toInCall.ns
  have X₁ : K.In h₁ := X.keeps k
  have he₁ := k _ _ he
  show wpAny _ _ (execs _ _) _ _ _
  refine wpAny_execs_cons (plainObj_wpAny_Assign_Attribute ?_)
  refine ld_loc (v := v) hn (by first | rfl | with_unfolding_all rfl | kernel_rfl) (ld_loc (v := .ref e) hn (by first | rfl | with_unfolding_all rfl | kernel_rfl) ?_)
  refine set_plain X₁ (ox := excObj C t0 none .none) (od := none) ⟨he₁, rfl, rfl, trivial⟩ T.sa ?_
  refine osa_first X₁ he₁ T.ov T.hdC T.tk (fun h₃ tk₃ dx k₃ dn dne he₃ hn₃ => ?_)
  show wpAny _ _ (execs _ _) _ _ _
  have z : s.heap.objs.size < h₁.objs.size := hn.lt
  exact wpAny_execs_nil (hq h₃ tk₃ dx ⟨fun b o hb e => k₃ b o hb (k b o e), he₃, Nat.le_of_lt (Nat.lt_of_lt_of_le z dn), dne, hn₃⟩)
theorem made_run (T : Txt K mg x qual C fI) {v : Value} (X : K.In s.heap) (lim : s.heap.NoLimit) (room : A.depth + 1 < recursionLimit)
    (hq : ∀ h' tk e d, Made s.heap h' e C d v → R (.ok (.ret (.ref e))) { s with heap := h', toks := tk }) :
    codeAny (model prog w) A (.call (.ref C) ⟨[v], []⟩) R s := by
  obtain ⟨nm, N, qn, bs, bm, hdct, sn, sub, ab, col, dd, k0, k1, k2, k3, k5, hC, hT⟩ := excInit_of X T.ex
  obtain ⟨hp, g, dr, tk, os⟩ := s
  have k : ∀ b o, hp.get? b = some o → ((hp.push (kdv_tup [v])).push (HandSPX.excO C hp.objs.size)).get? b = some o := fun b o e => Heap.get?_push_of_some _ (Heap.get?_push_of_some _ e)
  have hget : ((hp.push (kdv_tup [v])).push (HandSPX.excO C hp.objs.size)).get? (hp.objs.size + 1) = some (excObj C hp.objs.size none .none) := by heap_get
  refine HandSPX.call_own F.excBase_Exception hT hC (looks_findIn X T.iC) (fun self => bind_fn X self T.tC) (by rw [sizeLine_eq]; exact (by decide : 1 ≤ 16777216)) ?_
  refine init_run (s := ⟨(hp.push (kdv_tup [v])).push (HandSPX.excO C hp.objs.size), g, dr, tk, os⟩) T (X.keeps k) (lim.keeps k) hget ?_ (fun h' tk' dx M => ?_)
  · show A.depth + 1 < recursionLimit
    exact room
  · obtain ⟨k', hx, dn, dne, hns⟩ := M
    have old : ∀ b o, hp.get? b = some o → h'.get? b = some o := fun b o e => k' b o (Nat.ne_of_lt (Nat.lt_succ_of_lt (Heap.lt_size e))) (k b o e)
    have z : hp.objs.size + 1 + 1 ≤ dx := by
      have q := dn
      rw [Heap.size_push, Heap.size_push] at q
      exact q
    exact ⟨rfl, hq h' tk' (hp.objs.size + 1) dx ⟨old, Nat.le_succ _, ⟨_, _, hx, rfl, rfl, rfl, rfl⟩, Nat.le_trans (Nat.le_trans (Nat.le_succ _) (Nat.le_succ _)) z, dne, hns⟩⟩
end
theorem relO_f {v : V} {v' : Value} (r : RelV v v') (f : Str) : RelO (List.lookup f [(("thing" : Str), v)]) (if f = "thing" then some v' else none) := by
  by_cases hw : f = "thing"
  · subst hw
    rw [if_pos rfl]
    have q : List.lookup ("thing" : Str) [(("thing" : Str), v)] = some v := by simp [List.lookup]
    rw [q]
    exact r
  · rw [if_neg hw]
    have qw : (f == ("thing" : Str)) = false := by simpa using hw
    have q2 : List.lookup f [(("thing" : Str), v)] = none := by simp [List.lookup, qw]
    rw [q2]
    trivial
section
variable {X : Cx} {C fI : Addr} {x qual : Str}
/-- x(e) -/
def tMk (C : Addr) (ta : TA) : L2.St → Hp → XK → Prop := fun σ H Q => ta σ H fun vs H1 => ∃ v, vs = [v] ∧ ∀ d, H1 d = none → Q (.ref C) (some d) (upd H1 d (.xd [(("thing" : Str), v)]))
theorem pmk {a : Expr} {ta : TA} {p pos : Pos} {k : Nat} (T : Txt X.K X.mg x qual C fI) (hr : Room k X.A) (ha : PA X [a] ta) (hg : Gl X x := by rfl) (hdb : (x == ("__debug__" : Str)) = false := by decide)
    (he : starEach (a :: []) X.env = (false, eval a X.env) :: starEach [] X.env := by rfl) (hpl : (backTo pos (starEach [] X.env)).any (·.1) = false := by rfl) :
    PMk X (.Call (.Name x p) [a] [] pos) (tMk C ta) := by
  intro pins s σ H Q I h
  refine wpAny_Call_Name_kw (ld_glob I hg T.gC ?_ hdb)
  refine callWith_K (h₀ := X.base) I.ok.mod.kin T.kC (thn (ha.run pos pins s σ H _ I h) fun us s1 hh => ?_) he hpl
  obtain ⟨vs, H1, I1, r1, v, ev, q1⟩ := hh
  subst ev
  refine ⟨I1.kIn, ?_⟩
  cases r1 with
  | cons rv rn =>
    rename_i v' us'
    cases rn
    show wpAny _ _ (call (.ref C) [v']) _ _ _
    have hlim := I1.nolimit
    obtain ⟨hp, g, dr, tk, os⟩ := s1
    refine wpAny_call (made_run T I1.kIn hlim (by have := hr.dp; omega) (fun h' tk' e d M => ?_))
    show MkP X pins σ Q (.ref e) ⟨h', g, dr, tk', os⟩
    obtain ⟨oe, fv, hoe, hc, hd, hdat, h1⟩ := M.obj
    have hns := M.ns
    obtain ⟨G', g1, g2⟩ := restrict h' fun b => decide (b ≠ e)
    have gk : ∀ b, b ≠ e → G'.get? b = h'.get? b := fun b hb => g1 b (decide_eq_true hb)
    have ge : G'.get? e = none := g2 e (by simp)
    have old : ∀ b o, hp.get? b = some o → G'.get? b = some o := fun b o q => (gk b (Nat.ne_of_lt (Nat.lt_of_lt_of_le (Heap.lt_size q) M.new))).trans (M.keep b o q)
    have ob : ObjOk X.prog X.w (upd H1 d (.xd [(("thing" : Str), v)])) G' d (.xd [(("thing" : Str), v)]) :=
      ⟨_, hns.at (fun o q => (gk d M.ne).trans q), fun f => relO_f rv f⟩
    have J : L2.Inv X pins σ (upd H1 d (.xd [(("thing" : Str), v)])) ⟨G', g, dr, tk', os⟩ := I1.laid (t' := tk') old M.big ob
    refine ⟨e, oe, fv, ⟨G', g, dr, tk', os⟩, _, .ref C, some d, rfl, J, (fun b o q => ?_), ge, hoe, ⟨hc, hd⟩, hdat, h1, ?_, rfl, I1.bare, raises_own T.exC T.tyC, q1 d (I1.hok.fresh M.big)⟩
    · by_cases hb : b = e
      · have q' : G'.get? b = some o := q
        rw [hb, ge] at q'
        cases q'
      · exact (gk b hb).symm.trans q
    · rw [upd_ne (Ne.symm M.ne)]
      exact I1.hok.fresh M.new
/-- raise x(e) -/
def tRaise (C : Addr) (W : WX) (ta : TA) : TS := fun _ σ H => tMk C ta σ H fun cls d H' => W cls d σ H'
theorem ps_raise {a : Expr} {ta : TA} {W : WX} {p pos pos2 : Pos} {k : Nat} (hc : X.calm = true) (T : Txt X.K X.mg x qual C fI) (hr : Room k X.A) (tk : Takes X W) (ha : PA X [a] ta) (hg : Gl X x := by rfl) (hdb : (x == ("__debug__" : Str)) = false := by decide)
    (he : starEach (a :: []) X.env = (false, eval a X.env) :: starEach [] X.env := by rfl) (hpl : (backTo pos (starEach [] X.env)).any (·.1) = false := by rfl) :
    PS X (.Raise (some (.Call (.Name x p) [a] [] pos)) none pos2) (tRaise C W ta) := L2.ps_raise hc tk (pmk T hr ha hg hdb he hpl)
end
end MqE_thing

namespace Mq
open PySem PySem.Spec PyProof.Rows L2
/-! ### the error that a suite holds: its class, its field -/
/-- what the class at D says, so that isinstance asks its errors rightly -/
structure HeldC (K : PySem.W.Frag) (D : Addr) : Prop where
  cl : (PySem.W.clsIn K D).isSome = true
  ga : PySem.W.findIn K (.ref D) "__getattribute__" = some (some (.builtin "BaseException.__getattribute__"))
  gg : PySem.W.findIn K (.ref D) "__getattr__" = some none
  sb : PySem.W.subIn K (.ref D) (.type "BaseException") = some true
  ca : PySem.W.findIn K (.ref D) "__class__" = some (some (.builtin "object.__class__"))
  sp : PySem.W.specialIn K (.builtin "object.__class__") "__get__" = some (some (.builtin "getset_descriptor.__get__"))
  tk : PySem.W.takesIn K (.builtin "object.__class__") = some true
  mo : PySem.W.mroIn K D (.type "object") = some true
/-- isinstance(e, c), e the error at a -/
def rHeld (K : PySem.W.Frag) (D a : Addr) (d : Option Addr) : List V → Hp → VK → Prop := fun xs H Q => ∃ (dd c : Addr) (fs : List (Str × V)) (b : Bool),
  xs = [.ref a, .ref c] ∧ d = some dd ∧ H dd = some (.xd fs) ∧ PySem.W.kitOne K (.ref D) (.ref c) = some b ∧ Q (.bl b) H
theorem call_held {X : Cx} {a D : Addr} {oe : Obj} {d : Option Addr} {pn : List (Addr × Obj)} (C : HeldC X.K D) (hz : Zc (.ref D) d oe)
    (hf : ∃ vs, oe.data = .fields vs) : CallR (X.suite a ((a, oe) :: pn)) (.builtin "isinstance") (rHeld X.K D a d) := by
  intro pins s σ H xs us Q I r h
  obtain ⟨dd, c, fs, b, rfl, rfl, hd, e, q⟩ := h
  cases r with
  | cons rx rr =>
    cases rr with
    | cons rt rr =>
      cases rr
      cases rx
      cases rt
      obtain ⟨hget, _⟩ := I.pin (a, oe) (List.mem_append.mpr (Or.inl List.mem_cons_self))
      obtain ⟨vs, hv⟩ := hf
      obtain ⟨mA, ⟨od, es, ep, ho, _⟩, _⟩ := (show ObjOk X.prog X.w H s.heap dd (.xd fs) from I.hok dd _ hd)
      have J : PySem.W.InstAt s.heap a oe D (some od) := by
        refine ⟨hget, hz.1, ?_, ?_⟩
        · unfold PySem.W.notCls
          rw [hv]
        · rw [hz.2]
          exact ho
      refine PySem.W.kia_one (PySem.W.kitx_exc C.cl C.ga C.gg C.sb C.ca C.sp C.tk C.mo) I.kIn J e (fun z => by cases z) (fun tk => ?_)
      exact ⟨.bl b, H, I.kept (t' := tk) (fun _ _ z => z), rfl, q⟩
/-! ### methods that raise, called within a try -/
section
variable {X : Cx} {CX : CXT} {k : Nat} {f C : Addr} {fd : FuncData} {ps : List Str} {sp : Sp}
  {E : L2.St → XK} {m : Str} {pos apos : Pos} {e o : Expr} {es : List Expr} {kws : List Keyword} {ta : TE} {t tk : TA}
def tMethT (C : Addr) (m : Str) (sp : Sp) (E : L2.St → XK) (ta : TE) (t : TA) : TE := fun σ H Q => ta σ H fun x H1 => ∃ a dx fs,
  x = .ref a ∧ H1 a = some (.ins C dx fs) ∧ fs.lookup m = none ∧ t σ H1 fun vs H2 => sp (x :: vs) H2 Q (E σ)
theorem pe_methT {pl : Sem Bool} (he : PE X o ta) (c : Cls X.K C) (hm : Meth X.K C m f)
    (F : FnOk X.prog X.w X.K X.mg X.base CX k f fd ps sp) (hr : Room k X.A) (hb : Binds X.K fd ps [])
    (hx : ∀ σ, PassesAt CX X σ (E σ)) (ha : PA X (e :: es) t)
    (hst : starEach (e :: es) X.env = (false, eval e X.env) :: starEach es X.env := by rfl)
    (hpl : (backTo pos (starEach es X.env)).any (·.1) = false := by rfl)
    (ht : eval (.Call (.Attribute o m apos) (e :: es) [] pos) X.env = (do
      let ov ← eval o X.env
      standAt apos.atName
      let (f, first) ← holding [ov] (getMethod ov m pl)
      callWith pos f first (backTo pos (starEach (e :: es) X.env)) (backToKw pos (keywordEach [] X.env))) := by rfl) :
    PE X (.Call (.Attribute o m apos) (e :: es) [] pos) (tMethT C m sp E ta t) := by
  refine ⟨fun pins s σ H Q I h => PySem.W.methodCall_KW (pl := pl) (thn (he.run pins s σ H _ I h) ?_) ht⟩
  rintro u s1 ⟨x, H1, I1, rx, a, dx, fs, rfl, ea, l, q⟩
  cases rx
  refine getmeth_ok I1 ea c hm l ?_
  refine PySem.W.callWith_K (first := [.ref a]) (h₀ := X.base) I.ok.mod.kin hm.kp (thn (ha.run pos pins s1 σ H1 _ I1 q) ?_) hst hpl
  rintro us s2 ⟨vs, H2, I2, r, q2⟩
  exact ⟨I2.kIn, run_fnS (us := .ref a :: us) (vs := .ref a :: vs) F hr hb (hx σ) I2 (.cons rfl r) q2⟩
end
end Mq
namespace Mq
open PySem PySem.Spec PyProof.Rows L2
section
variable {X : Cx} {CX : CXT} {k : Nat} {f C : Addr} {fd : FuncData} {ps ks : List Str} {sp : Sp}
  {E : L2.St → XK} {m : Str} {pos apos : Pos} {o : Expr} {kws : List Keyword} {ta : TE} {tk : TA}
  {g : List Value → List Value → List Value} {gV : List V → List V → List V}
def tMethK (C : Addr) (m : Str) (many : Nat) (sp : Sp) (gV : List V → List V → List V) (E : L2.St → XK) (ta : TE) (tk : TA) : TE := fun σ H Q => ta σ H fun x H1 => ∃ a dx fs,
  x = .ref a ∧ H1 a = some (.ins C dx fs) ∧ fs.lookup m = none ∧ tk σ H1 fun zs H2 => zs.length = many ∧ sp (gV [x] zs) H2 Q (E σ)
/-- o.m(k = v, ..), what is raised being wished for at the slots as they stand -/
theorem pe_methK {pl : Sem Bool} (he : PE X o ta) (c : Cls X.K C) (hm : Meth X.K C m f)
    (F : FnOk X.prog X.w X.K X.mg X.base CX k f fd ps sp) (hr : Room k X.A) (hb : KBn X.K fd ps 1 ks g gV)
    (hx : ∀ σ, PassesAt CX X σ (E σ)) (hkw : PK X kws tk)
    (hall : (backToKw pos (keywordEach kws X.env)).all (·.1.isSome) = true := by rfl)
    (hks : (backToKw pos (keywordEach kws X.env)).filterMap (·.1) = ks := by rfl)
    (hpl : ((backTo pos (starEach [] X.env)).any (·.1) || (backToKw pos (keywordEach kws X.env)).any (·.1.isNone)) = false := by rfl)
    (ht : eval (.Call (.Attribute o m apos) [] kws pos) X.env = (do
      let ov ← eval o X.env
      standAt apos.atName
      let (f, first) ← holding [ov] (getMethod ov m pl)
      callWith pos f first (backTo pos (starEach [] X.env)) (backToKw pos (keywordEach kws X.env))) := by rfl) :
    PE X (.Call (.Attribute o m apos) [] kws pos) (tMethK C m ks.length sp gV E ta tk) := by
  refine ⟨fun pins s σ H Q I h => PySem.W.methodCall_KW (pl := pl) (thn (he.run pins s σ H _ I h) ?_) ht⟩
  rintro u s1 ⟨x, H1, I1, rx, a, dx, fs, rfl, ea, l, q⟩
  cases rx
  refine getmeth_ok I1 ea c hm l ?_
  refine PySem.W.callWith_KW0 (first := [.ref a]) (h₀ := X.base) I.ok.mod.kin hm.kp hall (thn (hkw.run pos pins s1 σ H1 _ I1 q) ?_) hpl
  rintro ws s2 ⟨zs, H2, I2, rz, hl, q2⟩
  refine ⟨I2.kIn, ?_⟩
  rw [hks]
  have r1 : Vals [V.ref a] [Value.ref a] := .cons rfl .nil
  have r2 := hb.rel r1 rz
  have lw : ws.length = ks.length := rz.length.symm.trans hl
  show wpAny _ _ (call (.ref f) [.ref a] (ks.zip ws)) _ _ _
  refine wpAny_call (codeAny_mono (F.run X.A X.stack s2 H2 ⟨[.ref a], ks.zip ws⟩ (g [.ref a] ws) (gV [.ref a] zs) Q (E σ) hr I2.env0
    (hb.to s2 [.ref a] ws I2.kIn rfl lw) r2 q2) (fun r s' hq => ?_))
  match r, hq with
  | .error er, hq => exact hx σ pins H2 s2 er s' I2 hq
  | .ok (.ret u), hq => exact I2.after hq
  | .ok .next, hq => exact hq.elim
  | .ok .brk, hq => exact hq.elim
  | .ok .cont, hq => exact hq.elim
end
end Mq

namespace Mq
open PySem PySem.Spec PyProof.Rows L2
open SX (S)
/-! ### what the module leaves of the built-in names -/
structure Blt (mg : Str → Option Value) : Prop where
  len : mg "len" = none
  range : mg "range" = none
  isi : mg "isinstance" = none
  all : mg "all" = none
  any : mg "any" = none
  int : mg "int" = none
  str : mg "str" = none
  bool : mg "bool" = none
  tuple : mg "tuple" = none
  list : mg "list" = none
  repr : mg "repr" = none
  enumerate : mg "enumerate" = none
/-! ### heaps that keep what was told -/
theorem same_new {H : Hp} {p : Addr} {o : HO} (h : H p = none) : Same H (upd H p o) := fun b u e => by
  rw [upd_ne (ne_of_none e h)]
  exact e
theorem Same.tup {K : PySem.W.Frag} {H H' : Hp} {a : Addr} {xs : List V} (e : Same H H') (h : SqT K H a xs) : SqT K H' a xs := by
  rcases h with (h | ⟨o, h⟩) | h
  · exact Or.inl (Or.inl (e _ _ h))
  · exact Or.inl (Or.inr ⟨o, e _ _ h⟩)
  · exact Or.inr h
mutual
theorem Dg.same {K : PySem.W.Frag} {H H' : Hp} (e : Same H H') : ∀ {v : V} {d : PyData}, Dg K H v d → Dg K H' v d
  | _, _, .non => .non
  | _, _, .bl b => .bl b
  | _, _, .int i => .int i
  | _, _, .str x => .str x
  | _, _, .lst n h a => .lst n (e.seq h) (DgAll.same e a)
  | _, _, .tup h a => .tup (Same.tup e h) (DgAll.same e a)
  | _, _, .dct h a => .dct (e _ _ h) (DgKv.same e a)
theorem DgAll.same {K : PySem.W.Frag} {H H' : Hp} (e : Same H H') : ∀ {v : List V} {d : List PyData}, DgAll K H v d → DgAll K H' v d
  | _, _, .nil => .nil
  | _, _, .cons a b => .cons (Dg.same e a) (DgAll.same e b)
theorem DgKv.same {K : PySem.W.Frag} {H H' : Hp} (e : Same H H') : ∀ {v : List (Key × V)} {d : List (PyData × PyData)}, DgKv K H v d → DgKv K H' v d
  | _, _, .nil => .nil
  | _, _, .cons a b => .cons (Dg.same e a) (DgKv.same e b)
end
mutual
theorem Dp.same {K : PySem.W.Frag} {H H' : Hp} (e : Same H H') : ∀ {v : V} {d : PyData}, Dp K H v d → Dp K H' v d
  | _, _, .non => .non
  | _, _, .bl b => .bl b
  | _, _, .int i => .int i
  | _, _, .str x => .str x
  | _, _, .lst h a => .lst (e.seq h) (DpAll.same e a)
  | _, _, .tup h a => .tup (Same.tup e h) (DpAll.same e a)
theorem DpAll.same {K : PySem.W.Frag} {H H' : Hp} (e : Same H H') : ∀ {v : List V} {d : List PyData}, DpAll K H v d → DpAll K H' v d
  | _, _, .nil => .nil
  | _, _, .cons a b => .cons (Dp.same e a) (DpAll.same e b)
end
/-! ### the kind of a value -/
def kindOf : PyData → String
  | .none => "NoneType"
  | .bool _ => "bool"
  | .int _ => "int"
  | .str _ => "str"
  | .list _ => "list"
  | .tuple _ => "tuple"
  | .dict _ => "dict"
theorem ty_list {K : PySem.W.Frag} {H : Hp} {a : Addr} {xs : List V} (h : SqL K H a xs) : TyX K H (.ref a) (.type "list") := by
  rcases h with (h | ⟨o, h⟩) | ⟨o, its, n, h, hc, _⟩
  · exact .base (.lst h)
  · exact .base (.frz h)
  · exact .kList h hc
theorem ty_tup {K : PySem.W.Frag} {H : Hp} {a : Addr} {xs : List V} (h : SqT K H a xs) : TyX K H (.ref a) (.type "tuple") := by
  rcases h with (h | ⟨o, h⟩) | ⟨o, its, n, h, hc, _⟩
  · exact .base (.tup h)
  · exact .fTuple h
  · exact .kTuple h hc
theorem Dg.ty {K : PySem.W.Frag} {H : Hp} {v : V} {d : PyData} (h : Dg K H v d) : TyX K H v (.type (kindOf d)) := by
  cases h with
  | non => exact .base .non
  | bl b => exact .base (.bl b)
  | int i => exact .base (.int i)
  | str x => exact .base (.str x)
  | lst _ h _ => exact ty_list h
  | tup h _ => exact ty_tup h
  | dct h _ => exact .base (.dK h)
theorem Dp.ty {K : PySem.W.Frag} {H : Hp} {v : V} {d : PyData} (h : Dp K H v d) : TyX K H v (.type (kindOf d)) := by
  cases h with
  | non => exact .base .non
  | bl b => exact .base (.bl b)
  | int i => exact .base (.int i)
  | str x => exact .base (.str x)
  | lst h _ => exact ty_list h
  | tup h _ => exact ty_tup h
/-- isinstance(x, T), T a built-in class -/
theorem isi_ty {K : PySem.W.Frag} {x : V} {a b : String} {r : Bool} {H : Hp} {Q : VK} (h : TyX K H x (.type a)) (e : kitB a b = some r) (q : Q (.bl r) H) :
    rIsi K [x, .ty b] H Q := ⟨x, .ty b, _, _, r, rfl, .ty b, h, kit_ty e, q⟩
theorem kit_known (a b : String) (ha : a ∈ ["NoneType", "bool", "int", "str", "list", "tuple", "dict"]) (hb : b ∈ ["str", "tuple", "list", "bool", "dict"]) :
    kitB a b = some (decide (a = b)) := by
  have h : (["NoneType", "bool", "int", "str", "list", "tuple", "dict"].all fun a => ["str", "tuple", "list", "bool", "dict"].all fun b =>
      decide (kitB a b = some (decide (a = b)))) = true := by decide +kernel
  have h1 := List.all_eq_true.mp h a ha
  have h2 := List.all_eq_true.mp h1 b hb
  exact of_decide_eq_true h2
theorem kind_in (d : PyData) : kindOf d ∈ ["NoneType", "bool", "int", "str", "list", "tuple", "dict"] := by
  cases d <;> simp [kindOf]
/-! ### comprehensions whose turns change nothing -/
theorem walk_rng {n : Nat} : Walk (Itr 0 n) n (fun _ => True) (YFn fun i => .int (i : Nat)) :=
  walk_range.mono (fun _ h => h) (fun i H x H' _ _ y => ⟨y.1, by rw [y.2]; show V.int (0 + (i : Int)) = V.int (i : Int); rw [Int.zero_add]⟩)
theorem lc_map {wi : TI} {J : It} {n : Nat} {G : Hp → Prop} {Y : Nat → Hp → V → Hp → Prop} (w : Walk J n G Y) {g : TG} {te : TE} {vs : List Nat} {σ : L2.St} {H0 : Hp} {Q : VK}
    (f : Nat → V) (hn : n ≤ 1000000) (hw : ∀ R : It → Hp → Prop, (∀ H, Same H0 H → G H → R J H) → wi σ H0 R) (hG : ∀ H H', Same H0 H → G H → Same H H' → G H')
    (hs : ∀ i x H H' (R : V → Hp → Prop), i < n → Same H0 H → Y i H x H' → (∀ H4, Same H H4 → R (f i) H4) →
      g x (wipe σ vs) H' fun σ2 H2 => wipe σ2 vs = wipe σ vs ∧ te σ2 H2 R)
    (hd : ∀ D H', H0 D = none → Same H0 H' → H' D = some (.lst ((List.range n).map f)) → Q (.ref D) H') : tLc wi g tYes te vs σ H0 Q := by
  refine hw _ (fun H sm0 hg0 D hD => ?_)
  have hD0 := sm0.free hD
  let Nx : Nat → Hp → Prop := fun i H' => Same H H' ∧ H' D = some (.lst ((List.range i).map f))
  refine ⟨fun i m H' => m = n - i ∧ i ≤ n ∧ Nx i H', ⟨n, by simp, Nat.zero_le _, same_new hD, upd_same⟩, ?_⟩
  rintro i m H' ⟨rfl, hi, sm, hl⟩
  have hg := hG H H' sm0 hg0 sm
  have sm' := sm0.trans sm
  by_cases hlt : i < n
  · refine Or.inr ⟨w.goes i H' hlt hg, Nx (i + 1), fun H'' p => ⟨n - (i + 1), by omega, rfl, hlt, p⟩, fun x H'' y => ?_⟩
    refine hs i x H' H'' _ hlt sm' (w.yields i H' x H'' hlt hg y) (fun H4 s4 => ?_)
    refine ⟨_, s4 D _ hl, ?_, fun b o e => ?_, ?_⟩
    · rw [List.length_map, List.length_range]
      exact Nat.lt_of_lt_of_le (Nat.lt_of_lt_of_le hlt hn) (by decide)
    · rw [upd_ne (ne_of_none e hD)]
      exact s4 b o (sm b o e)
    · rw [upd_same, List.range_succ, List.map_append]
      rfl
  · have e : i = n := by omega
    subst e
    exact Or.inl ⟨w.stops H' hg, hd D H' hD0 sm' hl⟩
end Mq

namespace Mq
open PySem PySem.Spec PyProof.Rows L2
/-! ### enumerate(v), v a tuple -/
theorem meets_enumT (l : Addr) (items : Array Value) :
    Meets (Builtin.«enumerate.__new__» ⟨[.type "enumerate", .ref l], []⟩) (fun _ R s => s.heap.IsTuple l items ∧
      R (.ok (.ret (.ref (s.heap.push { cls := .type "tuple_iterator", data := .fields #[.ref l, .int 0 0] }).objs.size)))
        { s with heap := (s.heap.push { cls := .type "tuple_iterator", data := .fields #[.ref l, .int 0 0] }).push { cls := .type "enumerate", data := .fields #[.none, .bool false, .ref s.heap.objs.size, rawInt 0, .none, .none] } }) :=
  .of_wp fun prog w A R s h => by
    obtain ⟨hp, g, d, tk, os⟩ := s; obtain ⟨hl, h⟩ := h
    have hsub := sub_enumerate
    have hL : Heap.IsTuple (Shared.heap ⟨hp, g, d, tk, os⟩) l items := hl
    obtain ⟨o, ho, _⟩ := id hl
    wp_walk using AutoSeq1.wpAny_loadPart' ho
    refine wpAny_stack_any fun st => wpAny_pure ?_
    split
    · rename_i c _ _ _ _ _
      cases (c == Value.type "enumerate")
      · wp_walk using AutoSeq1.wpAny_loadPart' ho, wpAny_pyIter_tuple hL
        exact ⟨_, rfl, h⟩
      · wp_walk using AutoSeq1.wpAny_loadPart' ho, wpAny_pyIter_tuple hL
        exact ⟨_, rfl, h⟩
    · wp_walk using AutoSeq1.wpAny_loadPart' ho, wpAny_pyIter_tuple hL
      exact ⟨_, rfl, h⟩
theorem call_enumT {prog : Program} {w : World} {A : Around} {E : Value → Shared → Prop} {s : Shared} {l : Addr} {items : Array Value} {Q : Value → Shared → Prop} (hL : s.heap.IsTuple l items)
    (h : ∀ h', IsEnum h' (s.heap.objs.size + 1) s.heap.objs.size 0 .none → h'.IsTupleIter s.heap.objs.size l 0 → h'.objs.size = s.heap.objs.size + 2 →
      (∀ b o, s.heap.get? b = some o → h'.get? b = some o) → Q (.ref (s.heap.objs.size + 1)) { s with heap := h' }) :
    wpAny (model prog w) A (call (.type "enumerate") [.ref l]) Q E s := by
  refine callType_new F.called_enumerate (by decide) (F.typeCall_enumerate_1 _) (F.newCall_enumerate_1 _) (fun obj => F.args_object_init_2 obj _) F.entry_enumerate_new
    (meets_enumT l items) ⟨hL, ?_⟩
  have hz : (s.heap.push { cls := .type "tuple_iterator", data := .fields #[.ref l, .int 0 0] }).objs.size = s.heap.objs.size + 1 := Heap.size_push ..
  show _ ∧ _
  rw [hz]
  have he : IsEnum ((s.heap.push { cls := .type "tuple_iterator", data := .fields #[.ref l, .int 0 0] }).push
      { cls := .type "enumerate", data := .fields #[.none, .bool false, .ref s.heap.objs.size, rawInt 0, .none, .none] }) (s.heap.objs.size + 1) s.heap.objs.size 0 .none := by
    have := Heap.get?_push_size (s.heap.push { cls := .type "tuple_iterator", data := .fields #[.ref l, .int 0 0] })
      (o := { cls := .type "enumerate", data := .fields #[.none, .bool false, .ref s.heap.objs.size, rawInt 0, .none, .none] }) rfl
    rw [hz] at this; exact this
  refine ⟨⟨_, he, rfl⟩, h _ he ⟨_, Heap.get?_push_of_some _ (Heap.get?_push_size _ rfl), rfl, rfl⟩ (by rw [Heap.size_push, hz]) fun b o x => Heap.get?_push_of_some _ (Heap.get?_push_of_some _ x)⟩
/-- the tuple at a, each item in a new pair -/
def Iee (K : PySem.W.Frag) (a : Addr) : It :=
  ⟨fun i H => ∃ (xs : List V) (x : V), SqT K H a xs ∧ xs[i]? = some x, fun i H v H' => ∃ T x, v = .ref T ∧ H T = none ∧ H' = upd H T (.tup [.int (i : Nat), x]) ∧ ∀ xs, SqT K H a xs → xs[i]? = some x, fun i H => ∃ xs : List V, SqT K H a xs ∧ xs.length ≤ i⟩
theorem turn_enumT {P : Program} {w : World} {K : PySem.W.Frag} {elts : List Expr} {kk : Nat} {tpos : Pos} (a e it : Addr) (ha : a ≠ it) (hae : a ≠ e) :
    Turn P w K (.Tuple elts kk tpos) (Iee K a) [e, it] e (fun i h => (∃ old, IsEnum h e it ((i : Nat) : Int) old) ∧ h.IsTupleIter it a i ∧ e ≠ it) where
  mem := by simp
  obj := fun i h st b hb => by
    obtain ⟨⟨old, he⟩, ⟨o, ho, hc, hd⟩, _⟩ := st
    have e' : b = e ∨ b = it := by simpa using hb
    rcases e' with z | z
    · rw [z]; exact ⟨_, he, fun v q => nomatch q⟩
    · rw [z]; exact ⟨o, ho, fun v q => by rw [hd] at q; cases q⟩
  keep := fun i h h' st k => let ⟨⟨old, he⟩, hi, hne⟩ := st; ⟨⟨old, k e (by simp) _ he⟩, hi.at fun o q => k it (by simp) o q, hne⟩
  item := by
    intro X hP hw hK hc i pins s σ H E I hf st hg
    subst hP hw hK
    obtain ⟨⟨old, he⟩, hit, hne⟩ := st
    obtain ⟨xs, x, hq, hx⟩ := hg
    obtain ⟨its, rv, p, hz⟩ := I.tuple hq
    obtain ⟨u, hu, ru⟩ := rv.get hx
    have hel : e < s.heap.objs.size := Heap.lt_size he
    have hil : it < s.heap.objs.size := by obtain ⟨_, q, _⟩ := hit; exact Heap.lt_size q
    have hp : s.heap.IsTuple a its.toArray := p
    have hu' : its.toArray[i]? = some u := by simpa using hu
    have hlt : i < its.toArray.size := by
      rw [List.size_toArray]
      rcases Nat.lt_or_ge i its.length with h | h
      · exact h
      · rw [List.getElem?_eq_none h] at hu
        cases hu
    refine wpAny_pyNext_enum_itemD (n := its.toArray.size) (Draws.tuple (show X.A.in1.handled = none from I.ok.hd hc) it a ha its.toArray) he ⟨hit, hp⟩ hlt hne (by simp only [List.mem_cons, List.not_mem_nil, or_false, not_or]; exact ⟨hne, fun z => hae z.symm⟩) fun x' h' tk hP' ho hst' hT hsz hk => ?_
    have ex : x' = u := by
      have h1 : some x' = some u := by rw [← hP', hu']
      exact Option.some.inj h1
    subst ex
    refine ⟨_, rfl, wpAny_letOwnedTupleGo_enum (s := { s with heap := h', toks := tk + 1 }) ho fun h'' he' sb => ?_⟩
    have hT2 : h''.get? s.heap.objs.size = some { cls := .type "tuple", data := .seq #[.int i tk, x'] } := (sb.2 _ (Nat.ne_of_gt hel)).trans hT
    have new : ObjOk X.prog X.w (upd H s.heap.objs.size (.tup [.int (i : Nat), x])) h'' s.heap.objs.size (.tup [.int (i : Nat), x]) :=
      ⟨by show 2 ≤ sizeLine; decide, [.int i tk, x'], .cons ⟨_, rfl⟩ (.cons ru .nil), ⟨_, hT2, rfl, _, rfl⟩⟩
    have I1 : Inv X pins σ (upd H s.heap.objs.size (.tup [.int (i : Nat), x])) { s with heap := h'', toks := tk + 1 } :=
      I.turnedNew (ch := [e, it]) (fun b ob hb q => (sb.2 b (fun z => hb (by simp [z]))).trans (hk b ob (fun z => hb (by simp [z])) (fun z => hb (by simp [z])) q)) hf (Nat.le_refl _) new
    refine ⟨.ref s.heap.objs.size, _, I1, rfl, ⟨_, x, rfl, I.hok.fresh (Nat.le_refl _), rfl, fun ys hy => by rw [I.tuple_inj hy hq]; exact hx⟩, ⟨⟨x', ?_⟩, hst'.1.at fun o q => (sb.2 it (Ne.symm hne)).trans q, hne⟩, fun b hb => ?_⟩
    · have e1 : ((i + 1 : Nat) : Int) = (i : Int) + 1 := by omega
      rw [e1]; exact he'
    · have hb' : b < s.heap.objs.size := by
        have e' : b = e ∨ b = it := by simpa using hb
        rcases e' with z | z
        · rw [z]; exact hel
        · rw [z]; exact hil
      rw [upd_ne (Nat.ne_of_lt hb')]
      exact (hf b hb).1
  done := by
    intro X hP hw hK hc i pins s σ H E I hf st hg
    subst hP hw hK
    obtain ⟨⟨old, he⟩, hit, hne⟩ := st
    obtain ⟨xs, hq, hx⟩ := hg
    obtain ⟨its, rv, p, hz⟩ := I.tuple hq
    obtain ⟨f0, f1, f2, f3, f4, f5⟩ := hf it (by simp)
    have hl := rv.length
    have hp : s.heap.IsTuple a its.toArray := p
    have D : Draws X.prog X.w X.A.in1 it [it, a] i (fun _ _ => False) (fun j h => j = i ∧ h.IsTupleIter it a i ∧ h.IsTuple a its.toArray) :=
      { live := fun _ _ st => let ⟨o, ho, _⟩ := st.2.1; ⟨o, ho⟩
        frame := fun _ _ _ st hk => ⟨st.1, st.2.1.at fun o e => hk it (by simp) o e, st.2.2.at fun o e => hk a (by simp) o e⟩
        item := fun j s Q E hi st hQ => absurd hi (by rw [st.1]; exact Nat.lt_irrefl i)
        done := fun s Q E st hE => wpAny_nextOf_tuple_end (show X.A.in1.handled = none from I.ok.hd hc) st.2.1 st.2.2 (by simp; omega) hE }
    exact wpAny_pyNext_enum_endD D he ⟨rfl, hit, hp⟩ fun h' eb => ⟨rfl, I.turned (t' := s.toks) (fun b o hb q => eb b o hb q) f0 f1 f3 f4 f5⟩
  self := fun A i s Q E st h => let ⟨⟨_, he⟩, _⟩ := st; wpAny_pyIter_enum he h
def iEnumT (K : PySem.W.Frag) (ta : TA) : TI := fun σ H R => ta σ H fun vs H1 => ∃ a xs, vs = [.ref a] ∧ SqT K H1 a xs ∧ R (Iee K a) H1
theorem pi_enumT {X : Cx} {e : Expr} {ta : TA} {p pos tpos : Pos} {elts : List Expr} {kk : Nat} (hg : Gl X "enumerate") (hm : X.mg "enumerate" = none) (ha : PA X [e] ta) (hs : starEach [e] X.env = [(false, eval e X.env)] := by rfl) :
    PI X (.Tuple elts kk tpos) (.Call (.Name "enumerate" p) [e] [] pos) (iEnumT X.K ta) := by
  refine ⟨fun pins s σ H R I h => ?_⟩
  refine Call_ (ld_blt I hg hm boot_enumerate (PyProof.Rows.callWith_type1 (thn (ha.run pos pins s σ H _ I h) fun us s1 ⟨vs, H1, I1, r1, q1⟩ => ?_) hs rfl))
  obtain ⟨a, xs, ex, hq, q⟩ := q1
  subst ex
  cases r1 with
  | cons r rr =>
    cases rr
    cases r
    obtain ⟨its, rv, p', hz⟩ := I1.tuple hq
    have hp : s1.heap.IsTuple a its.toArray := p'
    have hal : a < s1.heap.objs.size := by obtain ⟨_, q, _⟩ := hp; exact Heap.lt_size q
    refine call_enumT hp fun h' he hit hsz hk => wpAny_pyIter_enum he ?_
    have I2 : Inv X pins σ H1 { s1 with heap := h' } := I1.kept (t' := s1.toks) hk
    refine ⟨s1.heap.objs.size + 1, [s1.heap.objs.size + 1, s1.heap.objs.size], _, _, H1, rfl, I2, turn_enumT a (s1.heap.objs.size + 1) s1.heap.objs.size (Nat.ne_of_lt hal) (Nat.ne_of_lt (Nat.lt_succ_of_lt hal)), ⟨⟨.none, he⟩, hit, Nat.succ_ne_self _⟩, fun b hb => ?_, q⟩
    have e' : b = s1.heap.objs.size + 1 ∨ b = s1.heap.objs.size := by simpa using hb
    have hle : s1.heap.objs.size ≤ b := by
      rcases e' with z | z
      · rw [z]; exact Nat.le_add_right _ _
      · rw [z]; exact Nat.le_refl _
    exact I1.fpOk hle (I1.hok.fresh hle)
/-- the same, where what is walked is laid on the way -/
theorem lc_mapJ {wi : TI} {n : Nat} {Y : Nat → Hp → V → Hp → Prop} {g : TG} {te : TE} {vs : List Nat} {σ : L2.St} {H0 : Hp} {Q : VK}
    (f : Nat → V) (hn : n ≤ 1000000) (hw : ∀ R : It → Hp → Prop, (∀ (J : It) (G : Hp → Prop) (H : Hp), Walk J n G Y → (∀ H', G H → Same H H' → G H') → Same H0 H → G H → R J H) → wi σ H0 R)
    (hs : ∀ i x H H' (R : V → Hp → Prop), i < n → Same H0 H → Y i H x H' → (∀ H4, Same H H4 → R (f i) H4) →
      g x (wipe σ vs) H' fun σ2 H2 => wipe σ2 vs = wipe σ vs ∧ te σ2 H2 R)
    (hd : ∀ D H', H0 D = none → Same H0 H' → H' D = some (.lst ((List.range n).map f)) → Q (.ref D) H') : tLc wi g tYes te vs σ H0 Q := by
  refine hw _ (fun J G H w hG sm0 hg0 D hD => ?_)
  have hD0 := sm0.free hD
  let Nx : Nat → Hp → Prop := fun i H' => Same H H' ∧ H' D = some (.lst ((List.range i).map f))
  refine ⟨fun i m H' => m = n - i ∧ i ≤ n ∧ Nx i H', ⟨n, by simp, Nat.zero_le _, same_new hD, upd_same⟩, ?_⟩
  rintro i m H' ⟨rfl, hi, sm, hl⟩
  have hg := hG H' hg0 sm
  have sm' := sm0.trans sm
  by_cases hlt : i < n
  · refine Or.inr ⟨w.goes i H' hlt hg, Nx (i + 1), fun H'' p => ⟨n - (i + 1), by omega, rfl, hlt, p⟩, fun x H'' y => ?_⟩
    refine hs i x H' H'' _ hlt sm' (w.yields i H' x H'' hlt hg y) (fun H4 s4 => ?_)
    refine ⟨_, s4 D _ hl, ?_, fun b o e => ?_, ?_⟩
    · rw [List.length_map, List.length_range]
      exact Nat.lt_of_lt_of_le (Nat.lt_of_lt_of_le hlt hn) (by decide)
    · rw [upd_ne (ne_of_none e hD)]
      exact s4 b o (sm b o e)
    · rw [upd_same, List.range_succ, List.map_append]
      rfl
  · have e : i = n := by omega
    subst e
    exact Or.inl ⟨w.stops H' hg, hd D H' hD0 sm' hl⟩
end Mq

namespace Mq
open PySem PySem.Spec PyProof.Rows L2
/-- a comprehension without a test over what w walks -/
theorem lc_yes {J : It} {n : Nat} {G : Hp → Prop} {Y : Nat → Hp → V → Hp → Prop} (w : Walk J n G Y) {g : TG} {te : TE} {vs : List Nat} {σ : L2.St} {H1 : Hp} {D : Addr} {Qd : Hp → Prop} (Pv : Nat → Hp → Prop)
    (h0 : Pv 0 (upd H1 D (.lst []))) (hG : ∀ i H, i ≤ n → Pv i H → G H)
    (hs : ∀ i x H H', i < n → Pv i H → Y i H x H' → g x (wipe σ vs) H' fun σ2 H2 => wipe σ2 vs = wipe σ vs ∧ te σ2 H2 fun y H4 => ∃ acc, H4 D = some (.lst acc) ∧ acc.length < sizeLine ∧ Pv (i + 1) (upd H4 D (.lst (acc ++ [y]))))
    (hd : ∀ H, Pv n H → Qd H) :
    ∃ W : Nat → Nat → Hp → Prop, (∃ m, W 0 m (upd H1 D (.lst []))) ∧ ∀ i m H, W i m H →
      (J.stop i H ∧ Qd H) ∨ (J.go i H ∧ ∃ Nx : Hp → Prop, (∀ H', Nx H' → ∃ m', m' < m ∧ W (i + 1) m' H') ∧ ∀ x H', J.yld i H x H' → g x (wipe σ vs) H' fun σ2 H2 => wipe σ2 vs = wipe σ vs ∧ tYes σ2 H2 fun b H3 =>
        if b = true then te σ2 H3 fun y H4 => ∃ acc, H4 D = some (.lst acc) ∧ acc.length < sizeLine ∧ Nx (upd H4 D (.lst (acc ++ [y]))) else Nx H3) :=
  lc_it (tt := tYes) w Pv h0 hG hs hd
end Mq

namespace Mq
open PySem PySem.Spec PyProof.Rows L2
/-- isinstance(e, c), the held error's class being told among the values -/
theorem call_heldX {X : Cx} {a D : Addr} {oe : Obj} {cls : Value} {d : Option Addr} {pn : List (Addr × Obj)} (C : HeldC X.K D) (hz : Zc cls d oe)
    (hf : ∃ vs, oe.data = .fields vs) : CallR (X.suite a ((a, oe) :: pn)) (.builtin "isinstance") (fun xs H Q => cls = .ref D ∧ rHeld X.K D a d xs H Q) := by
  intro pins s σ H xs us Q I r h
  obtain ⟨rfl, h⟩ := h
  exact call_held C hz hf pins s σ H xs us Q I r h
/-! ### lists whose items are equal, told by != and == -/
theorem op_neFl {X : Cx} (hu : X.A.units + 64 < cLine) : OpR X (compareOp .NotEq) (fun x y H Q => ∃ a b xs, x = .ref a ∧ y = .ref b ∧ SqL X.K H a xs ∧ SqL X.K H b xs ∧ (∀ v ∈ xs, flatB v = true) ∧ Q (.bl false) H) := by
  intro pins s σ H x y v u Q I rx ry h
  obtain ⟨a, b, xs, rfl, rfl, ha, hb, hf, q⟩ := h
  cases (show v = Value.ref a from rx)
  cases (show u = Value.ref b from ry)
  obtain ⟨us, r1, p1, _⟩ := I.list ha
  obtain ⟨ws, r2, p2, _⟩ := I.list hb
  have hsz : us.toArray.size = ws.toArray.size := by
    rw [List.size_toArray, List.size_toArray, ← r1.length, ← r2.length]
  have he : ∀ j (h1 : j < us.toArray.size) (h2 : j < ws.toArray.size), SeqAt.EqAt X.A.in1 s us.toArray[j] ws.toArray[j] true := by
    intro j h1 h2
    have h1' : j < us.length := by simpa using h1
    have h2' : j < ws.length := by simpa using h2
    have e1 : xs.length = us.length := r1.length
    obtain ⟨u1, g1, k1⟩ := r1.get (i := j) (x := xs[j]'(by omega)) (List.getElem?_eq_getElem (by omega))
    obtain ⟨u2, g2, k2⟩ := r2.get (i := j) (x := xs[j]'(by omega)) (List.getElem?_eq_getElem (by omega))
    rw [List.getElem?_eq_getElem h1'] at g1
    rw [List.getElem?_eq_getElem h2'] at g2
    have k := eqAt_same (A := X.A.in1) (s := s) k1 k2 (hf _ (List.getElem_mem _))
    cases g1
    cases g2
    simpa using k
  have k := SeqAt.RcNeAt.lists (A := X.A) (s := s) (e := fun _ => true) p1.isList p2.isList hsz (by omega) he
  have z : (!(List.range us.toArray.size).all fun _ => true) = false := by rw [show ((List.range us.toArray.size).all fun _ => true) = true from List.all_eq_true.mpr fun _ _ => rfl]; rfl
  rw [z] at k
  exact k X.prog X.w _ _ ⟨.bl false, H, I, rfl, q⟩
/-- list(v), v a tuple: the new list is told to stand elsewhere than the modules -/
theorem call_lsN {X : Cx} : CallR X (.type "list") (fun xs H Q => ∃ p ys, xs = [.ref p] ∧ SqT X.K H p ys ∧ ∀ l, H l = none → l ≠ sysModules → Q (.ref l) (upd H l (.lst ys))) := by
  intro pins s σ H xs us Q I r hw
  obtain ⟨t, ys, rfl, ht, k⟩ := hw
  cases r with
  | cons r0 rr =>
    cases rr
    cases r0
    obtain ⟨its, rv, pl, hz⟩ := I.tuple ht
    have hlen := rv.length
    obtain ⟨o, ho, hc, n, hd⟩ := pl
    refine call_list_seq t (.inr rfl) ho hc hd (fun h2 c2 kp e => ?_) (by rw [List.size_toArray]; omega)
    have new : ObjOk X.prog X.w (upd H s.heap.objs.size (.lst ys)) h2 s.heap.objs.size (.lst ys) := ⟨hz, its, c2, rv, e⟩
    refine ⟨.ref _, upd H s.heap.objs.size (.lst ys), ?_, rfl, ?_⟩
    · exact I.laid (t' := s.toks) kp (Nat.le_refl _) new
    · exact k _ (I.hok.fresh (Nat.le_refl _)) (Nat.ne_of_gt (Inv.low I))
/-! ### how long what is shown can be -/
theorem small_short : ∀ n : Nat, n ≤ 1000 → (PyData.int (n : Nat)).shown.length ≤ 13 ∧ (PyData.int (n : Nat)).showable = true ∧ (PyData.int (n : Nat)).weight ≤ 20 := by
  have h : ((List.range 1001).all fun n => decide ((PyData.int (n : Nat)).shown.length ≤ 13) && ((PyData.int (n : Nat)).showable && decide ((PyData.int (n : Nat)).weight ≤ 20))) = true := by decide +kernel
  intro n hn
  have h1 := List.all_eq_true.mp h n (List.mem_range.mpr (by omega))
  obtain ⟨a, b⟩ := Bool.and_eq_true_iff.mp h1
  obtain ⟨b, c⟩ := Bool.and_eq_true_iff.mp b
  exact ⟨of_decide_eq_true a, b, of_decide_eq_true c⟩
theorem shown_fits {d : PyData} (h1 : d.canLay0 = true) (h2 : d.depth ≤ 64) (h3 : d.weight ≤ 1000000) (h4 : d.intsShort 13 = true) : d.shown.length ≤ sizeLine := by
  have h5 : d.weight ≤ 2 ^ 20 := Nat.le_trans h3 (by decide)
  have hl : PyData.layable0 d = true := by
    unfold PyData.layable0
    rw [h1, decide_eq_true h2, decide_eq_true h5]
    rfl
  exact Nat.le_trans (PyProof.Rows.shown_le13 hl h4) (by decide)
end Mq

namespace Mq
open PySem PySem.Spec PyProof.Rows L2
/-! ### a text, so many times -/
def repS (x : Str) (n : Nat) : Str := ⟨(List.replicate n x.cps).foldl (· ++ ·) #[]⟩
theorem op_mulS {X : Cx} : OpR X (binaryOp .Mult) (fun x y H Q => ∃ (z : Str) (n : Nat), x = .str z ∧ y = .int (n : Nat) ∧ 2 ≤ n ∧ n ≤ 1000 ∧ 1 ≤ z.length ∧ z.length ≤ 1000 ∧ (repS z n).length ≤ sizeLine ∧ Q (.str (repS z n)) H) := by
  intro pins s σ H x y v u Q I rx ry h
  obtain ⟨z, n, rfl, rfl, h1, h2, h3, h4, h5, q⟩ := h
  obtain ⟨t, rfl⟩ := rx
  obtain ⟨t', rfl⟩ := ry
  have hm : z.length * n ≤ 1000 * 1000 := Nat.mul_le_mul h4 h2
  have e1 : decide (((n : Nat) : Int) < -(2 ^ 63 : Int)) = false := decide_eq_false (by omega)
  have e2 : decide (((n : Nat) : Int) ≥ 2 ^ 63) = false := decide_eq_false (by omega)
  have e3 : (((n : Nat) : Int) == 1) = false := by
    rw [beq_eq_false_iff_ne]
    omega
  have e4 : (z.length == 0) = false := by
    rw [beq_eq_false_iff_ne]
    omega
  refine P.mul_str (by rw [e1, e2]; rfl) (fun _ _ => ?_) (fun _ _ => ?_) ?_
  · have hd : (1000 : Int) ≤ (2 ^ 63 - 1) / ((n : Nat) : Int) := by
      refine (Int.le_ediv_iff_mul_le (by omega)).mpr ?_
      omega
    omega
  · rw [Int.toNat_natCast]
    unfold Builtin.Str.tooLong
    exact decide_eq_false (by have : (1000 * 1000 : Nat) ≤ sizeLine := by decide
                              omega)
  · rw [if_neg (show ¬ ((n : Nat) : Int) < 1 by omega), e3, e4]
    exact ⟨h5, .str (repS z n), H, I.tok _, ⟨_, rfl⟩, q⟩
end Mq

namespace Mq
open PySem PySem.Spec PyProof.Rows L2
/-! ### the keys of a dict, drawn one by one, whatever they are -/
section
variable {prog : Program} {w : World} {d : Addr} {o : Obj} {es : Array DictEntry} {ep : Nat}
theorem walks_keys {A : Around} (hh : A.handled = none) (I : Addr) (hne : d ≠ I) (hdat : o.data = .dict es ep) :
    Walks prog w A I [I, d] [I] es.size (fun i v => ∃ en, es[i]? = some en ∧ v = en.key) (fun i h => h.IsKeyIter I d i es.size ep ∧ h.get? d = some o) where
  sub := fun b hb => by rw [List.mem_singleton.mp hb]; exact List.mem_cons_self
  frame := fun i h h' st k => ⟨st.1.at fun x e => k I (by simp) x e, k d (by simp) o st.2⟩
  item := fun i s Q E hi st hQ => by
    refine next_key_item st.1 st.2 hdat rfl (en := es[i]) (by simp [hi]) fun h' st' sb => ?_
    refine hQ _ h' s.toks ⟨es[i], by simp [hi], rfl⟩ ⟨st', (sb.2 d hne).trans st.2⟩ fun b x hb e => ?_
    exact (sb.2 b fun z => hb (by rw [z]; exact List.mem_singleton.mpr rfl)).trans e
  done := fun s Q E st hQ => by
    refine next_key_end hh st.1 st.2 hdat rfl (Nat.le_refl _) fun h' eb => hQ h' s.toks fun b x hb e => ?_
    exact eb b x (fun z => hb (by rw [z]; exact List.mem_singleton.mpr rfl)) e
  self := fun i s Q E st h => by
    have t := st.1.typeIs
    refine wpAny_pyIter_slot t F.slot_dict_keyiterator_iter (wpAny_call_entry F.slot_dict_keyiterator_iter t F.entry_dict_keyiterator_iter ?_ (F.args_dict_keyiterator_iter_1 _))
    refine wpAny_pure ⟨.ref I, rfl, "dict_keyiterator", _, t, F.slot_dict_keyiterator_next.lookup, h⟩
theorem src_keys (hd : (d == sysModules) = false) (hx : o.ExactDict) (hdat : o.data = .dict es ep) :
    PySem.W.KdlSrc prog w "dict" d d es.size (fun i v => ∃ en, es[i]? = some en ∧ v = en.key) (fun h => h.get? d = some o) where
  type := fun _ ho => ⟨o, ho, hx.1⟩
  there := fun _ ho => ⟨Heap.lt_size ho, Heap.lt_size ho⟩
  keep := fun _ _ ho k => k d (.inl rfl) o ho
  notList := by decide
  notTuple := by decide
  hint := fun _ _ _ _ ho hq => PySem.W.kdl_hint_dict ⟨o, ho, hx.1⟩ hq
  iter := fun A s hh ho => ⟨_, _, (fun _ _ hq => iter_keys hd ho hx hdat hq), walks_keys hh s.heap.objs.size (Nat.ne_of_lt (Heap.lt_size ho)) hdat,
    ⟨⟨_, Heap.get?_push_size _ rfl, rfl, rfl⟩, Heap.get?_push_of_some _ ho⟩⟩
end
/-! ### sorted(d), d's keys being pairs of texts -/
def txt2 (x : Str × Str) : List (Int ⊕ List Nat) := [.inr x.1.cps.toList, .inr x.2.cps.toList]
/-- ahead as pairs -/
def ltSS (x y : Str × Str) : Bool := (PyProof.Rows.listOrd PyProof.Rows.itemOrd).blt (txt2 x) (txt2 y)
def prOf (H : Hp) (b : Addr) : Str × Str := match H b with
  | some (.tup [.str x, .str y]) => (x, y)
  | _ => ("", "")
def rSortedT : List V → Hp → VK → Prop := fun xs H Q => ∃ (a : Addr) (kvs : List (List Key × V)) (ks : List (Str × Str)), xs = [.ref a] ∧ Rd H a (.dT kvs) ∧ kvs.map (·.1) = ks.map (fun x => [Sum.inr x.1, Sum.inr x.2]) ∧
  ∀ (as qs : List Addr) (p : Addr), as.map (prOf H) = ks → (∀ b ∈ as, H b = some (.tup [.str (prOf H b).1, .str (prOf H b).2])) → qs.Perm as →
    (∀ i j, i ≤ j → j < qs.length → ltSS (prOf H (qs.getD j 0)) (prOf H (qs.getD i 0)) = false) → H p = none → Q (.ref p) (upd H p (.lst (qs.map V.ref)))
theorem key_pair {H : Hp} {b : Addr} {x : Str × Str} (h : H b = some (.tup (([Sum.inr x.1, Sum.inr x.2] : List Key).map kV))) : prOf H b = x ∧ H b = some (.tup [.str (prOf H b).1, .str (prOf H b).2]) := by
  have h' : H b = some (.tup [.str x.1, .str x.2]) := h
  have e : prOf H b = x := by
    unfold prOf
    rw [h']
  rw [e]
  exact ⟨rfl, h'⟩
/-- the keys' own tuples -/
theorem keys_rel {H : Hp} : ∀ {kvs : List (List Key × V)} {xs : List (List Key × Addr × Value)} {ks : List (Str × Str)}, KT H kvs xs → kvs.map (·.1) = ks.map (fun x => [Sum.inr x.1, Sum.inr x.2]) →
    (xs.map fun q => q.2.1).map (prOf H) = ks ∧ ∀ b ∈ xs.map (fun q => q.2.1), H b = some (.tup [.str (prOf H b).1, .str (prOf H b).2])
  | [], [], [], .nil, _ => ⟨rfl, fun b h => by cases h⟩
  | p :: kvs, q :: xs, k :: ks, .cons h t, e => by
    obtain ⟨h1, h2, _⟩ := h
    injection e with e1 e2
    obtain ⟨a, b⟩ := keys_rel t e2
    have e1' : p.1 = [Sum.inr k.1, Sum.inr k.2] := e1
    rw [e1'] at h2
    obtain ⟨c, d⟩ := key_pair h2
    refine ⟨?_, fun x hx => ?_⟩
    · show prOf H q.2.1 :: _ = _
      rw [c, a]
    · rcases List.mem_cons.mp hx with e | hx
      · rw [e]
        exact d
      · exact b x hx
  | [], [], _ :: _, .nil, e => by cases e
  | _ :: _, _ :: _, [], .cons _ _, e => by cases e
def unR : Value → Addr
  | .ref b => b
  | _ => 0
theorem perm_back {l : List Value} {as : List Addr} (h : l.Perm (as.map Value.ref)) : ∃ qs : List Addr, l = qs.map Value.ref ∧ qs.Perm as := by
  refine ⟨l.map unR, ?_, ?_⟩
  · rw [List.map_map]
    have e : ∀ v ∈ l, (Value.ref ∘ unR) v = v := fun v hv => by
      obtain ⟨b, _, rfl⟩ := List.mem_map.mp (h.mem_iff.mp hv)
      rfl
    have e2 : l.map (Value.ref ∘ unR) = l.map id := List.map_congr_left fun v hv => e v hv
    rw [e2, List.map_id]
  · have h2 := h.map unR
    rw [List.map_map] at h2
    have e : as.map (unR ∘ Value.ref) = as := by
      have e3 : as.map (unR ∘ Value.ref) = as.map id := List.map_congr_left fun v _ => rfl
      rw [e3, List.map_id]
    rw [e] at h2
    exact h2
section
variable {X : Cx}
theorem call_sortedT (hcalm : X.calm = true) : CallR X (.builtin "sorted") rSortedT := by
  intro pins s σ H xs us Q I r q
  obtain ⟨a, kvs, ks, rfl, hd, hks, q⟩ := q
  obtain ⟨u, rfl, rx⟩ := vals1 r
  cases rx
  obtain ⟨z, lo, vs, rel, o, es, ep, ho, hx, hdat, hes, nd⟩ := (show ObjOk X.prog X.w H s.heap a (.dT kvs) from rd_of I.hok hd)
  obtain ⟨k1, k2⟩ := keys_rel rel hks
  have hlen : es.size = vs.length := by
    rw [← Array.length_toList, hes, List.length_map]
  have hz : kvs.length = vs.length := Paired.length rel
  refine Calls.call_function_entry PyProof.Rows.kind_sorted PyProof.Rows.plain_sorted PyProof.Rows.entry_sorted (PyProof.Rows.args_sorted1 _) ?_
  unfold Builtin.«sorted»
  refine wpAny_bind (m := checkCount "sorted" 1 1 _) (wpAny_pure ?_)
  refine wpAny_bind (PySem.W.kdu_collect (A := X.A.in1) (src_keys lo hx hdat) (I.ok.hd hcalm) ho (by omega) fun h' tk acc hk hacc => ?_)
  have hacc' : acc.toList = (vs.map fun q => q.2.1).map Value.ref := by
    refine List.ext_getElem? fun j => ?_
    rw [List.map_map, List.getElem?_map]
    have e1 : acc.toList[j]? = acc[j]? := Array.getElem?_toList
    rw [e1]
    cases h1 : acc[j]? with
    | none =>
      have h2 : acc.size ≤ j := Array.getElem?_eq_none_iff.mp h1
      rw [hacc.1, hlen] at h2
      rw [List.getElem?_eq_none h2]
      rfl
    | some v =>
      obtain ⟨en, h2, rfl⟩ := hacc.2 j v h1
      have h3 : es.toList[j]? = some en := by rw [Array.getElem?_toList]; exact h2
      rw [hes, List.getElem?_map] at h3
      cases h4 : vs[j]? with
      | none => rw [h4] at h3; cases h3
      | some y =>
        rw [h4] at h3
        cases h3
        rfl
  have I1 : Inv X pins σ H { s with heap := h', toks := tk } := I.kept hk
  generalize vs.map (fun q => q.2.1) = as at k1 k2 hacc'
  have hal : acc.toList.length ≤ sizeLine := by
    rw [Array.length_toList, hacc.1]
    omega
  refine wpAny_bind (wpAny_newList ?_ hal)
  rw [hacc']
  rw [hacc'] at hal
  have hoL : (h'.push (seqObj "list" (as.map Value.ref).toArray 0)).get? h'.objs.size = some (seqObj "list" (as.map Value.ref).toArray 0) := Heap.get?_push_size _ rfl
  show wpAny _ _ _ _ _ { s with heap := h'.push (seqObj "list" (as.map Value.ref).toArray 0), toks := tk }
  have obj : ∀ b ∈ as, ∃ (ob : Obj) (n : Nat) (t1 t2 : Tok), (h'.push (seqObj "list" (as.map Value.ref).toArray 0)).get? b = some ob ∧ ob.cls = .type "tuple" ∧ ob.data = .seq #[.str (prOf H b).1 t1, .str (prOf H b).2 t2] n := by
    intro b hb
    obtain ⟨_, its, r2, ob, h1, h2, n, h3⟩ := (show ObjOk X.prog X.w H h' b (.tup [.str (prOf H b).1, .str (prOf H b).2]) from I1.hok b _ (k2 b hb))
    obtain ⟨u1, u2, rfl, ⟨t1, rfl⟩, ⟨t2, rfl⟩⟩ := vals2 r2
    exact ⟨ob, n, t1, t2, Heap.get?_push_of_some _ h1, h2, h3⟩
  have tups : ∀ l : List Addr, (∀ b ∈ l, b ∈ as) → ∃ fs, PyProof.Rows.TupsOf (h'.push (seqObj "list" (as.map Value.ref).toArray 0)) (fun _ => true) (l.map Value.ref) fs := by
    intro l
    induction l with
    | nil => intro _; exact ⟨[], .nil⟩
    | cons b l ih =>
      intro hl
      obtain ⟨fs, hf⟩ := ih fun x hx => hl x (List.mem_cons_of_mem _ hx)
      obtain ⟨ob, n, t1, t2, h1, h2, h3⟩ := obj b (hl b List.mem_cons_self)
      exact ⟨_, .cons ⟨b, ob, _, n, rfl, h1, h2, h3, rfl, fun z => (by cases z), fun _ => ⟨_, _, rfl⟩⟩ hf⟩
  obtain ⟨fs, hfs⟩ := tups as fun _ h => h
  have keyC : ∀ b ∈ as, PyProof.Rows.G.tupKeyC (h'.push (seqObj "list" (as.map Value.ref).toArray 0)) (fun _ => true) (.ref b) = some (txt2 (prOf H b)) := by
    intro b hb
    obtain ⟨ob, n, t1, t2, h1, h2, h3⟩ := obj b hb
    have hT : PyProof.Rows.G.isTupObj (h'.push (seqObj "list" (as.map Value.ref).toArray 0)) (.ref b) = true := by
      simp [PyProof.Rows.G.isTupObj, h1, h2]
    unfold PyProof.Rows.G.tupKeyC
    rw [if_pos hT]
    simp only [PyProof.Rows.tupKey, h1, h3]
    rfl
  refine wpAny_bind (wpAny_holding (wpAny_call_entry PyProof.Rows.slot_list_sort ⟨_, hoL, rfl⟩ PyProof.Rows.entry_list_sort
    (PyProof.Rows.G.list_sort_tups (s := { s with heap := h'.push (seqObj "list" (as.map Value.ref).toArray 0), toks := tk }) hoL hfs
      (fun v hv => ?_) hal fun st' hp hs _ => ⟨_, rfl, ?_⟩) (PyProof.Rows.args_list_sort _)))
  · obtain ⟨b, hb, rfl⟩ := List.mem_map.mp hv
    exact ⟨_, keyC b hb⟩
  obtain ⟨e', he'⟩ := PyProof.Rows.sortedHeap_at (vs := as.map Value.ref) (out := (arrOf st').map (·.2)) hoL
  have mem : ∀ p ∈ (arrOf st').toList, p.1 = p.2 ∧ p.1 ∈ as.map Value.ref := fun p hp' => by
    have h1 := (hp.toList.mem_iff (a := p)).mp hp'
    rw [PyProof.Rows.pairsOf_toList] at h1
    exact PyProof.Rows.mem_zip_self h1
  obtain ⟨qs, hq1, hq2⟩ : ∃ qs : List Addr, (arrOf st').toList.map (·.2) = qs.map Value.ref ∧ qs.Perm as := by
    have h1 : ((arrOf st').toList.map (·.2)).Perm (as.map Value.ref) := by
      have h2 := hp.toList.map (fun p : Keyed => p.2)
      rw [PyProof.Rows.pairsOf_toList] at h2
      rw [List.map_snd_zip (Nat.le_refl _)] at h2
      exact h2
    exact perm_back h1
  have hql : qs.length = as.length := hq2.length_eq
  have harr : (arrOf st').toList.length = qs.length := by
    have h1 := congrArg List.length hq1
    rw [List.length_map, List.length_map] at h1
    exact h1
  have hkk : ∀ i, i < qs.length → PyProof.Rows.KK (PyProof.Rows.G.tupKindC (h'.push (seqObj "list" (as.map Value.ref).toArray 0)) fun _ => true) (arrOf st') i = txt2 (prOf H (qs.getD i 0)) := by
    intro i hi
    have hi' : i < (arrOf st').toList.length := by omega
    have e1 : (arrOf st')[i]? = some (arrOf st').toList[i] := by
      rw [← Array.getElem?_toList, List.getElem?_eq_getElem hi']
    obtain ⟨m1, m2⟩ := mem _ (List.getElem_mem hi')
    have e2 : (arrOf st').toList[i].2 = .ref (qs.getD i 0) := by
      have h1 := congrArg (fun l => l[i]?) hq1
      simp only [List.getElem?_map, List.getElem?_eq_getElem hi', List.getElem?_eq_getElem hi, Option.map_some, Option.some.injEq] at h1
      rw [h1, List.getD_eq_getElem?_getD, List.getElem?_eq_getElem hi]
      rfl
    have hin : qs.getD i 0 ∈ as := hq2.mem_iff.mp (by rw [List.getD_eq_getElem?_getD, List.getElem?_eq_getElem hi]; exact List.getElem_mem hi)
    unfold PyProof.Rows.KK
    rw [e1]
    show (PyProof.Rows.G.tupKeyC _ _ (arrOf st').toList[i].1).getD _ = _
    rw [m1, e2, keyC _ hin]
    rfl
  have srt : ∀ i j, i ≤ j → j < qs.length → ltSS (prOf H (qs.getD j 0)) (prOf H (qs.getD i 0)) = false := by
    intro i j hij hj
    have h1 := hs i j hij (by rw [PyProof.Rows.pairsOf_size, List.length_map]; omega)
    rw [hkk i (by omega), hkk j hj] at h1
    exact h1
  have vals : ∀ l : List Addr, Vals (l.map V.ref) (l.map Value.ref) := fun l => by
    induction l with
    | nil => exact .nil
    | cons b l ih => exact .cons rfl ih
  have hout : ((arrOf st').map (·.2)).toList = qs.map Value.ref := by
    rw [Array.toList_map]
    exact hq1
  have hz2 : (qs.map V.ref).length ≤ sizeLine := by
    rw [List.length_map, hql]
    rw [List.length_map] at hal
    exact hal
  have fresh := I1.hok.fresh (Nat.le_refl h'.objs.size)
  refine wpAny_pure ⟨.ref h'.objs.size, rfl, .ref h'.objs.size, upd H h'.objs.size (.lst (qs.map V.ref)), ?_, rfl, q as qs _ k1 k2 hq2 srt fresh⟩
  refine I1.laid (t' := tk) (fun b u e => ?_) (Nat.le_refl _) ⟨hz2, qs.map Value.ref, e', vals qs, ?_⟩
  · have hb : b < h'.objs.size := Heap.lt_size e
    rw [PyProof.Rows.sortedHeap_old (Nat.ne_of_lt hb) (by rw [size_push']; exact Nat.lt_succ_of_lt hb)]
    exact Heap.get?_push_of_some _ e
  · rw [← hout, Array.toArray_toList]
    exact he'
end
end Mq

namespace Mq
open PySem PySem.Spec PyProof.Rows L2
/-! ### pairs of texts by <= -/
def leSS (x y : Str × Str) : Bool := if x.1 = y.1 then (if x.2 = y.2 then true else !decide (y.2.cps.toList < x.2.cps.toList)) else !decide (y.1.cps.toList < x.1.cps.toList)
theorem op_leSS {X : Cx} (hu : X.A.units < cLine) : OpR X (compareOp .LtE) (fun x y H Q => ∃ (a b : Addr) (p q : Str × Str), x = .ref a ∧ y = .ref b ∧ SqT X.K H a [.str p.1, .str p.2] ∧ SqT X.K H b [.str q.1, .str q.2] ∧ Q (.bl (leSS p q)) H) := by
  intro pins s σ H x y v u Q I rx ry h
  obtain ⟨a, b, p, q, rfl, rfl, ha, hb, k⟩ := h
  cases rx
  cases ry
  obtain ⟨its, r1, p1, _⟩ := I.tuple ha
  obtain ⟨its2, r2, p2, _⟩ := I.tuple hb
  obtain ⟨u1, u2, rfl, ⟨t1, rfl⟩, ⟨t2, rfl⟩⟩ := vals2 r1
  obtain ⟨v1, v2, rfl, ⟨t3, rfl⟩, ⟨t4, rfl⟩⟩ := vals2 r2
  let e : Nat → Bool := fun j => if j = 0 then p.1 == q.1 else p.2 == q.2
  let r : Nat → Bool := fun j => if j = 0 then !decide (q.1.cps.toList < p.1.cps.toList) else !decide (q.2.cps.toList < p.2.cps.toList)
  have R := Ob.RcOp.tuples_le (A := X.A) (s := s) (e := e) (r := r) p1 p2 hu (fun j h1 h2 => by
    match j, h1, h2 with
    | 0, _, _ => exact SeqAt.EqAt.str_str _ _ _ _
    | 1, _, _ => exact SeqAt.EqAt.str_str _ _ _ _) (fun j h1 h2 _ => by
    match j, h1, h2 with
    | 0, _, _ => exact fun prog w E Q h => PySem.P.le_str h
    | 1, _, _ => exact fun prog w E Q h => PySem.P.le_str h)
  have z : Ob.lexAt e r (decide ((#[Value.str p.1 t1, Value.str p.2 t2] : Array Value).size ≤ (#[Value.str q.1 t3, Value.str q.2 t4] : Array Value).size)) 0 2 = leSS p q := by
    show (if (p.1 == q.1) = true then (if (p.2 == q.2) = true then true else !decide (q.2.cps.toList < p.2.cps.toList)) else !decide (q.1.cps.toList < p.1.cps.toList)) = _
    unfold leSS
    simp only [beq_iff_eq]
  have R2 : Ob.RcOp .LtE X.A s (.ref a) (.ref b) (leSS p q) := by
    rw [← z]
    exact R
  exact R2 X.prog X.w X.xe (EP X pins σ Q) ⟨.bl _, H, I, rfl, k⟩
/-- ahead, so not behind or equal -/
theorem le_of_lt {x y : Str × Str} (h : ltSS y x = true) : leSS x y = false := by
  have h1 : (decide (y.1.cps.toList < x.1.cps.toList) || (!decide (x.1.cps.toList < y.1.cps.toList) && (decide (y.2.cps.toList < x.2.cps.toList) || (!decide (x.2.cps.toList < y.2.cps.toList) && false)))) = true := h
  unfold leSS
  by_cases c1 : y.1.cps.toList < x.1.cps.toList
  · rw [if_neg (fun z => by rw [z] at c1; exact List.lt_irrefl _ c1), decide_eq_true c1]
    rfl
  · rw [decide_eq_false c1] at h1
    simp only [Bool.false_or, Bool.and_false, Bool.or_false, Bool.and_eq_true, Bool.not_eq_true', decide_eq_false_iff_not, decide_eq_true_eq] at h1
    obtain ⟨c2, c3⟩ := h1
    have e : x.1.cps.toList = y.1.cps.toList := List.le_antisymm (List.not_lt.mp c1) (List.not_lt.mp c2)
    have e' : x.1 = y.1 := congrArg Str.mk (Array.ext' e)
    rw [if_pos e', if_neg (fun z => by rw [z] at c3; exact List.lt_irrefl _ c3), decide_eq_true c3]
    rfl
theorem lt_of {x y : Str × Str} (h : ltSS x y = false) (n : x ≠ y) : ltSS y x = true := by
  cases e : ltSS y x with
  | true => rfl
  | false =>
    have h2 : txt2 x = txt2 y := (PyProof.Rows.listOrd PyProof.Rows.itemOrd).total _ _ h e
    injection h2 with h3 h4
    injection h4 with h5 _
    have e1 : x.1.cps.toList = y.1.cps.toList := by injection h3
    have e2 : x.2.cps.toList = y.2.cps.toList := by injection h5
    exact (n (Prod.ext (congrArg Str.mk (Array.ext' e1)) (congrArg Str.mk (Array.ext' e2)))).elim
end Mq

namespace Mq
open PySem PySem.Spec PyProof.Rows L2
/-! ### (number, text) < (number, text) -/
def ltIS (x y : Int × Str) : Bool := if x.1 = y.1 then (if x.2 = y.2 then false else decide (x.2.cps.toList < y.2.cps.toList)) else decide (x.1 < y.1)
theorem op_ltIS {X : Cx} (hu : X.A.units < cLine) : OpR X (compareOp .Lt) (fun x y H Q => ∃ (a b : Addr) (p q : Int × Str), x = .ref a ∧ y = .ref b ∧ SqT X.K H a [.int p.1, .str p.2] ∧ SqT X.K H b [.int q.1, .str q.2] ∧ Q (.bl (ltIS p q)) H) := by
  intro pins s σ H x y v u Q I rx ry h
  obtain ⟨a, b, p, q, rfl, rfl, ha, hb, k⟩ := h
  cases rx
  cases ry
  obtain ⟨its, r1, p1, _⟩ := I.tuple ha
  obtain ⟨its2, r2, p2, _⟩ := I.tuple hb
  obtain ⟨u1, u2, rfl, ⟨t1, rfl⟩, ⟨t2, rfl⟩⟩ := vals2 r1
  obtain ⟨v1, v2, rfl, ⟨t3, rfl⟩, ⟨t4, rfl⟩⟩ := vals2 r2
  let e : Nat → Bool := fun j => if j = 0 then p.1 == q.1 else p.2 == q.2
  let r : Nat → Bool := fun j => if j = 0 then decide (p.1 < q.1) else decide (p.2.cps.toList < q.2.cps.toList)
  have R := Ob.RcOp.tuples_lt (A := X.A) (s := s) (e := e) (r := r) p1 p2 hu (fun j h1 h2 => by
    match j, h1, h2 with
    | 0, _, _ => exact SeqAt.EqAt.int_int _ _ _ _
    | 1, _, _ => exact SeqAt.EqAt.str_str _ _ _ _) (fun j h1 h2 _ => by
    match j, h1, h2 with
    | 0, _, _ => exact Ob.RcOp.lt_int _ _ _ _
    | 1, _, _ => exact fun prog w E Q h => PySem.P.lt_str h)
  have z : Ob.lexAt e r (decide ((#[Value.int p.1 t1, Value.str p.2 t2] : Array Value).size < (#[Value.int q.1 t3, Value.str q.2 t4] : Array Value).size)) 0 2 = ltIS p q := by
    show (if (p.1 == q.1) = true then (if (p.2 == q.2) = true then false else decide (p.2.cps.toList < q.2.cps.toList)) else decide (p.1 < q.1)) = _
    unfold ltIS
    simp only [beq_iff_eq]
  have R2 : Ob.RcOp .Lt X.A s (.ref a) (.ref b) (ltIS p q) := by
    rw [← z]
    exact R
  exact R2 X.prog X.w X.xe (EP X pins σ Q) ⟨.bl _, H, I, rfl, k⟩
end Mq

namespace Mq
open PySem PySem.Spec PyProof.Rows L2
/-! ### f(k = v, ..), all by keyword -/
theorem vals_rev : ∀ {vs : List V} {us : List Value}, Vals vs us → Vals vs.reverse us.reverse
  | _, _, .nil => .nil
  | _, _, .cons r h => by
    rw [List.reverse_cons, List.reverse_cons]
    exact (vals_rev h).append (.cons r .nil)
def rev0 {α : Type} (_ ws : List α) : List α := ws.reverse
section
variable {X : Cx} {CX : CXT} {k : Nat} {f : Addr} {fd : FuncData} {ps ks : List Str} {sp : Sp}
  {E : L2.St → XK} {x : Str} {p pos : Pos} {kws : List Keyword} {tk : TA}
  {g : List Value → List Value → List Value} {gV : List V → List V → List V}
def tCallK0 (m : Nat) (sp : Sp) (gV : List V → List V → List V) (E : L2.St → XK) (tk : TA) : TE := fun σ H Q => tk σ H fun zs H2 => zs.length = m ∧ sp (gV [] zs) H2 Q (E σ)
theorem pe_callK0 (F : FnOk X.prog X.w X.K X.mg X.base CX k f fd ps sp) (hr : Room k X.A) (hg : Gl X x) (hm : X.mg x = some (.ref f)) (hk : PySem.W.keepIn X.K (.ref f) = true) (hb : KBn X.K fd ps 0 ks g gV)
    (hx : ∀ σ, PassesAt CX X σ (E σ)) (hkw : PK X kws tk)
    (hall : (backToKw pos (keywordEach kws X.env)).all (·.1.isSome) = true := by rfl)
    (hks : (backToKw pos (keywordEach kws X.env)).filterMap (·.1) = ks := by rfl)
    (hdb : (x == ("__debug__" : Str)) = false := by decide)
    (hpl : ((backTo pos (starEach [] X.env)).any (·.1) || (backToKw pos (keywordEach kws X.env)).any (·.1.isNone)) = false := by rfl) :
    PE X (.Call (.Name x p) [] kws pos) (tCallK0 ks.length sp gV E tk) := by
  refine ⟨fun pins s σ H Q I h => ?_⟩
  refine wpAny_Call_Name_kw (ld_glob I hg hm ?_ hdb)
  refine PySem.W.callWith_KW0 (h₀ := X.base) I.ok.mod.kin hk hall ?_ hpl
  refine thn (hkw.run pos pins s σ H _ I h) fun ws s2 ⟨zs, H2, I2, rz, hl, q2⟩ => ⟨I2.kIn, ?_⟩
  rw [hks]
  have r2 := hb.rel (vs := []) (us := []) .nil rz
  have lw : ws.length = ks.length := rz.length.symm.trans hl
  refine wpAny_call (codeAny_mono (F.run X.A X.stack s2 H2 ⟨[], ks.zip ws⟩ (g [] ws) (gV [] zs) Q (E σ) hr I2.env0
    (hb.to s2 [] ws I2.kIn rfl lw) r2 q2) (fun r s' hq => ?_))
  match r, hq with
  | .error er, hq => exact hx σ pins H2 s2 er s' I2 hq
  | .ok (.ret u), hq => exact I2.after hq
  | .ok .next, hq => exact hq.elim
  | .ok .brk, hq => exact hq.elim
  | .ok .cont, hq => exact hq.elim
end
theorem kbn_rev2 {K : PySem.W.Frag} {x qual : Str} {st : Stmt} {f : Addr} {fd : FuncData} {p1 p2 : Str} (F : Fun K x qual st f fd)
    (h : ∀ (kV doc pm : Value) (an : Option Addr) (cdv ct : Value) (a b : Value), bindArgs (PySem.W.fnOf x qual (defArgs st) (defBody st) (defScope st) .none kV doc pm an cdv ct) ⟨[], [(p2, a), (p1, b)]⟩ = pure [(p1, b), (p2, a)]) :
    KBn K fd [p1, p2] 0 [p2, p1] rev0 rev0 := by
  obtain ⟨oc, od, kV, doc, pm, an, cdv, ct, osl, rfl, lk, hcd⟩ := F.ex
  refine ⟨fun s us ws _ h1 h2 => ?_, fun a b => vals_rev b⟩
  match us, ws, h1, h2 with
  | [], [a, b], _, _ => exact .of_eq (h kV doc pm an cdv ct a b)
theorem kbn_rev3 {K : PySem.W.Frag} {x qual : Str} {st : Stmt} {f : Addr} {fd : FuncData} {p1 p2 p3 : Str} (F : Fun K x qual st f fd)
    (h : ∀ (kV doc pm : Value) (an : Option Addr) (cdv ct : Value) (a b c : Value), bindArgs (PySem.W.fnOf x qual (defArgs st) (defBody st) (defScope st) .none kV doc pm an cdv ct) ⟨[], [(p3, a), (p2, b), (p1, c)]⟩ = pure [(p1, c), (p2, b), (p3, a)]) :
    KBn K fd [p1, p2, p3] 0 [p3, p2, p1] rev0 rev0 := by
  obtain ⟨oc, od, kV, doc, pm, an, cdv, ct, osl, rfl, lk, hcd⟩ := F.ex
  refine ⟨fun s us ws _ h1 h2 => ?_, fun a b => vals_rev b⟩
  match us, ws, h1, h2 with
  | [], [a, b, c], _, _ => exact .of_eq (h kV doc pm an cdv ct a b c)
end Mq

namespace Mq
open PySem PySem.Spec PyProof.Rows L2
/-- repr of a list or tuple without dicts in it, wherever it stands -/
def rRepP (K : PySem.W.Frag) : List V → Hp → VK → Prop := fun xs H Q => ∃ (a : Addr) (d : PyData), xs = [.ref a] ∧ Dp K H (.ref a) d ∧ d.showable = true ∧ d.hasDict = false ∧
  d.depth ≤ 40 ∧ d.shown.length ≤ sizeLine ∧ Q (.str d.shown) H
theorem call_repP {X : Cx} {k : Nat} (hr : Room k X.A) (gA : Still X.A) : CallR X (.builtin "repr") (rRepP X.K) := by
  intro pins s σ H xs us Q I r h
  obtain ⟨a, d, rfl, hd, hs, hz, hde, hl, q⟩ := h
  obtain ⟨u, rfl, rx⟩ := vals1 r
  have hu := hr.units
  obtain ⟨as, rd⟩ := Dp.reads I d _ _ hd rx
  cases rx
  exact repr_of_reads' rd hs (fun z => by rw [hz] at z; cases z) gA (by omega) (fun _ _ e => e) (fun h' u tk k => ⟨.str _, H, I.kept k, ⟨_, rfl⟩, q⟩) hl
/-- what a rule asks, told otherwise -/
theorem PE_imp {X : Cx} {e : Expr} {t t' : TE} (h : PE X e t) (i : ∀ σ H Q, t' σ H Q → t σ H Q) : PE X e t' := ⟨fun pins s σ H Q I q => h.run pins s σ H Q I (i σ H Q q)⟩
end Mq

namespace Lw
open PySem PySem.Spec PyProof.Rows L2 Mq
/-! ### where the defs stand -/
def topS (i : Nat) : Stmt := PySem.Challenge.pw_millhands_k03_letters_laid.main.body.getD i (.Pass ⟨0, 0, 0, 0⟩)
abbrev s_BadBook___init__ : Stmt := inClass (topS 2) 0
theorem sc_BadBook___init__ : FnScope ["self", "part"] ["self", "part"] (defScope s_BadBook___init__) := ⟨rfl, rfl, rfl, by decide +kernel, rfl, by decide +kernel, by decide +kernel⟩
abbrev s_BadText___init__ : Stmt := inClass (topS 3) 0
theorem sc_BadText___init__ : FnScope ["self", "line"] ["self", "line"] (defScope s_BadText___init__) := ⟨rfl, rfl, rfl, by decide +kernel, rfl, by decide +kernel, by decide +kernel⟩
abbrev s_BadWeb___init__ : Stmt := inClass (topS 4) 0
theorem sc_BadWeb___init__ : FnScope ["self", "thing"] ["self", "thing"] (defScope s_BadWeb___init__) := ⟨rfl, rfl, rfl, by decide +kernel, rfl, by decide +kernel, by decide +kernel⟩
abbrev s_is_letters : Stmt := topS 7
theorem sc_is_letters : FnScope ["thing", "letter"] ["thing"] (defScope s_is_letters) := ⟨rfl, rfl, rfl, by decide +kernel, rfl, by decide +kernel, by decide +kernel⟩
abbrev s_is_letter : Stmt := topS 8
theorem sc_is_letter : FnScope ["letters", "thing"] ["letters", "thing"] (defScope s_is_letter) := ⟨rfl, rfl, rfl, by decide +kernel, rfl, by decide +kernel, by decide +kernel⟩
abbrev s_is_word : Stmt := topS 9
theorem sc_is_word : FnScope ["letters", "thing", "letter"] ["letters", "thing"] (defScope s_is_word) := ⟨rfl, rfl, rfl, by decide +kernel, rfl, by decide +kernel, by decide +kernel⟩
abbrev s_is_ascending : Stmt := topS 10
theorem sc_is_ascending : FnScope ["parts", "k"] ["parts"] (defScope s_is_ascending) := ⟨rfl, rfl, rfl, by decide +kernel, rfl, by decide +kernel, by decide +kernel⟩
abbrev s_text_parts : Stmt := topS 11
theorem sc_text_parts : FnScope ["word", "text", "lines", "words"] ["word", "text"] (defScope s_text_parts) := ⟨rfl, rfl, rfl, by decide +kernel, rfl, by decide +kernel, by decide +kernel⟩
abbrev s_Book___init__ : Stmt := inClass (topS 13) 0
theorem sc_Book___init__ : FnScope ["self", "letters", "folds", "table", "ahead", "number", "fold"] ["self", "letters", "folds"] (defScope s_Book___init__) := ⟨rfl, rfl, rfl, by decide +kernel, rfl, by decide +kernel, by decide +kernel⟩
abbrev s_Book___len__ : Stmt := inClass (topS 13) 1
theorem sc_Book___len__ : FnScope ["self"] ["self"] (defScope s_Book___len__) := ⟨rfl, rfl, rfl, by decide +kernel, rfl, by decide +kernel, by decide +kernel⟩
abbrev s_Book___eq__ : Stmt := inClass (topS 13) 2
theorem sc_Book___eq__ : FnScope ["self", "other"] ["self", "other"] (defScope s_Book___eq__) := ⟨rfl, rfl, rfl, by decide +kernel, rfl, by decide +kernel, by decide +kernel⟩
abbrev s_Book___str__ : Stmt := inClass (topS 13) 3
theorem sc_Book___str__ : FnScope ["self", "lines", "last", "laid", "left"] ["self"] (defScope s_Book___str__) := ⟨rfl, rfl, rfl, by decide +kernel, rfl, by decide +kernel, by decide +kernel⟩
abbrev s_Book_read : Stmt := inClass (topS 13) 4
theorem sc_Book_read : FnScope ["cls", "text", "letters", "lines", "folds", "line", "fold"] ["cls", "text"] (defScope s_Book_read) := ⟨rfl, rfl, rfl, by decide +kernel, rfl, by decide +kernel, by decide +kernel⟩
abbrev s_Book_left_of : Stmt := inClass (topS 13) 5
theorem sc_Book_left_of : FnScope ["self", "last", "laid"] ["self", "last", "laid"] (defScope s_Book_left_of) := ⟨rfl, rfl, rfl, by decide +kernel, rfl, by decide +kernel, by decide +kernel⟩
abbrev s_is_fold : Stmt := topS 14
theorem sc_is_fold : FnScope ["letters", "thing"] ["letters", "thing"] (defScope s_is_fold) := ⟨rfl, rfl, rfl, by decide +kernel, rfl, by decide +kernel, by decide +kernel⟩
abbrev s_fold_read : Stmt := topS 15
theorem sc_fold_read : FnScope ["letters", "line", "words", "fold"] ["letters", "line"] (defScope s_fold_read) := ⟨rfl, rfl, rfl, by decide +kernel, rfl, by decide +kernel, by decide +kernel⟩
abbrev s_is_web : Stmt := topS 16
theorem sc_is_web : FnScope ["letters", "thing"] ["letters", "thing"] (defScope s_is_web) := ⟨rfl, rfl, rfl, by decide +kernel, rfl, by decide +kernel, by decide +kernel⟩
abbrev s_is_ahead : Stmt := topS 17
theorem sc_is_ahead : FnScope ["one", "other"] ["one", "other"] (defScope s_is_ahead) := ⟨rfl, rfl, rfl, by decide +kernel, rfl, by decide +kernel, by decide +kernel⟩
abbrev s_check_web : Stmt := topS 18
theorem sc_check_web : FnScope ["letters", "thing"] ["letters", "thing"] (defScope s_check_web) := ⟨rfl, rfl, rfl, by decide +kernel, rfl, by decide +kernel, by decide +kernel⟩
abbrev s_laid_on : Stmt := topS 19
theorem sc_laid_on : FnScope ["book", "web", "letter"] ["book", "web", "letter"] (defScope s_laid_on) := ⟨rfl, rfl, rfl, by decide +kernel, rfl, by decide +kernel, by decide +kernel⟩
abbrev s_led : Stmt := topS 20
theorem sc_led : FnScope ["book", "web", "row", "letter"] ["book", "web", "row"] (defScope s_led) := ⟨rfl, rfl, rfl, by decide +kernel, rfl, by decide +kernel, by decide +kernel⟩
abbrev s_laid_behind : Stmt := topS 21
theorem sc_laid_behind : FnScope ["book", "web", "letter", "left"] ["book", "web", "letter"] (defScope s_laid_behind) := ⟨rfl, rfl, rfl, by decide +kernel, rfl, by decide +kernel, by decide +kernel⟩
abbrev s__law_deck : Stmt := topS 23
theorem sc__law_deck : FnScope ["_law_script", "_law_cells", "_law_mixed", "_law_cell"] ["_law_script"] (defScope s__law_deck) := ⟨rfl, rfl, rfl, by decide +kernel, rfl, by decide +kernel, by decide +kernel⟩
abbrev s__law_draw : Stmt := topS 24
theorem sc__law_draw : FnScope ["_law_deck_here", "_law_below", "_law_mixed", "_law_cell"] ["_law_deck_here", "_law_below"] (defScope s__law_draw) := ⟨rfl, rfl, rfl, by decide +kernel, rfl, by decide +kernel, by decide +kernel⟩
abbrev s__law_pick : Stmt := topS 25
theorem sc__law_pick : FnScope ["_law_deck_here", "_law_some"] ["_law_deck_here", "_law_some"] (defScope s__law_pick) := ⟨rfl, rfl, rfl, by decide +kernel, rfl, by decide +kernel, by decide +kernel⟩
abbrev s__law_world : Stmt := topS 26
theorem sc__law_world : FnScope ["_law_deck_here", "_law_letters", "_law_left", "_law_some", "_law_menu", "_law_x", "_law_y", "_law_it"] ["_law_deck_here"] (defScope s__law_world) := ⟨rfl, rfl, rfl, by decide +kernel, rfl, by decide +kernel, by decide +kernel⟩
abbrev s__law_code : Stmt := topS 27
theorem sc__law_code : FnScope ["_law_w", "_law_x", "_law_y"] ["_law_w"] (defScope s__law_code) := ⟨rfl, rfl, rfl, by decide +kernel, rfl, by decide +kernel, by decide +kernel⟩
abbrev s__law_web : Stmt := topS 28
theorem sc__law_web : FnScope ["_law_deck_here", "_law_w", "_law_most", "_law_k"] ["_law_deck_here", "_law_w", "_law_most"] (defScope s__law_web) := ⟨rfl, rfl, rfl, by decide +kernel, rfl, by decide +kernel, by decide +kernel⟩
abbrev s__law_laid : Stmt := topS 29
theorem sc__law_laid : FnScope ["_law_w", "_law_web_here", "_law_y", "_law_left"] ["_law_w", "_law_web_here", "_law_y"] (defScope s__law_laid) := ⟨rfl, rfl, rfl, by decide +kernel, rfl, by decide +kernel, by decide +kernel⟩
abbrev s__law_led : Stmt := topS 30
theorem sc__law_led : FnScope ["_law_w", "_law_web_here", "_law_row", "_law_y"] ["_law_w", "_law_web_here", "_law_row"] (defScope s__law_led) := ⟨rfl, rfl, rfl, by decide +kernel, rfl, by decide +kernel, by decide +kernel⟩
abbrev s__law_is_web : Stmt := topS 31
theorem sc__law_is_web : FnScope ["_law_letters", "_law_it", "_law_x"] ["_law_letters", "_law_it"] (defScope s__law_is_web) := ⟨rfl, rfl, rfl, by decide +kernel, rfl, by decide +kernel, by decide +kernel⟩
abbrev s__law_heard : Stmt := topS 32
theorem sc__law_heard : FnScope ["_law_code_here", "_law_web_here", "_law_row", "_law_way", "_law_found", "e"] ["_law_code_here", "_law_web_here", "_law_row", "_law_way"] (defScope s__law_heard) := ⟨rfl, rfl, rfl, by decide +kernel, rfl, by decide +kernel, by decide +kernel⟩
abbrev s__law_due : Stmt := topS 33
theorem sc__law_due : FnScope ["_law_w", "_law_web_here", "_law_row", "_law_it"] ["_law_w", "_law_web_here", "_law_row"] (defScope s__law_due) := ⟨rfl, rfl, rfl, by decide +kernel, rfl, by decide +kernel, by decide +kernel⟩
abbrev s__law_led_right : Stmt := topS 34
theorem sc__law_led_right : FnScope ["_law_deck_here", "_law_w", "_law_code_here", "_law_web_here", "_law_row", "_law_more", "_law_due_here", "_law_y", "_law_base", "_law_low", "_law_k"] ["_law_deck_here", "_law_w", "_law_code_here"] (defScope s__law_led_right) := ⟨rfl, rfl, rfl, by decide +kernel, rfl, by decide +kernel, by decide +kernel⟩
abbrev s__law_refused_right : Stmt := topS 35
theorem sc__law_refused_right : FnScope ["_law_deck_here", "_law_w", "_law_code_here", "_law_some", "_law_go", "_law_web_here", "_law_row", "_law_due_here", "_law_y", "_law_told"] ["_law_deck_here", "_law_w", "_law_code_here"] (defScope s__law_refused_right) := ⟨rfl, rfl, rfl, by decide +kernel, rfl, by decide +kernel, by decide +kernel⟩
abbrev s__law_order_right : Stmt := topS 36
theorem sc__law_order_right : FnScope ["_law_deck_here", "_law_one", "_law_other", "_law_near", "_law_far", "_law_due_here", "_law_k"] ["_law_deck_here"] (defScope s__law_order_right) := ⟨rfl, rfl, rfl, by decide +kernel, rfl, by decide +kernel, by decide +kernel⟩
abbrev s_law : Stmt := topS 37
theorem sc_law : FnScope ["_law_script", "_law_deck_here", "_law_go", "_law_w", "_law_code_here", "_law_far", "_law_long"] ["_law_script"] (defScope s_law) := ⟨rfl, rfl, rfl, by decide +kernel, rfl, by decide +kernel, by decide +kernel⟩
end Lw

namespace Lw
open PySem PySem.Spec PyProof.Rows L2 Mq
open SX (S)
/-! ### letters -/
def ascB (l : List Nat) : Bool := ((List.range (l.length - 1)).map fun k => decide (l.getD k 0 < l.getD (k + 1) 0)).all id
theorem lt_sign (c d : Nat) : decide ((S [c]).cps.toList < (S [d]).cps.toList) = decide (c < d) := by
  have h : ((S [c]).cps.toList < (S [d]).cps.toList) ↔ c < d := by
    show ([c] : List Nat) < [d] ↔ c < d
    rw [List.cons_lt_cons_iff]
    simp
  exact decide_eq_decide.mpr h
theorem sz_le {n : Nat} (h : n ≤ 1000000) : n ≤ sizeLine := Nat.le_trans h (by decide)
theorem sz_lt {n : Nat} (h : n ≤ 1000000) : n < sizeLine := Nat.lt_of_le_of_lt h (by decide)
theorem at_get {l : List Nat} {k : Nat} (h : k < l.length) : atI (S l).cps.toList (k : Int) = some (l.getD k 0) := by
  refine atI_nat ?_
  show l[k]? = _
  rw [List.getElem?_eq_getElem h, List.getD_eq_getElem?_getD, List.getElem?_eq_getElem h]
  rfl
theorem ix_sign {l : List Nat} {k : Nat} {H : Hp} {Q : VK} (hl : l.length ≤ 100000) (h : k < l.length) (q : Q (.str (S [l.getD k 0])) H) : rIxS (.str (S l)) (.int (k : Int)) H Q :=
  ⟨S l, (k : Int), l.getD k 0, rfl, rfl, sz_le (by rw [SX.S_len]; omega), at_get h, q⟩
theorem len_S {K : PySem.W.Frag} {H : Hp} {l : List Nat} (hl : l.length ≤ 100000) : LenV K (.str (S l)) H (l.length : Nat) := by
  have hz := SX.S_len l
  refine ⟨?_, ?_⟩
  · rw [hz]
    exact sz_le (by omega)
  · rw [hz]
def spAsc : Sp := fun vs H Q _ => ∃ l : List Nat, vs = [.str (S l)] ∧ l.length ≤ 100000 ∧ ∀ H', Same H H' → Q (.bl (ascB l)) H'
section
variable {P : Program} {w : World} {K : PySem.W.Frag} {mg : Str → Option Value} {base : Heap}
theorem ok_is_ascending {f : Addr} {fd : FuncData} (F : Fun K "is_ascending" "is_ascending" s_is_ascending f fd) (B : Blt mg) :
    FnOk P w K mg base CX0 1 f fd ["parts"] spAsc := by
  refine F.ok sc_is_ascending (fun vs H Q E h => ?_) (fun cdv A outer s H vs Q E hr h => ?_)
  · obtain ⟨l, rfl, _⟩ := h
    rfl
  · obtain ⟨l, rfl, hl, q⟩ := h
    have hz : (S l).length = l.length := SX.S_len l
    refine ⟨_, pss_one (ps_ret (pe_callB (cr_all rfl) (by rfl) B.all (by decide +kernel) (pa_cons (pe_lc (own := [("k", 1)]) (g := gName 1) (tt := tYes) rfl sc_is_ascending.nd
      (pi_range1 (by rfl) B.range (pa_cons (pe_op op_sub (pe_callB call_len (by rfl) B.len (by decide +kernel) (pa_cons (pv 0) pa_nil)) pe_int) pa_nil))
      (blkOk_by (own := [("k", 1)]) (N := ["parts", "k"]) (sc := defScope s_is_ascending) (by decide +kernel)) (fun _ _ _ _ _ => pg_name (i := 1) sc_is_ascending.nd rfl (Or.inl rfl)) (fun _ _ _ _ _ => pts_nil)
      (fun _ _ _ _ _ => pe_cmpR op_lt_str (pe_ix ix_str (pv 0) (pv 1) (fun _ _ => rfl)) (pe_ix ix_str (pv 0) (pe_op op_add (pv 1) pe_int) (fun _ _ => rfl)) (nomark _))) pa_nil))), ?_⟩
    have e1 : ((l.length : Int) - 1).toNat = l.length - 1 := by omega
    unfold tRet tCB tCons
    refine lc_map (n := l.length - 1) walk_rng (fun k => .bl (decide (l.getD k 0 < l.getD (k + 1) 0))) (by omega) (fun R k => ?_) (fun _ _ _ _ _ => trivial) ?_ ?_
    · refine ⟨.str (S l), rfl, .str (S l), l.length, rfl, len_S hl, _, _, rfl, rfl, (l.length : Int) - 1, rfl, by omega, by omega, ?_⟩
      rw [e1]
      exact k _ (Same.refl _) trivial
    · rintro i x H' H'' R hi sm ⟨rfl, rfl⟩ k
      refine ⟨rfl, .str (S l), rfl, .int (i : Nat), rfl, ?_⟩
      refine ix_sign hl (by omega) ⟨.str (S l), rfl, .int (i : Nat), rfl, _, _, rfl, rfl, ?_⟩
      refine ix_sign (k := i + 1) hl (by omega) ?_
      refine ⟨S [l.getD i 0], S [l.getD (i + 1) 0], rfl, rfl, ?_⟩
      rw [lt_sign]
      exact k _ (Same.refl _)
    · intro D H' hD sm hl'
      refine ⟨D, (List.range (l.length - 1)).map fun k => decide (l.getD k 0 < l.getD (k + 1) 0), rfl, SqL.of ?_, q H' sm⟩
      rw [List.map_map]
      exact hl'
end
end Lw

namespace Lw
open PySem PySem.Spec PyProof.Rows L2 Mq
open SX (S)
def alpha : List Nat := List.range' 97 26
theorem alpha_is : ("abcdefghijklmnopqrstuvwxyz" : Str) = S alpha := by decide +kernel
def inB (c : Nat) (l : List Nat) : Bool := decide (c ∈ l)
def allB (l s : List Nat) : Bool := ((List.range l.length).map fun k => inB (l.getD k 0) s).all id
def lettersB (l : List Nat) : Bool := !decide (l = []) && (ascB l && allB l alpha)
/-- a value of a known kind that is no text -/
def NoStr (K : PySem.W.Frag) (H : Hp) (v : V) : Prop := ∃ a, TyX K H v (.type a) ∧ a ∈ ["NoneType", "bool", "int", "str", "list", "tuple", "dict"] ∧ a ≠ "str"
theorem kit_no {K : PySem.W.Frag} {a : String} (m : a ∈ ["NoneType", "bool", "int", "str", "list", "tuple", "dict"]) (n : a ≠ "str") : PySem.W.kitOne K (.type a) (.type "str") = some false :=
  kit_ty (by rw [kit_known a "str" m (by simp), decide_eq_false n])
theorem kit_self {K : PySem.W.Frag} : PySem.W.kitOne K (.type "str") (.type "str") = some true := kit_ty (by decide +kernel)
theorem str_is_nil (l : List Nat) : decide (V.str (S l) = V.str "") = decide (l = []) := by
  refine decide_eq_decide.mpr ⟨fun h => ?_, fun h => by rw [h]; rfl⟩
  have h1 : S l = S [] := V.str.inj h
  exact SX.S_inj h1
theorem walk_S (l : List Nat) : Walk (Its (S l)) l.length (fun _ => True) (YFn fun i => .str (S [l.getD i 0])) := by
  refine walk_str.mono (fun _ h => h) (fun i H x H' hi _ y => ⟨y.1, ?_⟩)
  obtain ⟨_, c, hc, rfl⟩ := y
  have hc' : l[i]? = some c := by simpa using hc
  show V.str (S [c]) = V.str (S [l.getD i 0])
  rw [List.getD_eq_getElem?_getD, hc']
  rfl
/-- what a name is looked up in: letters, signs -/
def spLetters (K : PySem.W.Frag) : Sp := fun vs H Q _ => ∃ v, vs = [v] ∧
  ((∃ l : List Nat, v = .str (S l) ∧ l.length ≤ 100000 ∧ ∀ H', Same H H' → Q (.bl (lettersB l)) H') ∨ (NoStr K H v ∧ ∀ H', Same H H' → Q (.bl false) H'))
def spWord (K : PySem.W.Frag) : Sp := fun vs H Q _ => ∃ (s : List Nat) (v : V), vs = [.str (S s), v] ∧
  ((∃ l : List Nat, v = .str (S l) ∧ l.length ≤ 100000 ∧ ∀ H', Same H H' → Q (.bl (allB l s)) H') ∨ (NoStr K H v ∧ ∀ H', Same H H' → Q (.bl false) H'))
section
variable {P : Program} {w : World} {K : PySem.W.Frag} {mg : Str → Option Value} {base : Heap}
theorem ok_is_letters {f fA : Addr} {fd fdA : FuncData} (F : Fun K "is_letters" "is_letters" s_is_letters f fd) (B : Blt mg)
    (FA : Fun K "is_ascending" "is_ascending" s_is_ascending fA fdA) (gA : mg "is_ascending" = some (.ref fA)) (bA : Binds K fdA ["parts"] [])
    (al : ∃ t, mg "ALPHABET" = some (.str "abcdefghijklmnopqrstuvwxyz" t)) :
    FnOk P w K mg base CX0 2 f fd ["thing"] (spLetters K) := by
  have GA : FnOk P w K mg base CX0 1 fA fdA ["parts"] spAsc := ok_is_ascending FA B
  obtain ⟨ta, al⟩ := al
  refine F.ok sc_is_letters (fun vs H Q E h => ?_) (fun cdv A outer s H vs Q E hr h => ?_)
  · obtain ⟨v, rfl, _⟩ := h
    rfl
  · obtain ⟨v, rfl, h⟩ := h
    refine ⟨_, pss_cons (ps_if (PW.pt (pw_or (pt_not (pt_val (pe_callB call_isi (by rfl) B.isi (by decide +kernel) (pa_cons (pv 0) (pa_cons (pe_bltn (v := .ty "str") (by rfl) B.str (by decide +kernel) rfl) pa_nil)))))
        (pw_or1 (pt_cmpR op_eq (pv 0) pe_str (nomark _))))) (pss_one (ps_ret pe_bl)) pss_nil)
      (pss_one (ps_ret (pe_and (pe_call GA (hr.mono (by decide)) (by rfl) gA FA.kp bA .nil pass0 (pa_cons (pv 0) pa_nil))
        (pe_one (pe_callB (cr_all rfl) (by rfl) B.all (by decide +kernel) (pa_cons (pe_lc (own := [("letter", 1)]) (g := gName 1) (tt := tYes) rfl sc_is_letters.nd (pi_str (pv 0))
          (blkOk_by (own := [("letter", 1)]) (N := ["thing", "letter"]) (sc := defScope s_is_letters) (by decide +kernel)) (fun _ _ _ _ _ => pg_name (i := 1) sc_is_letters.nd rfl (Or.inl rfl)) (fun _ _ _ _ _ => pts_nil)
          (fun _ _ _ _ _ => pe_cmpR op_in_sign (pv 1) (pe_glob (v := .str "abcdefghijklmnopqrstuvwxyz") rfl al ⟨_, rfl⟩) rfl)) pa_nil)))))), ?_⟩
    rcases h with ⟨l, rfl, hl, q⟩ | ⟨hn, q⟩
    · refine ⟨.str (S l), rfl, .str (S l), .ty "str", _, _, true, rfl, .ty _, .base (.str _), kit_self, true, rfl, iteF ⟨.str (S l), rfl, rfl, _, rfl, ?_⟩⟩
      rw [str_is_nil]
      cases e : decide (l = []) with
      | true =>
        refine iteT ?_
        have q' := q H (Same.refl H)
        unfold lettersB at q'
        rw [e] at q'
        exact q'
      | false =>
        refine iteF ⟨.str (S l), rfl, l, rfl, hl, fun H1 s1 => ⟨_, rfl, ?_⟩⟩
        have q' : ∀ H', Same H H' → Q (.bl (ascB l && allB l alpha)) H' := fun H' sm => by
          have z := q H' sm
          unfold lettersB at z
          rw [e] at z
          exact z
        cases ea : ascB l with
        | false =>
          refine iteF ?_
          have z := q' H1 s1
          rw [ea] at z
          exact z
        | true =>
          refine iteT ?_
          rw [ea] at q'
          unfold tCB tCons
          refine lc_map (n := l.length) (walk_S l) (fun k => .bl (inB (l.getD k 0) alpha)) (by omega) (fun R k => ⟨_, rfl, S l, rfl, k _ (Same.refl _) trivial⟩) (fun _ _ _ _ _ => trivial) ?_ ?_
          · rintro i x H' H'' R hi sm ⟨rfl, rfl⟩ k
            refine ⟨rfl, .str (S [l.getD i 0]), rfl, ?_⟩
            rw [alpha_is]
            exact ⟨l.getD i 0, S alpha, rfl, rfl, k _ (Same.refl _)⟩
          · intro D H' hD sm hl'
            refine ⟨D, (List.range l.length).map fun k => inB (l.getD k 0) alpha, rfl, SqL.of ?_, q' H' (s1.trans sm)⟩
            rw [List.map_map]
            exact hl'
    · obtain ⟨a, t, m, n⟩ := hn
      exact ⟨v, rfl, v, .ty "str", .type a, _, false, rfl, .ty _, t, kit_no m n, false, rfl, iteT (iteT (q H (Same.refl H)))⟩
theorem ok_is_word {f : Addr} {fd : FuncData} (F : Fun K "is_word" "is_word" s_is_word f fd) (B : Blt mg) : FnOk P w K mg base CX0 1 f fd ["letters", "thing"] (spWord K) := by
  refine F.ok sc_is_word (fun vs H Q E h => ?_) (fun cdv A outer s H vs Q E hr h => ?_)
  · obtain ⟨s, v, rfl, _⟩ := h
    rfl
  · obtain ⟨sg, v, rfl, h⟩ := h
    refine ⟨_, pss_one (ps_ret (pe_and (pe_callB call_isi (by rfl) B.isi (by decide +kernel) (pa_cons (pv 1) (pa_cons (pe_bltn (v := .ty "str") (by rfl) B.str (by decide +kernel) rfl) pa_nil)))
      (pe_one (pe_callB (cr_all rfl) (by rfl) B.all (by decide +kernel) (pa_cons (pe_lc (own := [("letter", 2)]) (g := gName 2) (tt := tYes) rfl sc_is_word.nd (pi_str (pv 1))
        (blkOk_by (own := [("letter", 2)]) (N := ["letters", "thing", "letter"]) (sc := defScope s_is_word) (by decide +kernel)) (fun _ _ _ _ _ => pg_name (i := 2) sc_is_word.nd rfl (Or.inl rfl)) (fun _ _ _ _ _ => pts_nil)
        (fun _ _ _ _ _ => pe_cmpR op_in_sign (pv 2) (pv 0) rfl)) pa_nil))))), ?_⟩
    rcases h with ⟨l, rfl, hl, q⟩ | ⟨hn, q⟩
    · refine ⟨.str (S l), rfl, .str (S l), .ty "str", _, _, true, rfl, .ty _, .base (.str _), kit_self, true, rfl, iteT ?_⟩
      unfold tCB tCons
      refine lc_map (n := l.length) (walk_S l) (fun k => .bl (inB (l.getD k 0) sg)) (by omega) (fun R k => ⟨_, rfl, S l, rfl, k _ (Same.refl _) trivial⟩) (fun _ _ _ _ _ => trivial) ?_ ?_
      · rintro i x H' H'' R hi sm ⟨rfl, rfl⟩ k
        exact ⟨rfl, .str (S [l.getD i 0]), rfl, .str (S sg), rfl, l.getD i 0, S sg, rfl, rfl, k _ (Same.refl _)⟩
      · intro D H' hD sm hl'
        refine ⟨D, (List.range l.length).map fun k => inB (l.getD k 0) sg, rfl, SqL.of ?_, q H' sm⟩
        rw [List.map_map]
        exact hl'
    · obtain ⟨a, t, m, n⟩ := hn
      exact ⟨v, rfl, v, .ty "str", .type a, _, false, rfl, .ty _, t, kit_no m n, false, rfl, iteF (q H (Same.refl H))⟩
theorem ok_is_web {f fW : Addr} {fd fdW : FuncData} (F : Fun K "is_web" "is_web" s_is_web f fd) (B : Blt mg)
    (FW : Fun K "is_word" "is_word" s_is_word fW fdW) (gW : mg "is_word" = some (.ref fW)) (bW : Binds K fdW ["letters", "thing"] []) :
    FnOk P w K mg base CX0 2 f fd ["letters", "thing"] (spWord K) := by
  have GW : FnOk P w K mg base CX0 1 fW fdW ["letters", "thing"] (spWord K) := ok_is_word FW B
  refine F.ok sc_is_web (fun vs H Q E h => ?_) (fun cdv A outer s H vs Q E hr h => ?_)
  · obtain ⟨s, v, rfl, _⟩ := h
    rfl
  · have h' := h
    obtain ⟨sg, v, rfl, _⟩ := h'
    exact ⟨_, pss_one (ps_ret (pe_call GW (hr.mono (by decide)) (by rfl) gW FW.kp bW .nil pass0 (pa_cons (pv 0) (pa_cons (pv 1) pa_nil)))), _, rfl, _, rfl, h⟩
end
end Lw

namespace Lw
open PySem PySem.Spec PyProof.Rows L2 Mq
open SX (S)
theorem ifF {c : Bool} {p q : Prop} (h : c = false) (hq : q) : (if c = true then p else q) := by rw [h]; exact hq
theorem ifT {c : Bool} {p q : Prop} (h : c = true) (hp : p) : (if c = true then p else q) := by rw [h]; exact hp
theorem len_tup {K : PySem.W.Frag} {H : Hp} {a : Addr} {xs : List V} (h : SqT K H a xs) : LenV K (.ref a) H xs.length := Or.inr ⟨xs, h, rfl⟩
theorem ps_dead {X : Cx} {st : Stmt} : PS X st (fun _ _ _ => False) := ⟨fun _ _ _ _ _ _ h => h.elim⟩
theorem pos_of {α : Type} {l : List α} (h : l ≠ []) : 0 < l.length := by
  cases l with
  | nil => exact (h rfl).elim
  | cons a l => exact Nat.zero_lt_succ _
theorem allB_of {sg w : List Nat} (h : ∀ c ∈ w, c ∈ sg) : allB w sg = true := by
  unfold allB
  rw [List.all_map, List.all_eq_true]
  intro k hk
  have hk' := List.mem_range.mp hk
  refine decide_eq_true (h _ ?_)
  rw [List.getD_eq_getElem?_getD, List.getElem?_eq_getElem hk']
  exact List.getElem_mem hk'
def wordOk (sg w : List Nat) : Prop := (∀ c ∈ w, c ∈ sg) ∧ w.length ≤ 1000
end Lw

namespace Lw
open PySem PySem.Spec PyProof.Rows L2 Mq
open SX (S)
/-! ### the deck -/
def deckKv (c : Addr) (m : Int) (t : Nat) : List (Key × V) := [(.inr "cells", .ref c), (.inr "mixed", .int m), (.inr "turn", .int (t : Nat))]
structure DeckAt (D C : Addr) (T : Nat) (H : Hp) : Prop where
  ex : ∃ (m : Int) (t : Nat) (js : List Int), H D = some (.dK (deckKv C m t)) ∧ H C = some (.lst (js.map V.int)) ∧ js.length ≤ 100 ∧ t ≤ T
def Off (D C : Addr) (H H' : Hp) : Prop := ∀ b o, b ≠ D → b ≠ C → H b = some o → H' b = some o
theorem Off.refl (D C : Addr) (H : Hp) : Off D C H H := fun _ _ _ _ e => e
theorem Off.trans {D C : Addr} {H H' H'' : Hp} (a : Off D C H H') (b : Off D C H' H'') : Off D C H H'' := fun x o h1 h2 e => b x o h1 h2 (a x o h1 h2 e)
theorem Off.same {D C : Addr} {H H' : Hp} (e : Same H H') : Off D C H H' := fun b o _ _ h => e b o h
theorem DeckAt.same {D C : Addr} {T : Nat} {H H' : Hp} (h : DeckAt D C T H) (e : Same H H') : DeckAt D C T H' := let ⟨m, t, js, a, b, c, d⟩ := h.ex; ⟨m, t, js, e _ _ a, e _ _ b, c, d⟩
theorem DeckAt.mono {D C : Addr} {T T' : Nat} {H : Hp} (h : DeckAt D C T H) (e : T ≤ T') : DeckAt D C T' H := let ⟨m, t, js, a, b, c, d⟩ := h.ex; ⟨m, t, js, a, b, c, Nat.le_trans d e⟩
theorem DeckAt.ne {D C : Addr} {T : Nat} {H : Hp} (h : DeckAt D C T H) : C ≠ D := by
  obtain ⟨m, t, js, a, b, c, d⟩ := h.ex
  rintro rfl
  rw [a] at b
  cases b
/-- what is no list and no dict is none of the deck's -/
theorem Off.at {D C : Addr} {T : Nat} {H H' : Hp} {a : Addr} {o : HO} (f : Off D C H H') (k : DeckAt D C T H) (h : H a = some o) (n : (∀ xs, o ≠ .lst xs) ∧ ∀ kvs, o ≠ .dK kvs) : H' a = some o := by
  obtain ⟨m, t, js, x, y, _, _⟩ := k.ex
  refine f a o ?_ ?_ h
  · rintro rfl
    rw [x] at h
    cases h
    exact n.2 _ rfl
  · rintro rfl
    rw [y] at h
    cases h
    exact n.1 _ rfl
theorem Off.tup {K : PySem.W.Frag} {D C : Addr} {T : Nat} {H H' : Hp} {a : Addr} {xs : List V} (f : Off D C H H') (k : DeckAt D C T H) (h : SqT K H a xs) : SqT K H' a xs := by
  rcases h with (h | ⟨o, h⟩) | h
  · exact Or.inl (Or.inl (f.at k h ⟨(fun _ z => nomatch z), (fun _ z => nomatch z)⟩))
  · exact Or.inl (Or.inr ⟨o, f.at k h ⟨(fun _ z => nomatch z), (fun _ z => nomatch z)⟩⟩)
  · exact Or.inr h
theorem dp_ints' {K : PySem.W.Frag} {H : Hp} : ∀ js : List Int, DpAll K H (js.map V.int) (js.map PyData.int)
  | [] => .nil
  | t :: ts => .cons (.int _) (dp_ints' ts)
theorem lay_ints' (js : List Int) : PyData.canLayAll0 (js.map PyData.int) = true ∧ PyData.depthAll (js.map PyData.int) = 0 := by
  induction js with
  | nil => exact ⟨rfl, rfl⟩
  | cons t ts ih =>
    refine ⟨ih.1, ?_⟩
    show max 0 _ = 0
    rw [ih.2]
    rfl
theorem shaped_ints (js : List Int) : SeqAt.shaped (.list (js.map PyData.int)) = true := by
  unfold SeqAt.shaped
  obtain ⟨a, b⟩ := lay_ints' js
  rw [show (PyData.list (js.map PyData.int)).canLay0 = true from a]
  have : (PyData.list (js.map PyData.int)).depth ≤ 64 := by
    show PyData.depthAll _ + 1 ≤ 64
    omega
  rw [decide_eq_true this]
  rfl
def spDraw : Sp := fun vs H Q _ => ∃ (D C : Addr) (T b : Nat), vs = [.ref D, .int (b : Nat)] ∧ DeckAt D C T H ∧ T ≤ 1000000 ∧ 0 < b ∧ b ≤ 1000 ∧
  ∀ H' (r : Nat), r < b → DeckAt D C (T + 1) H' → Off D C H H' → Q (.int (r : Nat)) H'
theorem fmod_nat (i : Int) {b : Nat} (h : 0 < b) : ∃ r : Nat, i.fmod (b : Int) = (r : Nat) ∧ r < b := by
  have h1 : 0 ≤ i.fmod (b : Int) := Int.fmod_nonneg_of_pos i (by omega)
  have h2 : i.fmod (b : Int) < b := Int.fmod_lt_of_pos i (by omega)
  exact ⟨(i.fmod b).toNat, by omega, by omega⟩
theorem bound_mod (i : Int) : -(2 ^ 64) < i.fmod 2147483647 ∧ i.fmod 2147483647 < 2 ^ 64 := by
  obtain ⟨r, e, l⟩ := fmod_nat i (b := 2147483647) (by decide)
  have e' : i.fmod 2147483647 = (r : Nat) := e
  rw [e']
  omega
theorem mod_fin {b : Nat} (h : 0 < b) (i : Int) {H : Hp} {Q : VK} (k : ∀ r : Nat, r < b → Q (.int (r : Nat)) H) : Q (.int (i.fmod (b : Nat))) H := by
  obtain ⟨r, e, l⟩ := fmod_nat i h
  rw [e]
  exact k r l
section
variable {P : Program} {w : World} {K : PySem.W.Frag} {mg : Str → Option Value} {base : Heap}
theorem ok_draw {f : Addr} {fd : FuncData} (F : Fun K "_law_draw" "_law_draw" s__law_draw f fd) (B : Blt mg) :
    FnOk P w K mg base CX0 1 f fd ["_law_deck_here", "_law_below"] spDraw := by
  refine F.ok sc__law_draw (fun vs H Q E h => ?_) (fun cdv A outer s H vs Q E hr h => ?_)
  · obtain ⟨_, _, _, _, rfl, _⟩ := h
    rfl
  · obtain ⟨D, C, T, b, rfl, hdk, hT, hb0, hb1, q⟩ := h
    have hu : (A.deeper (envOfC "_law_draw" (defScope s__law_draw) s.heap.objs.size f cdv)).units + 64 < cLine := by
      have := hr.units
      omega
    have hu1 : (A.deeper (envOfC "_law_draw" (defScope s__law_draw) s.heap.objs.size f cdv)).units + 1 < cLine := by omega
    refine ⟨_, (pss_cons (ps_dput hu1 (pv 0) pe_str (pe_op op_add (pe_dget hu1 (pv 0) pe_str (fun _ _ => rfl)) pe_int) rfl)
      (pss_cons (ps_set (i := 2) sc__law_draw.nd rfl (Or.inl rfl) (pe_op op_add (pe_dget hu1 (pv 0) pe_str (fun _ _ => rfl)) (pe_op op_mul (pe_op op_mul pe_int (pe_dget hu1 (pv 0) pe_str (fun _ _ => rfl))) (pe_dget hu1 (pv 0) pe_str (fun _ _ => rfl)))))
      (pss_cons (ps_if (pt_cmpR (op_neD hu) (pe_dget hu1 (pv 0) pe_str (fun _ _ => rfl)) (pe_ls pa_nil) (nomark _)) (pss_cons (ps_set (i := 3) sc__law_draw.nd rfl (Or.inl rfl) (pe_bm0 PySem.F.plainAttrs_list PySem.F.slot_list_pop PySem.F.type_list_pop mt_pop (pe_dget hu1 (pv 0) pe_str (fun _ _ => rfl))))
        (pss_cons (ps_if (pt_cmpR op_ge (pv 3) (pe_op op_pow pe_int pe_int) (nomark _)) (pss_cons (ps_expr (pe_bm PySem.F.plainAttrs_list PySem.F.slot_list_append PySem.F.type_list_append mt_append (pe_dget hu1 (pv 0) pe_str (fun _ _ => rfl)) (pa_cons (pe_op op_fdivN (pv 3) (pv 1)) pa_nil)))
          (pss_one (ps_ret (pe_op op_modN (pe_callTy call_int1 (by rfl) B.int (by decide +kernel) (pa_cons (pv 3) pa_nil)) (pv 1))))) pss_nil)
        (pss_one (ps_set (i := 2) sc__law_draw.nd rfl (Or.inl rfl) (pe_op op_add (pv 2) (pe_op op_modN (pe_callTy call_int1 (by rfl) B.int (by decide +kernel) (pa_cons (pv 3) pa_nil)) pe_int)))))) pss_nil)
      (pss_cons (ps_set (i := 2) sc__law_draw.nd rfl (Or.inl rfl) (pe_op op_modN (pe_callTy call_int1 (by rfl) B.int (by decide +kernel) (pa_cons (pe_op op_add (pe_op op_mul (pe_op op_modN (pv 2) pe_int) pe_int) (pe_dget hu1 (pv 0) pe_str (fun _ _ => rfl))) pa_nil)) pe_int))
      (pss_cons (ps_set (i := 2) sc__law_draw.nd rfl (Or.inl rfl) (pe_op op_modN (pe_callTy call_int1 (by rfl) B.int (by decide +kernel) (pa_cons (pe_op op_add (pe_op op_add (pe_op op_mul (pv 2) (pv 2)) (pe_op op_mul pe_int (pe_dget hu1 (pv 0) pe_str (fun _ _ => rfl)))) pe_int) pa_nil)) pe_int))
      (pss_one (ps_ret (pe_op op_modN (pe_op op_fdivN (pe_op op_modN (pe_callTy call_int1 (by rfl) B.int (by decide +kernel) (pa_cons (pe_op op_mul (pv 2) pe_int) pa_nil)) pe_int) pe_int) (pv 1))))))))), ?_⟩
    obtain ⟨m, t, js, hD, hC, hjs, ht⟩ := hdk.ex
    have ne := hdk.ne
    have e : ((t : Nat) : Int) + 1 = ((t + 1 : Nat) : Int) := by omega
    have eH : upd H D (.dK (deckKv C m (t + 1))) = upd H D (.dK (putK (deckKv C m t) (.inr "turn") (.int (((t : Nat) : Int) + 1)))) := by
      rw [e]
      rfl
    have o1 : Off D C H (upd H D (.dK (deckKv C m (t + 1)))) := fun x o h1 h2 h => (upd_ne h1).trans h
    have hD1 : upd H D (.dK (deckKv C m (t + 1))) D = some (.dK (deckKv C m (t + 1))) := upd_same
    have hC1 : upd H D (.dK (deckKv C m (t + 1))) C = some (.lst (js.map V.int)) := (upd_ne ne).trans hC
    refine ⟨_, rfl, D, .int (t : Nat), rfl, (DGet.k (k := .inr "turn") hD : DGet H D (.str "turn") (some (.int (t : Nat)))), _, _, rfl, rfl, _, rfl, D, upd H D (.dK (deckKv C m (t + 1))), rfl, Or.inl ⟨deckKv C m t, .inr "turn", hD, rfl, sz_lt (by show 3 ≤ _; decide), eH⟩, ?_⟩
    generalize upd H D (.dK (deckKv C m (t + 1))) = H1 at o1 hD1 hC1 ⊢
    have gT : ∀ {H2 : Hp}, H2 D = some (.dK (deckKv C m (t + 1))) → DGet H2 D (.str "turn") (some (.int (t + 1 : Nat))) := fun h => DGet.k (k := .inr "turn") h
    have gM : ∀ {H2 : Hp}, H2 D = some (.dK (deckKv C m (t + 1))) → DGet H2 D (.str "mixed") (some (.int m)) := fun h => DGet.k (k := .inr "mixed") h
    have gC : ∀ {H2 : Hp}, H2 D = some (.dK (deckKv C m (t + 1))) → DGet H2 D (.str "cells") (some (.ref C)) := fun h => DGet.k (k := .inr "cells") h
    have cT : -(2 ^ 64) < (((t + 1 : Nat)) : Int) ∧ (((t + 1 : Nat)) : Int) < 2 ^ 64 := by omega
    refine ⟨_, rfl, D, _, rfl, gM hD1, _, rfl, D, _, rfl, gT hD1, _, _, rfl, rfl, Or.inl (by decide), _, rfl, D, _, rfl, gT hD1, _, _, rfl, rfl, Or.inr cT, _, _, rfl, rfl, ?_⟩
    refine ⟨_, rfl, D, _, rfl, gC hD1, sz_le (n := 0) (by decide), fun p hp _ => ?_⟩
    have sp1 : Same H1 (upd H1 p (.lst [])) := same_new hp
    refine ⟨.list (js.map PyData.int), .list [], .lst (SqL.of (sp1 _ _ hC1)) (dp_ints' js), .lst (SqL.of upd_same) .nil, shaped_ints js, by decide +kernel, _, rfl, ?_⟩
    have hD2 := sp1 _ _ hD1
    have hC2 := sp1 _ _ hC1
    have o2 : Off D C H (upd H1 p (.lst [])) := o1.trans (Off.same sp1)
    generalize upd H1 p (.lst []) = H2 at hD2 hC2 o2 ⊢
    have fin : ∀ (H3 : Hp) (js' : List Int), H3 D = some (.dK (deckKv C m (t + 1))) → H3 C = some (.lst (js'.map V.int)) → js'.length ≤ 100 → Off D C H H3 → ∀ r : Nat, r < b → Q (.int (r : Nat)) H3 :=
      fun H3 js' h1 h2 h3 h4 r hr => q H3 r hr ⟨m, t + 1, js', h1, h2, h3, by omega⟩ h4
    rcases List.eq_nil_or_concat js with rfl | ⟨js', j, rfl⟩
    · refine ifF rfl ?_
      have hDx := hD2
      have kq := fin H2 [] hD2 hC2 (by decide) o2
      refine ⟨_, rfl, _, _, rfl, rfl, (show (2147483549 : Int) ≠ 0 by decide), _, _, rfl, rfl, Or.inr (by decide), _, rfl, D, _, rfl, gT hDx, _, _, rfl, rfl, Or.inl ⟨_, rfl, _, _, rfl, rfl, (show (2147483647 : Int) ≠ 0 by decide), ?_⟩⟩
      refine ⟨_, rfl, _, rfl, _, _, rfl, rfl, Or.inl ?_, _, rfl, D, _, rfl, gT hDx, _, _, rfl, rfl, Or.inl (by decide), _, _, rfl, rfl, _, _, rfl, rfl, Or.inl ⟨_, rfl, _, _, rfl, rfl, (show (2147483579 : Int) ≠ 0 by decide), ?_⟩⟩
      · exact bound_mod _
      · refine ⟨_, rfl, _, _, rfl, rfl, Or.inr (by decide), Or.inl ⟨_, rfl, _, _, rfl, rfl, (show (2147483629 : Int) ≠ 0 by decide), _, _, rfl, rfl, ⟨by decide, by decide⟩, _, rfl, _, _, rfl, rfl, (show ((b : Nat) : Int) ≠ 0 by omega), ?_⟩⟩
        exact mod_fin hb0 _ kq
    · rw [List.concat_eq_append] at *
      refine ifT (by cases js' <;> rfl) ?_
      have hlast : ((js' ++ [j]).map V.int)[((js' ++ [j]).map V.int).length - 1]? = some (.int j) := by simp
      have hdrop : ((js' ++ [j]).map V.int).dropLast = js'.map V.int := by simp
      refine ⟨_, rfl, D, _, rfl, gC hD2, Or.inl ⟨rfl, _, Or.inl (Or.inl hC2)⟩, C, _, _, rfl, rfl, hC2, hlast, ?_⟩
      rw [hdrop]
      have hD3 : upd H2 C (.lst (js'.map V.int)) D = some (.dK (deckKv C m (t + 1))) := (upd_ne (Ne.symm ne)).trans hD2
      have hC3 : upd H2 C (.lst (js'.map V.int)) C = some (.lst (js'.map V.int)) := upd_same
      have o3 : Off D C H (upd H2 C (.lst (js'.map V.int))) := o2.trans (fun x o h1 h2 h => (upd_ne h2).trans h)
      generalize upd H2 C (.lst (js'.map V.int)) = H3 at hD3 hC3 o3 ⊢
      have hl' : js'.length + 1 ≤ 100 := by simpa using hjs
      refine ⟨_, rfl, _, _, rfl, rfl, ⟨by decide, by decide, by decide⟩, _, _, rfl, rfl, _, rfl, ite2 (fun hc => ?_) (fun hc => ?_)⟩
      · have hj : (10 : Int) ^ 18 ≤ j := of_decide_eq_true hc
        refine ⟨_, rfl, D, _, rfl, gC hD3, Or.inl ⟨rfl, _, Or.inl (Or.inl hC3)⟩, _, rfl, _, rfl, _, _, rfl, rfl, ⟨by omega, by omega⟩, C, _, _, rfl, rfl, hC3, sz_lt (by rw [List.length_map]; omega), ?_⟩
        have hD4 : upd H3 C (.lst (js'.map V.int ++ [.int (j.fdiv (b : Nat))])) D = some (.dK (deckKv C m (t + 1))) := (upd_ne (Ne.symm ne)).trans hD3
        have hC4 : upd H3 C (.lst (js'.map V.int ++ [.int (j.fdiv (b : Nat))])) C = some (.lst ((js' ++ [j.fdiv (b : Nat)]).map V.int)) := upd_same.trans (by rw [List.map_append]; rfl)
        have o4 : Off D C H (upd H3 C (.lst (js'.map V.int ++ [.int (j.fdiv (b : Nat))]))) := o3.trans (fun x o h1 h2 h => (upd_ne h2).trans h)
        have kq := fin _ _ hD4 hC4 (by rw [List.length_append]; exact hl') o4
        refine ⟨_, rfl, Or.inl ⟨_, rfl, _, rfl, _, _, rfl, rfl, (show ((b : Nat) : Int) ≠ 0 by omega), ?_⟩⟩
        exact mod_fin hb0 _ kq
      · refine ⟨_, rfl, _, rfl, Or.inl ⟨_, rfl, _, _, rfl, rfl, (show (2147483563 : Int) ≠ 0 by decide), _, _, rfl, rfl, ?_⟩⟩
        have hDx := hD3
        have kq := fin H3 js' hD3 hC3 (by omega) o3
        refine ⟨_, rfl, _, _, rfl, rfl, (show (2147483549 : Int) ≠ 0 by decide), _, _, rfl, rfl, Or.inr (by decide), _, rfl, D, _, rfl, gT hDx, _, _, rfl, rfl, Or.inl ⟨_, rfl, _, _, rfl, rfl, (show (2147483647 : Int) ≠ 0 by decide), ?_⟩⟩
        refine ⟨_, rfl, _, rfl, _, _, rfl, rfl, Or.inl ?_, _, rfl, D, _, rfl, gT hDx, _, _, rfl, rfl, Or.inl (by decide), _, _, rfl, rfl, _, _, rfl, rfl, Or.inl ⟨_, rfl, _, _, rfl, rfl, (show (2147483579 : Int) ≠ 0 by decide), ?_⟩⟩
        · exact bound_mod _
        · refine ⟨_, rfl, _, _, rfl, rfl, Or.inr (by decide), Or.inl ⟨_, rfl, _, _, rfl, rfl, (show (2147483629 : Int) ≠ 0 by decide), _, _, rfl, rfl, ⟨by decide, by decide⟩, _, rfl, _, _, rfl, rfl, (show ((b : Nat) : Int) ≠ 0 by omega), ?_⟩⟩
          exact mod_fin hb0 _ kq
end
end Lw

namespace Lw
open PySem PySem.Spec PyProof.Rows L2 Mq
open SX (S)
def spDeck (K : PySem.W.Frag) : Sp := fun vs H Q _ => ∃ (a : Addr) (ns : List Int), vs = [.ref a] ∧ SqL K H a (ns.map V.int) ∧ ns.length ≤ 63 ∧
  ∀ H' D C, Same H H' → DeckAt D C 0 H' → Q (.ref D) H'
def spPick : Sp := fun vs H Q _ => ∃ (D C : Addr) (T : Nat) (x : V), vs = [.ref D, x] ∧ DeckAt D C T H ∧ T ≤ 1000000 ∧
  ((∃ l : List Nat, x = .str (S l) ∧ 0 < l.length ∧ l.length ≤ 1000 ∧ ∀ H' c, c ∈ l → DeckAt D C (T + 1) H' → Off D C H H' → Q (.str (S [c])) H') ∨
   ∃ (p : Addr) (xs : List V), x = .ref p ∧ H p = some (.lst xs) ∧ p ≠ C ∧ 0 < xs.length ∧ xs.length ≤ 1000 ∧ ∀ H' v, v ∈ xs → DeckAt D C (T + 1) H' → Off D C H H' → Q v H')
section
variable {P : Program} {w : World} {K : PySem.W.Frag} {mg : Str → Option Value} {base : Heap}
theorem ok_deck {f : Addr} {fd : FuncData} (F : Fun K "_law_deck" "_law_deck" s__law_deck f fd) (B : Blt mg) :
    FnOk P w K mg base CX0 1 f fd ["_law_script"] (spDeck K) := by
  refine F.ok sc__law_deck (fun vs H Q E h => ?_) (fun cdv A outer s H vs Q E hr h => ?_)
  · obtain ⟨_, _, rfl, _⟩ := h
    rfl
  · obtain ⟨a, ns, rfl, ha, hn, q⟩ := h
    refine ⟨_, (pss_cons (ps_par (i := 1) (j := 2) rfl sc__law_deck.nd rfl rfl (by decide) rfl rfl (pa_cons (pe_callTy call_list_of (by rfl) B.list (by decide +kernel) (pa_cons (pe_slice sl_list (pv 0) po_none (po_some pe_int)) pa_nil)) (pa_cons pe_int pa_nil)) (by rfl))
      (pss_cons (ps_for PassesOwn.never rfl (pi_list (pv 1)) (pg_name (i := 3) sc__law_deck.nd rfl (Or.inl rfl))
        (pss_one (ps_set (i := 2) sc__law_deck.nd rfl (Or.inl rfl) (pe_op op_modN (pe_callTy call_int1 (by rfl) B.int (by decide +kernel) (pa_cons (pe_op op_add (pe_op op_add (pe_op op_mul (pv 2) pe_int) (pe_op op_modN (pe_callTy call_int1 (by rfl) B.int (by decide +kernel) (pa_cons (pv 3) pa_nil)) pe_int)) pe_int) pa_nil)) pe_int))))
      (pss_one (ps_ret (pe_disp (pps_cons pe_str (pe_revL (pv 1)) (pps_cons pe_str (pv 2) (pps_cons pe_str pe_int pps_nil))) (by rfl) (by rfl) (fun z => by cases z) (by decide)))))), ?_⟩
    obtain ⟨ms, hms, hml⟩ : ∃ ms : List Int, cutV (ns.map V.int) none (some 63) = ms.map V.int ∧ ms.length ≤ 63 := by
      refine ⟨(ns.drop (HT.sIx (ns.map V.int).length 0 none)).take (HT.sIx (ns.map V.int).length (ns.map V.int).length (some 63) - HT.sIx (ns.map V.int).length 0 none), ?_, ?_⟩
      · unfold cutV
        rw [← List.map_drop, ← List.map_take]
      · rw [List.length_take, List.length_drop]
        omega
    refine ⟨_, rfl, 63, rfl, a, _, rfl, ha, fun p1 hp1 => ⟨p1, _, rfl, Or.inl (SqL.of upd_same), fun c hc => ?_⟩⟩
    rw [hms] at hc ⊢
    have s1 : Same H (upd H p1 (.lst (ms.map V.int))) := same_new hp1
    generalize upd H p1 (.lst (ms.map V.int)) = H1 at s1 hc ⊢
    have s2 : Same H (upd H1 c (.lst (ms.map V.int))) := s1.trans (same_new hc)
    have hC : upd H1 c (.lst (ms.map V.int)) c = some (.lst (ms.map V.int)) := upd_same
    generalize upd H1 c (.lst (ms.map V.int)) = H2 at s2 hC ⊢
    refine ⟨_, _, rfl, ?_⟩
    refine ⟨_, rfl, c, rfl, ⟨_, SqL.of hC⟩, ?_⟩
    refine for_list (xs := ms.map V.int) (fun i σ H' => H' = H2 ∧ ∃ (m : Int) (o : Option V), σ = [some (.ref a), some (.ref c), some (.int m), o]) ⟨rfl, _, _, rfl⟩ (fun i σ H' _ p => by rw [p.1]; exact SqL.of hC) ?_ ?_
    · rintro i x σ H' hx ⟨rfl, m, o, rfl⟩
      obtain ⟨j, rfl⟩ : ∃ j, x = .int j := by
        rw [List.getElem?_map] at hx
        cases h : ms[i]? with
        | none => rw [h] at hx; cases hx
        | some j => rw [h] at hx; cases hx; exact ⟨j, rfl⟩
      refine ⟨_, rfl, _, _, rfl, rfl, Or.inr (by decide), _, rfl, Or.inl ⟨_, rfl, _, _, rfl, rfl, (show (2147483587 : Int) ≠ 0 by decide), _, _, rfl, rfl, _, _, rfl, rfl, Or.inl ⟨_, rfl, _, _, rfl, rfl, (show (2147483629 : Int) ≠ 0 by decide), rfl, _, _, rfl⟩⟩⟩
    · rintro σ H' ⟨rfl, m, o, rfl⟩
      refine fun p hp => ?_
      have s3 : Same H' (upd H' p (.dK [])) := same_new hp
      refine ⟨_, rfl, c, _, rfl, SqL.of (s3 _ _ hC), fun p2 hp2 => ⟨_, rfl, ?_⟩⟩
      have s4 : Same H' (upd (upd H' p (.dK [])) p2 (.lst (ms.map V.int).reverse)) := s3.trans (same_new hp2)
      have hp4 : upd (upd H' p (.dK [])) p2 (.lst (ms.map V.int).reverse) p = some (.dK []) := (same_new hp2) _ _ upd_same
      refine ⟨hp4, deckKv p2 m 0, rfl, by show 3 ≤ 15; decide, ?_⟩
      have ne : p2 ≠ p := by
        rintro rfl
        rw [upd_same] at hp2
        cases hp2
      refine q _ p p2 ?_ ⟨m, 0, ms.reverse, upd_same.trans ?_, ?_, by rw [List.length_reverse]; omega, Nat.le_refl _⟩
      · intro b o e
        have e2 := s2 b o e
        rw [upd_ne (ne_of_none e2 hp)]
        exact s4 b o e2
      · rfl
      · rw [upd_ne ne, upd_same, List.map_reverse]
end
end Lw

namespace Lw
open PySem PySem.Spec PyProof.Rows L2 Mq
open SX (S)
section
variable {P : Program} {w : World} {K : PySem.W.Frag} {mg : Str → Option Value} {base : Heap}
theorem ok_pick {f fD : Addr} {fd fdD : FuncData} (F : Fun K "_law_pick" "_law_pick" s__law_pick f fd) (B : Blt mg)
    (FD : Fun K "_law_draw" "_law_draw" s__law_draw fD fdD) (gD : mg "_law_draw" = some (.ref fD)) (bD : Binds K fdD ["_law_deck_here", "_law_below"] []) :
    FnOk P w K mg base CX0 2 f fd ["_law_deck_here", "_law_some"] spPick := by
  have GD : FnOk P w K mg base CX0 1 fD fdD ["_law_deck_here", "_law_below"] spDraw := ok_draw FD B
  refine F.ok sc__law_pick (fun vs H Q E h => ?_) (fun cdv A outer s H vs Q E hr h => ?_)
  · obtain ⟨_, _, _, _, rfl, _⟩ := h
    rfl
  · obtain ⟨D, C, T, x, rfl, hdk, hT, h⟩ := h
    refine ⟨_, (pss_one (ps_ret (pe_ix ix_seq (pv 1) (pe_call GD (hr.mono (by decide)) (by rfl) gD FD.kp bD .nil pass0 (pa_cons (pv 0) (pa_cons (pe_callB call_len (by rfl) B.len (by decide +kernel) (pa_cons (pv 1) pa_nil)) pa_nil))) (fun _ _ => rfl)))), ?_⟩
    rcases h with ⟨l, rfl, h0, h1, q⟩ | ⟨p, xs, rfl, hp, hpC, h0, h1, q⟩
    · refine ⟨_, rfl, _, rfl, _, rfl, _, _, rfl, len_S (by omega), D, C, T, l.length, rfl, hdk, hT, h0, h1, fun H' r hr dk off => ?_⟩
      refine Or.inr (Or.inr ⟨S l, _, l.getD r 0, rfl, rfl, sz_le (by rw [SX.S_len]; omega), at_get hr, ?_⟩)
      refine q H' _ ?_ dk off
      rw [List.getD_eq_getElem?_getD, List.getElem?_eq_getElem hr]
      exact List.getElem_mem hr
    · refine ⟨_, rfl, _, rfl, _, rfl, _, _, rfl, Or.inl ⟨xs, SqL.of hp, rfl⟩, D, C, T, xs.length, rfl, hdk, hT, h0, h1, fun H' r hr dk off => ?_⟩
      have hpD : p ≠ D := by
        rintro rfl
        obtain ⟨_, _, _, e, _⟩ := hdk.ex
        rw [hp] at e
        cases e
      have hp' := off p _ hpD hpC hp
      refine Or.inl ⟨p, xs, _, xs[r], rfl, rfl, SqL.of hp', atI_nat (List.getElem?_eq_getElem hr), q H' _ (List.getElem_mem hr) dk off⟩
end
end Lw

namespace Lw
open PySem PySem.Spec PyProof.Rows L2 Mq
open SX (S)
theorem PT_imp {X : Cx} {e : Expr} {t t' : TT} (h : PT X e t) (i : ∀ σ H Q, t' σ H Q → t σ H Q) : PT X e t' := ⟨fun pins s σ H Q I q => h.run pins s σ H Q I (i σ H Q q)⟩
/-- tuples stay -/
def KpT (K : PySem.W.Frag) (H H' : Hp) : Prop := ∀ a xs, SqT K H a xs → SqT K H' a xs
theorem KpT.trans {K : PySem.W.Frag} {H H' H'' : Hp} (a : KpT K H H') (b : KpT K H' H'') : KpT K H H'' := fun x y h => b x y (a x y h)
theorem KpT.off {K : PySem.W.Frag} {D C : Addr} {T : Nat} {H H' : Hp} (f : Off D C H H') (k : DeckAt D C T H) : KpT K H H' := fun _ _ h => f.tup k h
theorem KpT.same {K : PySem.W.Frag} {H H' : Hp} (e : Same H H') : KpT K H H' := fun _ _ h => Same.tup e h
theorem KpT.lst {K : PySem.W.Frag} {H : Hp} {L : Addr} {xs ys : List V} (h : H L = some (.lst xs)) : KpT K H (upd H L (.lst ys)) := by
  intro a zs hz
  have ne : ∀ {o : HO}, H a = some o → (∀ xs, o ≠ .lst xs) → upd H L (.lst ys) a = some o := by
    intro o e n
    by_cases q : a = L
    · subst q
      rw [h] at e
      cases e
      exact (n _ rfl).elim
    · exact (upd_ne q).trans e
  rcases hz with (hz | ⟨o, hz⟩) | hz
  · exact Or.inl (Or.inl (ne hz fun _ z => nomatch z))
  · exact Or.inl (Or.inr ⟨o, ne hz fun _ z => nomatch z⟩)
  · exact Or.inr hz
end Lw

namespace Lw
open PySem PySem.Spec PyProof.Rows L2 Mq
open SX (S)
/-! ### books -/
structure Fd where
  x : Nat
  y : Nat
  z : List Nat
def fdV (f : Fd) : List V := [.str (S [f.x]), .str (S [f.y]), .str (S f.z)]
def FdAt (K : PySem.W.Frag) (H : Hp) (v : V) (f : Fd) : Prop := ∃ b, v = .ref b ∧ SqT K H b (fdV f)
def fdOk (sg : List Nat) (f : Fd) : Prop := f.x ∈ sg ∧ f.y ∈ sg ∧ (f.z = [] ∨ ∃ c ∈ sg, f.z = [c])
structure SgOk (sg : List Nat) : Prop where
  pos : 0 < sg.length
  few : sg.length ≤ 10
  low : ∀ c ∈ sg, c < 128
  ok : lettersB sg = true
def spLetter : Sp := fun vs H Q _ => ∃ sg z : List Nat, vs = [.str (S sg), .str (S z)] ∧ z.length ≤ 1000 ∧ ((∃ c, z = [c] ∧ c ∈ sg ∧ Q (.bl true) H) ∨ (z = [] ∧ Q (.bl false) H))
def spFold (K : PySem.W.Frag) : Sp := fun vs H Q _ => ∃ (sg : List Nat) (v : V) (f : Fd), vs = [.str (S sg), v] ∧ FdAt K H v f ∧ fdOk sg f ∧ Q (.bl true) H
section
variable {P : Program} {w : World} {K : PySem.W.Frag} {mg : Str → Option Value} {base : Heap}
theorem ok_is_letter {f : Addr} {fd : FuncData} (F : Fun K "is_letter" "is_letter" s_is_letter f fd) (B : Blt mg) : FnOk P w K mg base CX0 1 f fd ["letters", "thing"] spLetter := by
  refine F.ok sc_is_letter (fun vs H Q E h => ?_) (fun cdv A outer s H vs Q E hr h => ?_)
  · obtain ⟨_, _, rfl, _⟩ := h
    rfl
  · obtain ⟨sg, z, rfl, hz, h⟩ := h
    refine ⟨_, pss_one (ps_ret (pe_and (pe_callB call_isi (by rfl) B.isi (by decide +kernel) (pa_cons (pv 1) (pa_cons (pe_bltn (v := .ty "str") (by rfl) B.str (by decide +kernel) rfl) pa_nil))) (pe_and (pe_cmpR op_eq (pe_callB call_len (by rfl) B.len (by decide +kernel) (pa_cons (pv 1) pa_nil)) pe_int (nomark _)) (pe_one (pe_cmpR op_in_sign (pv 1) (pv 0) rfl))))), ?_⟩
    refine ⟨_, rfl, _, .ty "str", _, _, true, rfl, .ty _, .base (.str _), kit_self, true, rfl, iteT ⟨_, rfl, _, _, rfl, len_S (by omega), rfl, _, rfl, ?_⟩⟩
    rcases h with ⟨c, rfl, hc, q⟩ | ⟨rfl, q⟩
    · refine ifT rfl ⟨_, rfl, _, rfl, c, S sg, rfl, rfl, ?_⟩
      rw [show decide (c ∈ (S sg).cps.toList) = true from decide_eq_true hc]
      exact q
    · exact ifF rfl q
theorem ok_is_fold {f fL : Addr} {fd fdL : FuncData} (F : Fun K "is_fold" "is_fold" s_is_fold f fd) (B : Blt mg)
    (FL : Fun K "is_letter" "is_letter" s_is_letter fL fdL) (gL : mg "is_letter" = some (.ref fL)) (bL : Binds K fdL ["letters", "thing"] []) : FnOk P w K mg base CX0 2 f fd ["letters", "thing"] (spFold K) := by
  have GL : FnOk P w K mg base CX0 1 fL fdL ["letters", "thing"] spLetter := ok_is_letter FL B
  refine F.ok sc_is_fold (fun vs H Q E h => ?_) (fun cdv A outer s H vs Q E hr h => ?_)
  · obtain ⟨_, _, _, rfl, _⟩ := h
    rfl
  · obtain ⟨sg, v, fo, rfl, ⟨b, rfl, hb⟩, ⟨h1, h2, h3⟩, q⟩ := h
    refine ⟨_, (pss_cons (ps_if (PW.pt (pw_or (pt_not (pt_val (pe_callB call_isi (by rfl) B.isi (by decide +kernel) (pa_cons (pv 1) (pa_cons (pe_bltn (v := .ty "tuple") (by rfl) B.tuple (by decide +kernel) rfl) pa_nil))))) (pw_or1 (pt_cmpR op_ne (pe_callB call_len (by rfl) B.len (by decide +kernel) (pa_cons (pv 1) pa_nil)) pe_int (nomark _))))) (pss_one (ps_ret pe_bl)) pss_nil)
      (pss_cons (ps_if (PW.pt (pw_or (pt_not (pt_val (pe_call GL (hr.mono (by decide)) (by rfl) gL FL.kp bL .nil pass0 (pa_cons (pv 0) (pa_cons (pe_ix ix_tup (pv 1) pe_int (fun _ _ => rfl)) pa_nil))))) (pw_or1 (pt_not (pt_val (pe_call GL (hr.mono (by decide)) (by rfl) gL FL.kp bL .nil pass0 (pa_cons (pv 0) (pa_cons (pe_ix ix_tup (pv 1) pe_int (fun _ _ => rfl)) pa_nil)))))))) (pss_one (ps_ret pe_bl)) pss_nil)
      (pss_one (ps_ret (pe_or (pe_call GL (hr.mono (by decide)) (by rfl) gL FL.kp bL .nil pass0 (pa_cons (pv 0) (pa_cons (pe_ix ix_tup (pv 1) pe_int (fun _ _ => rfl)) pa_nil))) (pe_one (pe_and (pe_callB call_isi (by rfl) B.isi (by decide +kernel) (pa_cons (pe_ix ix_tup (pv 1) pe_int (fun _ _ => rfl)) (pa_cons (pe_bltn (v := .ty "str") (by rfl) B.str (by decide +kernel) rfl) pa_nil))) (pe_one (pe_cmpR op_eq (pe_ix ix_tup (pv 1) pe_int (fun _ _ => rfl)) pe_str (nomark _)))))))))), ?_⟩
    have a0 : atI (fdV fo) 0 = some (.str (S [fo.x])) := atI_nat (j := 0) rfl
    have a1 : atI (fdV fo) 1 = some (.str (S [fo.y])) := atI_nat (j := 1) rfl
    have a2 : atI (fdV fo) 2 = some (.str (S fo.z)) := atI_nat (j := 2) rfl
    refine ⟨_, rfl, _, .ty "tuple", _, _, true, rfl, .ty _, ty_tup hb, kit_ty (by decide +kernel), true, rfl, ?_⟩
    refine ifF rfl ⟨_, rfl, _, _, rfl, len_tup hb, rfl, _, rfl, ifF rfl ?_⟩
    refine ⟨_, rfl, _, rfl, b, _, 0, _, rfl, rfl, hb, a0, sg, [fo.x], rfl, (by show 1 ≤ 1000; decide), Or.inl ⟨fo.x, rfl, h1, _, rfl, ?_⟩⟩
    refine ifF rfl ⟨_, rfl, _, rfl, b, _, 1, _, rfl, rfl, hb, a1, sg, [fo.y], rfl, (by show 1 ≤ 1000; decide), Or.inl ⟨fo.y, rfl, h2, _, rfl, ifF rfl ?_⟩⟩
    refine ⟨_, rfl, _, rfl, b, _, 2, _, rfl, rfl, hb, a2, sg, fo.z, rfl, ?_, ?_⟩
    · rcases h3 with h3 | ⟨c, _, h3⟩
      · rw [h3]
        exact Nat.zero_le _
      · rw [h3]
        show 1 ≤ 1000
        decide
    · rcases h3 with h3 | ⟨c, hc, h3⟩
      · refine Or.inr ⟨h3, _, rfl, ifF rfl ?_⟩
        refine ⟨_, rfl, b, _, 2, _, rfl, rfl, hb, a2, _, .ty "str", _, _, true, rfl, .ty _, .base (.str _), kit_self, true, rfl, ifT rfl ⟨_, rfl, b, _, 2, _, rfl, rfl, hb, a2, rfl, ?_⟩⟩
        rw [str_is_nil, decide_eq_true h3]
        exact q
      · exact Or.inl ⟨c, h3, hc, _, rfl, ifT rfl q⟩
end
end Lw

namespace Lw
open PySem PySem.Spec PyProof.Rows L2 Mq
open SX (S)
inductive FdAll (K : PySem.W.Frag) (H : Hp) : List V → List Fd → Prop
  | nil : FdAll K H [] []
  | cons {v : V} {f : Fd} {vs : List V} {fs : List Fd} : FdAt K H v f → FdAll K H vs fs → FdAll K H (v :: vs) (f :: fs)
theorem FdAt.kp {K : PySem.W.Frag} {H H' : Hp} {v : V} {f : Fd} (h : FdAt K H v f) (e : KpT K H H') : FdAt K H' v f := let ⟨a, x, y⟩ := h; ⟨a, x, e _ _ y⟩
theorem FdAll.kp {K : PySem.W.Frag} {H H' : Hp} (e : KpT K H H') : ∀ {vs : List V} {fs : List Fd}, FdAll K H vs fs → FdAll K H' vs fs
  | _, _, .nil => .nil
  | _, _, .cons a b => .cons (a.kp e) (FdAll.kp e b)
theorem FdAll.len {K : PySem.W.Frag} {H : Hp} : ∀ {vs : List V} {fs : List Fd}, FdAll K H vs fs → vs.length = fs.length
  | _, _, .nil => rfl
  | _, _, .cons a b => congrArg (· + 1) b.len
theorem FdAll.at {K : PySem.W.Frag} {H : Hp} : ∀ {vs : List V} {fs : List Fd} {i : Nat} {v : V}, FdAll K H vs fs → vs[i]? = some v → ∃ f, fs[i]? = some f ∧ FdAt K H v f
  | _, _, 0, _, .cons a b, h => ⟨_, rfl, by cases h; exact a⟩
  | _, _, i + 1, _, .cons a b, h => FdAll.at (i := i) b h
def keyF (f : Fd) : Str × Str := (S [f.x], S [f.y])
def tabF (fs : List Fd) : List (List Key × V) := fs.map fun f => ([Sum.inr (S [f.x]), Sum.inr (S [f.y])], V.str (S f.z))
/-- folds, as they have to be -/
structure FsOk (sg : List Nat) (fs : List Fd) : Prop where
  few : fs.length ≤ 200
  ok : ∀ f ∈ fs, fdOk sg f
  asc : ∀ i j, i < j → j < fs.length → ∀ f g, fs[i]? = some f → fs[j]? = some g → ltSS (keyF f) (keyF g) = true
def bkF (sg : List Nat) (fa ta : Addr) : List (Str × V) := [("letters", .str (S sg)), ("folds", .ref fa), ("table", .ref ta)]
def BkAt (H : Hp) (C r : Addr) (sg : List Nat) (fs : List Fd) (fa ta : Addr) : Prop := (∃ dx, H r = some (.ins C dx (bkF sg fa ta))) ∧ H ta = some (.dT (tabF fs))
structure BkC (K : PySem.W.Frag) (C : Addr) : Prop where
  cls : Cls K C
  nL : NoAttr K C "letters"
  nF : NoAttr K C "folds"
  nT : NoAttr K C "table"
def spBook (K : PySem.W.Frag) (C : Addr) : Sp := fun vs H Q _ => ∃ (r dx fa : Addr) (sg : List Nat) (fs : List Fd) (xs : List V), vs = [.ref r, .str (S sg), .ref fa] ∧
  H r = some (.ins C dx []) ∧ SqT K H fa xs ∧ FdAll K H xs fs ∧ FsOk sg fs ∧ SgOk sg ∧
  ∀ H' ta, BkAt H' C r sg fs fa ta → (∀ b o, H b = some o → b ≠ r → H' b = some o) → Q .non H'
theorem tab_snoc (fs : List Fd) (f : Fd) : tabF (fs ++ [f]) = tabF fs ++ [([Sum.inr (S [f.x]), Sum.inr (S [f.y])], V.str (S f.z))] := by
  unfold tabF
  rw [List.map_append]
  rfl
theorem putK_new {κ : Type} [DecidableEq κ] {kvs : List (κ × V)} {k : κ} {v : V} (h : ∀ p ∈ kvs, p.1 ≠ k) : putK kvs k v = kvs ++ [(k, v)] := by
  unfold putK
  rw [if_neg]
  intro z
  obtain ⟨p, hp, e⟩ := List.any_eq_true.mp z
  exact h p hp (of_decide_eq_true e)
theorem walk_enumT {K : PySem.W.Frag} {a : Addr} {xs : List V} : Walk (Iee K a) xs.length (fun H => SqT K H a xs) (YPair (fun i => some (.int (i : Nat))) (fun i => xs[i]?)) := by
  refine ⟨fun i _ hi q => ⟨xs, xs[i], q, by simp [hi]⟩, fun _ q => ⟨xs, q, Nat.le_refl _⟩, fun i H v H' _ q y => ?_⟩
  obtain ⟨T, x, h1, h2, h3, h4⟩ := y
  exact ⟨T, .int (i : Nat), x, h1, h2, h3, rfl, h4 xs q⟩
def aheadF (fs : List Fd) : Nat → Str × Str
  | 0 => ("", "")
  | i + 1 => match fs[i]? with
    | some f => keyF f
    | none => ("", "")
theorem ahead_lt {sg : List Nat} {fs : List Fd} (h : FsOk sg fs) {i : Nat} {f : Fd} (hf : fs[i]? = some f) : ltSS (aheadF fs i) (keyF f) = true := by
  have hi : i < fs.length := by
    rcases Nat.lt_or_ge i fs.length with h | h
    · exact h
    · rw [List.getElem?_eq_none h] at hf
      cases hf
  cases i with
  | zero =>
    have e : ltSS ("", "") (keyF f) = (decide (([] : List Nat) < [f.x]) || (!decide ([f.x] < ([] : List Nat)) && (decide (([] : List Nat) < [f.y]) || (!decide ([f.y] < ([] : List Nat)) && false)))) := rfl
    show ltSS ("", "") (keyF f) = true
    rw [e, decide_eq_true (show ([] : List Nat) < [f.x] from List.nil_lt_cons _ _)]
    rfl
  | succ i =>
    have e : fs[i]? = some fs[i] := List.getElem?_eq_getElem (by omega)
    show ltSS (match fs[i]? with | some f => keyF f | none => ("", "")) _ = true
    rw [e]
    exact h.asc i (i + 1) (by omega) hi _ _ e hf
theorem key_ne {sg : List Nat} {fs : List Fd} (h : FsOk sg fs) {i : Nat} {f : Fd} (hf : fs[i]? = some f) : ∀ p ∈ tabF (fs.take i), p.1 ≠ [Sum.inr (S [f.x]), Sum.inr (S [f.y])] := by
  intro p hp e
  have hi : i < fs.length := by
    rcases Nat.lt_or_ge i fs.length with h | h
    · exact h
    · rw [List.getElem?_eq_none h] at hf
      cases hf
  obtain ⟨g, hg, rfl⟩ := List.mem_map.mp hp
  obtain ⟨j, hj⟩ := List.mem_iff_getElem?.mp hg
  have hji : j < i := by
    rcases Nat.lt_or_ge j i with h | h
    · exact h
    · rw [List.getElem?_eq_none (by rw [List.length_take]; omega)] at hj
      cases hj
  rw [List.getElem?_take, if_pos hji] at hj
  have l := h.asc j i hji hi g f hj hf
  have e1 : keyF g = keyF f := by
    injection e with e1 e2
    injection e2 with e2 _
    have e1' : S [g.x] = S [f.x] := Sum.inr.inj e1
    have e2' : S [g.y] = S [f.y] := Sum.inr.inj e2
    exact Prod.ext e1' e2'
  rw [e1] at l
  have := (PyProof.Rows.listOrd PyProof.Rows.itemOrd).irrefl (txt2 (keyF f))
  have l' : (PyProof.Rows.listOrd PyProof.Rows.itemOrd).blt (txt2 (keyF f)) (txt2 (keyF f)) = true := l
  rw [this] at l'
  cases l'
section
variable {P : Program} {w : World} {K : PySem.W.Frag} {mg : Str → Option Value} {base : Heap} {C : Addr}
theorem ok_book {f fL fF : Addr} {fd fdL fdF : FuncData} (F : Fun K "__init__" "Book.__init__" s_Book___init__ f fd) (B : Blt mg) (R : BkC K C)
    (FL : Fun K "is_letters" "is_letters" s_is_letters fL fdL) (gL : mg "is_letters" = some (.ref fL)) (bL : Binds K fdL ["thing"] []) (GL : FnOk P w K mg base CX0 2 fL fdL ["thing"] (spLetters K))
    (FF : Fun K "is_fold" "is_fold" s_is_fold fF fdF) (gF : mg "is_fold" = some (.ref fF)) (bF : Binds K fdF ["letters", "thing"] []) (GF : FnOk P w K mg base CX0 2 fF fdF ["letters", "thing"] (spFold K)) :
    FnOk P w K mg base CX0 3 f fd ["self", "letters", "folds"] (spBook K C) := by
  refine F.ok sc_Book___init__ (fun vs H Q E h => ?_) (fun cdv A outer s H vs Q E hr h => ?_)
  · obtain ⟨_, _, _, _, _, _, rfl, _⟩ := h
    rfl
  · obtain ⟨r, dx, fa, sg, fs, xs, rfl, hr0, hfa, hall, hfs, hs, q⟩ := h
    have hu : (A.deeper (envOfC "Book.__init__" (defScope s_Book___init__) s.heap.objs.size f cdv)).units + 64 < cLine := by
      have := hr.units
      omega
    have hu0 : (A.deeper (envOfC "Book.__init__" (defScope s_Book___init__) s.heap.objs.size f cdv)).units < cLine := by omega
    have hu1 : (A.deeper (envOfC "Book.__init__" (defScope s_Book___init__) s.heap.objs.size f cdv)).units + 1 < cLine := by omega
    refine ⟨_, (pss_cons (ps_if (pt_not (pt_val (pe_call GL (hr.mono (by decide)) (by rfl) gL FL.kp bL .nil pass0 (pa_cons (pv 1) pa_nil)))) (pss_one ps_dead) pss_nil)
      (pss_cons (ps_if (pt_not (pt_val (pe_callB call_isi (by rfl) B.isi (by decide +kernel) (pa_cons (pv 2) (pa_cons (pe_bltn (v := .ty "tuple") (by rfl) B.tuple (by decide +kernel) rfl) pa_nil))))) (pss_one ps_dead) pss_nil)
      (pss_cons (ps_set (i := 3) sc_Book___init__.nd rfl (Or.inl rfl) pe_dnewT)
      (pss_cons (ps_set (i := 4) sc_Book___init__.nd rfl (Or.inl rfl) (pe_tup (pa_cons pe_str (pa_cons pe_str pa_nil))))
      (pss_cons (ps_for PassesOwn.never rfl (pi_enumT (by rfl) B.enumerate (pa_cons (pv 2) pa_nil)) (pg_tup rfl (pgs_cons (pg_name (i := 5) sc_Book___init__.nd rfl (Or.inl rfl)) (pgs_cons (pg_name (i := 6) sc_Book___init__.nd rfl (Or.inl rfl)) pgs_nil)))
        (pss_cons (ps_if (PW.pt (pw_or (pt_not (pt_val (pe_call GF (hr.mono (by decide)) (by rfl) gF FF.kp bF .nil pass0 (pa_cons (pv 1) (pa_cons (pv 6) pa_nil))))) (pw_or1 (pt_cmpR (op_leSS hu0) (pe_slice sl_tup (pv 6) po_none (po_some pe_int)) (pv 4) (nomark _))))) (pss_one ps_dead) pss_nil)
        (pss_cons (ps_set (i := 4) sc_Book___init__.nd rfl (Or.inl rfl) (pe_slice sl_tup (pv 6) po_none (po_some pe_int)))
        (pss_one (ps_dput hu1 (pv 3) (pv 4) (pe_ix ix_tup (pv 6) pe_int (fun _ _ => rfl)) rfl)))))
      (pss_cons (ps_fld (pv 0) (pv 1) rfl)
      (pss_cons (ps_fld (pv 0) (pv 2) rfl)
      (pss_one (ps_fld (pv 0) (pv 3) rfl))))))))), ?_⟩
    have hl : xs.length = fs.length := hall.len
    refine ⟨_, rfl, _, rfl, Or.inl ⟨sg, rfl, by have := hs.few; omega, fun H1 s1 => ⟨_, rfl, ifF (by rw [hs.ok]; rfl) ?_⟩⟩⟩
    refine ⟨_, rfl, _, .ty "tuple", _, _, true, rfl, .ty _, ty_tup (Same.tup s1 hfa), kit_ty (by decide +kernel), true, rfl, iteF ?_⟩
    refine fun ta hta => ?_
    have s2 : Same H (upd H1 ta (.dT [])) := s1.trans (same_new hta)
    have ht2 : upd H1 ta (.dT []) ta = some (.dT (tabF [])) := upd_same
    have hnta : H ta = none := s1.free hta
    generalize upd H1 ta (.dT []) = H2 at s2 ht2 ⊢
    refine ⟨sz_le (n := 2) (by decide), fun p0 hp0 => ?_⟩
    have s3 : Same H (upd H2 p0 (.tup [V.str "", V.str ""])) := s2.trans (same_new hp0)
    have ht3 := (same_new (o := HO.tup [V.str "", V.str ""]) hp0) _ _ ht2
    have hp3 : upd H2 p0 (.tup [V.str "", V.str ""]) p0 = some (.tup [V.str "", V.str ""]) := upd_same
    generalize upd H2 p0 (.tup [V.str "", V.str ""]) = H3 at s3 ht3 hp3 ⊢
    refine ⟨_, rfl, fa, xs, rfl, Same.tup s3 hfa, ?_⟩
    refine for_it (walk_enumT (K := K) (a := fa) (xs := xs)) (fun i σ H' => Same H H' ∧ H' ta = some (.dT (tabF (fs.take i))) ∧ ∃ pa o5 o6, H' pa = some (.tup [.str (aheadF fs i).1, .str (aheadF fs i).2]) ∧ σ = [some (.ref r), some (.str (S sg)), some (.ref fa), some (.ref ta), some (.ref pa), o5, o6])
      ⟨s3, ht3, p0, _, _, hp3, rfl⟩ (fun i σ H' hi p => Same.tup p.1 hfa) ?_ ?_
    · rintro i x σ H4 H5 hi ⟨s4, ht4, pa, o5, o6, hpa, rfl⟩ ⟨T, y1, y2, rfl, hT, rfl, hy1, hy2⟩
      cases hy1
      obtain ⟨f, hf, hat⟩ := hall.at hy2
      have s5 := same_new (o := HO.tup [V.int (i : Nat), y2]) hT
      have t5 := s4.trans s5
      have ht5 := s5 _ _ ht4
      have hpa5 := s5 _ _ hpa
      refine ⟨T, _, rfl, Or.inl (Or.inl upd_same), rfl, _, _, rfl, _, _, rfl, rfl, ?_⟩
      generalize upd H4 T (.tup [V.int (i : Nat), y2]) = H5 at t5 ht5 hpa5 ⊢
      have hat5 := hat.kp (KpT.same t5)
      refine ⟨_, rfl, _, rfl, sg, y2, f, rfl, hat5, hfs.ok f (List.mem_of_getElem? hf), _, rfl, ifF rfl ?_⟩
      obtain ⟨b, rfl, hb⟩ := hat5
      have ecut : cutV (fdV f) none (some 2) = [V.str (S [f.x]), V.str (S [f.y])] := rfl
      refine ⟨_, rfl, 2, rfl, b, _, rfl, hb, (fun z => absurd z.2 (by show ¬ 2 = 3; decide)), fun p1 hp1 => ?_⟩
      rw [ecut]
      have s6 := same_new (o := HO.tup [V.str (S [f.x]), V.str (S [f.y])]) hp1
      refine ⟨_, rfl, p1, pa, keyF f, aheadF fs i, rfl, rfl, Or.inl (Or.inl upd_same), Or.inl (Or.inl (s6 _ _ hpa5)), _, rfl, ?_⟩
      rw [le_of_lt (ahead_lt hfs hf)]
      refine ifF rfl ?_
      have t6 := t5.trans s6
      have ht6 := s6 _ _ ht5
      have hb6 := Same.tup s6 hb
      generalize upd H5 p1 (.tup [V.str (S [f.x]), V.str (S [f.y])]) = H6 at t6 ht6 hb6 ⊢
      refine ⟨_, rfl, 2, rfl, b, _, rfl, hb6, (fun z => absurd z.2 (by show ¬ 2 = 3; decide)), fun p2 hp2 => ?_⟩
      rw [ecut]
      have s7 := same_new (o := HO.tup [V.str (S [f.x]), V.str (S [f.y])]) hp2
      have t7 := t6.trans s7
      have ht7 := s7 _ _ ht6
      have hb7 := Same.tup s7 hb6
      have hp7 : upd H6 p2 (.tup [V.str (S [f.x]), V.str (S [f.y])]) p2 = some (.tup [V.str (S [f.x]), V.str (S [f.y])]) := upd_same
      generalize upd H6 p2 (.tup [V.str (S [f.x]), V.str (S [f.y])]) = H7 at t7 ht7 hb7 hp7 ⊢
      have hlen : (tabF (fs.take i)).length < sizeLine := by
        unfold tabF
        rw [List.length_map, List.length_take]
        have := hfs.few
        exact sz_lt (by omega)
      have hput : putK (tabF (fs.take i)) [Sum.inr (S [f.x]), Sum.inr (S [f.y])] (V.str (S f.z)) = tabF (fs.take (i + 1)) := by
        rw [putK_new (key_ne hfs hf), List.take_add_one, hf]
        exact (tab_snoc _ f).symm
      refine ⟨_, rfl, b, _, 2, .str (S f.z), rfl, rfl, hb7, atI_nat (j := 2) rfl, _, rfl, _, rfl, ta, upd H7 ta (.dT (tabF (fs.take (i + 1)))), rfl, Or.inr ⟨tabF (fs.take i), [Sum.inr (S [f.x]), Sum.inr (S [f.y])], p2, ht7, rfl, hp7, hlen, by rw [hput]⟩, ?_⟩
      have hne : p2 ≠ ta := by
        rintro rfl
        rw [hp7] at ht7
        cases ht7
      refine ⟨fun b2 o2 e2 => ?_, upd_same, p2, _, _, (upd_ne hne).trans ?_, rfl⟩
      · rw [upd_ne (ne_of_none e2 hnta)]
        exact t7 b2 o2 e2
      · have e3 : aheadF fs (i + 1) = keyF f := by
          show (match fs[i]? with | some f => keyF f | none => ("", "")) = _
          rw [hf]
        rw [e3]
        exact hp7
    · rintro σ H4 ⟨s4, ht4, pa, o5, o6, hpa, rfl⟩
      rw [hl, List.take_length] at ht4
      have h4 := s4 _ _ hr0
      refine ⟨_, rfl, _, rfl, r, C, dx, [], rfl, h4, R.cls, R.nL, (by show 0 < 1000; decide), ?_⟩
      refine ⟨_, rfl, _, rfl, r, C, dx, _, rfl, upd_same, R.cls, R.nF, (by show 1 < 1000; decide), ?_⟩
      refine ⟨_, rfl, _, rfl, r, C, dx, _, rfl, upd_same, R.cls, R.nT, (by show 2 < 1000; decide), ?_⟩
      have hrt : ta ≠ r := by
        rintro rfl
        rw [hr0] at hnta
        cases hnta
      refine q _ ta ⟨⟨dx, upd_same.trans ?_⟩, (upd_ne hrt).trans ((upd_ne hrt).trans ((upd_ne hrt).trans ht4))⟩ (fun b o e hb => ?_)
      · exact congrArg (fun z => some (HO.ins C dx z)) rfl
      · rw [upd_ne hb, upd_ne hb, upd_ne hb]
        exact s4 b o e
end
end Lw

namespace Lw
open PySem PySem.Spec PyProof.Rows L2 Mq
open SX (S)
def WebGood (sg : List Nat) (v : V) (l : List Nat) : Prop := v = .str (S l) ∧ wordOk sg l
def WebBad (K : PySem.W.Frag) (H : Hp) (sg : List Nat) (v : V) : Prop := (∃ l, v = .str (S l) ∧ l.length ≤ 1000 ∧ allB l sg = false) ∨ NoStr K H v
def spCheck (K : PySem.W.Frag) (CW : Addr) : Sp := fun vs H Q E => ∃ (sg : List Nat) (v : V), vs = [.str (S sg), v] ∧
  ((∃ l, WebGood sg v l ∧ ∀ H', Same H H' → Q .non H') ∨ (WebBad K H sg v ∧ ∀ H' d, Same H H' → H' d = none → E (.ref CW) (some d) (upd H' d (.xd [("thing", v)]))))
/-! ### letters laid -/
def leftM (fs : List Fd) (x y : Nat) : Option (List Nat) := (fs.find? fun f => decide (f.x = x) && decide (f.y = y)).map (·.z)
def laidM (fs : List Fd) (w : List Nat) (y : Nat) : List Nat :=
  match w.getLast? with
  | .none => w ++ [y]
  | .some x => match leftM fs x y with
    | .none => w ++ [y]
    | .some z => w.dropLast ++ z
def optZ : Option (List Nat) → V
  | .none => .non
  | .some z => .str (S z)
theorem S_one {c d : Nat} : S [c] = S [d] ↔ c = d := ⟨fun h => by have := SX.S_inj h; simpa using this, fun h => by rw [h]⟩
theorem tab_val (fs : List Fd) (x y : Nat) : (valV (tabF fs) [Sum.inr (S [x]), Sum.inr (S [y])]).getD .non = optZ (leftM fs x y) := by
  unfold valV leftM tabF
  induction fs with
  | nil => rfl
  | cons f fs ih =>
    have e : decide (([Sum.inr (S [f.x]), Sum.inr (S [f.y])] : List Key) = [Sum.inr (S [x]), Sum.inr (S [y])]) = (decide (f.x = x) && decide (f.y = y)) := by
      rw [← Bool.decide_and]
      refine decide_eq_decide.mpr ⟨fun h => ?_, fun h => by rw [h.1, h.2]⟩
      injection h with h1 h2
      injection h2 with h2 _
      exact ⟨S_one.mp (Sum.inr.inj h1), S_one.mp (Sum.inr.inj h2)⟩
    rw [List.map_cons, List.find?_cons, List.find?_cons]
    show (Option.map _ (match decide (([Sum.inr (S [f.x]), Sum.inr (S [f.y])] : List Key) = [Sum.inr (S [x]), Sum.inr (S [y])]) with | true => _ | false => _)).getD V.non = _
    rw [e]
    cases decide (f.x = x) && decide (f.y = y) with
    | true => rfl
    | false => exact ih
def spLeft (C : Addr) : Sp := fun vs H Q _ => ∃ (r fa ta : Addr) (sg : List Nat) (fs : List Fd) (x y : Nat), vs = [.ref r, .str (S [x]), .str (S [y])] ∧ BkAt H C r sg fs fa ta ∧ ∀ H', Same H H' → Q (optZ (leftM fs x y)) H'
def spBehind (C : Addr) : Sp := fun vs H Q _ => ∃ (r fa ta : Addr) (sg w : List Nat) (fs : List Fd) (y : Nat), vs = [.ref r, .str (S w), .str (S [y])] ∧ BkAt H C r sg fs fa ta ∧ FsOk sg fs ∧ w.length ≤ 90000 ∧ ∀ H', Same H H' → Q (.str (S (laidM fs w y))) H'
section
variable {P : Program} {w : World} {K : PySem.W.Frag} {mg : Str → Option Value} {base : Heap} {C CW : Addr}
theorem ok_check_web {f fW fB : Addr} {fd fdW : FuncData} (F : Fun K "check_web" "check_web" s_check_web f fd) (B : Blt mg)
    (FW : Fun K "is_web" "is_web" s_is_web fW fdW) (gW : mg "is_web" = some (.ref fW)) (bW : Binds K fdW ["letters", "thing"] [])
    (GW : FnOk P w K mg base CX0 2 fW fdW ["letters", "thing"] (spWord K)) (T : MqE_thing.Txt K mg "BadWeb" "BadWeb.__init__" CW fB) :
    FnOk P w K mg base (L2.CX P w) 3 f fd ["letters", "thing"] (spCheck K CW) := by
  refine F.okX sc_check_web (fun vs H Q E h => ?_) (fun cdv A outer s H vs Q E hr h => ?_)
  · obtain ⟨_, _, rfl, _⟩ := h
    rfl
  · obtain ⟨sg, v, rfl, h⟩ := h
    refine ⟨_, (pss_one (ps_if (pt_not (pt_val (pe_call GW (hr.mono (by decide)) (by rfl) gW FW.kp bW .nil pass0 (pa_cons (pv 0) (pa_cons (pv 1) pa_nil))))) (pss_one (MqE_thing.ps_raise rfl T hr (takes_of rfl rfl rfl rfl) (pa_cons (pv 1) pa_nil))) pss_nil)), ?_⟩
    refine ⟨_, rfl, _, rfl, sg, v, rfl, ?_⟩
    rcases h with ⟨l, hg, q⟩ | ⟨hb, q⟩
    · refine Or.inl ⟨l, hg.1, by have := hg.2.2; omega, fun H1 s1 => ⟨_, rfl, ?_⟩⟩
      rw [allB_of hg.2.1]
      exact ifF rfl (q H1 s1)
    · have raise : ∀ H1, Same H H1 → (∃ v', [v] = [v'] ∧ ∀ d, H1 d = none → E (.ref CW) (some d) (upd H1 d (.xd [("thing", v')]))) := fun H1 s1 => ⟨v, rfl, fun d hd => q H1 d s1 hd⟩
      rcases hb with ⟨l, hv, hl, ha⟩ | hn
      · refine Or.inl ⟨l, hv, by omega, fun H1 s1 => ⟨_, rfl, ?_⟩⟩
        rw [ha]
        exact ifT rfl ⟨_, rfl, raise H1 s1⟩
      · refine Or.inr ⟨hn, fun H1 s1 => ⟨_, rfl, ifT rfl ⟨_, rfl, raise H1 s1⟩⟩⟩
theorem BkAt.same {H H' : Hp} {r fa ta : Addr} {sg : List Nat} {fs : List Fd} (h : BkAt H C r sg fs fa ta) (e : Same H H') : BkAt H' C r sg fs fa ta := let ⟨⟨d, x⟩, y⟩ := h; ⟨⟨d, e _ _ x⟩, e _ _ y⟩
theorem ok_left {f : Addr} {fd : FuncData} (F : Fun K "left_of" "Book.left_of" s_Book_left_of f fd) (R : BkC K C) : FnOk P w K mg base CX0 1 f fd ["self", "last", "laid"] (spLeft C) := by
  refine F.ok sc_Book_left_of (fun vs H Q E h => ?_) (fun cdv A outer s H vs Q E hr h => ?_)
  · obtain ⟨_, _, _, _, _, _, _, rfl, _⟩ := h
    rfl
  · obtain ⟨r, fa, ta, sg, fs, x, y, rfl, ⟨⟨dx, h1⟩, h2⟩, q⟩ := h
    have hu1 : (A.deeper (envOfC "Book.left_of" (defScope s_Book_left_of) s.heap.objs.size f cdv)).units + 1 < cLine := by
      have := hr.units
      omega
    refine ⟨_, pss_one (ps_ret (pe_dget1 hu1 (pe_fld (pv 0) rfl) (pe_tup (pa_cons (pv 1) (pa_cons (pv 2) pa_nil))) ⟨rfl, rfl, rfl, rfl⟩)), ?_⟩
    refine ⟨_, rfl, r, C, dx, _, _, rfl, h1, R.cls, R.nT, rfl, ta, rfl, ?_, _, rfl, _, rfl, sz_le (n := 2) (by decide), fun p hp => ?_⟩
    · exact Or.inr ⟨_, .inl h2⟩
    have s1 := same_new (o := HO.tup [V.str (S [x]), V.str (S [y])]) hp
    refine ⟨_, DGet.t (k := [Sum.inr (S [x]), Sum.inr (S [y])]) (s1 _ _ h2) upd_same, ?_⟩
    rw [tab_val]
    exact q _ s1
theorem cx0_at {X : Cx} {σ : L2.St} {E : XK} : PassesAt CX0 X σ E := fun _ _ _ _ _ _ z => z.elim
theorem left_len {sg : List Nat} {fs : List Fd} (h : FsOk sg fs) {x y : Nat} {z : List Nat} (e : leftM fs x y = .some z) : z.length ≤ 1 := by
  unfold leftM at e
  cases hf : fs.find? fun f => decide (f.x = x) && decide (f.y = y) with
  | none => rw [hf] at e; cases e
  | some f =>
    rw [hf] at e
    cases e
    rcases (h.ok f (List.mem_of_find?_eq_some hf)).2.2 with h1 | ⟨c, _, h1⟩
    · show f.z.length ≤ 1
      rw [h1]
      decide
    · show f.z.length ≤ 1
      rw [h1]
      exact Nat.le_refl 1
theorem ok_behind {f fL : Addr} {fd fdL : FuncData} (F : Fun K "laid_behind" "laid_behind" s_laid_behind f fd) (R : BkC K C)
    (FL : Fun K "left_of" "Book.left_of" s_Book_left_of fL fdL) (mL : Meth K C "left_of" fL) (bL : Binds K fdL ["self", "last", "laid"] []) : FnOk P w K mg base CX0 2 f fd ["book", "web", "letter"] (spBehind C) := by
  have GL : FnOk P w K mg base CX0 1 fL fdL ["self", "last", "laid"] (spLeft C) := ok_left FL R
  refine F.ok sc_laid_behind (fun vs H Q E h => ?_) (fun cdv A outer s H vs Q E hr h => ?_)
  · obtain ⟨_, _, _, _, _, _, _, rfl, _⟩ := h
    rfl
  · obtain ⟨r, fa, ta, sg, l, fs, y, rfl, hb, hfs, hl, q⟩ := h
    have hr1 : Room 1 (A.deeper (envOfC "laid_behind" (defScope s_laid_behind) s.heap.objs.size f cdv)) := hr
    refine ⟨_, (pss_cons (ps_set (i := 3) sc_laid_behind.nd rfl (Or.inl rfl) (pe_ifExp (pt_truth (pv 1) (by intro _; rfl)) (pe_methT (E := fun _ _ _ _ => False) (pv 0) R.cls mL GL hr1 bL (fun _ => cx0_at) (pa_cons (pe_ix ix_str (pv 1) (pe_un un_neg pe_int) (fun _ _ => rfl)) (pa_cons (pv 2) pa_nil))) pe_non))
      (pss_one (ps_ret (pe_ifExp (pt_cmpR op_isN (pv 3) pe_non (nomark _)) (pe_op op_add_str (pv 1) (pv 2)) (pe_op op_add_str (pe_slice C8.sl_txt (pv 1) po_none (po_some (pe_un un_neg pe_int))) (pv 3)))))), ?_⟩
    obtain ⟨⟨dx, h1⟩, h2⟩ := hb
    have hlz : (S l).length ≤ sizeLine := by
      rw [SX.S_len]
      exact sz_le (by omega)
    have hadd : ∀ H', Same H H' → laidM fs l y = l ++ [y] → (∃ i j : Str, V.str (S l) = .str i ∧ V.str (S [y]) = .str j ∧ i.length + j.length ≤ sizeLine ∧ Q (.str (i ++ j)) H') := by
      intro H' s' e
      refine ⟨S l, S [y], rfl, rfl, ?_, ?_⟩
      · rw [SX.S_len, SX.S_len]
        exact sz_le (by show l.length + 1 ≤ _; omega)
      · rw [SX.S_cat, ← e]
        exact q H' s'
    refine ⟨_, rfl, ((S l).length : Int) != 0, ⟨hlz, rfl⟩, ?_⟩
    rcases List.eq_nil_or_concat l with rfl | ⟨u, x, rfl⟩
    · refine ifF (by decide) ?_
      refine ⟨_, rfl, rfl, _, rfl, ifT rfl ⟨_, rfl, _, rfl, hadd H (Same.refl H) rfl⟩⟩
    · rw [List.concat_eq_append] at *
      have hn : (((S (u ++ [x])).length : Int) != 0) = true := by
        rw [SX.S_len, List.length_append]
        simp
        omega
      have hlast : laidM fs (u ++ [x]) y = (match leftM fs x y with | .none => u ++ [x] ++ [y] | .some z => u ++ z) := by
        unfold laidM
        rw [List.getLast?_concat, List.dropLast_concat]
      refine ifT hn ?_
      refine ⟨_, rfl, r, dx, _, rfl, h1, rfl, _, rfl, _, rfl, ?_⟩
      refine ⟨S (u ++ [x]), -1, x, rfl, rfl, hlz, atI_last u x, _, rfl, r, fa, ta, sg, fs, x, y, rfl, ⟨⟨dx, h1⟩, h2⟩, fun H1 s1 => ?_⟩
      cases e : leftM fs x y with
      | none =>
        rw [e] at hlast
        exact ⟨_, rfl, rfl, _, rfl, ifT rfl ⟨_, rfl, _, rfl, hadd H1 s1 hlast⟩⟩
      | some z =>
        rw [e] at hlast
        have hz := left_len hfs e
        refine ⟨_, rfl, rfl, _, rfl, ifF rfl ⟨_, rfl, _, rfl, _, rfl, S (u ++ [x]), rfl, hlz, ?_⟩⟩
        rw [show Txt.slice (S (u ++ [x])) none (some (-1)) = S u from SX.butlast_snoc u x]
        refine ⟨_, rfl, S u, S z, rfl, rfl, ?_, ?_⟩
        · rw [SX.S_len, SX.S_len]
          rw [List.length_append] at hl
          exact sz_le (by omega)
        · rw [SX.S_cat]
          have q1 := q H1 s1
          rw [hlast] at q1
          exact q1
end
end Lw

namespace Lw
open PySem PySem.Spec PyProof.Rows L2 Mq
open SX (S)
def ledM (fs : List Fd) (w row : List Nat) : List Nat := row.foldl (laidM fs) w
theorem laid_len {sg : List Nat} {fs : List Fd} (h : FsOk sg fs) (w : List Nat) (y : Nat) : (laidM fs w y).length ≤ w.length + 1 := by
  unfold laidM
  split
  · rw [List.length_append]
    exact Nat.le_refl _
  · split
    · rw [List.length_append]
      exact Nat.le_refl _
    · rename_i z e
      have := left_len h e
      rw [List.length_append, List.length_dropLast]
      omega
theorem led_len {sg : List Nat} {fs : List Fd} (h : FsOk sg fs) : ∀ (row w : List Nat), (ledM fs w row).length ≤ w.length + row.length
  | [], w => Nat.le_refl _
  | y :: row, w => by
    have h1 := led_len h row (laidM fs w y)
    have h2 := laid_len h w y
    show (ledM fs (laidM fs w y) row).length ≤ w.length + (row.length + 1)
    omega
theorem led_snoc (fs : List Fd) (w row : List Nat) (y : Nat) : ledM fs w (row ++ [y]) = laidM fs (ledM fs w row) y := by
  unfold ledM
  rw [List.foldl_append]
  rfl
def BadS (K : PySem.W.Frag) (H : Hp) (sg : List Nat) (v : V) : Prop := ∀ H', Same H H' → WebBad K H' sg v
def spLaidOn (K : PySem.W.Frag) (C CW : Addr) : Sp := fun vs H Q E => ∃ (r fa ta : Addr) (sg : List Nat) (fs : List Fd) (v : V) (y : Nat), vs = [.ref r, v, .str (S [y])] ∧ BkAt H C r sg fs fa ta ∧ FsOk sg fs ∧
  ((∃ l, WebGood sg v l ∧ ∀ H', Same H H' → Q (.str (S (laidM fs l y))) H') ∨ (BadS K H sg v ∧ ∀ H' d, Same H H' → H' d = none → E (.ref CW) (some d) (upd H' d (.xd [("thing", v)]))))
def spLed (K : PySem.W.Frag) (C CW : Addr) : Sp := fun vs H Q E => ∃ (r fa ta : Addr) (sg : List Nat) (fs : List Fd) (v u : V), vs = [.ref r, v, u] ∧ BkAt H C r sg fs fa ta ∧ FsOk sg fs ∧
  ((∃ l row, WebGood sg v l ∧ WebGood sg u row ∧ ∀ H', Same H H' → Q (.str (S (ledM fs l row))) H') ∨
   (BadS K H sg v ∧ ∀ H' d, Same H H' → H' d = none → E (.ref CW) (some d) (upd H' d (.xd [("thing", v)]))) ∨
   ((∃ l, WebGood sg v l) ∧ BadS K H sg u ∧ ∀ H' d, Same H H' → H' d = none → E (.ref CW) (some d) (upd H' d (.xd [("thing", u)]))))
section
variable {P : Program} {w : World} {K : PySem.W.Frag} {mg : Str → Option Value} {base : Heap} {C CW : Addr}
theorem ok_laid_on {f fK fM : Addr} {fd fdK fdM : FuncData} (F : Fun K "laid_on" "laid_on" s_laid_on f fd) (R : BkC K C)
    (FK : Fun K "check_web" "check_web" s_check_web fK fdK) (gK : mg "check_web" = some (.ref fK)) (bK : Binds K fdK ["letters", "thing"] []) (GK : FnOk P w K mg base (L2.CX P w) 3 fK fdK ["letters", "thing"] (spCheck K CW))
    (FM : Fun K "laid_behind" "laid_behind" s_laid_behind fM fdM) (gM : mg "laid_behind" = some (.ref fM)) (bM : Binds K fdM ["book", "web", "letter"] []) (GM : FnOk P w K mg base CX0 2 fM fdM ["book", "web", "letter"] (spBehind C)) :
    FnOk P w K mg base (L2.CX P w) 4 f fd ["book", "web", "letter"] (spLaidOn K C CW) := by
  refine F.okX sc_laid_on (fun vs H Q E h => ?_) (fun cdv A outer s H vs Q E hr h => ?_)
  · obtain ⟨_, _, _, _, _, _, _, rfl, _⟩ := h
    rfl
  · obtain ⟨r, fa, ta, sg, fs, v, y, rfl, hb, hfs, h⟩ := h
    refine ⟨_, (pss_cons (ps_expr (pe_call GK (hr.mono (by decide)) (by rfl) gK FK.kp bK .nil (passes_call (takes_of rfl rfl rfl rfl) (fun _ _ _ _ z => z)) (pa_cons (pe_fld (pv 0) rfl) (pa_cons (pv 1) pa_nil))))
      (pss_one (ps_ret (pe_call GM (hr.mono (by decide)) (by rfl) gM FM.kp bM .nil pass0 (pa_cons (pv 0) (pa_cons (pv 1) (pa_cons (pv 2) pa_nil))))))), ?_⟩
    obtain ⟨dx, h1⟩ := hb.1
    refine ⟨_, rfl, r, C, dx, _, _, rfl, h1, R.cls, R.nL, rfl, _, rfl, sg, v, rfl, ?_⟩
    rcases h with ⟨l, hg, q⟩ | ⟨hbad, q⟩
    · refine Or.inl ⟨l, hg, fun H1 s1 => ?_⟩
      have hw := hg.2.2
      refine ⟨_, rfl, _, rfl, _, rfl, r, fa, ta, sg, l, fs, y, by rw [hg.1]; rfl, hb.same s1, hfs, by omega, fun H2 s2 => q H2 (s1.trans s2)⟩
    · exact Or.inr ⟨hbad H (Same.refl H), q⟩
theorem ok_led {f fK fM : Addr} {fd fdK fdM : FuncData} (F : Fun K "led" "led" s_led f fd) (R : BkC K C)
    (FK : Fun K "check_web" "check_web" s_check_web fK fdK) (gK : mg "check_web" = some (.ref fK)) (bK : Binds K fdK ["letters", "thing"] []) (GK : FnOk P w K mg base (L2.CX P w) 3 fK fdK ["letters", "thing"] (spCheck K CW))
    (FM : Fun K "laid_behind" "laid_behind" s_laid_behind fM fdM) (gM : mg "laid_behind" = some (.ref fM)) (bM : Binds K fdM ["book", "web", "letter"] []) (GM : FnOk P w K mg base CX0 2 fM fdM ["book", "web", "letter"] (spBehind C)) :
    FnOk P w K mg base (L2.CX P w) 4 f fd ["book", "web", "row"] (spLed K C CW) := by
  refine F.okX sc_led (fun vs H Q E h => ?_) (fun cdv A outer s H vs Q E hr h => ?_)
  · obtain ⟨_, _, _, _, _, _, _, rfl, _⟩ := h
    rfl
  · obtain ⟨r, fa, ta, sg, fs, v, u, rfl, hb, hfs, h⟩ := h
    refine ⟨_, (pss_cons (ps_expr (pe_call GK (hr.mono (by decide)) (by rfl) gK FK.kp bK .nil (passes_call (takes_of rfl rfl rfl rfl) (fun _ _ _ _ z => z)) (pa_cons (pe_fld (pv 0) rfl) (pa_cons (pv 1) pa_nil))))
      (pss_cons (ps_expr (pe_call GK (hr.mono (by decide)) (by rfl) gK FK.kp bK .nil (passes_call (takes_of rfl rfl rfl rfl) (fun _ _ _ _ z => z)) (pa_cons (pe_fld (pv 0) rfl) (pa_cons (pv 2) pa_nil))))
      (pss_cons (ps_for (passes_of rfl) rfl (pi_str (pv 2)) (pg_name (i := 3) sc_led.nd rfl (Or.inl rfl))
        (pss_one (ps_set (i := 1) sc_led.nd rfl (Or.inl rfl) (pe_call GM (hr.mono (by decide)) (by rfl) gM FM.kp bM .nil pass0 (pa_cons (pv 0) (pa_cons (pv 1) (pa_cons (pv 3) pa_nil)))))))
      (pss_one (ps_ret (pv 1)))))), ?_⟩
    obtain ⟨dx, h1⟩ := hb.1
    refine ⟨_, rfl, r, C, dx, _, _, rfl, h1, R.cls, R.nL, rfl, _, rfl, sg, v, rfl, ?_⟩
    rcases h with ⟨l, row, hg, hgr, q⟩ | ⟨hbad, q⟩ | ⟨⟨l, hg⟩, hbad, q⟩
    · refine Or.inl ⟨l, hg, fun H1 s1 => ?_⟩
      have h2 := s1 _ _ h1
      refine ⟨_, rfl, r, C, dx, _, _, rfl, h2, R.cls, R.nL, rfl, _, rfl, sg, u, rfl, Or.inl ⟨row, hgr, fun H2 s2 => ?_⟩⟩
      have hw := hg.2.2
      have hw2 := hgr.2.2
      refine ⟨_, rfl, S row, hgr.1, ?_⟩
      refine for_it (walk_S row) (fun i σ H' => Same H H' ∧ ∃ o, σ = [some (.ref r), some (.str (S (ledM fs l (row.take i)))), some u, o]) ⟨s1.trans s2, none, ?_⟩ (fun _ _ _ _ _ => trivial) ?_ ?_
      · rw [hg.1]
        rfl
      · rintro i x σ H3 H3' hi ⟨s3, o, rfl⟩ ⟨rfl, rfl⟩
        have hlen := led_len hfs (row.take i) l
        rw [List.length_take] at hlen
        refine ⟨_, rfl, _, rfl, _, rfl, r, fa, ta, sg, ledM fs l (row.take i), fs, row.getD i 0, rfl, hb.same s3, hfs, by omega, fun H4 s4 => ⟨s3.trans s4, some (.str (S [row.getD i 0])), ?_⟩⟩
        have e : row.take (i + 1) = row.take i ++ [row.getD i 0] := by
          rw [List.take_add_one, List.getD_eq_getElem?_getD, List.getElem?_eq_getElem hi]
          rfl
        rw [e, led_snoc]
        rfl
      · rintro σ H3 ⟨s3, o, rfl⟩
        rw [List.take_length]
        exact ⟨_, rfl, q H3 s3⟩
    · exact Or.inr ⟨hbad H (Same.refl H), q⟩
    · refine Or.inl ⟨l, hg, fun H1 s1 => ?_⟩
      have h2 := s1 _ _ h1
      exact ⟨_, rfl, r, C, dx, _, _, rfl, h2, R.cls, R.nL, rfl, _, rfl, sg, u, rfl, Or.inr ⟨hbad H1 s1, fun H2 d s2 hd => q H2 d (s1.trans s2) hd⟩⟩
end
end Lw

namespace Lw
open PySem PySem.Spec PyProof.Rows L2 Mq
open SX (S)
/-! ### in order -/
def aheadB (a b : List Nat) : Bool := ltIS ((a.length : Nat), S a) ((b.length : Nat), S b)
def spAhead : Sp := fun vs H Q _ => ∃ a b : List Nat, vs = [.str (S a), .str (S b)] ∧ a.length ≤ 1000 ∧ b.length ≤ 1000 ∧ ∀ H', Same H H' → Q (.bl (aheadB a b)) H'
/-! ### the law's own world -/
def wKv (sg : List Nat) (ld : Addr) : List (Key × V) := [(.inr "letters", .str (S sg)), (.inr "left", .ref ld)]
structure WAt (H : Hp) (wd ld : Addr) (sg : List Nat) (gs : List Fd) : Prop where
  w : H wd = some (.dK (wKv sg ld))
  l : H ld = some (.dT (tabF gs))
theorem WAt.same {H H' : Hp} {wd ld : Addr} {sg : List Nat} {gs : List Fd} (h : WAt H wd ld sg gs) (e : Same H H') : WAt H' wd ld sg gs := ⟨e _ _ h.w, e _ _ h.l⟩
theorem WAt.off {D C : Addr} {T : Nat} {H H' : Hp} {wd ld : Addr} {sg : List Nat} {gs : List Fd} (h : WAt H wd ld sg gs) (f : Off D C H H') (k : DeckAt D C T H) : WAt H' wd ld sg gs := by
  refine ⟨f wd _ ?_ ?_ h.w, f.at k h.l ⟨(fun _ z => nomatch z), (fun _ z => nomatch z)⟩⟩
  · rintro rfl
    obtain ⟨m, t, js, e, _⟩ := k.ex
    rw [h.w] at e
    have e2 := Option.some.inj e
    injection e2 with e2
    have e3 := congrArg List.length e2
    exact absurd e3 (by show ¬ 2 = 3; decide)
  · rintro rfl
    obtain ⟨m, t, js, _, e, _⟩ := k.ex
    rw [h.w] at e
    cases e
def zOk (gs : List Fd) : Prop := ∀ g ∈ gs, g.z.length ≤ 1
theorem leftz {gs : List Fd} (h : zOk gs) {x y : Nat} {z : List Nat} (e : leftM gs x y = .some z) : z.length ≤ 1 := by
  unfold leftM at e
  cases hf : gs.find? fun f => decide (f.x = x) && decide (f.y = y) with
  | none => rw [hf] at e; cases e
  | some f =>
    rw [hf] at e
    cases e
    exact h f (List.mem_of_find?_eq_some hf)
def spLawLaid : Sp := fun vs H Q _ => ∃ (wd ld : Addr) (sg l : List Nat) (gs : List Fd) (y : Nat), vs = [.ref wd, .str (S l), .str (S [y])] ∧ WAt H wd ld sg gs ∧ zOk gs ∧ l.length ≤ 90000 ∧ ∀ H', Same H H' → Q (.str (S (laidM gs l y))) H'
def spLawLed : Sp := fun vs H Q _ => ∃ (wd ld : Addr) (sg l row : List Nat) (gs : List Fd), vs = [.ref wd, .str (S l), .str (S row)] ∧ WAt H wd ld sg gs ∧ zOk gs ∧ l.length ≤ 10000 ∧ row.length ≤ 10000 ∧ ∀ H', Same H H' → Q (.str (S (ledM gs l row))) H'
theorem laidz_len {gs : List Fd} (h : zOk gs) (w : List Nat) (y : Nat) : (laidM gs w y).length ≤ w.length + 1 := by
  unfold laidM
  split
  · rw [List.length_append]
    exact Nat.le_refl _
  · split
    · rw [List.length_append]
      exact Nat.le_refl _
    · rename_i z e
      have := leftz h e
      rw [List.length_append, List.length_dropLast]
      omega
theorem ledz_len {gs : List Fd} (h : zOk gs) : ∀ (row w : List Nat), (ledM gs w row).length ≤ w.length + row.length
  | [], w => Nat.le_refl _
  | y :: row, w => by
    have h1 := ledz_len h row (laidM gs w y)
    have h2 := laidz_len h w y
    show (ledM gs (laidM gs w y) row).length ≤ w.length + (row.length + 1)
    omega
section
variable {P : Program} {w : World} {K : PySem.W.Frag} {mg : Str → Option Value} {base : Heap} {C CW : Addr}
theorem ok_is_ahead {f : Addr} {fd : FuncData} (F : Fun K "is_ahead" "is_ahead" s_is_ahead f fd) (B : Blt mg) : FnOk P w K mg base CX0 1 f fd ["one", "other"] spAhead := by
  refine F.ok sc_is_ahead (fun vs H Q E h => ?_) (fun cdv A outer s H vs Q E hr h => ?_)
  · obtain ⟨_, _, rfl, _⟩ := h
    rfl
  · obtain ⟨a, b, rfl, ha, hb, q⟩ := h
    have hu : (A.deeper (envOfC "is_ahead" (defScope s_is_ahead) s.heap.objs.size f cdv)).units < cLine := by
      have := hr.units
      omega
    refine ⟨_, pss_one (ps_ret (pe_cmpR (op_ltIS hu) (pe_tup (pa_cons (pe_callB call_len (by rfl) B.len (by decide +kernel) (pa_cons (pv 0) pa_nil)) (pa_cons (pv 0) pa_nil))) (pe_tup (pa_cons (pe_callB call_len (by rfl) B.len (by decide +kernel) (pa_cons (pv 1) pa_nil)) (pa_cons (pv 1) pa_nil))) (nomark _))), ?_⟩
    refine ⟨_, rfl, _, _, rfl, len_S (by omega), _, rfl, sz_le (n := 2) (by decide), fun p hp => ?_⟩
    refine ⟨_, rfl, _, _, rfl, len_S (by omega), _, rfl, sz_le (n := 2) (by decide), fun p2 hp2 => ?_⟩
    have s2 := same_new (o := HO.tup [V.int (b.length : Nat), V.str (S b)]) hp2
    have t1 : SqT K (upd H p (.tup [V.int (a.length : Nat), V.str (S a)])) p [V.int (a.length : Nat), V.str (S a)] := Or.inl (Or.inl upd_same)
    exact ⟨p, p2, ((a.length : Nat), S a), ((b.length : Nat), S b), rfl, rfl, Same.tup s2 t1, Or.inl (Or.inl upd_same), q _ ((same_new hp).trans s2)⟩
theorem ok_law_laid {f : Addr} {fd : FuncData} (F : Fun K "_law_laid" "_law_laid" s__law_laid f fd) : FnOk P w K mg base CX0 1 f fd ["_law_w", "_law_web_here", "_law_y"] spLawLaid := by
  refine F.ok sc__law_laid (fun vs H Q E h => ?_) (fun cdv A outer s H vs Q E hr h => ?_)
  · obtain ⟨_, _, _, _, _, _, rfl, _⟩ := h
    rfl
  · obtain ⟨wd, ld, sg, l, gs, y, rfl, hw, hz, hl, q⟩ := h
    have hu1 : (A.deeper (envOfC "_law_laid" (defScope s__law_laid) s.heap.objs.size f cdv)).units + 1 < cLine := by
      have := hr.units
      omega
    refine ⟨_, (pss_cons (ps_set (i := 3) sc__law_laid.nd rfl (Or.inl rfl) (pe_dget1 hu1 (pe_dget hu1 (pv 0) pe_str (fun _ _ => rfl)) (pe_tup (pa_cons (pe_slice C8.sl_txt (pv 1) (po_some (pe_un un_neg pe_int)) po_none) (pa_cons (pv 2) pa_nil))) ⟨rfl, rfl, rfl, rfl⟩))
      (pss_one (ps_ret (pe_ifExp (pt_cmpR op_isN (pv 3) pe_non (nomark _)) (pe_op op_add_str (pv 1) (pv 2)) (pe_op op_add_str (pe_slice C8.sl_txt (pv 1) po_none (po_some (pe_un un_neg pe_int))) (pv 3)))))), ?_⟩
    have hlz : (S l).length ≤ sizeLine := by
      rw [SX.S_len]
      exact sz_le (by omega)
    have g1 : DGet H wd (.str "left") (some (.ref ld)) := DGet.k (k := .inr "left") hw.w
    have hadd : ∀ H', Same H H' → laidM gs l y = l ++ [y] → (∃ i j : Str, V.str (S l) = .str i ∧ V.str (S [y]) = .str j ∧ i.length + j.length ≤ sizeLine ∧ Q (.str (i ++ j)) H') := by
      intro H' s' e
      refine ⟨S l, S [y], rfl, rfl, ?_, ?_⟩
      · rw [SX.S_len, SX.S_len]
        exact sz_le (by show l.length + 1 ≤ _; omega)
      · rw [SX.S_cat, ← e]
        exact q H' s'
    refine ⟨_, rfl, wd, _, rfl, g1, ld, rfl, Or.inr ⟨_, .inl hw.l⟩, ?_⟩
    rcases List.eq_nil_or_concat l with rfl | ⟨u, x, rfl⟩
    · refine ⟨_, rfl, _, rfl, _, rfl, S [], rfl, hlz, _, rfl, sz_le (n := 2) (by decide), fun p hp => ?_⟩
      rw [show Txt.slice (S []) (some (-1)) none = S [] by decide +kernel]
      have s1 := same_new (o := HO.tup [V.str (S []), V.str (S [y])]) hp
      have hnone : valV (tabF gs) [Sum.inr (S []), Sum.inr (S [y])] = none := by
        unfold valV tabF
        rw [List.find?_eq_none.mpr]
        · rfl
        · intro g hg
          obtain ⟨g', _, rfl⟩ := List.mem_map.mp hg
          intro z
          have z' := of_decide_eq_true z
          injection z' with z1 _
          have z2 := SX.S_inj (Sum.inr.inj z1)
          cases z2
      refine ⟨_, DGet.t (k := [Sum.inr (S []), Sum.inr (S [y])]) (s1 _ _ hw.l) upd_same, ?_⟩
      rw [hnone]
      exact ⟨_, rfl, rfl, _, rfl, ifT rfl ⟨_, rfl, _, rfl, hadd _ s1 rfl⟩⟩
    · rw [List.concat_eq_append] at *
      have hlast : laidM gs (u ++ [x]) y = (match leftM gs x y with | .none => u ++ [x] ++ [y] | .some z => u ++ z) := by
        unfold laidM
        rw [List.getLast?_concat, List.dropLast_concat] <;> rfl
      refine ⟨_, rfl, _, rfl, _, rfl, S (u ++ [x]), rfl, hlz, _, rfl, sz_le (n := 2) (by decide), fun p hp => ?_⟩
      rw [show Txt.slice (S (u ++ [x])) (some (-1)) none = S [x] from SX.last_snoc u x]
      have s1 := same_new (o := HO.tup [V.str (S [x]), V.str (S [y])]) hp
      refine ⟨_, DGet.t (k := [Sum.inr (S [x]), Sum.inr (S [y])]) (s1 _ _ hw.l) upd_same, ?_⟩
      rw [tab_val]
      generalize upd H p (.tup [V.str (S [x]), V.str (S [y])]) = H1 at s1 ⊢
      cases e : leftM gs x y with
      | none =>
        rw [e] at hlast
        exact ⟨_, rfl, rfl, _, rfl, ifT rfl ⟨_, rfl, _, rfl, hadd H1 s1 hlast⟩⟩
      | some z =>
        rw [e] at hlast
        have hz := leftz hz e
        refine ⟨_, rfl, rfl, _, rfl, ifF rfl ⟨_, rfl, _, rfl, _, rfl, S (u ++ [x]), rfl, hlz, ?_⟩⟩
        rw [show Txt.slice (S (u ++ [x])) none (some (-1)) = S u from SX.butlast_snoc u x]
        refine ⟨_, rfl, S u, S z, rfl, rfl, ?_, ?_⟩
        · rw [SX.S_len, SX.S_len]
          rw [List.length_append] at hl
          exact sz_le (by omega)
        · rw [SX.S_cat]
          have q1 := q H1 s1
          rw [hlast] at q1
          exact q1
end
end Lw

namespace Lw
open PySem PySem.Spec PyProof.Rows L2 Mq
open SX (S)
/-! ### the law's own rows, and webs drawn -/
def spLawWeb : Sp := fun vs H Q _ => ∃ (D C : Addr) (T most : Nat) (wd ld : Addr) (sg : List Nat) (gs : List Fd), vs = [.ref D, .ref wd, .int (most : Nat)] ∧ DeckAt D C T H ∧ T ≤ 900000 ∧ WAt H wd ld sg gs ∧
  0 < sg.length ∧ sg.length ≤ 1000 ∧ most ≤ 100 ∧ ∀ H' l, (∀ c ∈ l, c ∈ sg) → l.length ≤ most → DeckAt D C (T + 1 + most) H' → Off D C H H' → Q (.str (S l)) H'
theorem joinW_one : ∀ l : List Nat, TL.joinL [] (l.map fun c => [c]) = l
  | [] => rfl
  | [c] => rfl
  | c :: d :: l => by
    show [c] ++ ([] ++ TL.joinL [] ((d :: l).map fun c => [c])) = _
    rw [joinW_one (d :: l)]
    rfl
section
variable {P : Program} {w : World} {K : PySem.W.Frag} {mg : Str → Option Value} {base : Heap}
theorem ok_law_led {f fL : Addr} {fd fdL : FuncData} (F : Fun K "_law_led" "_law_led" s__law_led f fd)
    (FL : Fun K "_law_laid" "_law_laid" s__law_laid fL fdL) (gL : mg "_law_laid" = some (.ref fL)) (bL : Binds K fdL ["_law_w", "_law_web_here", "_law_y"] []) :
    FnOk P w K mg base CX0 2 f fd ["_law_w", "_law_web_here", "_law_row"] spLawLed := by
  have GL : FnOk P w K mg base CX0 1 fL fdL ["_law_w", "_law_web_here", "_law_y"] spLawLaid := ok_law_laid FL
  refine F.ok sc__law_led (fun vs H Q E h => ?_) (fun cdv A outer s H vs Q E hr h => ?_)
  · obtain ⟨_, _, _, _, _, _, rfl, _⟩ := h
    rfl
  · obtain ⟨wd, ld, sg, l, row, gs, rfl, hw, hz, hl, hrw, q⟩ := h
    refine ⟨_, (pss_cons (ps_for PassesOwn.never rfl (pi_str (pv 2)) (pg_name (i := 3) sc__law_led.nd rfl (Or.inl rfl))
        (pss_one (ps_set (i := 1) sc__law_led.nd rfl (Or.inl rfl) (pe_call GL (hr.mono (by decide)) (by rfl) gL FL.kp bL .nil pass0 (pa_cons (pv 0) (pa_cons (pv 1) (pa_cons (pv 3) pa_nil)))))))
      (pss_one (ps_ret (pv 1)))), ?_⟩
    refine ⟨_, rfl, S row, rfl, ?_⟩
    refine for_it (walk_S row) (fun i σ H' => Same H H' ∧ ∃ o, σ = [some (.ref wd), some (.str (S (ledM gs l (row.take i)))), some (.str (S row)), o]) ⟨Same.refl H, none, rfl⟩ (fun _ _ _ _ _ => trivial) ?_ ?_
    · rintro i x σ H3 H3' hi ⟨s3, o, rfl⟩ ⟨rfl, rfl⟩
      have hlen := ledz_len hz (row.take i) l
      rw [List.length_take] at hlen
      refine ⟨_, rfl, _, rfl, _, rfl, wd, ld, sg, ledM gs l (row.take i), gs, row.getD i 0, rfl, hw.same s3, hz, by omega, fun H4 s4 => ⟨s3.trans s4, some (.str (S [row.getD i 0])), ?_⟩⟩
      have e : row.take (i + 1) = row.take i ++ [row.getD i 0] := by
        rw [List.take_add_one, List.getD_eq_getElem?_getD, List.getElem?_eq_getElem hi]
        rfl
      rw [e, led_snoc]
      rfl
    · rintro σ H3 ⟨s3, o, rfl⟩
      rw [List.take_length]
      exact ⟨_, rfl, q H3 s3⟩
theorem ok_law_web {f fD fP : Addr} {fd fdD fdP : FuncData} (F : Fun K "_law_web" "_law_web" s__law_web f fd) (B : Blt mg)
    (FD : Fun K "_law_draw" "_law_draw" s__law_draw fD fdD) (gD : mg "_law_draw" = some (.ref fD)) (bD : Binds K fdD ["_law_deck_here", "_law_below"] [])
    (FP : Fun K "_law_pick" "_law_pick" s__law_pick fP fdP) (gP : mg "_law_pick" = some (.ref fP)) (bP : Binds K fdP ["_law_deck_here", "_law_some"] []) :
    FnOk P w K mg base CX0 3 f fd ["_law_deck_here", "_law_w", "_law_most"] spLawWeb := by
  have GD : FnOk P w K mg base CX0 1 fD fdD ["_law_deck_here", "_law_below"] spDraw := ok_draw FD B
  have GP : FnOk P w K mg base CX0 2 fP fdP ["_law_deck_here", "_law_some"] spPick := ok_pick FP B FD gD bD
  refine F.ok sc__law_web (fun vs H Q E h => ?_) (fun cdv A outer s H vs Q E hr h => ?_)
  · obtain ⟨_, _, _, _, _, _, _, _, rfl, _⟩ := h
    rfl
  · obtain ⟨D, C, T, most, wd, ld, sg, gs, rfl, hdk, hT, hw, h0, h1, hm, q⟩ := h
    have hu1 : (A.deeper (envOfC "_law_web" (defScope s__law_web) s.heap.objs.size f cdv)).units + 1 < cLine := by
      have := hr.units
      omega
    refine ⟨_, (pss_one (ps_ret (pe_join pe_str (pe_lc (own := [("_law_k", 3)]) (g := gName 3) (tt := tYes) rfl sc__law_web.nd (pi_range1 (by rfl) B.range (pa_cons (pe_call GD (hr.mono (by decide)) (by rfl) gD FD.kp bD .nil pass0 (pa_cons (pv 0) (pa_cons (pe_op op_add (pv 2) pe_int) pa_nil))) pa_nil)) (blkOk_by (own := [("_law_k", 3)]) (N := ["_law_deck_here", "_law_w", "_law_most", "_law_k"]) (sc := defScope s__law_web) (by decide +kernel)) (fun _ _ _ _ _ => pg_name (i := 3) sc__law_web.nd rfl (Or.inl rfl)) (fun _ _ _ _ _ => pts_nil)
      (fun _ _ _ _ _ => (pe_call GP (hr.mono (by decide)) (by rfl) gP FP.kp bP .nil pass0 (pa_cons (pv 0) (pa_cons (pe_dget hu1 (pv 1) pe_str (fun _ _ => rfl)) pa_nil)))))))), ?_⟩
    refine ⟨⟨_, rfl⟩, _, rfl, _, rfl, _, _, rfl, rfl, D, C, T, most + 1, rfl, hdk, by omega, by omega, by omega, fun H1 r hr1 dk1 off1 => ?_⟩
    refine ⟨_, rfl, by omega, by omega, fun L hL => ?_⟩
    have hLD : L ≠ D := by
      rintro rfl
      obtain ⟨_, _, _, e, _⟩ := dk1.ex
      rw [hL] at e
      cases e
    have hLC : L ≠ C := by
      rintro rfl
      obtain ⟨_, _, _, _, e, _⟩ := dk1.ex
      rw [hL] at e
      cases e
    refine lc_yes (walk_rng (n := r)) (fun i H' => DeckAt D C (T + 1 + i) H' ∧ Off D C H1 H' ∧ ∃ l : List Nat, l.length = i ∧ (∀ c ∈ l, c ∈ sg) ∧ H' L = some (.lst (l.map fun c => .str (S [c])))) ⟨?_, Off.same (same_new hL), [], rfl, (fun _ h => by cases h), upd_same⟩ (fun _ _ _ _ => trivial) ?_ ?_
    · exact (dk1.same (same_new hL))
    · rintro i x H2 H3 hi ⟨dk2, off2, l, hl, hc, hL2⟩ ⟨rfl, rfl⟩
      refine ⟨rfl, ?_⟩
      have hw2 : WAt H3 wd ld sg gs := hw.off (off1.trans off2) hdk
      refine ⟨_, rfl, _, rfl, wd, _, rfl, DGet.k (k := .inr "letters") hw2.w, D, C, T + 1 + i, _, rfl, dk2, by omega, Or.inl ⟨sg, rfl, h0, h1, fun H4 c hcs dk4 off4 => ?_⟩⟩
      refine ⟨_, off4 L _ hLD hLC hL2, sz_lt (by rw [List.length_map]; omega), ?_, ?_, l ++ [c], by rw [List.length_append, hl]; rfl, ?_, ?_⟩
      · obtain ⟨m, t, js, a1, a2, a3, a4⟩ := dk4.ex
        exact ⟨m, t, js, (upd_ne (Ne.symm hLD)).trans a1, (upd_ne (Ne.symm hLC)).trans a2, a3, by omega⟩
      · intro b o e1 e2 e3
        rw [upd_ne (ne_of_none e3 hL)]
        exact (off2.trans off4) b o e1 e2 e3
      · intro d hd
        rcases List.mem_append.mp hd with hd | hd
        · exact hc d hd
        · rw [List.mem_singleton.mp hd]
          exact hcs
      · rw [upd_same, List.map_append]
        rfl
    · rintro H2 ⟨dk2, off2, l, hl, hc, hL2⟩
      refine ⟨S [], L, (l.map fun c => [c]).map S, rfl, rfl, Or.inl (SqL.of (hL2.trans ?_)), ?_, ?_⟩
      · rw [List.map_map, List.map_map]
        rfl
      · rw [show (((l.map fun c => [c]).map S).map (·.length)).sum = l.length from ?_]
        · rw [SX.S_len, List.length_map, List.length_map]
          show l.length + l.length * 0 ≤ _
          omega
        · clear hL2 hl hc
          induction l with
          | nil => rfl
          | cons c l ih =>
            rw [List.map_cons, List.map_cons, List.map_cons, List.sum_cons, ih, SX.S_len]
            show 1 + l.length = l.length + 1
            omega
      · rw [SX.join_S, joinW_one]
        exact q H2 l hc (by omega) (dk2.mono (by omega)) (off1.trans off2)
end
end Lw

namespace Lw
open PySem PySem.Spec PyProof.Rows L2 Mq
open SX (S)
theorem all_filter (n : Nat) (q : Nat → Bool) : ((List.range n).map q).all id = ((List.range n).filter fun k => !q k).isEmpty := by
  rw [Bool.eq_iff_iff]
  simp [List.filter_eq_nil_iff]
theorem dp_signs {K : PySem.W.Frag} {H : Hp} (g : Nat → Str) : ∀ js : List Nat, DpAll K H (js.map fun k => V.str (g k)) (js.map fun k => PyData.str (g k))
  | [] => .nil
  | t :: ts => .cons (.str _) (dp_signs g ts)
theorem lay_signs (g : Nat → Str) : ∀ js : List Nat, (∀ k ∈ js, (PyData.str (g k)).canLay0 = true) → PyData.canLayAll0 (js.map fun k => PyData.str (g k)) = true ∧ PyData.depthAll (js.map fun k => PyData.str (g k)) = 0
  | [], _ => ⟨rfl, rfl⟩
  | t :: ts, h => by
    have ih := lay_signs g ts (fun k hk => h k (List.mem_cons_of_mem _ hk))
    constructor
    · show ((PyData.str (g t)).canLay0 && PyData.canLayAll0 (ts.map fun k => PyData.str (g k))) = true
      rw [h t (List.mem_cons_self ..), ih.1]
      rfl
    · show max 0 (PyData.depthAll (ts.map fun k => PyData.str (g k))) = 0
      rw [ih.2]
      rfl
theorem shaped_signs (g : Nat → Str) (js : List Nat) (h : ∀ k ∈ js, (PyData.str (g k)).canLay0 = true) : SeqAt.shaped (.list (js.map fun k => PyData.str (g k))) = true := by
  unfold SeqAt.shaped
  obtain ⟨a, b⟩ := lay_signs g js h
  rw [show (PyData.list (js.map fun k => PyData.str (g k))).canLay0 = true from a]
  have : (PyData.list (js.map fun k => PyData.str (g k))).depth ≤ 64 := by
    show PyData.depthAll _ + 1 ≤ 64
    omega
  rw [decide_eq_true this]
  rfl
theorem sign_ok {c : Nat} (h : c < 1114112) : (PyData.str (S [c])).canLay0 = true := by
  show (#[c] : Array Nat).all (fun d => decide (d < 1114112)) = true
  simp [h]
def spLawIsWeb (K : PySem.W.Frag) : Sp := fun vs H Q _ => ∃ (s : List Nat) (v : V), vs = [.str (S s), v] ∧
  ((∃ l : List Nat, v = .str (S l) ∧ l.length ≤ 100000 ∧ (∀ c ∈ l, c < 1114112) ∧ ∀ H', Same H H' → Q (.bl (allB l s)) H') ∨ (NoStr K H v ∧ ∀ H', Same H H' → Q (.bl false) H'))
theorem eqv_nil (g : Nat → Str) (js : List Nat) : PyData.eqv (.list (js.map fun k => PyData.str (g k))) (.list []) = js.isEmpty := by
  cases js <;> rfl
section
variable {P : Program} {w : World} {K : PySem.W.Frag} {mg : Str → Option Value} {base : Heap}
theorem ok_law_is_web {f : Addr} {fd : FuncData} (F : Fun K "_law_is_web" "_law_is_web" s__law_is_web f fd) (B : Blt mg) :
    FnOk P w K mg base CX0 1 f fd ["_law_letters", "_law_it"] (spLawIsWeb K) := by
  refine F.ok sc__law_is_web (fun vs H Q E h => ?_) (fun cdv A outer s H vs Q E hr h => ?_)
  · obtain ⟨s, v, rfl, _⟩ := h
    rfl
  · obtain ⟨sg, v, rfl, h⟩ := h
    have hu64 : (A.deeper (envOfC "_law_is_web" (defScope s__law_is_web) s.heap.objs.size f cdv)).units + 64 < cLine := by
      have := hr.units
      omega
    refine ⟨_, pss_one (ps_ret (pe_and (pe_callB call_isi (by rfl) B.isi (by decide +kernel) (pa_cons (pv 1) (pa_cons (pe_bltn (v := .ty "str") (by rfl) B.str (by decide +kernel) rfl) pa_nil)))
      (pe_one (pe_cmpR (op_eqD hu64) (pe_lc (own := [("_law_x", 2)]) (g := gName 2) rfl sc__law_is_web.nd (pi_str (pv 1)) (blkOk_by (own := [("_law_x", 2)]) (N := ["_law_letters", "_law_it", "_law_x"]) (sc := defScope s__law_is_web) (by decide +kernel)) (fun _ _ _ _ _ => pg_name (i := 2) sc__law_is_web.nd rfl (Or.inl rfl))
        (fun _ _ _ _ _ => pts_one (pt_cmpR op_notIn_sign (pv 2) (pv 0) rfl)) (fun _ _ _ _ _ => (pv 2))) (pe_ls pa_nil) (nomark _))))), ?_⟩
    rcases h with ⟨l, rfl, hl, hx, q⟩ | ⟨hn, q⟩
    · refine ⟨.str (S l), rfl, .str (S l), .ty "str", _, _, true, rfl, .ty _, .base (.str _), kit_self, true, rfl, iteT ?_⟩
      refine ⟨_, rfl, S l, rfl, fun L hL => ?_⟩
      refine lc_it (walk_S l) (fun i H' => Same H H' ∧ H' L = some (.lst ((((List.range i).filter fun k => !inB (l.getD k 0) sg)).map fun k => .str (S [l.getD k 0])))) ⟨same_new hL, upd_same⟩ (fun _ _ _ _ => trivial) ?_ ?_
      · rintro i x H2 H3 hi ⟨s2, hL2⟩ ⟨rfl, rfl⟩
        refine ⟨rfl, .str (S [l.getD i 0]), rfl, .str (S sg), rfl, l.getD i 0, S sg, rfl, rfl, ?_⟩
        have er : ((List.range (i + 1)).filter fun k => !inB (l.getD k 0) sg) = ((List.range i).filter fun k => !inB (l.getD k 0) sg) ++ (if (!inB (l.getD i 0) sg) = true then [i] else []) := by
          rw [List.range_succ, List.filter_append]
          congr 1
          by_cases hb : (!inB (l.getD i 0) sg) = true
          · rw [if_pos hb]
            show List.filter _ [i] = [i]
            rw [List.filter_cons, if_pos hb]
            rfl
          · rw [if_neg hb, List.filter_cons, if_neg hb]
            rfl
        have hlen : ((List.range i).filter fun k => !inB (l.getD k 0) sg).length ≤ i := by
          have := List.length_filter_le (fun k => !inB (l.getD k 0) sg) (List.range i)
          rw [List.length_range] at this
          exact this
        by_cases hb : (!inB (l.getD i 0) sg) = true
        · rw [if_pos hb] at er
          refine ⟨_, rfl, ifT hb ?_⟩
          refine ⟨_, rfl, _, hL2, sz_lt (by rw [List.length_map]; omega), ?_, ?_⟩
          · intro b o e
            rw [upd_ne (ne_of_none e hL)]
            exact s2 b o e
          · rw [upd_same, er, List.map_append]
            rfl
        · rw [if_neg hb, List.append_nil] at er
          refine ⟨_, rfl, ifF (Bool.eq_false_iff.mpr hb) ?_⟩
          refine ⟨s2, ?_⟩
          rw [er]
          exact hL2
      · rintro H2 ⟨s2, hL2⟩
        refine ⟨sz_le (n := 0) (by decide), fun p hp _ => ?_⟩
        have sp := same_new (o := HO.lst []) hp
        refine ⟨_, _, .lst (SqL.of (sp _ _ hL2)) (dp_signs (fun k => S [l.getD k 0]) _), .lst (SqL.of upd_same) .nil, shaped_signs _ _ ?_, by decide +kernel, ?_⟩
        · intro k hk
          have hk' := List.mem_range.mp (List.mem_filter.mp hk).1
          refine sign_ok (hx _ ?_)
          rw [List.getD_eq_getElem?_getD, List.getElem?_eq_getElem hk']
          exact List.getElem_mem hk'
        · rw [eqv_nil]
          have q1 := q _ (s2.trans sp)
          rw [show allB l sg = _ from all_filter l.length fun k => inB (l.getD k 0) sg] at q1
          exact q1
    · obtain ⟨a, t, m, n⟩ := hn
      exact ⟨v, rfl, v, .ty "str", .type a, _, false, rfl, .ty _, t, kit_no m n, false, rfl, iteF (q H (Same.refl H))⟩
end
end Lw

namespace Lw
open PySem PySem.Spec PyProof.Rows L2 Mq
open SX (S)
/-! ### what the law asks where a thing is no web -/
def GW (sg : List Nat) (v : V) (l : List Nat) : Prop := v = .str (S l) ∧ l.length ≤ 1000 ∧ (∀ c ∈ l, c < 1114112) ∧ allB l sg = true
def BW (K : PySem.W.Frag) (sg : List Nat) (v : V) (H : Hp) : Prop := ∀ H', Same H H' → (∃ l, v = .str (S l) ∧ l.length ≤ 1000 ∧ (∀ c ∈ l, c < 1114112) ∧ allB l sg = false) ∨ NoStr K H' v
def spLawDue (K : PySem.W.Frag) : Sp := fun vs H Q _ => ∃ (wd ld : Addr) (sg : List Nat) (gs : List Fd) (u v : V), vs = [.ref wd, u, v] ∧ WAt H wd ld sg gs ∧ zOk gs ∧
  ((∃ l row, GW sg u l ∧ GW sg v row ∧ ∀ H', Same H H' → Q (.str (S (ledM gs l row))) H') ∨
   (BW K sg u H ∧ ∀ H' p, Same H H' → p ≠ sysModules → H' p = some (.lst [.str "bad", u, .bl true]) → Q (.ref p) H') ∨
   (∃ l, GW sg u l ∧ BW K sg v H ∧ ∀ H' p, Same H H' → p ≠ sysModules → H' p = some (.lst [.str "bad", v, .bl true]) → Q (.ref p) H'))
section
variable {P : Program} {w : World} {K : PySem.W.Frag} {mg : Str → Option Value} {base : Heap}
theorem ok_law_due {f fI fL fZ : Addr} {fd fdI fdL fdZ : FuncData} (F : Fun K "_law_due" "_law_due" s__law_due f fd) (B : Blt mg)
    (FI : Fun K "_law_is_web" "_law_is_web" s__law_is_web fI fdI) (gI : mg "_law_is_web" = some (.ref fI)) (bI : Binds K fdI ["_law_letters", "_law_it"] [])
    (FL : Fun K "_law_led" "_law_led" s__law_led fL fdL) (gL : mg "_law_led" = some (.ref fL)) (bL : Binds K fdL ["_law_w", "_law_web_here", "_law_row"] [])
    (FZ : Fun K "_law_laid" "_law_laid" s__law_laid fZ fdZ) (gZ : mg "_law_laid" = some (.ref fZ)) (bZ : Binds K fdZ ["_law_w", "_law_web_here", "_law_y"] []) :
    FnOk P w K mg base CX0 3 f fd ["_law_w", "_law_web_here", "_law_row"] (spLawDue K) := by
  have GI : FnOk P w K mg base CX0 1 fI fdI ["_law_letters", "_law_it"] (spLawIsWeb K) := ok_law_is_web FI B
  have GL : FnOk P w K mg base CX0 2 fL fdL ["_law_w", "_law_web_here", "_law_row"] spLawLed := ok_law_led FL FZ gZ bZ
  refine F.ok sc__law_due (fun vs H Q E h => ?_) (fun cdv A outer s H vs Q E hr h => ?_)
  · obtain ⟨_, _, _, _, _, _, rfl, _⟩ := h
    rfl
  · obtain ⟨wd, ld, sg, gs, u, v, rfl, hw, hz, h⟩ := h
    have hu1 : (A.deeper (envOfC "_law_due" (defScope s__law_due) s.heap.objs.size f cdv)).units + 1 < cLine := by
      have := hr.units
      omega
    refine ⟨_, (pss_cons (ps_for PassesOwn.never rfl (pi_tup (pe_tup (pa_cons (pv 1) (pa_cons (pv 2) pa_nil)))) (pg_name (i := 3) sc__law_due.nd rfl (Or.inl rfl))
        (pss_one (ps_if (pt_not (pt_val (pe_call GI (hr.mono (by decide)) (by rfl) gI FI.kp bI .nil pass0 (pa_cons (pe_dget hu1 (pv 0) pe_str (fun _ _ => rfl)) (pa_cons (pv 3) pa_nil))))) (pss_one (ps_ret (pe_ls (pa_cons pe_str (pa_cons (pv 3) (pa_cons pe_bl pa_nil)))))) pss_nil)))
      (pss_one (ps_ret (pe_call GL (hr.mono (by decide)) (by rfl) gL FL.kp bL .nil pass0 (pa_cons (pv 0) (pa_cons (pv 1) (pa_cons (pv 2) pa_nil))))))), ?_⟩
    refine ⟨_, rfl, _, rfl, sz_le (n := 2) (by decide), fun p hp => ?_⟩
    have sp := same_new (o := HO.tup [u, v]) hp
    have tp : SqT K (upd H p (.tup [u, v])) p [u, v] := Or.inl (Or.inl upd_same)
    refine ⟨p, rfl, ⟨_, tp⟩, ?_⟩
    have bad : ∀ (H2 : Hp) (x : V), Same H H2 → (∀ H' p, Same H H' → p ≠ sysModules → H' p = some (.lst [.str "bad", x, .bl true]) → Q (.ref p) H') → ∀ a, H2 a = none → a ≠ sysModules → Q (.ref a) (upd H2 a (.lst [.str "bad", x, .bl true])) :=
      fun H2 x s2 q a ha hne => q _ a (s2.trans (same_new ha)) hne upd_same
    refine for_tup (xs := [u, v]) (fun i σ H' => Same (upd H p (.tup [u, v])) H' ∧ ∃ o, σ = [some (.ref wd), some u, some v, o] ∧ (i = 0 ∨
      (i = 1 ∧ ((∃ l row, GW sg u l ∧ GW sg v row ∧ ∀ H', Same H H' → Q (.str (S (ledM gs l row))) H') ∨ (∃ l, GW sg u l ∧ BW K sg v H ∧ ∀ H' p, Same H H' → p ≠ sysModules → H' p = some (.lst [.str "bad", v, .bl true]) → Q (.ref p) H'))) ∨
      (i = 2 ∧ (∃ l row, GW sg u l ∧ GW sg v row ∧ ∀ H', Same H H' → Q (.str (S (ledM gs l row))) H')))) ⟨Same.refl _, none, rfl, Or.inl rfl⟩ (fun i σ H' _ q => Same.tup q.1 tp) ?_ ?_
    · rintro i x σ H2 hx ⟨s2, o, rfl, hg⟩
      have s3 := sp.trans s2
      refine ⟨_, rfl, wd, _, rfl, DGet.k (k := .inr "letters") (hw.same s3).w, _, rfl, ?_⟩
      rcases hg with rfl | ⟨rfl, hg⟩ | ⟨rfl, hg⟩
      · obtain rfl : u = x := Option.some.inj hx
        rcases h with ⟨l, row, h1, h2, h3⟩ | ⟨h1, h2⟩ | ⟨l, h1, h2, h3⟩
        · refine ⟨sg, u, rfl, ?_⟩
          refine Or.inl ⟨_, h1.1, by have := h1.2.1; omega, h1.2.2.1, fun H4 s4 => ?_⟩
          rw [h1.2.2.2]
          exact ⟨_, rfl, ifF rfl ⟨s2.trans s4, some u, rfl, Or.inr (Or.inl ⟨rfl, Or.inl ⟨l, row, h1, h2, h3⟩⟩)⟩⟩
        · refine ⟨sg, u, rfl, ?_⟩
          rcases h1 H2 s3 with ⟨l', e', z1, z2, z3⟩ | hn
          · refine Or.inl ⟨l', e', by omega, z2, fun H4 s4 => ?_⟩
            rw [z3]
            exact ⟨_, rfl, ifT rfl ⟨_, rfl, sz_le (n := 3) (by decide), fun a ha hne => bad H4 u (s3.trans s4) h2 a ha hne⟩⟩
          · exact Or.inr ⟨hn, fun H4 s4 => ⟨_, rfl, ifT rfl ⟨_, rfl, sz_le (n := 3) (by decide), fun a ha hne => bad H4 u (s3.trans s4) h2 a ha hne⟩⟩⟩
        · refine ⟨sg, u, rfl, ?_⟩
          refine Or.inl ⟨_, h1.1, by have := h1.2.1; omega, h1.2.2.1, fun H4 s4 => ?_⟩
          rw [h1.2.2.2]
          exact ⟨_, rfl, ifF rfl ⟨s2.trans s4, some u, rfl, Or.inr (Or.inl ⟨rfl, Or.inr ⟨l, h1, h2, h3⟩⟩)⟩⟩
      · obtain rfl : v = x := Option.some.inj hx
        rcases hg with ⟨l, row, h1, h2, h3⟩ | ⟨l, h1, h2, h3⟩
        · refine ⟨sg, v, rfl, ?_⟩
          refine Or.inl ⟨_, h2.1, by have := h2.2.1; omega, h2.2.2.1, fun H4 s4 => ?_⟩
          rw [h2.2.2.2]
          exact ⟨_, rfl, ifF rfl ⟨s2.trans s4, some v, rfl, Or.inr (Or.inr ⟨rfl, l, row, h1, h2, h3⟩)⟩⟩
        · refine ⟨sg, v, rfl, ?_⟩
          rcases h2 H2 s3 with ⟨l', e', z1, z2, z3⟩ | hn
          · refine Or.inl ⟨l', e', by omega, z2, fun H4 s4 => ?_⟩
            rw [z3]
            exact ⟨_, rfl, ifT rfl ⟨_, rfl, sz_le (n := 3) (by decide), fun a ha hne => bad H4 v (s3.trans s4) h3 a ha hne⟩⟩
          · exact Or.inr ⟨hn, fun H4 s4 => ⟨_, rfl, ifT rfl ⟨_, rfl, sz_le (n := 3) (by decide), fun a ha hne => bad H4 v (s3.trans s4) h3 a ha hne⟩⟩⟩
      · cases hx
    · rintro σ H2 ⟨s2, o, rfl, hg⟩
      have s3 := sp.trans s2
      rcases hg with z | ⟨z, _⟩ | ⟨_, l, row, h1, h2, h3⟩
      · cases z
      · cases z
      · refine ⟨_, rfl, _, rfl, _, rfl, wd, ld, sg, l, row, gs, by rw [h1.1, h2.1]; rfl, hw.same s3, hz, by have := h1.2.1; omega, by have := h2.2.1; omega, fun H4 s4 => h3 H4 (s3.trans s4)⟩
end
end Lw

namespace Lw
open PySem PySem.Spec PyProof.Rows L2 Mq
open SX (S)
/-! ### the world that is drawn -/
def menuW : List (List Nat) := [[97, 98], [97, 98], [97, 98], [97, 109], [97, 98, 120]]
theorem menu_ok : ∀ sg ∈ menuW, SgOk sg ∧ sg.Nodup ∧ sg.length ≤ 3 := by
  intro sg h
  have h1 : (menuW.all fun sg => decide (0 < sg.length) && (decide (sg.length ≤ 3) && (sg.all (fun c => decide (c < 128)) && (lettersB sg && decide sg.Nodup)))) = true := by decide +kernel
  have h2 := List.all_eq_true.mp h1 sg h
  obtain ⟨a, h2⟩ := Bool.and_eq_true_iff.mp h2
  obtain ⟨b, h2⟩ := Bool.and_eq_true_iff.mp h2
  obtain ⟨c, h2⟩ := Bool.and_eq_true_iff.mp h2
  obtain ⟨d, e⟩ := Bool.and_eq_true_iff.mp h2
  have b' := of_decide_eq_true b
  exact ⟨⟨of_decide_eq_true a, by omega, fun x hx => of_decide_eq_true (List.all_eq_true.mp c x hx), d⟩, of_decide_eq_true e, b'⟩
def keyN (g : Fd) : Nat × Nat := (g.x, g.y)
def Apart (gs : List Fd) : Prop := gs.Pairwise fun a b => keyN a ≠ keyN b
structure GsOk (sg : List Nat) (gs : List Fd) : Prop where
  few : gs.length ≤ 200
  ok : ∀ f ∈ gs, fdOk sg f
  nd : Apart gs
theorem nd_inj {l : List Nat} (h : l.Nodup) {a b : Nat} (ha : a < l.length) (hb : b < l.length) (e : l.getD a 0 = l.getD b 0) : a = b := by
  rw [List.getD_eq_getElem?_getD, List.getD_eq_getElem?_getD, List.getElem?_eq_getElem ha, List.getElem?_eq_getElem hb] at e
  refine (List.getElem?_inj ha h).mp ?_
  rw [List.getElem?_eq_getElem ha, List.getElem?_eq_getElem hb]
  exact congrArg some e
theorem getD_mem {l : List Nat} {a : Nat} (ha : a < l.length) : l.getD a 0 ∈ l := by
  rw [List.getD_eq_getElem?_getD, List.getElem?_eq_getElem ha]
  exact List.getElem_mem ha
/-- what is drawn ahead of row i, column j -/
structure Part (sg : List Nat) (i j : Nat) (gs : List Fd) : Prop where
  len : gs.length ≤ 3 * i + j
  ok : ∀ f ∈ gs, fdOk sg f
  nd : Apart gs
  low : ∀ g ∈ gs, ∃ a b, a < sg.length ∧ b < sg.length ∧ g.x = sg.getD a 0 ∧ g.y = sg.getD b 0 ∧ (a < i ∨ (a = i ∧ b < j))
theorem Part.start (sg : List Nat) : Part sg 0 0 [] := ⟨Nat.zero_le _, (fun _ h => by cases h), .nil, fun _ h => by cases h⟩
theorem Part.skip {sg : List Nat} {i j : Nat} {gs : List Fd} (p : Part sg i j gs) : Part sg i (j + 1) gs :=
  ⟨by have := p.len; omega, p.ok, p.nd, fun g hg => by
    obtain ⟨a, b, h1, h2, h3, h4, h5⟩ := p.low g hg
    exact ⟨a, b, h1, h2, h3, h4, by omega⟩⟩
theorem Part.row {sg : List Nat} {i : Nat} {gs : List Fd} (p : Part sg i sg.length gs) (h3 : sg.length ≤ 3) : Part sg (i + 1) 0 gs :=
  ⟨by have := p.len; omega, p.ok, p.nd, fun g hg => by
    obtain ⟨a, b, h1, h2, h3, h4, h5⟩ := p.low g hg
    exact ⟨a, b, h1, h2, h3, h4, by omega⟩⟩
theorem Part.other {sg : List Nat} {i j : Nat} {gs : List Fd} (p : Part sg i j gs) (hn : sg.Nodup) (hi : i < sg.length) (hj : j < sg.length) : ∀ g ∈ gs, keyN g ≠ (sg.getD i 0, sg.getD j 0) := by
  intro g hg e
  obtain ⟨a, b, h1, h2, h3, h4, h5⟩ := p.low g hg
  injection e with e1 e2
  have := nd_inj hn h1 hi (h3.symm.trans e1)
  have := nd_inj hn h2 hj (h4.symm.trans e2)
  omega
theorem Part.put {sg z : List Nat} {i j : Nat} {gs : List Fd} (p : Part sg i j gs) (hn : sg.Nodup) (hi : i < sg.length) (hj : j < sg.length) (hz : z = [] ∨ ∃ c ∈ sg, z = [c]) :
    Part sg i (j + 1) (gs ++ [⟨sg.getD i 0, sg.getD j 0, z⟩]) := by
  refine ⟨by have := p.len; rw [List.length_append]; show gs.length + 1 ≤ _; omega, fun f hf => ?_, ?_, fun g hg => ?_⟩
  · rcases List.mem_append.mp hf with hf | hf
    · exact p.ok f hf
    · rw [List.mem_singleton.mp hf]
      exact ⟨getD_mem hi, getD_mem hj, hz⟩
  · refine List.pairwise_append.mpr ⟨p.nd, List.pairwise_singleton _ _, fun a ha b hb => ?_⟩
    rw [List.mem_singleton.mp hb]
    exact p.other hn hi hj a ha
  · rcases List.mem_append.mp hg with hg | hg
    · exact p.skip.low g hg
    · rw [List.mem_singleton.mp hg]
      exact ⟨i, j, hi, hj, rfl, rfl, Or.inr ⟨rfl, Nat.lt_succ_self j⟩⟩
theorem tab_new {gs : List Fd} {x y : Nat} (h : ∀ g ∈ gs, keyN g ≠ (x, y)) : ∀ p ∈ tabF gs, p.1 ≠ [Sum.inr (S [x]), Sum.inr (S [y])] := by
  intro p hp e
  obtain ⟨g, hg, rfl⟩ := List.mem_map.mp hp
  injection e with e1 e2
  injection e2 with e2 _
  exact h g hg (Prod.ext (S_one.mp (Sum.inr.inj e1)) (S_one.mp (Sum.inr.inj e2)))
def itemOk (v : V) : Prop := v = .non ∨ v = .str "" ∨ v = .str "!"
def MenuAt (H : Hp) (D C p : Addr) : Prop := p ≠ D ∧ p ≠ C ∧ ∃ xs : List V, H p = some (.lst xs) ∧ 0 < xs.length ∧ xs.length ≤ 10 ∧ ∀ v ∈ xs, itemOk v
theorem MenuAt.same {H H' : Hp} {D C p : Addr} (h : MenuAt H D C p) (e : Same H H') : MenuAt H' D C p := let ⟨a, b, xs, c, d⟩ := h; ⟨a, b, xs, e _ _ c, d⟩
theorem MenuAt.off {H H' : Hp} {D C p : Addr} (h : MenuAt H D C p) (e : Off D C H H') : MenuAt H' D C p := let ⟨a, b, xs, c, d⟩ := h; ⟨a, b, xs, e _ _ a b c, d⟩
theorem new_ne {D C : Addr} {T : Nat} {H : Hp} {q : Addr} (k : DeckAt D C T H) (h : H q = none) : q ≠ D ∧ q ≠ C := by
  obtain ⟨_, _, _, e1, e2, _⟩ := k.ex
  refine ⟨?_, ?_⟩
  · rintro rfl
    rw [h] at e1
    cases e1
  · rintro rfl
    rw [h] at e2
    cases e2
def spWorld : Sp := fun vs H Q _ => ∃ (D C : Addr) (T : Nat), vs = [.ref D] ∧ DeckAt D C T H ∧ T ≤ 900000 ∧
  ∀ H' wd ld sg gs, sg ∈ menuW → GsOk sg gs → WAt H' wd ld sg gs → DeckAt D C (T + 30) H' → Off D C H H' → Q (.ref wd) H'
section
variable {P : Program} {w : World} {K : PySem.W.Frag} {mg : Str → Option Value} {base : Heap}
theorem ok_world {f fP : Addr} {fd fdP : FuncData} (F : Fun K "_law_world" "_law_world" s__law_world f fd)
    (FP : Fun K "_law_pick" "_law_pick" s__law_pick fP fdP) (gP : mg "_law_pick" = some (.ref fP)) (bP : Binds K fdP ["_law_deck_here", "_law_some"] []) (GP : FnOk P w K mg base CX0 2 fP fdP ["_law_deck_here", "_law_some"] spPick) :
    FnOk P w K mg base CX0 3 f fd ["_law_deck_here"] spWorld := by
  refine F.ok sc__law_world (fun vs H Q E h => ?_) (fun cdv A outer s H vs Q E hr h => ?_)
  · obtain ⟨_, _, _, rfl, _⟩ := h
    rfl
  · obtain ⟨D, C, T, rfl, hdk, hT, q⟩ := h
    have hu1 : (A.deeper (envOfC "_law_world" (defScope s__law_world) s.heap.objs.size f cdv)).units + 1 < cLine := by
      have := hr.units
      omega
    refine ⟨_, (pss_cons (ps_par (i := 1) (j := 2) rfl sc__law_world.nd rfl rfl (by decide) rfl rfl (pa_cons (pe_call GP (hr.mono (by decide)) (by rfl) gP FP.kp bP .nil pass0 (pa_cons (pv 0) (pa_cons (pe_ls (pa_cons pe_str (pa_cons pe_str (pa_cons pe_str (pa_cons pe_str (pa_cons pe_str pa_nil)))))) pa_nil))) (pa_cons pe_dnewT pa_nil)) (by rfl))
      (pss_cons (ps_set (i := 3) sc__law_world.nd rfl (Or.inl rfl) (pe_ls (pa_cons (pe_ls (pa_cons pe_non (pa_cons pe_non (pa_cons pe_str (pa_cons pe_str pa_nil))))) (pa_cons (pe_ls (pa_cons pe_non (pa_cons pe_str (pa_cons pe_str (pa_cons pe_str pa_nil))))) (pa_cons (pe_ls (pa_cons pe_non (pa_cons pe_str (pa_cons pe_str (pa_cons pe_str pa_nil))))) (pa_cons (pe_ls (pa_cons pe_non (pa_cons pe_non (pa_cons pe_non (pa_cons pe_str pa_nil))))) (pa_cons (pe_ls (pa_cons pe_non (pa_cons pe_str (pa_cons pe_str pa_nil)))) pa_nil)))))))
      (pss_cons (ps_set (i := 4) sc__law_world.nd rfl (Or.inl rfl) (pe_call GP (hr.mono (by decide)) (by rfl) gP FP.kp bP .nil pass0 (pa_cons (pv 0) (pa_cons (pv 3) pa_nil))))
      (pss_cons (ps_for PassesOwn.never rfl (pi_str (pv 1)) (pg_name (i := 5) sc__law_world.nd rfl (Or.inl rfl))
        (pss_one (ps_for PassesOwn.never rfl (pi_str (pv 1)) (pg_name (i := 6) sc__law_world.nd rfl (Or.inl rfl))
          (pss_cons (ps_set (i := 7) sc__law_world.nd rfl (Or.inl rfl) (pe_call GP (hr.mono (by decide)) (by rfl) gP FP.kp bP .nil pass0 (pa_cons (pv 0) (pa_cons (pv 4) pa_nil))))
          (pss_one (ps_if (pt_cmpR op_notN (pv 7) pe_non (nomark _)) (pss_one (ps_dput hu1 (pv 2) (pe_tup (pa_cons (pv 5) (pa_cons (pv 6) pa_nil))) (pe_ifExp (pt_cmpR op_eq (pv 7) pe_str (nomark _)) (pv 7) (pe_call GP (hr.mono (by decide)) (by rfl) gP FP.kp bP .nil pass0 (pa_cons (pv 0) (pa_cons (pv 1) pa_nil)))) rfl)) pss_nil))))))
      (pss_one (ps_ret (pe_disp (pps_cons pe_str (pv 1) (pps_cons pe_str (pv 2) pps_nil)) (by rfl) (by rfl) (fun z => by cases z) (by decide)))))))), ?_⟩
    refine ⟨_, rfl, sz_le (n := 5) (by decide), fun p hp _ => ?_⟩
    have dk1 := hdk.same (same_new (o := HO.lst [V.str "ab", V.str "ab", V.str "ab", V.str "am", V.str "abx"]) hp)
    refine ⟨D, C, _, .ref p, rfl, dk1, by omega, Or.inr ⟨p, _, rfl, upd_same, (new_ne hdk hp).2, Nat.zero_lt_succ _, by decide, fun H2 v hv dk2 off2 => ?_⟩⟩
    obtain ⟨sg, hsg, rfl⟩ : ∃ sg ∈ menuW, v = .str (S sg) := by
      simp only [List.mem_cons, List.not_mem_nil, or_false] at hv
      rcases hv with rfl | rfl | rfl | rfl | rfl
      · exact ⟨[97, 98], by decide, by decide +kernel⟩
      · exact ⟨[97, 98], by decide, by decide +kernel⟩
      · exact ⟨[97, 98], by decide, by decide +kernel⟩
      · exact ⟨[97, 109], by decide, by decide +kernel⟩
      · exact ⟨[97, 98, 120], by decide, by decide +kernel⟩
    have off02 : Off D C H H2 := (Off.same (same_new hp)).trans off2
    obtain ⟨hs, hnd, h3⟩ := menu_ok sg hsg
    clear hv off2 dk1
    refine fun ld hld => ?_
    have dk3 := dk2.same (same_new (o := HO.dT []) hld)
    have hneH : ∀ b o, b ≠ D → b ≠ C → H b = some o → b ≠ ld := fun b o h1 h2 e => ne_of_none (off02 b o h1 h2 e) hld
    have off03 : Off D C H (upd H2 ld (.dT [])) := off02.trans (Off.same (same_new hld))
    have hl3 : upd H2 ld (.dT []) ld = some (.dT (tabF [])) := upd_same
    generalize upd H2 ld (.dT []) = H3 at dk3 off03 hl3 ⊢
    refine ⟨_, _, rfl, ?_⟩
    refine ⟨sz_le (n := 4) (by decide), fun m1 hm1 _ => ?_⟩
    have k1 : MenuAt (upd H3 m1 (.lst [V.non, V.non, V.str "", V.str "!"])) D C m1 := ⟨(new_ne dk3 hm1).1, (new_ne dk3 hm1).2, _, upd_same, Nat.zero_lt_succ _, by decide, by
      intro v hv
      simp only [List.mem_cons, List.not_mem_nil, or_false] at hv
      rcases hv with rfl | rfl | rfl | rfl
      · exact Or.inl rfl
      · exact Or.inl rfl
      · exact Or.inr (Or.inl rfl)
      · exact Or.inr (Or.inr rfl)⟩
    have s1 := same_new (o := HO.lst [V.non, V.non, V.str "", V.str "!"]) hm1
    generalize upd H3 m1 (.lst [V.non, V.non, V.str "", V.str "!"]) = G1 at k1 s1 ⊢
    refine ⟨sz_le (n := 4) (by decide), fun m2 hm2 _ => ?_⟩
    have e1 := dk3.same s1
    have k2 : MenuAt (upd G1 m2 (.lst [V.non, V.str "", V.str "", V.str "!"])) D C m2 := ⟨(new_ne e1 hm2).1, (new_ne e1 hm2).2, _, upd_same, Nat.zero_lt_succ _, by decide, by
      intro v hv
      simp only [List.mem_cons, List.not_mem_nil, or_false] at hv
      rcases hv with rfl | rfl | rfl | rfl
      · exact Or.inl rfl
      · exact Or.inr (Or.inl rfl)
      · exact Or.inr (Or.inl rfl)
      · exact Or.inr (Or.inr rfl)⟩
    have t2 := same_new (o := HO.lst [V.non, V.str "", V.str "", V.str "!"]) hm2
    have s2 := s1.trans t2
    have k1 := k1.same t2
    generalize upd G1 m2 (.lst [V.non, V.str "", V.str "", V.str "!"]) = G2 at k1 k2 s2 ⊢
    refine ⟨sz_le (n := 4) (by decide), fun m3 hm3 _ => ?_⟩
    have e2 := dk3.same s2
    have k3 : MenuAt (upd G2 m3 (.lst [V.non, V.str "!", V.str "!", V.str ""])) D C m3 := ⟨(new_ne e2 hm3).1, (new_ne e2 hm3).2, _, upd_same, Nat.zero_lt_succ _, by decide, by
      intro v hv
      simp only [List.mem_cons, List.not_mem_nil, or_false] at hv
      rcases hv with rfl | rfl | rfl | rfl
      · exact Or.inl rfl
      · exact Or.inr (Or.inr rfl)
      · exact Or.inr (Or.inr rfl)
      · exact Or.inr (Or.inl rfl)⟩
    have t3 := same_new (o := HO.lst [V.non, V.str "!", V.str "!", V.str ""]) hm3
    have s3 := s2.trans t3
    have k1 := k1.same t3
    have k2 := k2.same t3
    generalize upd G2 m3 (.lst [V.non, V.str "!", V.str "!", V.str ""]) = G3 at k1 k2 k3 s3 ⊢
    refine ⟨sz_le (n := 4) (by decide), fun m4 hm4 _ => ?_⟩
    have e3 := dk3.same s3
    have k4 : MenuAt (upd G3 m4 (.lst [V.non, V.non, V.non, V.str ""])) D C m4 := ⟨(new_ne e3 hm4).1, (new_ne e3 hm4).2, _, upd_same, Nat.zero_lt_succ _, by decide, by
      intro v hv
      simp only [List.mem_cons, List.not_mem_nil, or_false] at hv
      rcases hv with rfl | rfl | rfl | rfl
      · exact Or.inl rfl
      · exact Or.inl rfl
      · exact Or.inl rfl
      · exact Or.inr (Or.inl rfl)⟩
    have t4 := same_new (o := HO.lst [V.non, V.non, V.non, V.str ""]) hm4
    have s4 := s3.trans t4
    have k1 := k1.same t4
    have k2 := k2.same t4
    have k3 := k3.same t4
    generalize upd G3 m4 (.lst [V.non, V.non, V.non, V.str ""]) = G4 at k1 k2 k3 k4 s4 ⊢
    refine ⟨sz_le (n := 3) (by decide), fun m5 hm5 _ => ?_⟩
    have e4 := dk3.same s4
    have k5 : MenuAt (upd G4 m5 (.lst [V.non, V.str "", V.str "!"])) D C m5 := ⟨(new_ne e4 hm5).1, (new_ne e4 hm5).2, _, upd_same, Nat.zero_lt_succ _, by decide, by
      intro v hv
      simp only [List.mem_cons, List.not_mem_nil, or_false] at hv
      rcases hv with rfl | rfl | rfl
      · exact Or.inl rfl
      · exact Or.inr (Or.inl rfl)
      · exact Or.inr (Or.inr rfl)⟩
    have t5 := same_new (o := HO.lst [V.non, V.str "", V.str "!"]) hm5
    have s5 := s4.trans t5
    have k1 := k1.same t5
    have k2 := k2.same t5
    have k3 := k3.same t5
    have k4 := k4.same t5
    generalize upd G4 m5 (.lst [V.non, V.str "", V.str "!"]) = G5 at k1 k2 k3 k4 k5 s5 ⊢
    refine ⟨sz_le (n := 5) (by decide), fun ms hms _ => ?_⟩
    have e5 := dk3.same s5
    have t6 := same_new (o := HO.lst [V.ref m1, V.ref m2, V.ref m3, V.ref m4, V.ref m5]) hms
    have s6 := s5.trans t6
    have hk : ∀ v ∈ [V.ref m1, V.ref m2, V.ref m3, V.ref m4, V.ref m5], ∃ pm, v = .ref pm ∧ MenuAt (upd G5 ms (.lst [V.ref m1, V.ref m2, V.ref m3, V.ref m4, V.ref m5])) D C pm := by
      intro v hv
      simp only [List.mem_cons, List.not_mem_nil, or_false] at hv
      rcases hv with rfl | rfl | rfl | rfl | rfl
      · exact ⟨_, rfl, k1.same t6⟩
      · exact ⟨_, rfl, k2.same t6⟩
      · exact ⟨_, rfl, k3.same t6⟩
      · exact ⟨_, rfl, k4.same t6⟩
      · exact ⟨_, rfl, k5.same t6⟩
    refine ⟨_, rfl, _, rfl, D, C, _, .ref ms, rfl, dk3.same s6, by omega, Or.inr ⟨ms, _, rfl, upd_same, (new_ne e5 hms).2, Nat.zero_lt_succ _, by show 5 ≤ 1000; decide, fun H4 v hv dk4 off4 => ?_⟩⟩
    obtain ⟨pm, rfl, kpm⟩ := hk v hv
    have km4 := kpm.off off4
    have hl4 := off4.at (dk3.same s6) (s6 _ _ hl3) ⟨(fun _ z => nomatch z), (fun _ z => nomatch z)⟩
    have off04 : Off D C H H4 := (off03.trans (Off.same s6)).trans off4
    clear kpm k1 k2 k3 k4 k5 hk hv e1 e2 e3 e4 e5 off4 s6 t6 s5 t5 s4 t4 s3 t3 s2 t2 s1
    refine ⟨_, rfl, S sg, rfl, ?_⟩
    refine for_it (walk_S sg) (fun i σ H' => DeckAt D C (T + 2 + 6 * i) H' ∧ Off D C H H' ∧ MenuAt H' D C pm ∧ ∃ gs o5 o6 o7, Part sg i 0 gs ∧ H' ld = some (.dT (tabF gs)) ∧ σ = [some (.ref D), some (.str (S sg)), some (.ref ld), some (.ref ms), some (.ref pm), o5, o6, o7])
      ⟨dk4.mono (by omega), off04, km4, [], _, _, _, Part.start sg, hl4, rfl⟩ (fun _ _ _ _ _ => trivial) ?_ ?_
    · rintro i x σ H5 H5' hi ⟨dk5, off5, km5, gs0, o5, o6, o7, hp0, hl5, rfl⟩ ⟨rfl, rfl⟩
      refine ⟨_, rfl, S sg, rfl, ?_⟩
      refine for_it (walk_S sg) (fun j σ H' => DeckAt D C (T + 2 + 6 * i + 2 * j) H' ∧ Off D C H H' ∧ MenuAt H' D C pm ∧ ∃ gs o6 o7, Part sg i j gs ∧ H' ld = some (.dT (tabF gs)) ∧ σ = [some (.ref D), some (.str (S sg)), some (.ref ld), some (.ref ms), some (.ref pm), some (.str (S [sg.getD i 0])), o6, o7])
        ⟨dk5, off5, km5, gs0, _, _, hp0, hl5, rfl⟩ (fun _ _ _ _ _ => trivial) ?_ ?_
      · rintro j x σ H6 H6' hj ⟨dk6, off6, km6, gs, o6, o7, hp6, hl6, rfl⟩ ⟨rfl, rfl⟩
        obtain ⟨kD, kC, xs, hpm, hx0, hx1, hxs⟩ := km6
        refine ⟨_, rfl, _, rfl, D, C, _, .ref pm, rfl, dk6, by omega, Or.inr ⟨pm, xs, rfl, hpm, kC, hx0, by omega, fun H7 v hv dk7 off7 => ?_⟩⟩
        have km7 : MenuAt H7 D C pm := MenuAt.off ⟨kD, kC, xs, hpm, hx0, hx1, hxs⟩ off7
        have hl7 := off7.at dk6 hl6 ⟨(fun _ z => nomatch z), (fun _ z => nomatch z)⟩
        have off07 := off6.trans off7
        have hlen : (tabF gs).length < sizeLine := by
          unfold tabF
          rw [List.length_map]
          have := hp6.len
          exact sz_lt (by omega)
        have put : ∀ (H8 : Hp) (z : List Nat) (T' : Nat), (z = [] ∨ ∃ c ∈ sg, z = [c]) → DeckAt D C T' H8 → T' ≤ T + 2 + 6 * i + 2 * (j + 1) → Off D C H H8 → MenuAt H8 D C pm → H8 ld = some (.dT (tabF gs)) → ∀ p, H8 p = none →
            DPut (upd H8 p (.tup [.str (S [sg.getD i 0]), .str (S [sg.getD j 0])])) ld (.ref p) (.str (S z)) (upd (upd H8 p (.tup [.str (S [sg.getD i 0]), .str (S [sg.getD j 0])])) ld (.dT (tabF (gs ++ [⟨sg.getD i 0, sg.getD j 0, z⟩])))) ∧
            DeckAt D C (T + 2 + 6 * i + 2 * (j + 1)) (upd (upd H8 p (.tup [.str (S [sg.getD i 0]), .str (S [sg.getD j 0])])) ld (.dT (tabF (gs ++ [⟨sg.getD i 0, sg.getD j 0, z⟩])))) ∧
            Off D C H (upd (upd H8 p (.tup [.str (S [sg.getD i 0]), .str (S [sg.getD j 0])])) ld (.dT (tabF (gs ++ [⟨sg.getD i 0, sg.getD j 0, z⟩])))) ∧
            MenuAt (upd (upd H8 p (.tup [.str (S [sg.getD i 0]), .str (S [sg.getD j 0])])) ld (.dT (tabF (gs ++ [⟨sg.getD i 0, sg.getD j 0, z⟩])))) D C pm := by
          intro H8 z T' hz dk8 hT8 off8 km8 hl8 p hp
          have s9 := same_new (o := HO.tup [.str (S [sg.getD i 0]), .str (S [sg.getD j 0])]) hp
          have hl9 := s9 _ _ hl8
          have dk9 := (dk8.same s9).mono hT8
          have km9 := km8.same s9
          have hk9 : upd H8 p (.tup [.str (S [sg.getD i 0]), .str (S [sg.getD j 0])]) p = some (.tup [.str (S [sg.getD i 0]), .str (S [sg.getD j 0])]) := upd_same
          have off9 := off8.trans (Off.same s9)
          generalize upd H8 p (.tup [.str (S [sg.getD i 0]), .str (S [sg.getD j 0])]) = H9 at hl9 dk9 km9 hk9 off9 ⊢
          have hput : putK (tabF gs) [Sum.inr (S [sg.getD i 0]), Sum.inr (S [sg.getD j 0])] (V.str (S z)) = tabF (gs ++ [⟨sg.getD i 0, sg.getD j 0, z⟩]) := by
            rw [putK_new (tab_new (hp6.other hnd hi hj))]
            exact (tab_snoc gs ⟨sg.getD i 0, sg.getD j 0, z⟩).symm
          have nD : D ≠ ld := by
            rintro rfl
            obtain ⟨_, _, _, e, _⟩ := dk9.ex
            rw [hl9] at e
            cases e
          have nC : C ≠ ld := by
            rintro rfl
            obtain ⟨_, _, _, _, e, _⟩ := dk9.ex
            rw [hl9] at e
            cases e
          refine ⟨?_, ?_, ?_, ?_⟩
          · rw [← hput]
            exact DPut.t (k := [Sum.inr (S [sg.getD i 0]), Sum.inr (S [sg.getD j 0])]) hl9 hk9 hlen
          · obtain ⟨m, t, js, a1, a2, a3, a4⟩ := dk9.ex
            exact ⟨m, t, js, (upd_ne nD).trans a1, (upd_ne nC).trans a2, a3, a4⟩
          · intro b o h1 h2 e
            rw [upd_ne (hneH b o h1 h2 e)]
            exact off9 b o h1 h2 e
          · obtain ⟨kD, kC, xs, hpm, kr⟩ := km9
            refine ⟨kD, kC, xs, (upd_ne ?_).trans hpm, kr⟩
            rintro rfl
            rw [hl9] at hpm
            cases hpm
        rcases hxs v hv with rfl | rfl | rfl
        · refine ⟨_, rfl, rfl, _, rfl, ifF rfl ?_⟩
          exact ⟨dk7.mono (by omega), off07, km7, gs, _, _, hp6.skip, hl7, rfl⟩
        · refine ⟨_, rfl, rfl, _, rfl, ifT rfl ?_⟩
          refine ⟨_, rfl, rfl, _, rfl, ifT (by decide +kernel) ⟨_, rfl, _, rfl, _, rfl, _, rfl, sz_le (n := 2) (by decide), fun p hp => ?_⟩⟩
          obtain ⟨a1, a2, a3, a4⟩ := put H7 [] _ (Or.inl rfl) dk7 (by omega) off07 km7 hl7 p hp
          exact ⟨ld, _, rfl, a1, a2, a3, a4, _, _, _, hp6.put hnd hi hj (Or.inl rfl), upd_same, rfl⟩
        · refine ⟨_, rfl, rfl, _, rfl, ifT rfl ?_⟩
          refine ⟨_, rfl, rfl, _, rfl, ifF (by decide +kernel) ⟨_, rfl, _, rfl, D, C, _, _, rfl, dk7, by omega, Or.inl ⟨sg, rfl, hs.pos, by omega, fun H8 c hc dk8 off8 => ?_⟩⟩⟩
          refine ⟨_, rfl, _, rfl, _, rfl, sz_le (n := 2) (by decide), fun p hp => ?_⟩
          have hl8 := off8.at dk7 hl7 ⟨(fun _ z => nomatch z), (fun _ z => nomatch z)⟩
          obtain ⟨a1, a2, a3, a4⟩ := put H8 [c] _ (Or.inr ⟨c, hc, rfl⟩) dk8 (by omega) (off07.trans off8) (km7.off off8) hl8 p hp
          exact ⟨ld, _, rfl, a1, a2, a3, a4, _, _, _, hp6.put hnd hi hj (Or.inr ⟨c, hc, rfl⟩), upd_same, rfl⟩
      · rintro σ H6 ⟨dk6, off6, km6, gs, o6, o7, hp6, hl6, rfl⟩
        exact ⟨dk6.mono (by omega), off6, km6, gs, _, _, _, hp6.row h3, hl6, rfl⟩
    · rintro σ H5 ⟨dk5, off5, km5, gs, o5, o6, o7, hp5, hl5, rfl⟩
      refine fun wd hwd => ?_
      have s7 := same_new (o := HO.dK []) hwd
      refine ⟨_, rfl, _, rfl, upd_same, wKv sg ld, rfl, by show 2 ≤ 15; decide, ?_⟩
      have nl : ld ≠ wd := by
        rintro rfl
        rw [hl5] at hwd
        cases hwd
      obtain ⟨nD, nC⟩ := new_ne dk5 hwd
      refine q _ wd ld sg gs hsg ⟨by have := hp5.len; omega, hp5.ok, hp5.nd⟩ ⟨upd_same.trans ?_, (upd_ne nl).trans ((upd_ne nl).trans hl5)⟩ ?_ ?_
      · rfl
      · obtain ⟨m, t, js, a1, a2, a3, a4⟩ := (dk5.mono (T' := T + 30) (by omega)).ex
        exact ⟨m, t, js, (upd_ne (Ne.symm nD)).trans ((upd_ne (Ne.symm nD)).trans a1), (upd_ne (Ne.symm nC)).trans ((upd_ne (Ne.symm nC)).trans a2), a3, a4⟩
      · intro b o h1 h2 e
        have e5 := off5 b o h1 h2 e
        rw [upd_ne (ne_of_none e5 hwd)]
        exact s7 b o e5
end
end Lw

namespace Lw
open PySem PySem.Spec PyProof.Rows L2 Mq
open SX (S)
/-! ### folds in order -/
theorem ltSS_irr (x : Str × Str) : ltSS x x = false := (PyProof.Rows.listOrd PyProof.Rows.itemOrd).irrefl (txt2 x)
theorem ltSS_trans {x y z : Str × Str} (h1 : ltSS x y = true) (h2 : ltSS y z = true) : ltSS x z = true := (PyProof.Rows.listOrd PyProof.Rows.itemOrd).trans (txt2 x) (txt2 y) (txt2 z) h1 h2
def AscP (fs : List Fd) : Prop := fs.Pairwise fun a b => ltSS (keyF a) (keyF b) = true
theorem asc_uniq : ∀ {l m : List Fd}, AscP l → AscP m → l.Perm m → l = m
  | [], m, _, _, h => h.nil_eq
  | a :: l, [], _, _, h => h.eq_nil
  | a :: l, b :: m, hl, hm, h => by
    obtain ⟨h1, h2⟩ := List.pairwise_cons.mp hl
    obtain ⟨h3, h4⟩ := List.pairwise_cons.mp hm
    have e : a = b := by
      rcases List.mem_cons.mp (h.mem_iff.mp (List.mem_cons_self (a := a) (l := l))) with e | e
      · exact e
      · rcases List.mem_cons.mp (h.mem_iff.mpr (List.mem_cons_self (a := b) (l := m))) with e2 | e2
        · exact e2.symm
        · have := ltSS_trans (h1 b e2) (h3 a e)
          rw [ltSS_irr] at this
          cases this
    subst e
    rw [asc_uniq h2 h4 h.cons_inv]
theorem key_apart {f g : Fd} (h : keyN f ≠ keyN g) : keyF f ≠ keyF g := fun e => h (by
  have e' : (S [f.x], S [f.y]) = (S [g.x], S [g.y]) := e
  injection e' with a b
  exact Prod.ext (S_one.mp a) (S_one.mp b))
theorem perm_lift {α β : Type} {f : α → β} {l m : List β} (h : l.Perm m) : ∀ {gs : List α}, m = gs.map f → ∃ fs : List α, l = fs.map f ∧ fs.Perm gs := by
  induction h with
  | nil =>
    intro gs e
    cases gs with
    | nil => exact ⟨[], rfl, .nil⟩
    | cons g gs => cases e
  | cons x _ ih =>
    intro gs e
    cases gs with
    | nil => cases e
    | cons g gs =>
      injection e with e1 e2
      obtain ⟨fs, a, b⟩ := ih e2
      exact ⟨g :: fs, by rw [a, e1]; rfl, b.cons g⟩
  | swap x y l =>
    intro gs e
    match gs, e with
    | [], e => cases e
    | [g], e => cases e
    | g1 :: g2 :: gs, e =>
      injection e with e1 e2
      injection e2 with e2 e3
      exact ⟨g2 :: g1 :: gs, by rw [e1, e2, e3]; rfl, .swap g1 g2 gs⟩
  | trans _ _ ih1 ih2 =>
    intro gs e
    obtain ⟨fs, a, b⟩ := ih2 e
    obtain ⟨fs', a', b'⟩ := ih1 a
    exact ⟨fs', a', b'.trans b⟩
theorem Apart.perm {fs gs : List Fd} (h : Apart gs) (p : fs.Perm gs) : Apart fs := (p.pairwise_iff fun h e => h e.symm).mpr h
theorem sorted_fds {H : Hp} {gs : List Fd} {as qs : List Addr} (hg : Apart gs) (h1 : as.map (prOf H) = gs.map keyF) (h3 : qs.Perm as)
    (h4 : ∀ i j, i ≤ j → j < qs.length → ltSS (prOf H (qs.getD j 0)) (prOf H (qs.getD i 0)) = false) : ∃ fs : List Fd, fs.Perm gs ∧ AscP fs ∧ qs.map (prOf H) = fs.map keyF := by
  have h5 : (qs.map (prOf H)).Perm (gs.map keyF) := by
    rw [← h1]
    exact h3.map _
  obtain ⟨fs, e, p⟩ := perm_lift h5 rfl
  have ap := List.pairwise_iff_getElem.mp (hg.perm p)
  have hl : qs.length = fs.length := by
    have := congrArg List.length e
    rwa [List.length_map, List.length_map] at this
  have at' : ∀ i (h : i < fs.length), prOf H (qs.getD i 0) = keyF fs[i] := by
    intro i h
    have e1 : (qs.map (prOf H))[i]? = (fs.map keyF)[i]? := by rw [e]
    rw [List.getElem?_map, List.getElem?_map, List.getElem?_eq_getElem h, List.getElem?_eq_getElem (by omega)] at e1
    rw [List.getD_eq_getElem?_getD, List.getElem?_eq_getElem (by omega)]
    exact Option.some.inj e1
  refine ⟨fs, p, List.pairwise_iff_getElem.mpr fun i j hi hj hij => ?_, e⟩
  have h := h4 i j (by omega) (by omega)
  rw [at' i hi, at' j hj] at h
  exact lt_of h (fun z => key_apart (ap i j hi hj hij) z.symm)
theorem fs_ok {sg : List Nat} {fs gs : List Fd} (h : GsOk sg gs) (p : fs.Perm gs) (a : AscP fs) : FsOk sg fs := by
  refine ⟨by rw [p.length_eq]; exact h.few, fun f hf => h.ok f (p.mem_iff.mp hf), fun i j hij hj f g hf hg => ?_⟩
  have := List.pairwise_iff_getElem.mp a i j (by omega) hj hij
  rw [List.getElem?_eq_getElem hj] at hg
  rw [List.getElem?_eq_getElem (by omega)] at hf
  cases hf
  cases hg
  exact this
theorem tab_at : ∀ {gs : List Fd}, Apart gs → ∀ {f : Fd}, f ∈ gs → valV (tabF gs) [Sum.inr (S [f.x]), Sum.inr (S [f.y])] = some (.str (S f.z))
  | [], _, f, hf => by cases hf
  | g :: gs, h, f, hf => by
    obtain ⟨h1, h2⟩ := List.pairwise_cons.mp h
    unfold valV tabF
    rw [List.map_cons]
    by_cases e : keyN g = keyN f
    · have e2 : g = f := by
        rcases List.mem_cons.mp hf with r | r
        · exact r.symm
        · exact absurd e (h1 f r)
      subst e2
      simp [List.find?_cons]
    · have e3 : f ∈ gs := by
        rcases List.mem_cons.mp hf with r | r
        · rw [r] at e
          exact absurd rfl e
        · exact r
      rw [List.find?_cons_of_neg]
      · exact tab_at h2 e3
      · intro z
        have z' := of_decide_eq_true z
        injection z' with z1 z2
        injection z2 with z2 _
        exact e (Prod.ext (S_one.mp (Sum.inr.inj z1)) (S_one.mp (Sum.inr.inj z2)))
theorem find_mem : ∀ {gs : List Fd}, Apart gs → ∀ {f : Fd}, f ∈ gs → leftM gs f.x f.y = .some f.z
  | [], _, f, hf => by cases hf
  | g :: gs, h, f, hf => by
    obtain ⟨h1, h2⟩ := List.pairwise_cons.mp h
    unfold leftM
    by_cases e : keyN g = keyN f
    · have e2 : g = f := by
        rcases List.mem_cons.mp hf with r | r
        · exact r.symm
        · exact absurd e (h1 f r)
      subst e2
      rw [List.find?_cons_of_pos (by rw [decide_eq_true rfl, decide_eq_true rfl]; rfl)]
      rfl
    · have e3 : f ∈ gs := by
        rcases List.mem_cons.mp hf with r | r
        · rw [r] at e
          exact absurd rfl e
        · exact r
      rw [List.find?_cons_of_neg]
      · exact find_mem h2 e3
      · intro z
        obtain ⟨z1, z2⟩ := Bool.and_eq_true_iff.mp z
        exact e (Prod.ext (of_decide_eq_true z1) (of_decide_eq_true z2))
theorem left_some {gs : List Fd} {x y : Nat} {z : List Nat} (h : leftM gs x y = .some z) : ∃ f ∈ gs, f.x = x ∧ f.y = y ∧ f.z = z := by
  unfold leftM at h
  cases hf : gs.find? fun f => decide (f.x = x) && decide (f.y = y) with
  | none => rw [hf] at h; cases h
  | some f =>
    rw [hf] at h
    cases h
    have h2 := List.find?_some hf
    obtain ⟨z1, z2⟩ := Bool.and_eq_true_iff.mp h2
    exact ⟨f, List.mem_of_find?_eq_some hf, of_decide_eq_true z1, of_decide_eq_true z2, rfl⟩
theorem left_eq {fs gs : List Fd} (h : Apart gs) (p : fs.Perm gs) (x y : Nat) : leftM fs x y = leftM gs x y := by
  cases e : leftM fs x y with
  | some z =>
    obtain ⟨f, hf, rfl, rfl, rfl⟩ := left_some e
    exact (find_mem h (p.mem_iff.mp hf)).symm
  | none =>
    cases e2 : leftM gs x y with
    | none => rfl
    | some z =>
      obtain ⟨f, hf, rfl, rfl, rfl⟩ := left_some e2
      rw [find_mem (h.perm p) (p.mem_iff.mpr hf)] at e
      cases e
theorem laid_eq {fs gs : List Fd} (h : Apart gs) (p : fs.Perm gs) : laidM fs = laidM gs := by
  funext w y
  unfold laidM
  simp only [left_eq h p]
theorem led_eq {fs gs : List Fd} (h : Apart gs) (p : fs.Perm gs) : ledM fs = ledM gs := by
  funext w row
  unfold ledM
  rw [laid_eq h p]
theorem make_same {H H' : Hp} {x dx CR : Addr} (hx : H x = none) (hdx : H dx = none) (hne : dx ≠ x) (k : ∀ b o, upd (upd H dx (.own x)) x (.ins CR dx []) b = some o → b ≠ x → H' b = some o) : Same H H' := by
  intro b o e
  have e1 : b ≠ x := ne_of_none e hx
  have e2 : b ≠ dx := ne_of_none e hdx
  exact k b o ((upd_ne e1).trans ((upd_ne e2).trans e)) e1
theorem FdAll.snoc {K : PySem.W.Frag} {H : Hp} : ∀ {vs : List V} {fs : List Fd} {v : V} {f : Fd}, FdAll K H vs fs → FdAt K H v f → FdAll K H (vs ++ [v]) (fs ++ [f])
  | _, _, _, _, .nil, h => .cons h .nil
  | _, _, _, _, .cons a b, h => .cons a (FdAll.snoc b h)
def spCode (K : PySem.W.Frag) (C : Addr) : Sp := fun vs H Q _ => ∃ (wd ld : Addr) (sg : List Nat) (gs : List Fd), vs = [.ref wd] ∧ WAt H wd ld sg gs ∧ GsOk sg gs ∧ SgOk sg ∧
  ∀ H' r fa ta fs xs, fs.Perm gs → AscP fs → FsOk sg fs → BkAt H' C r sg fs fa ta → SqT K H' fa xs → FdAll K H' xs fs → Same H H' → Q (.ref r) H'
section
variable {P : Program} {w : World} {K : PySem.W.Frag} {mg : Str → Option Value} {base : Heap} {C : Addr}
theorem ok_code {f fB : Addr} {fd fdB : FuncData} (F : Fun K "_law_code" "_law_code" s__law_code f fd) (B : Blt mg) (bS : mg "sorted" = none)
    (gC : mg "Book" = some (.ref C)) (M : Mk K C fB) (bB : Binds K fdB ["self", "letters", "folds"] []) (GB : FnOk P w K mg base CX0 3 fB fdB ["self", "letters", "folds"] (spBook K C)) :
    FnOk P w K mg base CX0 5 f fd ["_law_w"] (spCode K C) := by
  refine F.ok sc__law_code (fun vs H Q E h => ?_) (fun cdv A outer s H vs Q E hr h => ?_)
  · obtain ⟨_, _, _, _, rfl, _⟩ := h
    rfl
  · obtain ⟨wd, ld, sg, gs, rfl, hw, hgs, hs, q⟩ := h
    have hu1 : (A.deeper (envOfC "_law_code" (defScope s__law_code) s.heap.objs.size f cdv)).units + 1 < cLine := by
      have := hr.units
      omega
    refine ⟨_, pss_one (ps_ret (pe_make M GB (hr.mono (by decide)) (by rfl) gC bB .nil pass0 (pa_cons (pe_dget hu1 (pv 0) pe_str (fun _ _ => rfl)) (pa_cons (pe_callTy call_tuple_of (by rfl) B.tuple (by decide +kernel) (pa_cons (pe_lc (own := [("_law_x", 1), ("_law_y", 2)]) (g := gTup K 2 (gCons (gName 1) (gCons (gName 2) gNil))) (tt := tYes) rfl sc__law_code.nd (pi_list (pe_callB (call_sortedT rfl) (by rfl) bS (by decide +kernel) (pa_cons (pe_dget hu1 (pv 0) pe_str (fun _ _ => rfl)) pa_nil))) (blkOk_by (own := [("_law_x", 1), ("_law_y", 2)]) (N := ["_law_w", "_law_x", "_law_y"]) (sc := defScope s__law_code) (by decide +kernel)) (fun _ _ _ _ _ => pg_tup rfl (pgs_cons (pg_name (i := 1) sc__law_code.nd rfl (Or.inl rfl)) (pgs_cons (pg_name (i := 2) sc__law_code.nd rfl (Or.inl rfl)) pgs_nil))) (fun _ _ _ _ _ => pts_nil) (fun _ _ _ _ _ => (pe_tup (pa_cons (pv 1) (pa_cons (pv 2) (pa_cons (pe_dget hu1 (pe_dget hu1 (pv 0) pe_str (fun _ _ => rfl)) (pe_tup (pa_cons (pv 1) (pa_cons (pv 2) pa_nil))) (fun _ _ => rfl)) pa_nil)))))) pa_nil)) pa_nil)))), ?_⟩
    have ek : (tabF gs).map (·.1) = (gs.map keyF).map (fun x => [Sum.inr x.1, Sum.inr x.2]) := by
      unfold tabF
      rw [List.map_map, List.map_map]
      rfl
    refine ⟨_, rfl, wd, _, rfl, DGet.k (k := .inr "letters") hw.w, ?_⟩
    refine ⟨_, rfl, wd, _, rfl, DGet.k (k := .inr "left") hw.w, ld, tabF gs, gs.map keyF, rfl, .inl hw.l, ek, fun as qs p h1 h2 h3 h4 hp => ?_⟩
    obtain ⟨fs, fp, fa, fe⟩ := sorted_fds hgs.nd h1 h3 h4
    have hfs := fs_ok hgs fp fa
    have hql : qs.length = fs.length := by
      have := congrArg List.length fe
      rwa [List.length_map, List.length_map] at this
    have hat : ∀ (i : Nat) (b : Addr) (f : Fd), qs[i]? = some b → fs[i]? = some f → H b = some (.tup [.str (S [f.x]), .str (S [f.y])]) := by
      intro i b f e1 e2
      have e3 := h2 b (h3.mem_iff.mp (List.mem_of_getElem? e1))
      have e4 : (qs.map (prOf H))[i]? = (fs.map keyF)[i]? := by rw [fe]
      rw [List.getElem?_map, List.getElem?_map, e1, e2] at e4
      have e5 : prOf H b = keyF f := Option.some.inj e4
      rw [e5] at e3
      exact e3
    have s1 := same_new (o := HO.lst (qs.map V.ref)) hp
    have hp1 : upd H p (.lst (qs.map V.ref)) p = some (.lst (qs.map V.ref)) := upd_same
    generalize upd H p (.lst (qs.map V.ref)) = H1 at s1 hp1 ⊢
    refine ⟨p, rfl, ⟨_, SqL.of hp1⟩, fun L hL => ?_⟩
    refine lc_yes (walk_list (K := K) (a := p) (xs := qs.map V.ref)) (fun i H' => Same H1 H' ∧ ∃ xs, H' L = some (.lst xs) ∧ FdAll K H' xs (fs.take i)) ⟨same_new hL, [], upd_same, .nil⟩ (fun i H' _ q => SqL.of (q.1 _ _ hp1)) ?_ ?_
    · rintro i x H2 H3 hi ⟨s2, xs, hL2, hall⟩ ⟨rfl, hx⟩
      obtain ⟨b, hb, rfl⟩ : ∃ b, qs[i]? = some b ∧ x = .ref b := by
        rw [List.getElem?_map] at hx
        cases h : qs[i]? with
        | none => rw [h] at hx; cases hx
        | some b => rw [h] at hx; cases hx; exact ⟨b, rfl, rfl⟩
      have hif : i < fs.length := by
        rw [List.length_map] at hi
        omega
      have hf : fs[i]? = some fs[i] := List.getElem?_eq_getElem hif
      have hb2 := s2 _ _ (s1 _ _ (hat i b _ hb hf))
      have hmem : fs[i] ∈ gs := fp.mem_iff.mp (List.getElem_mem hif)
      generalize fs[i] = fo at hf hb2 hmem
      refine ⟨b, _, rfl, Or.inl (Or.inl hb2), rfl, _, _, rfl, _, _, rfl, rfl, rfl, ?_⟩
      have hw2 := (hw.same s1).same s2
      refine ⟨_, rfl, _, rfl, _, rfl, wd, _, rfl, DGet.k (k := .inr "left") hw2.w, _, rfl, _, rfl, sz_le (n := 2) (by decide), fun p2 hp2 => ?_⟩
      have s3 := same_new (o := HO.tup [V.str (S [fo.x]), V.str (S [fo.y])]) hp2
      have g : DGet (upd H3 p2 (.tup [V.str (S [fo.x]), V.str (S [fo.y])])) ld (.ref p2) (some (.str (S fo.z))) := by
        rw [← tab_at hgs.nd hmem]
        exact DGet.t (k := [Sum.inr (S [fo.x]), Sum.inr (S [fo.y])]) (s3 _ _ hw2.l) upd_same
      refine ⟨ld, _, rfl, g, sz_le (n := 3) (by decide), fun p3 hp3 => ?_⟩
      have s4 := s3.trans (same_new (o := HO.tup [V.str (S [fo.x]), V.str (S [fo.y]), V.str (S fo.z)]) hp3)
      have h3' : upd (upd H3 p2 (.tup [V.str (S [fo.x]), V.str (S [fo.y])])) p3 (.tup [V.str (S [fo.x]), V.str (S [fo.y]), V.str (S fo.z)]) p3 = some (.tup (fdV fo)) := upd_same
      generalize upd (upd H3 p2 (.tup [V.str (S [fo.x]), V.str (S [fo.y])])) p3 (.tup [V.str (S [fo.x]), V.str (S [fo.y]), V.str (S fo.z)]) = H4 at s4 h3' ⊢
      have hL4 := s4 _ _ hL2
      have hlx : xs.length ≤ 200 := by
        rw [hall.len, List.length_take]
        have := hfs.few
        omega
      refine ⟨xs, hL4, sz_lt (by omega), ?_, xs ++ [.ref p3], upd_same, ?_⟩
      · intro b o e
        rw [upd_ne (ne_of_none e hL)]
        exact s4 b o (s2 b o e)
      · have e6 : fs.take (i + 1) = fs.take i ++ [fo] := by
          rw [List.take_add_one, hf]
          rfl
        rw [e6]
        have kp : KpT K H4 (upd H4 L (.lst (xs ++ [.ref p3]))) := KpT.lst hL4
        exact ((hall.kp (KpT.same s4)).kp kp).snoc ⟨p3, rfl, kp _ _ (Or.inl (Or.inl h3'))⟩
    · rintro H2 ⟨s2, xs, hL2, hall⟩
      rw [List.length_map, hql, List.take_length] at hall
      refine ⟨L, xs, rfl, Or.inl ⟨SqL.of hL2, fun fa' hfa => ?_⟩⟩
      have s3 := same_new (o := HO.tup xs) hfa
      have hf3 : SqT K (upd H2 fa' (.tup xs)) fa' xs := Or.inl (Or.inl upd_same)
      have hall3 := hall.kp (KpT.same s3)
      have s03 := (s1.trans s2).trans s3
      generalize upd H2 fa' (.tup xs) = H3 at hf3 hall3 s03 ⊢
      refine fun x dx hx hdx hne => ⟨x, dx, fa', sg, fs, xs, rfl, upd_same, ?_, ?_, hfs, hs, fun H4 ta hbk keep => ⟨rfl, ?_⟩⟩
      · exact Same.tup (same_new ((upd_ne (Ne.symm hne)).trans hx)) (Same.tup (same_new hdx) hf3)
      · exact (hall3.kp (KpT.same (same_new hdx))).kp (KpT.same (same_new ((upd_ne (Ne.symm hne)).trans hx)))
      · have s4 := make_same hx hdx hne keep
        exact q H4 x fa' ta fs xs fp fa hfs hbk (Same.tup s4 hf3) (hall3.kp (KpT.same s4)) (s03.trans s4)
end
end Lw

namespace Lw
open PySem PySem.Spec PyProof.Rows L2 Mq
open SX (S)
/-! ### what is heard of led and laid_on -/
def hearBad (v : V) (H : Hp) (Q : VK) : Prop := ∀ H' p, Same H H' → p ≠ sysModules → H' p = some (.lst [.str "bad", v, .bl true]) → Q (.ref p) H'
def spHeard (K : PySem.W.Frag) (C : Addr) : Sp := fun vs H Q _ => ∃ (way : Nat) (r fa ta : Addr) (sg : List Nat) (fs : List Fd) (v u : V), vs = [.ref r, v, u, .int (way : Nat)] ∧ way < 4 ∧ BkAt H C r sg fs fa ta ∧ FsOk sg fs ∧
  (way < 2 → (∃ l row, WebGood sg v l ∧ WebGood sg u row ∧ ∀ H', Same H H' → Q (.str (S (ledM fs l row))) H') ∨
   (BadS K H sg v ∧ hearBad v H Q) ∨ ((∃ l, WebGood sg v l) ∧ BadS K H sg u ∧ hearBad u H Q)) ∧
  (2 ≤ way → ∃ y, u = .str (S [y]) ∧ ((∃ l, WebGood sg v l ∧ ∀ H', Same H H' → Q (.str (S (laidM fs l y))) H') ∨ (BadS K H sg v ∧ hearBad v H Q)))
section
variable {P : Program} {w : World} {K : PySem.W.Frag} {mg : Str → Option Value} {base : Heap} {C CW CM : Addr}
/-- what the written part says of the errors -/
structure ErrT (K : PySem.W.Frag) (mg : Str → Option Value) (CW CM fB : Addr) : Prop where
  txt : MqE_thing.Txt K mg "BadWeb" "BadWeb.__init__" CW fB
  xf : XfC K CW
  nt : PySem.W.findIn K (.ref CW) "thing" = some none
  held : HeldC K CW
  gM : mg "MillError" = some (.ref CM)
  kit : PySem.W.kitOne K (.ref CW) (.ref CM) = some true
  exm : PySem.W.exmOne K (.ref CW) (.ref CW) = some true
theorem ok_heard {f fL fO fB : Addr} {fd fdL fdO : FuncData} (F : Fun K "_law_heard" "_law_heard" s__law_heard f fd) (B : Blt mg) (T : ErrT K mg CW CM fB)
    (FL : Fun K "led" "led" s_led fL fdL) (gL : mg "led" = some (.ref fL)) (bL : Binds K fdL ["book", "web", "row"] []) (kL : KBn K fdL ["book", "web", "row"] 0 ["row", "web", "book"] rev0 rev0) (GL : FnOk P w K mg base (L2.CX P w) 4 fL fdL ["book", "web", "row"] (spLed K C CW))
    (FO : Fun K "laid_on" "laid_on" s_laid_on fO fdO) (gO : mg "laid_on" = some (.ref fO)) (bO : Binds K fdO ["book", "web", "letter"] []) (kO : KBn K fdO ["book", "web", "letter"] 0 ["letter", "web", "book"] rev0 rev0) (GO : FnOk P w K mg base (L2.CX P w) 4 fO fdO ["book", "web", "letter"] (spLaidOn K C CW)) :
    FnG P w K mg base CX0 6 f fd ["_law_code_here", "_law_web_here", "_law_row", "_law_way"] (spHeard K C) := by
  refine Mq.Fun.okG F sc__law_heard (fun vs H Q E h => ?_) (fun cdv A outer s H vs Q E gA hr h => ?_)
  · obtain ⟨_, _, _, _, _, _, _, _, rfl, _⟩ := h
    rfl
  · obtain ⟨way, r, fa, ta, sg, fs, v, u, rfl, hway, hb, hfs, h01, h23⟩ := h
    have hr4 : Room 4 (A.deeper (envOfC "_law_heard" (defScope s__law_heard) s.heap.objs.size f cdv)) := hr.mono (by decide)
    refine ⟨_, (pss_cons (ps_set (i := 4) sc__law_heard.nd rfl (Or.inl rfl) pe_non)
      (pss_cons (ps_try_as (i := 5) (Wout := fun _ _ _ _ => False) (c := .ref CW) rfl rfl sc__law_heard.nd rfl rfl ⟨rfl, by decide, Or.inl T.txt.gC⟩ takes0
        (fun W pn xe tk _ => pss_one (ps_if (pt_cmpR op_eq (pv 3) pe_int (nomark _))
          (pss_one (ps_set (i := 4) sc__law_heard.nd rfl (Or.inl rfl) (pe_callS (E := WE W) GL hr4 (by rfl) gL FL.kp bL (fun σ => passAt tk σ) (pa_cons (pv 0) (pa_cons (pv 1) (pa_cons (pv 2) pa_nil))))))
          (pss_one (ps_if (pt_cmpR op_eq (pv 3) pe_int (nomark _))
            (pss_one (ps_set (i := 4) sc__law_heard.nd rfl (Or.inl rfl) (pe_callK0 (E := WE W) GL hr4 (by rfl) gL FL.kp kL (fun σ => passAt tk σ) (pk_cons (pv 2) (pk_cons (pv 1) (pk_cons (pv 0) pk_nil))))))
            (pss_one (ps_if (pt_cmpR op_eq (pv 3) pe_int (nomark _))
              (pss_one (ps_set (i := 4) sc__law_heard.nd rfl (Or.inl rfl) (pe_callS (E := WE W) GO hr4 (by rfl) gO FO.kp bO (fun σ => passAt tk σ) (pa_cons (pv 0) (pa_cons (pv 1) (pa_cons (pv 2) pa_nil))))))
              (pss_one (ps_set (i := 4) sc__law_heard.nd rfl (Or.inl rfl) (pe_callK0 (E := WE W) GO hr4 (by rfl) gO FO.kp kO (fun σ => passAt tk σ) (pk_cons (pv 2) (pk_cons (pv 1) (pk_cons (pv 0) pk_nil))))))))))))
        (fun a oe cls d pn hz hf => pss_one (ps_set (i := 4) sc__law_heard.nd rfl (Or.inl rfl) (Mq.pe_ls (pa_cons pe_str (pa_cons (pe_xf T.xf T.nt hz hf (pv 5)) (pa_cons (pe_callB (call_heldX T.held hz hf) (by rfl) B.isi (by decide +kernel) (pa_cons (pv 5) (pa_cons (pe_glob (v := .ref CM) (by rfl) T.gM rfl) pa_nil))) pa_nil)))))))
      (pss_one (ps_ret (pv 4))))), ?_⟩
    have finB : ∀ x, hearBad x H Q → ∀ H1 dd, Same H H1 → H1 dd = none → ∀ p, upd H1 dd (.xd [("thing", x)]) p = none → p ≠ sysModules → Q (.ref p) (upd (upd H1 dd (.xd [("thing", x)])) p (.lst [.str "bad", x, .bl true])) := by
      intro x q H1 dd s1 hdd p hp hne
      exact q _ p ((s1.trans (same_new hdd)).trans (same_new hp)) hne upd_same
    match way, hway with
    | 0, _ =>
      refine ⟨_, rfl, rfl, _, rfl, ifT (by decide) ?_⟩
      refine ⟨_, rfl, _, rfl, _, rfl, r, fa, ta, sg, fs, v, u, rfl, hb, hfs, ?_⟩
      rcases h01 (by decide) with ⟨l, row, h1, h2, q⟩ | ⟨h1, q⟩ | ⟨h1, h2, q⟩
      · exact Or.inl ⟨l, row, h1, h2, fun H1 s1 => ⟨_, rfl, q H1 s1⟩⟩
      · refine Or.inr (Or.inl ⟨h1, fun H1 dd s1 hdd => ⟨true, T.exm, fun _ a0 ha0 => ?_, fun z => nomatch z⟩⟩)
        exact ⟨_, rfl, rfl, rfl, dd, _, v, rfl, upd_same, rfl, _, rfl, rfl, dd, CM, _, true, rfl, rfl, upd_same, T.kit, sz_le (n := 3) (by decide), fun p hp hne => ⟨_, rfl, finB v q H1 dd s1 hdd p hp hne⟩⟩
      · refine Or.inr (Or.inr ⟨h1, h2, fun H1 dd s1 hdd => ⟨true, T.exm, fun _ a0 ha0 => ?_, fun z => nomatch z⟩⟩)
        exact ⟨_, rfl, rfl, rfl, dd, _, u, rfl, upd_same, rfl, _, rfl, rfl, dd, CM, _, true, rfl, rfl, upd_same, T.kit, sz_le (n := 3) (by decide), fun p hp hne => ⟨_, rfl, finB u q H1 dd s1 hdd p hp hne⟩⟩
    | 1, _ =>
      refine ⟨_, rfl, rfl, _, rfl, ifF (by decide) ⟨_, rfl, rfl, _, rfl, ifT (by decide) ?_⟩⟩
      refine ⟨_, rfl, _, rfl, _, rfl, rfl, r, fa, ta, sg, fs, v, u, rfl, hb, hfs, ?_⟩
      rcases h01 (by decide) with ⟨l, row, h1, h2, q⟩ | ⟨h1, q⟩ | ⟨h1, h2, q⟩
      · exact Or.inl ⟨l, row, h1, h2, fun H1 s1 => ⟨_, rfl, q H1 s1⟩⟩
      · refine Or.inr (Or.inl ⟨h1, fun H1 dd s1 hdd => ⟨true, T.exm, fun _ a0 ha0 => ?_, fun z => nomatch z⟩⟩)
        exact ⟨_, rfl, rfl, rfl, dd, _, v, rfl, upd_same, rfl, _, rfl, rfl, dd, CM, _, true, rfl, rfl, upd_same, T.kit, sz_le (n := 3) (by decide), fun p hp hne => ⟨_, rfl, finB v q H1 dd s1 hdd p hp hne⟩⟩
      · refine Or.inr (Or.inr ⟨h1, h2, fun H1 dd s1 hdd => ⟨true, T.exm, fun _ a0 ha0 => ?_, fun z => nomatch z⟩⟩)
        exact ⟨_, rfl, rfl, rfl, dd, _, u, rfl, upd_same, rfl, _, rfl, rfl, dd, CM, _, true, rfl, rfl, upd_same, T.kit, sz_le (n := 3) (by decide), fun p hp hne => ⟨_, rfl, finB u q H1 dd s1 hdd p hp hne⟩⟩
    | 2, _ =>
      refine ⟨_, rfl, rfl, _, rfl, ifF (by decide) ⟨_, rfl, rfl, _, rfl, ifF (by decide) ⟨_, rfl, rfl, _, rfl, ifT (by decide) ?_⟩⟩⟩
      obtain ⟨y, rfl, h⟩ := h23 (by decide)
      refine ⟨_, rfl, _, rfl, _, rfl, r, fa, ta, sg, fs, v, y, rfl, hb, hfs, ?_⟩
      rcases h with ⟨l, h1, q⟩ | ⟨h1, q⟩
      · exact Or.inl ⟨l, h1, fun H1 s1 => ⟨_, rfl, q H1 s1⟩⟩
      · refine Or.inr ⟨h1, fun H1 dd s1 hdd => ⟨true, T.exm, fun _ a0 ha0 => ?_, fun z => nomatch z⟩⟩
        exact ⟨_, rfl, rfl, rfl, dd, _, v, rfl, upd_same, rfl, _, rfl, rfl, dd, CM, _, true, rfl, rfl, upd_same, T.kit, sz_le (n := 3) (by decide), fun p hp hne => ⟨_, rfl, finB v q H1 dd s1 hdd p hp hne⟩⟩
    | 3, _ =>
      refine ⟨_, rfl, rfl, _, rfl, ifF (by decide) ⟨_, rfl, rfl, _, rfl, ifF (by decide) ⟨_, rfl, rfl, _, rfl, ifF (by decide) ?_⟩⟩⟩
      obtain ⟨y, rfl, h⟩ := h23 (by decide)
      refine ⟨_, rfl, _, rfl, _, rfl, rfl, r, fa, ta, sg, fs, v, y, rfl, hb, hfs, ?_⟩
      rcases h with ⟨l, h1, q⟩ | ⟨h1, q⟩
      · exact Or.inl ⟨l, h1, fun H1 s1 => ⟨_, rfl, q H1 s1⟩⟩
      · refine Or.inr ⟨h1, fun H1 dd s1 hdd => ⟨true, T.exm, fun _ a0 ha0 => ?_, fun z => nomatch z⟩⟩
        exact ⟨_, rfl, rfl, rfl, dd, _, v, rfl, upd_same, rfl, _, rfl, rfl, dd, CM, _, true, rfl, rfl, upd_same, T.kit, sz_le (n := 3) (by decide), fun p hp hne => ⟨_, rfl, finB v q H1 dd s1 hdd p hp hne⟩⟩
end
end Lw

namespace Lw
open PySem PySem.Spec PyProof.Rows L2 Mq
open SX (S)
/-! ### rows led -/
theorem GsOk.z {sg : List Nat} {gs : List Fd} (h : GsOk sg gs) : zOk gs := by
  intro g hg
  rcases (h.ok g hg).2.2 with e | ⟨c, _, e⟩
  · rw [e]
    exact Nat.zero_le _
  · rw [e]
    exact Nat.le_refl 1
theorem laid_in {sg : List Nat} {gs : List Fd} (h : GsOk sg gs) {w : List Nat} {y : Nat} (hw : ∀ c ∈ w, c ∈ sg) (hy : y ∈ sg) : ∀ c ∈ laidM gs w y, c ∈ sg := by
  have add : ∀ c ∈ w ++ [y], c ∈ sg := by
    intro c hc
    rcases List.mem_append.mp hc with hc | hc
    · exact hw c hc
    · rw [List.mem_singleton.mp hc]
      exact hy
  intro c hc
  unfold laidM at hc
  split at hc
  · exact add c hc
  · split at hc
    · exact add c hc
    · rename_i z e
      obtain ⟨f, hf, _, _, rfl⟩ := left_some e
      rcases List.mem_append.mp hc with hc | hc
      · exact hw c ((List.dropLast_sublist w).subset hc)
      · rcases (h.ok f hf).2.2 with e | ⟨d, hd, e⟩
        · rw [e] at hc
          cases hc
        · rw [e] at hc
          rw [List.mem_singleton.mp hc]
          exact hd
theorem led_in {sg : List Nat} {gs : List Fd} (h : GsOk sg gs) : ∀ {row w : List Nat}, (∀ c ∈ w, c ∈ sg) → (∀ c ∈ row, c ∈ sg) → ∀ c ∈ ledM gs w row, c ∈ sg
  | [], w, hw, _ => hw
  | y :: row, w, hw, hr => led_in h (row := row) (laid_in h hw (hr y (List.mem_cons_self ..))) fun c hc => hr c (List.mem_cons_of_mem _ hc)
theorem led_app (gs : List Fd) (w r1 r2 : List Nat) : ledM gs w (r1 ++ r2) = ledM gs (ledM gs w r1) r2 := by
  unfold ledM
  rw [List.foldl_append]
theorem laid_base (gs : List Fd) {b w : List Nat} (y : Nat) (h : w ≠ []) : laidM gs (b ++ w) y = b ++ laidM gs w y := by
  rcases List.eq_nil_or_concat w with rfl | ⟨u, x, rfl⟩
  · exact (h rfl).elim
  · rw [List.concat_eq_append]
    unfold laidM
    rw [← List.append_assoc, List.getLast?_concat, List.getLast?_concat, List.dropLast_concat, List.dropLast_concat]
    cases e : leftM gs x y <;> simp [e]
theorem led_base (gs : List Fd) (b : List Nat) : ∀ (row w : List Nat), (∀ k, k ≤ row.length → ledM gs w (row.take k) ≠ []) → ledM gs (b ++ w) row = b ++ ledM gs w row
  | [], w, _ => rfl
  | y :: row, w, h => by
    have h0 : w ≠ [] := h 0 (Nat.zero_le _)
    show ledM gs (laidM gs (b ++ w) y) row = b ++ ledM gs (laidM gs w y) row
    rw [laid_base gs y h0]
    refine led_base gs b row (laidM gs w y) fun k hk => ?_
    exact h (k + 1) (Nat.succ_le_succ hk)
theorem BkAt.off {C D Cc : Addr} {T : Nat} {H H' : Hp} {r fa ta : Addr} {sg : List Nat} {fs : List Fd} (h : BkAt H C r sg fs fa ta) (f : Off D Cc H H') (k : DeckAt D Cc T H) : BkAt H' C r sg fs fa ta :=
  let ⟨⟨dx, x⟩, y⟩ := h; ⟨⟨dx, f.at k x ⟨(fun _ z => nomatch z), (fun _ z => nomatch z)⟩⟩, f.at k y ⟨(fun _ z => nomatch z), (fun _ z => nomatch z)⟩⟩
theorem call_lenK {X : Cx} {K : PySem.W.Frag} (h : X.K = K) : CallR X (.builtin "len") (fun xs H Q => ∃ x n, xs = [x] ∧ LenV K x H n ∧ Q (V.int (n : Nat)) H) := by
  subst h
  exact call_len
theorem flat2 (x y : Str) : ∀ v ∈ [V.str x, V.str y], flatB v = true := by
  intro v hv
  simp only [List.mem_cons, List.not_mem_nil, or_false] at hv
  rcases hv with rfl | rfl <;> rfl
def spLedRight (K : PySem.W.Frag) (C : Addr) : Sp := fun vs H Q _ => ∃ (D Cc : Addr) (T : Nat) (wd ld r fa ta : Addr) (sg : List Nat) (gs fs : List Fd), vs = [.ref D, .ref wd, .ref r] ∧ DeckAt D Cc T H ∧ T ≤ 800000 ∧
  WAt H wd ld sg gs ∧ GsOk sg gs ∧ SgOk sg ∧ fs.Perm gs ∧ FsOk sg fs ∧ BkAt H C r sg fs fa ta ∧ ∀ H', DeckAt D Cc (T + 40) H' → Off D Cc H H' → Q (.bl true) H'
section
variable {P : Program} {w : World} {K : PySem.W.Frag} {mg : Str → Option Value} {base : Heap} {C CW : Addr}
theorem ok_led_right {f fE fL fV fT fZ : Addr} {fd fdE fdL fdV fdT fdZ : FuncData} (F : Fun K "_law_led_right" "_law_led_right" s__law_led_right f fd) (B : Blt mg) (bM : mg "min" = none)
    (FE : Fun K "_law_heard" "_law_heard" s__law_heard fE fdE) (gE : mg "_law_heard" = some (.ref fE)) (bE : Binds K fdE ["_law_code_here", "_law_web_here", "_law_row", "_law_way"] []) (GE : FnG P w K mg base CX0 6 fE fdE ["_law_code_here", "_law_web_here", "_law_row", "_law_way"] (spHeard K C))
    (FL : Fun K "led" "led" s_led fL fdL) (gL : mg "led" = some (.ref fL)) (bL : Binds K fdL ["book", "web", "row"] []) (GL : FnOk P w K mg base (L2.CX P w) 4 fL fdL ["book", "web", "row"] (spLed K C CW))
    (FV : Fun K "_law_led" "_law_led" s__law_led fV fdV) (gV : mg "_law_led" = some (.ref fV)) (bV : Binds K fdV ["_law_w", "_law_web_here", "_law_row"] []) (GV : FnOk P w K mg base CX0 2 fV fdV ["_law_w", "_law_web_here", "_law_row"] spLawLed)
    (FT : Fun K "_law_web" "_law_web" s__law_web fT fdT) (gT : mg "_law_web" = some (.ref fT)) (bT : Binds K fdT ["_law_deck_here", "_law_w", "_law_most"] []) (GT : FnOk P w K mg base CX0 3 fT fdT ["_law_deck_here", "_law_w", "_law_most"] spLawWeb)
    (FZ : Fun K "_law_laid" "_law_laid" s__law_laid fZ fdZ) (gZ : mg "_law_laid" = some (.ref fZ)) (bZ : Binds K fdZ ["_law_w", "_law_web_here", "_law_y"] []) (GZ : FnOk P w K mg base CX0 1 fZ fdZ ["_law_w", "_law_web_here", "_law_y"] spLawLaid) :
    FnG P w K mg base CX0 7 f fd ["_law_deck_here", "_law_w", "_law_code_here"] (spLedRight K C) := by
  refine Mq.Fun.okG F sc__law_led_right (fun vs H Q E h => ?_) (fun cdv A outer s H vs Q E gA hr h => ?_)
  · obtain ⟨_, _, _, _, _, _, _, _, _, _, _, rfl, _⟩ := h
    rfl
  · obtain ⟨D, Cc, T, wd, ld, r, fa, ta, sg, gs, fs, rfl, hdk, hT, hw, hgs, hs, hp, hfs, hbk, q⟩ := h
    have hu : (A.deeper (envOfC "_law_led_right" (defScope s__law_led_right) s.heap.objs.size f cdv)).units + 64 < cLine := by
      have := hr.units
      omega
    have hu1 : (A.deeper (envOfC "_law_led_right" (defScope s__law_led_right) s.heap.objs.size f cdv)).units + 1 < cLine := by omega
    have hr4 : Room 4 (A.deeper (envOfC "_law_led_right" (defScope s__law_led_right) s.heap.objs.size f cdv)) := hr.mono (by decide)
    have hr6 : Room 6 (A.deeper (envOfC "_law_led_right" (defScope s__law_led_right) s.heap.objs.size f cdv)) := hr
    refine ⟨_, (pss_cons (ps_asg (pe_tup (pa_cons (pe_call GT (hr.mono (by decide)) (by rfl) gT FT.kp bT .nil pass0 (pa_cons (pv 0) (pa_cons (pv 1) (pa_cons pe_int pa_nil)))) (pa_cons (pe_call GT (hr.mono (by decide)) (by rfl) gT FT.kp bT .nil pass0 (pa_cons (pv 0) (pa_cons (pv 1) (pa_cons pe_int pa_nil)))) (pa_cons (pe_call GT (hr.mono (by decide)) (by rfl) gT FT.kp bT .nil pass0 (pa_cons (pv 0) (pa_cons (pv 1) (pa_cons pe_int pa_nil)))) pa_nil)))) (pg_tup rfl (pgs_cons (pg_name (i := 3) sc__law_led_right.nd rfl (Or.inr rfl)) (pgs_cons (pg_name (i := 4) sc__law_led_right.nd rfl (Or.inr rfl)) (pgs_cons (pg_name (i := 5) sc__law_led_right.nd rfl (Or.inl rfl)) pgs_nil)))))
      (pss_cons (ps_set (i := 6) sc__law_led_right.nd rfl (Or.inl rfl) (pe_call GV (hr.mono (by decide)) (by rfl) gV FV.kp bV .nil pass0 (pa_cons (pv 1) (pa_cons (pv 3) (pa_cons (pv 4) pa_nil)))))
      (pss_cons (ps_if (pt_cmpR (op_neFl hu) (Mq.pe_ls (pa_cons (Mq.pe_callG GE gA hr6 (by rfl) gE FE.kp bE pass0 (pa_cons (pv 2) (pa_cons (pv 3) (pa_cons (pv 4) (pa_cons pe_int pa_nil))))) (pa_cons (Mq.pe_callG GE gA hr6 (by rfl) gE FE.kp bE pass0 (pa_cons (pv 2) (pa_cons (pv 3) (pa_cons (pv 4) (pa_cons pe_int pa_nil))))) pa_nil))) (Mq.pe_ls (pa_cons (pv 6) (pa_cons (pv 6) pa_nil))) (nomark _)) (pss_one (ps_ret pe_bl)) pss_nil)
      (pss_cons (ps_if (PW.pt (pw_or (pt_cmpR op_ne (pe_callS (E := WE (fun _ _ _ _ => False)) GL hr4 (by rfl) gL FL.kp bL (fun σ => passAt takes0 σ) (pa_cons (pv 2) (pa_cons (pv 6) (pa_cons (pv 5) pa_nil)))) (pe_callS (E := WE (fun _ _ _ _ => False)) GL hr4 (by rfl) gL FL.kp bL (fun σ => passAt takes0 σ) (pa_cons (pv 2) (pa_cons (pv 3) (pa_cons (pe_op op_add_str (pv 4) (pv 5)) pa_nil)))) (nomark _)) (pw_or1 (pt_cmpR op_ne (pe_callS (E := WE (fun _ _ _ _ => False)) GL hr4 (by rfl) gL FL.kp bL (fun σ => passAt takes0 σ) (pa_cons (pv 2) (pa_cons (pv 3) (pa_cons pe_str pa_nil)))) (pv 3) (nomark _))))) (pss_one (ps_ret pe_bl)) pss_nil)
      (pss_cons (ps_for (passes_of rfl) rfl (pi_str (pe_dget hu1 (pv 1) pe_str (fun _ _ => rfl))) (pg_name (i := 7) sc__law_led_right.nd rfl (Or.inl rfl))
        (pss_one (ps_if (pt_cmpR (op_neFl hu) (Mq.pe_ls (pa_cons (Mq.pe_callG GE gA hr6 (by rfl) gE FE.kp bE pass0 (pa_cons (pv 2) (pa_cons (pv 3) (pa_cons (pv 7) (pa_cons pe_int pa_nil))))) (pa_cons (Mq.pe_callG GE gA hr6 (by rfl) gE FE.kp bE pass0 (pa_cons (pv 2) (pa_cons (pv 3) (pa_cons (pv 7) (pa_cons pe_int pa_nil))))) pa_nil))) (pe_op op_rep (Mq.pe_ls (pa_cons (pe_call GZ (hr.mono (by decide)) (by rfl) gZ FZ.kp bZ .nil pass0 (pa_cons (pv 1) (pa_cons (pv 3) (pa_cons (pv 7) pa_nil)))) pa_nil)) pe_int) (nomark _)) (pss_one (ps_ret pe_bl)) pss_nil)))
      (pss_cons (ps_set (i := 8) sc__law_led_right.nd rfl (Or.inl rfl) (pe_call GT (hr.mono (by decide)) (by rfl) gT FT.kp bT .nil pass0 (pa_cons (pv 0) (pa_cons (pv 1) (pa_cons pe_int pa_nil)))))
      (pss_cons (ps_set (i := 9) sc__law_led_right.nd rfl (Or.inl rfl) (pe_callB (cr_min rfl) (by rfl) bM (by decide +kernel) (pa_cons (pe_lc (own := [("_law_k", 10)]) (g := gName 10) (tt := tYes) rfl sc__law_led_right.nd (pi_range1 (by rfl) B.range (pa_cons (pe_op op_add (pe_callB call_len (by rfl) B.len (by decide +kernel) (pa_cons (pv 4) pa_nil)) pe_int) pa_nil)) (blkOk_by (own := [("_law_k", 10)]) (N := ["_law_deck_here", "_law_w", "_law_code_here", "_law_web_here", "_law_row", "_law_more", "_law_due_here", "_law_y", "_law_base", "_law_low", "_law_k"]) (sc := defScope s__law_led_right) (by decide +kernel)) (fun _ _ _ _ _ => pg_name (i := 10) sc__law_led_right.nd rfl (Or.inl rfl)) (fun _ _ _ _ _ => pts_nil) (fun _ _ _ _ _ => (pe_callB (call_lenK (K := K) rfl) (by rfl) B.len (by decide +kernel) (pa_cons (pe_call GV (hr.mono (by decide)) (by rfl) gV FV.kp bV .nil pass0 (pa_cons (pv 1) (pa_cons (pv 3) (pa_cons (pe_slice C8.sl_txt (pv 4) po_none (po_some (pv 10))) pa_nil)))) pa_nil)))) pa_nil)))
      (pss_one (ps_ret (pe_or (pe_cmpR op_eq (pv 9) pe_int (nomark _)) (pe_one (pe_cmpR op_eq (pe_callS (E := WE (fun _ _ _ _ => False)) GL hr4 (by rfl) gL FL.kp bL (fun σ => passAt takes0 σ) (pa_cons (pv 2) (pa_cons (pe_op op_add_str (pv 8) (pv 3)) (pa_cons (pv 4) pa_nil)))) (pe_op op_add_str (pv 8) (pv 6)) (nomark _))))))))))))), ?_⟩
    have el := led_eq hgs.nd hp
    have ea := laid_eq hgs.nd hp
    have hz := hgs.z
    have hs0 := hs.pos
    have hs1 := hs.few
    refine ⟨_, rfl, _, rfl, D, Cc, T, 7, wd, ld, sg, gs, rfl, hdk, by omega, hw, hs.pos, by omega, by decide, fun H1 l hl1 hl2 dk1 off1 => ?_⟩
    have hw1 := hw.off off1 hdk
    have hb1 := hbk.off off1 hdk
    refine ⟨_, rfl, _, rfl, D, Cc, _, 9, wd, ld, sg, gs, rfl, dk1, by omega, hw1, hs.pos, by omega, by decide, fun H2 row hr1 hr2 dk2 off2 => ?_⟩
    have hw2 := hw1.off off2 dk1
    have hb2 := hb1.off off2 dk1
    refine ⟨_, rfl, _, rfl, D, Cc, _, 5, wd, ld, sg, gs, rfl, dk2, by omega, hw2, hs.pos, by omega, by decide, fun H3 more hm1 hm2 dk3 off3 => ?_⟩
    have hw3 := hw2.off off3 dk2
    have hb3 := hb2.off off3 dk2
    have off03 := (off1.trans off2).trans off3
    clear hw1 hw2 hb1 hb2 dk1 dk2 off1 off2 off3
    refine ⟨sz_le (n := 3) (by decide), fun p1 hp1 => ?_⟩
    have s4 := same_new (o := HO.tup [V.str (S l), V.str (S row), V.str (S more)]) hp1
    refine ⟨p1, _, rfl, Or.inl (Or.inl upd_same), rfl, _, _, rfl, _, _, rfl, _, _, rfl, rfl, ?_⟩
    have hw4 := hw3.same s4
    have hb4 := hb3.same s4
    have dk4 := dk3.same s4
    have off04 := off03.trans (Off.same s4)
    generalize upd H3 p1 (.tup [V.str (S l), V.str (S row), V.str (S more)]) = H4 at hw4 hb4 dk4 off04 ⊢
    refine ⟨_, rfl, _, rfl, _, rfl, wd, ld, sg, l, row, gs, rfl, hw4, hz, by omega, by omega, fun H5 s5 => ?_⟩
    have hl : WebGood sg (.str (S l)) l := ⟨rfl, hl1, by omega⟩
    have hro : WebGood sg (.str (S row)) row := ⟨rfl, hr1, by omega⟩
    have hdl : (ledM gs l row).length ≤ 16 := by
      have := ledz_len hz row l
      omega
    have hdi : ∀ c ∈ ledM gs l row, c ∈ sg := led_in hgs hl1 hr1
    have hw5 := hw4.same s5
    have hb5 := hb4.same s5
    have dk5 := dk4.same s5
    have off05 := off04.trans (Off.same s5)
    clear hw3 hb3 dk3 off03 s4 hw4 hb4 dk4 off04 s5
    refine ⟨_, rfl, _, rfl, _, rfl, 0, r, fa, ta, sg, fs, .str (S l), .str (S row), rfl, by decide, hb5, hfs, fun _ => Or.inl ⟨l, row, hl, hro, fun H6 s6 => ?_⟩, fun z => absurd z (by decide)⟩
    refine ⟨_, rfl, _, rfl, _, rfl, 1, r, fa, ta, sg, fs, .str (S l), .str (S row), rfl, by decide, hb5.same s6, hfs, fun _ => Or.inl ⟨l, row, hl, hro, fun H7 s7 => ?_⟩, fun z => absurd z (by decide)⟩
    rw [el]
    refine ⟨sz_le (n := 2) (by decide), fun p2 hp2 _ => ?_⟩
    refine ⟨_, rfl, _, rfl, sz_le (n := 2) (by decide), fun p3 hp3 _ => ?_⟩
    have s8 := same_new (o := HO.lst [V.str (S (ledM gs l row)), V.str (S (ledM gs l row))]) hp2
    have s9 := same_new (o := HO.lst [V.str (S (ledM gs l row)), V.str (S (ledM gs l row))]) hp3
    refine ⟨p2, p3, _, rfl, rfl, SqL.of (s9 _ _ upd_same), SqL.of upd_same, flat2 _ _, false, rfl, ifF rfl ?_⟩
    have s05 := ((s6.trans s7).trans s8).trans s9
    generalize upd (upd H7 p2 (.lst [V.str (S (ledM gs l row)), V.str (S (ledM gs l row))])) p3 (.lst [V.str (S (ledM gs l row)), V.str (S (ledM gs l row))]) = H9 at s05 ⊢
    clear s6 s7 s8 s9
    have hw9 := hw5.same s05
    have hb9 := hb5.same s05
    have dk9 := dk5.same s05
    have off09 := off05.trans (Off.same s05)
    clear hw5 hb5 dk5 off05 s05
    have hdue : WebGood sg (.str (S (ledM gs l row))) (ledM gs l row) := ⟨rfl, hdi, by omega⟩
    have hmo : WebGood sg (.str (S more)) more := ⟨rfl, hm1, by omega⟩
    refine ⟨_, rfl, _, rfl, _, rfl, r, fa, ta, sg, fs, _, _, rfl, hb9, hfs, Or.inl ⟨_, _, hdue, hmo, fun H10 s10 => ?_⟩⟩
    have hrm : WebGood sg (.str (S row ++ S more)) (row ++ more) := by
      refine ⟨congrArg V.str (SX.S_cat _ _), fun c hc => ?_, by rw [List.length_append]; omega⟩
      rcases List.mem_append.mp hc with hc | hc
      · exact hr1 c hc
      · exact hm1 c hc
    refine ⟨_, rfl, _, rfl, _, rfl, _, rfl, S row, S more, rfl, rfl, ?_, r, fa, ta, sg, fs, _, _, rfl, hb9.same s10, hfs, Or.inl ⟨_, _, hl, hrm, fun H11 s11 => ?_⟩⟩
    · rw [SX.S_len, SX.S_len]
      exact sz_le (by omega)
    refine ⟨rfl, _, rfl, ifF ?_ ?_⟩
    · rw [el, led_app, decide_eq_true rfl]
      rfl
    have h0 : WebGood sg (.str "") [] := ⟨rfl, (fun _ z => by cases z), Nat.zero_le _⟩
    refine ⟨_, rfl, _, rfl, r, fa, ta, sg, fs, _, _, rfl, hb9.same (s10.trans s11), hfs, Or.inl ⟨_, _, hl, h0, fun H12 s12 => ?_⟩⟩
    refine ⟨_, rfl, rfl, _, rfl, ifF ?_ ?_⟩
    · show (!decide (V.str (S l) = V.str (S l))) = false
      rw [decide_eq_true rfl]
      rfl
    have s012 := (s10.trans s11).trans s12
    have hw12 := hw9.same s012
    have hb12 := hb9.same s012
    have dk12 := dk9.same s012
    have off12 := off09.trans (Off.same s012)
    clear hw9 hb9 dk9 off09 s012 s10 s11 s12
    refine ⟨_, rfl, wd, _, rfl, DGet.k (k := .inr "letters") hw12.w, S sg, rfl, ?_⟩
    refine for_it (walk_S sg) (fun i σ H' => Same H12 H' ∧ ∃ o7, σ = [some (.ref D), some (.ref wd), some (.ref r), some (.str (S l)), some (.str (S row)), some (.str (S more)), some (.str (S (ledM gs l row))), o7, none, none, none]) ⟨Same.refl _, none, rfl⟩ (fun _ _ _ _ _ => trivial) ?_ ?_
    · rintro i x σ H13 H13' hi ⟨s13, o7, rfl⟩ ⟨rfl, rfl⟩
      refine ⟨_, rfl, _, rfl, _, rfl, 2, r, fa, ta, sg, fs, .str (S l), _, rfl, by decide, hb12.same s13, hfs, fun z => absurd z (by decide), fun _ => ⟨sg.getD i 0, rfl, Or.inl ⟨l, hl, fun H14 s14 => ?_⟩⟩⟩
      have s014 := s13.trans s14
      refine ⟨_, rfl, _, rfl, _, rfl, 3, r, fa, ta, sg, fs, .str (S l), _, rfl, by decide, hb12.same s014, hfs, fun z => absurd z (by decide), fun _ => ⟨sg.getD i 0, rfl, Or.inl ⟨l, hl, fun H15 s15 => ?_⟩⟩⟩
      have s015 := s014.trans s15
      rw [ea]
      refine ⟨sz_le (n := 2) (by decide), fun p2 hp2 _ => ?_⟩
      have s16 := same_new (o := HO.lst [V.str (S (laidM gs l (sg.getD i 0))), V.str (S (laidM gs l (sg.getD i 0)))]) hp2
      have hp2' : upd H15 p2 (.lst [V.str (S (laidM gs l (sg.getD i 0))), V.str (S (laidM gs l (sg.getD i 0)))]) p2 = some (.lst [V.str (S (laidM gs l (sg.getD i 0))), V.str (S (laidM gs l (sg.getD i 0)))]) := upd_same
      have s016 := s015.trans s16
      generalize upd H15 p2 (.lst [V.str (S (laidM gs l (sg.getD i 0))), V.str (S (laidM gs l (sg.getD i 0)))]) = H16 at s016 hp2' ⊢
      refine ⟨_, rfl, _, rfl, _, rfl, wd, ld, sg, l, gs, sg.getD i 0, rfl, hw12.same s016, hz, by omega, fun H17 s17 => ?_⟩
      refine ⟨sz_le (n := 1) (by decide), fun p3 hp3 _ => ?_⟩
      refine ⟨p3, 2, _, rfl, rfl, upd_same, by decide, by decide, sz_le (n := 2) (by decide), fun p4 hp4 => ?_⟩
      have s18 := (same_new (o := HO.lst [V.str (S (laidM gs l (sg.getD i 0)))]) hp3).trans (same_new (o := HO.lst (List.replicate (2 : Int).toNat [V.str (S (laidM gs l (sg.getD i 0)))]).flatten) hp4)
      have hp2'' := s18 _ _ (s17 _ _ hp2')
      refine ⟨p2, p4, [V.str (S (laidM gs l (sg.getD i 0))), V.str (S (laidM gs l (sg.getD i 0)))], rfl, rfl, SqL.of hp2'', SqL.of upd_same, flat2 _ _, false, rfl, ifF rfl ?_⟩
      exact ⟨(s016.trans s17).trans s18, _, rfl⟩
    · rintro σ H13 ⟨s13, o7, rfl⟩
      have hw13 := hw12.same s13
      have hb13 := hb12.same s13
      have dk13 := dk12.same s13
      have off13 := off12.trans (Off.same s13)
      clear hw12 hb12 dk12 off12 s13
      refine ⟨_, rfl, _, rfl, D, Cc, _, 4, wd, ld, sg, gs, rfl, dk13, by omega, hw13, hs.pos, by omega, by decide, fun H14 b hb1 hb2 dk14 off14 => ?_⟩
      have hw14 := hw13.off off14 dk13
      have hb14 := hb13.off off14 dk13
      have off014 := off13.trans off14
      clear hw13 hb13 dk13 off13 off14
      unfold gName tSeq tAsg tCB tCons
      dsimp only
      refine lc_map (n := row.length + 1) walk_rng (fun k => .int ((ledM gs l (row.take k)).length : Nat)) (by omega) (fun R k => ?_) (fun _ _ _ _ _ => trivial) ?_ ?_
      · refine ⟨_, rfl, _, _, rfl, len_S (by omega), _, _, rfl, rfl, _, rfl, by omega, by omega, ?_⟩
        have e1 : (((row.length : Nat) : Int) + 1).toNat = row.length + 1 := by omega
        rw [e1]
        exact k _ (Same.refl _) trivial
      · rintro k x H15 H15' R hk sm ⟨rfl, rfl⟩ kq
        refine ⟨rfl, _, rfl, _, rfl, _, rfl, _, rfl, _, rfl, S row, rfl, sz_le (by rw [SX.S_len]; omega), ?_⟩
        have e2 : Txt.slice (S row) none (some ((k : Nat) : Int)) = S (row.take k) := by
          rw [SX.slice_to (by omega), Int.toNat_natCast]
        rw [e2]
        refine ⟨wd, ld, sg, l, row.take k, gs, rfl, hw14.same sm, hz, by omega, by rw [List.length_take]; omega, fun H16 s16 => ?_⟩
        have := ledz_len hz (row.take k) l
        rw [List.length_take] at this
        exact ⟨_, _, rfl, len_S (by omega), kq H16 s16⟩
      · intro L H15 hL0 s15 hL
        have hw15 := hw14.same s15
        have hb15 := hb14.same s15
        have dk15 := dk14.same s15
        have off015 := off014.trans (Off.same s15)
        refine ⟨L, (List.range (row.length + 1)).map fun k => ((ledM gs l (row.take k)).length : Nat), rfl, SqL.of ?_, by rw [List.length_map, List.length_range]; omega, fun m hm1' hm2' => ?_⟩
        · rw [List.map_map]
          exact hL
        refine ⟨_, rfl, rfl, ?_⟩
        by_cases hm0 : m = 0
        · subst hm0
          exact ⟨_, rfl, ifT (by decide) (q H15 (dk15.mono (by omega)) off015)⟩
        refine ⟨_, rfl, ifF (by rw [decide_eq_false]; intro z; injection z with z; exact hm0 z) ?_⟩
        have hne : ∀ k, k ≤ row.length → ledM gs l (row.take k) ≠ [] := by
          intro k hk e
          have hin : (((ledM gs l (row.take k)).length : Nat) : Int) ∈ (List.range (row.length + 1)).map fun k => (((ledM gs l (row.take k)).length : Nat) : Int) := List.mem_map.mpr ⟨k, List.mem_range.mpr (by omega), rfl⟩
          have h1 := hm2' _ hin
          rw [e] at h1
          obtain ⟨k2, _, e2⟩ := List.mem_map.mp hm1'
          have h2 : (0 : Int) ≤ m := by
            rw [← e2]
            exact Int.natCast_nonneg _
          have h3 : m ≤ 0 := h1
          omega
        have hbl : WebGood sg (.str (S b ++ S l)) (b ++ l) := by
          refine ⟨congrArg V.str (SX.S_cat _ _), fun c hc => ?_, by rw [List.length_append]; omega⟩
          rcases List.mem_append.mp hc with hc | hc
          · exact hb1 c hc
          · exact hl1 c hc
        refine ⟨_, rfl, _, rfl, _, rfl, S b, S l, rfl, rfl, ?_, _, rfl, r, fa, ta, sg, fs, _, _, rfl, hb15, hfs, Or.inl ⟨_, _, hbl, hro, fun H16 s16 => ?_⟩⟩
        · rw [SX.S_len, SX.S_len]
          exact sz_le (by omega)
        refine ⟨_, rfl, _, rfl, S b, S (ledM gs l row), rfl, rfl, ?_, rfl, ?_⟩
        · rw [SX.S_len, SX.S_len]
          exact sz_le (by omega)
        rw [el, led_base gs b row l hne, SX.S_cat, decide_eq_true rfl]
        exact q H16 ((dk15.same s16).mono (by omega)) (off015.trans (Off.same s16))
end
end Lw

namespace Lw
open PySem PySem.Spec PyProof.Rows L2 Mq
open SX (S)
/-! ### values that are no webs -/
structure ShowOk (d : PyData) : Prop where
  sh : d.showable = true
  de : d.depth ≤ 40
  le : d.shown.length ≤ sizeLine
def badD (d : PyData) : PyData := .list [.str "bad", d, .bool true]
def oddV (p6 p7 p8 p9 : Addr) (sg : List Nat) : List V := [.non, .int 0, .bl true, .str "A", .str "c", .str "a ", .str "-", .str "aq", .ref p6, .ref p7, .ref p8, .ref p9, .int ((10 : Int) ^ 39), .str "a\n", .str (S (sg ++ [121]))]
structure OddAt (K : PySem.W.Frag) (H : Hp) (D C p6 p7 p8 p9 : Addr) : Prop where
  t6 : SqT K H p6 [.str "a"]
  t7 : H p7 = some (.lst [.str "a"])
  n7 : p7 ≠ sysModules
  t8 : H p8 = some (.dK [])
  t9 : SqT K H p9 []
  m7 : p7 ≠ D ∧ p7 ≠ C
  m8 : p8 ≠ D ∧ p8 ≠ C
theorem OddAt.same {K : PySem.W.Frag} {H H' : Hp} {D C p6 p7 p8 p9 : Addr} (o : OddAt K H D C p6 p7 p8 p9) (e : Same H H') : OddAt K H' D C p6 p7 p8 p9 :=
  ⟨Same.tup e o.t6, e _ _ o.t7, o.n7, e _ _ o.t8, Same.tup e o.t9, o.m7, o.m8⟩
theorem OddAt.off {K : PySem.W.Frag} {H H' : Hp} {D C p6 p7 p8 p9 : Addr} {T : Nat} (o : OddAt K H D C p6 p7 p8 p9) (f : Off D C H H') (k : DeckAt D C T H) : OddAt K H' D C p6 p7 p8 p9 :=
  ⟨f.tup k o.t6, f _ _ o.m7.1 o.m7.2 o.t7, o.n7, f _ _ o.m8.1 o.m8.2 o.t8, f.tup k o.t9, o.m7, o.m8⟩
def BadV (K : PySem.W.Frag) (H : Hp) (sg : List Nat) (v : V) : Prop := (∃ l, v = .str (S l) ∧ l.length ≤ 1000 ∧ (∀ c ∈ l, c < 1114112) ∧ allB l sg = false) ∨ NoStr K H v
theorem badv_of {K : PySem.W.Frag} {H : Hp} {x : Str} (ws : List Nat) (e : x = S ws) (h : (menuW.all fun sg => !allB ws sg) = true) (hl : ws.length ≤ 100) (hc : (ws.all fun c => decide (c < 1114112)) = true) {sg : List Nat} (hs : sg ∈ menuW) : BadV K H sg (.str x) := by
  refine Or.inl ⟨ws, by rw [e], by omega, fun c h => of_decide_eq_true (List.all_eq_true.mp hc c h), ?_⟩
  have h1 := List.all_eq_true.mp h sg hs
  revert h1
  cases allB ws sg
  · intro _
    rfl
  · intro h1
    cases h1
theorem nov_of {K : PySem.W.Frag} {H : Hp} {v : V} {a : String} (t : TyX K H v (.type a)) (m : a ∈ ["NoneType", "bool", "int", "str", "list", "tuple", "dict"]) (n : a ≠ "str") {sg : List Nat} : BadV K H sg v := Or.inr ⟨a, t, m, n⟩
def okB (d : PyData) : Bool := (PyData.list [badD d, badD d]).showable && (decide ((PyData.list [badD d, badD d]).depth ≤ 40) && decide ((PyData.list [badD d, badD d]).shown.length ≤ 1000))
theorem ok_of {d : PyData} (h : okB d = true) : ShowOk (.list [badD d, badD d]) := by
  obtain ⟨a, b⟩ := Bool.and_eq_true_iff.mp h
  obtain ⟨b, c⟩ := Bool.and_eq_true_iff.mp b
  have c' := of_decide_eq_true c
  exact ⟨a, of_decide_eq_true b, Nat.le_trans c' (by decide)⟩
theorem last_ok : ∀ sg ∈ menuW, (sg ++ [121]).length ≤ 1000 ∧ (∀ c ∈ sg ++ [121], c < 1114112) ∧ allB (sg ++ [121]) sg = false ∧ okB (.str (S (sg ++ [121]))) = true := by
  intro sg h
  have h1 : (menuW.all fun sg => decide ((sg ++ [121]).length ≤ 1000) && ((sg ++ [121]).all (fun c => decide (c < 1114112)) && (decide (allB (sg ++ [121]) sg = false) && okB (.str (S (sg ++ [121])))))) = true := by decide +kernel
  have h2 := List.all_eq_true.mp h1 sg h
  obtain ⟨a, h2⟩ := Bool.and_eq_true_iff.mp h2
  obtain ⟨b, h2⟩ := Bool.and_eq_true_iff.mp h2
  obtain ⟨c, d⟩ := Bool.and_eq_true_iff.mp h2
  exact ⟨of_decide_eq_true a, fun x hx => of_decide_eq_true (List.all_eq_true.mp b x hx), of_decide_eq_true c, d⟩
theorem odd_ok {K : PySem.W.Frag} {H : Hp} {D C p6 p7 p8 p9 : Addr} (o : OddAt K H D C p6 p7 p8 p9) {sg : List Nat} (hs : sg ∈ menuW) : ∀ v ∈ oddV p6 p7 p8 p9 sg, BadV K H sg v ∧ ∃ d, Dg K H v d ∧ ShowOk (.list [badD d, badD d]) := by
  intro v hv
  unfold oddV at hv
  simp only [List.mem_cons, List.not_mem_nil, or_false] at hv
  rcases hv with rfl | rfl | rfl | rfl | rfl | rfl | rfl | rfl | rfl | rfl | rfl | rfl | rfl | rfl | rfl
  · exact ⟨nov_of (.base .non) (by decide) (by decide), _, .non, ok_of (by decide +kernel)⟩
  · exact ⟨nov_of (.base (.int _)) (by decide) (by decide), _, .int _, ok_of (by decide +kernel)⟩
  · exact ⟨nov_of (.base (.bl _)) (by decide) (by decide), _, .bl _, ok_of (by decide +kernel)⟩
  · exact ⟨badv_of [65] (by decide +kernel) (by decide +kernel) (by decide) (by decide) hs, _, .str _, ok_of (by decide +kernel)⟩
  · exact ⟨badv_of [99] (by decide +kernel) (by decide +kernel) (by decide) (by decide) hs, _, .str _, ok_of (by decide +kernel)⟩
  · exact ⟨badv_of [97, 32] (by decide +kernel) (by decide +kernel) (by decide) (by decide) hs, _, .str _, ok_of (by decide +kernel)⟩
  · exact ⟨badv_of [45] (by decide +kernel) (by decide +kernel) (by decide) (by decide) hs, _, .str _, ok_of (by decide +kernel)⟩
  · exact ⟨badv_of [97, 113] (by decide +kernel) (by decide +kernel) (by decide) (by decide) hs, _, .str _, ok_of (by decide +kernel)⟩
  · exact ⟨nov_of (ty_tup o.t6) (by decide) (by decide), _, .tup o.t6 (.cons (.str _) .nil), ok_of (by decide +kernel)⟩
  · exact ⟨nov_of (ty_list (SqL.of o.t7)) (by decide) (by decide), _, .lst o.n7 (SqL.of o.t7) (.cons (.str _) .nil), ok_of (by decide +kernel)⟩
  · exact ⟨nov_of (.base (.dK o.t8)) (by decide) (by decide), _, .dct o.t8 .nil, ok_of (by decide +kernel)⟩
  · exact ⟨nov_of (ty_tup o.t9) (by decide) (by decide), _, .tup o.t9 .nil, ok_of (by decide +kernel)⟩
  · exact ⟨nov_of (.base (.int _)) (by decide) (by decide), _, .int _, ok_of (by decide +kernel)⟩
  · exact ⟨badv_of [97, 10] (by decide +kernel) (by decide +kernel) (by decide) (by decide) hs, _, .str _, ok_of (by decide +kernel)⟩
  · obtain ⟨a, b, c, d⟩ := last_ok sg hs
    exact ⟨Or.inl ⟨_, rfl, a, b, c⟩, _, .str _, ok_of d⟩
def GoodV (sg l : List Nat) (v : V) : Prop := v = .str (S l) ∧ (∀ c ∈ l, c ∈ sg) ∧ l.length ≤ 4
def BadA (K : PySem.W.Frag) (H : Hp) (sg : List Nat) (v : V) : Prop := ∀ H', Same H H' → BadV K H' sg v
theorem BadA.same {K : PySem.W.Frag} {H H' : Hp} {sg : List Nat} {v : V} (h : BadA K H sg v) (e : Same H H') : BadA K H' sg v := fun H2 s => h H2 (e.trans s)
def ValAt (p6 p7 p8 p9 : Addr) (sg : List Nat) (v : V) : Prop := v ∈ oddV p6 p7 p8 p9 sg ∨ ∃ l, GoodV sg l v
/-- what both sides tell -/
def Res (K : PySem.W.Frag) (H : Hp) (sg : List Nat) (gs : List Fd) (v u : V) (D : PyData) : Prop :=
  (∃ l row, GoodV sg l v ∧ GoodV sg row u ∧ D = .str (S (ledM gs l row))) ∨ (BadA K H sg v ∧ ∃ d, Dg K H v d ∧ D = badD d) ∨ ((∃ l, GoodV sg l v) ∧ BadA K H sg u ∧ ∃ d, Dg K H u d ∧ D = badD d)
def ResY (K : PySem.W.Frag) (H : Hp) (sg : List Nat) (gs : List Fd) (v : V) (y : Nat) (D : PyData) : Prop :=
  (∃ l, GoodV sg l v ∧ D = .str (S (ledM gs l [y]))) ∨ (BadA K H sg v ∧ ∃ d, Dg K H v d ∧ D = badD d)
theorem ResY.to {K : PySem.W.Frag} {H : Hp} {sg : List Nat} {gs : List Fd} {v : V} {y : Nat} {D : PyData} (h : ResY K H sg gs v y D) (hy : y ∈ sg) : Res K H sg gs v (.str (S [y])) D := by
  rcases h with ⟨l, h1, h2⟩ | h
  · refine Or.inl ⟨l, [y], h1, ⟨rfl, fun c hc => ?_, (by show 1 ≤ 4; decide)⟩, h2⟩
    rw [List.mem_singleton.mp hc]
    exact hy
  · exact Or.inr (Or.inl h)
theorem Res.same {K : PySem.W.Frag} {H H' : Hp} {sg : List Nat} {gs : List Fd} {v u : V} {D : PyData} (h : Res K H sg gs v u D) (e : Same H H') : Res K H' sg gs v u D := by
  rcases h with h | ⟨h1, d, h2, h3⟩ | ⟨h0, h1, d, h2, h3⟩
  · exact Or.inl h
  · exact Or.inr (Or.inl ⟨h1.same e, d, h2.same e, h3⟩)
  · exact Or.inr (Or.inr ⟨h0, h1.same e, d, h2.same e, h3⟩)
theorem ResY.same {K : PySem.W.Frag} {H H' : Hp} {sg : List Nat} {gs : List Fd} {v : V} {y : Nat} {D : PyData} (h : ResY K H sg gs v y D) (e : Same H H') : ResY K H' sg gs v y D := by
  rcases h with h | ⟨h1, d, h2, h3⟩
  · exact Or.inl h
  · exact Or.inr ⟨h1.same e, d, h2.same e, h3⟩
theorem text_ok {sg w : List Nat} (s : SgOk sg) (h1 : ∀ c ∈ w, c ∈ sg) (h2 : w.length ≤ 1000) : ShowOk (.list [.str (S w), .str (S w)]) := by
  have hl : (PyData.str (S w)).canLay0 = true := by
    show (w.toArray : Array Nat).all (fun d => decide (d < 1114112)) = true
    rw [List.all_toArray]
    refine List.all_eq_true.mpr fun c hc => decide_eq_true ?_
    have := s.low c (h1 c hc)
    omega
  refine ⟨rfl, by show max 0 (max 0 0) + 1 ≤ 40; decide, shown_fits ?_ ?_ ?_ rfl⟩
  · show (_ && (_ && true)) = true
    rw [hl]
    rfl
  · show max 0 (max 0 0) + 1 ≤ 64
    decide
  · show (S w).length + 1 + ((S w).length + 1 + 0) ≤ 1000000
    rw [SX.S_len]
    omega
section
variable {K : PySem.W.Frag} {H : Hp} {D C p6 p7 p8 p9 : Addr} {sg : List Nat} {gs fs : List Fd} {v u : V}
theorem bad_all (o : OddAt K H D C p6 p7 p8 p9) (hs : sg ∈ menuW) (hv : v ∈ oddV p6 p7 p8 p9 sg) : BadA K H sg v := fun _ s => (odd_ok (o.same s) hs v hv).1
theorem res_of (o : OddAt K H D C p6 p7 p8 p9) (hm : sg ∈ menuW) (hgs : GsOk sg gs) (hv : ValAt p6 p7 p8 p9 sg v) (hu : ValAt p6 p7 p8 p9 sg u) : ∃ E, Res K H sg gs v u E ∧ ShowOk (.list [E, E]) := by
  rcases hv with hv | ⟨l, hl⟩
  · obtain ⟨_, d, h1, h2⟩ := odd_ok o hm v hv
    exact ⟨badD d, Or.inr (Or.inl ⟨bad_all o hm hv, d, h1, rfl⟩), h2⟩
  · rcases hu with hu | ⟨row, hr⟩
    · obtain ⟨_, d, h1, h2⟩ := odd_ok o hm u hu
      exact ⟨badD d, Or.inr (Or.inr ⟨⟨l, hl⟩, bad_all o hm hu, d, h1, rfl⟩), h2⟩
    · refine ⟨_, Or.inl ⟨l, row, hl, hr, rfl⟩, text_ok (menu_ok sg hm).1 (led_in hgs hl.2.1 hr.2.1) ?_⟩
      have h1 := ledz_len hgs.z row l
      have h2 := hl.2.2
      have h3 := hr.2.2
      omega
theorem resY_of (o : OddAt K H D C p6 p7 p8 p9) (hm : sg ∈ menuW) (hgs : GsOk sg gs) (hv : ValAt p6 p7 p8 p9 sg v) {y : Nat} (hy : y ∈ sg) : ∃ E, ResY K H sg gs v y E ∧ ShowOk (.list [E, E]) := by
  rcases hv with hv | ⟨l, hl⟩
  · obtain ⟨_, d, h1, h2⟩ := odd_ok o hm v hv
    exact ⟨badD d, Or.inr ⟨bad_all o hm hv, d, h1, rfl⟩, h2⟩
  · refine ⟨_, Or.inl ⟨l, hl, rfl⟩, text_ok (menu_ok sg hm).1 (led_in hgs hl.2.1 (row := [y]) fun c hc => by rw [List.mem_singleton.mp hc]; exact hy) ?_⟩
    have h1 := ledz_len hgs.z [y] l
    have h2 := hl.2.2
    have h3 : [y].length = 1 := rfl
    omega
theorem GoodV.gw (s : SgOk sg) {l : List Nat} (h : GoodV sg l v) : GW sg v l := ⟨h.1, by have := h.2.2; omega, fun c hc => by have := s.low c (h.2.1 c hc); omega, allB_of h.2.1⟩
theorem GoodV.wg {l : List Nat} (h : GoodV sg l v) : WebGood sg v l := ⟨h.1, h.2.1, by have := h.2.2; omega⟩
theorem BadA.s (h : BadA K H sg v) : BadS K H sg v := fun H' s => by
  rcases h H' s with ⟨l, h1, h2, h3, h4⟩ | h
  · exact Or.inl ⟨l, h1, h2, h4⟩
  · exact Or.inr h
theorem dg_bad {p : Addr} {d : PyData} (hne : p ≠ sysModules) (e : H p = some (.lst [.str "bad", v, .bl true])) (hd : Dg K H v d) : Dg K H (.ref p) (badD d) :=
  .lst hne (SqL.of e) (.cons (.str _) (.cons hd (.cons (.bl true) .nil)))
theorem due_any {wd ld : Addr} {E : PyData} {Q : VK} {X : XK} (hw : WAt H wd ld sg gs) (hgs : GsOk sg gs) (s : SgOk sg) (h : Res K H sg gs v u E) (q : ∀ H' x, Same H H' → Dg K H' x E → Q x H') : spLawDue K [.ref wd, v, u] H Q X := by
  refine ⟨wd, ld, sg, gs, v, u, rfl, hw, hgs.z, ?_⟩
  rcases h with ⟨l, row, h1, h2, rfl⟩ | ⟨h1, d, h2, rfl⟩ | ⟨⟨l, h0⟩, h1, d, h2, rfl⟩
  · exact Or.inl ⟨l, row, h1.gw s, h2.gw s, fun H' s' => q H' _ s' (.str _)⟩
  · exact Or.inr (Or.inl ⟨h1, fun H' p s' hne e => q H' _ s' (dg_bad hne e (h2.same s'))⟩)
  · exact Or.inr (Or.inr ⟨l, h0.gw s, h1, fun H' p s' hne e => q H' _ s' (dg_bad hne e (h2.same s'))⟩)
theorem heard_any {B r fa ta : Addr} {E : PyData} {Q : VK} {X : XK} (way : Nat) (hway : way < 2) (hb : BkAt H B r sg fs fa ta) (hfs : FsOk sg fs) (hgs : GsOk sg gs) (hp : fs.Perm gs) (h : Res K H sg gs v u E) (q : ∀ H' x, Same H H' → Dg K H' x E → Q x H') :
    spHeard K B [.ref r, v, u, .int (way : Nat)] H Q X := by
  refine ⟨way, r, fa, ta, sg, fs, v, u, rfl, by omega, hb, hfs, fun _ => ?_, fun z => absurd z (by omega)⟩
  rcases h with ⟨l, row, h1, h2, rfl⟩ | ⟨h1, d, h2, rfl⟩ | ⟨⟨l, h0⟩, h1, d, h2, rfl⟩
  · refine Or.inl ⟨l, row, h1.wg, h2.wg, fun H' s' => ?_⟩
    rw [led_eq hgs.nd hp]
    exact q H' _ s' (.str _)
  · exact Or.inr (Or.inl ⟨h1.s, fun H' p s' hne e => q H' _ s' (dg_bad hne e (h2.same s'))⟩)
  · exact Or.inr (Or.inr ⟨⟨l, h0.wg⟩, h1.s, fun H' p s' hne e => q H' _ s' (dg_bad hne e (h2.same s'))⟩)
theorem heard_anyY {B r fa ta : Addr} {E : PyData} {Q : VK} {X : XK} {y : Nat} (way : Nat) (h2 : 2 ≤ way) (h4 : way < 4) (hb : BkAt H B r sg fs fa ta) (hfs : FsOk sg fs) (hgs : GsOk sg gs) (hp : fs.Perm gs) (h : ResY K H sg gs v y E) (q : ∀ H' x, Same H H' → Dg K H' x E → Q x H') :
    spHeard K B [.ref r, v, .str (S [y]), .int (way : Nat)] H Q X := by
  refine ⟨way, r, fa, ta, sg, fs, v, _, rfl, by omega, hb, hfs, fun z => absurd z (by omega), fun _ => ⟨y, rfl, ?_⟩⟩
  rcases h with ⟨l, h1, rfl⟩ | ⟨h1, d, h2, rfl⟩
  · refine Or.inl ⟨l, h1.wg, fun H' s' => ?_⟩
    rw [laid_eq hgs.nd hp]
    exact q H' _ s' (.str _)
  · exact Or.inr ⟨h1.s, fun H' p s' hne e => q H' _ s' (dg_bad hne e (h2.same s'))⟩
def WordIs (K : PySem.W.Frag) (H : Hp) (sg : List Nat) (v : V) (b : Bool) : Prop := ((∃ l, GoodV sg l v) ∧ b = true) ∨ (BadA K H sg v ∧ b = false)
theorem WordIs.same {H' : Hp} {b : Bool} (h : WordIs K H sg v b) (e : Same H H') : WordIs K H' sg v b := by
  rcases h with h | ⟨h1, h2⟩
  · exact Or.inl h
  · exact Or.inr ⟨h1.same e, h2⟩
theorem word_of (o : OddAt K H D C p6 p7 p8 p9) (hm : sg ∈ menuW) (hv : ValAt p6 p7 p8 p9 sg v) : ∃ b, WordIs K H sg v b := by
  rcases hv with hv | h
  · exact ⟨false, Or.inr ⟨bad_all o hm hv, rfl⟩⟩
  · exact ⟨true, Or.inl ⟨h, rfl⟩⟩
theorem word_any {b : Bool} {Q : VK} {X : XK} (h : WordIs K H sg v b) (q : ∀ H', Same H H' → Q (.bl b) H') : spWord K [.str (S sg), v] H Q X := by
  refine ⟨sg, v, rfl, ?_⟩
  rcases h with ⟨⟨l, h⟩, rfl⟩ | ⟨h, rfl⟩
  · refine Or.inl ⟨l, h.1, by have := h.2.2; omega, fun H' s' => ?_⟩
    rw [allB_of h.2.1]
    exact q H' s'
  · rcases h H (Same.refl H) with ⟨l, h1, h2, h3, h4⟩ | h
    · refine Or.inl ⟨l, h1, by omega, fun H' s' => ?_⟩
      rw [h4]
      exact q H' s'
    · exact Or.inr ⟨h, q⟩
theorem isweb_any {b : Bool} {Q : VK} {X : XK} (s : SgOk sg) (h : WordIs K H sg v b) (q : ∀ H', Same H H' → Q (.bl b) H') : spLawIsWeb K [.str (S sg), v] H Q X := by
  refine ⟨sg, v, rfl, ?_⟩
  rcases h with ⟨⟨l, h⟩, rfl⟩ | ⟨h, rfl⟩
  · refine Or.inl ⟨l, h.1, by have := h.2.2; omega, (h.gw s).2.2.1, fun H' s' => ?_⟩
    rw [allB_of h.2.1]
    exact q H' s'
  · rcases h H (Same.refl H) with ⟨l, h1, h2, h3, h4⟩ | h
    · refine Or.inl ⟨l, h1, by omega, h3, fun H' s' => ?_⟩
      rw [h4]
      exact q H' s'
    · exact Or.inr ⟨h, q⟩
end
end Lw

namespace Lw
open PySem PySem.Spec PyProof.Rows L2 Mq
open SX (S)
/-- a thing that is drawn: one that is no web, or a web -/
def tDrawn : TE := fun σ H Q => ∃ (D C : Addr) (T : Nat) (wd ld ps p6 p7 p8 p9 : Addr) (sg : List Nat) (gs : List Fd), σ[0]? = some (some (.ref D)) ∧ σ[1]? = some (some (.ref wd)) ∧ σ[3]? = some (some (.ref ps)) ∧ DeckAt D C T H ∧ T ≤ 800000 ∧
  WAt H wd ld sg gs ∧ SgOk sg ∧ H ps = some (.lst (oddV p6 p7 p8 p9 sg)) ∧ (ps ≠ D ∧ ps ≠ C) ∧
  ∀ H' v, ValAt p6 p7 p8 p9 sg v → DeckAt D C (T + 6) H' → Off D C H H' → Q v H'
def spRefused (K : PySem.W.Frag) (C : Addr) : Sp := fun vs H Q _ => ∃ (D Cc : Addr) (T : Nat) (wd ld r fa ta : Addr) (sg : List Nat) (gs fs : List Fd), vs = [.ref D, .ref wd, .ref r] ∧ DeckAt D Cc T H ∧ T ≤ 700000 ∧
  WAt H wd ld sg gs ∧ GsOk sg gs ∧ sg ∈ menuW ∧ fs.Perm gs ∧ FsOk sg fs ∧ BkAt H C r sg fs fa ta ∧ ∀ H', DeckAt D Cc (T + 80) H' → Off D Cc H H' → Q (.bl true) H'
theorem bools_ok (b : Bool) : ShowOk (.list [.bool b, .bool b]) ∧ (PyData.list [.bool b, .bool b]).hasDict = false := by
  cases b
  · exact ⟨⟨by decide +kernel, by decide +kernel, by decide +kernel⟩, by decide +kernel⟩
  · exact ⟨⟨by decide +kernel, by decide +kernel, by decide +kernel⟩, by decide +kernel⟩
section
variable {P : Program} {w : World} {K : PySem.W.Frag} {mg : Str → Option Value} {base : Heap} {C CW : Addr}
theorem ok_refused {f fE fD fP fT fV fW fI : Addr} {fd fdE fdD fdP fdT fdV fdW fdI : FuncData} (F : Fun K "_law_refused_right" "_law_refused_right" s__law_refused_right f fd) (B : Blt mg)
    (FE : Fun K "_law_heard" "_law_heard" s__law_heard fE fdE) (gE : mg "_law_heard" = some (.ref fE)) (bE : Binds K fdE ["_law_code_here", "_law_web_here", "_law_row", "_law_way"] []) (GE : FnG P w K mg base CX0 6 fE fdE ["_law_code_here", "_law_web_here", "_law_row", "_law_way"] (spHeard K C))
    (FD : Fun K "_law_draw" "_law_draw" s__law_draw fD fdD) (gD : mg "_law_draw" = some (.ref fD)) (bD : Binds K fdD ["_law_deck_here", "_law_below"] []) (GD : FnOk P w K mg base CX0 1 fD fdD ["_law_deck_here", "_law_below"] spDraw)
    (FP : Fun K "_law_pick" "_law_pick" s__law_pick fP fdP) (gP : mg "_law_pick" = some (.ref fP)) (bP : Binds K fdP ["_law_deck_here", "_law_some"] []) (GP : FnOk P w K mg base CX0 2 fP fdP ["_law_deck_here", "_law_some"] spPick)
    (FT : Fun K "_law_web" "_law_web" s__law_web fT fdT) (gT : mg "_law_web" = some (.ref fT)) (bT : Binds K fdT ["_law_deck_here", "_law_w", "_law_most"] []) (GT : FnOk P w K mg base CX0 3 fT fdT ["_law_deck_here", "_law_w", "_law_most"] spLawWeb)
    (FV : Fun K "_law_due" "_law_due" s__law_due fV fdV) (gV : mg "_law_due" = some (.ref fV)) (bV : Binds K fdV ["_law_w", "_law_web_here", "_law_row"] []) (GV : FnOk P w K mg base CX0 3 fV fdV ["_law_w", "_law_web_here", "_law_row"] (spLawDue K))
    (FW : Fun K "is_web" "is_web" s_is_web fW fdW) (gW : mg "is_web" = some (.ref fW)) (bW : Binds K fdW ["letters", "thing"] []) (kW : KBn K fdW ["letters", "thing"] 0 ["thing", "letters"] rev0 rev0) (GWb : FnOk P w K mg base CX0 2 fW fdW ["letters", "thing"] (spWord K))
    (FI : Fun K "_law_is_web" "_law_is_web" s__law_is_web fI fdI) (gI : mg "_law_is_web" = some (.ref fI)) (bI : Binds K fdI ["_law_letters", "_law_it"] []) (GI : FnOk P w K mg base CX0 1 fI fdI ["_law_letters", "_law_it"] (spLawIsWeb K)) :
    FnG P w K mg base CX0 7 f fd ["_law_deck_here", "_law_w", "_law_code_here"] (spRefused K C) := by
  refine Mq.Fun.okG F sc__law_refused_right (fun vs H Q E h => ?_) (fun cdv A outer s H vs Q E gA hr h => ?_)
  · obtain ⟨_, _, _, _, _, _, _, _, _, _, _, rfl, _⟩ := h
    rfl
  · obtain ⟨D, Cc, T, wd, ld, r, fa, ta, sg, gs, fs, rfl, hdk, hT, hw, hgs, hm, hp, hfs, hbk, q⟩ := h
    have hu1 : (A.deeper (envOfC "_law_refused_right" (defScope s__law_refused_right) s.heap.objs.size f cdv)).units + 1 < cLine := by
      have := hr.units
      omega
    have hr6 : Room 6 (A.deeper (envOfC "_law_refused_right" (defScope s__law_refused_right) s.heap.objs.size f cdv)) := hr
    have dr : ∀ (tD tP tT : TE) (σ : L2.St) (H : Hp) (Q : VK), True := fun _ _ _ _ _ _ => trivial
    refine ⟨_, (pss_cons (ps_set (i := 3) sc__law_refused_right.nd rfl (Or.inl rfl) (Mq.pe_ls (pa_cons pe_non (pa_cons pe_int (pa_cons pe_bl (pa_cons pe_str (pa_cons pe_str (pa_cons pe_str (pa_cons pe_str (pa_cons pe_str (pa_cons (pe_tup (pa_cons pe_str pa_nil)) (pa_cons (Mq.pe_ls (pa_cons pe_str pa_nil)) (pa_cons pe_dnewK (pa_cons (pe_tup pa_nil) (pa_cons (pe_op op_pow pe_int pe_int) (pa_cons pe_str (pa_cons (pe_op op_add_str (pe_dget hu1 (pv 1) pe_str (fun _ _ => rfl)) pe_str) pa_nil)))))))))))))))))
      (pss_cons (ps_for (passes_of rfl) rfl (pi_range1 (by rfl) B.range (pa_cons pe_int pa_nil)) (pg_name (i := 4) sc__law_refused_right.nd rfl (Or.inl rfl))
        (pss_cons (ps_set (i := 5) sc__law_refused_right.nd rfl (Or.inl rfl) (PE_imp (t' := tDrawn) (pe_ifExp (pt_cmpR op_eq (pe_call GD (hr.mono (by decide)) (by rfl) gD FD.kp bD .nil pass0 (pa_cons (pv 0) (pa_cons pe_int pa_nil))) pe_int (nomark _)) (pe_call GP (hr.mono (by decide)) (by rfl) gP FP.kp bP .nil pass0 (pa_cons (pv 0) (pa_cons (pv 3) pa_nil))) (pe_call GT (hr.mono (by decide)) (by rfl) gT FT.kp bT .nil pass0 (pa_cons (pv 0) (pa_cons (pv 1) (pa_cons pe_int pa_nil))))) (fun σ H Q h => by
            obtain ⟨D, C, T, wd, ld, ps, p6, p7, p8, p9, sg, gs, h0, h1, h3, hdk, hT, hw, hs, hps, hn, q⟩ := h
            exact ⟨_, h0, D, C, T, 2, rfl, hdk, by omega, by decide, by decide, fun H1 r hr dk1 off1 => ⟨rfl, _, rfl, ite2
              (fun _ => ⟨_, h0, _, h3, D, C, _, .ref ps, rfl, dk1, by omega, Or.inr ⟨ps, _, rfl, off1 _ _ hn.1 hn.2 hps, hn.2, Nat.zero_lt_succ _, by show 15 ≤ 1000; decide, fun H2 v hv dk2 off2 => q H2 v (Or.inl hv) (dk2.mono (by omega)) (off1.trans off2)⟩⟩)
              (fun _ => ⟨_, h0, _, h1, D, C, _, 4, wd, ld, sg, gs, rfl, dk1, by omega, hw.off off1 hdk, hs.pos, by have := hs.few; omega, by decide, fun H2 l hl1 hl2 dk2 off2 => q H2 _ (Or.inr ⟨l, rfl, hl1, hl2⟩) (dk2.mono (by omega)) (off1.trans off2)⟩)⟩⟩)))
        (pss_cons (ps_set (i := 6) sc__law_refused_right.nd rfl (Or.inl rfl) (PE_imp (t' := tDrawn) (pe_ifExp (pt_cmpR op_eq (pe_call GD (hr.mono (by decide)) (by rfl) gD FD.kp bD .nil pass0 (pa_cons (pv 0) (pa_cons pe_int pa_nil))) pe_int (nomark _)) (pe_call GP (hr.mono (by decide)) (by rfl) gP FP.kp bP .nil pass0 (pa_cons (pv 0) (pa_cons (pv 3) pa_nil))) (pe_call GT (hr.mono (by decide)) (by rfl) gT FT.kp bT .nil pass0 (pa_cons (pv 0) (pa_cons (pv 1) (pa_cons pe_int pa_nil))))) (fun σ H Q h => by
            obtain ⟨D, C, T, wd, ld, ps, p6, p7, p8, p9, sg, gs, h0, h1, h3, hdk, hT, hw, hs, hps, hn, q⟩ := h
            exact ⟨_, h0, D, C, T, 2, rfl, hdk, by omega, by decide, by decide, fun H1 r hr dk1 off1 => ⟨rfl, _, rfl, ite2
              (fun _ => ⟨_, h0, _, h3, D, C, _, .ref ps, rfl, dk1, by omega, Or.inr ⟨ps, _, rfl, off1 _ _ hn.1 hn.2 hps, hn.2, Nat.zero_lt_succ _, by show 15 ≤ 1000; decide, fun H2 v hv dk2 off2 => q H2 v (Or.inl hv) (dk2.mono (by omega)) (off1.trans off2)⟩⟩)
              (fun _ => ⟨_, h0, _, h1, D, C, _, 4, wd, ld, sg, gs, rfl, dk1, by omega, hw.off off1 hdk, hs.pos, by have := hs.few; omega, by decide, fun H2 l hl1 hl2 dk2 off2 => q H2 _ (Or.inr ⟨l, rfl, hl1, hl2⟩) (dk2.mono (by omega)) (off1.trans off2)⟩)⟩⟩)))
        (pss_cons (ps_set (i := 7) sc__law_refused_right.nd rfl (Or.inl rfl) (pe_call GV (hr.mono (by decide)) (by rfl) gV FV.kp bV .nil pass0 (pa_cons (pv 1) (pa_cons (pv 5) (pa_cons (pv 6) pa_nil)))))
        (pss_cons (ps_if (pt_cmpR op_ne (pe_callB (call_rep hr gA) (by rfl) B.repr (by decide +kernel) (pa_cons (Mq.pe_ls (pa_cons (Mq.pe_callG GE gA hr6 (by rfl) gE FE.kp bE pass0 (pa_cons (pv 2) (pa_cons (pv 5) (pa_cons (pv 6) (pa_cons pe_int pa_nil))))) (pa_cons (Mq.pe_callG GE gA hr6 (by rfl) gE FE.kp bE pass0 (pa_cons (pv 2) (pa_cons (pv 5) (pa_cons (pv 6) (pa_cons pe_int pa_nil))))) pa_nil))) pa_nil)) (pe_callB (call_rep hr gA) (by rfl) B.repr (by decide +kernel) (pa_cons (Mq.pe_ls (pa_cons (pv 7) (pa_cons (pv 7) pa_nil))) pa_nil)) (nomark _)) (pss_one (ps_ret pe_bl)) pss_nil)
        (pss_cons (ps_set (i := 8) sc__law_refused_right.nd rfl (Or.inl rfl) (pe_call GP (hr.mono (by decide)) (by rfl) gP FP.kp bP .nil pass0 (pa_cons (pv 0) (pa_cons (pe_dget hu1 (pv 1) pe_str (fun _ _ => rfl)) pa_nil))))
        (pss_cons (ps_set (i := 7) sc__law_refused_right.nd rfl (Or.inl rfl) (pe_call GV (hr.mono (by decide)) (by rfl) gV FV.kp bV .nil pass0 (pa_cons (pv 1) (pa_cons (pv 5) (pa_cons (pv 8) pa_nil)))))
        (pss_cons (ps_if (pt_cmpR op_ne (pe_callB (call_rep hr gA) (by rfl) B.repr (by decide +kernel) (pa_cons (Mq.pe_ls (pa_cons (Mq.pe_callG GE gA hr6 (by rfl) gE FE.kp bE pass0 (pa_cons (pv 2) (pa_cons (pv 5) (pa_cons (pv 8) (pa_cons pe_int pa_nil))))) (pa_cons (Mq.pe_callG GE gA hr6 (by rfl) gE FE.kp bE pass0 (pa_cons (pv 2) (pa_cons (pv 5) (pa_cons (pv 8) (pa_cons pe_int pa_nil))))) pa_nil))) pa_nil)) (pe_callB (call_rep hr gA) (by rfl) B.repr (by decide +kernel) (pa_cons (Mq.pe_ls (pa_cons (pv 7) (pa_cons (pv 7) pa_nil))) pa_nil)) (nomark _)) (pss_one (ps_ret pe_bl)) pss_nil)
        (pss_cons (ps_set (i := 9) sc__law_refused_right.nd rfl (Or.inl rfl) (Mq.pe_ls (pa_cons (pe_call GWb (hr.mono (by decide)) (by rfl) gW FW.kp bW .nil pass0 (pa_cons (pe_dget hu1 (pv 1) pe_str (fun _ _ => rfl)) (pa_cons (pv 5) pa_nil))) (pa_cons (pe_callK0 (E := fun _ _ _ _ => False) GWb (hr.mono (by decide)) (by rfl) gW FW.kp kW (fun _ => cx0_at) (pk_cons (pv 5) (pk_cons (pe_dget hu1 (pv 1) pe_str (fun _ _ => rfl)) pk_nil))) pa_nil))))
        (pss_one (ps_if (pt_cmpR op_ne (pe_callB (call_rep hr gA) (by rfl) B.repr (by decide +kernel) (pa_cons (pv 9) pa_nil)) (pe_callB (call_repP hr gA) (by rfl) B.repr (by decide +kernel) (pa_cons (pe_op op_rep (Mq.pe_ls (pa_cons (pe_call GI (hr.mono (by decide)) (by rfl) gI FI.kp bI .nil pass0 (pa_cons (pe_dget hu1 (pv 1) pe_str (fun _ _ => rfl)) (pa_cons (pv 5) pa_nil))) pa_nil)) pe_int) pa_nil)) (nomark _)) (pss_one (ps_ret pe_bl)) pss_nil)))))))))))
      (pss_one (ps_ret pe_bl)))), ?_⟩
    obtain ⟨hs, _, _⟩ := menu_ok sg hm
    have hs0 := hs.pos
    have hs1 := hs.few
    refine ⟨sz_le (n := 1) (by decide), fun p6 hp6 => ?_⟩
    have s1 := same_new (o := HO.tup [V.str "a"]) hp6
    have z6 : SqT K (upd H p6 (.tup [V.str "a"])) p6 [V.str "a"] := Or.inl (Or.inl upd_same)
    generalize upd H p6 (.tup [V.str "a"]) = G1 at s1 z6 ⊢
    refine ⟨sz_le (n := 1) (by decide), fun p7 hp7 hn7 => ?_⟩
    have n7 := new_ne (hdk.same s1) hp7
    have t2 := same_new (o := HO.lst [V.str "a"]) hp7
    have z7 : upd G1 p7 (.lst [V.str "a"]) p7 = some (.lst [V.str "a"]) := upd_same
    have z6 := Same.tup t2 z6
    have s2 := s1.trans t2
    generalize upd G1 p7 (.lst [V.str "a"]) = G2 at s2 z6 z7 ⊢
    refine fun p8 hp8 => ?_
    have n8 := new_ne (hdk.same s2) hp8
    have t3 := same_new (o := HO.dK []) hp8
    have z8 : upd G2 p8 (.dK []) p8 = some (.dK []) := upd_same
    have z6 := Same.tup t3 z6
    have z7 := t3 _ _ z7
    have s3 := s2.trans t3
    generalize upd G2 p8 (.dK []) = G3 at s3 z6 z7 z8 ⊢
    refine ⟨sz_le (n := 0) (by decide), fun p9 hp9 => ?_⟩
    have t4 := same_new (o := HO.tup []) hp9
    have z9 : SqT K (upd G3 p9 (.tup [])) p9 [] := Or.inl (Or.inl upd_same)
    have od : OddAt K (upd G3 p9 (.tup [])) D Cc p6 p7 p8 p9 := ⟨Same.tup t4 z6, t4 _ _ z7, hn7, t4 _ _ z8, z9, n7, n8⟩
    have s4 := s3.trans t4
    generalize upd G3 p9 (.tup []) = G4 at s4 od ⊢
    refine ⟨_, _, rfl, rfl, ⟨by decide, by decide, by decide⟩, ?_⟩
    have ey : (S sg ++ "y" : Str) = S (sg ++ [121]) := by
      rw [show ("y" : Str) = S [121] by decide +kernel, SX.S_cat]
    refine ⟨_, rfl, wd, _, rfl, DGet.k (k := .inr "letters") (hw.same s4).w, S sg, "y", rfl, rfl, ?_, ?_⟩
    · rw [SX.S_len]
      exact Nat.le_trans (Nat.add_le_add hs1 (by decide : ("y" : Str).length ≤ 1)) (by decide)
    rw [ey]
    refine ⟨sz_le (n := 15) (by decide), fun ps hps hnps => ?_⟩
    have nps := new_ne (hdk.same s4) hps
    have t5 := same_new (o := HO.lst (oddV p6 p7 p8 p9 sg)) hps
    have zps : upd G4 ps (.lst (oddV p6 p7 p8 p9 sg)) ps = some (.lst (oddV p6 p7 p8 p9 sg)) := upd_same
    have od5 := od.same t5
    have s5 := s4.trans t5
    refine ⟨5, rfl, by decide, by decide, ?_⟩
    have off5 : Off D Cc H (upd G4 ps (.lst (oddV p6 p7 p8 p9 sg))) := Off.same s5
    have dk5 := hdk.same s5
    have hw5 := hw.same s5
    have hbk5 := hbk.same s5
    refine for_it (walk_rng (n := 5)) (fun go σ H' => DeckAt D Cc (T + 13 * go) H' ∧ Off D Cc H H' ∧ WAt H' wd ld sg gs ∧ BkAt H' C r sg fs fa ta ∧ OddAt K H' D Cc p6 p7 p8 p9 ∧ H' ps = some (.lst (oddV p6 p7 p8 p9 sg)) ∧
      ∃ o4 o5 o6 o7 o8 o9, σ = [some (.ref D), some (.ref wd), some (.ref r), some (.ref ps), o4, o5, o6, o7, o8, o9]) ⟨dk5, off5, hw5, hbk5, od5, zps, _, _, _, _, _, _, rfl⟩ (fun _ _ _ _ _ => trivial) ?_ ?_
    · rintro go x0 σ H6 H6' hgo ⟨dk6, off6, hw6, hbk6, od6, zp6, o4, o5, o6, o7, o8, o9, rfl⟩ ⟨rfl, rfl⟩
      refine ⟨D, Cc, _, wd, ld, ps, p6, p7, p8, p9, sg, gs, rfl, rfl, rfl, dk6, by omega, hw6, hs, zp6, nps, fun H7 v hv dk7 off7 => ?_⟩
      have zp7 := off7 _ _ nps.1 nps.2 zp6
      have hw7 := hw6.off off7 dk6
      refine ⟨D, Cc, _, wd, ld, ps, p6, p7, p8, p9, sg, gs, rfl, rfl, rfl, dk7, by omega, hw7, hs, zp7, nps, fun H8 u hu dk8 off8 => ?_⟩
      have zp8 := off8 _ _ nps.1 nps.2 zp7
      have hw8 := hw7.off off8 dk7
      have hbk8 := (hbk6.off off7 dk6).off off8 dk7
      have od8 := (od6.off off7 dk6).off off8 dk7
      have off08 := (off6.trans off7).trans off8
      obtain ⟨E1, res, ok⟩ := res_of od8 hm hgs hv hu
      clear zp7 hw7 off7 dk7 zp6 hw6 hbk6 od6 dk6 off6 off8
      refine ⟨_, rfl, _, rfl, _, rfl, ?_⟩
      try dsimp only [tNil, tCons, tC]
      show spLawDue K [V.ref wd, v, u] H8 _ _
      refine due_any hw8 hgs hs res (fun H9 x s9 hx => ?_)
      have res9 := res.same s9
      have hbk9 := hbk8.same s9
      refine ⟨_, rfl, _, rfl, _, rfl, ?_⟩
      try dsimp only [tNil, tCons, tC]
      show spHeard K C [V.ref r, v, u, V.int ((0 : Nat) : Int)] H9 _ _
      refine heard_any 0 (by decide) hbk9 hfs hgs hp res9 (fun H10 x0 s10 hx0 => ?_)
      refine ⟨_, rfl, _, rfl, _, rfl, ?_⟩
      try dsimp only [tNil, tCons, tC]
      show spHeard K C [V.ref r, v, u, V.int ((1 : Nat) : Int)] H10 _ _
      refine heard_any 1 (by decide) (hbk9.same s10) hfs hgs hp (res9.same s10) (fun H11 x1 s11 hx1 => ?_)
      refine ⟨sz_le (n := 2) (by decide), fun pa hpa hna => ?_⟩
      have s12 := same_new (o := HO.lst [x0, x1]) hpa
      refine ⟨_, .list [E1, E1], rfl, .lst hna (SqL.of upd_same) (.cons ((hx0.same s11).same s12) (.cons (hx1.same s12) .nil)), ok.sh, ok.de, ok.le, ?_⟩
      have s912 := (s10.trans s11).trans s12
      generalize upd H11 pa (.lst [x0, x1]) = H12 at s912 ⊢
      refine ⟨_, rfl, _, rfl, sz_le (n := 2) (by decide), fun pb hpb hnb => ?_⟩
      have s13 := same_new (o := HO.lst [x, x]) hpb
      have hx13 := (hx.same s912).same s13
      refine ⟨_, .list [E1, E1], rfl, .lst hnb (SqL.of upd_same) (.cons hx13 (.cons hx13 .nil)), ok.sh, ok.de, ok.le, ?_⟩
      have s813 := (s9.trans s912).trans s13
      generalize upd H12 pb (.lst [x, x]) = H13 at s813 ⊢
      clear hx13 s13 s912 s12 hx1 hx0 hx res9 hbk9 s11 s10 s9
      refine ⟨rfl, _, rfl, ifF (by rw [decide_eq_true rfl]; rfl) ?_⟩
      have dk13 := dk8.same s813
      have off13 := off08.trans (Off.same s813)
      have hw13 := hw8.same s813
      have hbk13 := hbk8.same s813
      have od13 := od8.same s813
      have zp13 := s813 _ _ zp8
      clear res dk8 off08 hw8 hbk8 od8 zp8 s813
      refine ⟨_, rfl, _, rfl, wd, _, rfl, DGet.k (k := .inr "letters") hw13.w, D, Cc, _, _, rfl, dk13, by omega, Or.inl ⟨sg, rfl, hs.pos, by omega, fun H14 y hy dk14 off14 => ?_⟩⟩
      have zp14 := off14 _ _ nps.1 nps.2 zp13
      have hw14 := hw13.off off14 dk13
      have hbk14 := hbk13.off off14 dk13
      have od14 := od13.off off14 dk13
      have off014 := off13.trans off14
      obtain ⟨E2, resy, ok2⟩ := resY_of od14 hm hgs hv hy
      obtain ⟨b, hb⟩ := word_of od14 hm hv
      clear zp13 hw13 hbk13 od13 dk13 off13 off14
      refine ⟨_, rfl, _, rfl, _, rfl, ?_⟩
      try dsimp only [tNil, tCons, tC]
      show spLawDue K [V.ref wd, v, V.str (S [y])] H14 _ _
      refine due_any hw14 hgs hs (resy.to hy) (fun H15 x s15 hx => ?_)
      have res15 := resy.same s15
      have hbk15 := hbk14.same s15
      refine ⟨_, rfl, _, rfl, _, rfl, ?_⟩
      try dsimp only [tNil, tCons, tC]
      show spHeard K C [V.ref r, v, V.str (S [y]), V.int ((2 : Nat) : Int)] H15 _ _
      refine heard_anyY 2 (by decide) (by decide) hbk15 hfs hgs hp res15 (fun H16 x0 s16 hx0 => ?_)
      refine ⟨_, rfl, _, rfl, _, rfl, ?_⟩
      try dsimp only [tNil, tCons, tC]
      show spHeard K C [V.ref r, v, V.str (S [y]), V.int ((3 : Nat) : Int)] H16 _ _
      refine heard_anyY 3 (by decide) (by decide) (hbk15.same s16) hfs hgs hp (res15.same s16) (fun H17 x1 s17 hx1 => ?_)
      refine ⟨sz_le (n := 2) (by decide), fun pa hpa hna => ?_⟩
      have s18 := same_new (o := HO.lst [x0, x1]) hpa
      refine ⟨_, .list [E2, E2], rfl, .lst hna (SqL.of upd_same) (.cons ((hx0.same s17).same s18) (.cons (hx1.same s18) .nil)), ok2.sh, ok2.de, ok2.le, ?_⟩
      have s1518 := (s16.trans s17).trans s18
      generalize upd H17 pa (.lst [x0, x1]) = H18 at s1518 ⊢
      refine ⟨_, rfl, _, rfl, sz_le (n := 2) (by decide), fun pb hpb hnb => ?_⟩
      have s19 := same_new (o := HO.lst [x, x]) hpb
      have hx19 := (hx.same s1518).same s19
      refine ⟨_, .list [E2, E2], rfl, .lst hnb (SqL.of upd_same) (.cons hx19 (.cons hx19 .nil)), ok2.sh, ok2.de, ok2.le, ?_⟩
      have s1419 := (s15.trans s1518).trans s19
      generalize upd H18 pb (.lst [x, x]) = H19 at s1419 ⊢
      clear hx19 s19 s1518 s18 hx1 hx0 hx res15 hbk15 s17 s16 s15
      refine ⟨rfl, _, rfl, ifF (by rw [decide_eq_true rfl]; rfl) ?_⟩
      have dk19 := dk14.same s1419
      have off19 := off014.trans (Off.same s1419)
      have hw19 := hw14.same s1419
      have hbk19 := hbk14.same s1419
      have od19 := od14.same s1419
      have zp19 := s1419 _ _ zp14
      have hb19 := hb.same s1419
      clear resy hb dk14 off014 hw14 hbk14 od14 zp14 s1419
      refine ⟨_, rfl, wd, _, rfl, DGet.k (k := .inr "letters") hw19.w, _, rfl, ?_⟩
      try dsimp only [tNil, tCons, tC]
      show spWord K [V.str (S sg), v] H19 _ _
      refine word_any hb19 (fun H20 s20 => ?_)
      refine ⟨_, rfl, _, rfl, wd, _, rfl, DGet.k (k := .inr "letters") (hw19.same s20).w, rfl, ?_⟩
      try dsimp only [tNil, tCons, tC]
      show spWord K [V.str (S sg), v] H20 _ _
      refine word_any (hb19.same s20) (fun H21 s21 => ?_)
      refine ⟨sz_le (n := 2) (by decide), fun pt hpt hnt => ?_⟩
      have s22 := same_new (o := HO.lst [V.bl b, V.bl b]) hpt
      obtain ⟨okb, nod⟩ := bools_ok b
      refine ⟨_, rfl, _, .list [.bool b, .bool b], rfl, .lst hnt (SqL.of upd_same) (.cons (.bl b) (.cons (.bl b) .nil)), okb.sh, okb.de, okb.le, ?_⟩
      have s1922 := (s20.trans s21).trans s22
      generalize upd H21 pt (.lst [V.bl b, V.bl b]) = H22 at s1922 ⊢
      refine ⟨_, rfl, wd, _, rfl, DGet.k (k := .inr "letters") (hw19.same s1922).w, _, rfl, ?_⟩
      try dsimp only [tNil, tCons, tC]
      show spLawIsWeb K [V.str (S sg), v] H22 _ _
      refine isweb_any hs (hb19.same s1922) (fun H23 s23 => ?_)
      refine ⟨sz_le (n := 1) (by decide), fun p3 hp3 _ => ?_⟩
      refine ⟨p3, 2, _, rfl, rfl, upd_same, by decide, by decide, sz_le (n := 2) (by decide), fun p4 hp4 => ?_⟩
      have s24 := (same_new (o := HO.lst [V.bl b]) hp3).trans (same_new (o := HO.lst (List.replicate (2 : Int).toNat [V.bl b]).flatten) hp4)
      refine ⟨p4, .list [.bool b, .bool b], rfl, .lst (SqL.of upd_same) (.cons (.bl b) (.cons (.bl b) .nil)), okb.sh, nod, okb.de, okb.le, ?_⟩
      have s1924 := (s1922.trans s23).trans s24
      refine ⟨rfl, _, rfl, ifF (by rw [decide_eq_true rfl]; rfl) ?_⟩
      exact ⟨(dk19.same s1924).mono (by omega), off19.trans (Off.same s1924), hw19.same s1924, hbk19.same s1924, od19.same s1924, s1924 _ _ zp19, _, _, _, _, _, _, rfl⟩
    · rintro σ H6 ⟨dk6, off6, hw6, hbk6, od6, zp6, o4, o5, o6, o7, o8, o9, rfl⟩
      exact q H6 (dk6.mono (by omega)) off6
end
end Lw

namespace Lw
open PySem PySem.Spec PyProof.Rows L2 Mq
open SX (S)
/-! ### by length, then as strings -/
def abz : List Nat := [97, 98, 122]
def tText : TE := fun σ H Q => ∃ (D C : Addr) (T : Nat) (o1 o2 o3 o4 o5 o6 : Option V), σ = [some (.ref D), o1, o2, o3, o4, o5, o6] ∧ DeckAt D C T H ∧ T ≤ 900000 ∧ ∀ H' l, l.length ≤ 4 → DeckAt D C (T + 6) H' → Off D C H H' → Q (.str (S l)) H'
def tAhead : TE := fun σ H Q => ∃ a b : List Nat, σ[3]? = some (some (.str (S a))) ∧ σ[4]? = some (some (.str (S b))) ∧ a.length ≤ 1000 ∧ b.length ≤ 1000 ∧ Q (.bl (aheadB a b)) H
def spOrder : Sp := fun vs H Q _ => ∃ (D C : Addr) (T : Nat), vs = [.ref D] ∧ DeckAt D C T H ∧ T ≤ 800000 ∧ ∀ H', DeckAt D C (T + 12) H' → Off D C H H' → Q (.bl true) H'
theorem ahead_lt' {a b : List Nat} (h : (a.length : Int) < (b.length : Int)) : aheadB a b = true := by
  unfold aheadB ltIS
  have n : ¬ (((a.length : Nat) : Int) = ((b.length : Nat) : Int)) := by omega
  show (if ((a.length : Nat) : Int) = ((b.length : Nat) : Int) then _ else decide (((a.length : Nat) : Int) < ((b.length : Nat) : Int))) = true
  rw [if_neg n]
  exact decide_eq_true h
theorem ahead_eq {a b : List Nat} (h : (a.length : Int) = (b.length : Int)) : aheadB a b = decide ((S a).cps.toList < (S b).cps.toList) := by
  unfold aheadB ltIS
  show (if ((a.length : Nat) : Int) = ((b.length : Nat) : Int) then (if S a = S b then false else decide ((S a).cps.toList < (S b).cps.toList)) else _) = _
  rw [if_pos h]
  by_cases e : S a = S b
  · rw [if_pos e, e]
    exact (decide_eq_false (List.lt_irrefl _)).symm
  · rw [if_neg e]
theorem ahead_gt {a b : List Nat} (h1 : ¬ (a.length : Int) < (b.length : Int)) (h2 : ¬ (a.length : Int) = (b.length : Int)) : aheadB a b = false := by
  unfold aheadB ltIS
  show (if ((a.length : Nat) : Int) = ((b.length : Nat) : Int) then _ else decide (((a.length : Nat) : Int) < ((b.length : Nat) : Int))) = false
  rw [if_neg h2]
  exact decide_eq_false h1
section
variable {P : Program} {w : World} {K : PySem.W.Frag} {mg : Str → Option Value} {base : Heap} {C CW : Addr}
theorem ok_order {f fA fD fP : Addr} {fd fdA fdD fdP : FuncData} (F : Fun K "_law_order_right" "_law_order_right" s__law_order_right f fd) (B : Blt mg)
    (FD : Fun K "_law_draw" "_law_draw" s__law_draw fD fdD) (gD : mg "_law_draw" = some (.ref fD)) (bD : Binds K fdD ["_law_deck_here", "_law_below"] []) (GD : FnOk P w K mg base CX0 1 fD fdD ["_law_deck_here", "_law_below"] spDraw)
    (FP : Fun K "_law_pick" "_law_pick" s__law_pick fP fdP) (gP : mg "_law_pick" = some (.ref fP)) (bP : Binds K fdP ["_law_deck_here", "_law_some"] []) (GP : FnOk P w K mg base CX0 2 fP fdP ["_law_deck_here", "_law_some"] spPick)
    (FA : Fun K "is_ahead" "is_ahead" s_is_ahead fA fdA) (gAh : mg "is_ahead" = some (.ref fA)) (bA : Binds K fdA ["one", "other"] []) (kA : KBn K fdA ["one", "other"] 0 ["other", "one"] rev0 rev0) (GA : FnOk P w K mg base CX0 1 fA fdA ["one", "other"] spAhead) :
    FnG P w K mg base CX0 4 f fd ["_law_deck_here"] spOrder := by
  refine Mq.Fun.okG F sc__law_order_right (fun vs H Q E h => ?_) (fun cdv A outer s H vs Q E gA hr h => ?_)
  · obtain ⟨_, _, _, rfl, _⟩ := h
    rfl
  · obtain ⟨D, Cc, T, rfl, hdk, hT, q⟩ := h
    have imp : ∀ (σ : L2.St) (H : Hp) (Q : VK), tText σ H Q → True := fun _ _ _ _ => trivial
    refine ⟨_, (pss_cons (ps_set (i := 1) sc__law_order_right.nd rfl (Or.inl rfl) (PE_imp (t' := tText) (pe_join pe_str (pe_lc (own := [("_law_k", 6)]) (g := gName 6) (tt := tYes) rfl sc__law_order_right.nd (pi_range1 (by rfl) B.range (pa_cons (pe_call GD (hr.mono (by decide)) (by rfl) gD FD.kp bD .nil pass0 (pa_cons (pv 0) (pa_cons pe_int pa_nil))) pa_nil)) (blkOk_by (own := [("_law_k", 6)]) (N := ["_law_deck_here", "_law_one", "_law_other", "_law_near", "_law_far", "_law_due_here", "_law_k"]) (sc := defScope s__law_order_right) (by decide +kernel)) (fun _ _ _ _ _ => pg_name (i := 6) sc__law_order_right.nd rfl (Or.inl rfl)) (fun _ _ _ _ _ => pts_nil) (fun _ _ _ _ _ => (pe_call GP (hr.mono (by decide)) (by rfl) gP FP.kp bP .nil pass0 (pa_cons (pv 0) (pa_cons pe_str pa_nil)))))) (fun σ H Q h => by
            obtain ⟨D, C, T, o1, o2, o3, o4, o5, o6, rfl, hdk, hT, q⟩ := h
            refine ⟨⟨_, rfl⟩, _, rfl, D, C, T, 5, rfl, hdk, by omega, by decide, by decide, fun H1 r hr1 dk1 off1 => ?_⟩
            refine ⟨_, rfl, by omega, by omega, fun L hL => ?_⟩
            obtain ⟨hLD, hLC⟩ := new_ne dk1 hL
            refine lc_yes (walk_rng (n := r)) (fun i H' => DeckAt D C (T + 1 + i) H' ∧ Off D C H1 H' ∧ ∃ l : List Nat, l.length = i ∧ H' L = some (.lst (l.map fun c => .str (S [c])))) ⟨dk1.same (same_new hL), Off.same (same_new hL), [], rfl, upd_same⟩ (fun _ _ _ _ => trivial) ?_ ?_
            · rintro i x H2 H3 hi ⟨dk2, off2, l, hl, hL2⟩ ⟨rfl, rfl⟩
              refine ⟨rfl, ?_⟩
              refine ⟨_, rfl, D, C, T + 1 + i, _, rfl, dk2, by omega, Or.inl ⟨abz, by decide +kernel, by decide, by decide, fun H4 c hcs dk4 off4 => ?_⟩⟩
              refine ⟨_, off4 L _ hLD hLC hL2, sz_lt (by rw [List.length_map]; omega), ?_, ?_, l ++ [c], by rw [List.length_append, hl]; rfl, ?_⟩
              · obtain ⟨m, t, js, a1, a2, a3, a4⟩ := dk4.ex
                exact ⟨m, t, js, (upd_ne (Ne.symm hLD)).trans a1, (upd_ne (Ne.symm hLC)).trans a2, a3, by omega⟩
              · intro b o e1 e2 e3
                rw [upd_ne (ne_of_none e3 hL)]
                exact (off2.trans off4) b o e1 e2 e3
              · rw [upd_same, List.map_append]
                rfl
            · rintro H2 ⟨dk2, off2, l, hl, hL2⟩
              refine ⟨S [], L, (l.map fun c => [c]).map S, rfl, rfl, Or.inl (SqL.of (hL2.trans ?_)), ?_, ?_⟩
              · rw [List.map_map, List.map_map]
                rfl
              · rw [show (((l.map fun c => [c]).map S).map (·.length)).sum = l.length from ?_]
                · rw [SX.S_len, List.length_map, List.length_map]
                  show l.length + l.length * 0 ≤ _
                  exact sz_le (by omega)
                · clear hL2 hl
                  induction l with
                  | nil => rfl
                  | cons c l ih =>
                    rw [List.map_cons, List.map_cons, List.map_cons, List.sum_cons, ih, SX.S_len]
                    show 1 + l.length = l.length + 1
                    omega
              · rw [SX.join_S, joinW_one]
                exact q H2 l (by omega) (dk2.mono (by omega)) (off1.trans off2))))
      (pss_cons (ps_set (i := 2) sc__law_order_right.nd rfl (Or.inl rfl) (PE_imp (t' := tText) (pe_join pe_str (pe_lc (own := [("_law_k", 6)]) (g := gName 6) (tt := tYes) rfl sc__law_order_right.nd (pi_range1 (by rfl) B.range (pa_cons (pe_call GD (hr.mono (by decide)) (by rfl) gD FD.kp bD .nil pass0 (pa_cons (pv 0) (pa_cons pe_int pa_nil))) pa_nil)) (blkOk_by (own := [("_law_k", 6)]) (N := ["_law_deck_here", "_law_one", "_law_other", "_law_near", "_law_far", "_law_due_here", "_law_k"]) (sc := defScope s__law_order_right) (by decide +kernel)) (fun _ _ _ _ _ => pg_name (i := 6) sc__law_order_right.nd rfl (Or.inl rfl)) (fun _ _ _ _ _ => pts_nil) (fun _ _ _ _ _ => (pe_call GP (hr.mono (by decide)) (by rfl) gP FP.kp bP .nil pass0 (pa_cons (pv 0) (pa_cons pe_str pa_nil)))))) (fun σ H Q h => by
            obtain ⟨D, C, T, o1, o2, o3, o4, o5, o6, rfl, hdk, hT, q⟩ := h
            refine ⟨⟨_, rfl⟩, _, rfl, D, C, T, 5, rfl, hdk, by omega, by decide, by decide, fun H1 r hr1 dk1 off1 => ?_⟩
            refine ⟨_, rfl, by omega, by omega, fun L hL => ?_⟩
            obtain ⟨hLD, hLC⟩ := new_ne dk1 hL
            refine lc_yes (walk_rng (n := r)) (fun i H' => DeckAt D C (T + 1 + i) H' ∧ Off D C H1 H' ∧ ∃ l : List Nat, l.length = i ∧ H' L = some (.lst (l.map fun c => .str (S [c])))) ⟨dk1.same (same_new hL), Off.same (same_new hL), [], rfl, upd_same⟩ (fun _ _ _ _ => trivial) ?_ ?_
            · rintro i x H2 H3 hi ⟨dk2, off2, l, hl, hL2⟩ ⟨rfl, rfl⟩
              refine ⟨rfl, ?_⟩
              refine ⟨_, rfl, D, C, T + 1 + i, _, rfl, dk2, by omega, Or.inl ⟨abz, by decide +kernel, by decide, by decide, fun H4 c hcs dk4 off4 => ?_⟩⟩
              refine ⟨_, off4 L _ hLD hLC hL2, sz_lt (by rw [List.length_map]; omega), ?_, ?_, l ++ [c], by rw [List.length_append, hl]; rfl, ?_⟩
              · obtain ⟨m, t, js, a1, a2, a3, a4⟩ := dk4.ex
                exact ⟨m, t, js, (upd_ne (Ne.symm hLD)).trans a1, (upd_ne (Ne.symm hLC)).trans a2, a3, by omega⟩
              · intro b o e1 e2 e3
                rw [upd_ne (ne_of_none e3 hL)]
                exact (off2.trans off4) b o e1 e2 e3
              · rw [upd_same, List.map_append]
                rfl
            · rintro H2 ⟨dk2, off2, l, hl, hL2⟩
              refine ⟨S [], L, (l.map fun c => [c]).map S, rfl, rfl, Or.inl (SqL.of (hL2.trans ?_)), ?_, ?_⟩
              · rw [List.map_map, List.map_map]
                rfl
              · rw [show (((l.map fun c => [c]).map S).map (·.length)).sum = l.length from ?_]
                · rw [SX.S_len, List.length_map, List.length_map]
                  show l.length + l.length * 0 ≤ _
                  exact sz_le (by omega)
                · clear hL2 hl
                  induction l with
                  | nil => rfl
                  | cons c l ih =>
                    rw [List.map_cons, List.map_cons, List.map_cons, List.sum_cons, ih, SX.S_len]
                    show 1 + l.length = l.length + 1
                    omega
              · rw [SX.join_S, joinW_one]
                exact q H2 l (by omega) (dk2.mono (by omega)) (off1.trans off2))))
      (pss_cons (ps_for (passes_of rfl) rfl (pi_tup (pe_tup (pa_cons (pe_tup (pa_cons (pv 1) (pa_cons (pv 2) pa_nil))) (pa_cons (pe_tup (pa_cons (pv 2) (pa_cons (pv 1) pa_nil))) (pa_cons (pe_tup (pa_cons (pv 1) (pa_cons (pv 1) pa_nil))) (pa_cons (pe_tup (pa_cons (pv 1) (pa_cons (pe_op op_add_str (pv 1) pe_str) pa_nil))) (pa_cons (pe_tup (pa_cons pe_str (pa_cons (pv 1) pa_nil))) (pa_cons (pe_tup (pa_cons pe_str (pa_cons (pv 2) pa_nil))) pa_nil)))))))) (pg_tup rfl (pgs_cons (pg_name (i := 3) sc__law_order_right.nd rfl (Or.inl rfl)) (pgs_cons (pg_name (i := 4) sc__law_order_right.nd rfl (Or.inl rfl)) pgs_nil)))
        (pss_cons (ps_set (i := 5) sc__law_order_right.nd rfl (Or.inl rfl) (PE_imp (t' := tAhead) (pe_or (pe_cmpR op_lt (pe_callB call_len (by rfl) B.len (by decide +kernel) (pa_cons (pv 3) pa_nil)) (pe_callB call_len (by rfl) B.len (by decide +kernel) (pa_cons (pv 4) pa_nil)) (nomark _)) (pe_one (pe_and (pe_cmpR op_eq (pe_callB call_len (by rfl) B.len (by decide +kernel) (pa_cons (pv 3) pa_nil)) (pe_callB call_len (by rfl) B.len (by decide +kernel) (pa_cons (pv 4) pa_nil)) (nomark _)) (pe_one (pe_cmpR op_lt_str (pv 3) (pv 4) (nomark _)))))) (fun σ H Q h => by
            obtain ⟨a, b, h3, h4, ha, hb, q⟩ := h
            refine ⟨_, h3, _, _, rfl, len_S (by omega), _, h4, _, _, rfl, len_S (by omega), _, _, rfl, rfl, _, rfl, ite2 (fun hc => ?_) (fun hc => ?_)⟩
            · have hc' := of_decide_eq_true hc
              rw [ahead_lt' hc'] at q
              exact q
            · have hc' : ¬ (a.length : Int) < (b.length : Int) := fun z => hc (decide_eq_true z)
              refine ⟨_, h3, _, _, rfl, len_S (by omega), _, h4, _, _, rfl, len_S (by omega), rfl, _, rfl, ite2 (fun he => ?_) (fun he => ?_)⟩
              · have he' : (a.length : Int) = (b.length : Int) := V.int.inj (of_decide_eq_true he)
                rw [ahead_eq he'] at q
                exact ⟨_, h3, _, h4, S a, S b, rfl, rfl, q⟩
              · have he' : ¬ (a.length : Int) = (b.length : Int) := fun z => he (decide_eq_true (congrArg V.int z))
                rw [ahead_gt hc' he'] at q
                exact q)))
        (pss_one (ps_if (pt_cmpR op_ne (pe_callB (call_rep hr gA) (by rfl) B.repr (by decide +kernel) (pa_cons (Mq.pe_ls (pa_cons (pe_call GA (hr.mono (by decide)) (by rfl) gAh FA.kp bA .nil pass0 (pa_cons (pv 3) (pa_cons (pv 4) pa_nil))) (pa_cons (pe_callK0 (E := fun _ _ _ _ => False) GA (hr.mono (by decide)) (by rfl) gAh FA.kp kA (fun _ => cx0_at) (pk_cons (pv 4) (pk_cons (pv 3) pk_nil))) pa_nil))) pa_nil)) (pe_callB (call_rep hr gA) (by rfl) B.repr (by decide +kernel) (pa_cons (Mq.pe_ls (pa_cons (pv 5) (pa_cons (pv 5) pa_nil))) pa_nil)) (nomark _)) (pss_one (ps_ret pe_bl)) pss_nil))))
      (pss_one (ps_ret pe_bl))))), ?_⟩
    refine ⟨D, Cc, T, _, _, _, _, _, _, rfl, hdk, by omega, fun H1 a ha dk1 off1 => ?_⟩
    refine ⟨D, Cc, T + 6, _, _, _, _, _, _, rfl, dk1, by omega, fun H2 b hb dk2 off2 => ?_⟩
    have off02 := off1.trans off2
    clear dk1 off1 off2
    have e1 : V.str "b" = V.str (S [98]) := by decide +kernel
    have e2 : V.str "" = V.str (S []) := by decide +kernel
    have e3 : V.str (S a ++ "a") = V.str (S (a ++ [97])) := by
      rw [show ("a" : Str) = S [97] by decide +kernel, SX.S_cat]
    refine ⟨_, rfl, _, rfl, sz_le (n := 2) (by decide), fun t1 ht1 => ?_⟩
    have r1 : Same H2 (upd H2 t1 (.tup [V.str (S a), V.str (S b)])) := same_new ht1
    have z1 : SqT K (upd H2 t1 (.tup [V.str (S a), V.str (S b)])) t1 [V.str (S a), V.str (S b)] := Or.inl (Or.inl upd_same)
    have s1 := r1
    generalize upd H2 t1 (.tup [V.str (S a), V.str (S b)]) = G1 at s1 z1 ⊢
    refine ⟨_, rfl, _, rfl, sz_le (n := 2) (by decide), fun t2 ht2 => ?_⟩
    have r2 : Same G1 (upd G1 t2 (.tup [V.str (S b), V.str (S a)])) := same_new ht2
    have z2 : SqT K (upd G1 t2 (.tup [V.str (S b), V.str (S a)])) t2 [V.str (S b), V.str (S a)] := Or.inl (Or.inl upd_same)
    have z1 := Same.tup r2 z1
    have s2 := s1.trans r2
    generalize upd G1 t2 (.tup [V.str (S b), V.str (S a)]) = G2 at s2 z1 z2 ⊢
    refine ⟨_, rfl, _, rfl, sz_le (n := 2) (by decide), fun t3 ht3 => ?_⟩
    have r3 : Same G2 (upd G2 t3 (.tup [V.str (S a), V.str (S a)])) := same_new ht3
    have z3 : SqT K (upd G2 t3 (.tup [V.str (S a), V.str (S a)])) t3 [V.str (S a), V.str (S a)] := Or.inl (Or.inl upd_same)
    have z1 := Same.tup r3 z1
    have z2 := Same.tup r3 z2
    have s3 := s2.trans r3
    generalize upd G2 t3 (.tup [V.str (S a), V.str (S a)]) = G3 at s3 z1 z2 z3 ⊢
    refine ⟨_, rfl, _, rfl, S a, "a", rfl, rfl, ?_, sz_le (n := 2) (by decide), fun t4 ht4 => ?_⟩
    · rw [SX.S_len]
      exact Nat.le_trans (Nat.add_le_add ha (by decide : ("a" : Str).length ≤ 1)) (by decide)
    rw [e3]
    have r4 : Same G3 (upd G3 t4 (.tup [V.str (S a), V.str (S (a ++ [97]))])) := same_new ht4
    have z4 : SqT K (upd G3 t4 (.tup [V.str (S a), V.str (S (a ++ [97]))])) t4 [V.str (S a), V.str (S (a ++ [97]))] := Or.inl (Or.inl upd_same)
    have z1 := Same.tup r4 z1
    have z2 := Same.tup r4 z2
    have z3 := Same.tup r4 z3
    have s4 := s3.trans r4
    generalize upd G3 t4 (.tup [V.str (S a), V.str (S (a ++ [97]))]) = G4 at s4 z1 z2 z3 z4 ⊢
    refine ⟨_, rfl, sz_le (n := 2) (by decide), fun t5 ht5 => ?_⟩
    rw [e1]
    have r5 : Same G4 (upd G4 t5 (.tup [V.str (S [98]), V.str (S a)])) := same_new ht5
    have z5 : SqT K (upd G4 t5 (.tup [V.str (S [98]), V.str (S a)])) t5 [V.str (S [98]), V.str (S a)] := Or.inl (Or.inl upd_same)
    have z1 := Same.tup r5 z1
    have z2 := Same.tup r5 z2
    have z3 := Same.tup r5 z3
    have z4 := Same.tup r5 z4
    have s5 := s4.trans r5
    generalize upd G4 t5 (.tup [V.str (S [98]), V.str (S a)]) = G5 at s5 z1 z2 z3 z4 z5 ⊢
    refine ⟨_, rfl, sz_le (n := 2) (by decide), fun t6 ht6 => ?_⟩
    rw [e2]
    have r6 : Same G5 (upd G5 t6 (.tup [V.str (S []), V.str (S b)])) := same_new ht6
    have z6 : SqT K (upd G5 t6 (.tup [V.str (S []), V.str (S b)])) t6 [V.str (S []), V.str (S b)] := Or.inl (Or.inl upd_same)
    have z1 := Same.tup r6 z1
    have z2 := Same.tup r6 z2
    have z3 := Same.tup r6 z3
    have z4 := Same.tup r6 z4
    have z5 := Same.tup r6 z5
    have s6 := s5.trans r6
    generalize upd G5 t6 (.tup [V.str (S []), V.str (S b)]) = G6 at s6 z1 z2 z3 z4 z5 z6 ⊢
    refine ⟨sz_le (n := 6) (by decide), fun p hp => ?_⟩
    have r7 : Same G6 (upd G6 p (.tup [V.ref t1, V.ref t2, V.ref t3, V.ref t4, V.ref t5, V.ref t6])) := same_new hp
    have zp : SqT K (upd G6 p (.tup [V.ref t1, V.ref t2, V.ref t3, V.ref t4, V.ref t5, V.ref t6])) p [V.ref t1, V.ref t2, V.ref t3, V.ref t4, V.ref t5, V.ref t6] := Or.inl (Or.inl upd_same)
    have z1 := Same.tup r7 z1
    have z2 := Same.tup r7 z2
    have z3 := Same.tup r7 z3
    have z4 := Same.tup r7 z4
    have z5 := Same.tup r7 z5
    have z6 := Same.tup r7 z6
    have s07 := s6.trans r7
    generalize upd G6 p (.tup [V.ref t1, V.ref t2, V.ref t3, V.ref t4, V.ref t5, V.ref t6]) = H7 at s07 zp z1 z2 z3 z4 z5 z6 ⊢
    have hx : ∀ x ∈ [V.ref t1, V.ref t2, V.ref t3, V.ref t4, V.ref t5, V.ref t6], ∃ t u v, x = .ref t ∧ SqT K H7 t [.str (S u), .str (S v)] ∧ u.length ≤ 1000 ∧ v.length ≤ 1000 := by
      intro x hx
      simp only [List.mem_cons, List.not_mem_nil, or_false] at hx
      rcases hx with rfl | rfl | rfl | rfl | rfl | rfl
      · exact ⟨t1, a, b, rfl, z1, by omega, by omega⟩
      · exact ⟨t2, b, a, rfl, z2, by omega, by omega⟩
      · exact ⟨t3, a, a, rfl, z3, by omega, by omega⟩
      · exact ⟨t4, a, a ++ [97], rfl, z4, by omega, by rw [List.length_append]; show a.length + 1 ≤ 1000; omega⟩
      · exact ⟨t5, [98], a, rfl, z5, by decide, by omega⟩
      · exact ⟨t6, [], b, rfl, z6, by decide, by omega⟩
    refine ⟨p, rfl, ⟨_, zp⟩, ?_⟩
    refine for_tup (xs := [V.ref t1, V.ref t2, V.ref t3, V.ref t4, V.ref t5, V.ref t6]) (fun i σ H' => Same H7 H' ∧ ∃ o3 o4 o5 o6, σ = [some (.ref D), some (.str (S a)), some (.str (S b)), o3, o4, o5, o6]) ⟨Same.refl _, _, _, _, _, rfl⟩ (fun i σ H' _ q => Same.tup q.1 zp) ?_ ?_
    · rintro i x σ H8 hxi ⟨s8, o3, o4, o5, o6, rfl⟩
      obtain ⟨t, u, v, rfl, ht, hu, hv⟩ := hx x (List.mem_of_getElem? hxi)
      refine ⟨t, _, rfl, Same.tup s8 ht, rfl, _, _, rfl, _, _, rfl, rfl, ?_⟩
      refine ⟨u, v, rfl, rfl, hu, hv, ?_⟩
      refine ⟨_, rfl, _, rfl, u, v, rfl, hu, hv, fun H9 s9 => ?_⟩
      refine ⟨_, rfl, _, rfl, rfl, u, v, rfl, hu, hv, fun H10 s10 => ?_⟩
      refine ⟨sz_le (n := 2) (by decide), fun pa hpa hna => ?_⟩
      obtain ⟨okb, _⟩ := bools_ok (aheadB u v)
      have s11 := same_new (o := HO.lst [V.bl (aheadB u v), V.bl (aheadB u v)]) hpa
      refine ⟨_, .list [.bool (aheadB u v), .bool (aheadB u v)], rfl, .lst hna (SqL.of upd_same) (.cons (.bl _) (.cons (.bl _) .nil)), okb.sh, okb.de, okb.le, ?_⟩
      refine ⟨_, rfl, _, rfl, sz_le (n := 2) (by decide), fun pb hpb hnb => ?_⟩
      have s12 := same_new (o := HO.lst [V.bl (aheadB u v), V.bl (aheadB u v)]) hpb
      refine ⟨_, .list [.bool (aheadB u v), .bool (aheadB u v)], rfl, .lst hnb (SqL.of upd_same) (.cons (.bl _) (.cons (.bl _) .nil)), okb.sh, okb.de, okb.le, ?_⟩
      refine ⟨rfl, _, rfl, ifF (by rw [decide_eq_true rfl]; rfl) ?_⟩
      exact ⟨(((s8.trans s9).trans s10).trans s11).trans s12, _, _, _, _, rfl⟩
    · rintro σ H8 ⟨s8, o3, o4, o5, o6, rfl⟩
      have s08 := s07.trans s8
      exact q H8 ((dk2.same s08).mono (by omega)) (off02.trans (Off.same s08))
end
end Lw

namespace Lw
open PySem PySem.Spec PyProof.Rows L2 Mq
open SX (S)
/-! ### equal books -/
def EqB (K : PySem.W.Frag) (C : Addr) (a b : Addr) (H : Hp) : Prop := ∃ (sg : List Nat) (fs : List Fd) (fa ta fa' ta' : Addr) (xs xs' : List V),
  BkAt H C a sg fs fa ta ∧ BkAt H C b sg fs fa' ta' ∧ SqT K H fa xs ∧ FdAll K H xs fs ∧ SqT K H fa' xs' ∧ FdAll K H xs' fs
theorem prs_fd {K : PySem.W.Frag} {H : Hp} {xs ys : List V} {fs : List Fd} (h1 : FdAll K H xs fs) (h2 : FdAll K H ys fs) : Prs (DTup K DFlat) xs ys H := by
  refine ⟨h1.len.trans h2.len.symm, fun i x y e1 e2 => ?_⟩
  obtain ⟨f, f1, a, rfl, ha⟩ := h1.at e1
  obtain ⟨g, f2, b, rfl, hb⟩ := h2.at e2
  rw [f1] at f2
  cases f2
  refine ⟨a, b, _, _, rfl, rfl, ha, hb, rfl, fun j u v e3 e4 => ?_⟩
  rw [e3] at e4
  cases e4
  unfold fdV at e3
  have hm := List.mem_of_getElem? e3
  simp only [List.mem_cons, List.not_mem_nil, or_false] at hm
  rcases hm with rfl | rfl | rfl <;> exact ⟨rfl, rfl, by simp [eqV]⟩
section
variable {P : Program} {w : World} {K : PySem.W.Frag} {mg : Str → Option Value} {base : Heap} {C : Addr}
structure EqT (K : PySem.W.Frag) (mg : Str → Option Value) (C : Addr) : Prop where
  gC : mg "Book" = some (.ref C)
  ty : ∀ H a dx fs, H a = some (.ins C dx fs) → TyX K H (.ref a) (.ref C)
  kit : PySem.W.kitOne K (.ref C) (.ref C) = some true
theorem ok_eq {f : Addr} {fd : FuncData} (F : Fun K "__eq__" "Book.__eq__" s_Book___eq__ f fd) (B : Blt mg) (R : BkC K C) (T : EqT K mg C) :
    FnOk P w K mg base CX0 3 f fd ["self", "other"] (spEq (EqB K C)) := by
  refine F.ok sc_Book___eq__ (fun vs H Q E h => ?_) (fun cdv A outer s H vs Q E hr h => ?_)
  · obtain ⟨_, _, rfl, _⟩ := h
    rfl
  · obtain ⟨a, b, rfl, ⟨sg, fs, fa, ta, fa', ta', xs, xs', ⟨⟨dx, h1⟩, h2⟩, ⟨⟨dx', h3⟩, h4⟩, h5, h6, h7, h8⟩, q⟩ := h
    have hr2 : Room 2 (A.deeper (envOfC "Book.__eq__" (defScope s_Book___eq__) s.heap.objs.size f cdv)) := hr
    refine ⟨_, (pss_one (ps_ret (pe_and (pe_callB call_isi (by rfl) B.isi (by decide +kernel) (pa_cons (pv 1) (pa_cons (pe_glob (v := .ref C) (by rfl) T.gC rfl) pa_nil))) (pe_and (pe_cmpR op_eq (pe_fld (pv 0) rfl) (pe_fld (pv 1) rfl) (nomark _)) (pe_one (pe_cmpR (op_eqG (rcG_tup (mon_tup mon_flat) (eqG_tup mon_flat eqG_flat)) hr2) (pe_fld (pv 0) rfl) (pe_fld (pv 1) rfl) (nomark _))))))), ?_⟩
    refine ⟨_, rfl, _, .ref C, .ref C, _, true, rfl, .own C, T.ty _ _ _ _ h3, T.kit, true, rfl, iteT ?_⟩
    refine ⟨_, rfl, a, C, dx, _, _, rfl, h1, R.cls, R.nL, rfl, _, rfl, b, C, dx', _, _, rfl, h3, R.cls, R.nL, rfl, rfl, _, rfl, ifT (decide_eq_true rfl) ?_⟩
    refine ⟨_, rfl, a, C, dx, _, _, rfl, h1, R.cls, R.nF, rfl, _, rfl, b, C, dx', _, _, rfl, h3, R.cls, R.nF, rfl, ?_⟩
    exact ⟨⟨fa, fa', xs, xs', rfl, rfl, h5, h7, prs_fd h6 h8⟩, fun H' e => q H' e⟩
end
end Lw

namespace Lw
open PySem PySem.Spec PyProof.Rows L2 Mq
open SX (S)
/-! ### the law -/
def spLaw (K : PySem.W.Frag) : Sp := fun vs H Q _ => ∃ (a : Addr) (ns : List Int), vs = [.ref a] ∧ SqL K H a (ns.map V.int) ∧ ns.length ≤ 63 ∧ ∀ H', Q (.bl true) H'
def farF : List Fd := [⟨97, 98, []⟩]
theorem far_ok : FsOk [97, 98] farF := by
  refine ⟨by decide, fun f hf => ?_, fun i j hij hj => ?_⟩
  · rw [List.mem_singleton.mp hf]
    exact ⟨by decide, by decide, Or.inl rfl⟩
  · have : farF.length = 1 := rfl
    omega
def farAB : List Nat := (List.replicate 100 [97, 98]).flatten
def farB : List Nat := List.replicate 60 98
def farA : List Nat := List.replicate 60 97
theorem rep_far : repS "ab" 100 = S farAB ∧ repS "b" 60 = S farB ∧ repS "a" 60 = S farA := by
  refine ⟨by decide +kernel, by decide +kernel, by decide +kernel⟩
theorem led_far : ledM farF farB farAB = farB ∧ ledM farF [] (farA ++ farB) = [] := by
  refine ⟨by decide +kernel, by decide +kernel⟩
theorem FdAll.off {K : PySem.W.Frag} {D C : Addr} {T : Nat} {H H' : Hp} {xs : List V} {fs : List Fd} (h : FdAll K H xs fs) (f : Off D C H H') (k : DeckAt D C T H) : FdAll K H' xs fs := h.kp (KpT.off f k)
section
variable {P : Program} {w : World} {K : PySem.W.Frag} {mg : Str → Option Value} {base : Heap} {C CW : Addr}
theorem ok_law {f fI fD fO fK fR fX fZ fL fQ : Addr} {fd fdI fdD fdO fdK fdR fdX fdZ fdL fdQ : FuncData} (F : Fun K "law" "law" s_law f fd) (B : Blt mg) (R : BkC K C)
    (gC : mg "Book" = some (.ref C)) (M : Mk K C fI) (bI : Binds K fdI ["self", "letters", "folds"] []) (GI : FnOk P w K mg base CX0 3 fI fdI ["self", "letters", "folds"] (spBook K C))
    (qf : PySem.W.findIn K (.ref C) "__eq__" = some (some (.ref fQ))) (qi : PySem.W.isFn K (.ref fQ) = true) (bQ : Binds K fdQ ["self", "other"] []) (GQ : FnOk P w K mg base CX0 3 fQ fdQ ["self", "other"] (spEq (EqB K C)))
    (FD : Fun K "_law_deck" "_law_deck" s__law_deck fD fdD) (gD : mg "_law_deck" = some (.ref fD)) (bD : Binds K fdD ["_law_script"] []) (GD : FnOk P w K mg base CX0 1 fD fdD ["_law_script"] (spDeck K))
    (FO : Fun K "_law_world" "_law_world" s__law_world fO fdO) (gO : mg "_law_world" = some (.ref fO)) (bO : Binds K fdO ["_law_deck_here"] []) (GO : FnOk P w K mg base CX0 3 fO fdO ["_law_deck_here"] spWorld)
    (FK : Fun K "_law_code" "_law_code" s__law_code fK fdK) (gK : mg "_law_code" = some (.ref fK)) (bK : Binds K fdK ["_law_w"] []) (GK : FnOk P w K mg base CX0 5 fK fdK ["_law_w"] (spCode K C))
    (FR : Fun K "_law_led_right" "_law_led_right" s__law_led_right fR fdR) (gR : mg "_law_led_right" = some (.ref fR)) (bR : Binds K fdR ["_law_deck_here", "_law_w", "_law_code_here"] []) (GR : FnG P w K mg base CX0 7 fR fdR ["_law_deck_here", "_law_w", "_law_code_here"] (spLedRight K C))
    (FX : Fun K "_law_refused_right" "_law_refused_right" s__law_refused_right fX fdX) (gX : mg "_law_refused_right" = some (.ref fX)) (bX : Binds K fdX ["_law_deck_here", "_law_w", "_law_code_here"] []) (GX : FnG P w K mg base CX0 7 fX fdX ["_law_deck_here", "_law_w", "_law_code_here"] (spRefused K C))
    (FZ : Fun K "_law_order_right" "_law_order_right" s__law_order_right fZ fdZ) (gZ : mg "_law_order_right" = some (.ref fZ)) (bZ : Binds K fdZ ["_law_deck_here"] []) (GZ : FnG P w K mg base CX0 4 fZ fdZ ["_law_deck_here"] spOrder)
    (FL : Fun K "led" "led" s_led fL fdL) (gL : mg "led" = some (.ref fL)) (bL : Binds K fdL ["book", "web", "row"] []) (GL : FnOk P w K mg base (L2.CX P w) 4 fL fdL ["book", "web", "row"] (spLed K C CW)) :
    FnG P w K mg base CX0 8 f fd ["_law_script"] (spLaw K) := by
  refine Mq.Fun.okG F sc_law (fun vs H Q E h => ?_) (fun cdv A outer s H vs Q E gA hr h => ?_)
  · obtain ⟨_, _, rfl, _⟩ := h
    rfl
  · obtain ⟨a, ns0, rfl, ha, hn0, q⟩ := h
    have hr4 : Room 4 (A.deeper (envOfC "law" (defScope s_law) s.heap.objs.size f cdv)) := hr.mono (by decide)
    have hr3 : Room 3 (A.deeper (envOfC "law" (defScope s_law) s.heap.objs.size f cdv)) := hr.mono (by decide)
    refine ⟨_, (pss_cons (ps_set (i := 1) sc_law.nd rfl (Or.inl rfl) (pe_call GD (hr.mono (by decide)) (by rfl) gD FD.kp bD .nil pass0 (pa_cons (pv 0) pa_nil)))
      (pss_cons (ps_for (passes_of rfl) rfl (pi_range1 (by rfl) B.range (pa_cons pe_int pa_nil)) (pg_name (i := 2) sc_law.nd rfl (Or.inl rfl))
        (pss_cons (ps_set (i := 3) sc_law.nd rfl (Or.inl rfl) (pe_call GO (hr.mono (by decide)) (by rfl) gO FO.kp bO .nil pass0 (pa_cons (pv 1) pa_nil)))
        (pss_cons (ps_set (i := 4) sc_law.nd rfl (Or.inl rfl) (pe_call GK (hr.mono (by decide)) (by rfl) gK FK.kp bK .nil pass0 (pa_cons (pv 3) pa_nil)))
        (pss_cons (ps_if (PW.pt (pw_or (pt_not (pt_val (Mq.pe_callG GR gA (hr.mono (by decide)) (by rfl) gR FR.kp bR pass0 (pa_cons (pv 1) (pa_cons (pv 3) (pa_cons (pv 4) pa_nil)))))) (pw_or (pt_not (pt_val (Mq.pe_callG GX gA (hr.mono (by decide)) (by rfl) gX FX.kp bX pass0 (pa_cons (pv 1) (pa_cons (pv 3) (pa_cons (pv 4) pa_nil)))))) (pw_or1 (pt_not (pt_val (Mq.pe_callG GZ gA (hr.mono (by decide)) (by rfl) gZ FZ.kp bZ pass0 (pa_cons (pv 1) pa_nil)))))))) (pss_one (ps_ret pe_bl)) pss_nil)
        (pss_one (ps_if (pt_not (pt_cmpR (op_eqG (rcG_ins (E := fun _ _ _ => False) GQ qf qi bQ pass0) hr3) (pv 4) (pe_call GK (hr.mono (by decide)) (by rfl) gK FK.kp bK .nil pass0 (pa_cons (pv 3) pa_nil)) (nomark _))) (pss_one (ps_ret pe_bl)) pss_nil))))))
      (pss_cons (ps_par (i := 5) (j := 6) rfl sc_law.nd rfl rfl (by decide) rfl rfl (pa_cons (pe_make M GI (hr.mono (by decide)) (by rfl) gC bI .nil pass0 (pa_cons pe_str (pa_cons (pe_tup (pa_cons (pe_tup (pa_cons pe_str (pa_cons pe_str (pa_cons pe_str pa_nil)))) pa_nil)) pa_nil))) (pa_cons (pe_op op_mulS pe_str pe_int) pa_nil)) (by rfl))
      (pss_one (ps_ret (pe_and (pe_cmpR op_eq (pe_callS (E := WE (fun _ _ _ _ => False)) GL hr4 (by rfl) gL FL.kp bL (fun σ => passAt takes0 σ) (pa_cons (pv 5) (pa_cons (pe_op op_mulS pe_str pe_int) (pa_cons (pv 6) pa_nil)))) (pe_op op_mulS pe_str pe_int) (nomark _)) (pe_one (pe_cmpR op_eq (pe_callS (E := WE (fun _ _ _ _ => False)) GL hr4 (by rfl) gL FL.kp bL (fun σ => passAt takes0 σ) (pa_cons (pv 5) (pa_cons pe_str (pa_cons (pe_op op_add_str (pe_op op_mulS pe_str pe_int) (pe_op op_mulS pe_str pe_int)) pa_nil)))) pe_str (nomark _))))))))), ?_⟩
    refine ⟨_, rfl, a, ns0, rfl, ha, hn0, fun H1 D Cc s1 dk1 => ?_⟩
    refine ⟨3, rfl, by decide, by decide, ?_⟩
    refine for_it (walk_rng (n := 3)) (fun go σ H' => DeckAt D Cc (200 * go) H' ∧ ∃ o2 o3 o4 o5 o6, σ = [some (.ref a), some (.ref D), o2, o3, o4, o5, o6]) ⟨dk1, _, _, _, _, _, rfl⟩ (fun _ _ _ _ _ => trivial) ?_ ?_
    · rintro go x0 σ H2 H2' hgo ⟨dk2, o2, o3, o4, o5, o6, rfl⟩ ⟨rfl, rfl⟩
      refine ⟨_, rfl, D, Cc, _, rfl, dk2, by omega, fun H3 wd ld sg gs hm hgs hw3 dk3 _ => ?_⟩
      obtain ⟨hs, _, _⟩ := menu_ok sg hm
      refine ⟨_, rfl, wd, ld, sg, gs, rfl, hw3, hgs, hs, fun H4 r fa ta fs xs hp hasc hfs hb4 hfa4 hal4 s4 => ?_⟩
      have dk4 := dk3.same s4
      have hw4 := hw3.same s4
      refine ⟨_, rfl, _, rfl, _, rfl, D, Cc, _, wd, ld, r, fa, ta, sg, gs, fs, rfl, dk4, by omega, hw4, hgs, hs, hp, hfs, hb4, fun H5 dk5 off5 => ⟨true, rfl, ifF rfl ?_⟩⟩
      have hw5 := hw4.off off5 dk4
      have hb5 := hb4.off off5 dk4
      have hfa5 := off5.tup dk4 hfa4
      have hal5 := hal4.off off5 dk4
      refine ⟨_, rfl, _, rfl, _, rfl, D, Cc, _, wd, ld, r, fa, ta, sg, gs, fs, rfl, dk5, by omega, hw5, hgs, hm, hp, hfs, hb5, fun H6 dk6 off6 => ⟨true, rfl, ifF rfl ?_⟩⟩
      have hw6 := hw5.off off6 dk5
      have hb6 := hb5.off off6 dk5
      have hfa6 := off6.tup dk5 hfa5
      have hal6 := hal5.off off6 dk5
      refine ⟨_, rfl, D, Cc, _, rfl, dk6, by omega, fun H7 dk7 off7 => ⟨true, rfl, ifF rfl ?_⟩⟩
      have hw7 := hw6.off off7 dk6
      have hb7 := hb6.off off7 dk6
      have hfa7 := off7.tup dk6 hfa6
      have hal7 := hal6.off off7 dk6
      refine ⟨_, rfl, _, rfl, wd, ld, sg, gs, rfl, hw7, hgs, hs, fun H8 r' fa' ta' fs' xs' hp' hasc' hfs' hb8 hfa8 hal8 s8 => ?_⟩
      have ef : fs' = fs := asc_uniq hasc' hasc (hp'.trans hp.symm)
      subst ef
      have hb78 := hb7.same s8
      obtain ⟨⟨dx, i1⟩, j1⟩ := hb78
      obtain ⟨⟨dx', i2⟩, j2⟩ := hb8
      refine ⟨⟨r, r', dx, dx', _, _, rfl, rfl, i1, i2, sg, _, fa, ta, fa', ta', xs, xs', ⟨⟨dx, i1⟩, j1⟩, ⟨⟨dx', i2⟩, j2⟩, Same.tup s8 hfa7, hal7.kp (KpT.same s8), hfa8, hal8⟩, fun H9 e9 => ⟨true, rfl, ifF rfl ?_⟩⟩
      exact ⟨((dk7.same s8).same e9).mono (by omega), _, _, _, _, _, rfl⟩
    · rintro σ H2 ⟨dk2, o2, o3, o4, o5, o6, rfl⟩
      obtain ⟨hs, _, _⟩ := menu_ok [97, 98] (by decide)
      obtain ⟨r1, r2, r3⟩ := rep_far
      obtain ⟨l1, l2⟩ := led_far
      have e0 : V.str "ab" = V.str (S [97, 98]) := by decide +kernel
      have e1 : [V.str "a", V.str "b", V.str ""] = fdV ⟨97, 98, []⟩ := by decide +kernel
      refine ⟨sz_le (n := 3) (by decide), fun p1 hp1 => ⟨sz_le (n := 1) (by decide), fun p2 hp2 => ?_⟩⟩
      rw [e1] at hp2 ⊢
      have z1 : SqT K (upd H2 p1 (.tup (fdV ⟨97, 98, []⟩))) p1 (fdV ⟨97, 98, []⟩) := Or.inl (Or.inl upd_same)
      generalize upd H2 p1 (.tup (fdV ⟨97, 98, []⟩)) = G1 at z1 hp2 ⊢
      have z1 := Same.tup (same_new (o := HO.tup [V.ref p1]) hp2) z1
      have z2 : SqT K (upd G1 p2 (.tup [V.ref p1])) p2 [V.ref p1] := Or.inl (Or.inl upd_same)
      generalize upd G1 p2 (.tup [V.ref p1]) = G2 at z1 z2 ⊢
      have za : FdAll K G2 [V.ref p1] farF := .cons ⟨p1, rfl, z1⟩ .nil
      refine fun x dx hx hdx hne => ⟨x, dx, p2, [97, 98], farF, [V.ref p1], by rw [← e0]; rfl, upd_same, ?_, ?_, far_ok, hs, fun G3 ta hbk keep => ⟨rfl, ?_⟩⟩
      · exact Same.tup (same_new ((upd_ne (Ne.symm hne)).trans hx)) (Same.tup (same_new hdx) z2)
      · exact (za.kp (KpT.same (same_new hdx))).kp (KpT.same (same_new ((upd_ne (Ne.symm hne)).trans hx)))
      refine ⟨"ab", 100, rfl, rfl, by decide, by decide, by decide +kernel, by decide +kernel, by rw [r1]; decide +kernel, ?_⟩
      rw [r1]
      refine ⟨_, _, rfl, ?_⟩
      have wB : WebGood [97, 98] (.str (S farB)) farB := ⟨rfl, by decide +kernel, by decide +kernel⟩
      have wAB : WebGood [97, 98] (.str (S farAB)) farAB := ⟨rfl, by decide +kernel, by decide +kernel⟩
      refine ⟨_, rfl, "b", 60, rfl, rfl, by decide, by decide, by decide +kernel, by decide +kernel, by rw [r2]; decide +kernel, ?_⟩
      rw [r2]
      refine ⟨_, rfl, x, p2, ta, [97, 98], farF, _, _, rfl, hbk, far_ok, Or.inl ⟨_, _, wB, wAB, fun G4 s4 => ?_⟩⟩
      refine ⟨"b", 60, rfl, rfl, by decide, by decide, by decide +kernel, by decide +kernel, by rw [r2]; decide +kernel, ?_⟩
      rw [r2, l1]
      refine ⟨rfl, _, rfl, ifT (decide_eq_true rfl) ?_⟩
      have w0 : WebGood [97, 98] (.str "") [] := ⟨rfl, (fun _ z => by cases z), Nat.zero_le _⟩
      have wABc : WebGood [97, 98] (.str (S farA ++ S farB)) (farA ++ farB) := ⟨congrArg V.str (SX.S_cat _ _), by decide +kernel, by decide +kernel⟩
      refine ⟨_, rfl, "a", 60, rfl, rfl, by decide, by decide, by decide +kernel, by decide +kernel, by rw [r3]; decide +kernel, ?_⟩
      rw [r3]
      refine ⟨"b", 60, rfl, rfl, by decide, by decide, by decide +kernel, by decide +kernel, by rw [r2]; decide +kernel, ?_⟩
      rw [r2]
      refine ⟨S farA, S farB, rfl, rfl, by decide +kernel, x, p2, ta, [97, 98], farF, _, _, rfl, hbk.same s4, far_ok, Or.inl ⟨_, _, w0, wABc, fun G5 s5 => ?_⟩⟩
      rw [l2]
      exact ⟨rfl, q _⟩
end
end Lw

namespace Lw
open PySem PySem.Spec PyProof.Rows L2 Mq
open SX (S)
theorem exm_self {K : PySem.W.Frag} {D : Addr} (e1 : PySem.W.subIn K (.ref D) (.type "BaseException") = some true) (e2 : PySem.W.isClsIn K D = true) (e3 : PySem.W.typeIn K (.ref D) = some (.type "type"))
    (e4 : PySem.W.subIn K (.ref D) (.ref D) = some true) : PySem.W.exmOne K (.ref D) (.ref D) = some true := by
  have e5 : (PySem.W.clsIn K D).isSome = true := e2
  simp [PySem.W.exmOne, PySem.W.kitCls, e1, e3, e4, e5]
section
variable {K : PySem.W.Frag} {nm q : Str} {C CM N : Addr} {bs : List Value} {sn : List Str} {sub : List Value} {ab : Bool} {col : Option Bool} {dd : Option Addr} {m0 m1 m2 m3 m5 : Option Value}
theorem exc_init (h : K.lookup C = some (excClassObj nm q C N bs [.ref CM, .type "Exception", .type "BaseException", .type "object"] true sn sub ab col dd m0 m1 m2 m3 m5 "Exception.__new__")) :
    PySem.W.excInitIn K C exTail "Exception.__new__" = true := by
  unfold PySem.W.excInitIn
  rw [h]
  simp [excClassObj, PySem.W.excTail, exTail]
theorem exc_over (h : K.lookup C = some (excClassObj nm q C N bs [.ref CM, .type "Exception", .type "BaseException", .type "object"] true sn sub ab col dd m0 m1 m2 m3 m5 "Exception.__new__")) :
    PySem.W.excOver K C exTail = true := by
  unfold PySem.W.excOver PySem.W.clsIn
  rw [h]
  simp [excClassObj, PySem.W.excTail, exTail]
end
theorem all_mk {P : Program} {w : World} {K : PySem.W.Frag} {h : Heap} {mg : Str → Option Value} {fa CR CW CM fB : Addr} (X : K.In h) (G : h.Ns mainGlobals mg) (hfa : mg "law" = some (.ref fa))
    (aC : PySem.W.nsIn K mainGlobals "Book" = some (some (.ref CR)))
    (aW : PySem.W.nsIn K mainGlobals "BadWeb" = some (some (.ref CW)))
    (aM : PySem.W.nsIn K mainGlobals "MillError" = some (some (.ref CM)))
    {nmW qW : Str} {NW : Addr} {bsW : List Value} {snW : List Str} {subW : List Value} {abW : Bool} {colW : Option Bool} {ddW : Option Addr} {m0 m1 m2 m3 m5 : Option Value}
    {f0 : Addr} {od0 an0 : Option Addr} {sl0 : Array (Option Value)} {oc0 kV0 dc0 pm0 cd0 ct0 : Value}
    (a0 : PySem.W.nsIn K mainGlobals "is_letters" = some (some (.ref f0)))
    (l0 : K.lookup f0 = some ⟨oc0, od0, .func (PySem.W.fnOf "is_letters" "is_letters" (defArgs s_is_letters) (defBody s_is_letters) (defScope s_is_letters) .none kV0 dc0 pm0 an0 cd0 ct0), sl0⟩)
    (c0 : PySem.W.codeIn K cd0 "is_letters" = true) (k0 : PySem.W.keepIn K (.ref f0) = true)
    {f1 : Addr} {od1 an1 : Option Addr} {sl1 : Array (Option Value)} {oc1 kV1 dc1 pm1 cd1 ct1 : Value}
    (a1 : PySem.W.nsIn K mainGlobals "is_letter" = some (some (.ref f1)))
    (l1 : K.lookup f1 = some ⟨oc1, od1, .func (PySem.W.fnOf "is_letter" "is_letter" (defArgs s_is_letter) (defBody s_is_letter) (defScope s_is_letter) .none kV1 dc1 pm1 an1 cd1 ct1), sl1⟩)
    (c1 : PySem.W.codeIn K cd1 "is_letter" = true) (k1 : PySem.W.keepIn K (.ref f1) = true)
    {f2 : Addr} {od2 an2 : Option Addr} {sl2 : Array (Option Value)} {oc2 kV2 dc2 pm2 cd2 ct2 : Value}
    (a2 : PySem.W.nsIn K mainGlobals "is_word" = some (some (.ref f2)))
    (l2 : K.lookup f2 = some ⟨oc2, od2, .func (PySem.W.fnOf "is_word" "is_word" (defArgs s_is_word) (defBody s_is_word) (defScope s_is_word) .none kV2 dc2 pm2 an2 cd2 ct2), sl2⟩)
    (c2 : PySem.W.codeIn K cd2 "is_word" = true) (k2 : PySem.W.keepIn K (.ref f2) = true)
    {f3 : Addr} {od3 an3 : Option Addr} {sl3 : Array (Option Value)} {oc3 kV3 dc3 pm3 cd3 ct3 : Value}
    (a3 : PySem.W.nsIn K mainGlobals "is_ascending" = some (some (.ref f3)))
    (l3 : K.lookup f3 = some ⟨oc3, od3, .func (PySem.W.fnOf "is_ascending" "is_ascending" (defArgs s_is_ascending) (defBody s_is_ascending) (defScope s_is_ascending) .none kV3 dc3 pm3 an3 cd3 ct3), sl3⟩)
    (c3 : PySem.W.codeIn K cd3 "is_ascending" = true) (k3 : PySem.W.keepIn K (.ref f3) = true)
    {f4 : Addr} {od4 an4 : Option Addr} {sl4 : Array (Option Value)} {oc4 kV4 dc4 pm4 cd4 ct4 : Value}
    (a4 : PySem.W.nsIn K mainGlobals "is_fold" = some (some (.ref f4)))
    (l4 : K.lookup f4 = some ⟨oc4, od4, .func (PySem.W.fnOf "is_fold" "is_fold" (defArgs s_is_fold) (defBody s_is_fold) (defScope s_is_fold) .none kV4 dc4 pm4 an4 cd4 ct4), sl4⟩)
    (c4 : PySem.W.codeIn K cd4 "is_fold" = true) (k4 : PySem.W.keepIn K (.ref f4) = true)
    {f5 : Addr} {od5 an5 : Option Addr} {sl5 : Array (Option Value)} {oc5 kV5 dc5 pm5 cd5 ct5 : Value}
    (a5 : PySem.W.nsIn K mainGlobals "is_web" = some (some (.ref f5)))
    (l5 : K.lookup f5 = some ⟨oc5, od5, .func (PySem.W.fnOf "is_web" "is_web" (defArgs s_is_web) (defBody s_is_web) (defScope s_is_web) .none kV5 dc5 pm5 an5 cd5 ct5), sl5⟩)
    (c5 : PySem.W.codeIn K cd5 "is_web" = true) (k5 : PySem.W.keepIn K (.ref f5) = true)
    {f6 : Addr} {od6 an6 : Option Addr} {sl6 : Array (Option Value)} {oc6 kV6 dc6 pm6 cd6 ct6 : Value}
    (a6 : PySem.W.nsIn K mainGlobals "is_ahead" = some (some (.ref f6)))
    (l6 : K.lookup f6 = some ⟨oc6, od6, .func (PySem.W.fnOf "is_ahead" "is_ahead" (defArgs s_is_ahead) (defBody s_is_ahead) (defScope s_is_ahead) .none kV6 dc6 pm6 an6 cd6 ct6), sl6⟩)
    (c6 : PySem.W.codeIn K cd6 "is_ahead" = true) (k6 : PySem.W.keepIn K (.ref f6) = true)
    {f7 : Addr} {od7 an7 : Option Addr} {sl7 : Array (Option Value)} {oc7 kV7 dc7 pm7 cd7 ct7 : Value}
    (a7 : PySem.W.nsIn K mainGlobals "check_web" = some (some (.ref f7)))
    (l7 : K.lookup f7 = some ⟨oc7, od7, .func (PySem.W.fnOf "check_web" "check_web" (defArgs s_check_web) (defBody s_check_web) (defScope s_check_web) .none kV7 dc7 pm7 an7 cd7 ct7), sl7⟩)
    (c7 : PySem.W.codeIn K cd7 "check_web" = true) (k7 : PySem.W.keepIn K (.ref f7) = true)
    {f8 : Addr} {od8 an8 : Option Addr} {sl8 : Array (Option Value)} {oc8 kV8 dc8 pm8 cd8 ct8 : Value}
    (a8 : PySem.W.nsIn K mainGlobals "laid_on" = some (some (.ref f8)))
    (l8 : K.lookup f8 = some ⟨oc8, od8, .func (PySem.W.fnOf "laid_on" "laid_on" (defArgs s_laid_on) (defBody s_laid_on) (defScope s_laid_on) .none kV8 dc8 pm8 an8 cd8 ct8), sl8⟩)
    (c8 : PySem.W.codeIn K cd8 "laid_on" = true) (k8 : PySem.W.keepIn K (.ref f8) = true)
    {f9 : Addr} {od9 an9 : Option Addr} {sl9 : Array (Option Value)} {oc9 kV9 dc9 pm9 cd9 ct9 : Value}
    (a9 : PySem.W.nsIn K mainGlobals "led" = some (some (.ref f9)))
    (l9 : K.lookup f9 = some ⟨oc9, od9, .func (PySem.W.fnOf "led" "led" (defArgs s_led) (defBody s_led) (defScope s_led) .none kV9 dc9 pm9 an9 cd9 ct9), sl9⟩)
    (c9 : PySem.W.codeIn K cd9 "led" = true) (k9 : PySem.W.keepIn K (.ref f9) = true)
    {f10 : Addr} {od10 an10 : Option Addr} {sl10 : Array (Option Value)} {oc10 kV10 dc10 pm10 cd10 ct10 : Value}
    (a10 : PySem.W.nsIn K mainGlobals "laid_behind" = some (some (.ref f10)))
    (l10 : K.lookup f10 = some ⟨oc10, od10, .func (PySem.W.fnOf "laid_behind" "laid_behind" (defArgs s_laid_behind) (defBody s_laid_behind) (defScope s_laid_behind) .none kV10 dc10 pm10 an10 cd10 ct10), sl10⟩)
    (c10 : PySem.W.codeIn K cd10 "laid_behind" = true) (k10 : PySem.W.keepIn K (.ref f10) = true)
    {f11 : Addr} {od11 an11 : Option Addr} {sl11 : Array (Option Value)} {oc11 kV11 dc11 pm11 cd11 ct11 : Value}
    (a11 : PySem.W.nsIn K mainGlobals "_law_deck" = some (some (.ref f11)))
    (l11 : K.lookup f11 = some ⟨oc11, od11, .func (PySem.W.fnOf "_law_deck" "_law_deck" (defArgs s__law_deck) (defBody s__law_deck) (defScope s__law_deck) .none kV11 dc11 pm11 an11 cd11 ct11), sl11⟩)
    (c11 : PySem.W.codeIn K cd11 "_law_deck" = true) (k11 : PySem.W.keepIn K (.ref f11) = true)
    {f12 : Addr} {od12 an12 : Option Addr} {sl12 : Array (Option Value)} {oc12 kV12 dc12 pm12 cd12 ct12 : Value}
    (a12 : PySem.W.nsIn K mainGlobals "_law_draw" = some (some (.ref f12)))
    (l12 : K.lookup f12 = some ⟨oc12, od12, .func (PySem.W.fnOf "_law_draw" "_law_draw" (defArgs s__law_draw) (defBody s__law_draw) (defScope s__law_draw) .none kV12 dc12 pm12 an12 cd12 ct12), sl12⟩)
    (c12 : PySem.W.codeIn K cd12 "_law_draw" = true) (k12 : PySem.W.keepIn K (.ref f12) = true)
    {f13 : Addr} {od13 an13 : Option Addr} {sl13 : Array (Option Value)} {oc13 kV13 dc13 pm13 cd13 ct13 : Value}
    (a13 : PySem.W.nsIn K mainGlobals "_law_pick" = some (some (.ref f13)))
    (l13 : K.lookup f13 = some ⟨oc13, od13, .func (PySem.W.fnOf "_law_pick" "_law_pick" (defArgs s__law_pick) (defBody s__law_pick) (defScope s__law_pick) .none kV13 dc13 pm13 an13 cd13 ct13), sl13⟩)
    (c13 : PySem.W.codeIn K cd13 "_law_pick" = true) (k13 : PySem.W.keepIn K (.ref f13) = true)
    {f14 : Addr} {od14 an14 : Option Addr} {sl14 : Array (Option Value)} {oc14 kV14 dc14 pm14 cd14 ct14 : Value}
    (a14 : PySem.W.nsIn K mainGlobals "_law_world" = some (some (.ref f14)))
    (l14 : K.lookup f14 = some ⟨oc14, od14, .func (PySem.W.fnOf "_law_world" "_law_world" (defArgs s__law_world) (defBody s__law_world) (defScope s__law_world) .none kV14 dc14 pm14 an14 cd14 ct14), sl14⟩)
    (c14 : PySem.W.codeIn K cd14 "_law_world" = true) (k14 : PySem.W.keepIn K (.ref f14) = true)
    {f15 : Addr} {od15 an15 : Option Addr} {sl15 : Array (Option Value)} {oc15 kV15 dc15 pm15 cd15 ct15 : Value}
    (a15 : PySem.W.nsIn K mainGlobals "_law_code" = some (some (.ref f15)))
    (l15 : K.lookup f15 = some ⟨oc15, od15, .func (PySem.W.fnOf "_law_code" "_law_code" (defArgs s__law_code) (defBody s__law_code) (defScope s__law_code) .none kV15 dc15 pm15 an15 cd15 ct15), sl15⟩)
    (c15 : PySem.W.codeIn K cd15 "_law_code" = true) (k15 : PySem.W.keepIn K (.ref f15) = true)
    {f16 : Addr} {od16 an16 : Option Addr} {sl16 : Array (Option Value)} {oc16 kV16 dc16 pm16 cd16 ct16 : Value}
    (a16 : PySem.W.nsIn K mainGlobals "_law_web" = some (some (.ref f16)))
    (l16 : K.lookup f16 = some ⟨oc16, od16, .func (PySem.W.fnOf "_law_web" "_law_web" (defArgs s__law_web) (defBody s__law_web) (defScope s__law_web) .none kV16 dc16 pm16 an16 cd16 ct16), sl16⟩)
    (c16 : PySem.W.codeIn K cd16 "_law_web" = true) (k16 : PySem.W.keepIn K (.ref f16) = true)
    {f17 : Addr} {od17 an17 : Option Addr} {sl17 : Array (Option Value)} {oc17 kV17 dc17 pm17 cd17 ct17 : Value}
    (a17 : PySem.W.nsIn K mainGlobals "_law_laid" = some (some (.ref f17)))
    (l17 : K.lookup f17 = some ⟨oc17, od17, .func (PySem.W.fnOf "_law_laid" "_law_laid" (defArgs s__law_laid) (defBody s__law_laid) (defScope s__law_laid) .none kV17 dc17 pm17 an17 cd17 ct17), sl17⟩)
    (c17 : PySem.W.codeIn K cd17 "_law_laid" = true) (k17 : PySem.W.keepIn K (.ref f17) = true)
    {f18 : Addr} {od18 an18 : Option Addr} {sl18 : Array (Option Value)} {oc18 kV18 dc18 pm18 cd18 ct18 : Value}
    (a18 : PySem.W.nsIn K mainGlobals "_law_led" = some (some (.ref f18)))
    (l18 : K.lookup f18 = some ⟨oc18, od18, .func (PySem.W.fnOf "_law_led" "_law_led" (defArgs s__law_led) (defBody s__law_led) (defScope s__law_led) .none kV18 dc18 pm18 an18 cd18 ct18), sl18⟩)
    (c18 : PySem.W.codeIn K cd18 "_law_led" = true) (k18 : PySem.W.keepIn K (.ref f18) = true)
    {f19 : Addr} {od19 an19 : Option Addr} {sl19 : Array (Option Value)} {oc19 kV19 dc19 pm19 cd19 ct19 : Value}
    (a19 : PySem.W.nsIn K mainGlobals "_law_is_web" = some (some (.ref f19)))
    (l19 : K.lookup f19 = some ⟨oc19, od19, .func (PySem.W.fnOf "_law_is_web" "_law_is_web" (defArgs s__law_is_web) (defBody s__law_is_web) (defScope s__law_is_web) .none kV19 dc19 pm19 an19 cd19 ct19), sl19⟩)
    (c19 : PySem.W.codeIn K cd19 "_law_is_web" = true) (k19 : PySem.W.keepIn K (.ref f19) = true)
    {f20 : Addr} {od20 an20 : Option Addr} {sl20 : Array (Option Value)} {oc20 kV20 dc20 pm20 cd20 ct20 : Value}
    (a20 : PySem.W.nsIn K mainGlobals "_law_heard" = some (some (.ref f20)))
    (l20 : K.lookup f20 = some ⟨oc20, od20, .func (PySem.W.fnOf "_law_heard" "_law_heard" (defArgs s__law_heard) (defBody s__law_heard) (defScope s__law_heard) .none kV20 dc20 pm20 an20 cd20 ct20), sl20⟩)
    (c20 : PySem.W.codeIn K cd20 "_law_heard" = true) (k20 : PySem.W.keepIn K (.ref f20) = true)
    {f21 : Addr} {od21 an21 : Option Addr} {sl21 : Array (Option Value)} {oc21 kV21 dc21 pm21 cd21 ct21 : Value}
    (a21 : PySem.W.nsIn K mainGlobals "_law_due" = some (some (.ref f21)))
    (l21 : K.lookup f21 = some ⟨oc21, od21, .func (PySem.W.fnOf "_law_due" "_law_due" (defArgs s__law_due) (defBody s__law_due) (defScope s__law_due) .none kV21 dc21 pm21 an21 cd21 ct21), sl21⟩)
    (c21 : PySem.W.codeIn K cd21 "_law_due" = true) (k21 : PySem.W.keepIn K (.ref f21) = true)
    {f22 : Addr} {od22 an22 : Option Addr} {sl22 : Array (Option Value)} {oc22 kV22 dc22 pm22 cd22 ct22 : Value}
    (a22 : PySem.W.nsIn K mainGlobals "_law_led_right" = some (some (.ref f22)))
    (l22 : K.lookup f22 = some ⟨oc22, od22, .func (PySem.W.fnOf "_law_led_right" "_law_led_right" (defArgs s__law_led_right) (defBody s__law_led_right) (defScope s__law_led_right) .none kV22 dc22 pm22 an22 cd22 ct22), sl22⟩)
    (c22 : PySem.W.codeIn K cd22 "_law_led_right" = true) (k22 : PySem.W.keepIn K (.ref f22) = true)
    {f23 : Addr} {od23 an23 : Option Addr} {sl23 : Array (Option Value)} {oc23 kV23 dc23 pm23 cd23 ct23 : Value}
    (a23 : PySem.W.nsIn K mainGlobals "_law_refused_right" = some (some (.ref f23)))
    (l23 : K.lookup f23 = some ⟨oc23, od23, .func (PySem.W.fnOf "_law_refused_right" "_law_refused_right" (defArgs s__law_refused_right) (defBody s__law_refused_right) (defScope s__law_refused_right) .none kV23 dc23 pm23 an23 cd23 ct23), sl23⟩)
    (c23 : PySem.W.codeIn K cd23 "_law_refused_right" = true) (k23 : PySem.W.keepIn K (.ref f23) = true)
    {f24 : Addr} {od24 an24 : Option Addr} {sl24 : Array (Option Value)} {oc24 kV24 dc24 pm24 cd24 ct24 : Value}
    (a24 : PySem.W.nsIn K mainGlobals "_law_order_right" = some (some (.ref f24)))
    (l24 : K.lookup f24 = some ⟨oc24, od24, .func (PySem.W.fnOf "_law_order_right" "_law_order_right" (defArgs s__law_order_right) (defBody s__law_order_right) (defScope s__law_order_right) .none kV24 dc24 pm24 an24 cd24 ct24), sl24⟩)
    (c24 : PySem.W.codeIn K cd24 "_law_order_right" = true) (k24 : PySem.W.keepIn K (.ref f24) = true)
    {f25 : Addr} {od25 an25 : Option Addr} {sl25 : Array (Option Value)} {oc25 kV25 dc25 pm25 cd25 ct25 : Value}
    (a25 : PySem.W.nsIn K mainGlobals "law" = some (some (.ref f25)))
    (l25 : K.lookup f25 = some ⟨oc25, od25, .func (PySem.W.fnOf "law" "law" (defArgs s_law) (defBody s_law) (defScope s_law) .none kV25 dc25 pm25 an25 cd25 ct25), sl25⟩)
    (c25 : PySem.W.codeIn K cd25 "law" = true) (k25 : PySem.W.keepIn K (.ref f25) = true)
    {finit : Addr} {odinit aninit : Option Addr} {slinit : Array (Option Value)} {ocinit kVinit dcinit pminit cdinit ctinit : Value}
    (ainit : PySem.W.findIn K (.ref CR) "__init__" = some (some (.ref finit))) (iinit : PySem.W.isFn K (.ref finit) = true)
    (linit : K.lookup finit = some ⟨ocinit, odinit, .func (PySem.W.fnOf "__init__" "Book.__init__" (defArgs s_Book___init__) (defBody s_Book___init__) (defScope s_Book___init__) .none kVinit dcinit pminit aninit cdinit ctinit), slinit⟩)
    (cinit : PySem.W.codeIn K cdinit "Book.__init__" = true) (kinit : PySem.W.keepIn K (.ref finit) = true)
    {fleft : Addr} {odleft anleft : Option Addr} {slleft : Array (Option Value)} {ocleft kVleft dcleft pmleft cdleft ctleft : Value}
    (aleft : PySem.W.findIn K (.ref CR) "left_of" = some (some (.ref fleft))) (ileft : PySem.W.isFn K (.ref fleft) = true)
    (lleft : K.lookup fleft = some ⟨ocleft, odleft, .func (PySem.W.fnOf "left_of" "Book.left_of" (defArgs s_Book_left_of) (defBody s_Book_left_of) (defScope s_Book_left_of) .none kVleft dcleft pmleft anleft cdleft ctleft), slleft⟩)
    (cleft : PySem.W.codeIn K cdleft "Book.left_of" = true) (kleft : PySem.W.keepIn K (.ref fleft) = true)
    {feq : Addr} {odeq aneq : Option Addr} {sleq : Array (Option Value)} {oceq kVeq dceq pmeq cdeq cteq : Value}
    (aeq : PySem.W.findIn K (.ref CR) "__eq__" = some (some (.ref feq))) (ieq : PySem.W.isFn K (.ref feq) = true)
    (leq : K.lookup feq = some ⟨oceq, odeq, .func (PySem.W.fnOf "__eq__" "Book.__eq__" (defArgs s_Book___eq__) (defBody s_Book___eq__) (defScope s_Book___eq__) .none kVeq dceq pmeq aneq cdeq cteq), sleq⟩)
    (ceq : PySem.W.codeIn K cdeq "Book.__eq__" = true) (keq : PySem.W.keepIn K (.ref feq) = true)
    (b_len : PySem.W.nsIn K mainGlobals "len" = some none)
    (b_range : PySem.W.nsIn K mainGlobals "range" = some none)
    (b_isinstance : PySem.W.nsIn K mainGlobals "isinstance" = some none)
    (b_all : PySem.W.nsIn K mainGlobals "all" = some none)
    (b_any : PySem.W.nsIn K mainGlobals "any" = some none)
    (b_int : PySem.W.nsIn K mainGlobals "int" = some none)
    (b_str : PySem.W.nsIn K mainGlobals "str" = some none)
    (b_bool : PySem.W.nsIn K mainGlobals "bool" = some none)
    (b_tuple : PySem.W.nsIn K mainGlobals "tuple" = some none)
    (b_list : PySem.W.nsIn K mainGlobals "list" = some none)
    (b_repr : PySem.W.nsIn K mainGlobals "repr" = some none)
    (b_enumerate : PySem.W.nsIn K mainGlobals "enumerate" = some none)
    (b_sorted : PySem.W.nsIn K mainGlobals "sorted" = some none)
    (b_min : PySem.W.nsIn K mainGlobals "min" = some none)
    (pg : PySem.W.plainGet K CR Str.empty = true)
    (hd : PySem.W.hasDictIn K CR = true)
    (po : PySem.W.plainOver K CR = true)
    (sa : PySem.W.findIn K (.ref CR) "__setattr__" = some (some (.builtin "object.__setattr__")))
    (mk : PySem.W.makesIn K CR = true)
    (kc : PySem.W.keepIn K (.ref CR) = true)
    (nL : PySem.W.findIn K (.ref CR) "letters" = some none)
    (nF : PySem.W.findIn K (.ref CR) "folds" = some none)
    (nT : PySem.W.findIn K (.ref CR) "table" = some none)
    (rca : PySem.W.findIn K (.ref CR) "__class__" = some (some (.builtin "object.__class__")))
    (rmo : PySem.W.mroIn K CR (.type "object") = some true)
    (rki : PySem.W.kitOne K (.ref CR) (.ref CR) = some true)
    (wk : PySem.W.keepIn K (.ref CW) = true)
    (wx : K.lookup CW = some (excClassObj nmW qW CW NW bsW [.ref CM, .type "Exception", .type "BaseException", .type "object"] true snW subW abW colW ddW m0 m1 m2 m3 m5 "Exception.__new__"))
    (wh : PySem.W.hasDictIn K CW = true)
    (wt : PySem.W.findIn K (.ref CW) "thing" = some none)
    (ws : PySem.W.findIn K (.ref CW) "__setattr__" = some (some (.builtin "object.__setattr__")))
    (wi : PySem.W.findIn K (.ref CW) "__init__" = some (some (.ref fB)))
    (wf : PySem.W.typeIn K (.ref fB) = some (.type "function"))
    (we : PySem.W.subIn K (.ref CW) (.type "BaseException") = some true)
    (wy : PySem.W.typeIn K (.ref CW) = some (.type "type"))
    (wg : PySem.W.findIn K (.ref CW) "__getattribute__" = some (some (.builtin "BaseException.__getattribute__")))
    (wa : PySem.W.findIn K (.ref CW) "__getattr__" = some none)
    (wc : PySem.W.isClsIn K CW = true)
    (wca : PySem.W.findIn K (.ref CW) "__class__" = some (some (.builtin "object.__class__")))
    (wsp : PySem.W.specialIn K (.builtin "object.__class__") "__get__" = some (some (.builtin "getset_descriptor.__get__")))
    (wtk : PySem.W.takesIn K (.builtin "object.__class__") = some true)
    (wmo : PySem.W.mroIn K CW (.type "object") = some true)
    (wss : PySem.W.subIn K (.ref CW) (.ref CW) = some true)
    (wkt : PySem.W.kitOne K (.ref CW) (.ref CM) = some true)
    {tA : Tok} (aA : PySem.W.nsIn K mainGlobals "ALPHABET" = some (some (.str "abcdefghijklmnopqrstuvwxyz" tA)))
    {odB anB : Option Addr} {slB : Array (Option Value)} {ocB dcB pmB cdB ctB : Value}
    (lB : K.lookup fB = some ⟨ocB, odB, .func (PySem.W.fnOf "__init__" "BadWeb.__init__" (MqE_thing.iA ⟨14, 17, 14, 21⟩ ⟨14, 23, 14, 28⟩) (MqE_thing.iB ⟨15, 8, 15, 12⟩ ⟨15, 8, 15, 18⟩ ⟨15, 21, 15, 26⟩ ⟨15, 8, 15, 26⟩) MqE_thing.iS .none .none dcB pmB anB cdB ctB), slB⟩) (cB : PySem.W.codeIn K cdB "BadWeb.__init__" = true) :
    ∃ fd : FuncData, (∀ (s : Shared) (u : Value), BindsTo s fd ⟨[u], []⟩ [("_law_script", u)]) ∧ ∀ base : Heap, K.In base → base.Ns mainGlobals mg → FnG P w K mg base CX0 8 fa fd ["_law_script"] (spLaw K) := by
  have e := hfa.symm.trans (PySem.W.mg_of X G a25)
  cases e
  have B : Blt mg := ⟨PySem.W.mg_none_of X G b_len, PySem.W.mg_none_of X G b_range, PySem.W.mg_none_of X G b_isinstance, PySem.W.mg_none_of X G b_all, PySem.W.mg_none_of X G b_any, PySem.W.mg_none_of X G b_int, PySem.W.mg_none_of X G b_str, PySem.W.mg_none_of X G b_bool, PySem.W.mg_none_of X G b_tuple, PySem.W.mg_none_of X G b_list, PySem.W.mg_none_of X G b_repr, PySem.W.mg_none_of X G b_enumerate⟩
  have F0 := fun_mk (st := s_is_letters) l0 c0 k0
  have g0 := PySem.W.mg_of X G a0
  have b0 := F0.binds (ps := ["thing"]) fun _ _ _ _ _ _ us hl => match us, hl with | [_], _ => rfl
  have F1 := fun_mk (st := s_is_letter) l1 c1 k1
  have g1 := PySem.W.mg_of X G a1
  have b1 := F1.binds (ps := ["letters", "thing"]) fun _ _ _ _ _ _ us hl => match us, hl with | [_, _], _ => rfl
  have F2 := fun_mk (st := s_is_word) l2 c2 k2
  have g2 := PySem.W.mg_of X G a2
  have b2 := F2.binds (ps := ["letters", "thing"]) fun _ _ _ _ _ _ us hl => match us, hl with | [_, _], _ => rfl
  have F3 := fun_mk (st := s_is_ascending) l3 c3 k3
  have g3 := PySem.W.mg_of X G a3
  have b3 := F3.binds (ps := ["parts"]) fun _ _ _ _ _ _ us hl => match us, hl with | [_], _ => rfl
  have F4 := fun_mk (st := s_is_fold) l4 c4 k4
  have g4 := PySem.W.mg_of X G a4
  have b4 := F4.binds (ps := ["letters", "thing"]) fun _ _ _ _ _ _ us hl => match us, hl with | [_, _], _ => rfl
  have F5 := fun_mk (st := s_is_web) l5 c5 k5
  have g5 := PySem.W.mg_of X G a5
  have b5 := F5.binds (ps := ["letters", "thing"]) fun _ _ _ _ _ _ us hl => match us, hl with | [_, _], _ => rfl
  have F6 := fun_mk (st := s_is_ahead) l6 c6 k6
  have g6 := PySem.W.mg_of X G a6
  have b6 := F6.binds (ps := ["one", "other"]) fun _ _ _ _ _ _ us hl => match us, hl with | [_, _], _ => rfl
  have F7 := fun_mk (st := s_check_web) l7 c7 k7
  have g7 := PySem.W.mg_of X G a7
  have b7 := F7.binds (ps := ["letters", "thing"]) fun _ _ _ _ _ _ us hl => match us, hl with | [_, _], _ => rfl
  have F8 := fun_mk (st := s_laid_on) l8 c8 k8
  have g8 := PySem.W.mg_of X G a8
  have b8 := F8.binds (ps := ["book", "web", "letter"]) fun _ _ _ _ _ _ us hl => match us, hl with | [_, _, _], _ => rfl
  have F9 := fun_mk (st := s_led) l9 c9 k9
  have g9 := PySem.W.mg_of X G a9
  have b9 := F9.binds (ps := ["book", "web", "row"]) fun _ _ _ _ _ _ us hl => match us, hl with | [_, _, _], _ => rfl
  have F10 := fun_mk (st := s_laid_behind) l10 c10 k10
  have g10 := PySem.W.mg_of X G a10
  have b10 := F10.binds (ps := ["book", "web", "letter"]) fun _ _ _ _ _ _ us hl => match us, hl with | [_, _, _], _ => rfl
  have F11 := fun_mk (st := s__law_deck) l11 c11 k11
  have g11 := PySem.W.mg_of X G a11
  have b11 := F11.binds (ps := ["_law_script"]) fun _ _ _ _ _ _ us hl => match us, hl with | [_], _ => rfl
  have F12 := fun_mk (st := s__law_draw) l12 c12 k12
  have g12 := PySem.W.mg_of X G a12
  have b12 := F12.binds (ps := ["_law_deck_here", "_law_below"]) fun _ _ _ _ _ _ us hl => match us, hl with | [_, _], _ => rfl
  have F13 := fun_mk (st := s__law_pick) l13 c13 k13
  have g13 := PySem.W.mg_of X G a13
  have b13 := F13.binds (ps := ["_law_deck_here", "_law_some"]) fun _ _ _ _ _ _ us hl => match us, hl with | [_, _], _ => rfl
  have F14 := fun_mk (st := s__law_world) l14 c14 k14
  have g14 := PySem.W.mg_of X G a14
  have b14 := F14.binds (ps := ["_law_deck_here"]) fun _ _ _ _ _ _ us hl => match us, hl with | [_], _ => rfl
  have F15 := fun_mk (st := s__law_code) l15 c15 k15
  have g15 := PySem.W.mg_of X G a15
  have b15 := F15.binds (ps := ["_law_w"]) fun _ _ _ _ _ _ us hl => match us, hl with | [_], _ => rfl
  have F16 := fun_mk (st := s__law_web) l16 c16 k16
  have g16 := PySem.W.mg_of X G a16
  have b16 := F16.binds (ps := ["_law_deck_here", "_law_w", "_law_most"]) fun _ _ _ _ _ _ us hl => match us, hl with | [_, _, _], _ => rfl
  have F17 := fun_mk (st := s__law_laid) l17 c17 k17
  have g17 := PySem.W.mg_of X G a17
  have b17 := F17.binds (ps := ["_law_w", "_law_web_here", "_law_y"]) fun _ _ _ _ _ _ us hl => match us, hl with | [_, _, _], _ => rfl
  have F18 := fun_mk (st := s__law_led) l18 c18 k18
  have g18 := PySem.W.mg_of X G a18
  have b18 := F18.binds (ps := ["_law_w", "_law_web_here", "_law_row"]) fun _ _ _ _ _ _ us hl => match us, hl with | [_, _, _], _ => rfl
  have F19 := fun_mk (st := s__law_is_web) l19 c19 k19
  have g19 := PySem.W.mg_of X G a19
  have b19 := F19.binds (ps := ["_law_letters", "_law_it"]) fun _ _ _ _ _ _ us hl => match us, hl with | [_, _], _ => rfl
  have F20 := fun_mk (st := s__law_heard) l20 c20 k20
  have g20 := PySem.W.mg_of X G a20
  have b20 := F20.binds (ps := ["_law_code_here", "_law_web_here", "_law_row", "_law_way"]) fun _ _ _ _ _ _ us hl => match us, hl with | [_, _, _, _], _ => rfl
  have F21 := fun_mk (st := s__law_due) l21 c21 k21
  have g21 := PySem.W.mg_of X G a21
  have b21 := F21.binds (ps := ["_law_w", "_law_web_here", "_law_row"]) fun _ _ _ _ _ _ us hl => match us, hl with | [_, _, _], _ => rfl
  have F22 := fun_mk (st := s__law_led_right) l22 c22 k22
  have g22 := PySem.W.mg_of X G a22
  have b22 := F22.binds (ps := ["_law_deck_here", "_law_w", "_law_code_here"]) fun _ _ _ _ _ _ us hl => match us, hl with | [_, _, _], _ => rfl
  have F23 := fun_mk (st := s__law_refused_right) l23 c23 k23
  have g23 := PySem.W.mg_of X G a23
  have b23 := F23.binds (ps := ["_law_deck_here", "_law_w", "_law_code_here"]) fun _ _ _ _ _ _ us hl => match us, hl with | [_, _, _], _ => rfl
  have F24 := fun_mk (st := s__law_order_right) l24 c24 k24
  have g24 := PySem.W.mg_of X G a24
  have b24 := F24.binds (ps := ["_law_deck_here"]) fun _ _ _ _ _ _ us hl => match us, hl with | [_], _ => rfl
  have F25 := fun_mk (st := s_law) l25 c25 k25
  have g25 := PySem.W.mg_of X G a25
  have b25 := F25.binds (ps := ["_law_script"]) fun _ _ _ _ _ _ us hl => match us, hl with | [_], _ => rfl
  have Finit := fun_mk (st := s_Book___init__) linit cinit kinit
  have binit := Finit.binds (ps := ["self", "letters", "folds"]) fun _ _ _ _ _ _ us hl => match us, hl with | [_, _, _], _ => rfl
  have Fleft := fun_mk (st := s_Book_left_of) lleft cleft kleft
  have bleft := Fleft.binds (ps := ["self", "last", "laid"]) fun _ _ _ _ _ _ us hl => match us, hl with | [_, _, _], _ => rfl
  have Feq := fun_mk (st := s_Book___eq__) leq ceq keq
  have beq := Feq.binds (ps := ["self", "other"]) fun _ _ _ _ _ _ us hl => match us, hl with | [_, _], _ => rfl
  have R : BkC K CR := ⟨⟨pg, hd, po, sa⟩, nL, nF, nT⟩
  have TW : MqE_thing.Txt K mg "BadWeb" "BadWeb.__init__" CW fB := ⟨PySem.W.mg_of X G aW, wk, exc_init wx, exc_over wx, wh, NoAttr.taker wt, ws, wi, wf, we, wy, _, _, _, _, _, _, _, _, _, _, _, _, _, _, lB, cB⟩
  have ER : ErrT K mg CW CM fB := ⟨TW, ⟨wg, wa, we, wh⟩, wt, ⟨wc, wg, wa, we, wca, wsp, wtk, wmo⟩, PySem.W.mg_of X G aM, wkt, exm_self we wc wy wss⟩
  have EQ : EqT K mg CR := ⟨PySem.W.mg_of X G aC, fun H a dx fs e => .base (.ins e R.cls rca wsp wtk rmo), rki⟩
  have kL : KBn K _ ["book", "web", "row"] 0 ["row", "web", "book"] rev0 rev0 := kbn_rev3 F9 fun _ _ _ _ _ _ _ _ _ => rfl
  have kO : KBn K _ ["book", "web", "letter"] 0 ["letter", "web", "book"] rev0 rev0 := kbn_rev3 F8 fun _ _ _ _ _ _ _ _ _ => rfl
  have kW : KBn K _ ["letters", "thing"] 0 ["thing", "letters"] rev0 rev0 := kbn_rev2 F5 fun _ _ _ _ _ _ _ _ => rfl
  have kA : KBn K _ ["one", "other"] 0 ["other", "one"] rev0 rev0 := kbn_rev2 F6 fun _ _ _ _ _ _ _ _ => rfl
  have bS : mg "sorted" = none := PySem.W.mg_none_of X G b_sorted
  have bM : mg "min" = none := PySem.W.mg_none_of X G b_min
  refine ⟨PySem.W.fnOf "law" "law" (defArgs s_law) (defBody s_law) (defScope s_law) .none kV25 dc25 pm25 an25 cd25 ct25, fun s u => .of_eq rfl, fun base _ _ => ?_⟩
  have Gasc : FnOk P w K mg base CX0 1 f3 _ ["parts"] spAsc := ok_is_ascending F3 B
  have Glets : FnOk P w K mg base CX0 2 f0 _ ["thing"] (spLetters K) := ok_is_letters F0 B F3 g3 b3 ⟨tA, PySem.W.mg_of X G aA⟩
  have Gfold : FnOk P w K mg base CX0 2 f4 _ ["letters", "thing"] (spFold K) := ok_is_fold F4 B F1 g1 b1
  have Gweb : FnOk P w K mg base CX0 2 f5 _ ["letters", "thing"] (spWord K) := ok_is_web F5 B F2 g2 b2
  have Gahe : FnOk P w K mg base CX0 1 f6 _ ["one", "other"] spAhead := ok_is_ahead F6 B
  have Gche : FnOk P w K mg base (L2.CX P w) 3 f7 _ ["letters", "thing"] (spCheck K CW) := ok_check_web F7 B F5 g5 b5 Gweb TW
  have mL : Meth K CR "left_of" fleft := ⟨aleft, ileft, kleft⟩
  have Gini : FnOk P w K mg base CX0 3 finit _ ["self", "letters", "folds"] (spBook K CR) := ok_book Finit B R F0 g0 b0 Glets F4 g4 b4 Gfold
  have Geq : FnOk P w K mg base CX0 3 feq _ ["self", "other"] (spEq (EqB K CR)) := ok_eq Feq B R EQ
  have Gbeh : FnOk P w K mg base CX0 2 f10 _ ["book", "web", "letter"] (spBehind CR) := ok_behind F10 R Fleft mL bleft
  have Glon : FnOk P w K mg base (L2.CX P w) 4 f8 _ ["book", "web", "letter"] (spLaidOn K CR CW) := ok_laid_on F8 R F7 g7 b7 Gche F10 g10 b10 Gbeh
  have Gled : FnOk P w K mg base (L2.CX P w) 4 f9 _ ["book", "web", "row"] (spLed K CR CW) := ok_led F9 R F7 g7 b7 Gche F10 g10 b10 Gbeh
  have Gdec : FnOk P w K mg base CX0 1 f11 _ ["_law_script"] (spDeck K) := ok_deck F11 B
  have Gdra : FnOk P w K mg base CX0 1 f12 _ ["_law_deck_here", "_law_below"] spDraw := ok_draw F12 B
  have Gpic : FnOk P w K mg base CX0 2 f13 _ ["_law_deck_here", "_law_some"] spPick := ok_pick F13 B F12 g12 b12
  have Gwor : FnOk P w K mg base CX0 3 f14 _ ["_law_deck_here"] spWorld := ok_world F14 F13 g13 b13 Gpic
  have Gcod : FnOk P w K mg base CX0 5 f15 _ ["_law_w"] (spCode K CR) := ok_code F15 B bS (PySem.W.mg_of X G aC) ⟨mk, ainit, iinit, kc⟩ binit Gini
  have Glwe : FnOk P w K mg base CX0 3 f16 _ ["_law_deck_here", "_law_w", "_law_most"] spLawWeb := ok_law_web F16 B F12 g12 b12 F13 g13 b13
  have Glla : FnOk P w K mg base CX0 1 f17 _ ["_law_w", "_law_web_here", "_law_y"] spLawLaid := ok_law_laid F17
  have Glle : FnOk P w K mg base CX0 2 f18 _ ["_law_w", "_law_web_here", "_law_row"] spLawLed := ok_law_led F18 F17 g17 b17
  have Gliw : FnOk P w K mg base CX0 1 f19 _ ["_law_letters", "_law_it"] (spLawIsWeb K) := ok_law_is_web F19 B
  have Gldu : FnOk P w K mg base CX0 3 f21 _ ["_law_w", "_law_web_here", "_law_row"] (spLawDue K) := ok_law_due F21 B F19 g19 b19 F18 g18 b18 F17 g17 b17
  have Ghea : FnG P w K mg base CX0 6 f20 _ ["_law_code_here", "_law_web_here", "_law_row", "_law_way"] (spHeard K CR) := ok_heard F20 B ER F9 g9 b9 kL Gled F8 g8 b8 kO Glon
  have Glrt : FnG P w K mg base CX0 7 f22 _ ["_law_deck_here", "_law_w", "_law_code_here"] (spLedRight K CR) := ok_led_right F22 B bM F20 g20 b20 Ghea F9 g9 b9 Gled F18 g18 b18 Glle F16 g16 b16 Glwe F17 g17 b17 Glla
  have Gref : FnG P w K mg base CX0 7 f23 _ ["_law_deck_here", "_law_w", "_law_code_here"] (spRefused K CR) := ok_refused F23 B F20 g20 b20 Ghea F12 g12 b12 Gdra F13 g13 b13 Gpic F16 g16 b16 Glwe F21 g21 b21 Gldu F5 g5 b5 kW Gweb F19 g19 b19 Gliw
  have Gord : FnG P w K mg base CX0 4 f24 _ ["_law_deck_here"] spOrder := ok_order F24 B F12 g12 b12 Gdra F13 g13 b13 Gpic F6 g6 b6 kA Gahe
  exact ok_law F25 B R (PySem.W.mg_of X G aC) ⟨mk, ainit, iinit, kc⟩ binit Gini aeq ieq beq Geq F11 g11 b11 Gdec F14 g14 b14 Gwor F15 g15 b15 Gcod F22 g22 b22 Glrt F23 g23 b23 Gref F24 g24 b24 Gord F9 g9 b9 Gled
/-- the walk of the row's own law -/
theorem walk_law {l : PySem.W.OpenLaw} {q : Program} {loose : List Str} {XP : (Str → Option Value) → Heap → Prop} {YP : World → Heap → Prop} {d : DefRec} {K : Params → PySem.W.Frag} (hn : l.most = some 63) (hdf : d.params.defaults = [])
    (hY : ∀ (w : World) (h : Heap), YP w h → (K w.params).In h)
    (F : ∀ (w : World) (mg : Str → Option Value) (fa : Addr) (h : Heap), (K w.params).In h → h.Ns mainGlobals mg → mg d.name = some (.ref fa) →
      ∃ fd : FuncData, (∀ (s : Shared) (u : Value), BindsTo s fd ⟨[u], []⟩ [("_law_script", u)]) ∧ ∀ base : Heap, (K w.params).In base → base.Ns mainGlobals mg → FnG l.prog w (K w.params) mg base CX0 8 fa fd ["_law_script"] (spLaw (K w.params))) :
    PySem.W.WalkO q loose XP YP l.row.toRowW d [] (fun f vs => PySem.call f vs) :=
  Mq.walk_ofG (n := 63) (k := 8) (x := "_law_script") (CX := fun _ => CX0) (sp := fun w => spLaw (K w.params)) hn (by decide) hdf ⟨rfl, by decide, by decide⟩ hY F (fun _ _ a ns hl _ hS => ⟨a, ns, rfl, hS, hl, fun _ => rfl⟩) fun _ _ _ _ _ z => z
end Lw

open PySem PySem.W PyProof.Rows
set_option maxRecDepth 100000 in
set_option maxHeartbeats 8000000 in
theorem PySem.Challenge.cw_millhands_k03_letters_laid_holds : PySem.Challenge.rw_millhands_k03_letters_laid.Holds := by
  w_on; o_law; k_head; (case hw => w_witness2)
  k_fill
  refine Lw.walk_law (l := PySem.Challenge.rw_millhands_k03_letters_laid) rfl rfl (fun w h Y => PySem.W.kIn_of Y) ?F
  case F =>
    intro w mg fa h KX G hmg
    refine' Lw.all_mk KX G hmg ?z_aC ?z_aW ?z_aM ?z_a0 ?z_l0 ?z_c0 ?z_k0 ?z_a1 ?z_l1 ?z_c1 ?z_k1 ?z_a2 ?z_l2 ?z_c2 ?z_k2 ?z_a3 ?z_l3 ?z_c3 ?z_k3 ?z_a4 ?z_l4 ?z_c4 ?z_k4 ?z_a5 ?z_l5 ?z_c5 ?z_k5 ?z_a6 ?z_l6 ?z_c6 ?z_k6 ?z_a7 ?z_l7 ?z_c7 ?z_k7 ?z_a8 ?z_l8 ?z_c8 ?z_k8 ?z_a9 ?z_l9 ?z_c9 ?z_k9 ?z_a10 ?z_l10 ?z_c10 ?z_k10 ?z_a11 ?z_l11 ?z_c11 ?z_k11 ?z_a12 ?z_l12 ?z_c12 ?z_k12 ?z_a13 ?z_l13 ?z_c13 ?z_k13 ?z_a14 ?z_l14 ?z_c14 ?z_k14 ?z_a15 ?z_l15 ?z_c15 ?z_k15 ?z_a16 ?z_l16 ?z_c16 ?z_k16 ?z_a17 ?z_l17 ?z_c17 ?z_k17 ?z_a18 ?z_l18 ?z_c18 ?z_k18 ?z_a19 ?z_l19 ?z_c19 ?z_k19 ?z_a20 ?z_l20 ?z_c20 ?z_k20 ?z_a21 ?z_l21 ?z_c21 ?z_k21 ?z_a22 ?z_l22 ?z_c22 ?z_k22 ?z_a23 ?z_l23 ?z_c23 ?z_k23 ?z_a24 ?z_l24 ?z_c24 ?z_k24 ?z_a25 ?z_l25 ?z_c25 ?z_k25 ?z_ainit ?z_iinit ?z_linit ?z_cinit ?z_kinit ?z_aleft ?z_ileft ?z_lleft ?z_cleft ?z_kleft ?z_aeq ?z_ieq ?z_leq ?z_ceq ?z_keq ?z_b_len ?z_b_range ?z_b_isinstance ?z_b_all ?z_b_any ?z_b_int ?z_b_str ?z_b_bool ?z_b_tuple ?z_b_list ?z_b_repr ?z_b_enumerate ?z_b_sorted ?z_b_min ?z_pg ?z_hd ?z_po ?z_sa ?z_mk ?z_kc ?z_nL ?z_nF ?z_nT ?z_rca ?z_rmo ?z_rki ?z_wk ?z_wx ?z_wh ?z_wt ?z_ws ?z_wi ?z_wf ?z_we ?z_wy ?z_wg ?z_wa ?z_wc ?z_wca ?z_wsp ?z_wtk ?z_wmo ?z_wss ?z_wkt ?z_aA ?z_lB ?z_cB
    (case z_aC => k_is)
    (case z_aW => k_is)
    (case z_aM => k_is)
    (case z_a0 => k_is)
    (case z_l0 => k_is)
    (case z_c0 => k_is)
    (case z_k0 => k_is)
    (case z_a1 => k_is)
    (case z_l1 => k_is)
    (case z_c1 => k_is)
    (case z_k1 => k_is)
    (case z_a2 => k_is)
    (case z_l2 => k_is)
    (case z_c2 => k_is)
    (case z_k2 => k_is)
    (case z_a3 => k_is)
    (case z_l3 => k_is)
    (case z_c3 => k_is)
    (case z_k3 => k_is)
    (case z_a4 => k_is)
    (case z_l4 => k_is)
    (case z_c4 => k_is)
    (case z_k4 => k_is)
    (case z_a5 => k_is)
    (case z_l5 => k_is)
    (case z_c5 => k_is)
    (case z_k5 => k_is)
    (case z_a6 => k_is)
    (case z_l6 => k_is)
    (case z_c6 => k_is)
    (case z_k6 => k_is)
    (case z_a7 => k_is)
    (case z_l7 => k_is)
    (case z_c7 => k_is)
    (case z_k7 => k_is)
    (case z_a8 => k_is)
    (case z_l8 => k_is)
    (case z_c8 => k_is)
    (case z_k8 => k_is)
    (case z_a9 => k_is)
    (case z_l9 => k_is)
    (case z_c9 => k_is)
    (case z_k9 => k_is)
    (case z_a10 => k_is)
    (case z_l10 => k_is)
    (case z_c10 => k_is)
    (case z_k10 => k_is)
    (case z_a11 => k_is)
    (case z_l11 => k_is)
    (case z_c11 => k_is)
    (case z_k11 => k_is)
    (case z_a12 => k_is)
    (case z_l12 => k_is)
    (case z_c12 => k_is)
    (case z_k12 => k_is)
    (case z_a13 => k_is)
    (case z_l13 => k_is)
    (case z_c13 => k_is)
    (case z_k13 => k_is)
    (case z_a14 => k_is)
    (case z_l14 => k_is)
    (case z_c14 => k_is)
    (case z_k14 => k_is)
    (case z_a15 => k_is)
    (case z_l15 => k_is)
    (case z_c15 => k_is)
    (case z_k15 => k_is)
    (case z_a16 => k_is)
    (case z_l16 => k_is)
    (case z_c16 => k_is)
    (case z_k16 => k_is)
    (case z_a17 => k_is)
    (case z_l17 => k_is)
    (case z_c17 => k_is)
    (case z_k17 => k_is)
    (case z_a18 => k_is)
    (case z_l18 => k_is)
    (case z_c18 => k_is)
    (case z_k18 => k_is)
    (case z_a19 => k_is)
    (case z_l19 => k_is)
    (case z_c19 => k_is)
    (case z_k19 => k_is)
    (case z_a20 => k_is)
    (case z_l20 => k_is)
    (case z_c20 => k_is)
    (case z_k20 => k_is)
    (case z_a21 => k_is)
    (case z_l21 => k_is)
    (case z_c21 => k_is)
    (case z_k21 => k_is)
    (case z_a22 => k_is)
    (case z_l22 => k_is)
    (case z_c22 => k_is)
    (case z_k22 => k_is)
    (case z_a23 => k_is)
    (case z_l23 => k_is)
    (case z_c23 => k_is)
    (case z_k23 => k_is)
    (case z_a24 => k_is)
    (case z_l24 => k_is)
    (case z_c24 => k_is)
    (case z_k24 => k_is)
    (case z_a25 => k_is)
    (case z_l25 => k_is)
    (case z_c25 => k_is)
    (case z_k25 => k_is)
    (case z_ainit => k_is)
    (case z_iinit => k_is)
    (case z_linit => k_is)
    (case z_cinit => k_is)
    (case z_kinit => k_is)
    (case z_aleft => k_is)
    (case z_ileft => k_is)
    (case z_lleft => k_is)
    (case z_cleft => k_is)
    (case z_kleft => k_is)
    (case z_aeq => k_is)
    (case z_ieq => k_is)
    (case z_leq => k_is)
    (case z_ceq => k_is)
    (case z_keq => k_is)
    (case z_b_len => k_is)
    (case z_b_range => k_is)
    (case z_b_isinstance => k_is)
    (case z_b_all => k_is)
    (case z_b_any => k_is)
    (case z_b_int => k_is)
    (case z_b_str => k_is)
    (case z_b_bool => k_is)
    (case z_b_tuple => k_is)
    (case z_b_list => k_is)
    (case z_b_repr => k_is)
    (case z_b_enumerate => k_is)
    (case z_b_sorted => k_is)
    (case z_b_min => k_is)
    (case z_pg => k_is)
    (case z_hd => k_is)
    (case z_po => k_is)
    (case z_sa => k_is)
    (case z_mk => k_is)
    (case z_kc => k_is)
    (case z_nL => k_is)
    (case z_nF => k_is)
    (case z_nT => k_is)
    (case z_rca => k_is)
    (case z_rmo => k_is)
    (case z_rki => rfl)
    (case z_wk => k_is)
    (case z_wx => k_is)
    (case z_wh => k_is)
    (case z_wt => k_is)
    (case z_ws => k_is)
    (case z_wi => k_is)
    (case z_wf => k_is)
    (case z_we => k_is)
    (case z_wy => k_is)
    (case z_wg => k_is)
    (case z_wa => k_is)
    (case z_wc => k_is)
    (case z_wca => k_is)
    (case z_wsp => k_is)
    (case z_wtk => k_is)
    (case z_wmo => k_is)
    (case z_wss => first | rfl | k_is)
    (case z_wkt => rfl)
    (case z_aA => k_is)
    (case z_lB => k_is)
    (case z_cB => k_is)

