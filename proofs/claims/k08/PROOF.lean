import PyProof.Rows.All
import Wide.All
import OpenK.AllK
import Wide.FinOn
import PyProof.EqAt
import PyProof.EqKinds
import PyProof.TupleCall
import PyProof.ReprReads
import KE.KExcInit
import HandS.ForMost
import HandS.ForExc
import HandS.ExcField
import HandS.Flow
import HandS.Style
import PyProof.ReprRoads
import HandS.ExcIs
import KE.KExcIs
import HandS.Defaults
import HandS.Walk
import HandS.IsInst
import HandS.Codes
import HandS.StrMore
import PySem.Challenge.RW_millhands_k08_what_readers_make
import KE.GoesMore
import HandS.CallLocal
import HandS.Replace
import HandS.More
import PyProof.StrOps2
set_option Elab.async false
set_option linter.all false
set_option maxRecDepth 100000
set_option maxHeartbeats 0
namespace Mq
open PySem PySem.Spec PyProof.Rows L2

/-! ### defs that are entered where no repr is under way -/
def Still (A : Around) : Prop := A.guards = some []

structure FnG (P : Program) (w : World) (K : PySem.W.Frag) (mg : Str → Option Value)
    (base : Heap) (CX : CXT) (k : Nat) (f : Addr) (fd : FuncData) (ps : List Str) (sp : Sp) : Prop where
  many : ∀ vs H Q E, sp vs H Q E → vs.length = ps.length
  go : ∀ (A : Around) (outer : List Env) (s : Shared) (H : Hp) (args : Args)
    (us : List Value) (vs : List V) (Q : VK) (E : XK), Still A → Room k A →
    Env0 P w K mg base A outer s H → BindsTo s fd args (ps.zip us) → Vals vs us → sp vs H Q E →
    codeAny (model P w) A (.call (.ref f) args) (CR CX outer P w H s Q E) s

theorem FnG.of {P : Program} {w : World} {K : PySem.W.Frag} {mg : Str → Option Value}
    {base : Heap} {CX : CXT} {k : Nat} {f : Addr} {fd : FuncData} {ps : List Str} {sp : Sp}
    (F : FnOk P w K mg base CX k f fd ps sp) : FnG P w K mg base CX k f fd ps sp :=
  ⟨F.len, fun A outer s H args us vs Q E _ => F.run A outer s H args us vs Q E⟩

section
variable {P : Program} {w : World} {K : PySem.W.Frag} {mg : Str → Option Value} {base : Heap}

theorem Fun.okG {CX : CXT} {x qual : Str} {st : Stmt} {f : Addr} {fd : FuncData} {N ps : List Str}
    {k : Nat} {sp : Sp} (F : L2.Fun K x qual st f fd) (S : FnScope N ps (defScope st))
    (many : ∀ vs H Q E, sp vs H Q E → vs.length = ps.length)
    (body : ∀ (cdv : Value) (A : Around) (outer : List Env) (s : Shared) (H : Hp) (vs : List V) (Q : VK) (E : XK),
      Still (A.deeper (envOfC qual (defScope st) s.heap.objs.size f cdv)) →
      Room k (A.deeper (envOfC qual (defScope st) s.heap.objs.size f cdv)) → sp vs H Q E →
      ∃ t, PSs (cxOf CX P w K mg base N qual (defScope st) f cdv A outer s H E) (defBody st) t ∧
        t { nx := fun _ H' => Q .non H', rt := Q } (start N vs) H) :
    FnG P w K mg base CX (k + 1) f fd ps sp := by
  obtain ⟨oc, od, kV, doc, pm, an, cdv, ct, osl, rfl, lk, hcd⟩ := F.ex
  refine ⟨many, fun A outer s H args us vs Q E gA hr e0 hb r h => ?_⟩
  have old : ∀ b o, base.get? b = some o → s.heap.get? b = some o := fun b o e => (e0.bs b o e).1
  have KX := e0.mod.kin.keeps old
  have lim := e0.mod.nolimit.keeps old
  have hlen := many _ _ _ _ h
  have kinds : ∀ y ∈ ps.zip us, (defScope st).names.lookup y.1 = some .local ∨
      ((defScope st).names.lookup y.1 = some .cell ∧
        ((cellsFrom (s.heap.objs.size + 1) (defScope st).names []).lookup y.1).isSome = true) := by
    rintro ⟨n, v⟩ hy
    rcases S.par n (List.of_mem_zip hy).1 with q | q
    · exact Or.inl q
    · exact Or.inr ⟨q, PySem.W.cellsFrom_some _ _ _ (Or.inl q)⟩
  refine codeAny_call_function hr.depth (KX _ _ lk) rfl S.co S.gen rfl
    (PySem.W.codeRec_of KX hcd) (hb _ _ _ _ ?_)
  refine wpAny_newFunctionEnv_cells S.kind kinds (fun env he s1 x => ?_)
  subst he
  refine ⟨lim.keeps x.toInCall.keep, codeAny_func ?_⟩
  obtain ⟨t, ht, hq⟩ := body cdv A outer s H vs Q E gA (hr.deeper _) h
  have I := inv_start (CX := CX) (E := E) S hr.hd e0 hlen r x
  refine wpAny_mono (ht.run [] s1 (start N vs) H _ I hq) (fun fl s' hs => ?_) (fun e s' hs => hs)
  cases fl with
  | ret u =>
    obtain ⟨v, σ', H', J, rv, q⟩ := hs
    exact ⟨v, H', J.os, J.bare, J.base, J.hok, rv, q⟩
  | next =>
    obtain ⟨σ', H', J, q⟩ := hs
    exact ⟨V.non, H', J.os, J.bare, J.base, J.hok, rfl, q⟩
  | brk =>
    obtain ⟨_, _, _, q⟩ := hs
    exact q.elim
  | cont =>
    obtain ⟨_, _, _, q⟩ := hs
    exact q.elim
end

section
variable {X : Cx} {CX : CXT} {k : Nat} {f : Addr} {fd : FuncData} {ps : List Str} {sp : Sp}
  {E : XK} {x : Str} {p pos : Pos} {e : Expr} {es : List Expr} {t : TA}

theorem run_G {pins : List (Addr × Obj)} {σ : L2.St} {H : Hp} {s : Shared} {Q : VK} {us : List Value} {vs : List V}
    (F : FnG X.prog X.w X.K X.mg X.base CX k f fd ps sp) (gA : Still X.A) (hr : Room k X.A)
    (hb : Binds X.K fd ps []) (hx : Passes CX X E) (I : Inv X pins σ H s) (r : Vals vs us) (h : sp vs H Q E) :
    wpAny (model X.prog X.w) X.A (call (.ref f) us) (EP X pins σ Q) X.xe s := by
  have hl : us.length = ps.length := by rw [← r.length]; exact F.many _ _ _ _ h
  have b := hb s us I.kIn (by rw [List.append_nil]; exact hl)
  rw [List.append_nil] at b
  refine wpAny_call (codeAny_mono (F.go X.A X.stack s H ⟨us, []⟩ us vs Q E gA hr I.env0 b r h) (fun r s' hq => ?_))
  match r, hq with
  | .error er, hq => exact hx pins σ H s er s' I hq
  | .ok (.ret u), hq => exact I.after hq
  | .ok .next, hq => exact hq.elim
  | .ok .brk, hq => exact hq.elim
  | .ok .cont, hq => exact hq.elim

/-- f(e, ..) where no repr is under way -/
theorem pe_callG (F : FnG X.prog X.w X.K X.mg X.base CX k f fd ps sp) (gA : Still X.A) (hr : Room k X.A)
    (hg : Gl X x) (hm : X.mg x = some (.ref f)) (hk : PySem.W.keepIn X.K (.ref f) = true)
    (hb : Binds X.K fd ps []) (hx : Passes CX X E) (ha : PA X (e :: es) t)
    (hdb : (x == ("__debug__" : Str)) = false := by decide)
    (he : starEach (e :: es) X.env = (false, eval e X.env) :: starEach es X.env := by rfl)
    (hpl : (backTo pos (starEach es X.env)).any (·.1) = false := by rfl) :
    PE X (.Call (.Name x p) (e :: es) [] pos) (tCall sp [] E t) := by
  refine ⟨fun pins s σ H Q I h => wpAny_Call_Name_kw (ld_glob I hg hm ?_ hdb)⟩
  refine PySem.W.callWith_K (h₀ := X.base) I.ok.mod.kin hk (thn (ha.run pos pins s σ H _ I h) ?_) he hpl
  rintro us s1 ⟨vs, H1, I1, r, q⟩
  rw [List.append_nil] at q
  exact ⟨I1.kIn, run_G F gA hr hb hx I1 r q⟩
end

/-! ### the law's own call -/
theorem law_callG {P : Program} {w : World} {K : PySem.W.Frag} {mg mb : Str → Option Value} {CX : CXT} {k : Nat}
    {fa a : Addr} {fd : FuncData} {x : Str} {sp : Sp} {s₁ : Shared} {vs : List Value} {ns : List Int}
    (KX : K.In s₁.heap) (hns : s₁.heap.Ns mainGlobals mg) (hb : s₁.heap.Ns builtinsNs mb)
    (hbb : ∀ x : Str, x ≠ "__name__" → mb x = bootBuiltins x) (hlim : s₁.heap.NoLimit) (hg : s₁.gens = #[])
    (ha : s₁.heap.get? a = some { cls := .type "list", data := .seq vs.toArray }) (hi : IntsAre vs ns)
    (hl : ns.length ≤ sizeLine) (hr : Room k callerA)
    (F : ∀ base : Heap, K.In base → base.Ns mainGlobals mg → FnG P w K mg base CX k fa fd [x] sp)
    (hbind : ∀ (s : Shared) (u : Value), BindsTo s fd ⟨[u], []⟩ [(x, u)])
    (hsp : ∀ H : Hp, Only H → SqL K H a (ns.map V.int) → sp [.ref a] H (fun v _ => v = .bl true) fun _ _ _ => False)
    (hCX : ∀ H e s', CX [] H s₁ (fun _ _ _ => False) e s' → False) :
    codeAny (model P w) callerA (.call (.ref fa) ⟨[.ref a], []⟩)
      (fun r s' => r = .ok (.ret (.bool true)) ∧ OldK s₁.heap s'.heap ∧ s'.os = s₁.os ∧ AllBare s'.gens) s₁ := by
  have rv := vals_ints hi
  have core : ∀ H : Hp, Only H → SqL K H a (ns.map V.int) → HOk P w H s₁.heap →
      (∀ b, H b ≠ none → b = a) → (H a ≠ none → K.lookup a = none) →
      codeAny (model P w) callerA (.call (.ref fa) ⟨[.ref a], []⟩)
        (fun r s' => r = .ok (.ret (.bool true)) ∧ OldK s₁.heap s'.heap ∧ s'.os = s₁.os ∧ AllBare s'.gens) s₁ := by
    intro H hO hS hok hA hK
    have only : ∀ {b : Addr} {u : HO}, H b = some u → b = a := fun {b u} q => hA b (by rw [q]; exact fun z => by cases z)
    have noD : ∀ {b : Addr} {o : Obj} {es : Array DictEntry} {ep : Nat}, s₁.heap.get? b = some o →
        o.data = .dict es ep → H b = none := by
      intro b o es ep e d
      cases q : H b with
      | none => rfl
      | some u =>
        have e' := only q
        subst e'
        rw [ha] at e
        cases e
        cases d
    have nsK : ∀ {b : Addr} {m : Str → Option Value}, s₁.heap.Ns b m → (hidT s₁.heap H).Ns b m := by
      rintro b m ⟨o, es, ep, e, d, r⟩
      exact ⟨o, es, ep, hidT_get e (noD e d), d, r⟩
    have hKb : K.In (hidT s₁.heap H) := by
      intro b o e
      refine hidT_get (KX b o e) ?_
      cases q : H b with
      | none => rfl
      | some u =>
        have e' := only q
        subst e'
        rw [hK (by rw [q]; exact fun z => by cases z)] at e
        cases e
    obtain ⟨mc, l1, l2⟩ := hlim
    have hM : Mod K mg (hidT s₁.heap H) := ⟨hKb, nsK hns, ⟨mb, nsK hb, hbb⟩, ⟨mc, nsK l1, l2⟩⟩
    have nil : ∀ {b : Addr}, b ∉ ([] : List Addr) := fun h => by cases h
    have e0 : Env0 P w K mg (hidT s₁.heap H) callerA [] s₁ H :=
      ⟨rfl, hM, fun b o e => of_hidT e, Nat.le_of_eq (hidT_size _ _), trivial, fun b hb => (nil hb).elim, hok, .of_eq hg⟩
    refine codeAny_mono ((F _ hKb (nsK hns)).go callerA [] s₁ H ⟨[.ref a], []⟩ [.ref a] [.ref a] _ _ rfl hr e0
      (hbind s₁ (.ref a)) (.cons rfl .nil) (hsp H hO hS)) (fun r s' h => ?_)
    match r, h with
    | .error e, h => exact (hCX H e s' h).elim
    | .ok .next, h => exact h.elim
    | .ok .brk, h => exact h.elim
    | .ok .cont, h => exact h.elim
    | .ok (.ret u), h =>
      obtain ⟨v, H', os, bare, un, hok', r', q⟩ := h
      have q' : v = .bl true := q
      subst q'
      cases (show u = Value.bool true from r')
      refine ⟨rfl, OldK.of_keep (fun b o e => ?_), os, bare⟩
      rcases hO b with z | ⟨ob, xs, z⟩
      · exact un.keep b o e z nil nil
      · obtain ⟨e1, _⟩ := hok b _ z
        obtain ⟨e2, _⟩ := hok' b _ (un.frzs b ob _ z)
        rw [e] at e1
        cases e1
        exact e2
  cases hk : K.lookup a with
  | some o =>
    have e := KX a o hk
    rw [ha] at e
    cases e
    refine core (fun _ => none) (fun _ => Or.inl rfl) (Or.inr ⟨_, vs.toArray, _, hk, rfl, rfl, rfl, ?_, by simpa using rv⟩)
      (fun b u z => by cases (show (none : Option HO) = some u from z)) (fun b z => (z rfl).elim) (fun z => (z rfl).elim)
    rw [List.size_toArray, hi.length]
    exact hl
  | none =>
    let o0 : Obj := { cls := .type "list", data := .seq vs.toArray }
    refine core (fun b => if b = a then some (.frz o0 (.lst (ns.map V.int))) else none) (fun b => ?_)
      (Or.inl (Or.inr ⟨o0, if_pos rfl⟩)) (fun b u z => ?_) (fun b z => ?_) (fun _ => hk)
    · by_cases hb : b = a
      · exact Or.inr ⟨_, _, if_pos hb⟩
      · exact Or.inl (if_neg hb)
    · by_cases hb : b = a
      · cases (if_pos hb).symm.trans z
        subst hb
        exact ⟨ha, by rw [List.length_map]; exact hl, vs, _, rv, ha⟩
      · cases (if_neg hb).symm.trans z
    · by_cases hb : b = a
      · exact hb
      · exact (z (if_neg hb)).elim

theorem walk_ofG {l : PySem.W.OpenLaw} {n k : Nat} {q : Program} {loose : List Str}
    {XP : (Str → Option Value) → Heap → Prop} {YP : World → Heap → Prop} {d : DefRec}
    {K : Params → PySem.W.Frag} {CX : World → CXT} {sp : World → Sp} {x : Str}
    (hn : l.most = some n) (hn2 : n ≤ sizeLine) (hdf : d.params.defaults = []) (hr : Room k callerA)
    (hY : ∀ (w : World) (h : Heap), YP w h → (K w.params).In h)
    (F : ∀ (w : World) (mg : Str → Option Value) (fa : Addr) (h : Heap), (K w.params).In h →
      h.Ns mainGlobals mg → mg d.name = some (.ref fa) →
      ∃ fd : FuncData, (∀ (s : Shared) (u : Value), BindsTo s fd ⟨[u], []⟩ [(x, u)]) ∧
        ∀ base : Heap, (K w.params).In base → base.Ns mainGlobals mg →
          FnG l.prog w (K w.params) mg base (CX w) k fa fd [x] (sp w))
    (hsp : ∀ (w : World) (H : Hp) (a : Addr) (ns : List Int), ns.length ≤ n → Only H →
      SqL (K w.params) H a (ns.map V.int) → sp w [.ref a] H (fun v _ => v = .bl true) fun _ _ _ => False)
    (hCX : ∀ (w : World) (H : Hp) (s : Shared) (e : Value) (s' : Shared), CX w [] H s (fun _ _ _ => False) e s' → False) :
    PySem.W.WalkO q loose XP YP l.row.toRowW d [] (fun f vs => PySem.call f vs) := by
  refine Att.attach_call hn hdf ?_
  intro w s₀ s₁ mg mb fa o pm cd doc a vs ns G Y ho hd hcd hmg hobj hints hlen hg
  obtain ⟨fd, hb, hF⟩ := F w mg fa _ (hY w _ Y) G.T.g hmg
  exact law_callG (hY w _ Y) G.T.g G.T.b G.T.builtins G.T.nolimit hg hobj hints (Nat.le_trans hlen hn2) hr hF hb
    (fun H hO hS => hsp w H a ns hlen hO hS) (fun H e s' => hCX w H s₁ e s')
end Mq

namespace Mq
open PySem PySem.Spec PyProof.Rows L2

/-! ### repr of data, dicts among them -/
def keyD : Key → PyData
  | .inl i => .int i
  | .inr x => .str x
mutual
inductive Dg (K : PySem.W.Frag) (H : Hp) : V → PyData → Prop
  | non : Dg K H .non .none
  | bl (b : Bool) : Dg K H (.bl b) (.bool b)
  | int (i : Int) : Dg K H (.int i) (.int i)
  | str (x : Str) : Dg K H (.str x) (.str x)
  | lst {a : Addr} {xs : List V} {ds : List PyData} : a ≠ sysModules → SqL K H a xs → DgAll K H xs ds → Dg K H (.ref a) (.list ds)
  | tup {a : Addr} {xs : List V} {ds : List PyData} : SqT K H a xs → DgAll K H xs ds → Dg K H (.ref a) (.tuple ds)
  | dct {a : Addr} {kvs : List (Key × V)} {ds : List (PyData × PyData)} : H a = some (.dK kvs) → DgKv K H kvs ds → Dg K H (.ref a) (.dict ds)
inductive DgAll (K : PySem.W.Frag) (H : Hp) : List V → List PyData → Prop
  | nil : DgAll K H [] []
  | cons {v : V} {vs : List V} {d : PyData} {ds : List PyData} : Dg K H v d → DgAll K H vs ds → DgAll K H (v :: vs) (d :: ds)
inductive DgKv (K : PySem.W.Frag) (H : Hp) : List (Key × V) → List (PyData × PyData) → Prop
  | nil : DgKv K H [] []
  | cons {k : Key} {v : V} {vs : List (Key × V)} {d : PyData} {ds : List (PyData × PyData)} : Dg K H v d → DgKv K H vs ds → DgKv K H ((k, v) :: vs) ((keyD k, d) :: ds)
end
section
variable {X : Cx} {pins : List (Addr × Obj)} {σ : L2.St} {H : Hp} {s : Shared}
theorem reads_key {h : Heap} {k : Key} {u : Value} (e : keyIs k u = true) : Reads h u (keyD k) [] := by
  rcases keyIs_shape e with ⟨i, t, rfl, rfl⟩ | ⟨x, t, rfl, rfl⟩
  · exact Reads.int i t
  · exact Reads.str x t
mutual
theorem Dg.rd (I : Inv X pins σ H s) : ∀ {d : PyData} {v : V} {u : Value}, Dg X.K H v d → RelV v u →
    ∃ as, Reads s.heap u d as ∧ sysModules ∉ as
  | _, _, _, .non, r => by cases r; exact ⟨[], .none, fun h => by cases h⟩
  | _, _, _, .bl b, r => by cases r; exact ⟨[], .bool b, fun h => by cases h⟩
  | _, _, _, .int i, r => by obtain ⟨t, rfl⟩ := r; exact ⟨[], .int i t, fun h => by cases h⟩
  | _, _, _, .str x, r => by obtain ⟨t, rfl⟩ := r; exact ⟨[], .str x t, fun h => by cases h⟩
  | _, _, _, .lst ne hs ha, r => by
    cases r
    obtain ⟨its, rv, ⟨o, n, ho, hc, _, hd⟩, _⟩ := I.list hs
    obtain ⟨as, hr, hn⟩ := DgAll.rd I ha rv
    refine ⟨_, Reads.list ho hc hd hr, fun hm => ?_⟩
    rcases List.mem_cons.mp hm with e | e
    · exact ne e.symm
    · exact hn e
  | _, _, _, .tup hs ha, r => by
    cases r
    obtain ⟨its, rv, ⟨o, ho, hc, n, hd⟩, _⟩ := I.tuple hs
    obtain ⟨as, hr, hn⟩ := DgAll.rd I ha rv
    exact ⟨_, Reads.tuple ho hc hd hr, hn⟩
  | _, _, _, .dct (a := a) hs ha, r => by
    cases r
    obtain ⟨_, ns, us, rk, o, es, ep, ho, hx, hd, _, hp, _⟩ := I.hok a _ hs
    obtain ⟨as, bs, r1, r2, n1, n2⟩ := DgKv.rd I ha rk hp
    refine ⟨_, Reads.dict ho hx.1 hd r1 r2, fun hm => ?_⟩
    rcases List.mem_append.mp hm with hm | hm
    · rcases List.mem_cons.mp hm with e | e
      · rw [← e] at ns
        simp at ns
      · exact n1 e
    · exact n2 hm
theorem DgAll.rd (I : Inv X pins σ H s) : ∀ {ds : List PyData} {vs : List V} {us : List Value}, DgAll X.K H vs ds → Vals vs us →
    ∃ as, ReadsAll s.heap us ds as ∧ sysModules ∉ as
  | _, _, _, .nil, r => by cases r; exact ⟨[], .nil, fun h => by cases h⟩
  | _, _, _, .cons h1 h2, r => by
    cases r with
    | cons r1 r2 =>
      obtain ⟨as, q1, n1⟩ := Dg.rd I h1 r1
      obtain ⟨bs, q2, n2⟩ := DgAll.rd I h2 r2
      exact ⟨_, ReadsAll.cons q1 q2, fun hm => (List.mem_append.mp hm).elim n1 n2⟩
theorem DgKv.rd (I : Inv X pins σ H s) : ∀ {ds : List (PyData × PyData)} {vs : List (Key × V)} {us : List (Key × Value)} {es : List DictEntry}, DgKv X.K H vs ds → KV vs us →
    Pairs (mixKind X.prog X.w) es us →
    ∃ as bs, ReadsAll s.heap (es.map (·.key)) (ds.map (·.1)) as ∧ ReadsAll s.heap (es.map (·.val)) (ds.map (·.2)) bs ∧ sysModules ∉ as ∧ sysModules ∉ bs
  | _, _, _, _, .nil, r, p => by
    cases r
    cases p
    exact ⟨[], [], ReadsAll.nil, ReadsAll.nil, (fun h => by cases h), (fun h => by cases h)⟩
  | _, _, _, _, .cons h1 h2, r, p => by
    cases r with
    | cons r1 r2 =>
      cases p with
      | cons p3 p4 p2 =>
        obtain ⟨e1, e2⟩ := r1
        obtain ⟨as, q1, n1⟩ := Dg.rd I h1 e2
        obtain ⟨bs, cs, q2, q3, n2, n3⟩ := DgKv.rd I h2 r2 p2
        rw [← p4] at q1
        have p3' := p3
        rw [← e1] at p3'
        exact ⟨_, _, ReadsAll.cons (reads_key p3') q2, ReadsAll.cons q1 q3, fun hm => (List.mem_append.mp hm).elim (fun z => by cases z) n2,
          fun hm => (List.mem_append.mp hm).elim n1 n3⟩
end
/-- repr(v), v data -/
def rRep (K : PySem.W.Frag) : List V → Hp → VK → Prop := fun xs H Q => ∃ v d, xs = [v] ∧ Dg K H v d ∧ d.showable = true ∧
  d.depth ≤ 40 ∧ d.shown.length ≤ sizeLine ∧ Q (.str d.shown) H
theorem call_rep {k : Nat} (hr : Room k X.A) (gA : Still X.A) : CallR X (.builtin "repr") (rRep X.K) := by
  intro pins s σ H xs us Q I r h
  obtain ⟨v, d, rfl, hd, hs, hz, hl, q⟩ := h
  cases r with
  | cons rx rr =>
    cases rr
    have hu := hr.units
    obtain ⟨as, rd, hn⟩ := Dg.rd I hd rx
    have leaf : ∀ {d : PyData} {t : Tok}, Q (.str d.shown) H → EP X pins σ Q (.str d.shown t) { s with toks := s.toks + 1 } :=
      fun {d t} q => ⟨.str d.shown, H, I.tok _, ⟨_, rfl⟩, q⟩
    cases hd with
    | non =>
      cases rx
      exact PySem.P.repr_of_none (leaf (d := .none) q)
    | bl b =>
      cases rx
      exact PySem.P.repr_of_bool (leaf (d := .bool b) q)
    | int i =>
      obtain ⟨t, rfl⟩ := rx
      exact PySem.P.repr_of_int (by simpa [PyData.showable] using hs) (leaf (d := .int i) q)
    | str x =>
      obtain ⟨t, rfl⟩ := rx
      refine PySem.P.repr_of_str (leaf (d := .str x) q) ?_
      simpa only [PyData.shown] using hl
    | lst ne h1 h2 =>
      cases rx
      exact repr_of_reads' rd hs (fun _ => hn) gA (by omega) (fun _ _ e => e) (fun h' u tk k => ⟨.str _, H, I.kept k, ⟨_, rfl⟩, q⟩) hl
    | tup h1 h2 =>
      cases rx
      exact repr_of_reads' rd hs (fun _ => hn) gA (by omega) (fun _ _ e => e) (fun h' u tk k => ⟨.str _, H, I.kept k, ⟨_, rfl⟩, q⟩) hl
    | dct h1 h2 =>
      cases rx
      exact repr_of_reads' rd hs (fun _ => hn) gA (by omega) (fun _ _ e => e) (fun h' u tk k => ⟨.str _, H, I.kept k, ⟨_, rfl⟩, q⟩) hl
/-- no new object stands where the modules stand -/
theorem Inv.low (I : Inv X pins σ H s) : sysModules < s.heap.objs.size := by
  have h1 := I.mod.glob.lt
  have h2 := I.ok.bsz
  have h3 := I.sz
  have h4 : sysModules < mainGlobals := by decide
  exact Nat.lt_of_lt_of_le (Nat.lt_trans h4 h1) (Nat.le_trans h2 h3)
/-- a list display, told to stand elsewhere than the modules -/
def tLs (t : TA) : TE := fun σ H Q => t σ H fun xs H1 => xs.length ≤ sizeLine ∧ ∀ p, H1 p = none → p ≠ sysModules → Q (.ref p) (upd H1 p (.lst xs))
theorem pe_ls {es : List Expr} {t : TA} {pos : Pos} (h : PA X es t) : PE X (.List es pos) (tLs t) := by
  refine ⟨fun pins s σ H Q I hq => wpAny_List_spliced (thn (h.run pos pins s σ H _ I hq) ?_)⟩
  rintro us s1 ⟨xs, H1, I1, r, z, q⟩
  have hz : us.length ≤ sizeLine := by rw [← r.length]; exact z
  have nw : H1 s1.heap.objs.size = none := I1.hok.fresh (Nat.le_refl _)
  refine ⟨hz, .ref s1.heap.objs.size, upd H1 s1.heap.objs.size (.lst xs), ?_, rfl, q _ nw (Nat.ne_of_gt (Inv.low I1))⟩
  exact I1.laid (t' := s1.toks) (fun b u e => Heap.get?_push_of_some _ e) (Nat.le_refl _) ⟨z, us, 0, r, Heap.get?_push_size _ rfl⟩
end
end Mq

namespace Mq
open PySem PySem.Spec PyProof.Rows L2
open PySem.W (Frag)
open PySem.Builtin.ObjectAttr
/-! ### own errors over Exception, with one field -/
abbrev exTail : List Value := [.type "Exception", .type "BaseException", .type "object"]
section
variable {prog : Program} {w : World} {A : Around} {E : Value → Shared → Prop} {R : Result → Shared → Prop}
  {hp : Heap} {g : Array GenState} {d : Drawn} {t : Nat} {os : OsState} {K : Frag}
theorem osa_first {name : Str} {tk : Tok} {v : Value} {x C t1 : Addr} (X : K.In hp)
    (hx : hp.get? x = some (PySem.W.excObj C t1 none .none)) (ho : PySem.W.excOver K C exTail = true)
    (hh : PySem.W.hasDictIn K C = true) (ht : PySem.W.takerIn K C name = some none)
    (hq : ∀ h' tk' dx, (∀ b o, b ≠ x → hp.get? b = some o → h'.get? b = some o) → hp.objs.size ≤ dx → dx ≠ x →
      h'.get? x = some (PySem.W.excObj C t1 (some dx) .none) → h'.Ns1 dx (fun y => if y = name then some v else none) →
      R (.ok (.ret .none)) ⟨h', g, d, tk', os⟩) :
    codeAny (model prog w) A (.call (.builtin "object.__setattr__") ⟨[.ref x, .str name tk, v], []⟩) R ⟨hp, g, d, t, os⟩ := by
  refine PySem.W.osa_openX (od := none) (s := ⟨hp, g, d, t, os⟩) F.store_Exception X ⟨hx, rfl, rfl, trivial⟩ ho ht (fun b => ?_)
  obtain ⟨cd, hc, hd'⟩ := PySem.W.any_some hh
  refine wpAny_bind (wpAny_pure (wpAny_bind (PySem.W.instanceDict_exc hx (PySem.W.looks_clsIn X hc) hd' ?_)))
  show wpAny _ _ (storeInDict hp.objs.size (.str name tk) name v) _ _ _
  have hxs : x ≠ hp.objs.size := Nat.ne_of_lt (Heap.lt_size hx)
  have hx1 : (hp.push (PySem.W.dictOf [] 0)).get? x = some (PySem.W.excObj C t1 none .none) := Heap.get?_push_of_some _ hx
  refine PySem.HandSPX.store_in_new ?_ ?_
  · exact ⟨_, #[], _, (Heap.get?_update_ne _ _ _ _ hxs.symm).trans (Heap.get?_push_at rfl rfl), rfl, (fun e he => absurd he (by simp)), fun _ => rfl⟩
  · intro h' tk' hn' hs
    refine hq h' tk' hp.objs.size (fun b o hb ho => ?_) (Nat.le_refl _) hxs.symm ?_ hn'
    · exact (hs.2 b (Nat.ne_of_lt (Heap.lt_size ho))).trans ((Heap.get?_update_ne _ _ _ _ hb).trans (Heap.get?_push_of_some _ ho))
    · exact (hs.2 x hxs).trans (Heap.get?_update_self _ hx1 rfl)
end
end Mq

namespace Mq
open PySem PySem.Spec PyProof.Rows L2
/-! ### the error that a suite holds: its class, its field -/
/-- what the class at D says, so that isinstance asks its errors rightly -/
structure HeldC (K : PySem.W.Frag) (D : Addr) : Prop where
  cl : (PySem.W.clsIn K D).isSome = true
  ga : PySem.W.findIn K (.ref D) "__getattribute__" = some (some (.builtin "BaseException.__getattribute__"))
  gg : PySem.W.findIn K (.ref D) "__getattr__" = some none
  sb : PySem.W.subIn K (.ref D) (.type "BaseException") = some true
  ca : PySem.W.findIn K (.ref D) "__class__" = some (some (.builtin "object.__class__"))
  sp : PySem.W.specialIn K (.builtin "object.__class__") "__get__" = some (some (.builtin "getset_descriptor.__get__"))
  tk : PySem.W.takesIn K (.builtin "object.__class__") = some true
  mo : PySem.W.mroIn K D (.type "object") = some true
/-- isinstance(e, c), e the error at a -/
def rHeld (K : PySem.W.Frag) (D a : Addr) (d : Option Addr) : List V → Hp → VK → Prop := fun xs H Q => ∃ (dd c : Addr) (fs : List (Str × V)) (b : Bool),
  xs = [.ref a, .ref c] ∧ d = some dd ∧ H dd = some (.xd fs) ∧ PySem.W.kitOne K (.ref D) (.ref c) = some b ∧ Q (.bl b) H
theorem call_held {X : Cx} {a D : Addr} {oe : Obj} {d : Option Addr} {pn : List (Addr × Obj)} (C : HeldC X.K D) (hz : Zc (.ref D) d oe)
    (hf : ∃ vs, oe.data = .fields vs) : CallR (X.suite a ((a, oe) :: pn)) (.builtin "isinstance") (rHeld X.K D a d) := by
  intro pins s σ H xs us Q I r h
  obtain ⟨dd, c, fs, b, rfl, rfl, hd, e, q⟩ := h
  cases r with
  | cons rx rr =>
    cases rr with
    | cons rt rr =>
      cases rr
      cases rx
      cases rt
      obtain ⟨hget, _⟩ := I.pin (a, oe) (List.mem_append.mpr (Or.inl List.mem_cons_self))
      obtain ⟨vs, hv⟩ := hf
      obtain ⟨mA, ⟨od, es, ep, ho, _⟩, _⟩ := (show ObjOk X.prog X.w H s.heap dd (.xd fs) from I.hok dd _ hd)
      have J : PySem.W.InstAt s.heap a oe D (some od) := by
        refine ⟨hget, hz.1, ?_, ?_⟩
        · unfold PySem.W.notCls
          rw [hv]
        · rw [hz.2]
          exact ho
      refine PySem.W.kia_one (PySem.W.kitx_exc C.cl C.ga C.gg C.sb C.ca C.sp C.tk C.mo) I.kIn J e (fun z => by cases z) (fun tk => ?_)
      exact ⟨.bl b, H, I.kept (t' := tk) (fun _ _ z => z), rfl, q⟩
/-! ### methods that raise, called within a try -/
section
variable {X : Cx} {CX : CXT} {k : Nat} {f C : Addr} {fd : FuncData} {ps : List Str} {sp : Sp}
  {E : L2.St → XK} {m : Str} {pos apos : Pos} {e o : Expr} {es : List Expr} {kws : List Keyword} {ta : TE} {t tk : TA}
def tMethT (C : Addr) (m : Str) (sp : Sp) (E : L2.St → XK) (ta : TE) (t : TA) : TE := fun σ H Q => ta σ H fun x H1 => ∃ a dx fs,
  x = .ref a ∧ H1 a = some (.ins C dx fs) ∧ fs.lookup m = none ∧ t σ H1 fun vs H2 => sp (x :: vs) H2 Q (E σ)
theorem pe_methT {pl : Sem Bool} (he : PE X o ta) (c : Cls X.K C) (hm : Meth X.K C m f)
    (F : FnOk X.prog X.w X.K X.mg X.base CX k f fd ps sp) (hr : Room k X.A) (hb : Binds X.K fd ps [])
    (hx : ∀ σ, PassesAt CX X σ (E σ)) (ha : PA X (e :: es) t)
    (hst : starEach (e :: es) X.env = (false, eval e X.env) :: starEach es X.env := by rfl)
    (hpl : (backTo pos (starEach es X.env)).any (·.1) = false := by rfl)
    (ht : eval (.Call (.Attribute o m apos) (e :: es) [] pos) X.env = (do
      let ov ← eval o X.env
      standAt apos.atName
      let (f, first) ← holding [ov] (getMethod ov m pl)
      callWith pos f first (backTo pos (starEach (e :: es) X.env)) (backToKw pos (keywordEach [] X.env))) := by rfl) :
    PE X (.Call (.Attribute o m apos) (e :: es) [] pos) (tMethT C m sp E ta t) := by
  refine ⟨fun pins s σ H Q I h => PySem.W.methodCall_KW (pl := pl) (thn (he.run pins s σ H _ I h) ?_) ht⟩
  rintro u s1 ⟨x, H1, I1, rx, a, dx, fs, rfl, ea, l, q⟩
  cases rx
  refine getmeth_ok I1 ea c hm l ?_
  refine PySem.W.callWith_K (first := [.ref a]) (h₀ := X.base) I.ok.mod.kin hm.kp (thn (ha.run pos pins s1 σ H1 _ I1 q) ?_) hst hpl
  rintro us s2 ⟨vs, H2, I2, r, q2⟩
  exact ⟨I2.kIn, run_fnS (us := .ref a :: us) (vs := .ref a :: vs) F hr hb (hx σ) I2 (.cons rfl r) q2⟩
end
end Mq
namespace Mq
open PySem PySem.Spec PyProof.Rows L2
section
variable {X : Cx} {CX : CXT} {k : Nat} {f C : Addr} {fd : FuncData} {ps ks : List Str} {sp : Sp}
  {E : L2.St → XK} {m : Str} {pos apos : Pos} {o : Expr} {kws : List Keyword} {ta : TE} {tk : TA}
  {g : List Value → List Value → List Value} {gV : List V → List V → List V}
def tMethK (C : Addr) (m : Str) (many : Nat) (sp : Sp) (gV : List V → List V → List V) (E : L2.St → XK) (ta : TE) (tk : TA) : TE := fun σ H Q => ta σ H fun x H1 => ∃ a dx fs,
  x = .ref a ∧ H1 a = some (.ins C dx fs) ∧ fs.lookup m = none ∧ tk σ H1 fun zs H2 => zs.length = many ∧ sp (gV [x] zs) H2 Q (E σ)
/-- o.m(k = v, ..), what is raised being wished for at the slots as they stand -/
theorem pe_methK {pl : Sem Bool} (he : PE X o ta) (c : Cls X.K C) (hm : Meth X.K C m f)
    (F : FnOk X.prog X.w X.K X.mg X.base CX k f fd ps sp) (hr : Room k X.A) (hb : KBn X.K fd ps 1 ks g gV)
    (hx : ∀ σ, PassesAt CX X σ (E σ)) (hkw : PK X kws tk)
    (hall : (backToKw pos (keywordEach kws X.env)).all (·.1.isSome) = true := by rfl)
    (hks : (backToKw pos (keywordEach kws X.env)).filterMap (·.1) = ks := by rfl)
    (hpl : ((backTo pos (starEach [] X.env)).any (·.1) || (backToKw pos (keywordEach kws X.env)).any (·.1.isNone)) = false := by rfl)
    (ht : eval (.Call (.Attribute o m apos) [] kws pos) X.env = (do
      let ov ← eval o X.env
      standAt apos.atName
      let (f, first) ← holding [ov] (getMethod ov m pl)
      callWith pos f first (backTo pos (starEach [] X.env)) (backToKw pos (keywordEach kws X.env))) := by rfl) :
    PE X (.Call (.Attribute o m apos) [] kws pos) (tMethK C m ks.length sp gV E ta tk) := by
  refine ⟨fun pins s σ H Q I h => PySem.W.methodCall_KW (pl := pl) (thn (he.run pins s σ H _ I h) ?_) ht⟩
  rintro u s1 ⟨x, H1, I1, rx, a, dx, fs, rfl, ea, l, q⟩
  cases rx
  refine getmeth_ok I1 ea c hm l ?_
  refine PySem.W.callWith_KW0 (first := [.ref a]) (h₀ := X.base) I.ok.mod.kin hm.kp hall (thn (hkw.run pos pins s1 σ H1 _ I1 q) ?_) hpl
  rintro ws s2 ⟨zs, H2, I2, rz, hl, q2⟩
  refine ⟨I2.kIn, ?_⟩
  rw [hks]
  have r1 : Vals [V.ref a] [Value.ref a] := .cons rfl .nil
  have r2 := hb.rel r1 rz
  have lw : ws.length = ks.length := rz.length.symm.trans hl
  show wpAny _ _ (call (.ref f) [.ref a] (ks.zip ws)) _ _ _
  refine wpAny_call (codeAny_mono (F.run X.A X.stack s2 H2 ⟨[.ref a], ks.zip ws⟩ (g [.ref a] ws) (gV [.ref a] zs) Q (E σ) hr I2.env0
    (hb.to s2 [.ref a] ws I2.kIn rfl lw) r2 q2) (fun r s' hq => ?_))
  match r, hq with
  | .error er, hq => exact hx σ pins H2 s2 er s' I2 hq
  | .ok (.ret u), hq => exact I2.after hq
  | .ok .next, hq => exact hq.elim
  | .ok .brk, hq => exact hq.elim
  | .ok .cont, hq => exact hq.elim
end
end Mq

namespace Mq
open PySem PySem.Spec PyProof.Rows L2
open SX (S)
/-! ### what the module leaves of the built-in names -/
structure Blt (mg : Str → Option Value) : Prop where
  len : mg "len" = none
  range : mg "range" = none
  isi : mg "isinstance" = none
  all : mg "all" = none
  any : mg "any" = none
  int : mg "int" = none
  str : mg "str" = none
  bool : mg "bool" = none
  tuple : mg "tuple" = none
  list : mg "list" = none
  repr : mg "repr" = none
  enumerate : mg "enumerate" = none
/-! ### heaps that keep what was told -/
theorem same_new {H : Hp} {p : Addr} {o : HO} (h : H p = none) : Same H (upd H p o) := fun b u e => by
  rw [upd_ne (ne_of_none e h)]
  exact e
theorem Same.tup {K : PySem.W.Frag} {H H' : Hp} {a : Addr} {xs : List V} (e : Same H H') (h : SqT K H a xs) : SqT K H' a xs := by
  rcases h with (h | ⟨o, h⟩) | h
  · exact Or.inl (Or.inl (e _ _ h))
  · exact Or.inl (Or.inr ⟨o, e _ _ h⟩)
  · exact Or.inr h
mutual
theorem Dg.same {K : PySem.W.Frag} {H H' : Hp} (e : Same H H') : ∀ {v : V} {d : PyData}, Dg K H v d → Dg K H' v d
  | _, _, .non => .non
  | _, _, .bl b => .bl b
  | _, _, .int i => .int i
  | _, _, .str x => .str x
  | _, _, .lst n h a => .lst n (e.seq h) (DgAll.same e a)
  | _, _, .tup h a => .tup (Same.tup e h) (DgAll.same e a)
  | _, _, .dct h a => .dct (e _ _ h) (DgKv.same e a)
theorem DgAll.same {K : PySem.W.Frag} {H H' : Hp} (e : Same H H') : ∀ {v : List V} {d : List PyData}, DgAll K H v d → DgAll K H' v d
  | _, _, .nil => .nil
  | _, _, .cons a b => .cons (Dg.same e a) (DgAll.same e b)
theorem DgKv.same {K : PySem.W.Frag} {H H' : Hp} (e : Same H H') : ∀ {v : List (Key × V)} {d : List (PyData × PyData)}, DgKv K H v d → DgKv K H' v d
  | _, _, .nil => .nil
  | _, _, .cons a b => .cons (Dg.same e a) (DgKv.same e b)
end
mutual
theorem Dp.same {K : PySem.W.Frag} {H H' : Hp} (e : Same H H') : ∀ {v : V} {d : PyData}, Dp K H v d → Dp K H' v d
  | _, _, .non => .non
  | _, _, .bl b => .bl b
  | _, _, .int i => .int i
  | _, _, .str x => .str x
  | _, _, .lst h a => .lst (e.seq h) (DpAll.same e a)
  | _, _, .tup h a => .tup (Same.tup e h) (DpAll.same e a)
theorem DpAll.same {K : PySem.W.Frag} {H H' : Hp} (e : Same H H') : ∀ {v : List V} {d : List PyData}, DpAll K H v d → DpAll K H' v d
  | _, _, .nil => .nil
  | _, _, .cons a b => .cons (Dp.same e a) (DpAll.same e b)
end
/-! ### the kind of a value -/
def kindOf : PyData → String
  | .none => "NoneType"
  | .bool _ => "bool"
  | .int _ => "int"
  | .str _ => "str"
  | .list _ => "list"
  | .tuple _ => "tuple"
  | .dict _ => "dict"
theorem ty_list {K : PySem.W.Frag} {H : Hp} {a : Addr} {xs : List V} (h : SqL K H a xs) : TyX K H (.ref a) (.type "list") := by
  rcases h with (h | ⟨o, h⟩) | ⟨o, its, n, h, hc, _⟩
  · exact .base (.lst h)
  · exact .base (.frz h)
  · exact .kList h hc
theorem ty_tup {K : PySem.W.Frag} {H : Hp} {a : Addr} {xs : List V} (h : SqT K H a xs) : TyX K H (.ref a) (.type "tuple") := by
  rcases h with (h | ⟨o, h⟩) | ⟨o, its, n, h, hc, _⟩
  · exact .base (.tup h)
  · exact .fTuple h
  · exact .kTuple h hc
theorem Dg.ty {K : PySem.W.Frag} {H : Hp} {v : V} {d : PyData} (h : Dg K H v d) : TyX K H v (.type (kindOf d)) := by
  cases h with
  | non => exact .base .non
  | bl b => exact .base (.bl b)
  | int i => exact .base (.int i)
  | str x => exact .base (.str x)
  | lst _ h _ => exact ty_list h
  | tup h _ => exact ty_tup h
  | dct h _ => exact .base (.dK h)
theorem Dp.ty {K : PySem.W.Frag} {H : Hp} {v : V} {d : PyData} (h : Dp K H v d) : TyX K H v (.type (kindOf d)) := by
  cases h with
  | non => exact .base .non
  | bl b => exact .base (.bl b)
  | int i => exact .base (.int i)
  | str x => exact .base (.str x)
  | lst h _ => exact ty_list h
  | tup h _ => exact ty_tup h
/-- isinstance(x, T), T a built-in class -/
theorem isi_ty {K : PySem.W.Frag} {x : V} {a b : String} {r : Bool} {H : Hp} {Q : VK} (h : TyX K H x (.type a)) (e : kitB a b = some r) (q : Q (.bl r) H) :
    rIsi K [x, .ty b] H Q := ⟨x, .ty b, _, _, r, rfl, .ty b, h, kit_ty e, q⟩
theorem kit_known (a b : String) (ha : a ∈ ["NoneType", "bool", "int", "str", "list", "tuple", "dict"]) (hb : b ∈ ["str", "tuple", "list", "bool", "dict"]) :
    kitB a b = some (decide (a = b)) := by
  have h : (["NoneType", "bool", "int", "str", "list", "tuple", "dict"].all fun a => ["str", "tuple", "list", "bool", "dict"].all fun b =>
      decide (kitB a b = some (decide (a = b)))) = true := by decide +kernel
  have h1 := List.all_eq_true.mp h a ha
  have h2 := List.all_eq_true.mp h1 b hb
  exact of_decide_eq_true h2
theorem kind_in (d : PyData) : kindOf d ∈ ["NoneType", "bool", "int", "str", "list", "tuple", "dict"] := by
  cases d <;> simp [kindOf]
/-! ### comprehensions whose turns change nothing -/
theorem walk_rng {n : Nat} : Walk (Itr 0 n) n (fun _ => True) (YFn fun i => .int (i : Nat)) :=
  walk_range.mono (fun _ h => h) (fun i H x H' _ _ y => ⟨y.1, by rw [y.2]; show V.int (0 + (i : Int)) = V.int (i : Int); rw [Int.zero_add]⟩)
theorem lc_map {wi : TI} {J : It} {n : Nat} {G : Hp → Prop} {Y : Nat → Hp → V → Hp → Prop} (w : Walk J n G Y) {g : TG} {te : TE} {vs : List Nat} {σ : L2.St} {H0 : Hp} {Q : VK}
    (f : Nat → V) (hn : n ≤ 1000000) (hw : ∀ R : It → Hp → Prop, (∀ H, Same H0 H → G H → R J H) → wi σ H0 R) (hG : ∀ H H', Same H0 H → G H → Same H H' → G H')
    (hs : ∀ i x H H' (R : V → Hp → Prop), i < n → Same H0 H → Y i H x H' → (∀ H4, Same H H4 → R (f i) H4) →
      g x (wipe σ vs) H' fun σ2 H2 => wipe σ2 vs = wipe σ vs ∧ te σ2 H2 R)
    (hd : ∀ D H', H0 D = none → Same H0 H' → H' D = some (.lst ((List.range n).map f)) → Q (.ref D) H') : tLc wi g tYes te vs σ H0 Q := by
  refine hw _ (fun H sm0 hg0 D hD => ?_)
  have hD0 := sm0.free hD
  let Nx : Nat → Hp → Prop := fun i H' => Same H H' ∧ H' D = some (.lst ((List.range i).map f))
  refine ⟨fun i m H' => m = n - i ∧ i ≤ n ∧ Nx i H', ⟨n, by simp, Nat.zero_le _, same_new hD, upd_same⟩, ?_⟩
  rintro i m H' ⟨rfl, hi, sm, hl⟩
  have hg := hG H H' sm0 hg0 sm
  have sm' := sm0.trans sm
  by_cases hlt : i < n
  · refine Or.inr ⟨w.goes i H' hlt hg, Nx (i + 1), fun H'' p => ⟨n - (i + 1), by omega, rfl, hlt, p⟩, fun x H'' y => ?_⟩
    refine hs i x H' H'' _ hlt sm' (w.yields i H' x H'' hlt hg y) (fun H4 s4 => ?_)
    refine ⟨_, s4 D _ hl, ?_, fun b o e => ?_, ?_⟩
    · rw [List.length_map, List.length_range]
      exact Nat.lt_of_lt_of_le (Nat.lt_of_lt_of_le hlt hn) (by decide)
    · rw [upd_ne (ne_of_none e hD)]
      exact s4 b o (sm b o e)
    · rw [upd_same, List.range_succ, List.map_append]
      rfl
  · have e : i = n := by omega
    subst e
    exact Or.inl ⟨w.stops H' hg, hd D H' hD0 sm' hl⟩
end Mq


namespace MqE_thing
open PySem PySem.Spec PyProof.Rows L2 Mq PySem.W PySem.Calls
/-! ### errors whose one parameter is thing -/
def iA (p1 p2 : Pos) : Arguments := { posonlyargs := [], args := [{ arg := "self", annotation := none, pos := p1 }, { arg := "thing", annotation := none, pos := p2 }], vararg := none, kwonlyargs := [], kw_defaults := [], kwarg := none, defaults := [] }
def iB (q1 q2 q3 q4 : Pos) : List Stmt := [.Assign [.Attribute (.Name "self" q1) "thing" q2] (.Name "thing" q3) q4]
def iS : Scope := { kind := .function, names := [(PySem.Str.ofString "self", .local), (PySem.Str.ofString "thing", .local)], isGenerator := false, isCoroutine := false, more := [] }
/-- what the written part says of the class x at C, and of its __init__ at fI -/
structure Txt (K : Frag) (mg : Str → Option Value) (x qual : Str) (C fI : Addr) : Prop where
  gC : mg x = some (.ref C)
  kC : keepIn K (.ref C) = true
  ex : excInitIn K C exTail "Exception.__new__" = true
  ov : excOver K C exTail = true
  hdC : hasDictIn K C = true
  tk : takerIn K C "thing" = some none
  sa : findIn K (.ref C) "__setattr__" = some (some (.builtin "object.__setattr__"))
  iC : findIn K (.ref C) "__init__" = some (some (.ref fI))
  tC : typeIn K (.ref fI) = some (.type "function")
  exC : subIn K (.ref C) (.type "BaseException") = some true
  tyC : typeIn K (.ref C) = some (.type "type")
  fn : ∃ (oc : Value) (od : Option Addr) (doc pm : Value) (an : Option Addr) (cdv ct : Value) (osl : Array (Option Value)) (p1 p2 q1 q2 q3 q4 : Pos),
    K.lookup fI = some ⟨oc, od, .func (fnOf "__init__" qual (iA p1 p2) (iB q1 q2 q3 q4) iS .none .none doc pm an cdv ct), osl⟩ ∧ codeIn K cdv qual = true
theorem ld_loc {M : Model} {s : Shared} {name : Str} {scope : Scope} {L a : Addr} {cd : Value} {m : Str → Option Value} {y : Str} {pos : Pos} {v : Value}
    {Q : Value → Shared → Prop} {A : Around} {E : Value → Shared → Prop} (hn : s.heap.Ns L m) (hv : m y = some v) (h : Q v s)
    (hk : scope.kind = .function := by rfl) (hl : (envOfC name scope L a cd).kindOf y = some .local := by rfl) (hd : (y == ("__debug__" : Str)) = false := by decide) :
    wpAny M A (eval (.Name y pos) (envOfC name scope L a cd)) Q E s := wpAny_Name (wpAny_loadName_local hk hl hn hv h) hd
/-- what __init__ leaves of a new error at e -/
structure Filled (h h' : Heap) (e C dx t1 : Addr) (v : Value) : Prop where
  keep : ∀ b o, b ≠ e → h.get? b = some o → h'.get? b = some o
  obj : h'.get? e = some (excObj C t1 (some dx) .none)
  big : h.objs.size ≤ dx
  ne : dx ≠ e
  ns : h'.Ns1 dx (fun y => if y = "thing" then some v else none)
/-- a made error -/
structure Made (h h' : Heap) (e C d : Addr) (v : Value) : Prop where
  keep : ∀ b o, h.get? b = some o → h'.get? b = some o
  new : h.objs.size ≤ e
  obj : ∃ oe vs, h'.get? e = some oe ∧ oe.cls = .ref C ∧ oe.dict = some d ∧ oe.data = .fields vs ∧ vs[1]? = some .none
  big : h.objs.size ≤ d
  ne : d ≠ e
  ns : h'.Ns1 d (fun y => if y = "thing" then some v else none)
section
variable {prog : Program} {w : World} {A : Around} {E : Value → Shared → Prop} {R : Result → Shared → Prop} {s : Shared} {K : Frag} {mg : Str → Option Value} {x qual : Str} {C fI : Addr}
theorem init_run (T : Txt K mg x qual C fI) {e t0 : Addr} {v : Value} (X : K.In s.heap) (lim : s.heap.NoLimit) (he : s.heap.get? e = some (excObj C t0 none .none)) (room : A.depth < recursionLimit)
    (hq : ∀ h' tk dx, Filled s.heap h' e C dx t0 v → R (.ok (.ret .none)) { s with heap := h', toks := tk }) :
    codeAny (model prog w) A (.call (.ref fI) ⟨[.ref e, v], []⟩) R s := by
  obtain ⟨oc, od, doc, pm, an, cdv, ct, osl, p1, p2, q1, q2, q3, q4, ho, hcd⟩ := T.fn
  refine Att.call_fn (binds := [("self", .ref e), ("thing", v)]) X lim ho hcd room (BindsTo.of_eq (by first | rfl | with_unfolding_all rfl)) (by first | rfl | decide | with_unfolding_all rfl) (fun s₁ IC => ?_) rfl rfl rfl
  obtain ⟨h₁, tk₁, rfl⟩ := IC.toInCall.same
  have k : ∀ b o, s.heap.get? b = some o → h₁.get? b = some o := IC.toInCall.keep
  have hn := IC.toInCall.ns
  have X₁ : K.In h₁ := X.keeps k
  have he₁ := k _ _ he
  show wpAny _ _ (execs _ _) _ _ _
  refine wpAny_execs_cons (plainObj_wpAny_Assign_Attribute ?_)
  refine ld_loc (v := v) hn (by first | rfl | with_unfolding_all rfl | kernel_rfl) (ld_loc (v := .ref e) hn (by first | rfl | with_unfolding_all rfl | kernel_rfl) ?_)
  refine set_plain X₁ (ox := excObj C t0 none .none) (od := none) ⟨he₁, rfl, rfl, trivial⟩ T.sa ?_
  refine osa_first X₁ he₁ T.ov T.hdC T.tk (fun h₃ tk₃ dx k₃ dn dne he₃ hn₃ => ?_)
  show wpAny _ _ (execs _ _) _ _ _
  have z : s.heap.objs.size < h₁.objs.size := hn.lt
  exact wpAny_execs_nil (hq h₃ tk₃ dx ⟨fun b o hb e => k₃ b o hb (k b o e), he₃, Nat.le_of_lt (Nat.lt_of_lt_of_le z dn), dne, hn₃⟩)
theorem made_run (T : Txt K mg x qual C fI) {v : Value} (X : K.In s.heap) (lim : s.heap.NoLimit) (room : A.depth + 1 < recursionLimit)
    (hq : ∀ h' tk e d, Made s.heap h' e C d v → R (.ok (.ret (.ref e))) { s with heap := h', toks := tk }) :
    codeAny (model prog w) A (.call (.ref C) ⟨[v], []⟩) R s := by
  obtain ⟨nm, N, qn, bs, bm, hdct, sn, sub, ab, col, dd, k0, k1, k2, k3, k5, hC, hT⟩ := excInit_of X T.ex
  obtain ⟨hp, g, dr, tk, os⟩ := s
  have k : ∀ b o, hp.get? b = some o → ((hp.push (kdv_tup [v])).push (HandSPX.excO C hp.objs.size)).get? b = some o := fun b o e => Heap.get?_push_of_some _ (Heap.get?_push_of_some _ e)
  have hget : ((hp.push (kdv_tup [v])).push (HandSPX.excO C hp.objs.size)).get? (hp.objs.size + 1) = some (excObj C hp.objs.size none .none) := by heap_get
  refine HandSPX.call_own F.excBase_Exception hT hC (looks_findIn X T.iC) (fun self => bind_fn X self T.tC) (by rw [sizeLine_eq]; exact (by decide : 1 ≤ 16777216)) ?_
  refine init_run (s := ⟨(hp.push (kdv_tup [v])).push (HandSPX.excO C hp.objs.size), g, dr, tk, os⟩) T (X.keeps k) (lim.keeps k) hget ?_ (fun h' tk' dx M => ?_)
  · show A.depth + 1 < recursionLimit
    exact room
  · obtain ⟨k', hx, dn, dne, hns⟩ := M
    have old : ∀ b o, hp.get? b = some o → h'.get? b = some o := fun b o e => k' b o (Nat.ne_of_lt (Nat.lt_succ_of_lt (Heap.lt_size e))) (k b o e)
    have z : hp.objs.size + 1 + 1 ≤ dx := by
      have q := dn
      rw [Heap.size_push, Heap.size_push] at q
      exact q
    exact ⟨rfl, hq h' tk' (hp.objs.size + 1) dx ⟨old, Nat.le_succ _, ⟨_, _, hx, rfl, rfl, rfl, rfl⟩, Nat.le_trans (Nat.le_trans (Nat.le_succ _) (Nat.le_succ _)) z, dne, hns⟩⟩
end
theorem relO_f {v : V} {v' : Value} (r : RelV v v') (f : Str) : RelO (List.lookup f [(("thing" : Str), v)]) (if f = "thing" then some v' else none) := by
  by_cases hw : f = "thing"
  · subst hw
    rw [if_pos rfl]
    have q : List.lookup ("thing" : Str) [(("thing" : Str), v)] = some v := by simp [List.lookup]
    rw [q]
    exact r
  · rw [if_neg hw]
    have qw : (f == ("thing" : Str)) = false := by simpa using hw
    have q2 : List.lookup f [(("thing" : Str), v)] = none := by simp [List.lookup, qw]
    rw [q2]
    trivial
section
variable {X : Cx} {C fI : Addr} {x qual : Str}
/-- x(e) -/
def tMk (C : Addr) (ta : TA) : L2.St → Hp → XK → Prop := fun σ H Q => ta σ H fun vs H1 => ∃ v, vs = [v] ∧ ∀ d, H1 d = none → Q (.ref C) (some d) (upd H1 d (.xd [(("thing" : Str), v)]))
theorem pmk {a : Expr} {ta : TA} {p pos : Pos} {k : Nat} (T : Txt X.K X.mg x qual C fI) (hr : Room k X.A) (ha : PA X [a] ta) (hg : Gl X x := by rfl) (hdb : (x == ("__debug__" : Str)) = false := by decide)
    (he : starEach (a :: []) X.env = (false, eval a X.env) :: starEach [] X.env := by rfl) (hpl : (backTo pos (starEach [] X.env)).any (·.1) = false := by rfl) :
    PMk X (.Call (.Name x p) [a] [] pos) (tMk C ta) := by
  intro pins s σ H Q I h
  refine wpAny_Call_Name_kw (ld_glob I hg T.gC ?_ hdb)
  refine callWith_K (h₀ := X.base) I.ok.mod.kin T.kC (thn (ha.run pos pins s σ H _ I h) fun us s1 hh => ?_) he hpl
  obtain ⟨vs, H1, I1, r1, v, ev, q1⟩ := hh
  subst ev
  refine ⟨I1.kIn, ?_⟩
  cases r1 with
  | cons rv rn =>
    rename_i v' us'
    cases rn
    show wpAny _ _ (call (.ref C) [v']) _ _ _
    have hlim := I1.nolimit
    obtain ⟨hp, g, dr, tk, os⟩ := s1
    refine wpAny_call (made_run T I1.kIn hlim (by have := hr.dp; omega) (fun h' tk' e d M => ?_))
    show MkP X pins σ Q (.ref e) ⟨h', g, dr, tk', os⟩
    obtain ⟨oe, fv, hoe, hc, hd, hdat, h1⟩ := M.obj
    have hns := M.ns
    obtain ⟨G', g1, g2⟩ := restrict h' fun b => decide (b ≠ e)
    have gk : ∀ b, b ≠ e → G'.get? b = h'.get? b := fun b hb => g1 b (decide_eq_true hb)
    have ge : G'.get? e = none := g2 e (by simp)
    have old : ∀ b o, hp.get? b = some o → G'.get? b = some o := fun b o q => (gk b (Nat.ne_of_lt (Nat.lt_of_lt_of_le (Heap.lt_size q) M.new))).trans (M.keep b o q)
    have ob : ObjOk X.prog X.w (upd H1 d (.xd [(("thing" : Str), v)])) G' d (.xd [(("thing" : Str), v)]) :=
      ⟨_, hns.at (fun o q => (gk d M.ne).trans q), fun f => relO_f rv f⟩
    have J : L2.Inv X pins σ (upd H1 d (.xd [(("thing" : Str), v)])) ⟨G', g, dr, tk', os⟩ := I1.laid (t' := tk') old M.big ob
    refine ⟨e, oe, fv, ⟨G', g, dr, tk', os⟩, _, .ref C, some d, rfl, J, (fun b o q => ?_), ge, hoe, ⟨hc, hd⟩, hdat, h1, ?_, rfl, I1.bare, raises_own T.exC T.tyC, q1 d (I1.hok.fresh M.big)⟩
    · by_cases hb : b = e
      · have q' : G'.get? b = some o := q
        rw [hb, ge] at q'
        cases q'
      · exact (gk b hb).symm.trans q
    · rw [upd_ne (Ne.symm M.ne)]
      exact I1.hok.fresh M.new
/-- raise x(e) -/
def tRaise (C : Addr) (W : WX) (ta : TA) : TS := fun _ σ H => tMk C ta σ H fun cls d H' => W cls d σ H'
theorem ps_raise {a : Expr} {ta : TA} {W : WX} {p pos pos2 : Pos} {k : Nat} (hc : X.calm = true) (T : Txt X.K X.mg x qual C fI) (hr : Room k X.A) (tk : Takes X W) (ha : PA X [a] ta) (hg : Gl X x := by rfl) (hdb : (x == ("__debug__" : Str)) = false := by decide)
    (he : starEach (a :: []) X.env = (false, eval a X.env) :: starEach [] X.env := by rfl) (hpl : (backTo pos (starEach [] X.env)).any (·.1) = false := by rfl) :
    PS X (.Raise (some (.Call (.Name x p) [a] [] pos)) none pos2) (tRaise C W ta) := L2.ps_raise hc tk (pmk T hr ha hg hdb he hpl)
end
end MqE_thing

namespace Lw
open PySem PySem.Spec PyProof.Rows L2 Mq
/-! ### where the defs stand -/
def topS (i : Nat) : Stmt := PySem.Challenge.pw_millhands_k08_what_readers_make.main.body.getD i (.Pass ⟨0, 0, 0, 0⟩)
abbrev s_is_letters : Stmt := topS 10
theorem sc_is_letters : FnScope ["thing", "letter"] ["thing"] (defScope s_is_letters) := ⟨rfl, rfl, rfl, by decide +kernel, rfl, by decide +kernel, by decide +kernel⟩
abbrev s_is_word : Stmt := topS 11
theorem sc_is_word : FnScope ["letters", "thing", "letter"] ["letters", "thing"] (defScope s_is_word) := ⟨rfl, rfl, rfl, by decide +kernel, rfl, by decide +kernel, by decide +kernel⟩
abbrev s_is_number : Stmt := topS 12
theorem sc_is_number : FnScope ["thing"] ["thing"] (defScope s_is_number) := ⟨rfl, rfl, rfl, by decide +kernel, rfl, by decide +kernel, by decide +kernel⟩
abbrev s_is_below : Stmt := topS 13
theorem sc_is_below : FnScope ["thing", "many"] ["thing", "many"] (defScope s_is_below) := ⟨rfl, rfl, rfl, by decide +kernel, rfl, by decide +kernel, by decide +kernel⟩
abbrev s_is_ascending : Stmt := topS 14
theorem sc_is_ascending : FnScope ["parts", "k"] ["parts"] (defScope s_is_ascending) := ⟨rfl, rfl, rfl, by decide +kernel, rfl, by decide +kernel, by decide +kernel⟩
abbrev s_is_reading : Stmt := topS 20
theorem sc_is_reading : FnScope ["letters", "node", "many", "number"] ["letters", "node", "many"] (defScope s_is_reading) := ⟨rfl, rfl, rfl, by decide +kernel, rfl, by decide +kernel, by decide +kernel⟩
abbrev s_has_head : Stmt := topS 21
theorem sc_has_head : FnScope ["thing"] ["thing"] (defScope s_has_head) := ⟨rfl, rfl, rfl, by decide +kernel, rfl, by decide +kernel, by decide +kernel⟩
abbrev s_wrong_part : Stmt := topS 22
theorem sc_wrong_part : FnScope ["letters", "nodes", "is_node", "word", "most", "number", "node"] ["letters", "nodes", "is_node", "word", "most"] (defScope s_wrong_part) := ⟨rfl, rfl, rfl, by decide +kernel, rfl, by decide +kernel, by decide +kernel⟩
abbrev s_walked : Stmt := topS 23
theorem sc_walked : FnScope ["letters", "nodes", "start", "web", "at", "left"] ["letters", "nodes", "start", "web"] (defScope s_walked) := ⟨rfl, rfl, rfl, by decide +kernel, rfl, by decide +kernel, by decide +kernel⟩
abbrev s_is_web : Stmt := topS 25
theorem sc_is_web : FnScope ["letters", "thing"] ["letters", "thing"] (defScope s_is_web) := ⟨rfl, rfl, rfl, by decide +kernel, rfl, by decide +kernel, by decide +kernel⟩
abbrev s_check_web : Stmt := topS 26
theorem sc_check_web : FnScope ["letters", "thing"] ["letters", "thing"] (defScope s_check_web) := ⟨rfl, rfl, rfl, by decide +kernel, rfl, by decide +kernel, by decide +kernel⟩
abbrev s_Reader___init__ : Stmt := inClass (topS 28) 0
theorem sc_Reader___init__ : FnScope ["self", "letters", "nodes", "part"] ["self", "letters", "nodes"] (defScope s_Reader___init__) := ⟨rfl, rfl, rfl, by decide +kernel, rfl, by decide +kernel, by decide +kernel⟩
abbrev s_Reader_made : Stmt := inClass (topS 28) 5
theorem sc_Reader_made : FnScope ["self", "web"] ["self", "web"] (defScope s_Reader_made) := ⟨rfl, rfl, rfl, by decide +kernel, rfl, by decide +kernel, by decide +kernel⟩
abbrev s_Reader_read_of : Stmt := inClass (topS 28) 6
theorem sc_Reader_read_of : FnScope ["self", "web", "_", "left"] ["self", "web"] (defScope s_Reader_read_of) := ⟨rfl, rfl, rfl, by decide +kernel, rfl, by decide +kernel, by decide +kernel⟩
abbrev s_is_reader_node : Stmt := topS 29
theorem sc_is_reader_node : FnScope ["letters", "node", "many"] ["letters", "node", "many"] (defScope s_is_reader_node) := ⟨rfl, rfl, rfl, by decide +kernel, rfl, by decide +kernel, by decide +kernel⟩
abbrev s_made_by : Stmt := topS 32
theorem sc_made_by : FnScope ["letters", "nodes", "web", "at", "left", "node"] ["letters", "nodes", "web"] (defScope s_made_by) := ⟨rfl, rfl, rfl, by decide +kernel, rfl, by decide +kernel, by decide +kernel⟩
abbrev s__law_deck : Stmt := topS 34
theorem sc__law_deck : FnScope ["_law_script", "_law_cells", "_law_mixed", "_law_cell"] ["_law_script"] (defScope s__law_deck) := ⟨rfl, rfl, rfl, by decide +kernel, rfl, by decide +kernel, by decide +kernel⟩
abbrev s__law_draw : Stmt := topS 35
theorem sc__law_draw : FnScope ["_law_deck_here", "_law_below", "_law_mixed", "_law_cell"] ["_law_deck_here", "_law_below"] (defScope s__law_draw) := ⟨rfl, rfl, rfl, by decide +kernel, rfl, by decide +kernel, by decide +kernel⟩
abbrev s__law_pick : Stmt := topS 36
theorem sc__law_pick : FnScope ["_law_deck_here", "_law_some"] ["_law_deck_here", "_law_some"] (defScope s__law_pick) := ⟨rfl, rfl, rfl, by decide +kernel, rfl, by decide +kernel, by decide +kernel⟩
abbrev s__law_word : Stmt := topS 37
theorem sc__law_word : FnScope ["_law_deck_here", "_law_signs", "_law_most", "_law_k"] ["_law_deck_here", "_law_signs", "_law_most"] (defScope s__law_word) := ⟨rfl, rfl, rfl, by decide +kernel, rfl, by decide +kernel, by decide +kernel⟩
abbrev s__law_nodes : Stmt := topS 38
theorem sc__law_nodes : FnScope ["_law_deck_here", "_law_signs", "_law_top", "_law_size", "_law_found", "_law_k", "_law_way", "_law_bare", "_law_x"] ["_law_deck_here", "_law_signs", "_law_top"] (defScope s__law_nodes) := ⟨rfl, rfl, rfl, by decide +kernel, rfl, by decide +kernel, by decide +kernel⟩
abbrev s__law_made : Stmt := topS 39
theorem sc__law_made : FnScope ["_law_signs", "_law_nodes_here", "_law_web", "_law_k", "_law_many"] ["_law_signs", "_law_nodes_here", "_law_web"] (defScope s__law_made) := ⟨rfl, rfl, rfl, by decide +kernel, rfl, by decide +kernel, by decide +kernel⟩
abbrev s__law_heard : Stmt := topS 40
theorem sc__law_heard : FnScope ["_law_way", "_law_code", "_law_web", "_law_found", "e"] ["_law_way", "_law_code", "_law_web"] (defScope s__law_heard) := ⟨rfl, rfl, rfl, by decide +kernel, rfl, by decide +kernel, by decide +kernel⟩
abbrev s__law_web_right : Stmt := topS 41
theorem sc__law_web_right : FnScope ["_law_deck_here", "_law_signs", "_law_nodes_here", "_law_code", "_law_web", "_law_made_here", "_law_many", "_law_base", "_law_cut", "_law_rest", "_law_way"] ["_law_deck_here", "_law_signs", "_law_nodes_here", "_law_code", "_law_web"] (defScope s__law_web_right) := ⟨rfl, rfl, rfl, by decide +kernel, rfl, by decide +kernel, by decide +kernel⟩
abbrev s_law : Stmt := topS 42
theorem sc_law : FnScope ["_law_script", "_law_deck_here", "_law_go", "_law_signs", "_law_nodes_here", "_law_code", "_law_turn", "_law_odd", "_law_due", "_law_far", "_law_way"] ["_law_script"] (defScope s_law) := ⟨rfl, rfl, rfl, by decide +kernel, rfl, by decide +kernel, by decide +kernel⟩
end Lw

namespace Lw
open PySem PySem.Spec PyProof.Rows L2 Mq
open SX (S)
/-! ### letters -/
def ascB (l : List Nat) : Bool := ((List.range (l.length - 1)).map fun k => decide (l.getD k 0 < l.getD (k + 1) 0)).all id
theorem lt_sign (c d : Nat) : decide ((S [c]).cps.toList < (S [d]).cps.toList) = decide (c < d) := by
  have h : ((S [c]).cps.toList < (S [d]).cps.toList) ↔ c < d := by
    show ([c] : List Nat) < [d] ↔ c < d
    rw [List.cons_lt_cons_iff]
    simp
  exact decide_eq_decide.mpr h
theorem sz_le {n : Nat} (h : n ≤ 1000000) : n ≤ sizeLine := Nat.le_trans h (by decide)
theorem sz_lt {n : Nat} (h : n ≤ 1000000) : n < sizeLine := Nat.lt_of_le_of_lt h (by decide)
theorem at_get {l : List Nat} {k : Nat} (h : k < l.length) : atI (S l).cps.toList (k : Int) = some (l.getD k 0) := by
  refine atI_nat ?_
  show l[k]? = _
  rw [List.getElem?_eq_getElem h, List.getD_eq_getElem?_getD, List.getElem?_eq_getElem h]
  rfl
theorem ix_sign {l : List Nat} {k : Nat} {H : Hp} {Q : VK} (hl : l.length ≤ 100000) (h : k < l.length) (q : Q (.str (S [l.getD k 0])) H) : rIxS (.str (S l)) (.int (k : Int)) H Q :=
  ⟨S l, (k : Int), l.getD k 0, rfl, rfl, sz_le (by rw [SX.S_len]; omega), at_get h, q⟩
theorem len_S {K : PySem.W.Frag} {H : Hp} {l : List Nat} (hl : l.length ≤ 100000) : LenV K (.str (S l)) H (l.length : Nat) := by
  have hz := SX.S_len l
  refine ⟨?_, ?_⟩
  · rw [hz]
    exact sz_le (by omega)
  · rw [hz]
def spAsc : Sp := fun vs H Q _ => ∃ l : List Nat, vs = [.str (S l)] ∧ l.length ≤ 100000 ∧ ∀ H', Same H H' → Q (.bl (ascB l)) H'
section
variable {P : Program} {w : World} {K : PySem.W.Frag} {mg : Str → Option Value} {base : Heap}
theorem ok_is_ascending {f : Addr} {fd : FuncData} (F : Fun K "is_ascending" "is_ascending" s_is_ascending f fd) (B : Blt mg) :
    FnOk P w K mg base CX0 1 f fd ["parts"] spAsc := by
  refine F.ok sc_is_ascending (fun vs H Q E h => ?_) (fun cdv A outer s H vs Q E hr h => ?_)
  · obtain ⟨l, rfl, _⟩ := h
    rfl
  · obtain ⟨l, rfl, hl, q⟩ := h
    have hz : (S l).length = l.length := SX.S_len l
    refine ⟨_, pss_one (ps_ret (pe_callB (cr_all rfl) (by rfl) B.all (by decide +kernel) (pa_cons (pe_lc (own := [("k", 1)]) (g := gName 1) (tt := tYes) rfl sc_is_ascending.nd
      (pi_range1 (by rfl) B.range (pa_cons (pe_op op_sub (pe_callB call_len (by rfl) B.len (by decide +kernel) (pa_cons (pv 0) pa_nil)) pe_int) pa_nil))
      (blkOk_by (own := [("k", 1)]) (N := ["parts", "k"]) (sc := defScope s_is_ascending) (by decide +kernel)) (fun _ _ _ _ _ => pg_name (i := 1) sc_is_ascending.nd rfl (Or.inl rfl)) (fun _ _ _ _ _ => pts_nil)
      (fun _ _ _ _ _ => pe_cmpR op_lt_str (pe_ix ix_str (pv 0) (pv 1) (fun _ _ => rfl)) (pe_ix ix_str (pv 0) (pe_op op_add (pv 1) pe_int) (fun _ _ => rfl)) (nomark _))) pa_nil))), ?_⟩
    have e1 : ((l.length : Int) - 1).toNat = l.length - 1 := by omega
    unfold tRet tCB tCons
    refine lc_map (n := l.length - 1) walk_rng (fun k => .bl (decide (l.getD k 0 < l.getD (k + 1) 0))) (by omega) (fun R k => ?_) (fun _ _ _ _ _ => trivial) ?_ ?_
    · refine ⟨.str (S l), rfl, .str (S l), l.length, rfl, len_S hl, _, _, rfl, rfl, (l.length : Int) - 1, rfl, by omega, by omega, ?_⟩
      rw [e1]
      exact k _ (Same.refl _) trivial
    · rintro i x H' H'' R hi sm ⟨rfl, rfl⟩ k
      refine ⟨rfl, .str (S l), rfl, .int (i : Nat), rfl, ?_⟩
      refine ix_sign hl (by omega) ⟨.str (S l), rfl, .int (i : Nat), rfl, _, _, rfl, rfl, ?_⟩
      refine ix_sign (k := i + 1) hl (by omega) ?_
      refine ⟨S [l.getD i 0], S [l.getD (i + 1) 0], rfl, rfl, ?_⟩
      rw [lt_sign]
      exact k _ (Same.refl _)
    · intro D H' hD sm hl'
      refine ⟨D, (List.range (l.length - 1)).map fun k => decide (l.getD k 0 < l.getD (k + 1) 0), rfl, SqL.of ?_, q H' sm⟩
      rw [List.map_map]
      exact hl'
end
end Lw

namespace Lw
open PySem PySem.Spec PyProof.Rows L2 Mq
open SX (S)
def alpha : List Nat := List.range' 97 26
theorem alpha_is : ("abcdefghijklmnopqrstuvwxyz" : Str) = S alpha := by decide +kernel
def inB (c : Nat) (l : List Nat) : Bool := decide (c ∈ l)
def allB (l s : List Nat) : Bool := ((List.range l.length).map fun k => inB (l.getD k 0) s).all id
def lettersB (l : List Nat) : Bool := !decide (l = []) && (ascB l && allB l alpha)
/-- a value of a known kind that is no text -/
def NoStr (K : PySem.W.Frag) (H : Hp) (v : V) : Prop := ∃ a, TyX K H v (.type a) ∧ a ∈ ["NoneType", "bool", "int", "str", "list", "tuple", "dict"] ∧ a ≠ "str"
theorem kit_no {K : PySem.W.Frag} {a : String} (m : a ∈ ["NoneType", "bool", "int", "str", "list", "tuple", "dict"]) (n : a ≠ "str") : PySem.W.kitOne K (.type a) (.type "str") = some false :=
  kit_ty (by rw [kit_known a "str" m (by simp), decide_eq_false n])
theorem kit_self {K : PySem.W.Frag} : PySem.W.kitOne K (.type "str") (.type "str") = some true := kit_ty (by decide +kernel)
theorem str_is_nil (l : List Nat) : decide (V.str (S l) = V.str "") = decide (l = []) := by
  refine decide_eq_decide.mpr ⟨fun h => ?_, fun h => by rw [h]; rfl⟩
  have h1 : S l = S [] := V.str.inj h
  exact SX.S_inj h1
theorem walk_S (l : List Nat) : Walk (Its (S l)) l.length (fun _ => True) (YFn fun i => .str (S [l.getD i 0])) := by
  refine walk_str.mono (fun _ h => h) (fun i H x H' hi _ y => ⟨y.1, ?_⟩)
  obtain ⟨_, c, hc, rfl⟩ := y
  have hc' : l[i]? = some c := by simpa using hc
  show V.str (S [c]) = V.str (S [l.getD i 0])
  rw [List.getD_eq_getElem?_getD, hc']
  rfl
/-- what a name is looked up in: letters, signs -/
def spLetters (K : PySem.W.Frag) : Sp := fun vs H Q _ => ∃ v, vs = [v] ∧
  ((∃ l : List Nat, v = .str (S l) ∧ l.length ≤ 100000 ∧ ∀ H', Same H H' → Q (.bl (lettersB l)) H') ∨ (NoStr K H v ∧ ∀ H', Same H H' → Q (.bl false) H'))
def spWord (K : PySem.W.Frag) : Sp := fun vs H Q _ => ∃ (s : List Nat) (v : V), vs = [.str (S s), v] ∧
  ((∃ l : List Nat, v = .str (S l) ∧ l.length ≤ 100000 ∧ ∀ H', Same H H' → Q (.bl (allB l s)) H') ∨ (NoStr K H v ∧ ∀ H', Same H H' → Q (.bl false) H'))
section
variable {P : Program} {w : World} {K : PySem.W.Frag} {mg : Str → Option Value} {base : Heap}
theorem ok_is_letters {f fA : Addr} {fd fdA : FuncData} (F : Fun K "is_letters" "is_letters" s_is_letters f fd) (B : Blt mg)
    (FA : Fun K "is_ascending" "is_ascending" s_is_ascending fA fdA) (gA : mg "is_ascending" = some (.ref fA)) (bA : Binds K fdA ["parts"] [])
    (al : ∃ t, mg "ALPHABET" = some (.str "abcdefghijklmnopqrstuvwxyz" t)) :
    FnOk P w K mg base CX0 2 f fd ["thing"] (spLetters K) := by
  have GA : FnOk P w K mg base CX0 1 fA fdA ["parts"] spAsc := ok_is_ascending FA B
  obtain ⟨ta, al⟩ := al
  refine F.ok sc_is_letters (fun vs H Q E h => ?_) (fun cdv A outer s H vs Q E hr h => ?_)
  · obtain ⟨v, rfl, _⟩ := h
    rfl
  · obtain ⟨v, rfl, h⟩ := h
    refine ⟨_, pss_cons (ps_if (PW.pt (pw_or (pt_not (pt_val (pe_callB call_isi (by rfl) B.isi (by decide +kernel) (pa_cons (pv 0) (pa_cons (pe_bltn (v := .ty "str") (by rfl) B.str (by decide +kernel) rfl) pa_nil)))))
        (pw_or1 (pt_cmpR op_eq (pv 0) pe_str (nomark _))))) (pss_one (ps_ret pe_bl)) pss_nil)
      (pss_one (ps_ret (pe_and (pe_call GA (hr.mono (by decide)) (by rfl) gA FA.kp bA .nil pass0 (pa_cons (pv 0) pa_nil))
        (pe_one (pe_callB (cr_all rfl) (by rfl) B.all (by decide +kernel) (pa_cons (pe_lc (own := [("letter", 1)]) (g := gName 1) (tt := tYes) rfl sc_is_letters.nd (pi_str (pv 0))
          (blkOk_by (own := [("letter", 1)]) (N := ["thing", "letter"]) (sc := defScope s_is_letters) (by decide +kernel)) (fun _ _ _ _ _ => pg_name (i := 1) sc_is_letters.nd rfl (Or.inl rfl)) (fun _ _ _ _ _ => pts_nil)
          (fun _ _ _ _ _ => pe_cmpR op_in_sign (pv 1) (pe_glob (v := .str "abcdefghijklmnopqrstuvwxyz") rfl al ⟨_, rfl⟩) rfl)) pa_nil)))))), ?_⟩
    rcases h with ⟨l, rfl, hl, q⟩ | ⟨hn, q⟩
    · refine ⟨.str (S l), rfl, .str (S l), .ty "str", _, _, true, rfl, .ty _, .base (.str _), kit_self, true, rfl, iteF ⟨.str (S l), rfl, rfl, _, rfl, ?_⟩⟩
      rw [str_is_nil]
      cases e : decide (l = []) with
      | true =>
        refine iteT ?_
        have q' := q H (Same.refl H)
        unfold lettersB at q'
        rw [e] at q'
        exact q'
      | false =>
        refine iteF ⟨.str (S l), rfl, l, rfl, hl, fun H1 s1 => ⟨_, rfl, ?_⟩⟩
        have q' : ∀ H', Same H H' → Q (.bl (ascB l && allB l alpha)) H' := fun H' sm => by
          have z := q H' sm
          unfold lettersB at z
          rw [e] at z
          exact z
        cases ea : ascB l with
        | false =>
          refine iteF ?_
          have z := q' H1 s1
          rw [ea] at z
          exact z
        | true =>
          refine iteT ?_
          rw [ea] at q'
          unfold tCB tCons
          refine lc_map (n := l.length) (walk_S l) (fun k => .bl (inB (l.getD k 0) alpha)) (by omega) (fun R k => ⟨_, rfl, S l, rfl, k _ (Same.refl _) trivial⟩) (fun _ _ _ _ _ => trivial) ?_ ?_
          · rintro i x H' H'' R hi sm ⟨rfl, rfl⟩ k
            refine ⟨rfl, .str (S [l.getD i 0]), rfl, ?_⟩
            rw [alpha_is]
            exact ⟨l.getD i 0, S alpha, rfl, rfl, k _ (Same.refl _)⟩
          · intro D H' hD sm hl'
            refine ⟨D, (List.range l.length).map fun k => inB (l.getD k 0) alpha, rfl, SqL.of ?_, q' H' (s1.trans sm)⟩
            rw [List.map_map]
            exact hl'
    · obtain ⟨a, t, m, n⟩ := hn
      exact ⟨v, rfl, v, .ty "str", .type a, _, false, rfl, .ty _, t, kit_no m n, false, rfl, iteT (iteT (q H (Same.refl H)))⟩
theorem ok_is_word {f : Addr} {fd : FuncData} (F : Fun K "is_word" "is_word" s_is_word f fd) (B : Blt mg) : FnOk P w K mg base CX0 1 f fd ["letters", "thing"] (spWord K) := by
  refine F.ok sc_is_word (fun vs H Q E h => ?_) (fun cdv A outer s H vs Q E hr h => ?_)
  · obtain ⟨s, v, rfl, _⟩ := h
    rfl
  · obtain ⟨sg, v, rfl, h⟩ := h
    refine ⟨_, pss_one (ps_ret (pe_and (pe_callB call_isi (by rfl) B.isi (by decide +kernel) (pa_cons (pv 1) (pa_cons (pe_bltn (v := .ty "str") (by rfl) B.str (by decide +kernel) rfl) pa_nil)))
      (pe_one (pe_callB (cr_all rfl) (by rfl) B.all (by decide +kernel) (pa_cons (pe_lc (own := [("letter", 2)]) (g := gName 2) (tt := tYes) rfl sc_is_word.nd (pi_str (pv 1))
        (blkOk_by (own := [("letter", 2)]) (N := ["letters", "thing", "letter"]) (sc := defScope s_is_word) (by decide +kernel)) (fun _ _ _ _ _ => pg_name (i := 2) sc_is_word.nd rfl (Or.inl rfl)) (fun _ _ _ _ _ => pts_nil)
        (fun _ _ _ _ _ => pe_cmpR op_in_sign (pv 2) (pv 0) rfl)) pa_nil))))), ?_⟩
    rcases h with ⟨l, rfl, hl, q⟩ | ⟨hn, q⟩
    · refine ⟨.str (S l), rfl, .str (S l), .ty "str", _, _, true, rfl, .ty _, .base (.str _), kit_self, true, rfl, iteT ?_⟩
      unfold tCB tCons
      refine lc_map (n := l.length) (walk_S l) (fun k => .bl (inB (l.getD k 0) sg)) (by omega) (fun R k => ⟨_, rfl, S l, rfl, k _ (Same.refl _) trivial⟩) (fun _ _ _ _ _ => trivial) ?_ ?_
      · rintro i x H' H'' R hi sm ⟨rfl, rfl⟩ k
        exact ⟨rfl, .str (S [l.getD i 0]), rfl, .str (S sg), rfl, l.getD i 0, S sg, rfl, rfl, k _ (Same.refl _)⟩
      · intro D H' hD sm hl'
        refine ⟨D, (List.range l.length).map fun k => inB (l.getD k 0) sg, rfl, SqL.of ?_, q H' sm⟩
        rw [List.map_map]
        exact hl'
    · obtain ⟨a, t, m, n⟩ := hn
      exact ⟨v, rfl, v, .ty "str", .type a, _, false, rfl, .ty _, t, kit_no m n, false, rfl, iteF (q H (Same.refl H))⟩
theorem ok_is_web {f fW : Addr} {fd fdW : FuncData} (F : Fun K "is_web" "is_web" s_is_web f fd) (B : Blt mg)
    (FW : Fun K "is_word" "is_word" s_is_word fW fdW) (gW : mg "is_word" = some (.ref fW)) (bW : Binds K fdW ["letters", "thing"] []) :
    FnOk P w K mg base CX0 2 f fd ["letters", "thing"] (spWord K) := by
  have GW : FnOk P w K mg base CX0 1 fW fdW ["letters", "thing"] (spWord K) := ok_is_word FW B
  refine F.ok sc_is_web (fun vs H Q E h => ?_) (fun cdv A outer s H vs Q E hr h => ?_)
  · obtain ⟨s, v, rfl, _⟩ := h
    rfl
  · have h' := h
    obtain ⟨sg, v, rfl, _⟩ := h'
    exact ⟨_, pss_one (ps_ret (pe_call GW (hr.mono (by decide)) (by rfl) gW FW.kp bW .nil pass0 (pa_cons (pv 0) (pa_cons (pv 1) pa_nil)))), _, rfl, _, rfl, h⟩
end
end Lw

namespace Mq
open PySem PySem.Spec PyProof.Rows L2
/-! ### enumerate(v), v a tuple -/
theorem meets_enumT (l : Addr) (items : Array Value) :
    Meets (Builtin.«enumerate.__new__» ⟨[.type "enumerate", .ref l], []⟩) (fun _ R s => s.heap.IsTuple l items ∧
      R (.ok (.ret (.ref (s.heap.push { cls := .type "tuple_iterator", data := .fields #[.ref l, .int 0 0] }).objs.size)))
        { s with heap := (s.heap.push { cls := .type "tuple_iterator", data := .fields #[.ref l, .int 0 0] }).push { cls := .type "enumerate", data := .fields #[.none, .bool false, .ref s.heap.objs.size, rawInt 0, .none, .none] } }) :=
  .of_wp fun prog w A R s h => by
    obtain ⟨hp, g, d, tk, os⟩ := s; obtain ⟨hl, h⟩ := h
    have hsub := sub_enumerate
    have hL : Heap.IsTuple (Shared.heap ⟨hp, g, d, tk, os⟩) l items := hl
    obtain ⟨o, ho, _⟩ := id hl
    wp_walk using AutoSeq1.wpAny_loadPart' ho
    refine wpAny_stack_any fun st => wpAny_pure ?_
    split
    · rename_i c _ _ _ _ _
      cases (c == Value.type "enumerate")
      · wp_walk using AutoSeq1.wpAny_loadPart' ho, wpAny_pyIter_tuple hL
        exact ⟨_, rfl, h⟩
      · wp_walk using AutoSeq1.wpAny_loadPart' ho, wpAny_pyIter_tuple hL
        exact ⟨_, rfl, h⟩
    · wp_walk using AutoSeq1.wpAny_loadPart' ho, wpAny_pyIter_tuple hL
      exact ⟨_, rfl, h⟩
theorem call_enumT {prog : Program} {w : World} {A : Around} {E : Value → Shared → Prop} {s : Shared} {l : Addr} {items : Array Value} {Q : Value → Shared → Prop} (hL : s.heap.IsTuple l items)
    (h : ∀ h', IsEnum h' (s.heap.objs.size + 1) s.heap.objs.size 0 .none → h'.IsTupleIter s.heap.objs.size l 0 → h'.objs.size = s.heap.objs.size + 2 →
      (∀ b o, s.heap.get? b = some o → h'.get? b = some o) → Q (.ref (s.heap.objs.size + 1)) { s with heap := h' }) :
    wpAny (model prog w) A (call (.type "enumerate") [.ref l]) Q E s := by
  refine callType_new F.called_enumerate (by decide) (F.typeCall_enumerate_1 _) (F.newCall_enumerate_1 _) (fun obj => F.args_object_init_2 obj _) F.entry_enumerate_new
    (meets_enumT l items) ⟨hL, ?_⟩
  have hz : (s.heap.push { cls := .type "tuple_iterator", data := .fields #[.ref l, .int 0 0] }).objs.size = s.heap.objs.size + 1 := Heap.size_push ..
  show _ ∧ _
  rw [hz]
  have he : IsEnum ((s.heap.push { cls := .type "tuple_iterator", data := .fields #[.ref l, .int 0 0] }).push
      { cls := .type "enumerate", data := .fields #[.none, .bool false, .ref s.heap.objs.size, rawInt 0, .none, .none] }) (s.heap.objs.size + 1) s.heap.objs.size 0 .none := by
    have := Heap.get?_push_size (s.heap.push { cls := .type "tuple_iterator", data := .fields #[.ref l, .int 0 0] })
      (o := { cls := .type "enumerate", data := .fields #[.none, .bool false, .ref s.heap.objs.size, rawInt 0, .none, .none] }) rfl
    rw [hz] at this; exact this
  refine ⟨⟨_, he, rfl⟩, h _ he ⟨_, Heap.get?_push_of_some _ (Heap.get?_push_size _ rfl), rfl, rfl⟩ (by rw [Heap.size_push, hz]) fun b o x => Heap.get?_push_of_some _ (Heap.get?_push_of_some _ x)⟩
/-- the tuple at a, each item in a new pair -/
def Iee (K : PySem.W.Frag) (a : Addr) : It :=
  ⟨fun i H => ∃ (xs : List V) (x : V), SqT K H a xs ∧ xs[i]? = some x, fun i H v H' => ∃ T x, v = .ref T ∧ H T = none ∧ H' = upd H T (.tup [.int (i : Nat), x]) ∧ ∀ xs, SqT K H a xs → xs[i]? = some x, fun i H => ∃ xs : List V, SqT K H a xs ∧ xs.length ≤ i⟩
theorem turn_enumT {P : Program} {w : World} {K : PySem.W.Frag} {elts : List Expr} {kk : Nat} {tpos : Pos} (a e it : Addr) (ha : a ≠ it) (hae : a ≠ e) :
    Turn P w K (.Tuple elts kk tpos) (Iee K a) [e, it] e (fun i h => (∃ old, IsEnum h e it ((i : Nat) : Int) old) ∧ h.IsTupleIter it a i ∧ e ≠ it) where
  mem := by simp
  obj := fun i h st b hb => by
    obtain ⟨⟨old, he⟩, ⟨o, ho, hc, hd⟩, _⟩ := st
    have e' : b = e ∨ b = it := by simpa using hb
    rcases e' with z | z
    · rw [z]; exact ⟨_, he, fun v q => nomatch q⟩
    · rw [z]; exact ⟨o, ho, fun v q => by rw [hd] at q; cases q⟩
  keep := fun i h h' st k => let ⟨⟨old, he⟩, hi, hne⟩ := st; ⟨⟨old, k e (by simp) _ he⟩, hi.at fun o q => k it (by simp) o q, hne⟩
  item := by
    intro X hP hw hK hc i pins s σ H E I hf st hg
    subst hP hw hK
    obtain ⟨⟨old, he⟩, hit, hne⟩ := st
    obtain ⟨xs, x, hq, hx⟩ := hg
    obtain ⟨its, rv, p, hz⟩ := I.tuple hq
    obtain ⟨u, hu, ru⟩ := rv.get hx
    have hel : e < s.heap.objs.size := Heap.lt_size he
    have hil : it < s.heap.objs.size := by obtain ⟨_, q, _⟩ := hit; exact Heap.lt_size q
    have hp : s.heap.IsTuple a its.toArray := p
    have hu' : its.toArray[i]? = some u := by simpa using hu
    have hlt : i < its.toArray.size := by
      rw [List.size_toArray]
      rcases Nat.lt_or_ge i its.length with h | h
      · exact h
      · rw [List.getElem?_eq_none h] at hu
        cases hu
    refine wpAny_pyNext_enum_itemD (n := its.toArray.size) (Draws.tuple (show X.A.in1.handled = none from I.ok.hd hc) it a ha its.toArray) he ⟨hit, hp⟩ hlt hne (by simp only [List.mem_cons, List.not_mem_nil, or_false, not_or]; exact ⟨hne, fun z => hae z.symm⟩) fun x' h' tk hP' ho hst' hT hsz hk => ?_
    have ex : x' = u := by
      have h1 : some x' = some u := by rw [← hP', hu']
      exact Option.some.inj h1
    subst ex
    refine ⟨_, rfl, wpAny_letOwnedTupleGo_enum (s := { s with heap := h', toks := tk + 1 }) ho fun h'' he' sb => ?_⟩
    have hT2 : h''.get? s.heap.objs.size = some { cls := .type "tuple", data := .seq #[.int i tk, x'] } := (sb.2 _ (Nat.ne_of_gt hel)).trans hT
    have new : ObjOk X.prog X.w (upd H s.heap.objs.size (.tup [.int (i : Nat), x])) h'' s.heap.objs.size (.tup [.int (i : Nat), x]) :=
      ⟨by show 2 ≤ sizeLine; decide, [.int i tk, x'], .cons ⟨_, rfl⟩ (.cons ru .nil), ⟨_, hT2, rfl, _, rfl⟩⟩
    have I1 : Inv X pins σ (upd H s.heap.objs.size (.tup [.int (i : Nat), x])) { s with heap := h'', toks := tk + 1 } :=
      I.turnedNew (ch := [e, it]) (fun b ob hb q => (sb.2 b (fun z => hb (by simp [z]))).trans (hk b ob (fun z => hb (by simp [z])) (fun z => hb (by simp [z])) q)) hf (Nat.le_refl _) new
    refine ⟨.ref s.heap.objs.size, _, I1, rfl, ⟨_, x, rfl, I.hok.fresh (Nat.le_refl _), rfl, fun ys hy => by rw [I.tuple_inj hy hq]; exact hx⟩, ⟨⟨x', ?_⟩, hst'.1.at fun o q => (sb.2 it (Ne.symm hne)).trans q, hne⟩, fun b hb => ?_⟩
    · have e1 : ((i + 1 : Nat) : Int) = (i : Int) + 1 := by omega
      rw [e1]; exact he'
    · have hb' : b < s.heap.objs.size := by
        have e' : b = e ∨ b = it := by simpa using hb
        rcases e' with z | z
        · rw [z]; exact hel
        · rw [z]; exact hil
      rw [upd_ne (Nat.ne_of_lt hb')]
      exact (hf b hb).1
  done := by
    intro X hP hw hK hc i pins s σ H E I hf st hg
    subst hP hw hK
    obtain ⟨⟨old, he⟩, hit, hne⟩ := st
    obtain ⟨xs, hq, hx⟩ := hg
    obtain ⟨its, rv, p, hz⟩ := I.tuple hq
    obtain ⟨f0, f1, f2, f3, f4, f5⟩ := hf it (by simp)
    have hl := rv.length
    have hp : s.heap.IsTuple a its.toArray := p
    have D : Draws X.prog X.w X.A.in1 it [it, a] i (fun _ _ => False) (fun j h => j = i ∧ h.IsTupleIter it a i ∧ h.IsTuple a its.toArray) :=
      { live := fun _ _ st => let ⟨o, ho, _⟩ := st.2.1; ⟨o, ho⟩
        frame := fun _ _ _ st hk => ⟨st.1, st.2.1.at fun o e => hk it (by simp) o e, st.2.2.at fun o e => hk a (by simp) o e⟩
        item := fun j s Q E hi st hQ => absurd hi (by rw [st.1]; exact Nat.lt_irrefl i)
        done := fun s Q E st hE => wpAny_nextOf_tuple_end (show X.A.in1.handled = none from I.ok.hd hc) st.2.1 st.2.2 (by simp; omega) hE }
    exact wpAny_pyNext_enum_endD D he ⟨rfl, hit, hp⟩ fun h' eb => ⟨rfl, I.turned (t' := s.toks) (fun b o hb q => eb b o hb q) f0 f1 f3 f4 f5⟩
  self := fun A i s Q E st h => let ⟨⟨_, he⟩, _⟩ := st; wpAny_pyIter_enum he h
def iEnumT (K : PySem.W.Frag) (ta : TA) : TI := fun σ H R => ta σ H fun vs H1 => ∃ a xs, vs = [.ref a] ∧ SqT K H1 a xs ∧ R (Iee K a) H1
theorem pi_enumT {X : Cx} {e : Expr} {ta : TA} {p pos tpos : Pos} {elts : List Expr} {kk : Nat} (hg : Gl X "enumerate") (hm : X.mg "enumerate" = none) (ha : PA X [e] ta) (hs : starEach [e] X.env = [(false, eval e X.env)] := by rfl) :
    PI X (.Tuple elts kk tpos) (.Call (.Name "enumerate" p) [e] [] pos) (iEnumT X.K ta) := by
  refine ⟨fun pins s σ H R I h => ?_⟩
  refine Call_ (ld_blt I hg hm boot_enumerate (PyProof.Rows.callWith_type1 (thn (ha.run pos pins s σ H _ I h) fun us s1 ⟨vs, H1, I1, r1, q1⟩ => ?_) hs rfl))
  obtain ⟨a, xs, ex, hq, q⟩ := q1
  subst ex
  cases r1 with
  | cons r rr =>
    cases rr
    cases r
    obtain ⟨its, rv, p', hz⟩ := I1.tuple hq
    have hp : s1.heap.IsTuple a its.toArray := p'
    have hal : a < s1.heap.objs.size := by obtain ⟨_, q, _⟩ := hp; exact Heap.lt_size q
    refine call_enumT hp fun h' he hit hsz hk => wpAny_pyIter_enum he ?_
    have I2 : Inv X pins σ H1 { s1 with heap := h' } := I1.kept (t' := s1.toks) hk
    refine ⟨s1.heap.objs.size + 1, [s1.heap.objs.size + 1, s1.heap.objs.size], _, _, H1, rfl, I2, turn_enumT a (s1.heap.objs.size + 1) s1.heap.objs.size (Nat.ne_of_lt hal) (Nat.ne_of_lt (Nat.lt_succ_of_lt hal)), ⟨⟨.none, he⟩, hit, Nat.succ_ne_self _⟩, fun b hb => ?_, q⟩
    have e' : b = s1.heap.objs.size + 1 ∨ b = s1.heap.objs.size := by simpa using hb
    have hle : s1.heap.objs.size ≤ b := by
      rcases e' with z | z
      · rw [z]; exact Nat.le_add_right _ _
      · rw [z]; exact Nat.le_refl _
    exact I1.fpOk hle (I1.hok.fresh hle)
/-- the same, where what is walked is laid on the way -/
theorem lc_mapJ {wi : TI} {n : Nat} {Y : Nat → Hp → V → Hp → Prop} {g : TG} {te : TE} {vs : List Nat} {σ : L2.St} {H0 : Hp} {Q : VK}
    (f : Nat → V) (hn : n ≤ 1000000) (hw : ∀ R : It → Hp → Prop, (∀ (J : It) (G : Hp → Prop) (H : Hp), Walk J n G Y → (∀ H', G H → Same H H' → G H') → Same H0 H → G H → R J H) → wi σ H0 R)
    (hs : ∀ i x H H' (R : V → Hp → Prop), i < n → Same H0 H → Y i H x H' → (∀ H4, Same H H4 → R (f i) H4) →
      g x (wipe σ vs) H' fun σ2 H2 => wipe σ2 vs = wipe σ vs ∧ te σ2 H2 R)
    (hd : ∀ D H', H0 D = none → Same H0 H' → H' D = some (.lst ((List.range n).map f)) → Q (.ref D) H') : tLc wi g tYes te vs σ H0 Q := by
  refine hw _ (fun J G H w hG sm0 hg0 D hD => ?_)
  have hD0 := sm0.free hD
  let Nx : Nat → Hp → Prop := fun i H' => Same H H' ∧ H' D = some (.lst ((List.range i).map f))
  refine ⟨fun i m H' => m = n - i ∧ i ≤ n ∧ Nx i H', ⟨n, by simp, Nat.zero_le _, same_new hD, upd_same⟩, ?_⟩
  rintro i m H' ⟨rfl, hi, sm, hl⟩
  have hg := hG H' hg0 sm
  have sm' := sm0.trans sm
  by_cases hlt : i < n
  · refine Or.inr ⟨w.goes i H' hlt hg, Nx (i + 1), fun H'' p => ⟨n - (i + 1), by omega, rfl, hlt, p⟩, fun x H'' y => ?_⟩
    refine hs i x H' H'' _ hlt sm' (w.yields i H' x H'' hlt hg y) (fun H4 s4 => ?_)
    refine ⟨_, s4 D _ hl, ?_, fun b o e => ?_, ?_⟩
    · rw [List.length_map, List.length_range]
      exact Nat.lt_of_lt_of_le (Nat.lt_of_lt_of_le hlt hn) (by decide)
    · rw [upd_ne (ne_of_none e hD)]
      exact s4 b o (sm b o e)
    · rw [upd_same, List.range_succ, List.map_append]
      rfl
  · have e : i = n := by omega
    subst e
    exact Or.inl ⟨w.stops H' hg, hd D H' hD0 sm' hl⟩
end Mq

namespace Lw
open PySem PySem.Spec PyProof.Rows L2 Mq
open SX (S)
/-! ### nodes -/
inductive Nd where
  | none
  | stops (w : List Nat)
  | reads (b : Option (List Nat)) (ts : List Nat)
def optV : Option (List Nat) → V
  | .none => .non
  | .some w => .str (S w)
def intsV (ts : List Nat) : List V := ts.map fun t => V.int (t : Nat)
def ndV : Nd → List V
  | .none => [.str "none"]
  | .stops w => [.str "stops", .str (S w)]
  | .reads b ts => .str "reads" :: optV b :: intsV ts
def NdAt (K : PySem.W.Frag) (H : Hp) (v : V) (n : Nd) : Prop := ∃ a, v = .ref a ∧ SqT K H a (ndV n)
def wordOk (sg w : List Nat) : Prop := (∀ c ∈ w, c ∈ sg) ∧ w.length ≤ 1000
theorem allB_of {sg w : List Nat} (h : ∀ c ∈ w, c ∈ sg) : allB w sg = true := by
  unfold allB
  rw [List.all_map, List.all_eq_true]
  intro k hk
  have hk' := List.mem_range.mp hk
  refine decide_eq_true (h _ ?_)
  rw [List.getD_eq_getElem?_getD, List.getElem?_eq_getElem hk']
  exact List.getElem_mem hk'
def ndOk (sg : List Nat) (m : Nat) : Nd → Prop
  | .none => True
  | .stops w => wordOk sg w
  | .reads b ts => ts.length = sg.length ∧ (∀ t ∈ ts, t < m) ∧ ∀ w, b = .some w → wordOk sg w
theorem NdAt.same {K : PySem.W.Frag} {H H' : Hp} {v : V} {n : Nd} (h : NdAt K H v n) (e : Same H H') : NdAt K H' v n := let ⟨a, x, y⟩ := h; ⟨a, x, Same.tup e y⟩
theorem intsV_len (ts : List Nat) : (intsV ts).length = ts.length := by simp [intsV]
theorem intsV_get {ts : List Nat} {i : Nat} (h : i < ts.length) : (intsV ts)[i]? = some (.int (ts.getD i 0 : Nat)) := by
  unfold intsV
  rw [List.getElem?_map, List.getElem?_eq_getElem h, List.getD_eq_getElem?_getD, List.getElem?_eq_getElem h]
  rfl
theorem ifF {c : Bool} {p q : Prop} (h : c = false) (hq : q) : (if c = true then p else q) := by rw [h]; exact hq
theorem ifT {c : Bool} {p q : Prop} (h : c = true) (hp : p) : (if c = true then p else q) := by rw [h]; exact hp
theorem len_tup {K : PySem.W.Frag} {H : Hp} {a : Addr} {xs : List V} (h : SqT K H a xs) : LenV K (.ref a) H xs.length := Or.inr ⟨xs, h, rfl⟩
def spNum : Sp := fun vs H Q _ => ∃ i : Int, vs = [.int i] ∧ Q (.bl true) H
def spBelow : Sp := fun vs H Q _ => ∃ i m : Int, vs = [.int i, .int m] ∧ (0 ≤ i ∧ i < m) ∧ Q (.bl true) H
def spHead (K : PySem.W.Frag) : Sp := fun vs H Q _ => ∃ (a : Addr) (x : Str) (xs : List V), vs = [.ref a] ∧ SqT K H a (.str x :: xs) ∧ Q (.bl true) H
def spReading (K : PySem.W.Frag) : Sp := fun vs H Q _ => ∃ (sg : List Nat) (a : Addr) (b : Option (List Nat)) (ts : List Nat) (m : Nat), vs = [.str (S sg), .ref a, .int (m : Nat)] ∧
  SqT K H a (ndV (.reads b ts)) ∧ ts.length = sg.length ∧ (∀ t ∈ ts, t < m) ∧ 0 < sg.length ∧ sg.length ≤ 1000 ∧ ∀ H', Same H H' → Q (.bl true) H'
def spNode (K : PySem.W.Frag) : Sp := fun vs H Q _ => ∃ (sg : List Nat) (v : V) (n : Nd) (m : Nat), vs = [.str (S sg), v, .int (m : Nat)] ∧
  NdAt K H v n ∧ ndOk sg m n ∧ 0 < sg.length ∧ sg.length ≤ 1000 ∧ ∀ H', Same H H' → Q (.bl true) H'
section
variable {P : Program} {w : World} {K : PySem.W.Frag} {mg : Str → Option Value} {base : Heap}
theorem ok_is_number {f : Addr} {fd : FuncData} (F : Fun K "is_number" "is_number" s_is_number f fd) (B : Blt mg) : FnOk P w K mg base CX0 1 f fd ["thing"] spNum := by
  refine F.ok sc_is_number (fun vs H Q E h => ?_) (fun cdv A outer s H vs Q E hr h => ?_)
  · obtain ⟨v, rfl, _⟩ := h
    rfl
  · obtain ⟨i, rfl, q⟩ := h
    refine ⟨_, pss_one (ps_ret (pe_and (pe_callB call_isi (by rfl) B.isi (by decide +kernel) (pa_cons (pv 0) (pa_cons (pe_bltn (v := .ty "int") (by rfl) B.int (by decide +kernel) rfl) pa_nil))) (pe_one (pe_not (pe_callB call_isi (by rfl) B.isi (by decide +kernel) (pa_cons (pv 0) (pa_cons (pe_bltn (v := .ty "bool") (by rfl) B.bool (by decide +kernel) rfl) pa_nil))))))), ?_⟩
    exact ⟨.int i, rfl, .int i, .ty "int", _, _, true, rfl, .ty _, .base (.int _), kit_ty (by decide +kernel), true, rfl, iteT ⟨.int i, rfl, .int i, .ty "bool", _, _, false, rfl, .ty _, .base (.int _), kit_ty (by decide +kernel), false, rfl, q⟩⟩
theorem ok_is_below {f fN : Addr} {fd fdN : FuncData} (F : Fun K "is_below" "is_below" s_is_below f fd) (B : Blt mg)
    (FN : Fun K "is_number" "is_number" s_is_number fN fdN) (gN : mg "is_number" = some (.ref fN)) (bN : Binds K fdN ["thing"] []) : FnOk P w K mg base CX0 2 f fd ["thing", "many"] spBelow := by
  have GN : FnOk P w K mg base CX0 1 fN fdN ["thing"] spNum := ok_is_number FN B
  refine F.ok sc_is_below (fun vs H Q E h => ?_) (fun cdv A outer s H vs Q E hr h => ?_)
  · obtain ⟨v, m, rfl, _⟩ := h
    rfl
  · obtain ⟨i, m, rfl, hi, q⟩ := h
    refine ⟨_, pss_one (ps_ret (pe_and (pe_call GN (hr.mono (by decide)) (by rfl) gN FN.kp bN .nil pass0 (pa_cons (pv 0) pa_nil)) (pe_one (pe_chain op_le op_lt pe_int (pv 0) (pv 1))))), ?_⟩
    refine ⟨_, rfl, i, rfl, true, rfl, iteT ⟨.int i, rfl, 0, i, rfl, rfl, true, congrArg V.bl (decide_eq_true hi.1), iteT ⟨_, rfl, i, m, rfl, rfl, ?_⟩⟩⟩
    show Q (V.bl (decide (i < m))) H
    rw [decide_eq_true hi.2]
    exact q
theorem ok_has_head {f : Addr} {fd : FuncData} (F : Fun K "has_head" "has_head" s_has_head f fd) (B : Blt mg) : FnOk P w K mg base CX0 1 f fd ["thing"] (spHead K) := by
  refine F.ok sc_has_head (fun vs H Q E h => ?_) (fun cdv A outer s H vs Q E hr h => ?_)
  · obtain ⟨v, m, _, rfl, _⟩ := h
    rfl
  · obtain ⟨a, x, xs, rfl, ha, q⟩ := h
    refine ⟨_, pss_one (ps_ret (pe_and (pe_callB call_isi (by rfl) B.isi (by decide +kernel) (pa_cons (pv 0) (pa_cons (pe_bltn (v := .ty "tuple") (by rfl) B.tuple (by decide +kernel) rfl) pa_nil))) (pe_and (pe_cmpR op_gt (pe_callB call_len (by rfl) B.len (by decide +kernel) (pa_cons (pv 0) pa_nil)) pe_int (nomark _)) (pe_one (pe_callB call_isi (by rfl) B.isi (by decide +kernel) (pa_cons (pe_ix ix_tup (pv 0) pe_int (fun _ _ => rfl)) (pa_cons (pe_bltn (v := .ty "str") (by rfl) B.str (by decide +kernel) rfl) pa_nil))))))), ?_⟩
    refine ⟨_, rfl, _, .ty "tuple", _, _, true, rfl, .ty _, ty_tup ha, kit_ty (by decide +kernel), true, rfl, iteT ⟨_, rfl, _, _, rfl, len_tup ha, _, _, rfl, rfl, true, ?_, iteT ⟨.ref a, rfl, a, _, 0, .str x, rfl, rfl, ha, atI_nat (j := 0) rfl, .str x, .ty "str", _, _, true, rfl, .ty _, .base (.str _), kit_self, q⟩⟩⟩
    refine congrArg V.bl (decide_eq_true ?_)
    show (0 : Int) < ((V.str x :: xs).length : Nat)
    simp only [List.length_cons]
    omega
theorem ok_is_reading {f fB : Addr} {fd fdB : FuncData} (F : Fun K "is_reading" "is_reading" s_is_reading f fd) (B : Blt mg)
    (FB : Fun K "is_below" "is_below" s_is_below fB fdB) (gB : mg "is_below" = some (.ref fB)) (bB : Binds K fdB ["thing", "many"] [])
    (GB : FnOk P w K mg base CX0 2 fB fdB ["thing", "many"] spBelow) : FnOk P w K mg base CX0 3 f fd ["letters", "node", "many"] (spReading K) := by
  refine F.ok sc_is_reading (fun vs H Q E h => ?_) (fun cdv A outer s H vs Q E hr h => ?_)
  · obtain ⟨_, _, _, _, _, rfl, _⟩ := h
    rfl
  · obtain ⟨sg, a, b, ts, m, rfl, ha, hl, ht, h0, h1, q⟩ := h
    refine ⟨_, (pss_cons (ps_if (PW.pt (pw_or (pt_cmpR op_ne (pe_callB call_len (by rfl) B.len (by decide +kernel) (pa_cons (pv 1) pa_nil)) (pe_op op_add (pe_callB call_len (by rfl) B.len (by decide +kernel) (pa_cons (pv 0) pa_nil)) pe_int) (nomark _)) (pw_or1 (pt_cmpR op_ne (pe_ix ix_tup (pv 1) pe_int (fun _ _ => rfl)) pe_str (nomark _))))) (pss_one (ps_ret pe_bl)) pss_nil)
      (pss_one (ps_ret (pe_callB (cr_all rfl) (by rfl) B.all (by decide +kernel) (pa_cons (pe_lc (own := [("number", 3)]) (g := gName 3) (tt := tYes) rfl sc_is_reading.nd (pi_tup (pe_slice sl_tup (pv 1) (po_some pe_int) po_none)) (blkOk_by (own := [("number", 3)]) (N := ["letters", "node", "many", "number"]) (sc := defScope s_is_reading) (by decide +kernel)) (fun _ _ _ _ _ => pg_name (i := 3) sc_is_reading.nd rfl (Or.inl rfl)) (fun _ _ _ _ _ => pts_nil)
        (fun _ _ _ _ _ => (pe_call GB (hr.mono (by decide)) (by rfl) gB FB.kp bB .nil pass0 (pa_cons (pv 3) (pa_cons (pv 2) pa_nil))))) pa_nil))))), ?_⟩
    have el : (ndV (.reads b ts)).length = ts.length + 2 := by simp [ndV, intsV_len]
    refine ⟨_, rfl, _, _, rfl, len_tup ha, _, rfl, _, _, rfl, len_S (by omega), _, _, rfl, rfl, rfl, _, rfl, ?_⟩
    have e1 : decide (V.int ((ndV (.reads b ts)).length : Nat) = V.int ((sg.length : Nat) + 2)) = true := by
      rw [dec_int, el, hl]
      simp
    rw [e1]
    refine iteF ⟨.ref a, rfl, a, _, 0, .str "reads", rfl, rfl, ha, atI_nat (j := 0) rfl, rfl, _, rfl, ifF (by decide +kernel) ?_⟩
    unfold tNext tRet tCB tCons
    dsimp only
    have ha' : cutV (ndV (.reads b ts)) (some 2) none = intsV ts := by
      unfold cutV
      have e2 : HT.sIx (ndV (.reads b ts)).length 0 (some 2) = 2 := by
        show HT.sIx _ 0 (some ((2 : Nat) : Int)) = 2
        rw [HT.sIx_nat, el]
        omega
      have e3 : HT.sIx (ndV (.reads b ts)).length (ndV (.reads b ts)).length none = ts.length + 2 := by rw [HT.sIx_none, el]
      rw [e2, e3]
      show (intsV ts).take _ = _
      exact List.take_of_length_le (by rw [intsV_len]; omega)
    refine lc_mapJ (n := ts.length) (Y := YAt (intsV ts)) (fun _ => .bl true) (by omega) (fun R k => ?_) ?_ ?_
    · refine ⟨.ref a, rfl, 2, rfl, a, _, rfl, ha, ?_, fun p hp => ?_⟩
      · rintro ⟨h2, _⟩
        rw [show HT.sIx (ndV (.reads b ts)).length 0 (some 2) = 2 by show HT.sIx _ 0 (some ((2 : Nat) : Int)) = 2; rw [HT.sIx_nat, el]; omega] at h2
        cases h2
      · rw [ha']
        have hw := walk_tup (K := K) (a := p) (xs := intsV ts)
        rw [intsV_len] at hw
        have hq : SqT K (upd H p (.tup (intsV ts))) p (intsV ts) := Or.inl (Or.inl upd_same)
        exact ⟨p, rfl, ⟨_, hq⟩, k _ _ _ hw (fun H' g e => Same.tup e g) (same_new hp) hq⟩
    · rintro i x H' H'' R hi sm ⟨rfl, hx⟩ k
      rw [intsV_get hi] at hx
      cases hx
      refine ⟨rfl, _, rfl, _, rfl, _, _, rfl, ⟨by omega, ?_⟩, k _ (Same.refl _)⟩
      have hm := ht (ts.getD i 0) (by rw [List.getD_eq_getElem?_getD, List.getElem?_eq_getElem hi]; exact List.getElem_mem hi)
      omega
    · intro D H' hD sm hl'
      refine ⟨D, (List.range ts.length).map fun k => true, rfl, SqL.of ?_, ?_⟩
      · rw [List.map_map]
        exact hl'
      · rw [show ((List.range ts.length).map fun k => true).all id = true by simp]
        exact q H' sm
end
end Lw

namespace Lw
open PySem PySem.Spec PyProof.Rows L2 Mq
open SX (S)
section
variable {P : Program} {w : World} {K : PySem.W.Frag} {mg : Str → Option Value} {base : Heap}
theorem ok_is_reader_node {f fH fR fW : Addr} {fd fdH fdR fdW : FuncData} (F : Fun K "is_reader_node" "is_reader_node" s_is_reader_node f fd) (B : Blt mg)
    (FH : Fun K "has_head" "has_head" s_has_head fH fdH) (gH : mg "has_head" = some (.ref fH)) (bH : Binds K fdH ["thing"] [])
    (FR : Fun K "is_reading" "is_reading" s_is_reading fR fdR) (gR : mg "is_reading" = some (.ref fR)) (bR : Binds K fdR ["letters", "node", "many"] [])
    (FW : Fun K "is_web" "is_web" s_is_web fW fdW) (gW : mg "is_web" = some (.ref fW)) (bW : Binds K fdW ["letters", "thing"] [])
    (GR : FnOk P w K mg base CX0 3 fR fdR ["letters", "node", "many"] (spReading K)) (GW : FnOk P w K mg base CX0 2 fW fdW ["letters", "thing"] (spWord K)) :
    FnOk P w K mg base CX0 4 f fd ["letters", "node", "many"] (spNode K) := by
  have GH : FnOk P w K mg base CX0 1 fH fdH ["thing"] (spHead K) := ok_has_head FH B
  refine F.ok sc_is_reader_node (fun vs H Q E h => ?_) (fun cdv A outer s H vs Q E hr h => ?_)
  · obtain ⟨_, _, _, _, rfl, _⟩ := h
    rfl
  · obtain ⟨sg, v, n, m, rfl, ⟨a, rfl, ha⟩, hn, h0, h1, q⟩ := h
    refine ⟨_, (pss_cons (ps_if (pt_not (pt_val (pe_call GH (hr.mono (by decide)) (by rfl) gH FH.kp bH .nil pass0 (pa_cons (pv 1) pa_nil)))) (pss_one (ps_ret pe_bl)) pss_nil)
      (pss_cons (ps_if (pt_cmpR op_eq (pe_ix ix_tup (pv 1) pe_int (fun _ _ => rfl)) pe_str (nomark _)) (pss_one (ps_ret (pe_and (pe_cmpR op_eq (pe_callB call_len (by rfl) B.len (by decide +kernel) (pa_cons (pv 1) pa_nil)) pe_int (nomark _)) (pe_one (pe_call GW (hr.mono (by decide)) (by rfl) gW FW.kp bW .nil pass0 (pa_cons (pv 0) (pa_cons (pe_ix ix_tup (pv 1) pe_int (fun _ _ => rfl)) pa_nil))))))) pss_nil)
      (pss_cons (ps_if (pt_cmpR op_eq (pe_ix ix_tup (pv 1) pe_int (fun _ _ => rfl)) pe_str (nomark _)) (pss_one (ps_ret (pe_cmpR op_eq (pe_callB call_len (by rfl) B.len (by decide +kernel) (pa_cons (pv 1) pa_nil)) pe_int (nomark _)))) pss_nil)
      (pss_one (ps_ret (pe_and (pe_call GR (hr.mono (by decide)) (by rfl) gR FR.kp bR .nil pass0 (pa_cons (pv 0) (pa_cons (pv 1) (pa_cons (pv 2) pa_nil)))) (pe_one (pe_or (pe_cmpR op_isN (pe_ix ix_tup (pv 1) pe_int (fun _ _ => rfl)) pe_non (nomark _)) (pe_one (pe_call GW (hr.mono (by decide)) (by rfl) gW FW.kp bW .nil pass0 (pa_cons (pv 0) (pa_cons (pe_ix ix_tup (pv 1) pe_int (fun _ _ => rfl)) pa_nil)))))))))))), ?_⟩
    cases n with
    | none =>
      refine ⟨_, rfl, a, "none", [], rfl, ha, _, rfl, ifF rfl ?_⟩
      refine ⟨_, rfl, a, _, 0, .str "none", rfl, rfl, ha, atI_nat (j := 0) rfl, rfl, _, rfl, ifF (by decide +kernel) ?_⟩
      refine ⟨_, rfl, a, _, 0, .str "none", rfl, rfl, ha, atI_nat (j := 0) rfl, rfl, _, rfl, ifT (by decide +kernel) ?_⟩
      refine ⟨_, rfl, _, _, rfl, len_tup ha, rfl, ?_⟩
      have e : decide (V.int ((ndV .none).length : Nat) = V.int 1) = true := by decide +kernel
      rw [e]
      exact q H (Same.refl H)
    | stops w' =>
      refine ⟨_, rfl, a, "stops", _, rfl, ha, _, rfl, ifF rfl ?_⟩
      refine ⟨_, rfl, a, _, 0, .str "stops", rfl, rfl, ha, atI_nat (j := 0) rfl, rfl, _, rfl, ifT (by decide +kernel) ?_⟩
      refine ⟨_, rfl, _, _, rfl, len_tup ha, rfl, _, rfl, ifT (by simp [ndV]) ⟨_, rfl, _, rfl, a, _, 1, .str (S w'), rfl, rfl, ha, atI_nat (j := 1) rfl, sg, _, rfl, Or.inl ⟨w', rfl, ?_, ?_⟩⟩⟩
      · have := hn.2
        omega
      · rw [allB_of hn.1]
        exact q
    | reads b ts =>
      obtain ⟨e1, e2, e3⟩ := hn
      refine ⟨_, rfl, a, "reads", _, rfl, ha, _, rfl, ifF rfl ?_⟩
      refine ⟨_, rfl, a, _, 0, .str "reads", rfl, rfl, ha, atI_nat (j := 0) rfl, rfl, _, rfl, ifF (by decide +kernel) ?_⟩
      refine ⟨_, rfl, a, _, 0, .str "reads", rfl, rfl, ha, atI_nat (j := 0) rfl, rfl, _, rfl, ifF (by decide +kernel) ?_⟩
      refine ⟨_, rfl, _, rfl, _, rfl, sg, a, b, ts, m, rfl, ha, e1, e2, h0, h1, fun H1 s1 => ⟨true, rfl, iteT ?_⟩⟩
      have ha1 := Same.tup s1 ha
      refine ⟨_, rfl, a, _, 1, optV b, rfl, rfl, ha1, atI_nat (j := 1) rfl, rfl, ?_⟩
      cases b with
      | none => exact ⟨_, rfl, ifT rfl (q H1 s1)⟩
      | some w' =>
        refine ⟨_, rfl, ifF rfl ?_⟩
        refine ⟨_, rfl, _, rfl, a, _, 1, .str (S w'), rfl, rfl, ha1, atI_nat (j := 1) rfl, sg, _, rfl, Or.inl ⟨w', rfl, ?_, fun H2 s2 => ?_⟩⟩
        · have := (e3 w' rfl).2
          omega
        · rw [allB_of (e3 w' rfl).1]
          exact q H2 (s1.trans s2)
end
end Lw

namespace Lw
open PySem PySem.Spec PyProof.Rows L2 Mq
open SX (S)
/-! ### nodes, all of them -/
inductive NdAll (K : PySem.W.Frag) (H : Hp) : List V → List Nd → Prop
  | nil : NdAll K H [] []
  | cons {v : V} {n : Nd} {vs : List V} {ns : List Nd} : NdAt K H v n → NdAll K H vs ns → NdAll K H (v :: vs) (n :: ns)
theorem NdAll.same {K : PySem.W.Frag} {H H' : Hp} (e : Same H H') : ∀ {vs : List V} {ns : List Nd}, NdAll K H vs ns → NdAll K H' vs ns
  | _, _, .nil => .nil
  | _, _, .cons a b => .cons (a.same e) (NdAll.same e b)
theorem NdAll.len {K : PySem.W.Frag} {H : Hp} : ∀ {vs : List V} {ns : List Nd}, NdAll K H vs ns → vs.length = ns.length
  | _, _, .nil => rfl
  | _, _, .cons a b => congrArg (· + 1) b.len
theorem NdAll.snoc {K : PySem.W.Frag} {H : Hp} {v : V} {n : Nd} (h : NdAt K H v n) : ∀ {vs : List V} {ns : List Nd}, NdAll K H vs ns → NdAll K H (vs ++ [v]) (ns ++ [n])
  | _, _, .nil => .cons h .nil
  | _, _, .cons a b => .cons a (NdAll.snoc h b)
theorem NdAll.get {K : PySem.W.Frag} {H : Hp} : ∀ {vs : List V} {ns : List Nd} {i : Nat} {n : Nd}, NdAll K H vs ns → ns[i]? = some n → ∃ v, vs[i]? = some v ∧ NdAt K H v n
  | _, _, 0, _, .cons a b, h => ⟨_, rfl, by cases h; exact a⟩
  | _, _, i + 1, _, .cons a b, h => NdAll.get (i := i) b h
theorem NdAll.at {K : PySem.W.Frag} {H : Hp} : ∀ {vs : List V} {ns : List Nd} {i : Nat} {v : V}, NdAll K H vs ns → vs[i]? = some v → ∃ n, ns[i]? = some n ∧ NdAt K H v n
  | _, _, 0, _, .cons a b, h => ⟨_, rfl, by cases h; exact a⟩
  | _, _, i + 1, _, .cons a b, h => NdAll.at (i := i) b h
def NodesAt (K : PySem.W.Frag) (H : Hp) (a : Addr) (ns : List Nd) : Prop := ∃ vs, SqT K H a vs ∧ NdAll K H vs ns
theorem NodesAt.same {K : PySem.W.Frag} {H H' : Hp} {a : Addr} {ns : List Nd} (h : NodesAt K H a ns) (e : Same H H') : NodesAt K H' a ns := let ⟨vs, x, y⟩ := h; ⟨vs, Same.tup e x, y.same e⟩
/-- letters, as they have to be -/
structure SgOk (sg : List Nat) : Prop where
  pos : 0 < sg.length
  few : sg.length ≤ 10
  low : ∀ c ∈ sg, c < 128
  ok : lettersB sg = true
def NodesOk (sg : List Nat) (ns : List Nd) : Prop := ns ≠ [] ∧ ns.length ≤ 100 ∧ ∀ n ∈ ns, ndOk sg ns.length n
/-! ### as data -/
def optD : Option (List Nat) → PyData
  | .none => .none
  | .some w => .str (S w)
def ndD : Nd → PyData
  | .none => .tuple [.str "none"]
  | .stops w => .tuple [.str "stops", .str (S w)]
  | .reads b ts => .tuple (.str "reads" :: optD b :: ts.map fun t => .int (t : Nat))
theorem dp_optV {K : PySem.W.Frag} {H : Hp} (b : Option (List Nat)) : Dp K H (optV b) (optD b) := by
  cases b with
  | none => exact .non
  | some w => exact .str _
theorem dp_ints {K : PySem.W.Frag} {H : Hp} : ∀ ts : List Nat, DpAll K H (intsV ts) (ts.map fun t => .int (t : Nat))
  | [] => .nil
  | t :: ts => .cons (.int _) (dp_ints ts)
theorem NdAt.dp {K : PySem.W.Frag} {H : Hp} {v : V} {n : Nd} (h : NdAt K H v n) : Dp K H v (ndD n) := by
  obtain ⟨a, rfl, ha⟩ := h
  cases n with
  | none => exact .tup ha (.cons (.str _) .nil)
  | stops w => exact .tup ha (.cons (.str _) (.cons (.str _) .nil))
  | reads b ts => exact .tup ha (.cons (.str _) (.cons (dp_optV b) (dp_ints ts)))
theorem NdAll.dp {K : PySem.W.Frag} {H : Hp} : ∀ {vs : List V} {ns : List Nd}, NdAll K H vs ns → DpAll K H vs (ns.map ndD)
  | _, _, .nil => .nil
  | _, _, .cons a b => .cons a.dp (NdAll.dp b)
theorem strOk_S {w : List Nat} (h : ∀ c ∈ w, c < 128) : PyData.strOk (S w) = true := by
  unfold PyData.strOk
  rw [show (S w).cps = w.toArray from rfl]
  simp only [List.all_toArray, List.all_eq_true, decide_eq_true_eq]
  intro c hc
  have := h c hc
  omega
theorem low_word {sg w : List Nat} (s : SgOk sg) (h : wordOk sg w) : ∀ c ∈ w, c < 128 := fun c hc => s.low c (h.1 c hc)
theorem lay_ints (ts : List Nat) : PyData.canLayAll0 (ts.map fun t => .int (t : Nat)) = true := by
  induction ts with
  | nil => rfl
  | cons t ts ih => exact ih
theorem depth_ints (ts : List Nat) : PyData.depthAll (ts.map fun t => .int (t : Nat)) = 0 := by
  induction ts with
  | nil => rfl
  | cons t ts ih => show max 0 _ = 0; rw [ih]; rfl
theorem lay_nd {sg : List Nat} (s : SgOk sg) {m : Nat} {n : Nd} (h : ndOk sg m n) : (ndD n).canLay0 = true ∧ (ndD n).depth = 1 := by
  cases n with
  | none => exact ⟨by decide +kernel, by decide +kernel⟩
  | stops w =>
    refine ⟨?_, ?_⟩
    · show (PyData.strOk "stops" && (PyData.strOk (S w) && true)) = true
      rw [strOk_S (low_word s h)]
      decide +kernel
    · show max 0 (max 0 0) + 1 = 1
      rfl
  | reads b ts =>
    have hb : (optD b).canLay0 = true ∧ (optD b).depth = 0 := by
      cases b with
      | none => exact ⟨rfl, rfl⟩
      | some w => exact ⟨strOk_S (low_word s (h.2.2 w rfl)), rfl⟩
    refine ⟨?_, ?_⟩
    · show (PyData.strOk "reads" && ((optD b).canLay0 && PyData.canLayAll0 _)) = true
      rw [hb.1, lay_ints]
      decide +kernel
    · show max 0 (max (optD b).depth (PyData.depthAll _)) + 1 = 1
      rw [hb.2, depth_ints]
      rfl
theorem shaped_nodes {sg : List Nat} (s : SgOk sg) {m : Nat} : ∀ {ns : List Nd}, (∀ n ∈ ns, ndOk sg m n) → PyData.canLayAll0 (ns.map ndD) = true ∧ PyData.depthAll (ns.map ndD) ≤ 1
  | [], _ => ⟨rfl, Nat.zero_le _⟩
  | n :: ns, h => by
    obtain ⟨a, b⟩ := shaped_nodes s (fun x hx => h x (List.mem_cons_of_mem _ hx))
    obtain ⟨c, d⟩ := lay_nd s (h n List.mem_cons_self)
    refine ⟨?_, ?_⟩
    · show ((ndD n).canLay0 && PyData.canLayAll0 _) = true
      rw [a, c]
      rfl
    · show max (ndD n).depth (PyData.depthAll _) ≤ 1
      rw [d]
      omega
end Lw

namespace Lw
open PySem PySem.Spec PyProof.Rows L2 Mq
open SX (S)
def spWrong (K : PySem.W.Frag) (fn : Addr) : Sp := fun vs H Q _ => ∃ (sg : List Nat) (a : Addr) (ns : List Nd), vs = [.str (S sg), .ref a, .ref fn, .str "nodes", .non] ∧
  NodesAt K H a ns ∧ NodesOk sg ns ∧ SgOk sg ∧ ∀ H', Same H H' → Q .non H'
section
variable {P : Program} {w : World} {K : PySem.W.Frag} {mg : Str → Option Value} {base : Heap}
theorem walk_enumT {a : Addr} {xs : List V} : Walk (Iee K a) xs.length (fun H => SqT K H a xs) (YPair (fun i => some (.int (i : Nat))) (fun i => xs[i]?)) := by
  refine ⟨fun i _ hi q => ⟨xs, xs[i], q, by simp [hi]⟩, fun _ q => ⟨xs, q, Nat.le_refl _⟩, fun i H v H' _ q y => ?_⟩
  obtain ⟨T, x, h1, h2, h3, h4⟩ := y
  exact ⟨T, .int (i : Nat), x, h1, h2, h3, rfl, h4 xs q⟩
theorem ok_wrong_part {f fL fN : Addr} {fd fdL fdN : FuncData} (F : FunD K "wrong_part" "wrong_part" (defArgs s_wrong_part) (defBody s_wrong_part) (defScope s_wrong_part) [.str "nodes", .non] [] f fd) (B : Blt mg)
    (FL : Fun K "is_letters" "is_letters" s_is_letters fL fdL) (gL : mg "is_letters" = some (.ref fL)) (bL : Binds K fdL ["thing"] [])
    (GL : FnOk P w K mg base CX0 2 fL fdL ["thing"] (spLetters K))
    (FN : Fun K "is_reader_node" "is_reader_node" s_is_reader_node fN fdN) (bN : Binds K fdN ["letters", "node", "many"] [])
    (GN : FnOk P w K mg base CX0 4 fN fdN ["letters", "node", "many"] (spNode K)) :
    FnOk P w K mg base CX0 5 f fd ["letters", "nodes", "is_node", "word", "most"] (spWrong K fN) := by
  refine F.ok sc_wrong_part (fun vs H Q E h => ?_) (fun cdv A outer s H vs Q E hr h => ?_)
  · obtain ⟨_, _, _, rfl, _⟩ := h
    rfl
  · obtain ⟨sg, a, ns, rfl, ⟨xs, hx, hall⟩, hok, hs, q⟩ := h
    have hu : (A.deeper (envOfC "wrong_part" (defScope s_wrong_part) s.heap.objs.size f cdv)).units + 64 < cLine := by
      have := hr.units
      omega
    refine ⟨_, (pss_cons (ps_if (pt_not (pt_val (pe_call GL (hr.mono (by decide)) (by rfl) gL FL.kp bL .nil pass0 (pa_cons (pv 0) pa_nil)))) (pss_one (ps_ret pe_str)) pss_nil)
      (pss_cons (ps_if (PW.pt (pw_or (pt_not (pt_val (pe_callB call_isi (by rfl) B.isi (by decide +kernel) (pa_cons (pv 1) (pa_cons (pe_bltn (v := .ty "tuple") (by rfl) B.tuple (by decide +kernel) rfl) pa_nil))))) (pw_or (pt_cmpR (op_eqD hu) (pv 1) (pe_tup pa_nil) (nomark _)) (pw_or1 (PW.pt (pw_and (pt_cmpR op_notN (pv 4) pe_non (nomark _)) (pw_and1 (pt_cmpR op_gt (pe_callB call_len (by rfl) B.len (by decide +kernel) (pa_cons (pv 1) pa_nil)) (pv 4) (nomark _))))))))) (pss_one (ps_ret (pv 3))) pss_nil)
      (pss_cons (ps_for (passes_of rfl) rfl (pi_enumT (by rfl) B.enumerate (pa_cons (pv 1) pa_nil)) (pg_tup rfl (pgs_cons (pg_name (i := 5) sc_wrong_part.nd rfl (Or.inl rfl)) (pgs_cons (pg_name (i := 6) sc_wrong_part.nd rfl (Or.inl rfl)) pgs_nil)))
        (pss_one (ps_if (pt_not (pt_val (pe_callL (i := 2) GN (hr.mono (by decide)) rfl (Or.inl rfl) FN.kp bN .nil pass0 (pa_cons (pv 0) (pa_cons (pv 6) (pa_cons (pe_callB call_len (by rfl) B.len (by decide +kernel) (pa_cons (pv 1) pa_nil)) pa_nil)))))) (pss_one (ps_ret (pv 5))) pss_nil)))
      (pss_one (ps_ret pe_non))))), ?_⟩
    have hl : xs.length = ns.length := hall.len
    refine ⟨_, rfl, _, rfl, Or.inl ⟨sg, rfl, by have := hs.few; omega, fun H1 s1 => ⟨_, rfl, ifF (by rw [hs.ok]; rfl) ?_⟩⟩⟩
    have hx1 := Same.tup s1 hx
    have hall1 := hall.same s1
    refine ⟨_, rfl, _, .ty "tuple", _, _, true, rfl, .ty _, ty_tup hx1, kit_ty (by decide +kernel), true, rfl, iteF ⟨_, rfl, by simp, fun p hp => ?_⟩⟩
    have s2 : Same H (upd H1 p (.tup [])) := s1.trans (same_new hp)
    have hx2 := Same.tup s2 hx
    have hall2 := hall.same s2
    obtain ⟨sh1, sh2⟩ := shaped_nodes hs hok.2.2
    have hne : ns ≠ [] := hok.1
    refine ⟨_, .tuple [], .tup hx2 hall2.dp, .tup (Or.inl (Or.inl upd_same)) .nil, ?_, by decide +kernel, _, rfl, ifF ?_ ⟨_, rfl, rfl, _, rfl, ifF rfl ?_⟩⟩
    · unfold SeqAt.shaped
      rw [show (PyData.tuple (ns.map ndD)).canLay0 = true from sh1]
      have : (PyData.tuple (ns.map ndD)).depth ≤ 64 := by
        show PyData.depthAll _ + 1 ≤ 64
        omega
      rw [decide_eq_true this]
      rfl
    · cases ns with
      | nil => exact (hne rfl).elim
      | cons n ns => rfl
    refine ⟨_, rfl, a, xs, rfl, hx2, ?_⟩
    refine for_it (walk_enumT (K := K) (a := a) (xs := xs)) (fun i σ H' => Same H H' ∧ ∃ o1 o2, σ = [some (.str (S sg)), some (.ref a), some (.ref fN), some (.str "nodes"), some .non, o1, o2]) ⟨s2, _, _, rfl⟩ (fun i σ H' hi p => Same.tup p.1 hx) ?_ ?_
    · rintro i x σ H' H'' hi ⟨sm, o1, o2, rfl⟩ ⟨T, y1, y2, rfl, hT, rfl, hy1, hy2⟩
      cases hy1
      obtain ⟨n, hn, hat⟩ := hall.at hy2
      have s3 : Same H (upd H' T (.tup [.int (i : Nat), y2])) := sm.trans (same_new hT)
      refine ⟨T, _, rfl, Or.inl (Or.inl upd_same), rfl, _, _, rfl, _, _, rfl, rfl, ?_⟩
      refine ⟨rfl, _, rfl, _, rfl, _, rfl, _, _, rfl, len_tup (Same.tup s3 hx), sg, y2, n, ns.length, by rw [hl]; rfl, hat.same s3, hok.2.2 n (List.mem_of_getElem? hn), hs.pos, by have := hs.few; omega, fun H4 s4 => ⟨_, rfl, ifF rfl ?_⟩⟩
      exact ⟨s3.trans s4, _, _, rfl⟩
    · rintro σ H' ⟨sm, o1, o2, rfl⟩
      exact q H' sm
end
end Lw

namespace Lw
open PySem PySem.Spec PyProof.Rows L2 Mq
open SX (S)
/-! ### the walk from the end -/
def hdS : Nd → Str
  | .none => "none"
  | .stops _ => "stops"
  | .reads _ _ => "reads"
def isReads : Nd → Bool
  | .reads _ _ => true
  | _ => false
def tsOf : Nd → List Nat
  | .reads _ ts => ts
  | _ => []
def nAt (ns : List Nd) (k : Nat) : Nd := ns.getD k .none
/-- the node behind j letters -/
def wk (sg : List Nat) (ns : List Nd) (l : List Nat) : Nat → Nat
  | 0 => 0
  | j + 1 => (tsOf (nAt ns (wk sg ns l j))).getD (sg.idxOf (l.getD (l.length - 1 - j) 0)) 0
def goN (sg : List Nat) (ns : List Nd) (l : List Nat) : Nat → Nat → Nat
  | 0, j => j
  | k + 1, j => if isReads (nAt ns (wk sg ns l j)) then goN sg ns l k (j + 1) else j
/-- how many letters are read -/
def many (sg : List Nat) (ns : List Nd) (l : List Nat) : Nat := goN sg ns l l.length 0
theorem goN_le {sg : List Nat} {ns : List Nd} {l : List Nat} : ∀ (k j : Nat), j ≤ goN sg ns l k j ∧ goN sg ns l k j ≤ j + k
  | 0, j => ⟨Nat.le_refl _, Nat.le_refl _⟩
  | k + 1, j => by
    obtain ⟨a, b⟩ := goN_le (sg := sg) (ns := ns) (l := l) k (j + 1)
    unfold goN
    split <;> omega
theorem many_le (sg : List Nat) (ns : List Nd) (l : List Nat) : many sg ns l ≤ l.length := by
  have := (goN_le (sg := sg) (ns := ns) (l := l) l.length 0).2
  unfold many
  omega
theorem pos_of {α : Type} {l : List α} (h : l ≠ []) : 0 < l.length := by
  cases l with
  | nil => exact (h rfl).elim
  | cons a l => exact Nat.zero_lt_succ _
theorem wk_lt {sg : List Nat} {ns : List Nd} (h : NodesOk sg ns) (l : List Nat) : ∀ j, wk sg ns l j < ns.length
  | 0 => pos_of h.1
  | j + 1 => by
    have hp : 0 < ns.length := pos_of h.1
    have hj := wk_lt h l j
    show (tsOf (nAt ns (wk sg ns l j))).getD _ 0 < _
    generalize sg.idxOf _ = i
    have hm : nAt ns (wk sg ns l j) ∈ ns := by
      unfold nAt
      rw [List.getD_eq_getElem?_getD, List.getElem?_eq_getElem hj]
      exact List.getElem_mem hj
    have hn := h.2.2 _ hm
    generalize nAt ns (wk sg ns l j) = n at hn
    cases n with
    | none => exact hp
    | stops w => exact hp
    | reads b ts =>
      show ts.getD i 0 < _
      rw [List.getD_eq_getElem?_getD]
      by_cases hi : i < ts.length
      · rw [List.getElem?_eq_getElem hi]
        exact hn.2.1 _ (List.getElem_mem hi)
      · rw [List.getElem?_eq_none (by omega)]
        exact hp
theorem nAt_get {ns : List Nd} {k : Nat} (h : k < ns.length) : ns[k]? = some (nAt ns k) := by
  unfold nAt
  rw [List.getD_eq_getElem?_getD, List.getElem?_eq_getElem h]
  rfl
theorem nAt_ok {sg : List Nat} {ns : List Nd} (h : NodesOk sg ns) {k : Nat} (hk : k < ns.length) : ndOk sg ns.length (nAt ns k) := h.2.2 _ (List.mem_of_getElem? (nAt_get hk))
theorem ndV_0 (n : Nd) : atI (ndV n) 0 = some (.str (hdS n)) := by
  cases n <;> exact atI_nat (j := 0) rfl
def isStops : Nd → Bool
  | .stops _ => true
  | _ => false
theorem hd_reads (n : Nd) : decide (V.str (hdS n) = V.str "reads") = isReads n := by
  cases n with
  | none => show decide (V.str "none" = V.str "reads") = false; decide +kernel
  | stops w => show decide (V.str "stops" = V.str "reads") = false; decide +kernel
  | reads b ts => show decide (V.str "reads" = V.str "reads") = true; decide +kernel
theorem hd_stops (n : Nd) : decide (V.str (hdS n) = V.str "stops") = isStops n := by
  cases n with
  | none => show decide (V.str "none" = V.str "stops") = false; decide +kernel
  | stops w => show decide (V.str "stops" = V.str "stops") = true; decide +kernel
  | reads b ts => show decide (V.str "reads" = V.str "stops") = false; decide +kernel
theorem ndV_2 (b : Option (List Nat)) {ts : List Nat} {i : Nat} (h : i < ts.length) : atI (ndV (.reads b ts)) ((2 : Int) + (i : Nat)) = some (.int (ts.getD i 0 : Nat)) := by
  have e : (2 : Int) + (i : Nat) = ((i + 2 : Nat) : Int) := by omega
  rw [e]
  exact atI_nat (by show (intsV ts)[i]? = _; exact intsV_get h)
def IdxOk (sg : List Nat) : Prop := ∀ c ∈ sg, ∃ rest, Builtin.Str.occurrences (S sg) (S [c]) 0 (S sg).length 1 = sg.idxOf c :: rest
theorem NodesAt.get {K : PySem.W.Frag} {H : Hp} {a : Addr} {ns : List Nd} (h : NodesAt K H a ns) {k : Nat} (hk : k < ns.length) :
    ∃ xs b, SqT K H a xs ∧ atI xs (k : Int) = some (.ref b) ∧ SqT K H b (ndV (nAt ns k)) := by
  obtain ⟨xs, hx, hall⟩ := h
  obtain ⟨v, hv, b, rfl, hb⟩ := hall.get (nAt_get hk)
  exact ⟨xs, b, hx, atI_nat hv, hb⟩
def spWalked (K : PySem.W.Frag) : Sp := fun vs H Q _ => ∃ (sg l : List Nat) (a : Addr) (ns : List Nd), vs = [.str (S sg), .ref a, .int 0, .str (S l)] ∧
  NodesAt K H a ns ∧ NodesOk sg ns ∧ SgOk sg ∧ IdxOk sg ∧ wordOk sg l ∧
  ∀ H' p, Same H H' → SqT K H' p [.int (wk sg ns l (many sg ns l) : Nat), .int (l.length - many sg ns l : Nat)] → Q (.ref p) H'
section
variable {P : Program} {w : World} {K : PySem.W.Frag} {mg : Str → Option Value} {base : Heap}
theorem ok_walked {f : Addr} {fd : FuncData} (F : Fun K "walked" "walked" s_walked f fd) (B : Blt mg) :
    FnOk P w K mg base CX0 1 f fd ["letters", "nodes", "start", "web"] (spWalked K) := by
  refine F.ok sc_walked (fun vs H Q E h => ?_) (fun cdv A outer s H vs Q E hr h => ?_)
  · obtain ⟨_, _, _, _, rfl, _⟩ := h
    rfl
  · obtain ⟨sg, l, a, ns, rfl, hat, hok, hs, hix, hw, q⟩ := h
    refine ⟨_, (pss_cons (ps_set (i := 4) sc_walked.nd rfl (Or.inl rfl) (pv 2))
      (pss_cons (ps_set (i := 5) sc_walked.nd rfl (Or.inl rfl) (pe_callB call_len (by rfl) B.len (by decide +kernel) (pa_cons (pv 3) pa_nil)))
      (pss_cons (ps_while PassesOwn.never (PW.pt (pw_and (pt_cmpR op_gt (pv 5) pe_int (nomark _)) (pw_and1 (pt_cmpR op_eq (pe_ix ix_tup (pe_ix ix_tup (pv 1) (pv 4) (fun _ _ => rfl)) pe_int (fun _ _ => rfl)) pe_str (nomark _)))))
        (pss_cons (ps_aug (i := 5) sc_walked.nd rfl (Or.inl rfl) pe_int ip_sub)
        (pss_one (ps_set (i := 4) sc_walked.nd rfl (Or.inl rfl) (pe_ix ix_tup (pe_ix ix_tup (pv 1) (pv 4) (fun _ _ => rfl)) (pe_op op_add pe_int (pe_bm PySem.F.plainAttrs_str PySem.F.slot_str_index PySem.F.type_str_index mt_sindex (pv 0) (pa_cons (pe_ix ix_str (pv 3) (pv 5) (fun _ _ => rfl)) pa_nil))) (fun _ _ => rfl))))))
      (pss_one (ps_ret (pe_tup (pa_cons (pv 4) (pa_cons (pv 5) pa_nil)))))))), ?_⟩
    have hlen := hw.2
    refine ⟨_, rfl, _, rfl, _, _, rfl, len_S (by omega), ?_⟩
    refine ⟨fun m σ H' => ∃ j, m = l.length - j ∧ j ≤ l.length ∧ Same H H' ∧ goN sg ns l (l.length - j) j = many sg ns l ∧
      σ = [some (.str (S sg)), some (.ref a), some (.int 0), some (.str (S l)), some (.int (wk sg ns l j : Nat)), some (.int (l.length - j : Nat))],
      ⟨l.length, 0, rfl, Nat.zero_le _, Same.refl H, rfl, rfl⟩, ?_⟩
    rintro m σ H' ⟨j, rfl, hj, sm, hg, rfl⟩
    have hk := wk_lt hok l j
    obtain ⟨xs, b, h1, h2, h3⟩ := (hat.same sm).get hk
    have he := ndV_0 (nAt ns (wk sg ns l j))
    by_cases hj' : j < l.length
    · have e0 : decide ((0 : Int) < (l.length - j : Nat)) = true := decide_eq_true (by omega)
      obtain ⟨k, hk'⟩ : ∃ k, l.length - j = k + 1 := ⟨l.length - j - 1, by omega⟩
      refine ⟨_, rfl, _, _, rfl, rfl, _, rfl, ifT e0 ?_⟩
      refine ⟨_, rfl, _, rfl, a, xs, _, .ref b, rfl, rfl, h1, h2, b, _, 0, _, rfl, rfl, h3, he, rfl, _, rfl, ?_⟩
      rw [hd_reads]
      rw [hk'] at hg
      unfold goN at hg
      have fin : ∀ j', j' ≤ l.length → many sg ns l = j' → ∀ p, H' p = none → Q (.ref p) (upd H' p (.tup [.int (wk sg ns l j' : Nat), .int (l.length - j' : Nat)])) := by
        rintro j' _ rfl p hp
        exact q _ p (sm.trans (same_new hp)) (Or.inl (Or.inl upd_same))
      cases hr' : isReads (nAt ns (wk sg ns l j)) with
      | false =>
        rw [hr'] at hg
        have hm : many sg ns l = j := hg.symm
        refine ifF rfl ⟨_, rfl, _, rfl, sz_le (n := 2) (by decide), fun p hp => fin j hj hm p hp⟩
      | true =>
        rw [hr'] at hg
        have hg' : goN sg ns l k (j + 1) = many sg ns l := hg
        refine ifT rfl ⟨fun σ' H2 => ∃ m', m' < l.length - j ∧ ∃ j, m' = l.length - j ∧ j ≤ l.length ∧ Same H H2 ∧ goN sg ns l (l.length - j) j = many sg ns l ∧
          σ' = [some (.str (S sg)), some (.ref a), some (.int 0), some (.str (S l)), some (.int (wk sg ns l j : Nat)), some (.int (l.length - j : Nat))], fun _ _ z => z, ?_⟩
        refine ⟨_, rfl, _, _, rfl, rfl, ?_⟩
        have hc : l.getD (l.length - 1 - j) 0 ∈ l := by
          rw [List.getD_eq_getElem?_getD, List.getElem?_eq_getElem (by omega)]
          exact List.getElem_mem (by omega)
        have hcs := hw.1 _ hc
        obtain ⟨rest, hocc⟩ := hix _ hcs
        have hnk := nAt_ok hok hk
        obtain ⟨b', ts, en⟩ : ∃ b' ts, nAt ns (wk sg ns l j) = .reads b' ts := by
          generalize nAt ns (wk sg ns l j) = n at hr'
          cases n with
          | none => cases hr'
          | stops w => cases hr'
          | reads b' ts => exact ⟨b', ts, rfl⟩
        have hi : sg.idxOf (l.getD (l.length - 1 - j) 0) < ts.length := by
          rw [en] at hnk
          rw [hnk.1]
          exact List.idxOf_lt_length_of_mem hcs
        have e2 : ((l.length - j : Nat) : Int) - 1 = ((l.length - 1 - j : Nat) : Int) := by omega
        have e3 : wk sg ns l (j + 1) = ts.getD (sg.idxOf (l.getD (l.length - 1 - j) 0)) 0 := by
          show (tsOf (nAt ns (wk sg ns l j))).getD _ 0 = _
          rw [en]
          rfl
        rw [en] at h3
        refine ⟨_, rfl, _, rfl, a, xs, _, .ref b, rfl, rfl, h1, h2, .str (S sg), rfl, rfl, .str (S l), rfl, .int (l.length - 1 - j : Nat), ?_, ?_⟩
        · show some (some (V.int (((l.length - j : Nat) : Int) - 1))) = _
          rw [e2]
        refine ⟨S l, _, l.getD (l.length - 1 - j) 0, rfl, rfl, sz_le (by rw [SX.S_len]; omega), at_get (by omega), ?_⟩
        refine ⟨S sg, S [l.getD (l.length - 1 - j) 0], _, rest, rfl, rfl, hocc, _, _, rfl, rfl, b, _, _, _, rfl, rfl, h3, ndV_2 b' hi, ?_⟩
        refine ⟨k, by omega, j + 1, by omega, by omega, sm, ?_, ?_⟩
        · rw [show l.length - (j + 1) = k by omega]
          exact hg'
        · show [some (V.str (S sg)), some (V.ref a), some (V.int 0), some (V.str (S l)), some (V.int _), some (V.int (((l.length - j : Nat) : Int) - 1))] = _
          rw [e3, e2, show l.length - (j + 1) = l.length - 1 - j by omega]
    · have e0 : decide ((0 : Int) < (l.length - j : Nat)) = false := decide_eq_false (by omega)
      have ej : j = l.length := by omega
      refine ⟨_, rfl, _, _, rfl, rfl, _, rfl, ifF e0 ?_⟩
      subst ej
      have hm : many sg ns l = l.length := by
        rw [Nat.sub_self] at hg
        exact hg.symm
      refine ifF rfl ⟨_, rfl, _, rfl, sz_le (n := 2) (by decide), fun p hp => q _ p (sm.trans (same_new hp)) ?_⟩
      rw [hm]
      exact Or.inl (Or.inl upd_same)
end
end Lw

namespace Lw
open PySem PySem.Spec PyProof.Rows L2 Mq
open SX (S)
theorem ps_dead {X : Cx} {st : Stmt} : PS X st (fun _ _ _ => False) := ⟨fun _ _ _ _ _ _ h => h.elim⟩
/-! ### what readers make -/
def madeM (sg : List Nat) (ns : List Nd) (l : List Nat) : Option (List Nat) :=
  match nAt ns (wk sg ns l (many sg ns l)) with
  | .none => .none
  | .stops w => .some (l.take (l.length - many sg ns l) ++ w)
  | .reads b _ => b
def WebGood (sg : List Nat) (v : V) (l : List Nat) : Prop := v = .str (S l) ∧ wordOk sg l
def WebBad (K : PySem.W.Frag) (H : Hp) (sg : List Nat) (v : V) : Prop := (∃ l, v = .str (S l) ∧ l.length ≤ 1000 ∧ allB l sg = false) ∨ NoStr K H v
def spMadeBy (K : PySem.W.Frag) : Sp := fun vs H Q _ => ∃ (sg l : List Nat) (a : Addr) (ns : List Nd), vs = [.str (S sg), .ref a, .str (S l)] ∧
  NodesAt K H a ns ∧ NodesOk sg ns ∧ SgOk sg ∧ IdxOk sg ∧ wordOk sg l ∧ ∀ H', Same H H' → Q (optV (madeM sg ns l)) H'
def spCheck (K : PySem.W.Frag) (CW : Addr) : Sp := fun vs H Q E => ∃ (sg : List Nat) (v : V), vs = [.str (S sg), v] ∧
  ((∃ l, WebGood sg v l ∧ ∀ H', Same H H' → Q .non H') ∨ (WebBad K H sg v ∧ ∀ H' d, Same H H' → H' d = none → E (.ref CW) (some d) (upd H' d (.xd [("thing", v)]))))
structure RdC (K : PySem.W.Frag) (C : Addr) : Prop where
  cls : Cls K C
  nL : NoAttr K C "letters"
  nN : NoAttr K C "nodes"
def rdF (sg : List Nat) (na : Addr) : List (Str × V) := [("letters", .str (S sg)), ("nodes", .ref na)]
def RdAt (H : Hp) (C r : Addr) (sg : List Nat) (na : Addr) : Prop := ∃ dx, H r = some (.ins C dx (rdF sg na))
theorem RdAt.same {H H' : Hp} {C r na : Addr} {sg : List Nat} (h : RdAt H C r sg na) (e : Same H H') : RdAt H' C r sg na := let ⟨d, x⟩ := h; ⟨d, e _ _ x⟩
def spInit (K : PySem.W.Frag) (C : Addr) : Sp := fun vs H Q _ => ∃ (r dx na : Addr) (sg : List Nat) (ns : List Nd), vs = [.ref r, .str (S sg), .ref na] ∧
  H r = some (.ins C dx []) ∧ NodesAt K H na ns ∧ NodesOk sg ns ∧ SgOk sg ∧ ∀ H', RdAt H' C r sg na → (∀ b o, H b = some o → b ≠ r → H' b = some o) → Q .non H'
def spMade (K : PySem.W.Frag) (C CW : Addr) (res : List Nat → List Nd → List Nat → V) : Sp := fun vs H Q E => ∃ (r na : Addr) (sg : List Nat) (ns : List Nd) (v : V), vs = [.ref r, v] ∧
  RdAt H C r sg na ∧ NodesAt K H na ns ∧ NodesOk sg ns ∧ SgOk sg ∧ IdxOk sg ∧
  ((∃ l, WebGood sg v l ∧ ∀ H', Same H H' → Q (res sg ns l) H') ∨ (WebBad K H sg v ∧ ∀ H' d, Same H H' → H' d = none → E (.ref CW) (some d) (upd H' d (.xd [("thing", v)]))))
def resMade (sg : List Nat) (ns : List Nd) (l : List Nat) : V := optV (madeM sg ns l)
def resRead (sg : List Nat) (ns : List Nd) (l : List Nat) : V := .int (many sg ns l : Nat)
section
variable {P : Program} {w : World} {K : PySem.W.Frag} {mg : Str → Option Value} {base : Heap}
theorem ok_made_by {f fW : Addr} {fd fdW : FuncData} (F : Fun K "made_by" "made_by" s_made_by f fd) (B : Blt mg)
    (FW : Fun K "walked" "walked" s_walked fW fdW) (gW : mg "walked" = some (.ref fW)) (bW : Binds K fdW ["letters", "nodes", "start", "web"] []) :
    FnOk P w K mg base CX0 2 f fd ["letters", "nodes", "web"] (spMadeBy K) := by
  have GW : FnOk P w K mg base CX0 1 fW fdW ["letters", "nodes", "start", "web"] (spWalked K) := ok_walked FW B
  refine F.ok sc_made_by (fun vs H Q E h => ?_) (fun cdv A outer s H vs Q E hr h => ?_)
  · obtain ⟨_, _, _, _, rfl, _⟩ := h
    rfl
  · obtain ⟨sg, l, a, ns, rfl, hat, hok, hs, hix, hw, q⟩ := h
    refine ⟨_, (pss_cons (ps_asg (pe_call GW (hr.mono (by decide)) (by rfl) gW FW.kp bW .nil pass0 (pa_cons (pv 0) (pa_cons (pv 1) (pa_cons pe_int (pa_cons (pv 2) pa_nil))))) (pg_tup rfl (pgs_cons (pg_name (i := 3) sc_made_by.nd rfl (Or.inl rfl)) (pgs_cons (pg_name (i := 4) sc_made_by.nd rfl (Or.inl rfl)) pgs_nil))))
      (pss_cons (ps_set (i := 5) sc_made_by.nd rfl (Or.inl rfl) (pe_ix ix_tup (pv 1) (pv 3) (fun _ _ => rfl)))
      (pss_cons (ps_if (pt_cmpR op_eq (pe_ix ix_tup (pv 5) pe_int (fun _ _ => rfl)) pe_str (nomark _)) (pss_one (ps_ret (pe_op op_add_str (pe_slice C8.sl_txt (pv 2) po_none (po_some (pv 4))) (pe_ix ix_tup (pv 5) pe_int (fun _ _ => rfl))))) pss_nil)
      (pss_one (ps_ret (pe_ifExp (pt_cmpR op_eq (pe_ix ix_tup (pv 5) pe_int (fun _ _ => rfl)) pe_str (nomark _)) (pe_ix ix_tup (pv 5) pe_int (fun _ _ => rfl)) pe_non)))))), ?_⟩
    have hlen := hw.2
    have hml := many_le sg ns l
    refine ⟨_, rfl, _, rfl, _, rfl, sg, l, a, ns, rfl, hat, hok, hs, hix, hw, fun H1 p s1 hp => ?_⟩
    have hk := wk_lt hok l (many sg ns l)
    obtain ⟨xs, b, h1, h2, h3⟩ := (hat.same s1).get hk
    have he := ndV_0 (nAt ns (wk sg ns l (many sg ns l)))
    have hno := nAt_ok hok hk
    refine ⟨p, _, rfl, hp, rfl, _, _, rfl, _, _, rfl, rfl, ?_⟩
    refine ⟨_, rfl, _, rfl, a, xs, _, .ref b, rfl, rfl, h1, h2, ?_⟩
    refine ⟨_, rfl, b, _, 0, _, rfl, rfl, h3, he, rfl, _, rfl, ?_⟩
    rw [hd_stops]
    have q' := q H1 s1
    unfold madeM at q'
    generalize nAt ns (wk sg ns l (many sg ns l)) = n at *
    cases n with
    | none =>
      refine ifF rfl ⟨_, rfl, b, _, 0, _, rfl, rfl, h3, he, rfl, _, rfl, ?_⟩
      rw [hd_reads]
      exact ifF rfl q'
    | reads b' ts =>
      refine ifF rfl ⟨_, rfl, b, _, 0, _, rfl, rfl, h3, he, rfl, _, rfl, ?_⟩
      rw [hd_reads]
      exact ifT rfl ⟨_, rfl, b, _, 1, optV b', rfl, rfl, h3, atI_nat (j := 1) rfl, q'⟩
    | stops w' =>
      refine ifT rfl ⟨_, rfl, _, rfl, _, rfl, S l, rfl, sz_le (by rw [SX.S_len]; omega), ?_⟩
      refine ⟨_, rfl, b, _, 1, .str (S w'), rfl, rfl, h3, atI_nat (j := 1) rfl, _, _, rfl, rfl, ?_, ?_⟩
      · have hw2 := hno.2
        rw [SX.slice_to (by omega), SX.S_len, SX.S_len, List.length_take]
        exact sz_le (by omega)
      · rw [SX.slice_to (by omega), SX.S_cat, Int.toNat_natCast]
        exact q'
end
end Lw

namespace Lw
open PySem PySem.Spec PyProof.Rows L2 Mq
open SX (S)
section
variable {P : Program} {w : World} {K : PySem.W.Frag} {mg : Str → Option Value} {base : Heap} {C CW : Addr}
theorem good_word {sg l : List Nat} {v : V} (h : WebGood sg v l) : ∃ l', v = .str (S l') ∧ l'.length ≤ 100000 ∧ allB l' sg = true := ⟨l, h.1, by have := h.2.2; omega, allB_of h.2.1⟩
theorem ok_check_web {f fW fB : Addr} {fd fdW : FuncData} (F : Fun K "check_web" "check_web" s_check_web f fd) (B : Blt mg)
    (FW : Fun K "is_web" "is_web" s_is_web fW fdW) (gW : mg "is_web" = some (.ref fW)) (bW : Binds K fdW ["letters", "thing"] [])
    (GW : FnOk P w K mg base CX0 2 fW fdW ["letters", "thing"] (spWord K)) (T : MqE_thing.Txt K mg "BadWeb" "BadWeb.__init__" CW fB) :
    FnOk P w K mg base (L2.CX P w) 3 f fd ["letters", "thing"] (spCheck K CW) := by
  refine F.okX sc_check_web (fun vs H Q E h => ?_) (fun cdv A outer s H vs Q E hr h => ?_)
  · obtain ⟨_, _, rfl, _⟩ := h
    rfl
  · obtain ⟨sg, v, rfl, h⟩ := h
    refine ⟨_, (pss_one (ps_if (pt_not (pt_val (pe_call GW (hr.mono (by decide)) (by rfl) gW FW.kp bW .nil pass0 (pa_cons (pv 0) (pa_cons (pv 1) pa_nil))))) (pss_one (MqE_thing.ps_raise rfl T hr (takes_of rfl rfl rfl rfl) (pa_cons (pv 1) pa_nil))) pss_nil)), ?_⟩
    refine ⟨_, rfl, _, rfl, sg, v, rfl, ?_⟩
    rcases h with ⟨l, hg, q⟩ | ⟨hb, q⟩
    · refine Or.inl ⟨l, hg.1, by have := hg.2.2; omega, fun H1 s1 => ⟨_, rfl, ?_⟩⟩
      rw [allB_of hg.2.1]
      exact ifF rfl (q H1 s1)
    · have raise : ∀ H1, Same H H1 → (∃ v', [v] = [v'] ∧ ∀ d, H1 d = none → E (.ref CW) (some d) (upd H1 d (.xd [("thing", v')]))) := fun H1 s1 => ⟨v, rfl, fun d hd => q H1 d s1 hd⟩
      rcases hb with ⟨l, hv, hl, ha⟩ | hn
      · refine Or.inl ⟨l, hv, by omega, fun H1 s1 => ⟨_, rfl, ?_⟩⟩
        rw [ha]
        exact ifT rfl ⟨_, rfl, raise H1 s1⟩
      · refine Or.inr ⟨hn, fun H1 s1 => ⟨_, rfl, ifT rfl ⟨_, rfl, raise H1 s1⟩⟩⟩
theorem ok_init {f fW fN : Addr} {fd fdW : FuncData} (F : Fun K "__init__" "Reader.__init__" s_Reader___init__ f fd) (R : RdC K C)
    (kW : PySem.W.keepIn K (.ref fW) = true) {dW : List Value} (gW : mg "wrong_part" = some (.ref fW)) (bW : Binds K fdW ["letters", "nodes", "is_node", "word", "most"] dW) (vW : Vals [.str "nodes", .non] dW)
    (gN : mg "is_reader_node" = some (.ref fN))
    (GW : FnOk P w K mg base CX0 5 fW fdW ["letters", "nodes", "is_node", "word", "most"] (spWrong K fN)) :
    FnOk P w K mg base CX0 6 f fd ["self", "letters", "nodes"] (spInit K C) := by
  refine F.ok sc_Reader___init__ (fun vs H Q E h => ?_) (fun cdv A outer s H vs Q E hr h => ?_)
  · obtain ⟨_, _, _, _, _, rfl, _⟩ := h
    rfl
  · obtain ⟨r, dx, na, sg, ns, rfl, hr0, hat, hok, hs, q⟩ := h
    refine ⟨_, (pss_cons (ps_set (i := 3) sc_Reader___init__.nd rfl (Or.inl rfl) (pe_call GW (hr.mono (by decide)) (by rfl) gW kW bW vW pass0 (pa_cons (pv 1) (pa_cons (pv 2) (pa_cons (pe_glob (v := .ref fN) (by rfl) gN rfl) pa_nil)))))
      (pss_cons (ps_if (pt_cmpR op_notN (pv 3) pe_non (nomark _)) (pss_one ps_dead) pss_nil)
      (pss_cons (ps_fld (pv 0) (pv 1) rfl)
      (pss_one (ps_fld (pv 0) (pv 2) rfl))))), ?_⟩
    refine ⟨_, rfl, _, rfl, sg, na, ns, rfl, hat, hok, hs, fun H1 s1 => ?_⟩
    refine ⟨_, rfl, rfl, _, rfl, ifF rfl ?_⟩
    have h1 := s1 _ _ hr0
    refine ⟨_, rfl, _, rfl, r, C, dx, [], rfl, h1, R.cls, R.nL, (by show 0 < 1000; decide), ?_⟩
    refine ⟨_, rfl, _, rfl, r, C, dx, _, rfl, upd_same, R.cls, R.nN, (by show 1 < 1000; decide), ?_⟩
    refine q _ ⟨dx, upd_same.trans ?_⟩ (fun b o e hb => ?_)
    · exact congrArg (fun z => some (HO.ins C dx z)) rfl
    · rw [upd_ne hb, upd_ne hb]
      exact s1 b o e
theorem ok_made {f fK fM : Addr} {fd fdK fdM : FuncData} (F : Fun K "made" "Reader.made" s_Reader_made f fd) (R : RdC K C)
    (FK : Fun K "check_web" "check_web" s_check_web fK fdK) (gK : mg "check_web" = some (.ref fK)) (bK : Binds K fdK ["letters", "thing"] [])
    (GK : FnOk P w K mg base (L2.CX P w) 3 fK fdK ["letters", "thing"] (spCheck K CW))
    (FM : Fun K "made_by" "made_by" s_made_by fM fdM) (gM : mg "made_by" = some (.ref fM)) (bM : Binds K fdM ["letters", "nodes", "web"] [])
    (GM : FnOk P w K mg base CX0 2 fM fdM ["letters", "nodes", "web"] (spMadeBy K)) :
    FnOk P w K mg base (L2.CX P w) 4 f fd ["self", "web"] (spMade K C CW resMade) := by
  refine F.okX sc_Reader_made (fun vs H Q E h => ?_) (fun cdv A outer s H vs Q E hr h => ?_)
  · obtain ⟨_, _, _, _, _, rfl, _⟩ := h
    rfl
  · obtain ⟨r, na, sg, ns, v, rfl, ⟨dx, hrd⟩, hat, hok, hs, hix, h⟩ := h
    refine ⟨_, (pss_cons (ps_expr (pe_call GK (hr.mono (by decide)) (by rfl) gK FK.kp bK .nil (passes_call (takes_of rfl rfl rfl rfl) (fun _ _ _ _ z => z)) (pa_cons (pe_fld (pv 0) rfl) (pa_cons (pv 1) pa_nil))))
      (pss_one (ps_ret (pe_call GM (hr.mono (by decide)) (by rfl) gM FM.kp bM .nil pass0 (pa_cons (pe_fld (pv 0) rfl) (pa_cons (pe_fld (pv 0) rfl) (pa_cons (pv 1) pa_nil))))))), ?_⟩
    refine ⟨_, rfl, r, C, dx, _, _, rfl, hrd, R.cls, R.nL, rfl, _, rfl, sg, v, rfl, ?_⟩
    rcases h with ⟨l, hg, q⟩ | ⟨hb, q⟩
    · refine Or.inl ⟨l, hg, fun H1 s1 => ?_⟩
      have h1 := s1 _ _ hrd
      refine ⟨_, rfl, r, C, dx, _, _, rfl, h1, R.cls, R.nL, rfl, _, rfl, r, C, dx, _, _, rfl, h1, R.cls, R.nN, rfl, _, rfl, sg, l, na, ns, ?_, hat.same s1, hok, hs, hix, hg.2, fun H2 s2 => q H2 (s1.trans s2)⟩
      rw [hg.1]
      rfl
    · exact Or.inr ⟨hb, q⟩
theorem ok_read_of {f fK fM : Addr} {fd fdK fdM : FuncData} (F : Fun K "read_of" "Reader.read_of" s_Reader_read_of f fd) (B : Blt mg) (R : RdC K C)
    (FK : Fun K "check_web" "check_web" s_check_web fK fdK) (gK : mg "check_web" = some (.ref fK)) (bK : Binds K fdK ["letters", "thing"] [])
    (GK : FnOk P w K mg base (L2.CX P w) 3 fK fdK ["letters", "thing"] (spCheck K CW))
    (FM : Fun K "walked" "walked" s_walked fM fdM) (gM : mg "walked" = some (.ref fM)) (bM : Binds K fdM ["letters", "nodes", "start", "web"] [])
    (GM : FnOk P w K mg base CX0 1 fM fdM ["letters", "nodes", "start", "web"] (spWalked K)) :
    FnOk P w K mg base (L2.CX P w) 4 f fd ["self", "web"] (spMade K C CW resRead) := by
  refine F.okX sc_Reader_read_of (fun vs H Q E h => ?_) (fun cdv A outer s H vs Q E hr h => ?_)
  · obtain ⟨_, _, _, _, _, rfl, _⟩ := h
    rfl
  · obtain ⟨r, na, sg, ns, v, rfl, ⟨dx, hrd⟩, hat, hok, hs, hix, h⟩ := h
    refine ⟨_, (pss_cons (ps_expr (pe_call GK (hr.mono (by decide)) (by rfl) gK FK.kp bK .nil (passes_call (takes_of rfl rfl rfl rfl) (fun _ _ _ _ z => z)) (pa_cons (pe_fld (pv 0) rfl) (pa_cons (pv 1) pa_nil))))
      (pss_cons (ps_asg (pe_call GM (hr.mono (by decide)) (by rfl) gM FM.kp bM .nil pass0 (pa_cons (pe_fld (pv 0) rfl) (pa_cons (pe_fld (pv 0) rfl) (pa_cons pe_int (pa_cons (pv 1) pa_nil))))) (pg_tup rfl (pgs_cons (pg_name (i := 2) sc_Reader_read_of.nd rfl (Or.inl rfl)) (pgs_cons (pg_name (i := 3) sc_Reader_read_of.nd rfl (Or.inl rfl)) pgs_nil))))
      (pss_one (ps_ret (pe_op op_sub (pe_callB call_len (by rfl) B.len (by decide +kernel) (pa_cons (pv 1) pa_nil)) (pv 3)))))), ?_⟩
    refine ⟨_, rfl, r, C, dx, _, _, rfl, hrd, R.cls, R.nL, rfl, _, rfl, sg, v, rfl, ?_⟩
    rcases h with ⟨l, hg, q⟩ | ⟨hb, q⟩
    · refine Or.inl ⟨l, hg, fun H1 s1 => ?_⟩
      have h1 := s1 _ _ hrd
      have hv := hg.1
      subst hv
      have hlen := hg.2.2
      refine ⟨_, rfl, r, C, dx, _, _, rfl, h1, R.cls, R.nL, rfl, _, rfl, r, C, dx, _, _, rfl, h1, R.cls, R.nN, rfl, _, rfl, sg, l, na, ns, rfl, hat.same s1, hok, hs, hix, hg.2, fun H2 p s2 hp => ?_⟩
      refine ⟨p, _, rfl, hp, rfl, _, _, rfl, _, _, rfl, rfl, ?_⟩
      refine ⟨_, rfl, _, _, rfl, len_S (by omega), _, rfl, _, _, rfl, rfl, ?_⟩
      have e : ((l.length : Nat) : Int) - ((l.length - many sg ns l : Nat) : Int) = (many sg ns l : Nat) := by
        have := many_le sg ns l
        omega
      have q2 := q H2 (s1.trans s2)
      unfold resRead at q2
      rw [← e] at q2
      exact q2
    · exact Or.inr ⟨hb, q⟩
end
end Lw

namespace Lw
open PySem PySem.Spec PyProof.Rows L2 Mq
open SX (S)
/-! ### the deck -/
def deckKv (c : Addr) (m : Int) (t : Nat) : List (Key × V) := [(.inr "cells", .ref c), (.inr "mixed", .int m), (.inr "turn", .int (t : Nat))]
structure DeckAt (D C : Addr) (T : Nat) (H : Hp) : Prop where
  ex : ∃ (m : Int) (t : Nat) (js : List Int), H D = some (.dK (deckKv C m t)) ∧ H C = some (.lst (js.map V.int)) ∧ js.length ≤ 100 ∧ t ≤ T
def Off (D C : Addr) (H H' : Hp) : Prop := ∀ b o, b ≠ D → b ≠ C → H b = some o → H' b = some o
theorem Off.refl (D C : Addr) (H : Hp) : Off D C H H := fun _ _ _ _ e => e
theorem Off.trans {D C : Addr} {H H' H'' : Hp} (a : Off D C H H') (b : Off D C H' H'') : Off D C H H'' := fun x o h1 h2 e => b x o h1 h2 (a x o h1 h2 e)
theorem Off.same {D C : Addr} {H H' : Hp} (e : Same H H') : Off D C H H' := fun b o _ _ h => e b o h
theorem DeckAt.same {D C : Addr} {T : Nat} {H H' : Hp} (h : DeckAt D C T H) (e : Same H H') : DeckAt D C T H' := let ⟨m, t, js, a, b, c, d⟩ := h.ex; ⟨m, t, js, e _ _ a, e _ _ b, c, d⟩
theorem DeckAt.mono {D C : Addr} {T T' : Nat} {H : Hp} (h : DeckAt D C T H) (e : T ≤ T') : DeckAt D C T' H := let ⟨m, t, js, a, b, c, d⟩ := h.ex; ⟨m, t, js, a, b, c, Nat.le_trans d e⟩
theorem DeckAt.ne {D C : Addr} {T : Nat} {H : Hp} (h : DeckAt D C T H) : C ≠ D := by
  obtain ⟨m, t, js, a, b, c, d⟩ := h.ex
  rintro rfl
  rw [a] at b
  cases b
/-- what is no list and no dict is none of the deck's -/
theorem Off.at {D C : Addr} {T : Nat} {H H' : Hp} {a : Addr} {o : HO} (f : Off D C H H') (k : DeckAt D C T H) (h : H a = some o) (n : (∀ xs, o ≠ .lst xs) ∧ ∀ kvs, o ≠ .dK kvs) : H' a = some o := by
  obtain ⟨m, t, js, x, y, _, _⟩ := k.ex
  refine f a o ?_ ?_ h
  · rintro rfl
    rw [x] at h
    cases h
    exact n.2 _ rfl
  · rintro rfl
    rw [y] at h
    cases h
    exact n.1 _ rfl
theorem Off.tup {K : PySem.W.Frag} {D C : Addr} {T : Nat} {H H' : Hp} {a : Addr} {xs : List V} (f : Off D C H H') (k : DeckAt D C T H) (h : SqT K H a xs) : SqT K H' a xs := by
  rcases h with (h | ⟨o, h⟩) | h
  · exact Or.inl (Or.inl (f.at k h ⟨(fun _ z => nomatch z), (fun _ z => nomatch z)⟩))
  · exact Or.inl (Or.inr ⟨o, f.at k h ⟨(fun _ z => nomatch z), (fun _ z => nomatch z)⟩⟩)
  · exact Or.inr h
theorem dp_ints' {K : PySem.W.Frag} {H : Hp} : ∀ js : List Int, DpAll K H (js.map V.int) (js.map PyData.int)
  | [] => .nil
  | t :: ts => .cons (.int _) (dp_ints' ts)
theorem lay_ints' (js : List Int) : PyData.canLayAll0 (js.map PyData.int) = true ∧ PyData.depthAll (js.map PyData.int) = 0 := by
  induction js with
  | nil => exact ⟨rfl, rfl⟩
  | cons t ts ih =>
    refine ⟨ih.1, ?_⟩
    show max 0 _ = 0
    rw [ih.2]
    rfl
theorem shaped_ints (js : List Int) : SeqAt.shaped (.list (js.map PyData.int)) = true := by
  unfold SeqAt.shaped
  obtain ⟨a, b⟩ := lay_ints' js
  rw [show (PyData.list (js.map PyData.int)).canLay0 = true from a]
  have : (PyData.list (js.map PyData.int)).depth ≤ 64 := by
    show PyData.depthAll _ + 1 ≤ 64
    omega
  rw [decide_eq_true this]
  rfl
def spDraw : Sp := fun vs H Q _ => ∃ (D C : Addr) (T b : Nat), vs = [.ref D, .int (b : Nat)] ∧ DeckAt D C T H ∧ T ≤ 1000000 ∧ 0 < b ∧ b ≤ 1000 ∧
  ∀ H' (r : Nat), r < b → DeckAt D C (T + 1) H' → Off D C H H' → Q (.int (r : Nat)) H'
theorem fmod_nat (i : Int) {b : Nat} (h : 0 < b) : ∃ r : Nat, i.fmod (b : Int) = (r : Nat) ∧ r < b := by
  have h1 : 0 ≤ i.fmod (b : Int) := Int.fmod_nonneg_of_pos i (by omega)
  have h2 : i.fmod (b : Int) < b := Int.fmod_lt_of_pos i (by omega)
  exact ⟨(i.fmod b).toNat, by omega, by omega⟩
theorem bound_mod (i : Int) : -(2 ^ 64) < i.fmod 2147483647 ∧ i.fmod 2147483647 < 2 ^ 64 := by
  obtain ⟨r, e, l⟩ := fmod_nat i (b := 2147483647) (by decide)
  have e' : i.fmod 2147483647 = (r : Nat) := e
  rw [e']
  omega
theorem mod_fin {b : Nat} (h : 0 < b) (i : Int) {H : Hp} {Q : VK} (k : ∀ r : Nat, r < b → Q (.int (r : Nat)) H) : Q (.int (i.fmod (b : Nat))) H := by
  obtain ⟨r, e, l⟩ := fmod_nat i h
  rw [e]
  exact k r l
section
variable {P : Program} {w : World} {K : PySem.W.Frag} {mg : Str → Option Value} {base : Heap}
theorem ok_draw {f : Addr} {fd : FuncData} (F : Fun K "_law_draw" "_law_draw" s__law_draw f fd) (B : Blt mg) :
    FnOk P w K mg base CX0 1 f fd ["_law_deck_here", "_law_below"] spDraw := by
  refine F.ok sc__law_draw (fun vs H Q E h => ?_) (fun cdv A outer s H vs Q E hr h => ?_)
  · obtain ⟨_, _, _, _, rfl, _⟩ := h
    rfl
  · obtain ⟨D, C, T, b, rfl, hdk, hT, hb0, hb1, q⟩ := h
    have hu : (A.deeper (envOfC "_law_draw" (defScope s__law_draw) s.heap.objs.size f cdv)).units + 64 < cLine := by
      have := hr.units
      omega
    have hu1 : (A.deeper (envOfC "_law_draw" (defScope s__law_draw) s.heap.objs.size f cdv)).units + 1 < cLine := by omega
    refine ⟨_, (pss_cons (ps_dput hu1 (pv 0) pe_str (pe_op op_add (pe_dget hu1 (pv 0) pe_str (fun _ _ => rfl)) pe_int) rfl)
      (pss_cons (ps_set (i := 2) sc__law_draw.nd rfl (Or.inl rfl) (pe_op op_add (pe_dget hu1 (pv 0) pe_str (fun _ _ => rfl)) (pe_op op_mul (pe_op op_mul pe_int (pe_dget hu1 (pv 0) pe_str (fun _ _ => rfl))) (pe_dget hu1 (pv 0) pe_str (fun _ _ => rfl)))))
      (pss_cons (ps_if (pt_cmpR (op_neD hu) (pe_dget hu1 (pv 0) pe_str (fun _ _ => rfl)) (pe_ls pa_nil) (nomark _)) (pss_cons (ps_set (i := 3) sc__law_draw.nd rfl (Or.inl rfl) (pe_bm0 PySem.F.plainAttrs_list PySem.F.slot_list_pop PySem.F.type_list_pop mt_pop (pe_dget hu1 (pv 0) pe_str (fun _ _ => rfl))))
        (pss_cons (ps_if (pt_cmpR op_ge (pv 3) (pe_op op_pow pe_int pe_int) (nomark _)) (pss_cons (ps_expr (pe_bm PySem.F.plainAttrs_list PySem.F.slot_list_append PySem.F.type_list_append mt_append (pe_dget hu1 (pv 0) pe_str (fun _ _ => rfl)) (pa_cons (pe_op op_fdivN (pv 3) (pv 1)) pa_nil)))
          (pss_one (ps_ret (pe_op op_modN (pe_callTy call_int1 (by rfl) B.int (by decide +kernel) (pa_cons (pv 3) pa_nil)) (pv 1))))) pss_nil)
        (pss_one (ps_set (i := 2) sc__law_draw.nd rfl (Or.inl rfl) (pe_op op_add (pv 2) (pe_op op_modN (pe_callTy call_int1 (by rfl) B.int (by decide +kernel) (pa_cons (pv 3) pa_nil)) pe_int)))))) pss_nil)
      (pss_cons (ps_set (i := 2) sc__law_draw.nd rfl (Or.inl rfl) (pe_op op_modN (pe_callTy call_int1 (by rfl) B.int (by decide +kernel) (pa_cons (pe_op op_add (pe_op op_mul (pe_op op_modN (pv 2) pe_int) pe_int) (pe_dget hu1 (pv 0) pe_str (fun _ _ => rfl))) pa_nil)) pe_int))
      (pss_cons (ps_set (i := 2) sc__law_draw.nd rfl (Or.inl rfl) (pe_op op_modN (pe_callTy call_int1 (by rfl) B.int (by decide +kernel) (pa_cons (pe_op op_add (pe_op op_add (pe_op op_mul (pv 2) (pv 2)) (pe_op op_mul pe_int (pe_dget hu1 (pv 0) pe_str (fun _ _ => rfl)))) pe_int) pa_nil)) pe_int))
      (pss_one (ps_ret (pe_op op_modN (pe_op op_fdivN (pe_op op_modN (pe_callTy call_int1 (by rfl) B.int (by decide +kernel) (pa_cons (pe_op op_mul (pv 2) pe_int) pa_nil)) pe_int) pe_int) (pv 1))))))))), ?_⟩
    obtain ⟨m, t, js, hD, hC, hjs, ht⟩ := hdk.ex
    have ne := hdk.ne
    have e : ((t : Nat) : Int) + 1 = ((t + 1 : Nat) : Int) := by omega
    have eH : upd H D (.dK (deckKv C m (t + 1))) = upd H D (.dK (putK (deckKv C m t) (.inr "turn") (.int (((t : Nat) : Int) + 1)))) := by
      rw [e]
      rfl
    have o1 : Off D C H (upd H D (.dK (deckKv C m (t + 1)))) := fun x o h1 h2 h => (upd_ne h1).trans h
    have hD1 : upd H D (.dK (deckKv C m (t + 1))) D = some (.dK (deckKv C m (t + 1))) := upd_same
    have hC1 : upd H D (.dK (deckKv C m (t + 1))) C = some (.lst (js.map V.int)) := (upd_ne ne).trans hC
    refine ⟨_, rfl, D, .int (t : Nat), rfl, (DGet.k (k := .inr "turn") hD : DGet H D (.str "turn") (some (.int (t : Nat)))), _, _, rfl, rfl, _, rfl, D, upd H D (.dK (deckKv C m (t + 1))), rfl, Or.inl ⟨deckKv C m t, .inr "turn", hD, rfl, sz_lt (by show 3 ≤ _; decide), eH⟩, ?_⟩
    generalize upd H D (.dK (deckKv C m (t + 1))) = H1 at o1 hD1 hC1 ⊢
    have gT : ∀ {H2 : Hp}, H2 D = some (.dK (deckKv C m (t + 1))) → DGet H2 D (.str "turn") (some (.int (t + 1 : Nat))) := fun h => DGet.k (k := .inr "turn") h
    have gM : ∀ {H2 : Hp}, H2 D = some (.dK (deckKv C m (t + 1))) → DGet H2 D (.str "mixed") (some (.int m)) := fun h => DGet.k (k := .inr "mixed") h
    have gC : ∀ {H2 : Hp}, H2 D = some (.dK (deckKv C m (t + 1))) → DGet H2 D (.str "cells") (some (.ref C)) := fun h => DGet.k (k := .inr "cells") h
    have cT : -(2 ^ 64) < (((t + 1 : Nat)) : Int) ∧ (((t + 1 : Nat)) : Int) < 2 ^ 64 := by omega
    refine ⟨_, rfl, D, _, rfl, gM hD1, _, rfl, D, _, rfl, gT hD1, _, _, rfl, rfl, Or.inl (by decide), _, rfl, D, _, rfl, gT hD1, _, _, rfl, rfl, Or.inr cT, _, _, rfl, rfl, ?_⟩
    refine ⟨_, rfl, D, _, rfl, gC hD1, sz_le (n := 0) (by decide), fun p hp _ => ?_⟩
    have sp1 : Same H1 (upd H1 p (.lst [])) := same_new hp
    refine ⟨.list (js.map PyData.int), .list [], .lst (SqL.of (sp1 _ _ hC1)) (dp_ints' js), .lst (SqL.of upd_same) .nil, shaped_ints js, by decide +kernel, _, rfl, ?_⟩
    have hD2 := sp1 _ _ hD1
    have hC2 := sp1 _ _ hC1
    have o2 : Off D C H (upd H1 p (.lst [])) := o1.trans (Off.same sp1)
    generalize upd H1 p (.lst []) = H2 at hD2 hC2 o2 ⊢
    have fin : ∀ (H3 : Hp) (js' : List Int), H3 D = some (.dK (deckKv C m (t + 1))) → H3 C = some (.lst (js'.map V.int)) → js'.length ≤ 100 → Off D C H H3 → ∀ r : Nat, r < b → Q (.int (r : Nat)) H3 :=
      fun H3 js' h1 h2 h3 h4 r hr => q H3 r hr ⟨m, t + 1, js', h1, h2, h3, by omega⟩ h4
    rcases List.eq_nil_or_concat js with rfl | ⟨js', j, rfl⟩
    · refine ifF rfl ?_
      have hDx := hD2
      have kq := fin H2 [] hD2 hC2 (by decide) o2
      refine ⟨_, rfl, _, _, rfl, rfl, (show (2147483549 : Int) ≠ 0 by decide), _, _, rfl, rfl, Or.inr (by decide), _, rfl, D, _, rfl, gT hDx, _, _, rfl, rfl, Or.inl ⟨_, rfl, _, _, rfl, rfl, (show (2147483647 : Int) ≠ 0 by decide), ?_⟩⟩
      refine ⟨_, rfl, _, rfl, _, _, rfl, rfl, Or.inl ?_, _, rfl, D, _, rfl, gT hDx, _, _, rfl, rfl, Or.inl (by decide), _, _, rfl, rfl, _, _, rfl, rfl, Or.inl ⟨_, rfl, _, _, rfl, rfl, (show (2147483579 : Int) ≠ 0 by decide), ?_⟩⟩
      · exact bound_mod _
      · refine ⟨_, rfl, _, _, rfl, rfl, Or.inr (by decide), Or.inl ⟨_, rfl, _, _, rfl, rfl, (show (2147483629 : Int) ≠ 0 by decide), _, _, rfl, rfl, ⟨by decide, by decide⟩, _, rfl, _, _, rfl, rfl, (show ((b : Nat) : Int) ≠ 0 by omega), ?_⟩⟩
        exact mod_fin hb0 _ kq
    · rw [List.concat_eq_append] at *
      refine ifT (by cases js' <;> rfl) ?_
      have hlast : ((js' ++ [j]).map V.int)[((js' ++ [j]).map V.int).length - 1]? = some (.int j) := by simp
      have hdrop : ((js' ++ [j]).map V.int).dropLast = js'.map V.int := by simp
      refine ⟨_, rfl, D, _, rfl, gC hD2, Or.inl ⟨rfl, _, Or.inl (Or.inl hC2)⟩, C, _, _, rfl, rfl, hC2, hlast, ?_⟩
      rw [hdrop]
      have hD3 : upd H2 C (.lst (js'.map V.int)) D = some (.dK (deckKv C m (t + 1))) := (upd_ne (Ne.symm ne)).trans hD2
      have hC3 : upd H2 C (.lst (js'.map V.int)) C = some (.lst (js'.map V.int)) := upd_same
      have o3 : Off D C H (upd H2 C (.lst (js'.map V.int))) := o2.trans (fun x o h1 h2 h => (upd_ne h2).trans h)
      generalize upd H2 C (.lst (js'.map V.int)) = H3 at hD3 hC3 o3 ⊢
      have hl' : js'.length + 1 ≤ 100 := by simpa using hjs
      refine ⟨_, rfl, _, _, rfl, rfl, ⟨by decide, by decide, by decide⟩, _, _, rfl, rfl, _, rfl, ite2 (fun hc => ?_) (fun hc => ?_)⟩
      · have hj : (10 : Int) ^ 18 ≤ j := of_decide_eq_true hc
        refine ⟨_, rfl, D, _, rfl, gC hD3, Or.inl ⟨rfl, _, Or.inl (Or.inl hC3)⟩, _, rfl, _, rfl, _, _, rfl, rfl, ⟨by omega, by omega⟩, C, _, _, rfl, rfl, hC3, sz_lt (by rw [List.length_map]; omega), ?_⟩
        have hD4 : upd H3 C (.lst (js'.map V.int ++ [.int (j.fdiv (b : Nat))])) D = some (.dK (deckKv C m (t + 1))) := (upd_ne (Ne.symm ne)).trans hD3
        have hC4 : upd H3 C (.lst (js'.map V.int ++ [.int (j.fdiv (b : Nat))])) C = some (.lst ((js' ++ [j.fdiv (b : Nat)]).map V.int)) := upd_same.trans (by rw [List.map_append]; rfl)
        have o4 : Off D C H (upd H3 C (.lst (js'.map V.int ++ [.int (j.fdiv (b : Nat))]))) := o3.trans (fun x o h1 h2 h => (upd_ne h2).trans h)
        have kq := fin _ _ hD4 hC4 (by rw [List.length_append]; exact hl') o4
        refine ⟨_, rfl, Or.inl ⟨_, rfl, _, rfl, _, _, rfl, rfl, (show ((b : Nat) : Int) ≠ 0 by omega), ?_⟩⟩
        exact mod_fin hb0 _ kq
      · refine ⟨_, rfl, _, rfl, Or.inl ⟨_, rfl, _, _, rfl, rfl, (show (2147483563 : Int) ≠ 0 by decide), _, _, rfl, rfl, ?_⟩⟩
        have hDx := hD3
        have kq := fin H3 js' hD3 hC3 (by omega) o3
        refine ⟨_, rfl, _, _, rfl, rfl, (show (2147483549 : Int) ≠ 0 by decide), _, _, rfl, rfl, Or.inr (by decide), _, rfl, D, _, rfl, gT hDx, _, _, rfl, rfl, Or.inl ⟨_, rfl, _, _, rfl, rfl, (show (2147483647 : Int) ≠ 0 by decide), ?_⟩⟩
        refine ⟨_, rfl, _, rfl, _, _, rfl, rfl, Or.inl ?_, _, rfl, D, _, rfl, gT hDx, _, _, rfl, rfl, Or.inl (by decide), _, _, rfl, rfl, _, _, rfl, rfl, Or.inl ⟨_, rfl, _, _, rfl, rfl, (show (2147483579 : Int) ≠ 0 by decide), ?_⟩⟩
        · exact bound_mod _
        · refine ⟨_, rfl, _, _, rfl, rfl, Or.inr (by decide), Or.inl ⟨_, rfl, _, _, rfl, rfl, (show (2147483629 : Int) ≠ 0 by decide), _, _, rfl, rfl, ⟨by decide, by decide⟩, _, rfl, _, _, rfl, rfl, (show ((b : Nat) : Int) ≠ 0 by omega), ?_⟩⟩
          exact mod_fin hb0 _ kq
end
end Lw

namespace Lw
open PySem PySem.Spec PyProof.Rows L2 Mq
open SX (S)
def spDeck (K : PySem.W.Frag) : Sp := fun vs H Q _ => ∃ (a : Addr) (ns : List Int), vs = [.ref a] ∧ SqL K H a (ns.map V.int) ∧ ns.length ≤ 63 ∧
  ∀ H' D C, Same H H' → DeckAt D C 0 H' → Q (.ref D) H'
def spPick : Sp := fun vs H Q _ => ∃ (D C : Addr) (T : Nat) (x : V), vs = [.ref D, x] ∧ DeckAt D C T H ∧ T ≤ 1000000 ∧
  ((∃ l : List Nat, x = .str (S l) ∧ 0 < l.length ∧ l.length ≤ 1000 ∧ ∀ H' c, c ∈ l → DeckAt D C (T + 1) H' → Off D C H H' → Q (.str (S [c])) H') ∨
   ∃ (p : Addr) (xs : List V), x = .ref p ∧ H p = some (.lst xs) ∧ p ≠ C ∧ 0 < xs.length ∧ xs.length ≤ 1000 ∧ ∀ H' v, v ∈ xs → DeckAt D C (T + 1) H' → Off D C H H' → Q v H')
section
variable {P : Program} {w : World} {K : PySem.W.Frag} {mg : Str → Option Value} {base : Heap}
theorem ok_deck {f : Addr} {fd : FuncData} (F : Fun K "_law_deck" "_law_deck" s__law_deck f fd) (B : Blt mg) :
    FnOk P w K mg base CX0 1 f fd ["_law_script"] (spDeck K) := by
  refine F.ok sc__law_deck (fun vs H Q E h => ?_) (fun cdv A outer s H vs Q E hr h => ?_)
  · obtain ⟨_, _, rfl, _⟩ := h
    rfl
  · obtain ⟨a, ns, rfl, ha, hn, q⟩ := h
    refine ⟨_, (pss_cons (ps_par (i := 1) (j := 2) rfl sc__law_deck.nd rfl rfl (by decide) rfl rfl (pa_cons (pe_callTy call_list_of (by rfl) B.list (by decide +kernel) (pa_cons (pe_slice sl_list (pv 0) po_none (po_some pe_int)) pa_nil)) (pa_cons pe_int pa_nil)) (by rfl))
      (pss_cons (ps_for PassesOwn.never rfl (pi_list (pv 1)) (pg_name (i := 3) sc__law_deck.nd rfl (Or.inl rfl))
        (pss_one (ps_set (i := 2) sc__law_deck.nd rfl (Or.inl rfl) (pe_op op_modN (pe_callTy call_int1 (by rfl) B.int (by decide +kernel) (pa_cons (pe_op op_add (pe_op op_add (pe_op op_mul (pv 2) pe_int) (pe_op op_modN (pe_callTy call_int1 (by rfl) B.int (by decide +kernel) (pa_cons (pv 3) pa_nil)) pe_int)) pe_int) pa_nil)) pe_int))))
      (pss_one (ps_ret (pe_disp (pps_cons pe_str (pe_revL (pv 1)) (pps_cons pe_str (pv 2) (pps_cons pe_str pe_int pps_nil))) (by rfl) (by rfl) (fun z => by cases z) (by decide)))))), ?_⟩
    obtain ⟨ms, hms, hml⟩ : ∃ ms : List Int, cutV (ns.map V.int) none (some 63) = ms.map V.int ∧ ms.length ≤ 63 := by
      refine ⟨(ns.drop (HT.sIx (ns.map V.int).length 0 none)).take (HT.sIx (ns.map V.int).length (ns.map V.int).length (some 63) - HT.sIx (ns.map V.int).length 0 none), ?_, ?_⟩
      · unfold cutV
        rw [← List.map_drop, ← List.map_take]
      · rw [List.length_take, List.length_drop]
        omega
    refine ⟨_, rfl, 63, rfl, a, _, rfl, ha, fun p1 hp1 => ⟨p1, _, rfl, Or.inl (SqL.of upd_same), fun c hc => ?_⟩⟩
    rw [hms] at hc ⊢
    have s1 : Same H (upd H p1 (.lst (ms.map V.int))) := same_new hp1
    generalize upd H p1 (.lst (ms.map V.int)) = H1 at s1 hc ⊢
    have s2 : Same H (upd H1 c (.lst (ms.map V.int))) := s1.trans (same_new hc)
    have hC : upd H1 c (.lst (ms.map V.int)) c = some (.lst (ms.map V.int)) := upd_same
    generalize upd H1 c (.lst (ms.map V.int)) = H2 at s2 hC ⊢
    refine ⟨_, _, rfl, ?_⟩
    refine ⟨_, rfl, c, rfl, ⟨_, SqL.of hC⟩, ?_⟩
    refine for_list (xs := ms.map V.int) (fun i σ H' => H' = H2 ∧ ∃ (m : Int) (o : Option V), σ = [some (.ref a), some (.ref c), some (.int m), o]) ⟨rfl, _, _, rfl⟩ (fun i σ H' _ p => by rw [p.1]; exact SqL.of hC) ?_ ?_
    · rintro i x σ H' hx ⟨rfl, m, o, rfl⟩
      obtain ⟨j, rfl⟩ : ∃ j, x = .int j := by
        rw [List.getElem?_map] at hx
        cases h : ms[i]? with
        | none => rw [h] at hx; cases hx
        | some j => rw [h] at hx; cases hx; exact ⟨j, rfl⟩
      refine ⟨_, rfl, _, _, rfl, rfl, Or.inr (by decide), _, rfl, Or.inl ⟨_, rfl, _, _, rfl, rfl, (show (2147483587 : Int) ≠ 0 by decide), _, _, rfl, rfl, _, _, rfl, rfl, Or.inl ⟨_, rfl, _, _, rfl, rfl, (show (2147483629 : Int) ≠ 0 by decide), rfl, _, _, rfl⟩⟩⟩
    · rintro σ H' ⟨rfl, m, o, rfl⟩
      refine fun p hp => ?_
      have s3 : Same H' (upd H' p (.dK [])) := same_new hp
      refine ⟨_, rfl, c, _, rfl, SqL.of (s3 _ _ hC), fun p2 hp2 => ⟨_, rfl, ?_⟩⟩
      have s4 : Same H' (upd (upd H' p (.dK [])) p2 (.lst (ms.map V.int).reverse)) := s3.trans (same_new hp2)
      have hp4 : upd (upd H' p (.dK [])) p2 (.lst (ms.map V.int).reverse) p = some (.dK []) := (same_new hp2) _ _ upd_same
      refine ⟨hp4, deckKv p2 m 0, rfl, by show 3 ≤ 15; decide, ?_⟩
      have ne : p2 ≠ p := by
        rintro rfl
        rw [upd_same] at hp2
        cases hp2
      refine q _ p p2 ?_ ⟨m, 0, ms.reverse, upd_same.trans ?_, ?_, by rw [List.length_reverse]; omega, Nat.le_refl _⟩
      · intro b o e
        have e2 := s2 b o e
        rw [upd_ne (ne_of_none e2 hp)]
        exact s4 b o e2
      · rfl
      · rw [upd_ne ne, upd_same, List.map_reverse]
end
end Lw

namespace Lw
open PySem PySem.Spec PyProof.Rows L2 Mq
open SX (S)
section
variable {P : Program} {w : World} {K : PySem.W.Frag} {mg : Str → Option Value} {base : Heap}
theorem ok_pick {f fD : Addr} {fd fdD : FuncData} (F : Fun K "_law_pick" "_law_pick" s__law_pick f fd) (B : Blt mg)
    (FD : Fun K "_law_draw" "_law_draw" s__law_draw fD fdD) (gD : mg "_law_draw" = some (.ref fD)) (bD : Binds K fdD ["_law_deck_here", "_law_below"] []) :
    FnOk P w K mg base CX0 2 f fd ["_law_deck_here", "_law_some"] spPick := by
  have GD : FnOk P w K mg base CX0 1 fD fdD ["_law_deck_here", "_law_below"] spDraw := ok_draw FD B
  refine F.ok sc__law_pick (fun vs H Q E h => ?_) (fun cdv A outer s H vs Q E hr h => ?_)
  · obtain ⟨_, _, _, _, rfl, _⟩ := h
    rfl
  · obtain ⟨D, C, T, x, rfl, hdk, hT, h⟩ := h
    refine ⟨_, (pss_one (ps_ret (pe_ix ix_seq (pv 1) (pe_call GD (hr.mono (by decide)) (by rfl) gD FD.kp bD .nil pass0 (pa_cons (pv 0) (pa_cons (pe_callB call_len (by rfl) B.len (by decide +kernel) (pa_cons (pv 1) pa_nil)) pa_nil))) (fun _ _ => rfl)))), ?_⟩
    rcases h with ⟨l, rfl, h0, h1, q⟩ | ⟨p, xs, rfl, hp, hpC, h0, h1, q⟩
    · refine ⟨_, rfl, _, rfl, _, rfl, _, _, rfl, len_S (by omega), D, C, T, l.length, rfl, hdk, hT, h0, h1, fun H' r hr dk off => ?_⟩
      refine Or.inr (Or.inr ⟨S l, _, l.getD r 0, rfl, rfl, sz_le (by rw [SX.S_len]; omega), at_get hr, ?_⟩)
      refine q H' _ ?_ dk off
      rw [List.getD_eq_getElem?_getD, List.getElem?_eq_getElem hr]
      exact List.getElem_mem hr
    · refine ⟨_, rfl, _, rfl, _, rfl, _, _, rfl, Or.inl ⟨xs, SqL.of hp, rfl⟩, D, C, T, xs.length, rfl, hdk, hT, h0, h1, fun H' r hr dk off => ?_⟩
      have hpD : p ≠ D := by
        rintro rfl
        obtain ⟨_, _, _, e, _⟩ := hdk.ex
        rw [hp] at e
        cases e
      have hp' := off p _ hpD hpC hp
      refine Or.inl ⟨p, xs, _, xs[r], rfl, rfl, SqL.of hp', atI_nat (List.getElem?_eq_getElem hr), q H' _ (List.getElem_mem hr) dk off⟩
end
end Lw

namespace Mq
open PySem PySem.Spec PyProof.Rows L2
/-- a comprehension without a test over what w walks -/
theorem lc_yes {J : It} {n : Nat} {G : Hp → Prop} {Y : Nat → Hp → V → Hp → Prop} (w : Walk J n G Y) {g : TG} {te : TE} {vs : List Nat} {σ : L2.St} {H1 : Hp} {D : Addr} {Qd : Hp → Prop} (Pv : Nat → Hp → Prop)
    (h0 : Pv 0 (upd H1 D (.lst []))) (hG : ∀ i H, i ≤ n → Pv i H → G H)
    (hs : ∀ i x H H', i < n → Pv i H → Y i H x H' → g x (wipe σ vs) H' fun σ2 H2 => wipe σ2 vs = wipe σ vs ∧ te σ2 H2 fun y H4 => ∃ acc, H4 D = some (.lst acc) ∧ acc.length < sizeLine ∧ Pv (i + 1) (upd H4 D (.lst (acc ++ [y]))))
    (hd : ∀ H, Pv n H → Qd H) :
    ∃ W : Nat → Nat → Hp → Prop, (∃ m, W 0 m (upd H1 D (.lst []))) ∧ ∀ i m H, W i m H →
      (J.stop i H ∧ Qd H) ∨ (J.go i H ∧ ∃ Nx : Hp → Prop, (∀ H', Nx H' → ∃ m', m' < m ∧ W (i + 1) m' H') ∧ ∀ x H', J.yld i H x H' → g x (wipe σ vs) H' fun σ2 H2 => wipe σ2 vs = wipe σ vs ∧ tYes σ2 H2 fun b H3 =>
        if b = true then te σ2 H3 fun y H4 => ∃ acc, H4 D = some (.lst acc) ∧ acc.length < sizeLine ∧ Nx (upd H4 D (.lst (acc ++ [y]))) else Nx H3) :=
  lc_it (tt := tYes) w Pv h0 hG hs hd
end Mq

namespace Lw
open PySem PySem.Spec PyProof.Rows L2 Mq
open SX (S)
def spText : Sp := fun vs H Q _ => ∃ (D C : Addr) (T most : Nat) (sg : List Nat), vs = [.ref D, .str (S sg), .int (most : Nat)] ∧ DeckAt D C T H ∧ T ≤ 900000 ∧
  0 < sg.length ∧ sg.length ≤ 1000 ∧ most ≤ 100 ∧ ∀ H' l, (∀ c ∈ l, c ∈ sg) → l.length ≤ most → DeckAt D C (T + 1 + most) H' → Off D C H H' → Q (.str (S l)) H'
theorem joinL_one : ∀ l : List Nat, TL.joinL [] (l.map fun c => [c]) = l
  | [] => rfl
  | [c] => rfl
  | c :: d :: l => by
    show [c] ++ ([] ++ TL.joinL [] ((d :: l).map fun c => [c])) = _
    rw [joinL_one (d :: l)]
    rfl
section
variable {P : Program} {w : World} {K : PySem.W.Frag} {mg : Str → Option Value} {base : Heap}
theorem ok_text {f fD fP : Addr} {fd fdD fdP : FuncData} (F : Fun K "_law_word" "_law_word" s__law_word f fd) (B : Blt mg)
    (FD : Fun K "_law_draw" "_law_draw" s__law_draw fD fdD) (gD : mg "_law_draw" = some (.ref fD)) (bD : Binds K fdD ["_law_deck_here", "_law_below"] [])
    (FP : Fun K "_law_pick" "_law_pick" s__law_pick fP fdP) (gP : mg "_law_pick" = some (.ref fP)) (bP : Binds K fdP ["_law_deck_here", "_law_some"] []) :
    FnOk P w K mg base CX0 3 f fd ["_law_deck_here", "_law_signs", "_law_most"] spText := by
  have GD : FnOk P w K mg base CX0 1 fD fdD ["_law_deck_here", "_law_below"] spDraw := ok_draw FD B
  have GP : FnOk P w K mg base CX0 2 fP fdP ["_law_deck_here", "_law_some"] spPick := ok_pick FP B FD gD bD
  refine F.ok sc__law_word (fun vs H Q E h => ?_) (fun cdv A outer s H vs Q E hr h => ?_)
  · obtain ⟨_, _, _, _, _, rfl, _⟩ := h
    rfl
  · obtain ⟨D, C, T, most, sg, rfl, hdk, hT, h0, h1, hm, q⟩ := h
    refine ⟨_, (pss_one (ps_ret (pe_join pe_str (pe_lc (own := [("_law_k", 3)]) (g := gName 3) (tt := tYes) rfl sc__law_word.nd (pi_range1 (by rfl) B.range (pa_cons (pe_call GD (hr.mono (by decide)) (by rfl) gD FD.kp bD .nil pass0 (pa_cons (pv 0) (pa_cons (pe_op op_add (pv 2) pe_int) pa_nil))) pa_nil)) (blkOk_by (own := [("_law_k", 3)]) (N := ["_law_deck_here", "_law_signs", "_law_most", "_law_k"]) (sc := defScope s__law_word) (by decide +kernel)) (fun _ _ _ _ _ => pg_name (i := 3) sc__law_word.nd rfl (Or.inl rfl)) (fun _ _ _ _ _ => pts_nil)
      (fun _ _ _ _ _ => (pe_call GP (hr.mono (by decide)) (by rfl) gP FP.kp bP .nil pass0 (pa_cons (pv 0) (pa_cons (pv 1) pa_nil)))))))), ?_⟩
    refine ⟨⟨_, rfl⟩, _, rfl, _, rfl, _, _, rfl, rfl, D, C, T, most + 1, rfl, hdk, by omega, by omega, by omega, fun H1 r hr1 dk1 off1 => ?_⟩
    refine ⟨_, rfl, by omega, by omega, fun L hL => ?_⟩
    have hLD : L ≠ D := by
      rintro rfl
      obtain ⟨_, _, _, e, _⟩ := dk1.ex
      rw [hL] at e
      cases e
    have hLC : L ≠ C := by
      rintro rfl
      obtain ⟨_, _, _, _, e, _⟩ := dk1.ex
      rw [hL] at e
      cases e
    refine lc_yes (walk_rng (n := r)) (fun i H' => DeckAt D C (T + 1 + i) H' ∧ Off D C H1 H' ∧ ∃ l : List Nat, l.length = i ∧ (∀ c ∈ l, c ∈ sg) ∧ H' L = some (.lst (l.map fun c => .str (S [c])))) ⟨?_, Off.same (same_new hL), [], rfl, (fun _ h => by cases h), upd_same⟩ (fun _ _ _ _ => trivial) ?_ ?_
    · exact (dk1.same (same_new hL))
    · rintro i x H2 H3 hi ⟨dk2, off2, l, hl, hc, hL2⟩ ⟨rfl, rfl⟩
      refine ⟨rfl, ?_⟩
      refine ⟨_, rfl, _, rfl, D, C, T + 1 + i, _, rfl, dk2, by omega, Or.inl ⟨sg, rfl, h0, h1, fun H4 c hcs dk4 off4 => ?_⟩⟩
      refine ⟨_, off4 L _ hLD hLC hL2, sz_lt (by rw [List.length_map]; omega), ?_, ?_, l ++ [c], by rw [List.length_append, hl]; rfl, ?_, ?_⟩
      · obtain ⟨m, t, js, a1, a2, a3, a4⟩ := dk4.ex
        exact ⟨m, t, js, (upd_ne (Ne.symm hLD)).trans a1, (upd_ne (Ne.symm hLC)).trans a2, a3, by omega⟩
      · intro b o e1 e2 e3
        rw [upd_ne (ne_of_none e3 hL)]
        exact (off2.trans off4) b o e1 e2 e3
      · intro d hd
        rcases List.mem_append.mp hd with hd | hd
        · exact hc d hd
        · rw [List.mem_singleton.mp hd]
          exact hcs
      · rw [upd_same, List.map_append]
        rfl
    · rintro H2 ⟨dk2, off2, l, hl, hc, hL2⟩
      refine ⟨S [], L, (l.map fun c => [c]).map S, rfl, rfl, Or.inl (SqL.of (hL2.trans ?_)), ?_, ?_⟩
      · rw [List.map_map, List.map_map]
        rfl
      · rw [show (((l.map fun c => [c]).map S).map (·.length)).sum = l.length from ?_]
        · rw [SX.S_len, List.length_map, List.length_map]
          show l.length + l.length * 0 ≤ _
          omega
        · clear hL2 hl hc
          induction l with
          | nil => rfl
          | cons c l ih =>
            rw [List.map_cons, List.map_cons, List.map_cons, List.sum_cons, ih, SX.S_len]
            show 1 + l.length = l.length + 1
            omega
      · rw [SX.join_S, joinL_one]
        exact q H2 l hc (by omega) (dk2.mono (by omega)) (off1.trans off2)
end
end Lw

namespace Lw
open PySem PySem.Spec PyProof.Rows L2 Mq
open SX (S)
theorem PT_imp {X : Cx} {e : Expr} {t t' : TT} (h : PT X e t) (i : ∀ σ H Q, t' σ H Q → t σ H Q) : PT X e t' := ⟨fun pins s σ H Q I q => h.run pins s σ H Q I (i σ H Q q)⟩
/-- tuples stay -/
def KpT (K : PySem.W.Frag) (H H' : Hp) : Prop := ∀ a xs, SqT K H a xs → SqT K H' a xs
theorem KpT.trans {K : PySem.W.Frag} {H H' H'' : Hp} (a : KpT K H H') (b : KpT K H' H'') : KpT K H H'' := fun x y h => b x y (a x y h)
theorem KpT.off {K : PySem.W.Frag} {D C : Addr} {T : Nat} {H H' : Hp} (f : Off D C H H') (k : DeckAt D C T H) : KpT K H H' := fun _ _ h => f.tup k h
theorem KpT.same {K : PySem.W.Frag} {H H' : Hp} (e : Same H H') : KpT K H H' := fun _ _ h => Same.tup e h
theorem KpT.lst {K : PySem.W.Frag} {H : Hp} {L : Addr} {xs ys : List V} (h : H L = some (.lst xs)) : KpT K H (upd H L (.lst ys)) := by
  intro a zs hz
  have ne : ∀ {o : HO}, H a = some o → (∀ xs, o ≠ .lst xs) → upd H L (.lst ys) a = some o := by
    intro o e n
    by_cases q : a = L
    · subst q
      rw [h] at e
      cases e
      exact (n _ rfl).elim
    · exact (upd_ne q).trans e
  rcases hz with (hz | ⟨o, hz⟩) | hz
  · exact Or.inl (Or.inl (ne hz fun _ z => nomatch z))
  · exact Or.inl (Or.inr ⟨o, ne hz fun _ z => nomatch z⟩)
  · exact Or.inr hz
theorem NdAt.kp {K : PySem.W.Frag} {H H' : Hp} {v : V} {n : Nd} (h : NdAt K H v n) (e : KpT K H H') : NdAt K H' v n := let ⟨a, x, y⟩ := h; ⟨a, x, e _ _ y⟩
theorem NdAll.kp {K : PySem.W.Frag} {H H' : Hp} (e : KpT K H H') : ∀ {vs : List V} {ns : List Nd}, NdAll K H vs ns → NdAll K H' vs ns
  | _, _, .nil => .nil
  | _, _, .cons a b => .cons (a.kp e) (NdAll.kp e b)
theorem NodesAt.kp {K : PySem.W.Frag} {H H' : Hp} {a : Addr} {ns : List Nd} (h : NodesAt K H a ns) (e : KpT K H H') : NodesAt K H' a ns := let ⟨vs, x, y⟩ := h; ⟨vs, e _ _ x, y.kp e⟩
def tNd : TT := fun σ H Q => ∃ way k : Int, σ[6]? = some (some (.int way)) ∧ σ[5]? = some (some (.int k)) ∧ Q (decide (way = 0 ∨ (1 < way ∧ way < 4 ∧ 0 < k))) H
def spNodes (K : PySem.W.Frag) : Sp := fun vs H Q _ => ∃ (D C : Addr) (T top : Nat) (sg : List Nat), vs = [.ref D, .str (S sg), .int (top : Nat)] ∧ DeckAt D C T H ∧ T ≤ 100000 ∧ SgOk sg ∧ 0 < top ∧ top ≤ 90 ∧
  ∀ H' a ns, NodesAt K H' a ns → NodesOk sg ns → DeckAt D C (T + 5000) H' → Off D C H H' → Q (.ref a) H'
/-- the nodes that stand in the list at L -/
structure Acc (K : PySem.W.Frag) (D C L : Addr) (H : Hp) (sg : List Nat) (m T k : Nat) (H' : Hp) : Prop where
  dk : DeckAt D C T H'
  off : Off D C H H'
  ex : ∃ vs ns, H' L = some (.lst vs) ∧ NdAll K H' vs ns ∧ ns.length = k ∧ ∀ n ∈ ns, ndOk sg m n
theorem Acc.offs {K : PySem.W.Frag} {D C L : Addr} {H H1 H2 : Hp} {sg : List Nat} {m T T' k : Nat} (a : Acc K D C L H sg m T k H1) (f : Off D C H1 H2) (dk : DeckAt D C T' H2) (h1 : L ≠ D) (h2 : L ≠ C) : Acc K D C L H sg m T' k H2 := by
  obtain ⟨vs, ns, x, y, z, t⟩ := a.ex
  exact ⟨dk, a.off.trans f, vs, ns, f L _ h1 h2 x, y.kp (KpT.off f a.dk), z, t⟩
theorem Acc.same {K : PySem.W.Frag} {D C L : Addr} {H H1 H2 : Hp} {sg : List Nat} {m T k : Nat} (a : Acc K D C L H sg m T k H1) (e : Same H1 H2) : Acc K D C L H sg m T k H2 := by
  obtain ⟨vs, ns, x, y, z, t⟩ := a.ex
  exact ⟨a.dk.same e, a.off.trans (Off.same e), vs, ns, e _ _ x, y.same e, z, t⟩
theorem Acc.other {K : PySem.W.Frag} {D C L q : Addr} {H H1 : Hp} {sg : List Nat} {m T k : Nat} {ys zs : List V} (a : Acc K D C L H sg m T k H1) (h : H1 q = some (.lst ys)) (hq : H q = none) (h1 : q ≠ D) (h2 : q ≠ C) (h3 : q ≠ L) :
    Acc K D C L H sg m T k (upd H1 q (.lst zs)) := by
  obtain ⟨vs, ns, x, y, z, t⟩ := a.ex
  refine ⟨?_, ?_, vs, ns, (upd_ne (Ne.symm h3)).trans x, y.kp (KpT.lst h), z, t⟩
  · obtain ⟨m, t, js, a1, a2, a3, a4⟩ := a.dk.ex
    exact ⟨m, t, js, (upd_ne (Ne.symm h1)).trans a1, (upd_ne (Ne.symm h2)).trans a2, a3, a4⟩
  · intro b o e1 e2 e3
    rw [upd_ne (ne_of_none e3 hq)]
    exact a.off b o e1 e2 e3
theorem Acc.new {K : PySem.W.Frag} {D C L q : Addr} {H H1 : Hp} {sg : List Nat} {m T k : Nat} (a : Acc K D C L H sg m T k H1) (h : H1 q = none) : q ≠ D ∧ q ≠ C ∧ q ≠ L ∧ H q = none := by
  obtain ⟨vs, ns, x, _⟩ := a.ex
  obtain ⟨_, _, _, e1, e2, _⟩ := a.dk.ex
  have n1 : q ≠ D := by
    rintro rfl
    rw [h] at e1
    cases e1
  have n2 : q ≠ C := by
    rintro rfl
    rw [h] at e2
    cases e2
  refine ⟨n1, n2, ?_, ?_⟩
  · rintro rfl
    rw [h] at x
    cases x
  · cases q0 : H q with
    | none => rfl
    | some o =>
      have z := a.off q o n1 n2 q0
      rw [h] at z
      cases z
theorem Acc.mono {K : PySem.W.Frag} {D C L : Addr} {H H1 : Hp} {sg : List Nat} {m T T' k : Nat} (a : Acc K D C L H sg m T k H1) (h : T ≤ T') : Acc K D C L H sg m T' k H1 := ⟨a.dk.mono h, a.off, a.ex⟩
theorem Acc.push {K : PySem.W.Frag} {D C L : Addr} {H H1 : Hp} {sg : List Nat} {m T k : Nat} {p : Addr} {n : Nd} {vs : List V} (a : Acc K D C L H sg m T k H1) (hL : H1 L = some (.lst vs)) (hHL : H L = none)
    (hp : SqT K H1 p (ndV n)) (hn : ndOk sg m n) (h1 : L ≠ D) (h2 : L ≠ C) : Acc K D C L H sg m T (k + 1) (upd H1 L (.lst (vs ++ [.ref p]))) := by
  obtain ⟨vs', ns, x, y, z, t⟩ := a.ex
  rw [hL] at x
  cases x
  have kp : KpT K H1 (upd H1 L (.lst (vs ++ [.ref p]))) := KpT.lst hL
  refine ⟨?_, ?_, vs ++ [.ref p], ns ++ [n], upd_same, NdAll.snoc ⟨p, rfl, kp _ _ hp⟩ (y.kp kp), by rw [List.length_append, z]; rfl, ?_⟩
  · obtain ⟨m, t, js, a1, a2, a3, a4⟩ := a.dk.ex
    exact ⟨m, t, js, (upd_ne (Ne.symm h1)).trans a1, (upd_ne (Ne.symm h2)).trans a2, a3, a4⟩
  · intro b o e1 e2 e3
    rw [upd_ne (ne_of_none e3 hHL)]
    exact a.off b o e1 e2 e3
  · intro x hx
    rcases List.mem_append.mp hx with hx | hx
    · exact t x hx
    · rw [List.mem_singleton.mp hx]
      exact hn
section
variable {P : Program} {w : World} {K : PySem.W.Frag} {mg : Str → Option Value} {base : Heap}
theorem ok_nodes {f fD fP fT : Addr} {fd fdD fdP fdT : FuncData} (F : Fun K "_law_nodes" "_law_nodes" s__law_nodes f fd) (B : Blt mg)
    (FD : Fun K "_law_draw" "_law_draw" s__law_draw fD fdD) (gD : mg "_law_draw" = some (.ref fD)) (bD : Binds K fdD ["_law_deck_here", "_law_below"] [])
    (FP : Fun K "_law_pick" "_law_pick" s__law_pick fP fdP) (gP : mg "_law_pick" = some (.ref fP)) (bP : Binds K fdP ["_law_deck_here", "_law_some"] [])
    (FT : Fun K "_law_word" "_law_word" s__law_word fT fdT) (gT : mg "_law_word" = some (.ref fT)) (bT : Binds K fdT ["_law_deck_here", "_law_signs", "_law_most"] []) :
    FnOk P w K mg base CX0 4 f fd ["_law_deck_here", "_law_signs", "_law_top"] (spNodes K) := by
  have GD : FnOk P w K mg base CX0 1 fD fdD ["_law_deck_here", "_law_below"] spDraw := ok_draw FD B
  have GP : FnOk P w K mg base CX0 2 fP fdP ["_law_deck_here", "_law_some"] spPick := ok_pick FP B FD gD bD
  have GT : FnOk P w K mg base CX0 3 fT fdT ["_law_deck_here", "_law_signs", "_law_most"] spText := ok_text FT B FD gD bD FP gP bP
  refine F.ok sc__law_nodes (fun vs H Q E h => ?_) (fun cdv A outer s H vs Q E hr h => ?_)
  · obtain ⟨_, _, _, _, _, rfl, _⟩ := h
    rfl
  · obtain ⟨D, C, T, top, sg, rfl, hdk, hT, hs, h0, h1, q⟩ := h
    refine ⟨_, (pss_cons (ps_asg (pe_tup (pa_cons (pe_op op_add pe_int (pe_call GD (hr.mono (by decide)) (by rfl) gD FD.kp bD .nil pass0 (pa_cons (pv 0) (pa_cons (pv 2) pa_nil)))) (pa_cons (pe_ls pa_nil) pa_nil))) (pg_tup rfl (pgs_cons (pg_name (i := 3) sc__law_nodes.nd rfl (Or.inr rfl)) (pgs_cons (pg_name (i := 4) sc__law_nodes.nd rfl (Or.inl rfl)) pgs_nil))))
      (pss_cons (ps_for PassesOwn.never rfl (pi_range1 (by rfl) B.range (pa_cons (pv 3) pa_nil)) (pg_name (i := 5) sc__law_nodes.nd rfl (Or.inl rfl))
        (pss_cons (ps_set (i := 6) sc__law_nodes.nd rfl (Or.inl rfl) (pe_call GD (hr.mono (by decide)) (by rfl) gD FD.kp bD .nil pass0 (pa_cons (pv 0) (pa_cons pe_int pa_nil))))
        (pss_one (ps_if (PT_imp (t' := tNd) (PW.pt (pw_or (pt_cmpR op_eq (pv 6) pe_int (nomark _)) (pw_or1 (PW.pt (pw_and (pt_cmpR op_gt (pv 6) pe_int (nomark _)) (pw_and (pt_cmpR op_lt (pv 6) pe_int (nomark _)) (pw_and1 (pt_cmpR op_gt (pv 5) pe_int (nomark _))))))))) ?_)
          (pss_one (ps_expr (pe_bm PySem.F.plainAttrs_list PySem.F.slot_list_append PySem.F.type_list_append mt_append (pv 4) (pa_cons (pe_ifExp (pt_cmpR op_eq (pv 6) pe_int (nomark _)) (pe_tup (pa_cons pe_str pa_nil)) (pe_tup (pa_cons pe_str (pa_cons (pe_call GT (hr.mono (by decide)) (by rfl) gT FT.kp bT .nil pass0 (pa_cons (pv 0) (pa_cons (pv 1) (pa_cons pe_int pa_nil)))) pa_nil)))) pa_nil))))
          (pss_cons (ps_set (i := 7) sc__law_nodes.nd rfl (Or.inl rfl) (pe_call GP (hr.mono (by decide)) (by rfl) gP FP.kp bP .nil pass0 (pa_cons (pv 0) (pa_cons (pe_ls (pa_cons pe_non (pa_cons pe_str (pa_cons (pe_call GT (hr.mono (by decide)) (by rfl) gT FT.kp bT .nil pass0 (pa_cons (pv 0) (pa_cons (pv 1) (pa_cons pe_int pa_nil)))) pa_nil)))) pa_nil))))
          (pss_one (ps_expr (pe_bm PySem.F.plainAttrs_list PySem.F.slot_list_append PySem.F.type_list_append mt_append (pv 4) (pa_cons (pe_op op_catT (pe_tup (pa_cons pe_str (pa_cons (pv 7) pa_nil))) (pe_callTy call_tuple_of (by rfl) B.tuple (by decide +kernel) (pa_cons (pe_lc (own := [("_law_x", 8)]) (g := gName 8) (tt := tYes) rfl sc__law_nodes.nd (pi_str (pv 1)) (blkOk_by (own := [("_law_x", 8)]) (N := ["_law_deck_here", "_law_signs", "_law_top", "_law_size", "_law_found", "_law_k", "_law_way", "_law_bare", "_law_x"]) (sc := defScope s__law_nodes) (by decide +kernel)) (fun _ _ _ _ _ => pg_name (i := 8) sc__law_nodes.nd rfl (Or.inl rfl)) (fun _ _ _ _ _ => pts_nil)
            (fun _ _ _ _ _ => (pe_call GD (hr.mono (by decide)) (by rfl) gD FD.kp bD .nil pass0 (pa_cons (pv 0) (pa_cons (pv 3) pa_nil))))) pa_nil))) pa_nil)))))))))
      (pss_one (ps_ret (pe_callTy call_tuple_of (by rfl) B.tuple (by decide +kernel) (pa_cons (pv 4) pa_nil)))))), ?_⟩
    · intro σ H Q ⟨way, k, e6, e5, q⟩
      have z0 : decide (V.int way = V.int 0) = decide (way = 0) := by
        rw [dec_int]
        rfl
      refine ⟨_, e6, rfl, _, rfl, ?_⟩
      rw [z0]
      by_cases h : way = 0
      · rw [decide_eq_true h]
        rw [decide_eq_true (Or.inl h)] at q
        exact ifT rfl q
      · rw [decide_eq_false h]
        refine ifF rfl ⟨_, e6, _, _, rfl, rfl, _, rfl, ?_⟩
        by_cases h2 : (1 : Int) < way
        · refine ifT (decide_eq_true h2) ⟨_, e6, _, _, rfl, rfl, _, rfl, ?_⟩
          by_cases h3 : way < (4 : Int)
          · refine ifT (decide_eq_true h3) ⟨_, e5, _, _, rfl, rfl, _, rfl, ?_⟩
            have e : decide (way = 0 ∨ (1 < way ∧ way < 4 ∧ 0 < k)) = decide (0 < k) := decide_eq_decide.mpr ⟨fun z => (z.resolve_left h).2.2, fun z => Or.inr ⟨h2, h3, z⟩⟩
            rw [e] at q
            exact q
          · refine ifF (decide_eq_false h3) ?_
            rw [decide_eq_false (fun z => h3 (z.resolve_left h).2.1)] at q
            exact q
        · refine ifF (decide_eq_false h2) ?_
          rw [decide_eq_false (fun z => h2 (z.resolve_left h).1)] at q
          exact q
    have kp0 : ∀ {H1 H2 : Hp} {T : Nat}, Off D C H1 H2 → DeckAt D C T H1 → KpT K H1 H2 := fun f k => KpT.off f k
    refine ⟨_, rfl, _, rfl, D, C, T, top, rfl, hdk, by omega, h0, by omega, fun H1 r hr1 dk1 off1 => ?_⟩
    have e : (1 : Int) + (r : Nat) = ((r + 1 : Nat) : Int) := by omega
    refine ⟨_, _, rfl, rfl, sz_le (n := 0) (by decide), fun L hL _ => ⟨sz_le (n := 2) (by decide), fun tp htp => ?_⟩⟩
    refine ⟨tp, [.int (r + 1 : Nat), .ref L], rfl, Or.inl (Or.inl (upd_same.trans ?_)), rfl, _, _, rfl, _, _, rfl, rfl, ?_⟩
    · show some (HO.tup [V.int (1 + ((r : Nat) : Int)), V.ref L]) = _
      rw [e]
    have hLD : L ≠ D := by
      rintro rfl
      obtain ⟨_, _, _, e, _⟩ := dk1.ex
      rw [hL] at e
      cases e
    have hLC : L ≠ C := by
      rintro rfl
      obtain ⟨_, _, _, _, e, _⟩ := dk1.ex
      rw [hL] at e
      cases e
    have hHL : H L = none := by
      cases q0 : H L with
      | none => rfl
      | some o =>
        have z := off1 L o hLD hLC q0
        rw [hL] at z
        cases z
    have a0 : Acc K D C L H sg (r + 1) (T + 1) 0 (upd H1 L (.lst [])) := ⟨dk1.same (same_new hL), off1.trans (Off.same (same_new hL)), [], [], upd_same, .nil, rfl, (fun _ z => by cases z)⟩
    have a1 := a0.same (same_new (o := HO.tup [V.int (1 + ((r : Nat) : Int)), V.ref L]) htp)
    refine ⟨_, rfl, _, rfl, by omega, by omega, ?_⟩
    refine for_it (walk_rng (n := r + 1)) (fun k σ H' => Acc K D C L H sg (r + 1) (T + 1 + 40 * k) k H' ∧ ∃ o5 o6 o7 o8, σ = [some (.ref D), some (.str (S sg)), some (.int (top : Nat)), some (.int (r + 1 : Nat)), some (.ref L), o5, o6, o7, o8])
      ⟨a1, _, _, _, _, rfl⟩ (fun _ _ _ _ _ => trivial) ?_ ?_
    · rintro i x σ H2 H3 hi ⟨a2, o5, o6, o7, o8, rfl⟩ ⟨rfl, rfl⟩
      refine ⟨_, rfl, D, C, _, 7, rfl, a2.dk, by omega, by decide, by decide, fun H4 way hw dk4 off4 => ?_⟩
      have a4 := a2.offs off4 dk4 hLD hLC
      refine ⟨(way : Nat), (i : Nat), rfl, rfl, ite2 (fun hc => ?_) (fun hc => ?_)⟩
      · obtain ⟨vs, ns, x4, y4, z4, t4⟩ := a4.ex
        refine ⟨_, rfl, Or.inl ⟨rfl, _, Or.inl (Or.inl x4)⟩, _, rfl, rfl, _, rfl, ite2 (fun h0 => ?_) (fun h0 => ?_)⟩
        · refine ⟨sz_le (n := 1) (by decide), fun p hp => ?_⟩
          have s5 := same_new (o := HO.tup [V.str "none"]) hp
          have a5 := a4.same s5
          have x5 := s5 _ _ x4
          have hp5 : SqT K (upd H4 p (.tup [V.str "none"])) p (ndV .none) := Or.inl (Or.inl upd_same)
          generalize upd H4 p (.tup [V.str "none"]) = H5 at a5 x5 hp5 ⊢
          refine ⟨L, vs, .ref p, rfl, rfl, x5, ?_, ?_, _, _, _, _, rfl⟩
          · have := y4.len
            exact sz_lt (by omega)
          · have a6 := a5.push (n := .none) x5 hHL hp5 trivial hLD hLC
            exact ⟨a6.dk.mono (by omega), a6.off, a6.ex⟩
        · refine ⟨_, rfl, _, rfl, D, C, _, 3, sg, rfl, a4.dk, by omega, hs.pos, by have := hs.few; omega, by decide, fun H5 wd hw1 hw2 dk5 off5 => ⟨sz_le (n := 2) (by decide), fun p hp => ?_⟩⟩
          have a5 := a4.offs off5 dk5 hLD hLC
          have x5 := off5 L _ hLD hLC x4
          have s6 := same_new (o := HO.tup [V.str "stops", V.str (S wd)]) hp
          have a6 := a5.same s6
          have x6 := s6 _ _ x5
          have hp6 : SqT K (upd H5 p (.tup [V.str "stops", V.str (S wd)])) p (ndV (.stops wd)) := Or.inl (Or.inl upd_same)
          generalize upd H5 p (.tup [V.str "stops", V.str (S wd)]) = H6 at a6 x6 hp6 ⊢
          refine ⟨L, vs, .ref p, rfl, rfl, x6, ?_, ?_, _, _, _, _, rfl⟩
          · have := y4.len
            exact sz_lt (by omega)
          · have a7 := a6.push (n := .stops wd) x6 hHL hp6 ⟨hw1, by omega⟩ hLD hLC
            exact ⟨a7.dk.mono (by omega), a7.off, a7.ex⟩
      · refine ⟨_, rfl, _, rfl, _, rfl, D, C, _, 3, sg, rfl, a4.dk, by omega, hs.pos, by have := hs.few; omega, by decide, fun H5 wd hw1 hw2 dk5 off5 => ⟨sz_le (n := 3) (by decide), fun p hp _ => ?_⟩⟩
        have a5 := a4.offs off5 dk5 hLD hLC
        have a6 := a5.same (same_new (o := HO.lst [V.non, V.str "", V.str (S wd)]) hp)
        obtain ⟨n1, n2, n3, n4⟩ := a5.new hp
        refine ⟨D, C, _, .ref p, rfl, a6.dk, by omega, Or.inr ⟨p, _, rfl, upd_same, n2, Nat.zero_lt_succ _, by show 3 ≤ 1000; decide, fun H7 v hv dk7 off7 => ?_⟩⟩
        have a7 := a6.offs off7 dk7 hLD hLC
        obtain ⟨b, rfl, hb⟩ : ∃ b, v = optV b ∧ ∀ w, b = .some w → wordOk sg w := by
          rcases List.mem_cons.mp hv with rfl | hv
          · exact ⟨.none, rfl, fun _ z => nomatch z⟩
          · rcases List.mem_cons.mp hv with rfl | hv
            · exact ⟨.some [], rfl, fun w z => by cases z; exact ⟨fun _ z => (by cases z), Nat.zero_le _⟩⟩
            · rw [List.mem_singleton.mp hv]
              exact ⟨.some wd, rfl, fun w z => by cases z; exact ⟨hw1, by omega⟩⟩
        obtain ⟨vs, ns, x7, y7, z7, t7⟩ := a7.ex
        refine ⟨_, rfl, Or.inl ⟨rfl, _, Or.inl (Or.inl x7)⟩, _, rfl, sz_le (n := 2) (by decide), fun p2 hp2 => ?_⟩
        have s8 := same_new (o := HO.tup [V.str "reads", optV b]) hp2
        have a8 := a7.same s8
        have x8 := s8 _ _ x7
        have t8 : SqT K (upd H7 p2 (.tup [V.str "reads", optV b])) p2 [V.str "reads", optV b] := Or.inl (Or.inl upd_same)
        generalize upd H7 p2 (.tup [V.str "reads", optV b]) = H8 at a8 x8 t8 ⊢
        refine ⟨_, rfl, S sg, rfl, fun L2 hL2 => ?_⟩
        obtain ⟨m1, m2, m3, m4⟩ := a8.new hL2
        refine lc_yes (walk_S sg) (fun j H' => Acc K D C L H sg (r + 1) (T + 1 + 40 * i + 1 + (1 + 3) + 1 + j) i H' ∧ H' L = some (.lst vs) ∧ SqT K H' p2 [V.str "reads", optV b] ∧
          ∃ ts : List Nat, H' L2 = some (.lst (intsV ts)) ∧ ts.length = j ∧ ∀ t ∈ ts, t < r + 1) ⟨(a8.same (same_new hL2)).mono (by omega), (same_new hL2) _ _ x8, Same.tup (same_new hL2) t8, [], upd_same, rfl, (fun _ z => by cases z)⟩ (fun _ _ _ _ => trivial) ?_ ?_
        · rintro j x H9 H10 hj ⟨a9, x9, t9, ts, l9, c9, b9⟩ ⟨rfl, rfl⟩
          have hfew := hs.few
          refine ⟨rfl, _, rfl, _, rfl, D, C, _, r + 1, rfl, a9.dk, by omega, by omega, by omega, fun H11 t ht dk11 off11 => ?_⟩
          have a11 := a9.offs off11 dk11 hLD hLC
          have l11 := off11 L2 _ m1 m2 l9
          have x11 := off11 L _ hLD hLC x9
          have t11 := off11.tup a9.dk t9
          refine ⟨_, l11, sz_lt (by rw [intsV_len]; omega), (a11.other l11 m4 m1 m2 m3).mono (by omega), (upd_ne (Ne.symm m3)).trans x11, KpT.lst l11 _ _ t11, ts ++ [t], ?_, by rw [List.length_append, c9]; rfl, ?_⟩
          · rw [upd_same]
            unfold intsV
            rw [List.map_append]
            rfl
          · intro y hy
            rcases List.mem_append.mp hy with hy | hy
            · exact b9 y hy
            · rw [List.mem_singleton.mp hy]
              exact ht
        · rintro H9 ⟨a9, x9, t9, ts, l9, c9, b9⟩
          have hfew := hs.few
          have hpos := hs.pos
          refine ⟨L2, _, rfl, Or.inl ⟨SqL.of l9, fun p3 hp3 => ?_⟩⟩
          have s10 := same_new (o := HO.tup (intsV ts)) hp3
          refine ⟨p2, p3, _, intsV ts, rfl, rfl, Same.tup s10 t9, Or.inl (Or.inl upd_same), (fun z => nomatch z), sz_le (by rw [intsV_len, c9]; show 2 + sg.length ≤ _; omega), (fun z => ?_), fun _ p4 hp4 => ?_⟩
          · have h := congrArg List.length z
            rw [intsV_len, c9] at h
            have h' : sg.length = 0 := h
            omega
          · have s11 := s10.trans (same_new (o := HO.tup ([V.str "reads", optV b] ++ intsV ts)) hp4)
            have a11 := a9.same s11
            have x11 := s11 _ _ x9
            have t11 : SqT K (upd (upd H9 p3 (.tup (intsV ts))) p4 (.tup ([V.str "reads", optV b] ++ intsV ts))) p4 (ndV (.reads b ts)) := Or.inl (Or.inl upd_same)
            generalize upd (upd H9 p3 (.tup (intsV ts))) p4 (.tup ([V.str "reads", optV b] ++ intsV ts)) = H12 at a11 x11 t11 ⊢
            refine ⟨L, vs, .ref p4, rfl, rfl, x11, ?_, ?_, _, _, _, _, rfl⟩
            · have := y7.len
              exact sz_lt (by omega)
            · have a12 := a11.push (n := .reads b ts) x11 hHL t11 ⟨c9, b9, hb⟩ hLD hLC
              exact ⟨a12.dk.mono (by omega), a12.off, a12.ex⟩
    · rintro σ H2 ⟨a2, o5, o6, o7, o8, rfl⟩
      obtain ⟨vs, ns, x, y, z, t⟩ := a2.ex
      refine ⟨_, rfl, L, vs, rfl, Or.inl ⟨SqL.of x, fun p hp => ?_⟩⟩
      have s2 : Same H2 (upd H2 p (.tup vs)) := same_new hp
      refine q _ p ns ⟨vs, Or.inl (Or.inl upd_same), y.same s2⟩ ⟨?_, by omega, by rw [z]; exact t⟩ ((a2.dk.same s2).mono (by omega)) (a2.off.trans (Off.same s2))
      rintro rfl
      cases z
end
end Lw

namespace Lw
open PySem PySem.Spec PyProof.Rows L2 Mq
open SX (S)
def spLawMade (K : PySem.W.Frag) : Sp := fun vs H Q _ => ∃ (sg l : List Nat) (a : Addr) (ns : List Nd), vs = [.str (S sg), .ref a, .str (S l)] ∧
  NodesAt K H a ns ∧ NodesOk sg ns ∧ SgOk sg ∧ IdxOk sg ∧ wordOk sg l ∧
  ∀ H' p, Same H H' → SqT K H' p [optV (madeM sg ns l), .int (many sg ns l : Nat)] → Q (.ref p) H'
section
variable {P : Program} {w : World} {K : PySem.W.Frag} {mg : Str → Option Value} {base : Heap}
theorem ok_law_made {f : Addr} {fd : FuncData} (F : Fun K "_law_made" "_law_made" s__law_made f fd) (B : Blt mg) :
    FnOk P w K mg base CX0 1 f fd ["_law_signs", "_law_nodes_here", "_law_web"] (spLawMade K) := by
  refine F.ok sc__law_made (fun vs H Q E h => ?_) (fun cdv A outer s H vs Q E hr h => ?_)
  · obtain ⟨_, _, _, _, rfl, _⟩ := h
    rfl
  · obtain ⟨sg, l, a, ns, rfl, hat, hok, hs, hix, hw, q⟩ := h
    refine ⟨_, (pss_cons (ps_asg (pe_tup (pa_cons pe_int (pa_cons pe_int pa_nil))) (pg_tup rfl (pgs_cons (pg_name (i := 3) sc__law_made.nd rfl (Or.inl rfl)) (pgs_cons (pg_name (i := 4) sc__law_made.nd rfl (Or.inl rfl)) pgs_nil))))
      (pss_cons (ps_while PassesOwn.never (PW.pt (pw_and (pt_cmpR op_eq (pe_ix ix_tup (pe_ix ix_tup (pv 1) (pv 3) (fun _ _ => rfl)) pe_int (fun _ _ => rfl)) pe_str (nomark _)) (pw_and1 (pt_cmpR op_lt (pv 4) (pe_callB call_len (by rfl) B.len (by decide +kernel) (pa_cons (pv 2) pa_nil)) (nomark _)))))
        (pss_one (ps_par (i := 3) (j := 4) rfl sc__law_made.nd rfl rfl (by decide) rfl rfl (pa_cons (pe_ix ix_tup (pe_ix ix_tup (pv 1) (pv 3) (fun _ _ => rfl)) (pe_op op_add pe_int (pe_bm PySem.F.plainAttrs_str PySem.F.slot_str_index PySem.F.type_str_index mt_sindex (pv 0) (pa_cons (pe_ix ix_str (pv 2) (pe_op op_sub (pe_op op_sub (pe_callB call_len (by rfl) B.len (by decide +kernel) (pa_cons (pv 2) pa_nil)) pe_int) (pv 4)) (fun _ _ => rfl)) pa_nil))) (fun _ _ => rfl)) (pa_cons (pe_op op_add (pv 4) pe_int) pa_nil)) (by rfl))))
      (pss_cons (ps_if (pt_cmpR op_eq (pe_ix ix_tup (pe_ix ix_tup (pv 1) (pv 3) (fun _ _ => rfl)) pe_int (fun _ _ => rfl)) pe_str (nomark _)) (pss_one (ps_ret (pe_tup (pa_cons (pe_ix ix_tup (pe_ix ix_tup (pv 1) (pv 3) (fun _ _ => rfl)) pe_int (fun _ _ => rfl)) (pa_cons (pv 4) pa_nil))))) pss_nil)
      (pss_one (ps_ret (pe_tup (pa_cons (pe_ifExp (pt_cmpR op_eq (pe_ix ix_tup (pe_ix ix_tup (pv 1) (pv 3) (fun _ _ => rfl)) pe_int (fun _ _ => rfl)) pe_str (nomark _)) (pe_op op_add_str (pe_slice C8.sl_txt (pv 2) po_none (po_some (pe_op op_sub (pe_callB call_len (by rfl) B.len (by decide +kernel) (pa_cons (pv 2) pa_nil)) (pv 4)))) (pe_ix ix_tup (pe_ix ix_tup (pv 1) (pv 3) (fun _ _ => rfl)) pe_int (fun _ _ => rfl))) pe_non) (pa_cons (pv 4) pa_nil)))))))), ?_⟩
    have hlen := hw.2
    refine ⟨sz_le (n := 2) (by decide), fun p0 hp0 => ⟨p0, _, rfl, Or.inl (Or.inl upd_same), rfl, _, _, rfl, _, _, rfl, rfl, ?_⟩⟩
    have s0 : Same H (upd H p0 (.tup [V.int 0, V.int 0])) := same_new hp0
    refine ⟨fun m σ H' => ∃ j, m = l.length - j ∧ j ≤ l.length ∧ Same H H' ∧ goN sg ns l (l.length - j) j = many sg ns l ∧
      σ = [some (.str (S sg)), some (.ref a), some (.str (S l)), some (.int (wk sg ns l j : Nat)), some (.int (j : Nat))],
      ⟨l.length, 0, rfl, Nat.zero_le _, s0, rfl, rfl⟩, ?_⟩
    rintro m σ H' ⟨j, rfl, hj, sm, hg, rfl⟩
    have hk := wk_lt hok l j
    obtain ⟨xs, b, h1, h2, h3⟩ := (hat.same sm).get hk
    have he := ndV_0 (nAt ns (wk sg ns l j))
    have hno := nAt_ok hok hk
    refine ⟨_, rfl, _, rfl, a, xs, _, .ref b, rfl, rfl, h1, h2, b, _, 0, _, rfl, rfl, h3, he, rfl, _, rfl, ?_⟩
    rw [hd_reads]
    have hmade : many sg ns l = j → madeM sg ns l = (match nAt ns (wk sg ns l j) with | .none => .none | .stops w => .some (l.take (l.length - j) ++ w) | .reads b _ => b) := by
      rintro rfl
      rfl
    have fin : many sg ns l = j → ∀ p H2, Same H' H2 → SqT K H2 p [optV (madeM sg ns l), .int (j : Nat)] → Q (.ref p) H2 := by
      intro h p H2 s2 t2
      refine q H2 p (sm.trans s2) ?_
      rw [h]
      exact t2
    cases hr' : isReads (nAt ns (wk sg ns l j)) with
    | false =>
      have hm : many sg ns l = j := by
        rw [← hg]
        cases l.length - j with
        | zero => rfl
        | succ k =>
          unfold goN
          rw [hr']
          rfl
      refine ifF rfl (ifF rfl ?_)
      refine ⟨_, rfl, _, rfl, a, xs, _, .ref b, rfl, rfl, h1, h2, b, _, 0, _, rfl, rfl, h3, he, rfl, _, rfl, ?_⟩
      rw [hd_reads, hr']
      refine ifF rfl ?_
      refine ⟨_, rfl, _, rfl, a, xs, _, .ref b, rfl, rfl, h1, h2, b, _, 0, _, rfl, rfl, h3, he, rfl, _, rfl, ?_⟩
      rw [hd_stops]
      have hmd := hmade hm
      have fin' := fin hm
      rw [hmd] at fin'
      generalize nAt ns (wk sg ns l j) = n at *
      cases n with
      | reads b' ts => cases hr'
      | none =>
        refine ifF rfl ⟨_, rfl, sz_le (n := 2) (by decide), fun p hp => ?_⟩
        exact fin' p _ (same_new hp) (Or.inl (Or.inl upd_same))
      | stops w' =>
        have hw2 := hno.2
        refine ifT rfl ⟨_, rfl, _, rfl, _, _, rfl, len_S (by omega), _, rfl, _, _, rfl, rfl, _, rfl, S l, rfl, sz_le (by rw [SX.S_len]; omega), ?_⟩
        refine ⟨_, rfl, _, rfl, a, xs, _, .ref b, rfl, rfl, h1, h2, b, _, 1, .str (S w'), rfl, rfl, h3, atI_nat (j := 1) rfl, _, _, rfl, rfl, ?_, ?_⟩
        · show (Txt.slice (S l) none (some ((l.length : Int) - (j : Nat)))).length + _ ≤ _
          rw [SX.slice_to (by omega), SX.S_len, SX.S_len, List.length_take]
          exact sz_le (by omega)
        · refine ⟨_, rfl, sz_le (n := 2) (by decide), fun p hp => ?_⟩
          refine fin' p _ (same_new hp) (Or.inl (Or.inl (upd_same.trans ?_)))
          show some (HO.tup [V.str (Txt.slice (S l) none (some ((l.length : Int) - (j : Nat))) ++ S w'), _]) = _
          rw [SX.slice_to (by omega), SX.S_cat, show ((l.length : Int) - (j : Nat)).toNat = l.length - j by omega]
          rfl
    | true =>
      obtain ⟨b', ts, en⟩ : ∃ b' ts, nAt ns (wk sg ns l j) = .reads b' ts := by
        generalize nAt ns (wk sg ns l j) = n at hr'
        cases n with
        | none => cases hr'
        | stops w => cases hr'
        | reads b' ts => exact ⟨b', ts, rfl⟩
      refine ifT rfl ⟨_, rfl, _, rfl, _, _, rfl, len_S (by omega), _, _, rfl, rfl, _, rfl, ?_⟩
      by_cases hj' : j < l.length
      · obtain ⟨k, hk'⟩ : ∃ k, l.length - j = k + 1 := ⟨l.length - j - 1, by omega⟩
        rw [hk'] at hg
        unfold goN at hg
        rw [hr'] at hg
        have hg' : goN sg ns l k (j + 1) = many sg ns l := hg
        refine ifT (decide_eq_true (by omega)) ⟨fun σ' H2 => ∃ m', m' < l.length - j ∧ ∃ j, m' = l.length - j ∧ j ≤ l.length ∧ Same H H2 ∧ goN sg ns l (l.length - j) j = many sg ns l ∧
          σ' = [some (.str (S sg)), some (.ref a), some (.str (S l)), some (.int (wk sg ns l j : Nat)), some (.int (j : Nat))], fun _ _ z => z, ?_⟩
        have hc : l.getD (l.length - 1 - j) 0 ∈ l := by
          rw [List.getD_eq_getElem?_getD, List.getElem?_eq_getElem (by omega)]
          exact List.getElem_mem (by omega)
        have hcs := hw.1 _ hc
        obtain ⟨rest, hocc⟩ := hix _ hcs
        have hi : sg.idxOf (l.getD (l.length - 1 - j) 0) < ts.length := by
          rw [en] at hno
          rw [hno.1]
          exact List.idxOf_lt_length_of_mem hcs
        have e2 : ((l.length : Nat) : Int) - 1 - (j : Nat) = ((l.length - 1 - j : Nat) : Int) := by omega
        have e3 : wk sg ns l (j + 1) = ts.getD (sg.idxOf (l.getD (l.length - 1 - j) 0)) 0 := by
          show (tsOf (nAt ns (wk sg ns l j))).getD _ 0 = _
          rw [en]
          rfl
        rw [en] at h3
        refine ⟨_, rfl, _, rfl, a, xs, _, .ref b, rfl, rfl, h1, h2, .str (S sg), rfl, rfl, .str (S l), rfl, _, rfl, _, _, rfl, len_S (by omega), _, _, rfl, rfl, _, rfl, _, _, rfl, rfl, ?_⟩
        refine ⟨S l, ((l.length - 1 - j : Nat) : Int), l.getD (l.length - 1 - j) 0, rfl, congrArg V.int e2, sz_le (by rw [SX.S_len]; omega), at_get (by omega), ?_⟩
        refine ⟨S sg, S [l.getD (l.length - 1 - j) 0], _, rest, rfl, rfl, hocc, _, _, rfl, rfl, b, _, _, _, rfl, rfl, h3, ndV_2 b' hi, ?_⟩
        refine ⟨_, rfl, _, _, rfl, rfl, _, _, rfl, ?_⟩
        refine ⟨k, by omega, j + 1, by omega, by omega, sm, ?_, ?_⟩
        · rw [show l.length - (j + 1) = k by omega]
          exact hg'
        · rw [e3]
          rfl
      · have ej : j = l.length := by omega
        have hm : many sg ns l = j := by
          rw [← hg, ej, Nat.sub_self]
          rfl
        refine ifF (decide_eq_false (by omega)) ?_
        refine ⟨_, rfl, _, rfl, a, xs, _, .ref b, rfl, rfl, h1, h2, b, _, 0, _, rfl, rfl, h3, he, rfl, _, rfl, ?_⟩
        rw [hd_reads, hr']
        have hmd := hmade hm
        rw [en] at h3 hmd
        refine ifT rfl ⟨_, rfl, _, rfl, a, xs, _, .ref b, rfl, rfl, h1, h2, b, _, 1, optV b', rfl, rfl, h3, atI_nat (j := 1) rfl, _, rfl, sz_le (n := 2) (by decide), fun p hp => ?_⟩
        refine fin hm p _ (same_new hp) (Or.inl (Or.inl (upd_same.trans ?_)))
        rw [hmd]
end
end Lw

namespace Mq
open PySem PySem.Spec PyProof.Rows L2
/-- isinstance(e, c), the held error's class being told among the values -/
theorem call_heldX {X : Cx} {a D : Addr} {oe : Obj} {cls : Value} {d : Option Addr} {pn : List (Addr × Obj)} (C : HeldC X.K D) (hz : Zc cls d oe)
    (hf : ∃ vs, oe.data = .fields vs) : CallR (X.suite a ((a, oe) :: pn)) (.builtin "isinstance") (fun xs H Q => cls = .ref D ∧ rHeld X.K D a d xs H Q) := by
  intro pins s σ H xs us Q I r h
  obtain ⟨rfl, h⟩ := h
  exact call_held C hz hf pins s σ H xs us Q I r h
/-! ### lists whose items are equal, told by != and == -/
theorem op_neFl {X : Cx} (hu : X.A.units + 64 < cLine) : OpR X (compareOp .NotEq) (fun x y H Q => ∃ a b xs, x = .ref a ∧ y = .ref b ∧ SqL X.K H a xs ∧ SqL X.K H b xs ∧ (∀ v ∈ xs, flatB v = true) ∧ Q (.bl false) H) := by
  intro pins s σ H x y v u Q I rx ry h
  obtain ⟨a, b, xs, rfl, rfl, ha, hb, hf, q⟩ := h
  cases (show v = Value.ref a from rx)
  cases (show u = Value.ref b from ry)
  obtain ⟨us, r1, p1, _⟩ := I.list ha
  obtain ⟨ws, r2, p2, _⟩ := I.list hb
  have hsz : us.toArray.size = ws.toArray.size := by
    rw [List.size_toArray, List.size_toArray, ← r1.length, ← r2.length]
  have he : ∀ j (h1 : j < us.toArray.size) (h2 : j < ws.toArray.size), SeqAt.EqAt X.A.in1 s us.toArray[j] ws.toArray[j] true := by
    intro j h1 h2
    have h1' : j < us.length := by simpa using h1
    have h2' : j < ws.length := by simpa using h2
    have e1 : xs.length = us.length := r1.length
    obtain ⟨u1, g1, k1⟩ := r1.get (i := j) (x := xs[j]'(by omega)) (List.getElem?_eq_getElem (by omega))
    obtain ⟨u2, g2, k2⟩ := r2.get (i := j) (x := xs[j]'(by omega)) (List.getElem?_eq_getElem (by omega))
    rw [List.getElem?_eq_getElem h1'] at g1
    rw [List.getElem?_eq_getElem h2'] at g2
    have k := eqAt_same (A := X.A.in1) (s := s) k1 k2 (hf _ (List.getElem_mem _))
    cases g1
    cases g2
    simpa using k
  have k := SeqAt.RcNeAt.lists (A := X.A) (s := s) (e := fun _ => true) p1.isList p2.isList hsz (by omega) he
  have z : (!(List.range us.toArray.size).all fun _ => true) = false := by rw [show ((List.range us.toArray.size).all fun _ => true) = true from List.all_eq_true.mpr fun _ _ => rfl]; rfl
  rw [z] at k
  exact k X.prog X.w _ _ ⟨.bl false, H, I, rfl, q⟩
/-- list(v), v a tuple: the new list is told to stand elsewhere than the modules -/
theorem call_lsN {X : Cx} : CallR X (.type "list") (fun xs H Q => ∃ p ys, xs = [.ref p] ∧ SqT X.K H p ys ∧ ∀ l, H l = none → l ≠ sysModules → Q (.ref l) (upd H l (.lst ys))) := by
  intro pins s σ H xs us Q I r hw
  obtain ⟨t, ys, rfl, ht, k⟩ := hw
  cases r with
  | cons r0 rr =>
    cases rr
    cases r0
    obtain ⟨its, rv, pl, hz⟩ := I.tuple ht
    have hlen := rv.length
    obtain ⟨o, ho, hc, n, hd⟩ := pl
    refine call_list_seq t (.inr rfl) ho hc hd (fun h2 c2 kp e => ?_) (by rw [List.size_toArray]; omega)
    have new : ObjOk X.prog X.w (upd H s.heap.objs.size (.lst ys)) h2 s.heap.objs.size (.lst ys) := ⟨hz, its, c2, rv, e⟩
    refine ⟨.ref _, upd H s.heap.objs.size (.lst ys), ?_, rfl, ?_⟩
    · exact I.laid (t' := s.toks) kp (Nat.le_refl _) new
    · exact k _ (I.hok.fresh (Nat.le_refl _)) (Nat.ne_of_gt (Inv.low I))
/-! ### how long what is shown can be -/
theorem small_short : ∀ n : Nat, n ≤ 1000 → (PyData.int (n : Nat)).shown.length ≤ 13 ∧ (PyData.int (n : Nat)).showable = true ∧ (PyData.int (n : Nat)).weight ≤ 20 := by
  have h : ((List.range 1001).all fun n => decide ((PyData.int (n : Nat)).shown.length ≤ 13) && ((PyData.int (n : Nat)).showable && decide ((PyData.int (n : Nat)).weight ≤ 20))) = true := by decide +kernel
  intro n hn
  have h1 := List.all_eq_true.mp h n (List.mem_range.mpr (by omega))
  obtain ⟨a, b⟩ := Bool.and_eq_true_iff.mp h1
  obtain ⟨b, c⟩ := Bool.and_eq_true_iff.mp b
  exact ⟨of_decide_eq_true a, b, of_decide_eq_true c⟩
theorem shown_fits {d : PyData} (h1 : d.canLay0 = true) (h2 : d.depth ≤ 64) (h3 : d.weight ≤ 1000000) (h4 : d.intsShort 13 = true) : d.shown.length ≤ sizeLine := by
  have h5 : d.weight ≤ 2 ^ 20 := Nat.le_trans h3 (by decide)
  have hl : PyData.layable0 d = true := by
    unfold PyData.layable0
    rw [h1, decide_eq_true h2, decide_eq_true h5]
    rfl
  exact Nat.le_trans (PyProof.Rows.shown_le13 hl h4) (by decide)
end Mq

namespace Lw
open PySem PySem.Spec PyProof.Rows L2 Mq
open SX (S)
def resD (way : Nat) (sg : List Nat) (ns : List Nd) (l : List Nat) : PyData := if way < 2 then optD (madeM sg ns l) else .int (many sg ns l : Nat)
/-- what can be shown -/
structure ShowOk (d : PyData) : Prop where
  sh : d.showable = true
  de : d.depth ≤ 40
  le : d.shown.length ≤ sizeLine
def badD (d : PyData) : PyData := .list [.str "bad", d, .bool true]
def spHeard (K : PySem.W.Frag) (C : Addr) : Sp := fun vs H Q _ => ∃ (way : Nat) (r na : Addr) (sg : List Nat) (ns : List Nd) (v : V), vs = [.int (way : Nat), .ref r, v] ∧ way < 4 ∧
  RdAt H C r sg na ∧ NodesAt K H na ns ∧ NodesOk sg ns ∧ SgOk sg ∧ IdxOk sg ∧
  ((∃ l, WebGood sg v l ∧ ∀ H', Same H H' → Q (.str (resD way sg ns l).shown) H') ∨
   (WebBad K H sg v ∧ ∃ d, Dg K H v d ∧ ShowOk (badD d) ∧ ∀ H', Same H H' → Q (.str (badD d).shown) H'))
theorem dg_optV {K : PySem.W.Frag} {H : Hp} (b : Option (List Nat)) : Dg K H (optV b) (optD b) := by
  cases b with
  | none => exact .non
  | some w => exact .str _
theorem madeM_ok {sg : List Nat} {ns : List Nd} {l : List Nat} (hok : NodesOk sg ns) (hw : wordOk sg l) : ∀ w, madeM sg ns l = .some w → (∀ c ∈ w, c ∈ sg) ∧ w.length ≤ 2000 := by
  intro w h
  unfold madeM at h
  have hno := nAt_ok hok (wk_lt hok l (many sg ns l))
  generalize nAt ns (wk sg ns l (many sg ns l)) = n at h hno
  have hw2 := hw.2
  cases n with
  | none => cases h
  | stops w' =>
    cases h
    refine ⟨fun c hc => ?_, ?_⟩
    · rcases List.mem_append.mp hc with hc | hc
      · exact hw.1 c (List.mem_of_mem_take hc)
      · exact hno.1 c hc
    · have h2 := hno.2
      rw [List.length_append, List.length_take]
      omega
  | reads b ts =>
    cases h
    have h2 := hno.2.2 w rfl
    exact ⟨h2.1, by have := h2.2; omega⟩
theorem optD_fits {sg : List Nat} (s : SgOk sg) {b : Option (List Nat)} (h : ∀ w, b = .some w → (∀ c ∈ w, c ∈ sg) ∧ w.length ≤ 2000) :
    (optD b).canLay0 = true ∧ (optD b).depth = 0 ∧ (optD b).weight ≤ 2000 ∧ (optD b).intsShort 13 = true ∧ (optD b).showable = true := by
  cases b with
  | none => exact ⟨rfl, rfl, Nat.zero_le _, rfl, rfl⟩
  | some w =>
    obtain ⟨h1, h2⟩ := h w rfl
    refine ⟨strOk_S fun c hc => s.low c (h1 c hc), rfl, ?_, rfl, rfl⟩
    show (S w).length ≤ 2000
    rw [SX.S_len]
    exact h2
theorem int_fits {n : Nat} (h : n ≤ 1000) : (PyData.int (n : Nat)).canLay0 = true ∧ (PyData.int (n : Nat)).depth = 0 ∧ (PyData.int (n : Nat)).weight ≤ 2000 ∧ (PyData.int (n : Nat)).intsShort 13 = true ∧ (PyData.int (n : Nat)).showable = true := by
  obtain ⟨a, b, c⟩ := small_short n h
  exact ⟨rfl, rfl, by omega, decide_eq_true a, b⟩
theorem resD_fits {sg : List Nat} (s : SgOk sg) {ns : List Nd} {l : List Nat} (hok : NodesOk sg ns) (hw : wordOk sg l) (way : Nat) :
    (resD way sg ns l).canLay0 = true ∧ (resD way sg ns l).depth = 0 ∧ (resD way sg ns l).weight ≤ 2000 ∧ (resD way sg ns l).intsShort 13 = true ∧ (resD way sg ns l).showable = true := by
  unfold resD
  split
  · exact optD_fits s (madeM_ok hok hw)
  · exact int_fits (by have := many_le sg ns l; have := hw.2; omega)
theorem resD_ok {sg : List Nat} (s : SgOk sg) {ns : List Nd} {l : List Nat} (hok : NodesOk sg ns) (hw : wordOk sg l) (way : Nat) : ShowOk (resD way sg ns l) := by
  obtain ⟨a, b, c, d, e⟩ := resD_fits s hok hw way
  exact ⟨e, by omega, shown_fits a (by omega) (by omega) d⟩
section
variable {P : Program} {w : World} {K : PySem.W.Frag} {mg : Str → Option Value} {base : Heap} {C CW CM : Addr}
/-- what the written part says of the errors -/
structure ErrT (K : PySem.W.Frag) (mg : Str → Option Value) (CW CM fB : Addr) : Prop where
  txt : MqE_thing.Txt K mg "BadWeb" "BadWeb.__init__" CW fB
  xf : XfC K CW
  nt : PySem.W.findIn K (.ref CW) "thing" = some none
  held : HeldC K CW
  gM : mg "MillError" = some (.ref CM)
  kit : PySem.W.kitOne K (.ref CW) (.ref CM) = some true
  exm : PySem.W.exmOne K (.ref CW) (.ref CW) = some true
theorem ok_heard {f fM fR fB : Addr} {fd fdM fdR : FuncData} (F : Fun K "_law_heard" "_law_heard" s__law_heard f fd) (B : Blt mg) (R : RdC K C) (T : ErrT K mg CW CM fB)
    (mM : Meth K C "made" fM) (bM : Binds K fdM ["self", "web"] []) (kM : KBn K fdM ["self", "web"] 1 ["web"] (· ++ ·) (· ++ ·)) (GM : FnOk P w K mg base (L2.CX P w) 4 fM fdM ["self", "web"] (spMade K C CW resMade))
    (mR : Meth K C "read_of" fR) (bR : Binds K fdR ["self", "web"] []) (kR : KBn K fdR ["self", "web"] 1 ["web"] (· ++ ·) (· ++ ·)) (GR : FnOk P w K mg base (L2.CX P w) 4 fR fdR ["self", "web"] (spMade K C CW resRead)) :
    FnG P w K mg base CX0 6 f fd ["_law_way", "_law_code", "_law_web"] (spHeard K C) := by
  refine Mq.Fun.okG F sc__law_heard (fun vs H Q E h => ?_) (fun cdv A outer s H vs Q E gA hr h => ?_)
  · obtain ⟨_, _, _, _, _, _, rfl, _⟩ := h
    rfl
  · obtain ⟨way, r, na, sg, ns, v, rfl, hway, hrd, hat, hok, hs, hix, h⟩ := h
    have hr4 : Room 4 (A.deeper (envOfC "_law_heard" (defScope s__law_heard) s.heap.objs.size f cdv)) := hr.mono (by decide)
    refine ⟨_, (pss_cons (ps_set (i := 3) sc__law_heard.nd rfl (Or.inl rfl) pe_non)
      (pss_cons (ps_try_as (i := 4) (Wout := fun _ _ _ _ => False) (c := .ref CW) rfl rfl sc__law_heard.nd rfl rfl ⟨rfl, by decide, Or.inl T.txt.gC⟩ takes0
        (fun W pn xe tk _ => pss_one (ps_if (pt_cmpR op_lt (pv 0) pe_int (nomark _))
          (pss_one (ps_set (i := 3) sc__law_heard.nd rfl (Or.inl rfl) (pe_ifExp (pt_cmpR op_eq (pv 0) pe_int (nomark _)) (pe_methT (E := WE W) (pv 1) R.cls mM GM hr4 bM (fun σ => passAt tk σ) (pa_cons (pv 2) pa_nil)) (pe_methK (E := WE W) (pv 1) R.cls mM GM hr4 kM (fun σ => passAt tk σ) (pk_cons (pv 2) pk_nil)))))
          (pss_one (ps_set (i := 3) sc__law_heard.nd rfl (Or.inl rfl) (pe_ifExp (pt_cmpR op_eq (pv 0) pe_int (nomark _)) (pe_methT (E := WE W) (pv 1) R.cls mR GR hr4 bR (fun σ => passAt tk σ) (pa_cons (pv 2) pa_nil)) (pe_methK (E := WE W) (pv 1) R.cls mR GR hr4 kR (fun σ => passAt tk σ) (pk_cons (pv 2) pk_nil)))))))
        (fun a oe cls d pn hz hf => pss_one (ps_set (i := 3) sc__law_heard.nd rfl (Or.inl rfl) (Mq.pe_ls (pa_cons pe_str (pa_cons (pe_xf T.xf T.nt hz hf (pv 4)) (pa_cons (pe_callB (call_heldX T.held hz hf) (by rfl) B.isi (by decide +kernel) (pa_cons (pv 4) (pa_cons (pe_glob (v := .ref CM) (by rfl) T.gM rfl) pa_nil))) pa_nil)))))))
      (pss_one (ps_ret (pe_callB (call_rep hr gA) (by rfl) B.repr (by decide +kernel) (pa_cons (pv 3) pa_nil)))))), ?_⟩
    obtain ⟨dx, hrd⟩ := hrd
    have finG : ∀ l, WebGood sg v l → (∀ H', Same H H' → Q (.str (resD way sg ns l).shown) H') → ∀ H1 x, Same H H1 → Dg K H1 x (resD way sg ns l) → rRep K [x] H1 Q := by
      intro l hg q H1 x s1 hx
      have ok := resD_ok hs hok hg.2 way
      exact ⟨x, _, rfl, hx, ok.sh, ok.de, ok.le, q H1 s1⟩
    have finB : ∀ d, Dg K H v d → ShowOk (badD d) → (∀ H', Same H H' → Q (.str (badD d).shown) H') → ∀ H1 p, Same H H1 → H1 p = none → p ≠ sysModules → rRep K [.ref p] (upd H1 p (.lst [.str "bad", v, .bl true])) Q := by
      intro d hd ok q H1 p s1 hp hne
      have s2 := s1.trans (same_new (o := HO.lst [V.str "bad", v, V.bl true]) hp)
      exact ⟨_, badD d, rfl, .lst hne (SqL.of upd_same) (.cons (.str _) (.cons (hd.same s2) (.cons (.bl true) .nil))), ok.sh, ok.de, ok.le, q _ s2⟩
    match way, hway with
    | 0, _ =>
      refine ⟨_, rfl, _, _, rfl, rfl, _, rfl, ifT (by decide) ⟨_, rfl, rfl, _, rfl, ifT (by decide) ?_⟩⟩
      refine ⟨_, rfl, r, dx, rdF sg na, rfl, hrd, rfl, _, rfl, r, na, sg, ns, v, rfl, ⟨dx, hrd⟩, hat, hok, hs, hix, ?_⟩
      rcases h with ⟨l, hg, q⟩ | ⟨hb, d, hd, ok, q⟩
      · exact Or.inl ⟨l, hg, fun H1 s1 => ⟨_, rfl, finG l hg q H1 _ s1 (dg_optV _)⟩⟩
      · refine Or.inr ⟨hb, fun H1 dd s1 hdd => ⟨true, T.exm, fun _ a0 ha0 => ?_, fun z => nomatch z⟩⟩
        have sd := s1.trans (same_new (o := HO.xd [("thing", v)]) hdd)
        exact ⟨_, rfl, rfl, rfl, dd, _, v, rfl, upd_same, rfl, _, rfl, rfl, dd, CM, _, true, rfl, rfl, upd_same, T.kit, sz_le (n := 3) (by decide), fun p hp hne => ⟨_, rfl, finB d hd ok q _ p sd hp hne⟩⟩
    | 1, _ =>
      refine ⟨_, rfl, _, _, rfl, rfl, _, rfl, ifT (by decide) ⟨_, rfl, rfl, _, rfl, ifF (by decide) ?_⟩⟩
      refine ⟨_, rfl, r, dx, rdF sg na, rfl, hrd, rfl, _, rfl, rfl, r, na, sg, ns, v, rfl, ⟨dx, hrd⟩, hat, hok, hs, hix, ?_⟩
      rcases h with ⟨l, hg, q⟩ | ⟨hb, d, hd, ok, q⟩
      · exact Or.inl ⟨l, hg, fun H1 s1 => ⟨_, rfl, finG l hg q H1 _ s1 (dg_optV _)⟩⟩
      · refine Or.inr ⟨hb, fun H1 dd s1 hdd => ⟨true, T.exm, fun _ a0 ha0 => ?_, fun z => nomatch z⟩⟩
        have sd := s1.trans (same_new (o := HO.xd [("thing", v)]) hdd)
        exact ⟨_, rfl, rfl, rfl, dd, _, v, rfl, upd_same, rfl, _, rfl, rfl, dd, CM, _, true, rfl, rfl, upd_same, T.kit, sz_le (n := 3) (by decide), fun p hp hne => ⟨_, rfl, finB d hd ok q _ p sd hp hne⟩⟩
    | 2, _ =>
      refine ⟨_, rfl, _, _, rfl, rfl, _, rfl, ifF (by decide) ⟨_, rfl, rfl, _, rfl, ifT (by decide) ?_⟩⟩
      refine ⟨_, rfl, r, dx, rdF sg na, rfl, hrd, rfl, _, rfl, r, na, sg, ns, v, rfl, ⟨dx, hrd⟩, hat, hok, hs, hix, ?_⟩
      rcases h with ⟨l, hg, q⟩ | ⟨hb, d, hd, ok, q⟩
      · exact Or.inl ⟨l, hg, fun H1 s1 => ⟨_, rfl, finG l hg q H1 _ s1 (.int _)⟩⟩
      · refine Or.inr ⟨hb, fun H1 dd s1 hdd => ⟨true, T.exm, fun _ a0 ha0 => ?_, fun z => nomatch z⟩⟩
        have sd := s1.trans (same_new (o := HO.xd [("thing", v)]) hdd)
        exact ⟨_, rfl, rfl, rfl, dd, _, v, rfl, upd_same, rfl, _, rfl, rfl, dd, CM, _, true, rfl, rfl, upd_same, T.kit, sz_le (n := 3) (by decide), fun p hp hne => ⟨_, rfl, finB d hd ok q _ p sd hp hne⟩⟩
    | 3, _ =>
      refine ⟨_, rfl, _, _, rfl, rfl, _, rfl, ifF (by decide) ⟨_, rfl, rfl, _, rfl, ifF (by decide) ?_⟩⟩
      refine ⟨_, rfl, r, dx, rdF sg na, rfl, hrd, rfl, _, rfl, rfl, r, na, sg, ns, v, rfl, ⟨dx, hrd⟩, hat, hok, hs, hix, ?_⟩
      rcases h with ⟨l, hg, q⟩ | ⟨hb, d, hd, ok, q⟩
      · exact Or.inl ⟨l, hg, fun H1 s1 => ⟨_, rfl, finG l hg q H1 _ s1 (.int _)⟩⟩
      · refine Or.inr ⟨hb, fun H1 dd s1 hdd => ⟨true, T.exm, fun _ a0 ha0 => ?_, fun z => nomatch z⟩⟩
        have sd := s1.trans (same_new (o := HO.xd [("thing", v)]) hdd)
        exact ⟨_, rfl, rfl, rfl, dd, _, v, rfl, upd_same, rfl, _, rfl, rfl, dd, CM, _, true, rfl, rfl, upd_same, T.kit, sz_le (n := 3) (by decide), fun p hp hne => ⟨_, rfl, finB d hd ok q _ p sd hp hne⟩⟩
end
end Lw

namespace Lw
open PySem PySem.Spec PyProof.Rows L2 Mq
open SX (S)
/-! ### the walk over the same end -/
section
variable {sg : List Nat} {ns : List Nd}
theorem goN_reads {l : List Nat} : ∀ (k j i : Nat), j ≤ i → i < goN sg ns l k j → isReads (nAt ns (wk sg ns l i)) = true
  | 0, j, i, h1, h2 => by
    have h3 : i < j := h2
    omega
  | k + 1, j, i, h1, h2 => by
    unfold goN at h2
    cases h : isReads (nAt ns (wk sg ns l j)) with
    | false =>
      rw [h] at h2
      have h3 : i < j := h2
      omega
    | true =>
      rw [h] at h2
      have h3 : i < goN sg ns l k (j + 1) := h2
      by_cases e : i = j
      · rw [e]
        exact h
      · exact goN_reads k (j + 1) i (by omega) h3
theorem goN_stop {l : List Nat} : ∀ (k j : Nat), goN sg ns l k j < j + k → isReads (nAt ns (wk sg ns l (goN sg ns l k j))) = false
  | 0, j, h => by
    have h3 : j < j + 0 := h
    omega
  | k + 1, j, h => by
    unfold goN at h ⊢
    cases e : isReads (nAt ns (wk sg ns l j)) with
    | false =>
      show isReads (nAt ns (wk sg ns l j)) = false
      exact e
    | true =>
      rw [e] at h
      have h3 : goN sg ns l k (j + 1) < j + (k + 1) := h
      exact goN_stop k (j + 1) (by omega)
theorem goN_is {l : List Nat} {m : Nat} : ∀ (k j : Nat), j ≤ m → m ≤ j + k → (∀ i, j ≤ i → i < m → isReads (nAt ns (wk sg ns l i)) = true) → isReads (nAt ns (wk sg ns l m)) = false → goN sg ns l k j = m
  | 0, j, h1, h2, _, _ => by
    show j = m
    omega
  | k + 1, j, h1, h2, h3, h4 => by
    unfold goN
    by_cases e : j = m
    · subst e
      rw [h4]
      rfl
    · rw [h3 j (Nat.le_refl _) (by omega)]
      exact goN_is k (j + 1) (by omega) (by omega) (fun i a b => h3 i (by omega) b) h4
theorem wk_same {l l' : List Nat} {m : Nat} (h : ∀ i, i < m → l.getD (l.length - 1 - i) 0 = l'.getD (l'.length - 1 - i) 0) : ∀ j, j ≤ m → wk sg ns l j = wk sg ns l' j
  | 0, _ => rfl
  | j + 1, hj => by
    show (tsOf (nAt ns (wk sg ns l j))).getD _ 0 = (tsOf (nAt ns (wk sg ns l' j))).getD _ 0
    rw [wk_same h j (by omega), h j (by omega)]
/-- what stands ahead of the letters that were read is left as it is -/
theorem made_base {l b : List Nat} {w : List Nat} (hm : many sg ns l < l.length) (h : madeM sg ns l = .some w) :
    madeM sg ns (b ++ l.drop (l.length - many sg ns l)) = .some (b ++ w.drop (l.length - many sg ns l)) := by
  have hr := goN_reads (sg := sg) (ns := ns) (l := l) l.length 0
  have hst := goN_stop (sg := sg) (ns := ns) (l := l) l.length 0 (by rw [Nat.zero_add]; exact hm)
  have hr' : ∀ i, i < many sg ns l → isReads (nAt ns (wk sg ns l i)) = true := fun i hi => hr i (Nat.zero_le _) hi
  have hst' : isReads (nAt ns (wk sg ns l (many sg ns l))) = false := hst
  generalize hmm : many sg ns l = m at *
  have hl : (b ++ l.drop (l.length - m)).length = b.length + m := by
    rw [List.length_append, List.length_drop]
    omega
  have hs : ∀ i, i < m → l.getD (l.length - 1 - i) 0 = (b ++ l.drop (l.length - m)).getD ((b ++ l.drop (l.length - m)).length - 1 - i) 0 := by
    intro i hi
    rw [hl, List.getD_eq_getElem?_getD, List.getD_eq_getElem?_getD, List.getElem?_append_right (by omega), List.getElem?_drop]
    rw [show l.length - m + (b.length + m - 1 - i - b.length) = l.length - 1 - i by omega]
  have hk := wk_same (sg := sg) (ns := ns) hs
  have hmany : many sg ns (b ++ l.drop (l.length - m)) = m := by
    unfold many
    refine goN_is _ 0 (Nat.zero_le _) (by omega) (fun i _ hi => ?_) ?_
    · rw [← hk i (by omega)]
      exact hr' i hi
    · rw [← hk m (Nat.le_refl _)]
      exact hst'
  unfold madeM at h ⊢
  rw [hmany, ← hk m (Nat.le_refl _)]
  rw [hmm] at h
  generalize nAt ns (wk sg ns l m) = n at h hst'
  cases n with
  | none => cases h
  | reads b ts => cases hst'
  | stops w' =>
    cases h
    show some _ = some _
    have e1 : (b ++ l.drop (l.length - m)).take ((b ++ l.drop (l.length - m)).length - m) = b := by
      rw [hl, show b.length + m - m = b.length by omega, List.take_left']
      rfl
    have e2 : (l.take (l.length - m) ++ w').drop (l.length - m) = w' := by
      rw [List.drop_left']
      rw [List.length_take]
      omega
    rw [e1, e2]
end
end Lw

namespace Lw
open PySem PySem.Spec PyProof.Rows L2 Mq
open SX (S)
theorem RdAt.off {D C : Addr} {T : Nat} {H H' : Hp} {CR r na : Addr} {sg : List Nat} (h : RdAt H CR r sg na) (f : Off D C H H') (k : DeckAt D C T H) : RdAt H' CR r sg na :=
  let ⟨dx, x⟩ := h; ⟨dx, f.at k x ⟨(fun _ z => nomatch z), (fun _ z => nomatch z)⟩⟩
def spRight (K : PySem.W.Frag) (CR : Addr) : Sp := fun vs H Q _ => ∃ (D C : Addr) (T : Nat) (sg l : List Nat) (na r : Addr) (ns : List Nd), vs = [.ref D, .str (S sg), .ref na, .ref r, .str (S l)] ∧ DeckAt D C T H ∧ T ≤ 500000 ∧
  RdAt H CR r sg na ∧ NodesAt K H na ns ∧ NodesOk sg ns ∧ SgOk sg ∧ IdxOk sg ∧ (∀ c ∈ l, c ∈ sg) ∧ l.length ≤ 900 ∧ ∀ H', DeckAt D C (T + 10) H' → Off D C H H' → Q (.bl true) H'
theorem shown_flat (x y : Str) : ∀ v ∈ [V.str x, V.str x, V.str y, V.str y], flatB v = true := by
  intro v hv
  simp only [List.mem_cons, List.not_mem_nil, or_false] at hv
  rcases hv with rfl | rfl | rfl | rfl <;> rfl
section
variable {P : Program} {w : World} {K : PySem.W.Frag} {mg : Str → Option Value} {base : Heap} {CR CW : Addr}
theorem ok_right {f fE fL fT fM fR : Addr} {fd fdE fdL fdT fdM fdR : FuncData} (F : Fun K "_law_web_right" "_law_web_right" s__law_web_right f fd) (B : Blt mg) (R : RdC K CR)
    (FE : Fun K "_law_heard" "_law_heard" s__law_heard fE fdE) (gE : mg "_law_heard" = some (.ref fE)) (bE : Binds K fdE ["_law_way", "_law_code", "_law_web"] []) (GE : FnG P w K mg base CX0 6 fE fdE ["_law_way", "_law_code", "_law_web"] (spHeard K CR))
    (FL : Fun K "_law_made" "_law_made" s__law_made fL fdL) (gL : mg "_law_made" = some (.ref fL)) (bL : Binds K fdL ["_law_signs", "_law_nodes_here", "_law_web"] []) (GL : FnOk P w K mg base CX0 1 fL fdL ["_law_signs", "_law_nodes_here", "_law_web"] (spLawMade K))
    (FT : Fun K "_law_word" "_law_word" s__law_word fT fdT) (gT : mg "_law_word" = some (.ref fT)) (bT : Binds K fdT ["_law_deck_here", "_law_signs", "_law_most"] []) (GT : FnOk P w K mg base CX0 3 fT fdT ["_law_deck_here", "_law_signs", "_law_most"] spText)
    (mM : Meth K CR "made" fM) (bM : Binds K fdM ["self", "web"] []) (GM : FnOk P w K mg base (L2.CX P w) 4 fM fdM ["self", "web"] (spMade K CR CW resMade))
    (mR : Meth K CR "read_of" fR) (bR : Binds K fdR ["self", "web"] []) (GR : FnOk P w K mg base (L2.CX P w) 4 fR fdR ["self", "web"] (spMade K CR CW resRead)) :
    FnG P w K mg base CX0 7 f fd ["_law_deck_here", "_law_signs", "_law_nodes_here", "_law_code", "_law_web"] (spRight K CR) := by
  refine Mq.Fun.okG F sc__law_web_right (fun vs H Q E h => ?_) (fun cdv A outer s H vs Q E gA hr h => ?_)
  · obtain ⟨_, _, _, _, _, _, _, _, rfl, _⟩ := h
    rfl
  · obtain ⟨D, C, T, sg, l, na, r, ns, rfl, hdk, hT, hrd, hat, hok, hs, hix, hl1, hl2, q⟩ := h
    have hu : (A.deeper (envOfC "_law_web_right" (defScope s__law_web_right) s.heap.objs.size f cdv)).units + 64 < cLine := by
      have := hr.units
      omega
    have hr4 : Room 4 (A.deeper (envOfC "_law_web_right" (defScope s__law_web_right) s.heap.objs.size f cdv)) := hr.mono (by decide)
    refine ⟨_, (pss_cons (ps_asg (pe_call GL (hr.mono (by decide)) (by rfl) gL FL.kp bL .nil pass0 (pa_cons (pv 1) (pa_cons (pv 2) (pa_cons (pv 4) pa_nil)))) (pg_tup rfl (pgs_cons (pg_name (i := 5) sc__law_web_right.nd rfl (Or.inl rfl)) (pgs_cons (pg_name (i := 6) sc__law_web_right.nd rfl (Or.inl rfl)) pgs_nil))))
      (pss_cons (ps_if (pt_cmpR (op_neFl hu) (pe_lc (own := [("_law_way", 10)]) (g := gName 10) (tt := tYes) rfl sc__law_web_right.nd (pi_range1 (by rfl) B.range (pa_cons pe_int pa_nil)) (blkOk_by (own := [("_law_way", 10)]) (N := ["_law_deck_here", "_law_signs", "_law_nodes_here", "_law_code", "_law_web", "_law_made_here", "_law_many", "_law_base", "_law_cut", "_law_rest", "_law_way"]) (sc := defScope s__law_web_right) (by decide +kernel)) (fun _ _ _ _ _ => pg_name (i := 10) sc__law_web_right.nd rfl (Or.inl rfl)) (fun _ _ _ _ _ => pts_nil)
          (fun _ _ _ _ _ => (Mq.pe_callG GE gA hr (by rfl) gE FE.kp bE pass0 (pa_cons (pv 10) (pa_cons (pv 3) (pa_cons (pv 4) pa_nil))))))
        (pe_op op_cat (pe_op op_rep (Mq.pe_ls (pa_cons (pe_callB (call_rep hr gA) (by rfl) B.repr (by decide +kernel) (pa_cons (pv 5) pa_nil)) pa_nil)) pe_int) (pe_op op_rep (Mq.pe_ls (pa_cons (pe_callB (call_rep hr gA) (by rfl) B.repr (by decide +kernel) (pa_cons (pv 6) pa_nil)) pa_nil)) pe_int)) (nomark _)) (pss_one (ps_ret pe_bl)) pss_nil)
      (pss_cons (ps_par3 (i := 7) (j := 8) (l := 9) rfl sc__law_web_right.nd rfl rfl rfl (by decide) (by decide) (by decide) rfl rfl rfl (pa_cons (pe_call GT (hr.mono (by decide)) (by rfl) gT FT.kp bT .nil pass0 (pa_cons (pv 0) (pa_cons (pv 1) (pa_cons pe_int pa_nil)))) (pa_cons (pe_slice C8.sl_txt (pv 4) (po_some (pe_op op_sub (pe_callB call_len (by rfl) B.len (by decide +kernel) (pa_cons (pv 4) pa_nil)) (pv 6))) po_none) (pa_cons (pe_slice C8.sl_txt (pv 4) po_none (po_some (pe_op op_sub (pe_callB call_len (by rfl) B.len (by decide +kernel) (pa_cons (pv 4) pa_nil)) (pv 6)))) pa_nil))) (by rfl))
      (pss_cons (ps_if (pt_cmpR op_ne (pe_callB (call_rep hr gA) (by rfl) B.repr (by decide +kernel) (pa_cons (Mq.pe_ls (pa_cons (pe_methT (E := WE (fun _ _ _ _ => False)) (pv 3) R.cls mM GM hr4 bM (fun σ => passAt takes0 σ) (pa_cons (pe_op op_add_str (pv 7) (pv 8)) pa_nil)) (pa_cons (pe_methT (E := WE (fun _ _ _ _ => False)) (pv 3) R.cls mR GR hr4 bR (fun σ => passAt takes0 σ) (pa_cons (pe_op op_add_str (pv 7) (pv 8)) pa_nil)) pa_nil))) pa_nil))
        (pe_callB (call_rep hr gA) (by rfl) B.repr (by decide +kernel) (pa_cons (pe_callTy call_lsN (by rfl) B.list (by decide +kernel) (pa_cons (pe_call GL (hr.mono (by decide)) (by rfl) gL FL.kp bL .nil pass0 (pa_cons (pv 1) (pa_cons (pv 2) (pa_cons (pe_op op_add_str (pv 7) (pv 8)) pa_nil)))) pa_nil)) pa_nil)) (nomark _)) (pss_one (ps_ret pe_bl)) pss_nil)
      (pss_one (ps_ret (pe_or (pe_cmpR op_eq (pv 9) pe_str (nomark _)) (pe_or (pe_cmpR op_isN (pv 5) pe_non (nomark _)) (pe_one (pe_cmpR op_eq (pe_methT (E := WE (fun _ _ _ _ => False)) (pv 3) R.cls mM GM hr4 bM (fun σ => passAt takes0 σ) (pa_cons (pe_op op_add_str (pv 7) (pv 8)) pa_nil)) (pe_op op_add_str (pv 7) (pe_slice C8.sl_txt (pv 5) (po_some (pe_callB call_len (by rfl) B.len (by decide +kernel) (pa_cons (pv 9) pa_nil))) po_none)) (nomark _))))))))))), ?_⟩
    have hw : wordOk sg l := ⟨hl1, by omega⟩
    have hml := many_le sg ns l
    refine ⟨_, rfl, _, rfl, _, rfl, sg, l, na, ns, rfl, hat, hok, hs, hix, hw, fun H1 p s1 hp => ?_⟩
    refine ⟨p, _, rfl, hp, rfl, _, _, rfl, _, _, rfl, rfl, ?_⟩
    unfold tSeq tIfS tTest tOp
    dsimp only
    have hat1 := hat.same s1
    have hrd1 := hrd.same s1
    refine lc_map (n := 4) walk_rng (fun i => .str (resD i sg ns l).shown) (by decide) (fun R k => ⟨4, rfl, by decide, by decide, k _ (Same.refl _) trivial⟩) (fun _ _ _ _ _ => trivial) ?_ ?_
    · rintro i x H2 H3 R hi sm ⟨rfl, rfl⟩ k
      refine ⟨rfl, _, rfl, _, rfl, _, rfl, i, r, na, sg, ns, _, rfl, hi, hrd1.same sm, hat1.same sm, hok, hs, hix, Or.inl ⟨l, ⟨rfl, hw⟩, fun H4 s4 => k H4 s4⟩⟩
    · intro L H2 hL0 s2 hL
      have hok0 := resD_ok hs hok hw 0
      have hok2 := resD_ok hs hok hw 2
      refine ⟨_, rfl, _, _, rfl, dg_optV _, hok0.sh, hok0.de, hok0.le, sz_le (n := 1) (by decide), fun p3 hp3 _ => ?_⟩
      refine ⟨p3, 2, _, rfl, rfl, upd_same, by decide, by decide, sz_le (n := 2) (by decide), fun p4 hp4 => ?_⟩
      have s4 := (same_new (o := HO.lst [V.str (optD (madeM sg ns l)).shown]) hp3).trans (same_new (o := HO.lst (List.replicate (2 : Int).toNat [V.str (optD (madeM sg ns l)).shown]).flatten) hp4)
      have h4 : upd (upd H2 p3 (.lst [V.str (optD (madeM sg ns l)).shown])) p4 (.lst (List.replicate (2 : Int).toNat [V.str (optD (madeM sg ns l)).shown]).flatten) p4 = some (.lst [V.str (optD (madeM sg ns l)).shown, V.str (optD (madeM sg ns l)).shown]) := upd_same
      have hL4 := s4 _ _ hL
      generalize upd (upd H2 p3 (.lst [V.str (optD (madeM sg ns l)).shown])) p4 (.lst (List.replicate (2 : Int).toNat [V.str (optD (madeM sg ns l)).shown]).flatten) = H4 at s4 h4 hL4 ⊢
      refine ⟨_, rfl, _, _, rfl, .int _, hok2.sh, hok2.de, hok2.le, sz_le (n := 1) (by decide), fun p5 hp5 _ => ?_⟩
      refine ⟨p5, 2, _, rfl, rfl, upd_same, by decide, by decide, sz_le (n := 2) (by decide), fun p6 hp6 => ?_⟩
      have s6 := (same_new (o := HO.lst [V.str (PyData.int (many sg ns l : Nat)).shown]) hp5).trans (same_new (o := HO.lst (List.replicate (2 : Int).toNat [V.str (PyData.int (many sg ns l : Nat)).shown]).flatten) hp6)
      have h6 : upd (upd H4 p5 (.lst [V.str (PyData.int (many sg ns l : Nat)).shown])) p6 (.lst (List.replicate (2 : Int).toNat [V.str (PyData.int (many sg ns l : Nat)).shown]).flatten) p6 = some (.lst [V.str (PyData.int (many sg ns l : Nat)).shown, V.str (PyData.int (many sg ns l : Nat)).shown]) := upd_same
      refine ⟨p4, p6, _, _, rfl, rfl, s6 _ _ h4, h6, sz_le (n := 4) (by decide), fun p7 hp7 => ?_⟩
      have hL6 := s6 _ _ hL4
      have s06 := ((s1.trans s2).trans s4).trans s6
      refine ⟨L, p7, [V.str (optD (madeM sg ns l)).shown, V.str (optD (madeM sg ns l)).shown, V.str (PyData.int (many sg ns l : Nat)).shown, V.str (PyData.int (many sg ns l : Nat)).shown], rfl, rfl, SqL.of ?_, SqL.of upd_same, shown_flat _ _, false, rfl, ifF rfl ?_⟩
      · exact (same_new hp7) _ _ hL6
      have s07 := s06.trans (same_new (o := HO.lst ([V.str (optD (madeM sg ns l)).shown, V.str (optD (madeM sg ns l)).shown] ++ [V.str (PyData.int (many sg ns l : Nat)).shown, V.str (PyData.int (many sg ns l : Nat)).shown])) hp7)
      generalize upd _ p7 (.lst ([V.str (optD (madeM sg ns l)).shown, V.str (optD (madeM sg ns l)).shown] ++ [V.str (PyData.int (many sg ns l : Nat)).shown, V.str (PyData.int (many sg ns l : Nat)).shown])) = H7 at s07 ⊢
      have dk7 := hdk.same s07
      refine ⟨_, rfl, _, rfl, D, C, T, 3, sg, rfl, dk7, by omega, hs.pos, by have := hs.few; omega, by decide, fun H8 b hb1 hb2 dk8 off8 => ?_⟩
      refine ⟨_, rfl, _, rfl, _, _, rfl, len_S (by omega), _, rfl, _, _, rfl, rfl, _, rfl, S l, rfl, sz_le (by rw [SX.S_len]; omega), ?_⟩
      refine ⟨_, rfl, _, rfl, _, _, rfl, len_S (by omega), _, rfl, _, _, rfl, rfl, _, rfl, S l, rfl, sz_le (by rw [SX.S_len]; omega), _, _, _, rfl, ?_⟩
      have e7 : ((l.length : Nat) : Int) - (many sg ns l : Nat) = ((l.length - many sg ns l : Nat) : Int) := by omega
      have e8 : Txt.slice (S l) (some (((l.length : Nat) : Int) - (many sg ns l : Nat))) none = S (l.drop (l.length - many sg ns l)) := by
        rw [e7, SX.slice_from (by omega), Int.toNat_natCast]
      have e9 : Txt.slice (S l) none (some (((l.length : Nat) : Int) - (many sg ns l : Nat))) = S (l.take (l.length - many sg ns l)) := by
        rw [e7, SX.slice_to (by omega), Int.toNat_natCast]
      rw [e8, e9]
      have off08 : Off D C H H8 := (Off.same s07).trans off8
      have hrd8 := hrd.off off08 hdk
      have hat8 := hat.kp (KpT.off off08 hdk)
      have hcut : (l.drop (l.length - many sg ns l)).length ≤ 900 := by
        rw [List.length_drop]
        omega
      have hwb : wordOk sg (b ++ l.drop (l.length - many sg ns l)) := by
        refine ⟨fun c hc => ?_, by rw [List.length_append]; omega⟩
        rcases List.mem_append.mp hc with hc | hc
        · exact hb1 c hc
        · exact hl1 c (List.mem_of_mem_drop hc)
      have hbase : many sg ns l < l.length → ∀ w, madeM sg ns l = .some w → madeM sg ns (b ++ l.drop (l.length - many sg ns l)) = .some (b ++ w.drop (l.length - many sg ns l)) := fun h w hw => made_base h hw
      have hrest : (l.take (l.length - many sg ns l)).length = l.length - many sg ns l := by
        rw [List.length_take]
        omega
      have hrest0 : l.take (l.length - many sg ns l) ≠ [] → many sg ns l < l.length := by
        intro h
        have h2 := pos_of h
        omega
      generalize l.take (l.length - many sg ns l) = rest at hrest hrest0 ⊢
      generalize l.drop (l.length - many sg ns l) = cut at hcut hwb hbase ⊢
      have hb2' : b.length ≤ 3 := hb2
      have hcat : V.str (S b ++ S cut) = V.str (S (b ++ cut)) := congrArg V.str (SX.S_cat _ _)
      have hsz : (S b).length + (S cut).length ≤ sizeLine := by
        rw [SX.S_len, SX.S_len]
        exact sz_le (by omega)
      have hokb := optD_fits hs (madeM_ok hok hwb)
      have hint := int_fits (n := many sg ns (b ++ cut)) (by have := many_le sg ns (b ++ cut); have := hwb.2; omega)
      have shw : ShowOk (.list [optD (madeM sg ns (b ++ cut)), .int (many sg ns (b ++ cut) : Nat)]) := by
        obtain ⟨a1, a2, a3, a4, a5⟩ := hokb
        obtain ⟨b1, b2, b3, b4, b5⟩ := hint
        refine ⟨?_, ?_, shown_fits ?_ ?_ ?_ ?_⟩
        · show (_ && (_ && true)) = true
          rw [a5, b5]
          rfl
        · show max _ (max _ 0) + 1 ≤ 40
          rw [a2, b2]
          decide
        · show (_ && (_ && true)) = true
          rw [a1, b1]
          rfl
        · show max _ (max _ 0) + 1 ≤ 64
          rw [a2, b2]
          decide
        · show _ + 1 + (_ + 1 + 0) ≤ 1000000
          omega
        · show (_ && (_ && true)) = true
          rw [a4, b4]
          rfl
      obtain ⟨dx8, hdx8⟩ := hrd8
      refine ⟨_, rfl, r, dx8, rdF sg na, rfl, hdx8, rfl, _, rfl, _, rfl, S b, S cut, rfl, rfl, hsz, r, na, sg, ns, _, rfl, ⟨dx8, hdx8⟩, hat8, hok, hs, hix, Or.inl ⟨b ++ cut, ⟨hcat, hwb⟩, fun H9 s9 => ?_⟩⟩
      have hdx9 := s9 _ _ hdx8
      refine ⟨_, rfl, r, dx8, rdF sg na, rfl, hdx9, rfl, _, rfl, _, rfl, S b, S cut, rfl, rfl, hsz, r, na, sg, ns, _, rfl, ⟨dx8, hdx9⟩, hat8.same s9, hok, hs, hix, Or.inl ⟨b ++ cut, ⟨hcat, hwb⟩, fun H10 s10 => ?_⟩⟩
      refine ⟨sz_le (n := 2) (by decide), fun p11 hp11 hne11 => ⟨_, .list [optD (madeM sg ns (b ++ cut)), .int (many sg ns (b ++ cut) : Nat)], rfl, .lst hne11 (SqL.of upd_same) (.cons (dg_optV _) (.cons (.int _) .nil)), shw.sh, shw.de, shw.le, ?_⟩⟩
      have s11 := (s9.trans s10).trans (same_new (o := HO.lst [resMade sg ns (b ++ cut), resRead sg ns (b ++ cut)]) hp11)
      generalize upd H10 p11 (.lst [resMade sg ns (b ++ cut), resRead sg ns (b ++ cut)]) = H11 at s11 ⊢
      refine ⟨_, rfl, _, rfl, _, rfl, _, rfl, S b, S cut, rfl, rfl, hsz, sg, b ++ cut, na, ns, by rw [hcat]; rfl, hat8.same s11, hok, hs, hix, hwb, fun H12 p12 s12 hp12 => ?_⟩
      refine ⟨p12, _, rfl, hp12, fun p13 hp13 hne13 => ⟨_, .list [optD (madeM sg ns (b ++ cut)), .int (many sg ns (b ++ cut) : Nat)], rfl, .lst hne13 (SqL.of upd_same) (.cons (dg_optV _) (.cons (.int _) .nil)), shw.sh, shw.de, shw.le, ?_⟩⟩
      have s13 := (s11.trans s12).trans (same_new (o := HO.lst [optV (madeM sg ns (b ++ cut)), V.int (many sg ns (b ++ cut) : Nat)]) hp13)
      generalize upd H12 p13 (.lst [optV (madeM sg ns (b ++ cut)), V.int (many sg ns (b ++ cut) : Nat)]) = H13 at s13 ⊢
      refine ⟨rfl, _, rfl, ifF (by rw [decide_eq_true rfl]; rfl) ?_⟩
      have dk13 : DeckAt D C (T + 10) H13 := (dk8.same s13).mono (by omega)
      have off13 : Off D C H H13 := off08.trans (Off.same s13)
      have hdx13 := s13 _ _ hdx8
      have hat13 := hat8.same s13
      refine ⟨_, rfl, rfl, _, rfl, ?_⟩
      rw [str_is_nil]
      by_cases hr0 : rest = []
      · exact ifT (decide_eq_true hr0) (q H13 dk13 off13)
      · refine ifF (decide_eq_false hr0) ⟨_, rfl, rfl, _, rfl, ?_⟩
        have hm := hrest0 hr0
        cases hmd : madeM sg ns l with
        | none => exact ifT rfl (q H13 dk13 off13)
        | some wd =>
          have hwl := (madeM_ok hok hw wd hmd).2
          have hmb := hbase hm wd hmd
          refine ifF rfl ?_
          refine ⟨_, rfl, r, dx8, rdF sg na, rfl, hdx13, rfl, _, rfl, _, rfl, S b, S cut, rfl, rfl, hsz, r, na, sg, ns, _, rfl, ⟨dx8, hdx13⟩, hat13, hok, hs, hix, Or.inl ⟨b ++ cut, ⟨hcat, hwb⟩, fun H14 s14 => ?_⟩⟩
          refine ⟨_, rfl, _, rfl, _, rfl, _, _, rfl, len_S (by omega), _, rfl, S wd, rfl, sz_le (by rw [SX.S_len]; omega), ?_⟩
          have e5 : Txt.slice (S wd) (some ((rest.length : Nat) : Int)) none = S (wd.drop (l.length - many sg ns l)) := by
            rw [SX.slice_from (by omega), Int.toNat_natCast, hrest]
          have e6 : resMade sg ns (b ++ cut) = V.str (S (b ++ wd.drop (l.length - many sg ns l))) := by
            unfold resMade
            rw [hmb]
            rfl
          rw [e5]
          refine ⟨S b, S (wd.drop (l.length - many sg ns l)), rfl, rfl, ?_, ?_⟩
          · rw [SX.S_len, SX.S_len, List.length_drop]
            exact sz_le (by omega)
          · rw [e6, SX.S_cat]
            refine ⟨rfl, ?_⟩
            rw [decide_eq_true rfl]
            exact q H14 (dk13.same s14) (off13.trans (Off.same s14))
end
end Lw

namespace Mq
open PySem PySem.Spec PyProof.Rows L2
/-! ### a text, so many times -/
def repS (x : Str) (n : Nat) : Str := ⟨(List.replicate n x.cps).foldl (· ++ ·) #[]⟩
theorem op_mulS {X : Cx} : OpR X (binaryOp .Mult) (fun x y H Q => ∃ (z : Str) (n : Nat), x = .str z ∧ y = .int (n : Nat) ∧ 2 ≤ n ∧ n ≤ 1000 ∧ 1 ≤ z.length ∧ z.length ≤ 1000 ∧ (repS z n).length ≤ sizeLine ∧ Q (.str (repS z n)) H) := by
  intro pins s σ H x y v u Q I rx ry h
  obtain ⟨z, n, rfl, rfl, h1, h2, h3, h4, h5, q⟩ := h
  obtain ⟨t, rfl⟩ := rx
  obtain ⟨t', rfl⟩ := ry
  have hm : z.length * n ≤ 1000 * 1000 := Nat.mul_le_mul h4 h2
  have e1 : decide (((n : Nat) : Int) < -(2 ^ 63 : Int)) = false := decide_eq_false (by omega)
  have e2 : decide (((n : Nat) : Int) ≥ 2 ^ 63) = false := decide_eq_false (by omega)
  have e3 : (((n : Nat) : Int) == 1) = false := by
    rw [beq_eq_false_iff_ne]
    omega
  have e4 : (z.length == 0) = false := by
    rw [beq_eq_false_iff_ne]
    omega
  refine P.mul_str (by rw [e1, e2]; rfl) (fun _ _ => ?_) (fun _ _ => ?_) ?_
  · have hd : (1000 : Int) ≤ (2 ^ 63 - 1) / ((n : Nat) : Int) := by
      refine (Int.le_ediv_iff_mul_le (by omega)).mpr ?_
      omega
    omega
  · rw [Int.toNat_natCast]
    unfold Builtin.Str.tooLong
    exact decide_eq_false (by have : (1000 * 1000 : Nat) ≤ sizeLine := by decide
                              omega)
  · rw [if_neg (show ¬ ((n : Nat) : Int) < 1 by omega), e3, e4]
    exact ⟨h5, .str (repS z n), H, I.tok _, ⟨_, rfl⟩, q⟩
end Mq

namespace Lw
open PySem PySem.Spec PyProof.Rows L2 Mq
open SX (S)
/-! ### the letters that are drawn -/
def idxB (sg : List Nat) : Bool := sg.all fun c => decide ((Builtin.Str.occurrences (S sg) (S [c]) 0 (S sg).length 1).head? = some (sg.idxOf c))
theorem idx_of {sg : List Nat} (h : idxB sg = true) : IdxOk sg := by
  intro c hc
  have h1 := of_decide_eq_true (List.all_eq_true.mp h c hc)
  generalize Builtin.Str.occurrences (S sg) (S [c]) 0 (S sg).length 1 = o at h1 ⊢
  cases o with
  | nil => cases h1
  | cons a r =>
    cases h1
    exact ⟨r, rfl⟩
def menu : List (List Nat) := [[97, 98], [97, 98], [97, 109], [97, 98, 120]]
theorem sg_ok : ∀ sg ∈ menu, SgOk sg ∧ IdxOk sg := by
  intro sg h
  have h1 : (menu.all fun sg => decide (0 < sg.length) && (decide (sg.length ≤ 10) && (sg.all (fun c => decide (c < 128)) && (lettersB sg && idxB sg)))) = true := by decide +kernel
  have h2 := List.all_eq_true.mp h1 sg h
  obtain ⟨a, h2⟩ := Bool.and_eq_true_iff.mp h2
  obtain ⟨b, h2⟩ := Bool.and_eq_true_iff.mp h2
  obtain ⟨c, h2⟩ := Bool.and_eq_true_iff.mp h2
  obtain ⟨d, e⟩ := Bool.and_eq_true_iff.mp h2
  exact ⟨⟨of_decide_eq_true a, of_decide_eq_true b, fun x hx => of_decide_eq_true (List.all_eq_true.mp c x hx), d⟩, idx_of e⟩
/-! ### nodes are shown -/
theorem dg_ints {K : PySem.W.Frag} {H : Hp} : ∀ ts : List Nat, DgAll K H (intsV ts) (ts.map fun t => .int (t : Nat))
  | [] => .nil
  | t :: ts => .cons (.int _) (dg_ints ts)
theorem NdAt.dg {K : PySem.W.Frag} {H : Hp} {v : V} {n : Nd} (h : NdAt K H v n) : Dg K H v (ndD n) := by
  obtain ⟨a, rfl, ha⟩ := h
  cases n with
  | none => exact .tup ha (.cons (.str _) .nil)
  | stops w => exact .tup ha (.cons (.str _) (.cons (.str _) .nil))
  | reads b ts => exact .tup ha (.cons (.str _) (.cons (dg_optV b) (dg_ints ts)))
theorem NdAll.dg {K : PySem.W.Frag} {H : Hp} : ∀ {vs : List V} {ns : List Nd}, NdAll K H vs ns → DgAll K H vs (ns.map ndD)
  | _, _, .nil => .nil
  | _, _, .cons a b => .cons a.dg (NdAll.dg b)
theorem NodesAt.dg {K : PySem.W.Frag} {H : Hp} {a : Addr} {ns : List Nd} (h : NodesAt K H a ns) : Dg K H (.ref a) (.tuple (ns.map ndD)) := let ⟨_, x, y⟩ := h; .tup x y.dg
theorem ints_show {ts : List Nat} (h : ∀ t ∈ ts, t ≤ 1000) : PyData.showableAll (ts.map fun t => .int (t : Nat)) = true ∧ PyData.intsShortAll 13 (ts.map fun t => .int (t : Nat)) = true ∧ PyData.weightAll (ts.map fun t => .int (t : Nat)) ≤ 21 * ts.length := by
  induction ts with
  | nil => exact ⟨rfl, rfl, Nat.le_refl _⟩
  | cons t ts ih =>
    obtain ⟨a, b, c⟩ := ih fun x hx => h x (List.mem_cons_of_mem _ hx)
    obtain ⟨x, y, z⟩ := small_short t (h t List.mem_cons_self)
    refine ⟨?_, ?_, ?_⟩
    · show (_ && _) = true
      rw [y, a]
      rfl
    · show (decide _ && _) = true
      rw [decide_eq_true x, b]
      rfl
    · show (PyData.int (t : Nat)).weight + 1 + PyData.weightAll (ts.map fun t => .int (t : Nat)) ≤ 21 * (ts.length + 1)
      omega
theorem nd_show {sg : List Nat} (s : SgOk sg) {m : Nat} (hm : m ≤ 100) {n : Nd} (h : ndOk sg m n) : (ndD n).showable = true ∧ (ndD n).intsShort 13 = true ∧ (ndD n).weight ≤ 2000 := by
  cases n with
  | none => exact ⟨rfl, rfl, by decide +kernel⟩
  | stops w =>
    refine ⟨rfl, rfl, ?_⟩
    show ("stops" : Str).cps.size + 1 + ((S w).length + 1 + 0) ≤ 2000
    have h2 := h.2
    rw [SX.S_len, show ("stops" : Str).cps.size = 5 by decide +kernel]
    omega
  | reads b ts =>
    obtain ⟨h1, h2, h3⟩ := h
    obtain ⟨a, b', c⟩ := ints_show (ts := ts) (fun t ht => by have := h2 t ht; omega)
    have hf := s.few
    have hb : (optD b).showable = true ∧ (optD b).intsShort 13 = true ∧ (optD b).weight ≤ 1000 := by
      cases b with
      | none => exact ⟨rfl, rfl, Nat.zero_le _⟩
      | some w =>
        refine ⟨rfl, rfl, ?_⟩
        show (S w).length ≤ 1000
        rw [SX.S_len]
        exact (h3 w rfl).2
    refine ⟨?_, ?_, ?_⟩
    · show (true && ((optD b).showable && PyData.showableAll _)) = true
      rw [hb.1, a]
      rfl
    · show (true && ((optD b).intsShort 13 && PyData.intsShortAll 13 _)) = true
      rw [hb.2.1, b']
      rfl
    · show ("reads" : Str).cps.size + 1 + ((optD b).weight + 1 + PyData.weightAll _) ≤ 2000
      rw [show ("reads" : Str).cps.size = 5 by decide +kernel]
      have := hb.2.2
      omega
theorem nodes_show {sg : List Nat} (s : SgOk sg) {m : Nat} (hm : m ≤ 100) : ∀ {ns : List Nd}, (∀ n ∈ ns, ndOk sg m n) → PyData.showableAll (ns.map ndD) = true ∧ PyData.intsShortAll 13 (ns.map ndD) = true ∧ PyData.weightAll (ns.map ndD) ≤ 2001 * ns.length
  | [], _ => ⟨rfl, rfl, Nat.le_refl _⟩
  | n :: ns, h => by
    obtain ⟨a, b, c⟩ := nodes_show s hm (ns := ns) fun x hx => h x (List.mem_cons_of_mem _ hx)
    obtain ⟨x, y, z⟩ := nd_show s hm (h n List.mem_cons_self)
    refine ⟨?_, ?_, ?_⟩
    · show (_ && _) = true
      rw [x, a]
      rfl
    · show (_ && _) = true
      rw [y, b]
      rfl
    · show (ndD n).weight + 1 + PyData.weightAll (ns.map ndD) ≤ 2001 * (ns.length + 1)
      omega
theorem nodesD_ok {sg : List Nat} (s : SgOk sg) {ns : List Nd} (h : NodesOk sg ns) : ShowOk (.tuple (ns.map ndD)) := by
  obtain ⟨a, b, c⟩ := nodes_show s h.2.1 h.2.2
  obtain ⟨x, y⟩ := shaped_nodes s h.2.2
  have hl := h.2.1
  refine ⟨a, ?_, shown_fits x ?_ ?_ b⟩
  · show _ + 1 ≤ 40
    omega
  · show _ + 1 ≤ 64
    omega
  · show PyData.weightAll _ ≤ 1000000
    omega
end Lw

namespace Lw
open PySem PySem.Spec PyProof.Rows L2 Mq
open SX (S)
/-! ### values that are no webs -/
def oddV (p6 p7 p8 : Addr) : List V := [.non, .int 0, .bl true, .str "A", .str "aq", .ref p6, .ref p7, .ref p8, .str "-", .str "a ", .int ((10 : Int) ^ 39), .str "a\n"]
structure OddAt (K : PySem.W.Frag) (H : Hp) (p6 p7 p8 : Addr) : Prop where
  t6 : SqT K H p6 [.str "a"]
  t7 : H p7 = some (.lst [.str "a"])
  n7 : p7 ≠ sysModules
  t8 : H p8 = some (.dK [])
theorem bad_of {K : PySem.W.Frag} {H : Hp} {x : Str} (ws : List Nat) (e : x = S ws) (h : (menu.all fun sg => !allB ws sg) = true) (hl : ws.length ≤ 1000) {sg : List Nat} (hs : sg ∈ menu) : WebBad K H sg (.str x) := by
  refine Or.inl ⟨ws, by rw [e], hl, ?_⟩
  have h1 := List.all_eq_true.mp h sg hs
  revert h1
  cases allB ws sg
  · intro _
    rfl
  · intro h1
    cases h1
theorem no_of {K : PySem.W.Frag} {H : Hp} {v : V} {a : String} (t : TyX K H v (.type a)) (m : a ∈ ["NoneType", "bool", "int", "str", "list", "tuple", "dict"]) (n : a ≠ "str") {sg : List Nat} : WebBad K H sg v := Or.inr ⟨a, t, m, n⟩
def okB (d : PyData) : Bool := (badD d).showable && (decide ((badD d).depth ≤ 40) && decide ((badD d).shown.length ≤ 1000))
theorem ok_of {d : PyData} (h : okB d = true) : ShowOk (badD d) := by
  obtain ⟨a, b⟩ := Bool.and_eq_true_iff.mp h
  obtain ⟨b, c⟩ := Bool.and_eq_true_iff.mp b
  have c' := of_decide_eq_true c
  exact ⟨a, of_decide_eq_true b, Nat.le_trans c' (by decide)⟩
theorem odd_ok {K : PySem.W.Frag} {H : Hp} {p6 p7 p8 : Addr} (o : OddAt K H p6 p7 p8) {sg : List Nat} (hs : sg ∈ menu) : ∀ v ∈ oddV p6 p7 p8, WebBad K H sg v ∧ ∃ d, Dg K H v d ∧ ShowOk (badD d) := by
  intro v hv
  unfold oddV at hv
  simp only [List.mem_cons, List.not_mem_nil, or_false] at hv
  rcases hv with rfl | rfl | rfl | rfl | rfl | rfl | rfl | rfl | rfl | rfl | rfl | rfl
  · exact ⟨no_of (.base .non) (by decide) (by decide), _, .non, ok_of (by decide +kernel)⟩
  · exact ⟨no_of (.base (.int _)) (by decide) (by decide), _, .int _, ok_of (by decide +kernel)⟩
  · exact ⟨no_of (.base (.bl _)) (by decide) (by decide), _, .bl _, ok_of (by decide +kernel)⟩
  · exact ⟨bad_of [65] (by decide +kernel) (by decide +kernel) (by decide) hs, _, .str _, ok_of (by decide +kernel)⟩
  · exact ⟨bad_of [97, 113] (by decide +kernel) (by decide +kernel) (by decide) hs, _, .str _, ok_of (by decide +kernel)⟩
  · exact ⟨no_of (ty_tup o.t6) (by decide) (by decide), _, .tup o.t6 (.cons (.str _) .nil), ok_of (by decide +kernel)⟩
  · exact ⟨no_of (ty_list (SqL.of o.t7)) (by decide) (by decide), _, .lst o.n7 (SqL.of o.t7) (.cons (.str _) .nil), ok_of (by decide +kernel)⟩
  · exact ⟨no_of (.base (.dK o.t8)) (by decide) (by decide), _, .dct o.t8 .nil, ok_of (by decide +kernel)⟩
  · exact ⟨bad_of [45] (by decide +kernel) (by decide +kernel) (by decide) hs, _, .str _, ok_of (by decide +kernel)⟩
  · exact ⟨bad_of [97, 32] (by decide +kernel) (by decide +kernel) (by decide) hs, _, .str _, ok_of (by decide +kernel)⟩
  · exact ⟨no_of (.base (.int _)) (by decide) (by decide), _, .int _, ok_of (by decide +kernel)⟩
  · exact ⟨bad_of [97, 10] (by decide +kernel) (by decide +kernel) (by decide) hs, _, .str _, ok_of (by decide +kernel)⟩
/-! ### the reader that counts -/
def farN : List Nd := [.reads (.some [98]) [1, 0], .reads (.some [97]) [0, 1]]
theorem far_ok : NodesOk [97, 98] farN := by
  refine ⟨(fun z => nomatch z), by decide, ?_⟩
  intro n hn
  unfold farN at hn
  simp only [List.mem_cons, List.not_mem_nil, or_false] at hn
  rcases hn with rfl | rfl
  · exact ⟨rfl, by decide, fun w z => by cases z; exact ⟨by decide, by decide⟩⟩
  · exact ⟨rfl, by decide, fun w z => by cases z; exact ⟨by decide, by decide⟩⟩
def farA : List Nat := List.replicate 59 97
def farAB : List Nat := (List.replicate 30 [97, 98]).flatten
def farB : List Nat := List.replicate 60 98
theorem far_a : madeM [97, 98] farN farA = .some [97] ∧ many [97, 98] farN farAB = 60 ∧ madeM [97, 98] farN farB = .some [98] := by
  refine ⟨by decide +kernel, by decide +kernel, by decide +kernel⟩
theorem rep_a : repS "a" 59 = S farA ∧ repS "ab" 30 = S farAB ∧ repS "b" 60 = S farB := by
  refine ⟨by decide +kernel, by decide +kernel, by decide +kernel⟩
end Lw

namespace Lw
open PySem PySem.Spec PyProof.Rows L2 Mq
open SX (S)
def spLaw (K : PySem.W.Frag) : Sp := fun vs H Q _ => ∃ (a : Addr) (ns : List Int), vs = [.ref a] ∧ SqL K H a (ns.map V.int) ∧ ns.length ≤ 63 ∧ ∀ H', Q (.bl true) H'
theorem OddAt.same {K : PySem.W.Frag} {H H' : Hp} {p6 p7 p8 : Addr} (o : OddAt K H p6 p7 p8) (e : Same H H') : OddAt K H' p6 p7 p8 := ⟨Same.tup e o.t6, e _ _ o.t7, o.n7, e _ _ o.t8⟩
theorem new_ne {D C : Addr} {T : Nat} {H : Hp} {q : Addr} (k : DeckAt D C T H) (h : H q = none) : q ≠ D ∧ q ≠ C := by
  obtain ⟨_, _, _, e1, e2, _⟩ := k.ex
  refine ⟨?_, ?_⟩
  · rintro rfl
    rw [h] at e1
    cases e1
  · rintro rfl
    rw [h] at e2
    cases e2
/-- a new reader: what was there stays -/
theorem make_same {H H' : Hp} {x dx CR : Addr} (hx : H x = none) (hdx : H dx = none) (hne : dx ≠ x) (k : ∀ b o, upd (upd H dx (.own x)) x (.ins CR dx []) b = some o → b ≠ x → H' b = some o) : Same H H' := by
  intro b o e
  have e1 : b ≠ x := ne_of_none e hx
  have e2 : b ≠ dx := ne_of_none e hdx
  exact k b o ((upd_ne e1).trans ((upd_ne e2).trans e)) e1
theorem flat4 (x : Str) : ∀ v ∈ [V.str x, V.str x, V.str x, V.str x], flatB v = true := shown_flat x x
section
variable {P : Program} {w : World} {K : PySem.W.Frag} {mg : Str → Option Value} {base : Heap} {CR CW : Addr}
theorem ok_law {f fI fD fP fN fE fT fM fR fV : Addr} {fd fdI fdD fdP fdN fdE fdT fdM fdR fdV : FuncData} (F : Fun K "law" "law" s_law f fd) (B : Blt mg) (R : RdC K CR)
    (gC : mg "Reader" = some (.ref CR)) (M : Mk K CR fI) (bI : Binds K fdI ["self", "letters", "nodes"] []) (GI : FnOk P w K mg base CX0 6 fI fdI ["self", "letters", "nodes"] (spInit K CR))
    (FD : Fun K "_law_deck" "_law_deck" s__law_deck fD fdD) (gD : mg "_law_deck" = some (.ref fD)) (bD : Binds K fdD ["_law_script"] []) (GD : FnOk P w K mg base CX0 1 fD fdD ["_law_script"] (spDeck K))
    (FP : Fun K "_law_pick" "_law_pick" s__law_pick fP fdP) (gP : mg "_law_pick" = some (.ref fP)) (bP : Binds K fdP ["_law_deck_here", "_law_some"] []) (GP : FnOk P w K mg base CX0 2 fP fdP ["_law_deck_here", "_law_some"] spPick)
    (FN : Fun K "_law_nodes" "_law_nodes" s__law_nodes fN fdN) (gN : mg "_law_nodes" = some (.ref fN)) (bN : Binds K fdN ["_law_deck_here", "_law_signs", "_law_top"] []) (GN : FnOk P w K mg base CX0 4 fN fdN ["_law_deck_here", "_law_signs", "_law_top"] (spNodes K))
    (FE : Fun K "_law_heard" "_law_heard" s__law_heard fE fdE) (gE : mg "_law_heard" = some (.ref fE)) (bE : Binds K fdE ["_law_way", "_law_code", "_law_web"] []) (GE : FnG P w K mg base CX0 6 fE fdE ["_law_way", "_law_code", "_law_web"] (spHeard K CR))
    (FT : Fun K "_law_word" "_law_word" s__law_word fT fdT) (gT : mg "_law_word" = some (.ref fT)) (bT : Binds K fdT ["_law_deck_here", "_law_signs", "_law_most"] []) (GT : FnOk P w K mg base CX0 3 fT fdT ["_law_deck_here", "_law_signs", "_law_most"] spText)
    (FV : Fun K "_law_web_right" "_law_web_right" s__law_web_right fV fdV) (gV : mg "_law_web_right" = some (.ref fV)) (bV : Binds K fdV ["_law_deck_here", "_law_signs", "_law_nodes_here", "_law_code", "_law_web"] []) (GV : FnG P w K mg base CX0 7 fV fdV ["_law_deck_here", "_law_signs", "_law_nodes_here", "_law_code", "_law_web"] (spRight K CR))
    (mM : Meth K CR "made" fM) (bM : Binds K fdM ["self", "web"] []) (GM : FnOk P w K mg base (L2.CX P w) 4 fM fdM ["self", "web"] (spMade K CR CW resMade))
    (mR : Meth K CR "read_of" fR) (bR : Binds K fdR ["self", "web"] []) (GR : FnOk P w K mg base (L2.CX P w) 4 fR fdR ["self", "web"] (spMade K CR CW resRead)) :
    FnG P w K mg base CX0 8 f fd ["_law_script"] (spLaw K) := by
  refine Mq.Fun.okG F sc_law (fun vs H Q E h => ?_) (fun cdv A outer s H vs Q E gA hr h => ?_)
  · obtain ⟨_, _, rfl, _⟩ := h
    rfl
  · obtain ⟨a, ns0, rfl, ha, hn0, q⟩ := h
    have hu : (A.deeper (envOfC "law" (defScope s_law) s.heap.objs.size f cdv)).units + 64 < cLine := by
      have := hr.units
      omega
    have hr4 : Room 4 (A.deeper (envOfC "law" (defScope s_law) s.heap.objs.size f cdv)) := hr.mono (by decide)
    refine ⟨_, (pss_cons (ps_set (i := 1) sc_law.nd rfl (Or.inl rfl) (pe_call GD (hr.mono (by decide)) (by rfl) gD FD.kp bD .nil pass0 (pa_cons (pv 0) pa_nil)))
      (pss_cons (ps_for (passes_of rfl) rfl (pi_range1 (by rfl) B.range (pa_cons pe_int pa_nil)) (pg_name (i := 2) sc_law.nd rfl (Or.inl rfl))
        (pss_cons (ps_set (i := 3) sc_law.nd rfl (Or.inl rfl) (pe_call GP (hr.mono (by decide)) (by rfl) gP FP.kp bP .nil pass0 (pa_cons (pv 1) (pa_cons (Mq.pe_ls (pa_cons pe_str (pa_cons pe_str (pa_cons pe_str (pa_cons pe_str pa_nil))))) pa_nil))))
        (pss_cons (ps_set (i := 4) sc_law.nd rfl (Or.inl rfl) (pe_call GN (hr.mono (by decide)) (by rfl) gN FN.kp bN .nil pass0 (pa_cons (pv 1) (pa_cons (pv 3) (pa_cons pe_int pa_nil)))))
        (pss_cons (ps_set (i := 5) sc_law.nd rfl (Or.inr rfl) (pe_make M GI (hr.mono (by decide)) (by rfl) gC bI .nil pass0 (pa_cons (pv 3) (pa_cons (pv 4) pa_nil))))
        (pss_cons (ps_for (passes_of rfl) rfl (pi_range1 (by rfl) B.range (pa_cons pe_int pa_nil)) (pg_name (i := 6) sc_law.nd rfl (Or.inl rfl))
          (pss_one (ps_if (pt_not (pt_val (Mq.pe_callG GV gA (hr.mono (by decide)) (by rfl) gV FV.kp bV pass0 (pa_cons (pv 1) (pa_cons (pv 3) (pa_cons (pv 4) (pa_cons (pv 5) (pa_cons (pe_call GT (hr.mono (by decide)) (by rfl) gT FT.kp bT .nil pass0 (pa_cons (pv 1) (pa_cons (pv 3) (pa_cons pe_int pa_nil)))) pa_nil)))))))) (pss_one (ps_ret pe_bl)) pss_nil)))
        (pss_cons (ps_set (i := 7) sc_law.nd rfl (Or.inr rfl) (pe_call GP (hr.mono (by decide)) (by rfl) gP FP.kp bP .nil pass0 (pa_cons (pv 1) (pa_cons (Mq.pe_ls (pa_cons pe_non (pa_cons pe_int (pa_cons pe_bl (pa_cons pe_str (pa_cons pe_str (pa_cons (pe_tup (pa_cons pe_str pa_nil)) (pa_cons (Mq.pe_ls (pa_cons pe_str pa_nil)) (pa_cons pe_dnewK (pa_cons pe_str (pa_cons pe_str (pa_cons (pe_op op_pow pe_int pe_int) (pa_cons pe_str pa_nil))))))))))))) pa_nil))))
        (pss_cons (ps_set (i := 8) sc_law.nd rfl (Or.inl rfl) (pe_callB (call_rep hr gA) (by rfl) B.repr (by decide +kernel) (pa_cons (Mq.pe_ls (pa_cons pe_str (pa_cons (pv 7) (pa_cons pe_bl pa_nil)))) pa_nil)))
        (pss_one (ps_if (PW.pt (pw_or (pt_cmpR (op_neFl hu) (pe_lc (own := [("_law_way", 10)]) (g := gName 10) (tt := tYes) rfl sc_law.nd (pi_range1 (by rfl) B.range (pa_cons pe_int pa_nil)) (blkOk_by (own := [("_law_way", 10)]) (N := ["_law_script", "_law_deck_here", "_law_go", "_law_signs", "_law_nodes_here", "_law_code", "_law_turn", "_law_odd", "_law_due", "_law_far", "_law_way"]) (sc := defScope s_law) (by decide +kernel)) (fun _ _ _ _ _ => pg_name (i := 10) sc_law.nd rfl (Or.inl rfl)) (fun _ _ _ _ _ => pts_nil)
            (fun _ _ _ _ _ => (Mq.pe_callG GE gA (hr.mono (by decide)) (by rfl) gE FE.kp bE pass0 (pa_cons (pv 10) (pa_cons (pv 5) (pa_cons (pv 7) pa_nil)))))) (pe_op op_rep (Mq.pe_ls (pa_cons (pv 8) pa_nil)) pe_int) (nomark _))
          (pw_or1 (pt_cmpR op_ne (pe_callB (call_rep hr gA) (by rfl) B.repr (by decide +kernel) (pa_cons (pe_fld (pv 5) rfl) pa_nil)) (pe_callB (call_rep hr gA) (by rfl) B.repr (by decide +kernel) (pa_cons (pv 4) pa_nil)) (nomark _))))) (pss_one (ps_ret pe_bl)) pss_nil)))))))))
      (pss_cons (ps_set (i := 9) sc_law.nd rfl (Or.inl rfl) (pe_make M GI (hr.mono (by decide)) (by rfl) gC bI .nil pass0 (pa_cons pe_str (pa_cons (pe_tup (pa_cons (pe_tup (pa_cons pe_str (pa_cons pe_str (pa_cons pe_int (pa_cons pe_int pa_nil))))) (pa_cons (pe_tup (pa_cons pe_str (pa_cons pe_str (pa_cons pe_int (pa_cons pe_int pa_nil))))) pa_nil))) pa_nil))))
      (pss_one (ps_ret (pe_cmpR (op_eqD hu) (Mq.pe_ls (pa_cons (pe_methT (E := WE (fun _ _ _ _ => False)) (pv 9) R.cls mM GM hr4 bM (fun σ => passAt takes0 σ) (pa_cons (pe_op op_mulS pe_str pe_int) pa_nil)) (pa_cons (pe_methT (E := WE (fun _ _ _ _ => False)) (pv 9) R.cls mR GR hr4 bR (fun σ => passAt takes0 σ) (pa_cons (pe_op op_mulS pe_str pe_int) pa_nil)) (pa_cons (pe_methT (E := WE (fun _ _ _ _ => False)) (pv 9) R.cls mM GM hr4 bM (fun σ => passAt takes0 σ) (pa_cons (pe_op op_mulS pe_str pe_int) pa_nil)) pa_nil))))
        (Mq.pe_ls (pa_cons pe_str (pa_cons pe_int (pa_cons pe_str pa_nil)))) (nomark _))))))), ?_⟩
    refine ⟨_, rfl, a, ns0, rfl, ha, hn0, fun H1 D C s1 dk1 => ?_⟩
    refine ⟨4, rfl, by decide, by decide, ?_⟩
    refine for_it (walk_rng (n := 4)) (fun go σ H' => DeckAt D C (6000 * go) H' ∧ ∃ o2 o3 o4 o5 o6 o7 o8 o9 o10, σ = [some (.ref a), some (.ref D), o2, o3, o4, o5, o6, o7, o8, o9, o10]) ⟨dk1, _, _, _, _, _, _, _, _, _, rfl⟩ (fun _ _ _ _ _ => trivial) ?_ ?_
    · rintro go x0 σ H2 H2' hgo ⟨dk2, o2, o3, o4, o5, o6, o7, o8, o9, o10, rfl⟩ ⟨rfl, rfl⟩
      refine ⟨_, rfl, sz_le (n := 4) (by decide), fun p hp _ => ?_⟩
      have dk2' := dk2.same (same_new (o := HO.lst [V.str "ab", V.str "ab", V.str "am", V.str "abx"]) hp)
      refine ⟨D, C, _, .ref p, rfl, dk2', by omega, Or.inr ⟨p, _, rfl, upd_same, (new_ne dk2 hp).2, Nat.zero_lt_succ _, by decide, fun H3 v hv dk3 off3 => ?_⟩⟩
      obtain ⟨sg, hsg, rfl⟩ : ∃ sg ∈ menu, v = .str (S sg) := by
        simp only [List.mem_cons, List.not_mem_nil, or_false] at hv
        rcases hv with rfl | rfl | rfl | rfl
        · exact ⟨[97, 98], by decide, by decide +kernel⟩
        · exact ⟨[97, 98], by decide, by decide +kernel⟩
        · exact ⟨[97, 109], by decide, by decide +kernel⟩
        · exact ⟨[97, 98, 120], by decide, by decide +kernel⟩
      obtain ⟨hs, hix⟩ := sg_ok sg hsg
      refine ⟨_, rfl, _, rfl, D, C, _, 6, sg, rfl, dk3, by omega, hs, by decide, by decide, fun H4 na ns hat4 hok dk4 off4 => ?_⟩
      refine ⟨_, rfl, _, rfl, fun x dx hx hdx hne => ⟨x, dx, na, sg, ns, rfl, upd_same, ?_, hok, hs, fun H6 hrd6 keep => ⟨rfl, ?_⟩⟩⟩
      · exact (hat4.same (same_new hdx)).same (same_new ((upd_ne (Ne.symm hne)).trans hx))
      have s46 := make_same hx hdx hne keep
      have dk6 := dk4.same s46
      have hat6 := hat4.same s46
      refine ⟨8, rfl, by decide, by decide, ?_⟩
      refine for_it (walk_rng (n := 8)) (fun t σ H' => DeckAt D C (6000 * go + 1 + 5000 + 30 * t) H' ∧ RdAt H' CR x sg na ∧ NodesAt K H' na ns ∧ ∃ o6 o7 o8 o9 o10, σ = [some (.ref a), some (.ref D), some (.int (go : Nat)), some (.str (S sg)), some (.ref na), some (.ref x), o6, o7, o8, o9, o10])
        ⟨dk6, hrd6, hat6, _, _, _, _, _, rfl⟩ (fun _ _ _ _ _ => trivial) ?_ ?_
      · rintro t x1 σ H7 H7' ht ⟨dk7, hrd7, hat7, o6, o7, o8, o9, o10, rfl⟩ ⟨rfl, rfl⟩
        refine ⟨_, rfl, _, rfl, _, rfl, _, rfl, _, rfl, _, rfl, D, C, _, 8, sg, rfl, dk7, by omega, hs.pos, by have := hs.few; omega, by decide, fun H8 l hl1 hl2 dk8 off8 => ?_⟩
        refine ⟨D, C, _, sg, l, na, x, ns, rfl, dk8, by omega, hrd7.off off8 dk7, hat7.kp (KpT.off off8 dk7), hok, hs, hix, hl1, by omega, fun H9 dk9 off9 => ⟨_, rfl, ifF rfl ?_⟩⟩
        refine ⟨dk9.mono (by omega), (hrd7.off off8 dk7).off off9 dk8, (hat7.kp (KpT.off off8 dk7)).kp (KpT.off off9 dk8), _, _, _, _, _, rfl⟩
      · rintro σ H7 ⟨dk7, hrd7, hat7, o6, o7, o8, o9, o10, rfl⟩
        refine ⟨_, rfl, sz_le (n := 1) (by decide), fun p6 hp6 => ?_⟩
        have t1 : Same H7 (upd H7 p6 (.tup [V.str "a"])) := same_new hp6
        have z6 : SqT K (upd H7 p6 (.tup [V.str "a"])) p6 [V.str "a"] := Or.inl (Or.inl upd_same)
        generalize upd H7 p6 (.tup [V.str "a"]) = G1 at t1 z6 ⊢
        refine ⟨sz_le (n := 1) (by decide), fun p7 hp7 hn7 => ?_⟩
        obtain ⟨n7D, n7C⟩ := new_ne (dk7.same t1) hp7
        have t2 : Same H7 (upd G1 p7 (.lst [V.str "a"])) := t1.trans (same_new hp7)
        have w6 : SqT K (upd G1 p7 (.lst [V.str "a"])) p6 [V.str "a"] := Same.tup (same_new hp7) z6
        have w7 : upd G1 p7 (.lst [V.str "a"]) p7 = some (.lst [V.str "a"]) := upd_same
        generalize upd G1 p7 (.lst [V.str "a"]) = G2 at t2 w6 w7 ⊢
        refine fun p8 hp8 => ?_
        obtain ⟨n8D, n8C⟩ := new_ne (dk7.same t2) hp8
        have s3 : Same G2 (upd G2 p8 (.dK [])) := same_new hp8
        have t3 := t2.trans s3
        have od3 : OddAt K (upd G2 p8 (.dK [])) p6 p7 p8 := ⟨Same.tup s3 w6, s3 _ _ w7, hn7, upd_same⟩
        generalize upd G2 p8 (.dK []) = G3 at t3 od3 ⊢
        refine ⟨_, _, rfl, rfl, ⟨by decide, by decide, by decide⟩, sz_le (n := 12) (by decide), fun p12 hp12 _ => ?_⟩
        have s4 := same_new (o := HO.lst (oddV p6 p7 p8)) hp12
        have t4 := t3.trans s4
        have od4 := od3.same s4
        have n12C := (new_ne (dk7.same t3) hp12).2
        have h12 : upd G3 p12 (.lst (oddV p6 p7 p8)) p12 = some (.lst (oddV p6 p7 p8)) := upd_same
        refine ⟨D, C, _, .ref p12, rfl, dk7.same t4, by omega, Or.inr ⟨p12, oddV p6 p7 p8, rfl, h12, n12C, Nat.zero_lt_succ _, by show 12 ≤ 1000; decide, fun H11 v hv dk11 off11 => ?_⟩⟩
        have kp11 : KpT K _ H11 := KpT.off off11 (dk7.same t4)
        have od11 : OddAt K H11 p6 p7 p8 := ⟨kp11 _ _ od4.t6, off11 _ _ n7D n7C od4.t7, hn7, off11 _ _ n8D n8C od4.t8⟩
        have hrd11 := (hrd7.same t4).off off11 (dk7.same t4)
        have hat11 := (hat7.same t4).kp kp11
        obtain ⟨hbad, d, hd, hsh⟩ := odd_ok od11 hsg v hv
        refine ⟨_, rfl, sz_le (n := 3) (by decide), fun p hp hne => ?_⟩
        have s12 := same_new (o := HO.lst [V.str "bad", v, V.bl true]) hp
        refine ⟨_, badD d, rfl, .lst hne (SqL.of upd_same) (.cons (.str _) (.cons (hd.same s12) (.cons (.bl true) .nil))), hsh.sh, hsh.de, hsh.le, ?_⟩
        have od12 := od11.same s12
        have dk12 := dk11.same s12
        have hrd12 := hrd11.same s12
        have hat12 := hat11.same s12
        have hd12 := hd.same s12
        generalize upd H11 p (.lst [V.str "bad", v, V.bl true]) = H12 at od12 dk12 hrd12 hat12 hd12 ⊢
        unfold tIfS tOr tTest tOp gName
        dsimp only
        refine lc_map (n := 4) walk_rng (fun _ => .str (badD d).shown) (by decide) (fun R k => ⟨4, rfl, by decide, by decide, k _ (Same.refl _) trivial⟩) (fun _ _ _ _ _ => trivial) ?_ ?_
        · rintro i x2 G4 G5 R2 hi sm ⟨rfl, rfl⟩ k
          refine ⟨rfl, _, rfl, _, rfl, _, rfl, i, x, na, sg, ns, _, rfl, hi, hrd12.same sm, hat12.same sm, hok, hs, hix, Or.inr ⟨(odd_ok (od12.same sm) hsg v hv).1, d, hd12.same sm, hsh, fun G6 s6 => k G6 s6⟩⟩
        · intro L G4 hL0 s4' hL
          refine ⟨_, rfl, sz_le (n := 1) (by decide), fun p3 hp3 _ => ?_⟩
          refine ⟨p3, 4, _, rfl, rfl, upd_same, by decide, by decide, sz_le (n := 4) (by decide), fun p4 hp4 => ?_⟩
          have s5 := (same_new (o := HO.lst [V.str (badD d).shown]) hp3).trans (same_new (o := HO.lst (List.replicate (4 : Int).toNat [V.str (badD d).shown]).flatten) hp4)
          have h5 : upd (upd G4 p3 (.lst [V.str (badD d).shown])) p4 (.lst (List.replicate (4 : Int).toNat [V.str (badD d).shown]).flatten) p4 = some (.lst [V.str (badD d).shown, V.str (badD d).shown, V.str (badD d).shown, V.str (badD d).shown]) := upd_same
          have hL5 := s5 _ _ hL
          generalize upd (upd G4 p3 (.lst [V.str (badD d).shown])) p4 (.lst (List.replicate (4 : Int).toNat [V.str (badD d).shown]).flatten) = G5 at s5 h5 hL5 ⊢
          have s125 := s4'.trans s5
          have hrd5 := hrd12.same s125
          have hat5 := hat12.same s125
          have nok := nodesD_ok hs hok
          obtain ⟨dx5, hdx5⟩ := hrd5
          refine ⟨L, p4, _, rfl, rfl, SqL.of hL5, SqL.of h5, flat4 _, false, rfl, ifF rfl ?_⟩
          refine ⟨_, rfl, x, CR, dx5, _, .ref na, rfl, hdx5, R.cls, R.nN, rfl, _, _, rfl, hat5.dg, nok.sh, nok.de, nok.le, ?_⟩
          refine ⟨_, rfl, _, _, rfl, hat5.dg, nok.sh, nok.de, nok.le, rfl, _, rfl, ifF (by rw [decide_eq_true rfl]; rfl) ?_⟩
          exact ⟨(dk12.same s125).mono (by omega), _, _, _, _, _, _, _, _, _, rfl⟩
    · rintro σ H2 ⟨dk2, o2, o3, o4, o5, o6, o7, o8, o9, o10, rfl⟩
      refine ⟨sz_le (n := 4) (by decide), fun p1 hp1 => ⟨sz_le (n := 4) (by decide), fun p2 hp2 => ⟨sz_le (n := 2) (by decide), fun p3 hp3 => ?_⟩⟩⟩
      have e1 : [V.str "reads", V.str "b", V.int 1, V.int 0] = ndV (.reads (.some [98]) [1, 0]) := by decide +kernel
      have e2 : [V.str "reads", V.str "a", V.int 0, V.int 1] = ndV (.reads (.some [97]) [0, 1]) := by decide +kernel
      have e3 : V.str "ab" = V.str (S [97, 98]) := by decide +kernel
      obtain ⟨hs, hix⟩ := sg_ok [97, 98] (by decide)
      have c1 : SqT K (upd H2 p1 (.tup [V.str "reads", V.str "b", V.int 1, V.int 0])) p1 (ndV (.reads (.some [98]) [1, 0])) := by
        rw [e1]
        exact Or.inl (Or.inl upd_same)
      generalize upd H2 p1 (.tup [V.str "reads", V.str "b", V.int 1, V.int 0]) = G1 at c1 hp2 hp3 ⊢
      have c1' : SqT K (upd G1 p2 (.tup [V.str "reads", V.str "a", V.int 0, V.int 1])) p1 (ndV (.reads (.some [98]) [1, 0])) := Same.tup (same_new hp2) c1
      have c2 : SqT K (upd G1 p2 (.tup [V.str "reads", V.str "a", V.int 0, V.int 1])) p2 (ndV (.reads (.some [97]) [0, 1])) := by
        rw [e2]
        exact Or.inl (Or.inl upd_same)
      generalize upd G1 p2 (.tup [V.str "reads", V.str "a", V.int 0, V.int 1]) = G2 at c1' c2 hp3 ⊢
      have s3 := same_new (o := HO.tup [V.ref p1, V.ref p2]) hp3
      have c3 : NodesAt K (upd G2 p3 (.tup [V.ref p1, V.ref p2])) p3 farN := ⟨[.ref p1, .ref p2], Or.inl (Or.inl upd_same), .cons ⟨p1, rfl, Same.tup s3 c1'⟩ (.cons ⟨p2, rfl, Same.tup s3 c2⟩ .nil)⟩
      generalize upd G2 p3 (.tup [V.ref p1, V.ref p2]) = G3 at c3 ⊢
      refine fun x dx hx hdx hne => ⟨x, dx, p3, [97, 98], farN, by rw [← e3]; rfl, upd_same, ?_, far_ok, hs, fun G4 hrd keep => ⟨rfl, ?_⟩⟩
      · exact (c3.same (same_new hdx)).same (same_new ((upd_ne (Ne.symm hne)).trans hx))
      have hat4 := c3.same (make_same hx hdx hne keep)
      obtain ⟨dx4, hdx4⟩ := hrd
      obtain ⟨m1, m2, m3⟩ := far_a
      obtain ⟨r1, r2, r3⟩ := rep_a
      refine ⟨_, rfl, x, dx4, rdF [97, 98] p3, rfl, hdx4, rfl, "a", 59, rfl, rfl, by decide, by decide, by decide +kernel, by decide +kernel, by rw [r1]; decide +kernel, x, p3, [97, 98], farN, _, rfl, ⟨dx4, hdx4⟩, hat4, far_ok, hs, hix, Or.inl ⟨farA, ⟨congrArg V.str r1, by decide +kernel, by decide +kernel⟩, fun G5 s5 => ?_⟩⟩
      have hdx5 := s5 _ _ hdx4
      refine ⟨_, rfl, x, dx4, rdF [97, 98] p3, rfl, hdx5, rfl, "ab", 30, rfl, rfl, by decide, by decide, by decide +kernel, by decide +kernel, by rw [r2]; decide +kernel, x, p3, [97, 98], farN, _, rfl, ⟨dx4, hdx5⟩, hat4.same s5, far_ok, hs, hix, Or.inl ⟨farAB, ⟨congrArg V.str r2, by decide +kernel, by decide +kernel⟩, fun G6 s6 => ?_⟩⟩
      have hdx6 := s6 _ _ hdx5
      refine ⟨_, rfl, x, dx4, rdF [97, 98] p3, rfl, hdx6, rfl, "b", 60, rfl, rfl, by decide, by decide, by decide +kernel, by decide +kernel, by rw [r3]; decide +kernel, x, p3, [97, 98], farN, _, rfl, ⟨dx4, hdx6⟩, (hat4.same s5).same s6, far_ok, hs, hix, Or.inl ⟨farB, ⟨congrArg V.str r3, by decide +kernel, by decide +kernel⟩, fun G7 s7 => ?_⟩⟩
      have v1 : resMade [97, 98] farN farA = V.str "a" := by
        unfold resMade
        rw [m1]
        decide +kernel
      have v2 : resRead [97, 98] farN farAB = V.int 60 := by
        unfold resRead
        rw [m2]
        rfl
      have v3 : resMade [97, 98] farN farB = V.str "b" := by
        unfold resMade
        rw [m3]
        decide +kernel
      rw [v1, v2, v3]
      refine ⟨sz_le (n := 3) (by decide), fun p8 hp8 _ => ⟨sz_le (n := 3) (by decide), fun p9 hp9 _ => ?_⟩⟩
      have s9 := same_new (o := HO.lst [V.str "a", V.int 60, V.str "b"]) hp9
      refine ⟨.list [.str "a", .int 60, .str "b"], .list [.str "a", .int 60, .str "b"], .lst (SqL.of (s9 _ _ upd_same)) (.cons (.str _) (.cons (.int _) (.cons (.str _) .nil))), .lst (SqL.of upd_same) (.cons (.str _) (.cons (.int _) (.cons (.str _) .nil))), by decide +kernel, by decide +kernel, ?_⟩
      have e : PyData.eqv (.list [.str "a", .int 60, .str "b"]) (.list [.str "a", .int 60, .str "b"]) = true := by decide +kernel
      rw [e]
      exact q _
end
end Lw

namespace Lw
open PySem PySem.Spec PyProof.Rows L2 Mq
open SX (S)
theorem kbn_two {K : PySem.W.Frag} {x qual : Str} {st : Stmt} {f : Addr} {fd : FuncData} (F : Fun K x qual st f fd)
    (h : ∀ (kV doc pm : Value) (an : Option Addr) (cdv ct : Value) (a b : Value), bindArgs (PySem.W.fnOf x qual (defArgs st) (defBody st) (defScope st) .none kV doc pm an cdv ct) ⟨[a], [("web", b)]⟩ = pure [(("self" : Str), a), (("web" : Str), b)]) :
    KBn K fd ["self", "web"] 1 ["web"] (· ++ ·) (· ++ ·) := by
  obtain ⟨oc, od, kV, doc, pm, an, cdv, ct, osl, rfl, lk, hcd⟩ := F.ex
  refine ⟨fun s us ws _ h1 h2 => ?_, fun a b => a.append b⟩
  match us, ws, h1, h2 with
  | [a], [b], _, _ => exact .of_eq (h kV doc pm an cdv ct a b)
theorem exm_self {K : PySem.W.Frag} {D : Addr} (e1 : PySem.W.subIn K (.ref D) (.type "BaseException") = some true) (e2 : PySem.W.isClsIn K D = true) (e3 : PySem.W.typeIn K (.ref D) = some (.type "type"))
    (e4 : PySem.W.subIn K (.ref D) (.ref D) = some true) : PySem.W.exmOne K (.ref D) (.ref D) = some true := by
  have e5 : (PySem.W.clsIn K D).isSome = true := e2
  simp [PySem.W.exmOne, PySem.W.kitCls, e1, e3, e4, e5]
section
variable {K : PySem.W.Frag} {nm q : Str} {C CM N : Addr} {bs : List Value} {sn : List Str} {sub : List Value} {ab : Bool} {col : Option Bool} {dd : Option Addr} {m0 m1 m2 m3 m5 : Option Value}
theorem exc_init (h : K.lookup C = some (excClassObj nm q C N bs [.ref CM, .type "Exception", .type "BaseException", .type "object"] true sn sub ab col dd m0 m1 m2 m3 m5 "Exception.__new__")) :
    PySem.W.excInitIn K C exTail "Exception.__new__" = true := by
  unfold PySem.W.excInitIn
  rw [h]
  simp [excClassObj, PySem.W.excTail, exTail]
theorem exc_over (h : K.lookup C = some (excClassObj nm q C N bs [.ref CM, .type "Exception", .type "BaseException", .type "object"] true sn sub ab col dd m0 m1 m2 m3 m5 "Exception.__new__")) :
    PySem.W.excOver K C exTail = true := by
  unfold PySem.W.excOver PySem.W.clsIn
  rw [h]
  simp [excClassObj, PySem.W.excTail, exTail]
end
theorem all_mk {P : Program} {w : World} {K : PySem.W.Frag} {h : Heap} {mg : Str → Option Value} {fa CR CW CM fB : Addr} (X : K.In h) (G : h.Ns mainGlobals mg) (hfa : mg "law" = some (.ref fa))
    (aC : PySem.W.nsIn K mainGlobals "Reader" = some (some (.ref CR)))
    (aW : PySem.W.nsIn K mainGlobals "BadWeb" = some (some (.ref CW)))
    (aM : PySem.W.nsIn K mainGlobals "MillError" = some (some (.ref CM)))
    {nmW qW : Str} {NW : Addr} {bsW : List Value} {snW : List Str} {subW : List Value} {abW : Bool} {colW : Option Bool} {ddW : Option Addr} {m0 m1 m2 m3 m5 : Option Value}
    {f0 : Addr} {od0 an0 : Option Addr} {sl0 : Array (Option Value)} {oc0 kV0 dc0 pm0 cd0 ct0 : Value}
    (a0 : PySem.W.nsIn K mainGlobals "is_letters" = some (some (.ref f0)))
    (l0 : K.lookup f0 = some ⟨oc0, od0, .func (PySem.W.fnOf "is_letters" "is_letters" (defArgs s_is_letters) (defBody s_is_letters) (defScope s_is_letters) .none kV0 dc0 pm0 an0 cd0 ct0), sl0⟩)
    (c0 : PySem.W.codeIn K cd0 "is_letters" = true) (k0 : PySem.W.keepIn K (.ref f0) = true)
    {f1 : Addr} {od1 an1 : Option Addr} {sl1 : Array (Option Value)} {oc1 kV1 dc1 pm1 cd1 ct1 : Value}
    (a1 : PySem.W.nsIn K mainGlobals "is_word" = some (some (.ref f1)))
    (l1 : K.lookup f1 = some ⟨oc1, od1, .func (PySem.W.fnOf "is_word" "is_word" (defArgs s_is_word) (defBody s_is_word) (defScope s_is_word) .none kV1 dc1 pm1 an1 cd1 ct1), sl1⟩)
    (c1 : PySem.W.codeIn K cd1 "is_word" = true) (k1 : PySem.W.keepIn K (.ref f1) = true)
    {f2 : Addr} {od2 an2 : Option Addr} {sl2 : Array (Option Value)} {oc2 kV2 dc2 pm2 cd2 ct2 : Value}
    (a2 : PySem.W.nsIn K mainGlobals "is_number" = some (some (.ref f2)))
    (l2 : K.lookup f2 = some ⟨oc2, od2, .func (PySem.W.fnOf "is_number" "is_number" (defArgs s_is_number) (defBody s_is_number) (defScope s_is_number) .none kV2 dc2 pm2 an2 cd2 ct2), sl2⟩)
    (c2 : PySem.W.codeIn K cd2 "is_number" = true) (k2 : PySem.W.keepIn K (.ref f2) = true)
    {f3 : Addr} {od3 an3 : Option Addr} {sl3 : Array (Option Value)} {oc3 kV3 dc3 pm3 cd3 ct3 : Value}
    (a3 : PySem.W.nsIn K mainGlobals "is_below" = some (some (.ref f3)))
    (l3 : K.lookup f3 = some ⟨oc3, od3, .func (PySem.W.fnOf "is_below" "is_below" (defArgs s_is_below) (defBody s_is_below) (defScope s_is_below) .none kV3 dc3 pm3 an3 cd3 ct3), sl3⟩)
    (c3 : PySem.W.codeIn K cd3 "is_below" = true) (k3 : PySem.W.keepIn K (.ref f3) = true)
    {f4 : Addr} {od4 an4 : Option Addr} {sl4 : Array (Option Value)} {oc4 kV4 dc4 pm4 cd4 ct4 : Value}
    (a4 : PySem.W.nsIn K mainGlobals "is_ascending" = some (some (.ref f4)))
    (l4 : K.lookup f4 = some ⟨oc4, od4, .func (PySem.W.fnOf "is_ascending" "is_ascending" (defArgs s_is_ascending) (defBody s_is_ascending) (defScope s_is_ascending) .none kV4 dc4 pm4 an4 cd4 ct4), sl4⟩)
    (c4 : PySem.W.codeIn K cd4 "is_ascending" = true) (k4 : PySem.W.keepIn K (.ref f4) = true)
    {f5 : Addr} {od5 an5 : Option Addr} {sl5 : Array (Option Value)} {oc5 kV5 dc5 pm5 cd5 ct5 : Value}
    (a5 : PySem.W.nsIn K mainGlobals "is_reading" = some (some (.ref f5)))
    (l5 : K.lookup f5 = some ⟨oc5, od5, .func (PySem.W.fnOf "is_reading" "is_reading" (defArgs s_is_reading) (defBody s_is_reading) (defScope s_is_reading) .none kV5 dc5 pm5 an5 cd5 ct5), sl5⟩)
    (c5 : PySem.W.codeIn K cd5 "is_reading" = true) (k5 : PySem.W.keepIn K (.ref f5) = true)
    {f6 : Addr} {od6 an6 : Option Addr} {sl6 : Array (Option Value)} {oc6 kV6 dc6 pm6 cd6 ct6 : Value}
    (a6 : PySem.W.nsIn K mainGlobals "has_head" = some (some (.ref f6)))
    (l6 : K.lookup f6 = some ⟨oc6, od6, .func (PySem.W.fnOf "has_head" "has_head" (defArgs s_has_head) (defBody s_has_head) (defScope s_has_head) .none kV6 dc6 pm6 an6 cd6 ct6), sl6⟩)
    (c6 : PySem.W.codeIn K cd6 "has_head" = true) (k6 : PySem.W.keepIn K (.ref f6) = true)
    {T7 : Addr} {odT : Option Addr} {ocT : Value} {tT : Tok} {nT : Nat} {slT : Array (Option Value)}
    {f7 : Addr} {od7 an7 : Option Addr} {sl7 : Array (Option Value)} {oc7 kV7 dc7 pm7 cd7 ct7 : Value}
    (a7 : PySem.W.nsIn K mainGlobals "wrong_part" = some (some (.ref f7)))
    (l7 : K.lookup f7 = some ⟨oc7, od7, .func (PySem.W.fnOf "wrong_part" "wrong_part" (defArgs s_wrong_part) (defBody s_wrong_part) (defScope s_wrong_part) (.ref T7) kV7 dc7 pm7 an7 cd7 ct7), sl7⟩)
    (dT : K.lookup T7 = some ⟨ocT, odT, .seq #[.str "nodes" tT, .none] nT, slT⟩)
    (c7 : PySem.W.codeIn K cd7 "wrong_part" = true) (k7 : PySem.W.keepIn K (.ref f7) = true)
    {f8 : Addr} {od8 an8 : Option Addr} {sl8 : Array (Option Value)} {oc8 kV8 dc8 pm8 cd8 ct8 : Value}
    (a8 : PySem.W.nsIn K mainGlobals "walked" = some (some (.ref f8)))
    (l8 : K.lookup f8 = some ⟨oc8, od8, .func (PySem.W.fnOf "walked" "walked" (defArgs s_walked) (defBody s_walked) (defScope s_walked) .none kV8 dc8 pm8 an8 cd8 ct8), sl8⟩)
    (c8 : PySem.W.codeIn K cd8 "walked" = true) (k8 : PySem.W.keepIn K (.ref f8) = true)
    {f9 : Addr} {od9 an9 : Option Addr} {sl9 : Array (Option Value)} {oc9 kV9 dc9 pm9 cd9 ct9 : Value}
    (a9 : PySem.W.nsIn K mainGlobals "is_web" = some (some (.ref f9)))
    (l9 : K.lookup f9 = some ⟨oc9, od9, .func (PySem.W.fnOf "is_web" "is_web" (defArgs s_is_web) (defBody s_is_web) (defScope s_is_web) .none kV9 dc9 pm9 an9 cd9 ct9), sl9⟩)
    (c9 : PySem.W.codeIn K cd9 "is_web" = true) (k9 : PySem.W.keepIn K (.ref f9) = true)
    {f10 : Addr} {od10 an10 : Option Addr} {sl10 : Array (Option Value)} {oc10 kV10 dc10 pm10 cd10 ct10 : Value}
    (a10 : PySem.W.nsIn K mainGlobals "check_web" = some (some (.ref f10)))
    (l10 : K.lookup f10 = some ⟨oc10, od10, .func (PySem.W.fnOf "check_web" "check_web" (defArgs s_check_web) (defBody s_check_web) (defScope s_check_web) .none kV10 dc10 pm10 an10 cd10 ct10), sl10⟩)
    (c10 : PySem.W.codeIn K cd10 "check_web" = true) (k10 : PySem.W.keepIn K (.ref f10) = true)
    {f11 : Addr} {od11 an11 : Option Addr} {sl11 : Array (Option Value)} {oc11 kV11 dc11 pm11 cd11 ct11 : Value}
    (a11 : PySem.W.nsIn K mainGlobals "is_reader_node" = some (some (.ref f11)))
    (l11 : K.lookup f11 = some ⟨oc11, od11, .func (PySem.W.fnOf "is_reader_node" "is_reader_node" (defArgs s_is_reader_node) (defBody s_is_reader_node) (defScope s_is_reader_node) .none kV11 dc11 pm11 an11 cd11 ct11), sl11⟩)
    (c11 : PySem.W.codeIn K cd11 "is_reader_node" = true) (k11 : PySem.W.keepIn K (.ref f11) = true)
    {f12 : Addr} {od12 an12 : Option Addr} {sl12 : Array (Option Value)} {oc12 kV12 dc12 pm12 cd12 ct12 : Value}
    (a12 : PySem.W.nsIn K mainGlobals "made_by" = some (some (.ref f12)))
    (l12 : K.lookup f12 = some ⟨oc12, od12, .func (PySem.W.fnOf "made_by" "made_by" (defArgs s_made_by) (defBody s_made_by) (defScope s_made_by) .none kV12 dc12 pm12 an12 cd12 ct12), sl12⟩)
    (c12 : PySem.W.codeIn K cd12 "made_by" = true) (k12 : PySem.W.keepIn K (.ref f12) = true)
    {f13 : Addr} {od13 an13 : Option Addr} {sl13 : Array (Option Value)} {oc13 kV13 dc13 pm13 cd13 ct13 : Value}
    (a13 : PySem.W.nsIn K mainGlobals "_law_deck" = some (some (.ref f13)))
    (l13 : K.lookup f13 = some ⟨oc13, od13, .func (PySem.W.fnOf "_law_deck" "_law_deck" (defArgs s__law_deck) (defBody s__law_deck) (defScope s__law_deck) .none kV13 dc13 pm13 an13 cd13 ct13), sl13⟩)
    (c13 : PySem.W.codeIn K cd13 "_law_deck" = true) (k13 : PySem.W.keepIn K (.ref f13) = true)
    {f14 : Addr} {od14 an14 : Option Addr} {sl14 : Array (Option Value)} {oc14 kV14 dc14 pm14 cd14 ct14 : Value}
    (a14 : PySem.W.nsIn K mainGlobals "_law_draw" = some (some (.ref f14)))
    (l14 : K.lookup f14 = some ⟨oc14, od14, .func (PySem.W.fnOf "_law_draw" "_law_draw" (defArgs s__law_draw) (defBody s__law_draw) (defScope s__law_draw) .none kV14 dc14 pm14 an14 cd14 ct14), sl14⟩)
    (c14 : PySem.W.codeIn K cd14 "_law_draw" = true) (k14 : PySem.W.keepIn K (.ref f14) = true)
    {f15 : Addr} {od15 an15 : Option Addr} {sl15 : Array (Option Value)} {oc15 kV15 dc15 pm15 cd15 ct15 : Value}
    (a15 : PySem.W.nsIn K mainGlobals "_law_pick" = some (some (.ref f15)))
    (l15 : K.lookup f15 = some ⟨oc15, od15, .func (PySem.W.fnOf "_law_pick" "_law_pick" (defArgs s__law_pick) (defBody s__law_pick) (defScope s__law_pick) .none kV15 dc15 pm15 an15 cd15 ct15), sl15⟩)
    (c15 : PySem.W.codeIn K cd15 "_law_pick" = true) (k15 : PySem.W.keepIn K (.ref f15) = true)
    {f16 : Addr} {od16 an16 : Option Addr} {sl16 : Array (Option Value)} {oc16 kV16 dc16 pm16 cd16 ct16 : Value}
    (a16 : PySem.W.nsIn K mainGlobals "_law_word" = some (some (.ref f16)))
    (l16 : K.lookup f16 = some ⟨oc16, od16, .func (PySem.W.fnOf "_law_word" "_law_word" (defArgs s__law_word) (defBody s__law_word) (defScope s__law_word) .none kV16 dc16 pm16 an16 cd16 ct16), sl16⟩)
    (c16 : PySem.W.codeIn K cd16 "_law_word" = true) (k16 : PySem.W.keepIn K (.ref f16) = true)
    {f17 : Addr} {od17 an17 : Option Addr} {sl17 : Array (Option Value)} {oc17 kV17 dc17 pm17 cd17 ct17 : Value}
    (a17 : PySem.W.nsIn K mainGlobals "_law_nodes" = some (some (.ref f17)))
    (l17 : K.lookup f17 = some ⟨oc17, od17, .func (PySem.W.fnOf "_law_nodes" "_law_nodes" (defArgs s__law_nodes) (defBody s__law_nodes) (defScope s__law_nodes) .none kV17 dc17 pm17 an17 cd17 ct17), sl17⟩)
    (c17 : PySem.W.codeIn K cd17 "_law_nodes" = true) (k17 : PySem.W.keepIn K (.ref f17) = true)
    {f18 : Addr} {od18 an18 : Option Addr} {sl18 : Array (Option Value)} {oc18 kV18 dc18 pm18 cd18 ct18 : Value}
    (a18 : PySem.W.nsIn K mainGlobals "_law_made" = some (some (.ref f18)))
    (l18 : K.lookup f18 = some ⟨oc18, od18, .func (PySem.W.fnOf "_law_made" "_law_made" (defArgs s__law_made) (defBody s__law_made) (defScope s__law_made) .none kV18 dc18 pm18 an18 cd18 ct18), sl18⟩)
    (c18 : PySem.W.codeIn K cd18 "_law_made" = true) (k18 : PySem.W.keepIn K (.ref f18) = true)
    {f19 : Addr} {od19 an19 : Option Addr} {sl19 : Array (Option Value)} {oc19 kV19 dc19 pm19 cd19 ct19 : Value}
    (a19 : PySem.W.nsIn K mainGlobals "_law_heard" = some (some (.ref f19)))
    (l19 : K.lookup f19 = some ⟨oc19, od19, .func (PySem.W.fnOf "_law_heard" "_law_heard" (defArgs s__law_heard) (defBody s__law_heard) (defScope s__law_heard) .none kV19 dc19 pm19 an19 cd19 ct19), sl19⟩)
    (c19 : PySem.W.codeIn K cd19 "_law_heard" = true) (k19 : PySem.W.keepIn K (.ref f19) = true)
    {f20 : Addr} {od20 an20 : Option Addr} {sl20 : Array (Option Value)} {oc20 kV20 dc20 pm20 cd20 ct20 : Value}
    (a20 : PySem.W.nsIn K mainGlobals "_law_web_right" = some (some (.ref f20)))
    (l20 : K.lookup f20 = some ⟨oc20, od20, .func (PySem.W.fnOf "_law_web_right" "_law_web_right" (defArgs s__law_web_right) (defBody s__law_web_right) (defScope s__law_web_right) .none kV20 dc20 pm20 an20 cd20 ct20), sl20⟩)
    (c20 : PySem.W.codeIn K cd20 "_law_web_right" = true) (k20 : PySem.W.keepIn K (.ref f20) = true)
    {f21 : Addr} {od21 an21 : Option Addr} {sl21 : Array (Option Value)} {oc21 kV21 dc21 pm21 cd21 ct21 : Value}
    (a21 : PySem.W.nsIn K mainGlobals "law" = some (some (.ref f21)))
    (l21 : K.lookup f21 = some ⟨oc21, od21, .func (PySem.W.fnOf "law" "law" (defArgs s_law) (defBody s_law) (defScope s_law) .none kV21 dc21 pm21 an21 cd21 ct21), sl21⟩)
    (c21 : PySem.W.codeIn K cd21 "law" = true) (k21 : PySem.W.keepIn K (.ref f21) = true)
    {finit : Addr} {odinit aninit : Option Addr} {slinit : Array (Option Value)} {ocinit kVinit dcinit pminit cdinit ctinit : Value}
    (ainit : PySem.W.findIn K (.ref CR) "__init__" = some (some (.ref finit))) (iinit : PySem.W.isFn K (.ref finit) = true)
    (linit : K.lookup finit = some ⟨ocinit, odinit, .func (PySem.W.fnOf "__init__" "Reader.__init__" (defArgs s_Reader___init__) (defBody s_Reader___init__) (defScope s_Reader___init__) .none kVinit dcinit pminit aninit cdinit ctinit), slinit⟩)
    (cinit : PySem.W.codeIn K cdinit "Reader.__init__" = true) (kinit : PySem.W.keepIn K (.ref finit) = true)
    {fmade : Addr} {odmade anmade : Option Addr} {slmade : Array (Option Value)} {ocmade kVmade dcmade pmmade cdmade ctmade : Value}
    (amade : PySem.W.findIn K (.ref CR) "made" = some (some (.ref fmade))) (imade : PySem.W.isFn K (.ref fmade) = true)
    (lmade : K.lookup fmade = some ⟨ocmade, odmade, .func (PySem.W.fnOf "made" "Reader.made" (defArgs s_Reader_made) (defBody s_Reader_made) (defScope s_Reader_made) .none kVmade dcmade pmmade anmade cdmade ctmade), slmade⟩)
    (cmade : PySem.W.codeIn K cdmade "Reader.made" = true) (kmade : PySem.W.keepIn K (.ref fmade) = true)
    {freadof : Addr} {odreadof anreadof : Option Addr} {slreadof : Array (Option Value)} {ocreadof kVreadof dcreadof pmreadof cdreadof ctreadof : Value}
    (areadof : PySem.W.findIn K (.ref CR) "read_of" = some (some (.ref freadof))) (ireadof : PySem.W.isFn K (.ref freadof) = true)
    (lreadof : K.lookup freadof = some ⟨ocreadof, odreadof, .func (PySem.W.fnOf "read_of" "Reader.read_of" (defArgs s_Reader_read_of) (defBody s_Reader_read_of) (defScope s_Reader_read_of) .none kVreadof dcreadof pmreadof anreadof cdreadof ctreadof), slreadof⟩)
    (creadof : PySem.W.codeIn K cdreadof "Reader.read_of" = true) (kreadof : PySem.W.keepIn K (.ref freadof) = true)
    (b_len : PySem.W.nsIn K mainGlobals "len" = some none)
    (b_range : PySem.W.nsIn K mainGlobals "range" = some none)
    (b_isinstance : PySem.W.nsIn K mainGlobals "isinstance" = some none)
    (b_all : PySem.W.nsIn K mainGlobals "all" = some none)
    (b_any : PySem.W.nsIn K mainGlobals "any" = some none)
    (b_int : PySem.W.nsIn K mainGlobals "int" = some none)
    (b_str : PySem.W.nsIn K mainGlobals "str" = some none)
    (b_bool : PySem.W.nsIn K mainGlobals "bool" = some none)
    (b_tuple : PySem.W.nsIn K mainGlobals "tuple" = some none)
    (b_list : PySem.W.nsIn K mainGlobals "list" = some none)
    (b_repr : PySem.W.nsIn K mainGlobals "repr" = some none)
    (b_enumerate : PySem.W.nsIn K mainGlobals "enumerate" = some none)
    (pg : PySem.W.plainGet K CR Str.empty = true)
    (hd : PySem.W.hasDictIn K CR = true)
    (po : PySem.W.plainOver K CR = true)
    (sa : PySem.W.findIn K (.ref CR) "__setattr__" = some (some (.builtin "object.__setattr__")))
    (mk : PySem.W.makesIn K CR = true)
    (kc : PySem.W.keepIn K (.ref CR) = true)
    (nL : PySem.W.findIn K (.ref CR) "letters" = some none)
    (nN : PySem.W.findIn K (.ref CR) "nodes" = some none)
    (wk : PySem.W.keepIn K (.ref CW) = true)
    (wx : K.lookup CW = some (excClassObj nmW qW CW NW bsW [.ref CM, .type "Exception", .type "BaseException", .type "object"] true snW subW abW colW ddW m0 m1 m2 m3 m5 "Exception.__new__"))
    (wh : PySem.W.hasDictIn K CW = true)
    (wt : PySem.W.findIn K (.ref CW) "thing" = some none)
    (ws : PySem.W.findIn K (.ref CW) "__setattr__" = some (some (.builtin "object.__setattr__")))
    (wi : PySem.W.findIn K (.ref CW) "__init__" = some (some (.ref fB)))
    (wf : PySem.W.typeIn K (.ref fB) = some (.type "function"))
    (we : PySem.W.subIn K (.ref CW) (.type "BaseException") = some true)
    (wy : PySem.W.typeIn K (.ref CW) = some (.type "type"))
    (wg : PySem.W.findIn K (.ref CW) "__getattribute__" = some (some (.builtin "BaseException.__getattribute__")))
    (wa : PySem.W.findIn K (.ref CW) "__getattr__" = some none)
    (wc : PySem.W.isClsIn K CW = true)
    (wca : PySem.W.findIn K (.ref CW) "__class__" = some (some (.builtin "object.__class__")))
    (wsp : PySem.W.specialIn K (.builtin "object.__class__") "__get__" = some (some (.builtin "getset_descriptor.__get__")))
    (wtk : PySem.W.takesIn K (.builtin "object.__class__") = some true)
    (wmo : PySem.W.mroIn K CW (.type "object") = some true)
    (wss : PySem.W.subIn K (.ref CW) (.ref CW) = some true)
    (wkt : PySem.W.kitOne K (.ref CW) (.ref CM) = some true)
    {tA : Tok} (aA : PySem.W.nsIn K mainGlobals "ALPHABET" = some (some (.str "abcdefghijklmnopqrstuvwxyz" tA)))
    {odB anB : Option Addr} {slB : Array (Option Value)} {ocB dcB pmB cdB ctB : Value}
    (lB : K.lookup fB = some ⟨ocB, odB, .func (PySem.W.fnOf "__init__" "BadWeb.__init__" (MqE_thing.iA ⟨13, 17, 13, 21⟩ ⟨13, 23, 13, 28⟩) (MqE_thing.iB ⟨14, 8, 14, 12⟩ ⟨14, 8, 14, 18⟩ ⟨14, 21, 14, 26⟩ ⟨14, 8, 14, 26⟩) MqE_thing.iS .none .none dcB pmB anB cdB ctB), slB⟩) (cB : PySem.W.codeIn K cdB "BadWeb.__init__" = true) :
    ∃ fd : FuncData, (∀ (s : Shared) (u : Value), BindsTo s fd ⟨[u], []⟩ [("_law_script", u)]) ∧ ∀ base : Heap, K.In base → base.Ns mainGlobals mg → FnG P w K mg base CX0 8 fa fd ["_law_script"] (spLaw K) := by
  have e := hfa.symm.trans (PySem.W.mg_of X G a21)
  cases e
  have B : Blt mg := ⟨PySem.W.mg_none_of X G b_len, PySem.W.mg_none_of X G b_range, PySem.W.mg_none_of X G b_isinstance, PySem.W.mg_none_of X G b_all, PySem.W.mg_none_of X G b_any, PySem.W.mg_none_of X G b_int, PySem.W.mg_none_of X G b_str, PySem.W.mg_none_of X G b_bool, PySem.W.mg_none_of X G b_tuple, PySem.W.mg_none_of X G b_list, PySem.W.mg_none_of X G b_repr, PySem.W.mg_none_of X G b_enumerate⟩
  have F0 := fun_mk (st := s_is_letters) l0 c0 k0
  have g0 := PySem.W.mg_of X G a0
  have b0 := F0.binds (ps := ["thing"]) fun _ _ _ _ _ _ us hl => match us, hl with | [_], _ => rfl
  have F1 := fun_mk (st := s_is_word) l1 c1 k1
  have g1 := PySem.W.mg_of X G a1
  have b1 := F1.binds (ps := ["letters", "thing"]) fun _ _ _ _ _ _ us hl => match us, hl with | [_, _], _ => rfl
  have F2 := fun_mk (st := s_is_number) l2 c2 k2
  have g2 := PySem.W.mg_of X G a2
  have b2 := F2.binds (ps := ["thing"]) fun _ _ _ _ _ _ us hl => match us, hl with | [_], _ => rfl
  have F3 := fun_mk (st := s_is_below) l3 c3 k3
  have g3 := PySem.W.mg_of X G a3
  have b3 := F3.binds (ps := ["thing", "many"]) fun _ _ _ _ _ _ us hl => match us, hl with | [_, _], _ => rfl
  have F4 := fun_mk (st := s_is_ascending) l4 c4 k4
  have g4 := PySem.W.mg_of X G a4
  have b4 := F4.binds (ps := ["parts"]) fun _ _ _ _ _ _ us hl => match us, hl with | [_], _ => rfl
  have F5 := fun_mk (st := s_is_reading) l5 c5 k5
  have g5 := PySem.W.mg_of X G a5
  have b5 := F5.binds (ps := ["letters", "node", "many"]) fun _ _ _ _ _ _ us hl => match us, hl with | [_, _, _], _ => rfl
  have F6 := fun_mk (st := s_has_head) l6 c6 k6
  have g6 := PySem.W.mg_of X G a6
  have b6 := F6.binds (ps := ["thing"]) fun _ _ _ _ _ _ us hl => match us, hl with | [_], _ => rfl
  have F7 : FunD K "wrong_part" "wrong_part" (defArgs s_wrong_part) (defBody s_wrong_part) (defScope s_wrong_part) [.str "nodes", .non] [] f7 _ := ⟨⟨oc7, od7, .ref T7, kV7, dc7, pm7, an7, cd7, ct7, sl7, rfl, l7, c7, Or.inr ⟨by simp, T7, _, [.str "nodes" tT, .none], nT, rfl, dT, rfl, .cons ⟨tT, rfl⟩ (.cons rfl .nil)⟩, Or.inl rfl⟩, k7⟩
  have g7 := PySem.W.mg_of X G a7
  obtain ⟨dW, vW, b7⟩ := F7.binds1 (ps := ["letters", "nodes", "is_node", "word", "most"]) 3 0 (by simp) rfl (fun T kV doc pm an cdv ct us its h1 h2 => match us, its, h1, h2 with | [a, b, c], [d, e], _, _ => ⟨_, rfl, rfl⟩)
  have F8 := fun_mk (st := s_walked) l8 c8 k8
  have g8 := PySem.W.mg_of X G a8
  have b8 := F8.binds (ps := ["letters", "nodes", "start", "web"]) fun _ _ _ _ _ _ us hl => match us, hl with | [_, _, _, _], _ => rfl
  have F9 := fun_mk (st := s_is_web) l9 c9 k9
  have g9 := PySem.W.mg_of X G a9
  have b9 := F9.binds (ps := ["letters", "thing"]) fun _ _ _ _ _ _ us hl => match us, hl with | [_, _], _ => rfl
  have F10 := fun_mk (st := s_check_web) l10 c10 k10
  have g10 := PySem.W.mg_of X G a10
  have b10 := F10.binds (ps := ["letters", "thing"]) fun _ _ _ _ _ _ us hl => match us, hl with | [_, _], _ => rfl
  have F11 := fun_mk (st := s_is_reader_node) l11 c11 k11
  have g11 := PySem.W.mg_of X G a11
  have b11 := F11.binds (ps := ["letters", "node", "many"]) fun _ _ _ _ _ _ us hl => match us, hl with | [_, _, _], _ => rfl
  have F12 := fun_mk (st := s_made_by) l12 c12 k12
  have g12 := PySem.W.mg_of X G a12
  have b12 := F12.binds (ps := ["letters", "nodes", "web"]) fun _ _ _ _ _ _ us hl => match us, hl with | [_, _, _], _ => rfl
  have F13 := fun_mk (st := s__law_deck) l13 c13 k13
  have g13 := PySem.W.mg_of X G a13
  have b13 := F13.binds (ps := ["_law_script"]) fun _ _ _ _ _ _ us hl => match us, hl with | [_], _ => rfl
  have F14 := fun_mk (st := s__law_draw) l14 c14 k14
  have g14 := PySem.W.mg_of X G a14
  have b14 := F14.binds (ps := ["_law_deck_here", "_law_below"]) fun _ _ _ _ _ _ us hl => match us, hl with | [_, _], _ => rfl
  have F15 := fun_mk (st := s__law_pick) l15 c15 k15
  have g15 := PySem.W.mg_of X G a15
  have b15 := F15.binds (ps := ["_law_deck_here", "_law_some"]) fun _ _ _ _ _ _ us hl => match us, hl with | [_, _], _ => rfl
  have F16 := fun_mk (st := s__law_word) l16 c16 k16
  have g16 := PySem.W.mg_of X G a16
  have b16 := F16.binds (ps := ["_law_deck_here", "_law_signs", "_law_most"]) fun _ _ _ _ _ _ us hl => match us, hl with | [_, _, _], _ => rfl
  have F17 := fun_mk (st := s__law_nodes) l17 c17 k17
  have g17 := PySem.W.mg_of X G a17
  have b17 := F17.binds (ps := ["_law_deck_here", "_law_signs", "_law_top"]) fun _ _ _ _ _ _ us hl => match us, hl with | [_, _, _], _ => rfl
  have F18 := fun_mk (st := s__law_made) l18 c18 k18
  have g18 := PySem.W.mg_of X G a18
  have b18 := F18.binds (ps := ["_law_signs", "_law_nodes_here", "_law_web"]) fun _ _ _ _ _ _ us hl => match us, hl with | [_, _, _], _ => rfl
  have F19 := fun_mk (st := s__law_heard) l19 c19 k19
  have g19 := PySem.W.mg_of X G a19
  have b19 := F19.binds (ps := ["_law_way", "_law_code", "_law_web"]) fun _ _ _ _ _ _ us hl => match us, hl with | [_, _, _], _ => rfl
  have F20 := fun_mk (st := s__law_web_right) l20 c20 k20
  have g20 := PySem.W.mg_of X G a20
  have b20 := F20.binds (ps := ["_law_deck_here", "_law_signs", "_law_nodes_here", "_law_code", "_law_web"]) fun _ _ _ _ _ _ us hl => match us, hl with | [_, _, _, _, _], _ => rfl
  have F21 := fun_mk (st := s_law) l21 c21 k21
  have g21 := PySem.W.mg_of X G a21
  have b21 := F21.binds (ps := ["_law_script"]) fun _ _ _ _ _ _ us hl => match us, hl with | [_], _ => rfl
  have Finit := fun_mk (st := s_Reader___init__) linit cinit kinit
  have binit := Finit.binds (ps := ["self", "letters", "nodes"]) fun _ _ _ _ _ _ us hl => match us, hl with | [_, _, _], _ => rfl
  have Fmade := fun_mk (st := s_Reader_made) lmade cmade kmade
  have bmade := Fmade.binds (ps := ["self", "web"]) fun _ _ _ _ _ _ us hl => match us, hl with | [_, _], _ => rfl
  have Freadof := fun_mk (st := s_Reader_read_of) lreadof creadof kreadof
  have breadof := Freadof.binds (ps := ["self", "web"]) fun _ _ _ _ _ _ us hl => match us, hl with | [_, _], _ => rfl
  have R : RdC K CR := ⟨⟨pg, hd, po, sa⟩, nL, nN⟩
  have TW : MqE_thing.Txt K mg "BadWeb" "BadWeb.__init__" CW fB := ⟨PySem.W.mg_of X G aW, wk, exc_init wx, exc_over wx, wh, NoAttr.taker wt, ws, wi, wf, we, wy, _, _, _, _, _, _, _, _, _, _, _, _, _, _, lB, cB⟩
  have ER : ErrT K mg CW CM fB := ⟨TW, ⟨wg, wa, we, wh⟩, wt, ⟨wc, wg, wa, we, wca, wsp, wtk, wmo⟩, PySem.W.mg_of X G aM, wkt, exm_self we wc wy wss⟩
  have km : KBn K _ ["self", "web"] 1 ["web"] (· ++ ·) (· ++ ·) := kbn_two Fmade fun _ _ _ _ _ _ _ _ => rfl
  have kr : KBn K _ ["self", "web"] 1 ["web"] (· ++ ·) (· ++ ·) := kbn_two Freadof fun _ _ _ _ _ _ _ _ => rfl
  refine ⟨PySem.W.fnOf "law" "law" (defArgs s_law) (defBody s_law) (defScope s_law) .none kV21 dc21 pm21 an21 cd21 ct21, fun s u => .of_eq rfl, fun base _ _ => ?_⟩
  have Gasc : FnOk P w K mg base CX0 1 f4 _ ["parts"] spAsc := ok_is_ascending F4 B
  have Glet : FnOk P w K mg base CX0 2 f0 _ ["thing"] (spLetters K) := ok_is_letters F0 B F4 g4 b4 ⟨tA, PySem.W.mg_of X G aA⟩
  have Gweb : FnOk P w K mg base CX0 2 f9 _ ["letters", "thing"] (spWord K) := ok_is_web F9 B F1 g1 b1
  have Gbel : FnOk P w K mg base CX0 2 f3 _ ["thing", "many"] spBelow := ok_is_below F3 B F2 g2 b2
  have Grea : FnOk P w K mg base CX0 3 f5 _ ["letters", "node", "many"] (spReading K) := ok_is_reading F5 B F3 g3 b3 Gbel
  have Gnod : FnOk P w K mg base CX0 4 f11 _ ["letters", "node", "many"] (spNode K) := ok_is_reader_node F11 B F6 g6 b6 F5 g5 b5 F9 g9 b9 Grea Gweb
  have Gwro : FnOk P w K mg base CX0 5 f7 _ ["letters", "nodes", "is_node", "word", "most"] (spWrong K f11) := ok_wrong_part F7 B F0 g0 b0 Glet F11 b11 Gnod
  have Gwal : FnOk P w K mg base CX0 1 f8 _ ["letters", "nodes", "start", "web"] (spWalked K) := ok_walked F8 B
  have Gmby : FnOk P w K mg base CX0 2 f12 _ ["letters", "nodes", "web"] (spMadeBy K) := ok_made_by F12 B F8 g8 b8
  have Gche : FnOk P w K mg base (L2.CX P w) 3 f10 _ ["letters", "thing"] (spCheck K CW) := ok_check_web F10 B F9 g9 b9 Gweb TW
  have Gini : FnOk P w K mg base CX0 6 finit _ ["self", "letters", "nodes"] (spInit K CR) := ok_init Finit R k7 g7 b7 vW g11 Gwro
  have Gmad : FnOk P w K mg base (L2.CX P w) 4 fmade _ ["self", "web"] (spMade K CR CW resMade) := ok_made Fmade R F10 g10 b10 Gche F12 g12 b12 Gmby
  have Grof : FnOk P w K mg base (L2.CX P w) 4 freadof _ ["self", "web"] (spMade K CR CW resRead) := ok_read_of Freadof B R F10 g10 b10 Gche F8 g8 b8 Gwal
  have Gdec : FnOk P w K mg base CX0 1 f13 _ ["_law_script"] (spDeck K) := ok_deck F13 B
  have Gpic : FnOk P w K mg base CX0 2 f15 _ ["_law_deck_here", "_law_some"] spPick := ok_pick F15 B F14 g14 b14
  have Gtex : FnOk P w K mg base CX0 3 f16 _ ["_law_deck_here", "_law_signs", "_law_most"] spText := ok_text F16 B F14 g14 b14 F15 g15 b15
  have Gnds : FnOk P w K mg base CX0 4 f17 _ ["_law_deck_here", "_law_signs", "_law_top"] (spNodes K) := ok_nodes F17 B F14 g14 b14 F15 g15 b15 F16 g16 b16
  have Glma : FnOk P w K mg base CX0 1 f18 _ ["_law_signs", "_law_nodes_here", "_law_web"] (spLawMade K) := ok_law_made F18 B
  have mM : Meth K CR "made" fmade := ⟨amade, imade, kmade⟩
  have mR : Meth K CR "read_of" freadof := ⟨areadof, ireadof, kreadof⟩
  have Ghea : FnG P w K mg base CX0 6 f19 _ ["_law_way", "_law_code", "_law_web"] (spHeard K CR) := ok_heard F19 B R ER mM bmade km Gmad mR breadof kr Grof
  have Grig : FnG P w K mg base CX0 7 f20 _ ["_law_deck_here", "_law_signs", "_law_nodes_here", "_law_code", "_law_web"] (spRight K CR) := ok_right F20 B R F19 g19 b19 Ghea F18 g18 b18 Glma F16 g16 b16 Gtex mM bmade Gmad mR breadof Grof
  exact ok_law F21 B R (PySem.W.mg_of X G aC) ⟨mk, ainit, iinit, kc⟩ binit Gini F13 g13 b13 Gdec F15 g15 b15 Gpic F17 g17 b17 Gnds F19 g19 b19 Ghea F16 g16 b16 Gtex F20 g20 b20 Grig mM bmade Gmad mR breadof Grof
/-- the walk of the row's own law -/
theorem walk_law {l : PySem.W.OpenLaw} {q : Program} {loose : List Str} {XP : (Str → Option Value) → Heap → Prop} {YP : World → Heap → Prop} {d : DefRec} {K : Params → PySem.W.Frag} (hn : l.most = some 63) (hdf : d.params.defaults = [])
    (hY : ∀ (w : World) (h : Heap), YP w h → (K w.params).In h)
    (F : ∀ (w : World) (mg : Str → Option Value) (fa : Addr) (h : Heap), (K w.params).In h → h.Ns mainGlobals mg → mg d.name = some (.ref fa) →
      ∃ fd : FuncData, (∀ (s : Shared) (u : Value), BindsTo s fd ⟨[u], []⟩ [("_law_script", u)]) ∧ ∀ base : Heap, (K w.params).In base → base.Ns mainGlobals mg → FnG l.prog w (K w.params) mg base CX0 8 fa fd ["_law_script"] (spLaw (K w.params))) :
    PySem.W.WalkO q loose XP YP l.row.toRowW d [] (fun f vs => PySem.call f vs) :=
  Mq.walk_ofG (n := 63) (k := 8) (x := "_law_script") (CX := fun _ => CX0) (sp := fun w => spLaw (K w.params)) hn (by decide) hdf ⟨rfl, by decide, by decide⟩ hY F (fun _ _ a ns hl _ hS => ⟨a, ns, rfl, hS, hl, fun _ => rfl⟩) fun _ _ _ _ _ z => z
end Lw

open PySem PySem.W PyProof.Rows
set_option maxRecDepth 100000 in
set_option maxHeartbeats 8000000 in
theorem PySem.Challenge.cw_millhands_k08_what_readers_make_holds : PySem.Challenge.rw_millhands_k08_what_readers_make.Holds := by
  w_on; o_law; k_head; (case hw => w_witness2)
  k_fill
  refine Lw.walk_law (l := PySem.Challenge.rw_millhands_k08_what_readers_make) rfl rfl (fun w h Y => PySem.W.kIn_of Y) ?F
  case F =>
    intro w mg fa h KX G hmg
    refine' Lw.all_mk KX G hmg ?z_aC ?z_aW ?z_aM ?z_a0 ?z_l0 ?z_c0 ?z_k0 ?z_a1 ?z_l1 ?z_c1 ?z_k1 ?z_a2 ?z_l2 ?z_c2 ?z_k2 ?z_a3 ?z_l3 ?z_c3 ?z_k3 ?z_a4 ?z_l4 ?z_c4 ?z_k4 ?z_a5 ?z_l5 ?z_c5 ?z_k5 ?z_a6 ?z_l6 ?z_c6 ?z_k6 ?z_a7 ?z_l7 ?z_dT ?z_c7 ?z_k7 ?z_a8 ?z_l8 ?z_c8 ?z_k8 ?z_a9 ?z_l9 ?z_c9 ?z_k9 ?z_a10 ?z_l10 ?z_c10 ?z_k10 ?z_a11 ?z_l11 ?z_c11 ?z_k11 ?z_a12 ?z_l12 ?z_c12 ?z_k12 ?z_a13 ?z_l13 ?z_c13 ?z_k13 ?z_a14 ?z_l14 ?z_c14 ?z_k14 ?z_a15 ?z_l15 ?z_c15 ?z_k15 ?z_a16 ?z_l16 ?z_c16 ?z_k16 ?z_a17 ?z_l17 ?z_c17 ?z_k17 ?z_a18 ?z_l18 ?z_c18 ?z_k18 ?z_a19 ?z_l19 ?z_c19 ?z_k19 ?z_a20 ?z_l20 ?z_c20 ?z_k20 ?z_a21 ?z_l21 ?z_c21 ?z_k21 ?z_ainit ?z_iinit ?z_linit ?z_cinit ?z_kinit ?z_amade ?z_imade ?z_lmade ?z_cmade ?z_kmade ?z_areadof ?z_ireadof ?z_lreadof ?z_creadof ?z_kreadof ?z_b_len ?z_b_range ?z_b_isinstance ?z_b_all ?z_b_any ?z_b_int ?z_b_str ?z_b_bool ?z_b_tuple ?z_b_list ?z_b_repr ?z_b_enumerate ?z_pg ?z_hd ?z_po ?z_sa ?z_mk ?z_kc ?z_nL ?z_nN ?z_wk ?z_wx ?z_wh ?z_wt ?z_ws ?z_wi ?z_wf ?z_we ?z_wy ?z_wg ?z_wa ?z_wc ?z_wca ?z_wsp ?z_wtk ?z_wmo ?z_wss ?z_wkt ?z_aA ?z_lB ?z_cB
    (case z_aC => k_is)
    (case z_aW => k_is)
    (case z_aM => k_is)
    (case z_a0 => k_is)
    (case z_l0 => k_is)
    (case z_c0 => k_is)
    (case z_k0 => k_is)
    (case z_a1 => k_is)
    (case z_l1 => k_is)
    (case z_c1 => k_is)
    (case z_k1 => k_is)
    (case z_a2 => k_is)
    (case z_l2 => k_is)
    (case z_c2 => k_is)
    (case z_k2 => k_is)
    (case z_a3 => k_is)
    (case z_l3 => k_is)
    (case z_c3 => k_is)
    (case z_k3 => k_is)
    (case z_a4 => k_is)
    (case z_l4 => k_is)
    (case z_c4 => k_is)
    (case z_k4 => k_is)
    (case z_a5 => k_is)
    (case z_l5 => k_is)
    (case z_c5 => k_is)
    (case z_k5 => k_is)
    (case z_a6 => k_is)
    (case z_l6 => k_is)
    (case z_c6 => k_is)
    (case z_k6 => k_is)
    (case z_a7 => k_is)
    (case z_l7 => k_is)
    (case z_dT => k_is)
    (case z_c7 => k_is)
    (case z_k7 => k_is)
    (case z_a8 => k_is)
    (case z_l8 => k_is)
    (case z_c8 => k_is)
    (case z_k8 => k_is)
    (case z_a9 => k_is)
    (case z_l9 => k_is)
    (case z_c9 => k_is)
    (case z_k9 => k_is)
    (case z_a10 => k_is)
    (case z_l10 => k_is)
    (case z_c10 => k_is)
    (case z_k10 => k_is)
    (case z_a11 => k_is)
    (case z_l11 => k_is)
    (case z_c11 => k_is)
    (case z_k11 => k_is)
    (case z_a12 => k_is)
    (case z_l12 => k_is)
    (case z_c12 => k_is)
    (case z_k12 => k_is)
    (case z_a13 => k_is)
    (case z_l13 => k_is)
    (case z_c13 => k_is)
    (case z_k13 => k_is)
    (case z_a14 => k_is)
    (case z_l14 => k_is)
    (case z_c14 => k_is)
    (case z_k14 => k_is)
    (case z_a15 => k_is)
    (case z_l15 => k_is)
    (case z_c15 => k_is)
    (case z_k15 => k_is)
    (case z_a16 => k_is)
    (case z_l16 => k_is)
    (case z_c16 => k_is)
    (case z_k16 => k_is)
    (case z_a17 => k_is)
    (case z_l17 => k_is)
    (case z_c17 => k_is)
    (case z_k17 => k_is)
    (case z_a18 => k_is)
    (case z_l18 => k_is)
    (case z_c18 => k_is)
    (case z_k18 => k_is)
    (case z_a19 => k_is)
    (case z_l19 => k_is)
    (case z_c19 => k_is)
    (case z_k19 => k_is)
    (case z_a20 => k_is)
    (case z_l20 => k_is)
    (case z_c20 => k_is)
    (case z_k20 => k_is)
    (case z_a21 => k_is)
    (case z_l21 => k_is)
    (case z_c21 => k_is)
    (case z_k21 => k_is)
    (case z_ainit => k_is)
    (case z_iinit => k_is)
    (case z_linit => k_is)
    (case z_cinit => k_is)
    (case z_kinit => k_is)
    (case z_amade => k_is)
    (case z_imade => k_is)
    (case z_lmade => k_is)
    (case z_cmade => k_is)
    (case z_kmade => k_is)
    (case z_areadof => k_is)
    (case z_ireadof => k_is)
    (case z_lreadof => k_is)
    (case z_creadof => k_is)
    (case z_kreadof => k_is)
    (case z_b_len => k_is)
    (case z_b_range => k_is)
    (case z_b_isinstance => k_is)
    (case z_b_all => k_is)
    (case z_b_any => k_is)
    (case z_b_int => k_is)
    (case z_b_str => k_is)
    (case z_b_bool => k_is)
    (case z_b_tuple => k_is)
    (case z_b_list => k_is)
    (case z_b_repr => k_is)
    (case z_b_enumerate => k_is)
    (case z_pg => k_is)
    (case z_hd => k_is)
    (case z_po => k_is)
    (case z_sa => k_is)
    (case z_mk => k_is)
    (case z_kc => k_is)
    (case z_nL => k_is)
    (case z_nN => k_is)
    (case z_wk => k_is)
    (case z_wx => k_is)
    (case z_wh => k_is)
    (case z_wt => k_is)
    (case z_ws => k_is)
    (case z_wi => k_is)
    (case z_wf => k_is)
    (case z_we => k_is)
    (case z_wy => k_is)
    (case z_wg => k_is)
    (case z_wa => k_is)
    (case z_wc => k_is)
    (case z_wca => k_is)
    (case z_wsp => k_is)
    (case z_wtk => k_is)
    (case z_wmo => k_is)
    (case z_wss => first | rfl | k_is)
    (case z_wkt => rfl)
    (case z_aA => k_is)
    (case z_lB => k_is)
    (case z_cB => k_is)

