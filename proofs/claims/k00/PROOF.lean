import PyProof.Rows.All
import Wide.All
import OpenK.AllK
import Wide.FinOn
import HandS.Base
import HandS.Call
import HandS.List
import HandS.Comp
import HandS.Text
import HandS.Words
import HandS.Ends
import PyProof.ReprRoads
import HandS.ForMost
import HandS.Walk
import HandS.Conv
import PySem.Challenge.RW_excerptcheck_k00_symbols_of_an_alphabet
set_option Elab.async false
set_option linter.all false
set_option maxRecDepth 100000
namespace My
open PySem PySem.Spec PyProof.Rows L2

/-- as the layer's promise, where besides no repr is under way -/
structure FnG (P : Program) (w : World) (K : PySem.W.Frag) (mg : Str → Option Value) (base : Heap) (X : CXT)
    (k : Nat) (f : Addr) (fd : FuncData) (ps : List Str) (sp : Sp) : Prop where
  ln : ∀ vs H Q E, sp vs H Q E → vs.length = ps.length
  go : ∀ (A : Around) (outer : List Env) (s : Shared) (H : Hp) (args : Args) (us : List Value) (vs : List V) (Q : VK) (E : XK),
    Room k A → A.guards = some [] → Env0 P w K mg base A outer s H → BindsTo s fd args (ps.zip us) → Vals vs us →
    sp vs H Q E → codeAny (model P w) A (.call (.ref f) args) (CR X outer P w H s Q E) s

theorem FnG.of {P : Program} {w : World} {K : PySem.W.Frag} {mg : Str → Option Value} {base : Heap} {X : CXT}
    {k : Nat} {f : Addr} {fd : FuncData} {ps : List Str} {sp : Sp} (F : FnOk P w K mg base X k f fd ps sp) :
    FnG P w K mg base X k f fd ps sp :=
  ⟨F.len, fun A o s H ar us vs Q E h1 _ h2 h3 h4 h5 => F.run A o s H ar us vs Q E h1 h2 h3 h4 h5⟩

theorem deeper_guards {A : Around} {e : Env} (h : A.guards = some []) : (A.deeper e).guards = some [] := h

theorem okG {P : Program} {w : World} {K : PySem.W.Frag} {mg : Str → Option Value} {base : Heap} {CX : CXT}
    {x qual : Str} {st : Stmt} {f : Addr} {fd : FuncData} {N ps : List Str} {k : Nat} {sp : Sp}
    (F : Fun K x qual st f fd) (S : FnScope N ps (defScope st))
    (ln : ∀ vs H Q E, sp vs H Q E → vs.length = ps.length)
    (hbd : ∀ (cdv : Value) (A : Around) (o : List Env) (s : Shared) (H : Hp) (vs : List V) (Q : VK) (E : XK),
      Room k (A.deeper (envOfC qual (defScope st) s.heap.objs.size f cdv)) → A.guards = some [] → sp vs H Q E →
      ∃ t, PSs (cxOf CX P w K mg base N qual (defScope st) f cdv A o s H E) (defBody st) t ∧
        t { nx := fun _ h => Q .non h, rt := Q } (start N vs) H) :
    FnG P w K mg base CX (k + 1) f fd ps sp := by
  obtain ⟨oc, od, kV, doc, pm, an, cdv, ct, osl, rfl, lk, hcd⟩ := F.ex
  refine ⟨ln, fun A o s H ar us vs Q E hr hgd e0 hb r hs => ?_⟩
  have hl := ln _ _ _ _ hs
  have KX : K.In s.heap := e0.mod.kin.keeps fun b ob e => (e0.bs b ob e).1
  have lim : s.heap.NoLimit := e0.mod.nolimit.keeps fun b ob e => (e0.bs b ob e).1
  have hkd : ∀ y ∈ ps.zip us, (defScope st).names.lookup y.1 = some .local ∨
      ((defScope st).names.lookup y.1 = some .cell ∧
        ((cellsFrom (s.heap.objs.size + 1) (defScope st).names []).lookup y.1).isSome = true) := by
    rintro ⟨n, v⟩ hy
    have hp := S.par n (List.of_mem_zip hy).1
    rcases hp with q | q
    · left; exact q
    · right; exact ⟨q, PySem.W.cellsFrom_some _ _ _ (.inl q)⟩
  refine codeAny_call_function hr.depth (KX _ _ lk) rfl S.co S.gen rfl
    (PySem.W.codeRec_of KX hcd) (hb _ _ _ _ ?_)
  refine wpAny_newFunctionEnv_cells S.kind hkd
    fun env he s1 x => ?_
  subst he
  refine ⟨lim.keeps x.toInCall.keep, codeAny_func ?_⟩
  obtain ⟨t, ht, hq⟩ := hbd cdv A o s H vs Q E (hr.deeper _) hgd hs
  have I := inv_start (CX := CX) (E := E) S hr.hd e0 hl r x
  refine wpAny_mono (ht.run [] s1 (start N vs) H _ I hq)
    (fun fl s2 h2 => ?_) fun e s2 h2 => h2
  cases fl with
  | ret u =>
    obtain ⟨v, σ2, H2, J, rv, q⟩ := h2
    exact ⟨v, H2, J.os, J.bare, J.base, J.hok, rv, q⟩
  | next =>
    obtain ⟨σ2, H2, J, q⟩ := h2
    exact ⟨.non, H2, J.os, J.bare, J.base, J.hok, rfl, q⟩
  | brk =>
    obtain ⟨_, _, _, q⟩ := h2
    exact q.elim
  | cont =>
    obtain ⟨_, _, _, q⟩ := h2
    exact q.elim

section
variable {X : Cx} {CX : CXT} {k : Nat} {f : Addr} {fd : FuncData} {ps : List Str} {sp : Sp} {dvs : List V} {ds : List Value}
  {E : XK} {x : Str} {p pos : Pos} {e : Expr} {es : List Expr} {t : TA}
/-- the call of such a def -/
theorem pe_callG (gd : X.A.guards = some []) (F : FnG X.prog X.w X.K X.mg X.base CX k f fd ps sp) (hr : Room k X.A) (hg : Gl X x)
    (hm : X.mg x = some (.ref f)) (hk : PySem.W.keepIn X.K (.ref f) = true) (hb : Binds X.K fd ps ds) (hd : Vals dvs ds)
    (hx : Passes CX X E) (ha : PA X (e :: es) t) (hdb : (x == ("__debug__" : Str)) = false := by decide)
    (he : starEach (e :: es) X.env = (false, eval e X.env) :: starEach es X.env := by rfl)
    (hpl : (backTo pos (starEach es X.env)).any (·.1) = false := by rfl) :
    PE X (.Call (.Name x p) (e :: es) [] pos) (tCall sp dvs E t) := by
  constructor
  intro pins s σ H Q I h
  refine wpAny_Call_Name_kw (ld_glob I hg hm ?_ hdb)
  refine PySem.W.callWith_K (h₀ := X.base) I.ok.mod.kin hk
    (thn (ha.run pos pins s σ H _ I h) ?_) he hpl
  rintro us s1 ⟨vs, H1, I1, r, q⟩
  refine ⟨I1.kIn, ?_⟩
  have r2 : Vals (vs ++ dvs) (us ++ ds) := r.append hd
  have hl : (us ++ ds).length = ps.length := by
    rw [← r2.length]
    exact F.ln _ _ _ _ q
  refine wpAny_call (codeAny_mono (F.go X.A X.stack s1 H1 ⟨us, []⟩ (us ++ ds) (vs ++ dvs) Q E hr gd
    I1.env0 (hb s1 us I1.kIn hl) r2 q) fun rr s2 hq => ?_)
  cases rr with
  | error e => exact hx pins σ H1 s1 e s2 I1 hq
  | ok fl =>
    cases fl with
    | ret u => exact I1.after hq
    | next => exact False.elim hq
    | brk => exact False.elim hq
    | cont => exact False.elim hq

/-- repr of data -/
def rRep (K : PySem.W.Frag) : List V → Hp → VK → Prop := fun xs H Q => ∃ x d, xs = [x] ∧ Dp K H x d ∧ d.showable = true ∧
  d.hasDict = false ∧ d.depth ≤ 40 ∧ d.shown.length ≤ sizeLine ∧ Q (.str d.shown) H
theorem call_rep (gd : X.A.guards = some []) (hu : X.A.units + 64 < cLine) : CallR X (.builtin "repr") (rRep X.K) := by
  intro pins s σ H xs us Q I r h
  obtain ⟨x, d, rfl, hd, hs, hn, hp, hz, q⟩ := h
  obtain ⟨u, rfl, ru⟩ := vals1 r
  cases hd with
  | non =>
    cases ru
    exact PySem.P.repr_of_none ⟨.str _, H, I.tok _, ⟨_, rfl⟩, by simpa [PyData.shown_none] using q⟩
  | bl b =>
    cases ru
    exact PySem.P.repr_of_bool ⟨.str _, H, I.tok _, ⟨_, rfl⟩, by simpa [PyData.shown_bool] using q⟩
  | int i =>
    obtain ⟨t, rfl⟩ := ru
    have hi : i.natAbs.log2 < 1920 := by simpa [PyData.showable] using hs
    exact PySem.P.repr_of_int hi ⟨.str _, H, I.tok _, ⟨_, rfl⟩, by simpa [PyData.shown_int] using q⟩
  | str z =>
    obtain ⟨t, rfl⟩ := ru
    rw [PyData.shown_str] at hz q
    exact PySem.P.repr_of_str (hsz := hz) ⟨.str _, H, I.tok _, ⟨_, rfl⟩, q⟩
  | lst hS hA =>
    obtain ⟨as, rd⟩ := Dp.reads I _ _ _ (Dp.lst hS hA) ru
    cases ru
    exact repr_of_reads' rd hs (PyData.noDict_hsm hn) gd (by omega) (fun _ _ z => z)
      (fun h' u tk hk => ⟨.str _, H, I.kept hk, ⟨_, rfl⟩, q⟩) hz
  | tup hS hA =>
    obtain ⟨as, rd⟩ := Dp.reads I _ _ _ (Dp.tup hS hA) ru
    cases ru
    exact repr_of_reads' rd hs (PyData.noDict_hsm hn) gd (by omega) (fun _ _ z => z)
      (fun h' u tk hk => ⟨.str _, H, I.kept hk, ⟨_, rfl⟩, q⟩) hz
end
end My
namespace My
open PySem PySem.Spec PyProof.Rows L2

theorem callG {P : Program} {w : World} {K : PySem.W.Frag} {mg mb : Str → Option Value} {k : Nat} {fa a : Addr}
    {fd : FuncData} {x : Str} {sp : Sp} {s1 : Shared} {vs : List Value} {ns : List Int}
    (KX : K.In s1.heap) (hns : s1.heap.Ns mainGlobals mg) (hb : s1.heap.Ns builtinsNs mb)
    (hbb : ∀ y : Str, y ≠ "__name__" → mb y = bootBuiltins y) (hlim : s1.heap.NoLimit) (hg : s1.gens = #[])
    (ha : s1.heap.get? a = some { cls := .type "list", data := .seq vs.toArray }) (hi : IntsAre vs ns)
    (hl : ns.length ≤ sizeLine) (hr : Room k callerA)
    (F : ∀ base : Heap, K.In base → base.Ns mainGlobals mg → FnG P w K mg base CX0 k fa fd [x] sp)
    (hbind : ∀ (s : Shared) (u : Value), BindsTo s fd ⟨[u], []⟩ [(x, u)])
    (hsp : ∀ H : Hp, SqL K H a (ns.map V.int) → sp [.ref a] H (fun v _ => v = .bl true) fun _ _ _ => False) :
    codeAny (model P w) callerA (.call (.ref fa) ⟨[.ref a], []⟩)
      (fun r t => r = .ok (.ret (.bool true)) ∧ OldK s1.heap t.heap ∧ t.os = s1.os ∧ AllBare t.gens) s1 := by
  have rv := vals_ints hi
  have lv := hi.length
  have core : ∀ H : Hp, Only H → SqL K H a (ns.map V.int) → HOk P w H s1.heap → (∀ b, H b ≠ none → b = a) →
      (H a ≠ none → K.lookup a = none) → codeAny (model P w) callerA (.call (.ref fa) ⟨[.ref a], []⟩)
      (fun r t => r = .ok (.ret (.bool true)) ∧ OldK s1.heap t.heap ∧ t.os = s1.os ∧ AllBare t.gens) s1 := by
    intro H hO hS hok hA hK
    have bo : ∀ {b : Addr} {o : Obj}, s1.heap.get? b = some o → H b = none → (hidT s1.heap H).get? b = some o :=
      fun e n => hidT_get e n
    have noA : ∀ {b : Addr} {o : Obj} {es : Array DictEntry} {ep : Nat}, s1.heap.get? b = some o →
        o.data = .dict es ep → H b = none := by
      intro b o es ep e d
      by_cases q : H b = none
      · exact q
      · have z := hA b q
        rw [z, ha] at e
        cases e
        cases (show Data.seq vs.toArray _ = Data.dict es ep from d)
    have nsK : ∀ {b : Addr} {m : Str → Option Value}, s1.heap.Ns b m → (hidT s1.heap H).Ns b m := by
      rintro b m ⟨o, es, ep, e, d, r⟩
      exact ⟨o, es, ep, bo e (noA e d), d, r⟩
    have kb : K.In (hidT s1.heap H) := by
      intro b o e
      refine bo (KX b o e) ?_
      by_cases q : H b = none
      · exact q
      · have z := hA b q
        rw [z] at e q
        rw [hK q] at e
        cases e
    have hM : Mod K mg (hidT s1.heap H) := by
      obtain ⟨mc, h1, h2⟩ := hlim
      exact ⟨kb, nsK hns, ⟨mb, nsK hb, hbb⟩, ⟨mc, nsK h1, h2⟩⟩
    have e0 : Env0 P w K mg (hidT s1.heap H) callerA [] s1 H :=
      ⟨rfl, hM, fun b o e => of_hidT e, Nat.le_of_eq (hidT_size _ _), trivial,
        fun b z => absurd (show b ∈ ([] : List Addr) from z) (by simp), hok, .of_eq hg⟩
    refine codeAny_mono ((F _ kb (nsK hns)).go callerA [] s1 H ⟨[.ref a], []⟩ [.ref a] [.ref a] _ _ hr rfl e0
      (hbind s1 (.ref a)) (.cons rfl .nil) (hsp H hS)) fun r t h => ?_
    cases r with
    | error e => exact h.elim
    | ok fl =>
      cases fl with
      | next => exact h.elim
      | brk => exact h.elim
      | cont => exact h.elim
      | ret u =>
        obtain ⟨v, H2, os, bare, un, hok2, r2, q⟩ := h
        have q2 : v = .bl true := q
        subst q2
        obtain rfl : u = Value.bool true := r2
        refine ⟨rfl, OldK.of_keep fun b o e => ?_, os, bare⟩
        rcases hO b with z | ⟨ob, xs, z⟩
        · exact un.keep b o e z (fun y => absurd (show b ∈ ([] : List Addr) from y) (by simp)) (by simp)
        · have e1 := (hok b _ z).1
          have e2 := (hok2 b _ (un.frzs b ob _ z)).1
          rw [e] at e1
          cases e1
          exact e2
  by_cases hk : K.lookup a = none
  · have hon : (fun b => if b = a then some (HO.frz { cls := .type "list", data := .seq vs.toArray }
        (.lst (ns.map V.int))) else none : Hp) a = _ := if_pos rfl
    refine core (fun b => if b = a then some (.frz { cls := .type "list", data := .seq vs.toArray }
      (.lst (ns.map V.int))) else none) (fun b => ?_) (.inl (.inr ⟨_, hon⟩)) (fun b u z => ?_) (fun b z => ?_) fun _ => hk
    · by_cases h : b = a
      · exact .inr ⟨_, _, if_pos h⟩
      · exact .inl (if_neg h)
    · by_cases h : b = a
      · have z2 := (if_pos h).symm.trans z
        cases z2
        subst h
        exact ⟨ha, by rw [List.length_map]; exact hl, vs, _, rv, ha⟩
      · cases (if_neg h).symm.trans z
    · by_cases h : b = a
      · exact h
      · exact absurd (if_neg h) z
  · obtain ⟨o, ho⟩ := Option.ne_none_iff_exists'.mp hk
    have e := KX a o ho
    rw [ha] at e
    cases e
    refine core (fun _ => none) (fun _ => .inl rfl) (.inr ⟨_, vs.toArray, _, ho, rfl, rfl, rfl, ?_, ?_⟩)
      (fun b u z => nomatch (show (none : Option HO) = some u from z)) (fun b z => absurd rfl z) fun z => absurd rfl z
    · rw [List.size_toArray, lv]; exact hl
    · simpa using rv

/-- the end, where the law's def is shown with no repr under way -/
theorem walkG {l : PySem.W.OpenLaw} {n k : Nat} {q : Program} {loose : List Str} {XP : (Str → Option Value) → Heap → Prop}
    {YP : World → Heap → Prop} {d : DefRec} {K : Params → PySem.W.Frag} {sp : PySem.W.Frag → Sp} {x : Str}
    (hn : l.most = some n) (hn2 : n ≤ sizeLine) (hdf : d.params.defaults = []) (hr : Room k callerA)
    (hY : ∀ (w : World) (h : Heap), YP w h → (K w.params).In h)
    (F : ∀ (w : World) (mg : Str → Option Value) (fa : Addr) (h : Heap), (K w.params).In h → h.Ns mainGlobals mg →
      mg d.name = some (.ref fa) → ∃ fd : FuncData,
        (∀ (s : Shared) (u : Value), BindsTo s fd ⟨[u], []⟩ [(x, u)]) ∧ ∀ base : Heap, (K w.params).In base →
          base.Ns mainGlobals mg → FnG l.prog w (K w.params) mg base CX0 k fa fd [x] (sp (K w.params)))
    (hsp : ∀ (K : PySem.W.Frag) (H : Hp) (a : Addr) (ns : List Int), ns.length ≤ n → SqL K H a (ns.map V.int) →
      sp K [.ref a] H (fun v _ => v = .bl true) fun _ _ _ => False) :
    PySem.W.WalkO q loose XP YP l.row.toRowW d [] (fun f vs => PySem.call f vs) := by
  refine Att.attach_call hn hdf ?_
  intro w s0 s1 mg mb fa o pm cd doc a vs ns G Y ho hd hcd hmg hobj hints hlen hg
  have KX := hY w _ Y
  obtain ⟨fd, hb, hF⟩ := F w mg fa _ KX G.T.g hmg
  exact callG KX G.T.g G.T.b G.T.builtins G.T.nolimit hg hobj hints (Nat.le_trans hlen hn2) hr hF hb
    fun H hS => hsp _ H a ns hlen hS
end My
namespace My
open PySem PySem.Spec PyProof.Rows L2

/-- a def of the text as it stands behind the top -/
structure Df (K : PySem.W.Frag) (mg : Str → Option Value) (x : Str) (st : Stmt) (ps : List Str) : Prop where
  ex : ∃ (f : Addr) (fd : FuncData), Fun K x x st f fd ∧ mg x = some (.ref f) ∧ Binds K fd ps []
/-- .. with what it promises -/
structure Cal (P : Program) (w : World) (K : PySem.W.Frag) (mg : Str → Option Value) (base : Heap) (k : Nat) (x : Str) (ps : List Str) (sp : Sp) : Prop where
  ex : ∃ (f : Addr) (fd : FuncData), FnOk P w K mg base CX0 k f fd ps sp ∧ mg x = some (.ref f) ∧ PySem.W.keepIn K (.ref f) = true ∧ Binds K fd ps []
structure CalG (P : Program) (w : World) (K : PySem.W.Frag) (mg : Str → Option Value) (base : Heap) (k : Nat) (x : Str) (ps : List Str) (sp : Sp) : Prop where
  ex : ∃ (f : Addr) (fd : FuncData), FnG P w K mg base CX0 k f fd ps sp ∧ mg x = some (.ref f) ∧ PySem.W.keepIn K (.ref f) = true ∧ Binds K fd ps []
section
variable {P : Program} {w : World} {K : PySem.W.Frag} {mg : Str → Option Value} {base : Heap}
theorem Df.cal {x : Str} {st : Stmt} {N ps : List Str} {k : Nat} {sp : Sp} (D : Df K mg x st ps) (S : FnScope N ps (defScope st))
    (ln : ∀ vs H Q E, sp vs H Q E → vs.length = ps.length)
    (hb : ∀ (f : Addr) (cdv : Value) (A : Around) (o : List Env) (s : Shared) (H : Hp) (vs : List V) (Q : VK) (E : XK),
      Room k (A.deeper (envOfC x (defScope st) s.heap.objs.size f cdv)) → sp vs H Q E →
      ∃ t, PSs (cxOf CX0 P w K mg base N x (defScope st) f cdv A o s H E).nox (defBody st) t ∧
        t { nx := fun _ h => Q .non h, rt := Q } (start N vs) H) :
    Cal P w K mg base (k + 1) x ps sp := by
  obtain ⟨f, fd, F, m, b⟩ := D.ex
  exact ⟨f, fd, F.ok S ln (fun cdv A o s H vs Q E => hb f cdv A o s H vs Q E), m, F.kp, b⟩
theorem Df.calG {x : Str} {st : Stmt} {N ps : List Str} {k : Nat} {sp : Sp} (D : Df K mg x st ps) (S : FnScope N ps (defScope st))
    (ln : ∀ vs H Q E, sp vs H Q E → vs.length = ps.length)
    (hb : ∀ (f : Addr) (cdv : Value) (A : Around) (o : List Env) (s : Shared) (H : Hp) (vs : List V) (Q : VK) (E : XK),
      Room k (A.deeper (envOfC x (defScope st) s.heap.objs.size f cdv)) → A.guards = some [] → sp vs H Q E →
      ∃ t, PSs (cxOf CX0 P w K mg base N x (defScope st) f cdv A o s H E).nox (defBody st) t ∧
        t { nx := fun _ h => Q .non h, rt := Q } (start N vs) H) :
    CalG P w K mg base (k + 1) x ps sp := by
  obtain ⟨f, fd, F, m, b⟩ := D.ex
  refine ⟨f, fd, okG F S ln (fun cdv A o s H vs Q E hr hg h => ?_), m, F.kp, b⟩
  obtain ⟨t, h1, h2⟩ := hb f cdv A o s H vs Q E hr hg h
  exact ⟨t, h1.nox, h2⟩
end
section
variable {X : Cx} {k j : Nat} {ps : List Str} {sp : Sp} {x : Str} {p pos : Pos} {e : Expr} {es : List Expr} {t : TA}
theorem pe_cal (C : Cal X.prog X.w X.K X.mg X.base k x ps sp) (hr : Room k X.A) (hg : Gl X x)
    (ha : PA X (e :: es) t) (hdb : (x == ("__debug__" : Str)) = false := by decide)
    (he : starEach (e :: es) X.env = (false, eval e X.env) :: starEach es X.env := by rfl)
    (hpl : (backTo pos (starEach es X.env)).any (·.1) = false := by rfl) :
    PE X (.Call (.Name x p) (e :: es) [] pos) (tCall sp [] E0 t) := by
  obtain ⟨f, fd, F, m, kp, b⟩ := C.ex
  exact pe_call F hr hg m kp b .nil pass0 ha hdb he hpl
theorem pe_calG (gd : X.A.guards = some []) (C : CalG X.prog X.w X.K X.mg X.base k x ps sp) (hr : Room k X.A) (hg : Gl X x)
    (ha : PA X (e :: es) t) (hdb : (x == ("__debug__" : Str)) = false := by decide)
    (he : starEach (e :: es) X.env = (false, eval e X.env) :: starEach es X.env := by rfl)
    (hpl : (backTo pos (starEach es X.env)).any (·.1) = false := by rfl) :
    PE X (.Call (.Name x p) (e :: es) [] pos) (tCall sp [] E0 t) := by
  obtain ⟨f, fd, F, m, kp, b⟩ := C.ex
  exact pe_callG gd F hr hg m kp b .nil pass0 ha hdb he hpl
end

/-! ### heaps: all stands but the tape; t.1 is the tape's own list, t.2 that of its cells -/
abbrev TA2 := Addr × Addr
def Kp (t : TA2) (H H' : Hp) : Prop := ∀ b o, b ≠ t.1 → H b = some o → H' b = some o
theorem Kp.refl (t : TA2) (H : Hp) : Kp t H H := fun _ _ _ h => h
theorem Kp.trans {t : TA2} {H H1 H2 : Hp} (a : Kp t H H1) (b : Kp t H1 H2) : Kp t H H2 := fun c o n h => b c o n (a c o n h)
theorem Kp.new {t : TA2} {p : Addr} {H : Hp} {o : HO} (h : H p = none) : Kp t H (upd H p o) := fun b u _ e => by
  rw [upd_ne (ne_of_none e h)]; exact e
theorem Kp.self {t : TA2} {H : Hp} {o : HO} : Kp t H (upd H t.1 o) := fun b u n e => by rw [upd_ne n]; exact e
theorem Kp.free {t : TA2} {p : Addr} {H H' : Hp} (a : Kp t H H') (n : p ≠ t.1) (h : H' p = none) : H p = none := by
  cases q : H p with
  | none => rfl
  | some o => rw [a p o n q] at h; cases h
theorem Kp.tup {t : TA2} {p : Addr} {H H' : Hp} {xs ys : List V} (a : Kp t H H') (ht : H t.1 = some (.lst ys)) (h : H p = some (.tup xs)) : H' p = some (.tup xs) :=
  a p _ (ne_of h ht (fun z => nomatch z)) h
/-- the numbers that a script gives -/
structure Tape (K : PySem.W.Frag) (H : Hp) (t : TA2) : Prop where
  ex : ∃ (ns : List Int) (p n s : Int), H t.1 = some (.lst [.ref t.2, .int p, .int n, .int s]) ∧ t.2 ≠ t.1 ∧
    H t.2 = some (.lst (ns.map V.int)) ∧ 0 ≤ p ∧ 0 ≤ n ∧ 0 ≤ s
theorem Tape.lst {K : PySem.W.Frag} {H : Hp} {t : TA2} (T : Tape K H t) : ∃ ys, H t.1 = some (.lst ys) := by
  obtain ⟨ns, p, n, s, h, _⟩ := T.ex
  exact ⟨_, h⟩
theorem Tape.new {K : PySem.W.Frag} {H : Hp} {t : TA2} {a : Addr} {o : HO} (T : Tape K H t) (h : H a = none) : Tape K (upd H a o) t := by
  obtain ⟨ns, p, n, s, h1, h2, h3, h4⟩ := T.ex
  exact ⟨ns, p, n, s, by rw [upd_ne (ne_of_none h1 h)]; exact h1, h2, by rw [upd_ne (ne_of_none h3 h)]; exact h3, h4⟩
theorem Tape.ne {K : PySem.W.Frag} {H : Hp} {t : TA2} {a : Addr} (T : Tape K H t) (h : H a = none) : a ≠ t.1 := by
  obtain ⟨ys, e⟩ := T.lst
  exact (ne_of_none e h).symm
theorem Tape.ne2 {K : PySem.W.Frag} {H : Hp} {t : TA2} {a : Addr} (T : Tape K H t) (h : H a = none) : a ≠ t.2 := by
  obtain ⟨ns, p, n, s, h1, h2, h3, h4⟩ := T.ex
  exact (ne_of_none h3 h).symm
/-- another object is changed -/
theorem Tape.put {K : PySem.W.Frag} {H : Hp} {t : TA2} {a : Addr} {o : HO} (T : Tape K H t) (h1 : a ≠ t.1) (h2 : a ≠ t.2) : Tape K (upd H a o) t := by
  obtain ⟨ns, p, n, s, g1, g2, g3, g4⟩ := T.ex
  exact ⟨ns, p, n, s, by rw [upd_ne h1.symm]; exact g1, g2, by rw [upd_ne h2.symm]; exact g3, g4⟩

def spTape (K : PySem.W.Frag) : Sp := fun vs H Q _ => ∃ (a : Addr) (ns : List Int), vs = [.ref a] ∧ SqL K H a (ns.map V.int) ∧ ns.length ≤ 63 ∧
  ∀ (t : TA2) H', Same H H' → H t.1 = none → Tape K H' t → Q (.ref t.1) H'
def spDraw (K : PySem.W.Frag) : Sp := fun vs H Q _ => ∃ (t : TA2) (m : Int), vs = [.ref t.1, .int m] ∧ Tape K H t ∧ m < 1000000 ∧
  ∀ v H', 0 ≤ v → v < max m 1 → Kp t H H' → (∀ b, H b = none → H' b = none) → Tape K H' t → Q (.int v) H'
end My
namespace My
open PySem PySem.Spec PyProof.Rows L2
theorem le_size {n : Nat} (h : n ≤ 1000) : n ≤ sizeLine := Nat.le_of_lt (small1000 h)
theorem le_size0 {n : Nat} (h : n.ble 1000 = true) : n ≤ sizeLine := le_size (Nat.le_of_ble_eq_true h)
end My
namespace My
open PySem PySem.Spec PyProof.Rows L2
theorem okG0 {P : Program} {w : World} {K : PySem.W.Frag} {mg : Str → Option Value} {base : Heap}
    {x : Str} {st : Stmt} {f : Addr} {fd : FuncData} {N ps : List Str} {k : Nat} {sp : Sp}
    (F : Fun K x x st f fd) (S : FnScope N ps (defScope st))
    (ln : ∀ vs H Q E, sp vs H Q E → vs.length = ps.length)
    (hb : ∀ (f : Addr) (cdv : Value) (A : Around) (o : List Env) (s : Shared) (H : Hp) (vs : List V) (Q : VK) (E : XK),
      Room k (A.deeper (envOfC x (defScope st) s.heap.objs.size f cdv)) → A.guards = some [] → sp vs H Q E →
      ∃ t, PSs (cxOf CX0 P w K mg base N x (defScope st) f cdv A o s H E).nox (defBody st) t ∧
        t { nx := fun _ h => Q .non h, rt := Q } (start N vs) H) :
    FnG P w K mg base CX0 (k + 1) f fd ps sp := by
  refine okG F S ln (fun cdv A o s H vs Q E hr hg h => ?_)
  obtain ⟨t, h1, h2⟩ := hb f cdv A o s H vs Q E hr hg h
  exact ⟨t, h1.nox, h2⟩
theorem df_mk {K : PySem.W.Frag} {h : Heap} {mg : Str → Option Value} {x : Str} {st : Stmt} {ps : List Str} {f : Addr}
    {od an : Option Addr} {sl : Array (Option Value)} {oc kV dc pm cd ct : Value} (X : K.In h) (G : h.Ns mainGlobals mg)
    (a : PySem.W.nsIn K mainGlobals x = some (some (.ref f)))
    (l : K.lookup f = some ⟨oc, od, .func (PySem.W.fnOf x x (defArgs st) (defBody st) (defScope st) .none kV dc pm an cd ct), sl⟩)
    (c : PySem.W.codeIn K cd x = true) (k : PySem.W.keepIn K (.ref f) = true)
    (hb : ∀ (kV doc pm : Value) (an : Option Addr) (cdv ct : Value) (us : List Value), us.length = ps.length →
      bindArgs (PySem.W.fnOf x x (defArgs st) (defBody st) (defScope st) .none kV doc pm an cdv ct) ⟨us, []⟩ = pure (ps.zip us)) :
    Df K mg x st ps := ⟨f, _, fun_mk l c k, PySem.W.mg_of X G a, (fun_mk l c k).binds hb⟩
/-- what a script's law promises -/
def spLaw (K : PySem.W.Frag) : Sp := fun vs H Q _ => ∃ (a : Addr) (ns : List Int), vs = [.ref a] ∧ SqL K H a (ns.map V.int) ∧ ns.length ≤ 63 ∧ ∀ H', Q (.bl true) H'
end My
namespace My
open PySem PySem.Spec PyProof.Rows L2

theorem it_any {J : It} {n : Nat} {G : Hp → Prop} {Y : Nat → Hp → V → Hp → Prop} (w : Walk J n G Y)
    {Bd : V → Hp → (Hp → Prop) → Prop} {Qd : Hp → Prop} {H0 : Hp} (Pv : Nat → Hp → Prop) (h0 : Pv 0 H0)
    (hG : ∀ i H, i ≤ n → Pv i H → G H) (hs : ∀ i x H H', i < n → Pv i H → Y i H x H' → Bd x H' (Pv (i + 1)))
    (hd : ∀ H, Pv n H → Qd H) :
    ∃ W : Nat → Nat → Hp → Prop, (∃ m, W 0 m H0) ∧ ∀ i m H, W i m H → (J.stop i H ∧ Qd H) ∨ (J.go i H ∧
      ∃ Nx : Hp → Prop, (∀ H', Nx H' → ∃ m', m' < m ∧ W (i + 1) m' H') ∧ ∀ x H', J.yld i H x H' → Bd x H' Nx) := by
  refine ⟨fun i m H => m = n - i ∧ i ≤ n ∧ Pv i H, ⟨n, by simp, Nat.zero_le _, h0⟩, ?_⟩
  rintro i m H ⟨rfl, hi, p⟩
  by_cases h : i < n
  · exact .inr ⟨w.goes i H h (hG i H hi p), Pv (i + 1), fun H' p' => ⟨n - (i + 1), by omega, rfl, h, p'⟩,
      fun x H' y => hs i x H H' h p (w.yields i H x H' h (hG i H hi p) y)⟩
  · have e : i = n := by omega
    subst e
    exact .inl ⟨w.stops H (hG i H hi p), hd H p⟩

/-! ### data that repr shows -/
structure Sh (d : PyData) (dp bk : Nat) : Prop where
  s : d.showable = true
  n : d.hasDict = false
  p : d.depth ≤ dp
  l : d.leavesShort 13 = true
  b : d.bulk ≤ bk
theorem Sh.mono {d : PyData} {a b a' b' : Nat} (h : Sh d a b) (ha : a ≤ a') (hb : b ≤ b') : Sh d a' b' :=
  ⟨h.s, h.n, Nat.le_trans h.p ha, h.l, Nat.le_trans h.b hb⟩
theorem Sh.fits {d : PyData} {dp bk : Nat} (h : Sh d dp bk) (hb : bk ≤ 1000000) : d.shown.length ≤ sizeLine :=
  PyData.shown_fits_bulk (B := 13) (by decide) (by decide) h.l (Nat.le_trans h.b (Nat.le_trans hb (by decide)))
theorem Sh.none : Sh .none 0 0 := ⟨by simp [PyData.showable], by simp [PyData.hasDict], by simp [PyData.depth], by simp [PyData.leavesShort], by simp [PyData.bulk]⟩
theorem Sh.bool (b : Bool) : Sh (.bool b) 0 0 := ⟨by simp [PyData.showable], by simp [PyData.hasDict], by simp [PyData.depth], by simp [PyData.leavesShort], by simp [PyData.bulk]⟩
theorem Sh.int {i : Int} (h : i.natAbs < 10 ^ 12) : Sh (.int i) 0 0 := by
  refine ⟨?_, by simp [PyData.hasDict], by simp [PyData.depth], ?_, by simp [PyData.bulk]⟩
  · simp only [PyData.showable, decide_eq_true_eq]
    exact log2_small (Nat.lt_trans h (by decide +kernel))
  · simp only [PyData.leavesShort, decide_eq_true_eq]
    exact PyData.shown_int_le h
/-- all signs are small -/
def Sg (x : Str) : Prop := ∀ c ∈ x.cps.toList, c < 128
theorem Sh.str {x : Str} (h : Sg x) : Sh (.str x) 0 x.length := by
  refine ⟨by simp [PyData.showable], by simp [PyData.hasDict], by simp [PyData.depth], ?_, by simp only [PyData.bulk]; exact Nat.le_refl _⟩
  simp only [PyData.leavesShort, List.all_eq_true, decide_eq_true_eq]
  intro c hc
  exact Nat.lt_trans (h c hc) (by decide)
theorem shAll {dp bk : Nat} : ∀ {ds : List PyData}, (∀ d ∈ ds, Sh d dp bk) → PyData.showableAll ds = true ∧ PyData.hasDictAll ds = false ∧
    PyData.depthAll ds ≤ dp ∧ PyData.leavesShortAll 13 ds = true ∧ PyData.bulkAll ds ≤ ds.length * (bk + 1)
  | [], _ => by simp [PyData.showableAll, PyData.hasDictAll, PyData.depthAll, PyData.leavesShortAll, PyData.bulkAll]
  | d :: ds, h => by
    obtain ⟨h1, h2, h3, h4, h5⟩ := shAll (ds := ds) fun e he => h e (List.mem_cons_of_mem _ he)
    have g := h d (List.mem_cons_self)
    refine ⟨by simp [PyData.showableAll, g.s, h1], by simp [PyData.hasDictAll, g.n, h2], ?_, by simp [PyData.leavesShortAll, g.l, h4], ?_⟩
    · simp only [PyData.depthAll]
      have := g.p
      omega
    · simp only [PyData.bulkAll, List.length_cons, Nat.succ_mul]
      have := g.b
      omega
theorem Sh.tup {dp bk : Nat} {ds : List PyData} (h : ∀ d ∈ ds, Sh d dp bk) : Sh (.tuple ds) (dp + 1) (ds.length * (bk + 1)) := by
  obtain ⟨h1, h2, h3, h4, h5⟩ := shAll h
  refine ⟨by simpa [PyData.showable] using h1, by simpa [PyData.hasDict] using h2, ?_, by simpa [PyData.leavesShort] using h4, by simpa [PyData.bulk] using h5⟩
  simp only [PyData.depth]
  omega
theorem Sh.list {dp bk : Nat} {ds : List PyData} (h : ∀ d ∈ ds, Sh d dp bk) : Sh (.list ds) (dp + 1) (ds.length * (bk + 1)) := by
  obtain ⟨h1, h2, h3, h4, h5⟩ := shAll h
  refine ⟨by simpa [PyData.showable] using h1, by simpa [PyData.hasDict] using h2, ?_, by simpa [PyData.leavesShort] using h4, by simpa [PyData.bulk] using h5⟩
  simp only [PyData.depth]
  omega
/-- repr answers with the shown text -/
theorem rep_ok {K : PySem.W.Frag} {H : Hp} {Q : VK} {x : V} {d : PyData} {dp bk : Nat} (h : Dp K H x d) (s : Sh d dp bk) (h1 : dp ≤ 40) (h2 : bk ≤ 1000000)
    (q : Q (.str d.shown) H) : rRep K [x] H Q := ⟨x, d, rfl, h, s.s, s.n, Nat.le_trans s.p h1, s.fits h2, q⟩
theorem dp_strs {K : PySem.W.Frag} {H : Hp} : ∀ xs : List Str, DpAll K H (xs.map V.str) (xs.map PyData.str)
  | [] => .nil
  | x :: xs => .cons (.str x) (dp_strs xs)
theorem dp_ints {K : PySem.W.Frag} {H : Hp} : ∀ xs : List Int, DpAll K H (xs.map V.int) (xs.map PyData.int)
  | [] => .nil
  | x :: xs => .cons (.int x) (dp_ints xs)
theorem sh_strs {n : Nat} {xs : List Str} (h : ∀ x ∈ xs, Sg x ∧ x.length ≤ n) : Sh (.tuple (xs.map PyData.str)) 1 (xs.length * (n + 1)) := by
  have := Sh.tup (dp := 0) (bk := n) (ds := xs.map PyData.str) (fun d hd => by
    obtain ⟨x, hx, rfl⟩ := List.mem_map.mp hd
    exact (Sh.str (h x hx).1).mono (Nat.le_refl _) (h x hx).2)
  rwa [List.length_map] at this

theorem Same.kp {t : TA2} {H H' : Hp} (h : Same H H') : Kp t H H' := fun b o _ e => h b o e
theorem Same.new {p : Addr} {H : Hp} {o : HO} (h : H p = Option.none) : Same H (upd H p o) := fun b u e => by
  rw [upd_ne (ne_of_none e h)]; exact e
theorem Tape.same {K : PySem.W.Frag} {H H' : Hp} {t : TA2} (T : Tape K H t) (h : Same H H') : Tape K H' t := by
  obtain ⟨ns, p, n, s, h1, h2, h3, h4⟩ := T.ex
  exact ⟨ns, p, n, s, h _ _ h1, h2, h _ _ h3, h4⟩
/-- a place in a list of numbers -/
theorem pickI {ns : List Int} {v : Int} (h0 : 0 ≤ v) (h1 : v < ns.length) : ∃ w, w ∈ ns ∧ atI (ns.map V.int) v = some (.int w) := by
  have h : v.toNat < ns.length := by omega
  refine ⟨ns[v.toNat], List.getElem_mem h, ?_⟩
  have z := atI_nat (xs := ns.map V.int) (j := v.toNat) (v := .int ns[v.toNat]) (by rw [List.getElem?_map, List.getElem?_eq_getElem h]; rfl)
  rw [Int.toNat_of_nonneg h0] at z
  exact z
theorem pickV {xs : List V} {v : Int} (h0 : 0 ≤ v) (h1 : v < xs.length) : ∃ w, w ∈ xs ∧ atI xs v = some w := by
  have h : v.toNat < xs.length := by omega
  refine ⟨xs[v.toNat], List.getElem_mem h, ?_⟩
  have z := atI_nat (xs := xs) (List.getElem?_eq_getElem h)
  rw [Int.toNat_of_nonneg h0] at z
  exact z
theorem pickS {ss : List Str} {v : Int} (h0 : 0 ≤ v) (h1 : v < ss.length) : ∃ w, w ∈ ss ∧ atI (ss.map V.str) v = some (.str w) := by
  have h : v.toNat < ss.length := by omega
  refine ⟨ss[v.toNat], List.getElem_mem h, ?_⟩
  have z := atI_nat (xs := ss.map V.str) (j := v.toNat) (v := .str ss[v.toNat]) (by rw [List.getElem?_map, List.getElem?_eq_getElem h]; rfl)
  rw [Int.toNat_of_nonneg h0] at z
  exact z

/-! ### symbols -/
abbrev sy (h l : Nat) : Str := ⟨#[h, l]⟩
theorem sy_cat (h l : Nat) : (⟨#[h]⟩ : Str) ++ (⟨#[l]⟩ : Str) = sy h l := rfl
def comb (hs ls : List Nat) : List Str := hs.flatMap fun h => ls.map fun l => sy h l
theorem comb_nil (ls : List Nat) : comb [] ls = [] := rfl
theorem comb_cons (h : Nat) (hs ls : List Nat) : comb (h :: hs) ls = (ls.map fun l => sy h l) ++ comb hs ls := List.flatMap_cons
theorem comb_snoc (h : Nat) (hs ls : List Nat) : comb (hs ++ [h]) ls = comb hs ls ++ (ls.map fun l => sy h l) := by
  unfold comb
  rw [List.flatMap_append]
  simp
theorem comb_len (ls : List Nat) : ∀ hs : List Nat, (comb hs ls).length = hs.length * ls.length
  | [] => by simp [comb_nil]
  | h :: hs => by
    rw [comb_cons, List.length_append, List.length_map, comb_len ls hs, List.length_cons, Nat.succ_mul, Nat.add_comm]
theorem mem_comb {x : Str} {hs ls : List Nat} (h : x ∈ comb hs ls) : ∃ a ∈ hs, ∃ b ∈ ls, x = sy a b := by
  unfold comb at h
  obtain ⟨a, ha, hx⟩ := List.mem_flatMap.mp h
  obtain ⟨b, hb, rfl⟩ := List.mem_map.mp hx
  exact ⟨a, ha, b, hb, rfl⟩
abbrev lows : List Nat := [97,98,99,100,101,102,103,104,105,106,107,108,109,110,111,112,113,114,115,116,117,118,119,120,121,122]
abbrev caps : List Nat := [65,66,67,68,69,70,71,72,73,74,75,76,77,78,79,80,81,82,83,84,85,86,87,88,89,90]
theorem lows_eq : ("abcdefghijklmnopqrstuvwxyz" : Str).cps.toList = lows := by decide +kernel
theorem caps_eq : ("ABCDEFGHIJKLMNOPQRSTUVWXYZ" : Str).cps.toList = caps := by decide +kernel
theorem lows_small : ∀ c ∈ lows, c < 128 := by decide
theorem caps_small : ∀ c ∈ caps, c < 128 := by decide
end My
namespace My
open PySem PySem.Spec PyProof.Rows L2
theorem le_of1000 : (26 : Nat) ≤ 1000 := by decide
end My
namespace My
open PySem PySem.Spec PyProof.Rows L2
theorem yes_ite {σ : L2.St} {H : Hp} {A B : Hp → Prop} (h : A H) : tYes σ H (fun b H3 => if b = true then A H3 else B H3) := by
  show (if true = true then A H else B H)
  rw [if_pos rfl]
  exact h
end My
namespace My
open PySem PySem.Spec PyProof.Rows L2
theorem cutV_from (xs : List V) (n : Nat) (h : n ≤ xs.length) : cutV xs (some (n : Int)) Option.none = xs.drop n := by
  unfold cutV
  rw [show HT.sIx xs.length 0 (some (n : Int)) = min n xs.length from HT.sIx_nat xs.length 0 n, HT.sIx_none, Nat.min_eq_left h]
  exact List.take_of_length_le (by rw [List.length_drop]; exact Nat.le_refl _)
theorem sIx_from (L n : Nat) (h : n ≤ L) : HT.sIx L 0 (some (n : Int)) = n := by
  rw [show HT.sIx L 0 (some (n : Int)) = min n L from HT.sIx_nat L 0 n, Nat.min_eq_left h]
end My
namespace My
open PySem PySem.Spec PyProof.Rows L2
def topS (i : Nat) : Stmt := PySem.Challenge.pw_excerptcheck_k00_symbols_of_an_alphabet.main.body.getD i (.Pass ⟨0, 0, 0, 0⟩)
structure Bn (mg : Str → Option Value) : Prop where
  len_ : mg "len" = none
  max_ : mg "max" = none
  abs_ : mg "abs" = none
  int_ : mg "int" = none
  list_ : mg "list" = none
  tuple_ : mg "tuple" = none
  range_ : mg "range" = none
  repr_ : mg "repr" = none
local macro_rules | `(tactic| walk_at "h") => `(tactic| first | assumption | exact upd_same)
local macro_rules | `(tactic| walk_at "c1") => `(tactic| first | exact .inr ⟨by decide, by decide⟩ | exact .inl ⟨by decide, by decide⟩ | exact rfl | exact ⟨by decide, by decide, by decide⟩ | (show (0 : Int) < _; first | decide | omega | (split <;> omega)) | (show (0 : Int) < _ ∧ _ < (1073741824 : Int); constructor <;> (split <;> omega)) | exact le_size0 rfl | exact le_size (by omega))
local macro_rules | `(tactic| walk_at "r") => `(tactic| repeat (first | refine ⟨_, rfl, ?_⟩ | refine ⟨_, _, rfl, rfl, ?_⟩ | refine .inl ⟨_, rfl, ?_⟩ | refine ⟨by walk_at "c1", ?_⟩ | refine ⟨_, _, _, _, rfl, rfl, .inl (.inl (by walk_at "h")), atI_nat (j := 0) rfl, ?_⟩ | refine ⟨_, _, _, _, rfl, rfl, .inl (.inl (by walk_at "h")), atI_nat (j := 1) rfl, ?_⟩ | refine ⟨_, _, _, _, rfl, rfl, .inl (.inl (by walk_at "h")), atI_nat (j := 2) rfl, ?_⟩ | refine ⟨_, _, _, _, rfl, rfl, .inl (.inl (by walk_at "h")), atI_nat (j := 3) rfl, ?_⟩ | refine ⟨_, _, _, _, rfl, rfl, by walk_at "h", rfl, ?_⟩ | refine ⟨_, _, rfl, .inl (.inl (.inl (by walk_at "h"))), ?_⟩ | refine ⟨_, _, (rfl : [V.int _, V.int _] = [V.int _, V.int _]), ?_⟩))
section
variable {P : Program} {w : World} {K : PySem.W.Frag} {mg : Str → Option Value} {base : Heap}
abbrev s_lawtape : Stmt := topS 6
abbrev N_lawtape : List Str := ["script", "total", "cell"]
theorem sc_lawtape : FnScope N_lawtape ["script"] (defScope s_lawtape) := ⟨rfl, rfl, rfl, by decide +kernel, rfl, by decide +kernel, by decide +kernel⟩
set_option maxHeartbeats 1000000 in
theorem ok_lawtape (D : Df K mg "_law_tape" s_lawtape ["script"]) (B : Bn mg)   : Cal P w K mg base 1 "_law_tape" ["script"] (spTape K) := by
  refine D.cal sc_lawtape ?_ ?_
  · intro vs H Q E h; obtain ⟨a, ns, rfl, _⟩ := h; rfl
  intro f cdv A o s H vs Q E hr h
  obtain ⟨a, ns, rfl, hS, hl, q⟩ := h
  have nd := sc_lawtape.nd
  refine ⟨_, (pss_cons (ps_set (i := 1) nd rfl (Or.inl rfl) pe_int)
    (pss_cons (ps_for PassesOwn.never rfl (pi_list (pv 0)) (pg_name (i := 2) nd rfl (Or.inl rfl))
      (pss_one (ps_set (i := 1) nd rfl (Or.inl rfl) (pe_op op_mod (pe_callTy call_int1 rfl B.int_ (by decide +kernel) (pa_cons (pe_op op_add (pe_op op_mul (pv 1) pe_int) (pe_callB call_abs rfl B.abs_ (by decide +kernel) (pa_cons (pe_callTy call_int1 rfl B.int_ (by decide +kernel) (pa_cons (pv 2) pa_nil)) pa_nil))) pa_nil)) pe_int))))
    (pss_one (ps_ret (pe_lst (pa_cons (pe_callTy call_list_of rfl B.list_ (by decide +kernel) (pa_cons (pv 0) pa_nil)) (pa_cons pe_int (pa_cons pe_int (pa_cons (pv 1) pa_nil))))))))), ?_⟩
  refine ⟨_, rfl, a, rfl, ⟨_, hS⟩, for_it (walk_list (xs := ns.map V.int)) (fun i σ H' => ∃ v y, σ = [some (.ref a), some (.int v), y] ∧ 0 ≤ v ∧ H' = H) ⟨7, none, rfl, by omega, rfl⟩ ?_ ?_ ?_⟩
  · rintro i σ H' hi ⟨v, y, rfl, hv, rfl⟩
    exact hS
  · rintro i x σ H1 H2 hi ⟨v, y, rfl, hv, rfl⟩ ⟨rfl, hx⟩
    obtain ⟨c, rfl⟩ : ∃ c : Int, x = .int c := by
      rw [List.getElem?_map] at hx
      cases e : ns[i]? with
      | none => rw [e] at hx; cases hx
      | some c => rw [e] at hx; exact ⟨c, (Option.some.inj hx).symm⟩
    walk_at "r"
    exact ⟨_, _, rfl, Int.emod_nonneg _ (by decide), rfl⟩
  · rintro σ H2 ⟨v, y, rfl, hv, rfl⟩
    walk_at "r"
    refine ⟨_, _, rfl, .inl hS, fun c hc => ?_⟩
    walk_at "r"
    intro t ht
    have hct : c ≠ t := fun e => by
      rw [e, upd_same] at ht; cases ht
    have hn : H2 t = none := by rw [upd_ne hct.symm] at ht; exact ht
    refine q (t, c) _ (fun b u e => ?_) hn ⟨ns, 0, 0, v, upd_same, hct, ?_, by omega, by omega, hv⟩
    · rw [upd_ne (ne_of_none e hn), upd_ne (ne_of_none e hc)]
      exact e
    · show upd (upd H2 c _) t _ c = _
      rw [upd_ne hct, upd_same]
abbrev s_lawdraw : Stmt := topS 7
abbrev N_lawdraw : List Str := ["tape", "many", "place", "number"]
theorem sc_lawdraw : FnScope N_lawdraw ["tape", "many"] (defScope s_lawdraw) := ⟨rfl, rfl, rfl, by decide +kernel, rfl, by decide +kernel, by decide +kernel⟩
set_option maxHeartbeats 1000000 in
theorem ok_lawdraw (D : Df K mg "_law_draw" s_lawdraw ["tape", "many"]) (B : Bn mg)   : Cal P w K mg base 1 "_law_draw" ["tape", "many"] (spDraw K) := by
  refine D.cal sc_lawdraw ?_ ?_
  · intro vs H Q E h; obtain ⟨t, m, rfl, _⟩ := h; rfl
  intro f cdv A o s H vs Q E hr h
  obtain ⟨t, m, rfl, T, hm, q⟩ := h
  have nd := sc_lawdraw.nd
  refine ⟨_, (pss_cons (ps_if (pt_cmpR op_eq (pe_ix ix_list (pv 0) pe_int (fun _ _ => rfl)) pe_int (nomark _))
      (pss_cons (ps_set (i := 2) nd rfl (Or.inl rfl) (pe_ix ix_list (pv 0) pe_int (fun _ _ => rfl)))
      (pss_cons (ps_set (i := 3) nd rfl (Or.inl rfl) pe_int)
      (pss_cons (ps_if (pt_cmpR op_lt (pv 2) (pe_callB call_len_seq rfl B.len_ PySem.boot_len (pa_cons (pe_ix ix_list (pv 0) pe_int (fun _ _ => rfl)) pa_nil)) (nomark _))
        (pss_one (ps_set (i := 3) nd rfl (Or.inl rfl) (pe_callB call_abs rfl B.abs_ (by decide +kernel) (pa_cons (pe_callTy call_int1 rfl B.int_ (by decide +kernel) (pa_cons (pe_ix ix_list (pe_ix ix_list (pv 0) pe_int (fun _ _ => rfl)) (pv 2) (fun _ _ => rfl)) pa_nil)) pa_nil))))
        (pss_cons (ps_asg (pe_op op_mod (pe_callTy call_int1 rfl B.int_ (by decide +kernel) (pa_cons (pe_op op_add (pe_op op_add (pe_op op_mul (pe_ix ix_list (pv 0) pe_int (fun _ _ => rfl)) pe_int) (pv 2)) pe_int) pa_nil)) pe_int) (pg_sub (pv 0) pe_int set_list))
        (pss_one (ps_set (i := 3) nd rfl (Or.inl rfl) (pe_ix ix_list (pv 0) pe_int (fun _ _ => rfl))))))
      (pss_cons (ps_asg (pe_op op_add (pv 2) pe_int) (pg_sub (pv 0) pe_int set_list))
      (pss_cons (ps_if (pt_cmpR op_lt (pv 3) (pe_op op_pow pe_int pe_int) (nomark _))
        (pss_cons (ps_set (i := 3) nd rfl (Or.inl rfl) (pe_op op_mod (pe_callTy call_int1 rfl B.int_ (by decide +kernel) (pa_cons (pe_op op_add (pe_op op_add (pe_op op_mul (pv 3) pe_int) (pe_op op_mul (pv 2) pe_int)) pe_int) pa_nil)) pe_int))
        (pss_cons (ps_set (i := 3) nd rfl (Or.inl rfl) (pe_op op_mod (pe_callTy call_int1 rfl B.int_ (by decide +kernel) (pa_cons (pe_op op_mul (pv 3) pe_int) pa_nil)) pe_int))
        (pss_one (ps_ret (pe_op op_mod (pe_callTy call_int1 rfl B.int_ (by decide +kernel) (pa_cons (pv 3) pa_nil)) (pe_callB (call_max2 rfl) rfl B.max_ (by decide +kernel) (pa_cons (pv 1) (pa_cons pe_int pa_nil))))))))
        pss_nil)
      (pss_one (ps_asg (pv 3) (pg_sub (pv 0) pe_int set_list))))))))
      pss_nil)
    (pss_cons (ps_set (i := 3) nd rfl (Or.inl rfl) (pe_ix ix_list (pv 0) pe_int (fun _ _ => rfl)))
    (pss_cons (ps_asg (pe_op op_fdiv (pv 3) (pe_callB (call_max2 rfl) rfl B.max_ (by decide +kernel) (pa_cons (pv 1) (pa_cons pe_int pa_nil)))) (pg_sub (pv 0) pe_int set_list))
    (pss_one (ps_ret (pe_op op_mod (pe_callTy call_int1 rfl B.int_ (by decide +kernel) (pa_cons (pv 3) pa_nil)) (pe_callB (call_max2 rfl) rfl B.max_ (by decide +kernel) (pa_cons (pv 1) (pa_cons pe_int pa_nil))))))))), ?_⟩
  obtain ⟨t, c⟩ := t
  obtain ⟨ns, p, n, sd, ht, hct, hc, hp, hn, hs⟩ := T.ex
  have ht : H t = some (HO.lst [V.ref c, V.int p, V.int n, V.int sd]) := ht
  have hct : c ≠ t := hct
  have hc : H c = some (HO.lst (ns.map V.int)) := hc
  have q : ∀ v H', 0 ≤ v → v < max m 1 → Kp (t, c) H H' → (∀ b, H b = none → H' b = none) → Tape K H' (t, c) → Q (.int v) H' := q
  have q2 : ∀ (v p' n' s' : Int), 0 ≤ v → v < max m 1 → 0 ≤ p' → 0 ≤ n' → 0 ≤ s' → Q (.int v) (upd H t (.lst [.ref c, .int p', .int n', .int s'])) := fun v p' n' s' h1 h2 h3 h4 h5 =>
    q v _ h1 h2 (Kp.self (t := (t, c))) (fun b hb => by rw [upd_ne (ne_of_none ht hb).symm]; exact hb) ⟨ns, p', n', s', upd_same, hct, by show upd H t _ c = _; rw [upd_ne hct]; exact hc, h3, h4, h5⟩
  have e1 : (if (1 : Int) > m then 1 else m) = max m 1 := by
    split <;> omega
  have m1 : 0 < max m 1 := by omega
  have fin : ∀ z : Int, 0 ≤ z % (if (1 : Int) > m then 1 else m) ∧ z % (if (1 : Int) > m then 1 else m) < max m 1 := fun z => by
    rw [e1]
    exact ⟨Int.emod_nonneg _ (by omega), Int.emod_lt_of_pos _ m1⟩
  have d0 : ∀ z : Int, 0 ≤ z → 0 ≤ z / (if (2 : Int) > m then 2 else m) := fun z hz =>
    Int.ediv_nonneg hz (by split <;> omega)
  walk_at "r"
  refine ite2 (fun e => ?_) (fun e => ?_)
  · walk_at "r"
    refine ite2 (fun e2 => ?_) (fun e2 => ?_)
    · have e3 := of_decide_eq_true e2
      rw [List.length_map] at e3
      have e4 : p.toNat < ns.length := by omega
      have e5 : atI (ns.map V.int) p = some (.int ns[p.toNat]) := by
        have z := atI_nat (xs := ns.map V.int) (j := p.toNat) (v := .int ns[p.toNat]) (by rw [List.getElem?_map, List.getElem?_eq_getElem e4]; rfl)
        rw [Int.toNat_of_nonneg hp] at z
        exact z
      refine ⟨_, rfl, ?_⟩
      walk_at "r"
      refine ⟨_, _, _, _, rfl, rfl, .inl (.inl hc), e5, ?_⟩
      walk_at "r"
      generalize hx : (if ns[p.toNat] < 0 then -ns[p.toNat] else ns[p.toNat]) = x
      have hx0 : 0 ≤ x := by
        rw [← hx]
        split <;> omega
      refine ite2 (fun e6 => ?_) (fun e6 => ?_)
      · walk_at "r"
        exact q2 _ (p + 1) n sd (fin _).1 (fin _).2 (by omega) hn hs
      · walk_at "r"
        rw [upd_upd, upd_upd]
        exact q2 _ (p + 1) _ sd (fin _).1 (fin _).2 (by omega) (d0 _ hx0) hs
    · walk_at "r"
      have s0 : 0 ≤ (sd * 48271 + p + 1) % 2147483647 := Int.emod_nonneg _ (by decide)
      refine ite2 (fun e6 => ?_) (fun e6 => ?_)
      · walk_at "r"
        rw [upd_upd]
        exact q2 _ (p + 1) n _ (fin _).1 (fin _).2 (by omega) hn s0
      · walk_at "r"
        rw [upd_upd, upd_upd, upd_upd]
        exact q2 _ (p + 1) _ _ (fin _).1 (fin _).2 (by omega) (d0 _ s0) s0
  · walk_at "r"
    exact q2 _ p _ sd (fin _).1 (fin _).2 hp (d0 _ hn) hs
abbrev s_lawrising : Stmt := topS 8
abbrev N_lawrising : List Str := ["tape", "signs", "many", "found", "at", "k"]
theorem sc_lawrising : FnScope N_lawrising ["tape", "signs", "many"] (defScope s_lawrising) := ⟨rfl, rfl, rfl, by decide +kernel, rfl, by decide +kernel, by decide +kernel⟩

def sp_lawrising (K : PySem.W.Frag) : Sp := fun vs H Q _ => ∃ (t : TA2) (z : Str) (m : Int), vs = [.ref t.1, .str z, .int m] ∧ Tape K H t ∧ 0 ≤ m ∧ m ≤ (z.length : Int) ∧ z.length ≤ 1000 ∧
  ∀ (y : Str) H', y.cps.toList.Sublist z.cps.toList → (y.length : Int) = m → Kp t H H' → Tape K H' t → Q (.str y) H'

set_option maxHeartbeats 1000000 in
theorem ok_lawrising (D : Df K mg "_law_rising" s_lawrising ["tape", "signs", "many"]) (B : Bn mg) (C_lawdraw : Cal P w K mg base 1 "_law_draw" ["tape", "many"] (spDraw K))  : Cal P w K mg base 2 "_law_rising" ["tape", "signs", "many"] (sp_lawrising K) := by
  refine D.cal sc_lawrising ?_ ?_
  · intro vs H Q E h; obtain ⟨t, z, m, rfl, _⟩ := h; rfl
  intro f cdv A o s H vs Q E hr h
  obtain ⟨t, z, m, rfl, T, m0, mz, hz, q⟩ := h
  have nd := sc_lawrising.nd
  refine ⟨_, (pss_cons (ps_set (i := 3) nd rfl (Or.inl rfl) pe_str)
    (pss_cons (ps_set (i := 4) nd rfl (Or.inl rfl) pe_int)
    (pss_cons (ps_for PassesOwn.never rfl (pi_range1 rfl B.range_ (pa_cons (pv 2) pa_nil)) (pg_name (i := 5) nd rfl (Or.inl rfl))
      (pss_cons (ps_set (i := 4) nd rfl (Or.inl rfl) (pe_op op_add (pv 4) (pe_cal C_lawdraw (by first | exact hr | exact hr.mono (by decide)) rfl (pa_cons (pv 0) (pa_cons (pe_op op_sub (pe_op op_add (pe_op op_add (pe_op op_sub (pe_callB call_len_str rfl B.len_ PySem.boot_len (pa_cons (pv 1) pa_nil)) (pv 2)) (pv 5)) pe_int) (pv 4)) pa_nil)))))
      (pss_cons (ps_set (i := 3) nd rfl (Or.inl rfl) (pe_op op_add_str (pv 3) (pe_ix ix_str (pv 1) (pv 4) (fun _ _ => rfl))))
      (pss_one (ps_set (i := 4) nd rfl (Or.inl rfl) (pe_op op_add (pv 4) pe_int))))))
    (pss_one (ps_ret (pv 3)))))), ?_⟩
  walk_at "r"
  refine ⟨by omega, by omega, for_it walk_range (fun i σ H' => ∃ (y : Str) (a : Int) (x : Option V), σ = [some (.ref t.1), some (.str z), some (.int m), some (.str y), some (.int a), x] ∧
    0 ≤ a ∧ a ≤ (z.length : Int) - m + i ∧ (y.length : Int) = i ∧ y.cps.toList.Sublist (z.cps.toList.take a.toNat) ∧ Kp t H H' ∧ Tape K H' t) ?_ ?_ ?_ ?_⟩
  · exact ⟨_, 0, none, rfl, by omega, by omega, rfl, List.nil_sublist _, Kp.refl _ _, T⟩
  · intros; trivial
  · rintro i x σ H1 H2 hi ⟨y, a, w, rfl, a0, a1, hy, hs, kp, T1⟩ ⟨rfl, rfl⟩
    walk_at "r"
    have hm' : m = (m.toNat : Int) := by omega
    refine ⟨t, _, rfl, T1, by omega, fun v H3 v0 v1 kp2 _ T2 => ?_⟩
    have v2 : a + v ≤ (z.length : Int) - m + i := by omega
    have g1 : (a + v).toNat < z.cps.toList.length := by
      show _ < z.cps.toList.length
      have : z.cps.toList.length = z.length := Array.length_toList
      omega
    have g2 := atI_nat (List.getElem?_eq_getElem g1)
    rw [Int.toNat_of_nonneg (by omega)] at g2
    walk_at "r"
    refine ⟨_, _, _, rfl, rfl, le_size (by omega), g2, ?_⟩
    walk_at "r"
    refine ⟨?_, ?_⟩
    · show y.length + 1 ≤ sizeLine
      exact le_size (by omega)
    walk_at "r"
    refine ⟨_, _, _, rfl, by omega, by omega, ?_, ?_, kp.trans kp2, T2⟩
    · rw [strLen_append]
      show ((y.length + 1 : Nat) : Int) = _
      omega
    · have e1 : (a + v + 1).toNat = (a + v).toNat + 1 := by omega
      rw [e1, List.take_add_one, List.getElem?_eq_getElem g1]
      have e2 : (y ++ (⟨#[z.cps.toList[(a + v).toNat]]⟩ : Str)).cps.toList = y.cps.toList ++ [z.cps.toList[(a + v).toNat]] := by
        show (y.cps ++ #[z.cps.toList[(a + v).toNat]]).toList = _
        rw [Array.toList_append]
      rw [e2]
      exact List.Sublist.append (hs.trans (List.take_sublist_take_left (by omega))) (List.Sublist.refl _)
  · rintro σ H2 ⟨y, a, w, rfl, a0, a1, hy, hs, kp, T1⟩
    walk_at "r"
    exact q y H2 (hs.trans (List.take_sublist _ _)) (by omega) kp T1
abbrev s_lawletters : Stmt := topS 9
abbrev N_lawletters : List Str := ["tape"]
theorem sc_lawletters : FnScope N_lawletters ["tape"] (defScope s_lawletters) := ⟨rfl, rfl, rfl, by decide +kernel, rfl, by decide +kernel, by decide +kernel⟩

def sp_lawletters (K : PySem.W.Frag) : Sp := fun vs H Q _ => ∃ (t : TA2), vs = [.ref t.1] ∧ Tape K H t ∧
  ∀ (y : Str) H', y.cps.toList.Sublist lows → 1 ≤ y.length → y.length ≤ 3 → Kp t H H' → Tape K H' t → Q (.str y) H'

set_option maxHeartbeats 1000000 in
theorem ok_lawletters (D : Df K mg "_law_letters" s_lawletters ["tape"]) (B : Bn mg) (C_lawrising : Cal P w K mg base 2 "_law_rising" ["tape", "signs", "many"] (sp_lawrising K)) (C_lawdraw : Cal P w K mg base 1 "_law_draw" ["tape", "many"] (spDraw K))  : Cal P w K mg base 3 "_law_letters" ["tape"] (sp_lawletters K) := by
  refine D.cal sc_lawletters ?_ ?_
  · intro vs H Q E h; obtain ⟨t, rfl, _⟩ := h; rfl
  intro f cdv A o s H vs Q E hr h
  obtain ⟨t, rfl, T, q⟩ := h
  have nd := sc_lawletters.nd
  refine ⟨_, (pss_one (ps_ret (pe_cal C_lawrising (by first | exact hr | exact hr.mono (by decide)) rfl (pa_cons (pv 0) (pa_cons pe_str (pa_cons (pe_ix ix_list (pe_lst (pa_cons pe_int (pa_cons pe_int (pa_cons pe_int (pa_cons pe_int (pa_cons pe_int (pa_cons pe_int pa_nil))))))) (pe_cal C_lawdraw (by first | exact hr | exact hr.mono (by decide)) rfl (pa_cons (pv 0) (pa_cons pe_int pa_nil))) (fun _ _ => rfl)) pa_nil)))))), ?_⟩
  walk_at "r"
  intro p hp
  walk_at "r"
  refine ⟨t, _, rfl, T.new hp, by decide, fun v H1 v0 v1 kp _ T1 => ?_⟩
  obtain ⟨u, hu, eu⟩ := pickI (ns := [1, 1, 1, 2, 2, 3]) (v := v) v0 (by show v < 6; omega)
  refine ⟨p, _, v, _, rfl, rfl, .inl (.inl (kp p _ (T.ne hp) upd_same)), eu, ?_⟩
  have u3 : 1 ≤ u ∧ u ≤ 3 := by simp at hu; omega
  walk_at "r"
  refine ⟨t, _, u, rfl, T1, by omega, (show u ≤ (26 : Int) by omega), le_of1000, fun y H2 hs hl kp2 T2 => ?_⟩
  exact q y H2 (lows_eq ▸ hs) (by omega) (by omega) ((Kp.new hp).trans (kp.trans kp2)) T2
abbrev s_lawsymbols : Stmt := topS 11
abbrev N_lawsymbols : List Str := ["letters", "owners", "found", "owner", "letter"]
theorem sc_lawsymbols : FnScope N_lawsymbols ["letters", "owners"] (defScope s_lawsymbols) := ⟨rfl, rfl, rfl, by decide +kernel, rfl, by decide +kernel, by decide +kernel⟩

def sp_lawsymbols (K : PySem.W.Frag) : Sp := fun vs H Q _ => ∃ (y z : Str), vs = [.str y, .str z] ∧ y.length ≤ 30 ∧ z.length ≤ 30 ∧
  ∀ p H', Same H H' → H p = none → H' p = some (.lst ((comb (64 :: z.cps.toList) y.cps.toList).map V.str)) → Q (.ref p) H'

set_option maxHeartbeats 1000000 in
theorem ok_lawsymbols (D : Df K mg "_law_symbols" s_lawsymbols ["letters", "owners"]) (B : Bn mg)   : Cal P w K mg base 1 "_law_symbols" ["letters", "owners"] (sp_lawsymbols K) := by
  refine D.cal sc_lawsymbols ?_ ?_
  · intro vs H Q E h; obtain ⟨y, z, rfl, _⟩ := h; rfl
  intro f cdv A o s H vs Q E hr h
  obtain ⟨y, z, rfl, hy, hz, q⟩ := h
  have nd := sc_lawsymbols.nd
  refine ⟨_, (pss_cons (ps_set (i := 2) nd rfl (Or.inl rfl) (pe_lst pa_nil))
    (pss_cons (ps_for PassesOwn.never rfl (pi_str (pe_op op_add_str pe_str (pv 1))) (pg_name (i := 3) nd rfl (Or.inl rfl))
      (pss_one (ps_for PassesOwn.never rfl (pi_str (pv 0)) (pg_name (i := 4) nd rfl (Or.inl rfl))
        (pss_one (ps_expr (pe_bm PySem.F.plainAttrs_list PySem.F.slot_list_append PySem.F.type_list_append mt_append (pv 2) (pa_cons (pe_op op_add_str (pv 3) (pv 4)) pa_nil)))))))
    (pss_one (ps_ret (pv 2))))), ?_⟩
  walk_at "r"
  intro p hp
  walk_at "r"
  have zl : z.cps.toList.length = z.length := Array.length_toList
  have yl : y.cps.toList.length = y.length := Array.length_toList
  refine ⟨?_, _, rfl, ?_⟩
  · show 1 + z.length ≤ sizeLine
    exact le_size (by omega)
  have ez : (("@" : Str) ++ z).cps.toList = 64 :: z.cps.toList := by
    show (#[64] ++ z.cps).toList = _
    rw [Array.toList_append]
    rfl
  have len : ∀ i j : Nat, i ≤ 31 → j ≤ 30 → i * j ≤ 930 := fun i j hi hj => Nat.mul_le_mul hi hj
  refine for_it walk_str (fun i σ H' => ∃ (a b : Option V), σ = [some (.str y), some (.str z), some (.ref p), a, b] ∧ Same H H' ∧
    H' p = some (.lst ((comb ((64 :: z.cps.toList).take i) y.cps.toList).map V.str))) ⟨none, none, rfl, Same.new hp, upd_same⟩ (fun _ _ _ _ _ => trivial) ?_ ?_
  · rintro i x σ H1 H2 hi ⟨a, b, rfl, sm, hl⟩ ⟨rfl, c, hc, rfl⟩
    have hc' : (64 :: z.cps.toList)[i]? = some c := by rw [← ez, Array.getElem?_toList]; exact hc
    have hi' : i < 1 + z.length := by
      have := (List.getElem?_eq_some_iff.mp hc').1
      simp only [List.length_cons] at this
      omega
    refine ⟨_, rfl, _, rfl, ?_⟩
    refine for_it walk_str (fun j σ H' => ∃ (b : Option V), σ = [some (.str y), some (.str z), some (.ref p), some (.str ⟨#[c]⟩), b] ∧ Same H H' ∧
      H' p = some (.lst ((comb ((64 :: z.cps.toList).take i) y.cps.toList ++ (y.cps.toList.take j).map fun l => sy c l).map V.str)))
      ⟨b, rfl, sm, by rw [List.take_zero, List.map_nil, List.append_nil]; exact hl⟩ (fun _ _ _ _ _ => trivial) ?_ ?_
    · rintro j x σ H1 H2 hj ⟨b, rfl, sm, hl⟩ ⟨rfl, d, hd, rfl⟩
      have hd' : y.cps.toList[j]? = some d := by rw [Array.getElem?_toList]; exact hd
      have hj' : j < y.length := hj
      refine ⟨_, rfl, .inl ⟨rfl, _, .inl (.inl hl)⟩, ?_⟩
      walk_at "r"
      refine ⟨p, _, _, rfl, rfl, hl, ?_, ?_⟩
      · rw [List.length_map, List.length_append, comb_len, List.length_map, List.length_take, List.length_take, List.length_cons]
        have := len (min i (z.cps.toList.length + 1)) y.cps.toList.length (by omega) (by omega)
        exact small1000 (by omega)
      · refine ⟨_, rfl, fun b' u e => ?_, ?_⟩
        · rw [upd_ne (ne_of_none e hp)]
          exact sm _ _ e
        · rw [upd_same, List.take_add_one, hd', sy_cat]
          simp
    · rintro σ H2 ⟨b, rfl, sm, hl⟩
      refine ⟨_, _, rfl, sm, ?_⟩
      rw [hl, List.take_add_one, hc']
      have e : y.cps.toList.take y.cps.size = y.cps.toList := List.take_of_length_le (by rw [Array.length_toList]; exact Nat.le_refl _)
      rw [e]
      show some (HO.lst (List.map V.str (comb _ _ ++ _))) = some (HO.lst (List.map V.str (comb (_ ++ [c]) _)))
      rw [comb_snoc]
  · rintro σ H2 ⟨a, b, rfl, sm, hl⟩
    walk_at "r"
    refine q p _ sm hp ?_
    have e : (64 :: z.cps.toList).take (("@" : Str) ++ z).cps.size = 64 :: z.cps.toList := by
      rw [← ez]
      exact List.take_of_length_le (by rw [Array.length_toList]; exact Nat.le_refl _)
    rw [e] at hl
    exact hl
abbrev s_lawowners : Stmt := topS 10
abbrev N_lawowners : List Str := ["tape"]
theorem sc_lawowners : FnScope N_lawowners ["tape"] (defScope s_lawowners) := ⟨rfl, rfl, rfl, by decide +kernel, rfl, by decide +kernel, by decide +kernel⟩

def sp_lawowners (K : PySem.W.Frag) : Sp := fun vs H Q _ => ∃ (t : TA2), vs = [.ref t.1] ∧ Tape K H t ∧
  ∀ (y : Str) H', y.cps.toList.Sublist caps → 1 ≤ y.length → y.length ≤ 3 → Kp t H H' → Tape K H' t → Q (.str y) H'

set_option maxHeartbeats 1000000 in
theorem ok_lawowners (D : Df K mg "_law_owners" s_lawowners ["tape"]) (B : Bn mg) (C_lawrising : Cal P w K mg base 2 "_law_rising" ["tape", "signs", "many"] (sp_lawrising K)) (C_lawdraw : Cal P w K mg base 1 "_law_draw" ["tape", "many"] (spDraw K))  : Cal P w K mg base 3 "_law_owners" ["tape"] (sp_lawowners K) := by
  refine D.cal sc_lawowners ?_ ?_
  · intro vs H Q E h; obtain ⟨t, rfl, _⟩ := h; rfl
  intro f cdv A o s H vs Q E hr h
  obtain ⟨t, rfl, T, q⟩ := h
  have nd := sc_lawowners.nd
  refine ⟨_, (pss_one (ps_ret (pe_cal C_lawrising (by first | exact hr | exact hr.mono (by decide)) rfl (pa_cons (pv 0) (pa_cons pe_str (pa_cons (pe_ix ix_list (pe_lst (pa_cons pe_int (pa_cons pe_int (pa_cons pe_int (pa_cons pe_int (pa_cons pe_int (pa_cons pe_int pa_nil))))))) (pe_cal C_lawdraw (by first | exact hr | exact hr.mono (by decide)) rfl (pa_cons (pv 0) (pa_cons pe_int pa_nil))) (fun _ _ => rfl)) pa_nil)))))), ?_⟩
  walk_at "r"
  intro p hp
  walk_at "r"
  refine ⟨t, _, rfl, T.new hp, by decide, fun v H1 v0 v1 kp _ T1 => ?_⟩
  obtain ⟨u, hu, eu⟩ := pickI (ns := [1, 2, 2, 2, 2, 3]) (v := v) v0 (by show v < 6; omega)
  refine ⟨p, _, v, _, rfl, rfl, .inl (.inl (kp p _ (T.ne hp) upd_same)), eu, ?_⟩
  have u3 : 1 ≤ u ∧ u ≤ 3 := by simp at hu; omega
  walk_at "r"
  refine ⟨t, _, u, rfl, T1, by omega, (show u ≤ (26 : Int) by omega), le_of1000, fun y H2 hs hl kp2 T2 => ?_⟩
  exact q y H2 (caps_eq ▸ hs) (by omega) (by omega) ((Kp.new hp).trans (kp.trans kp2)) T2
abbrev s_combined : Stmt := topS 4
abbrev N_combined : List Str := ["letters", "holders", "holder", "letter"]
theorem sc_combined : FnScope N_combined ["letters", "holders"] (defScope s_combined) := ⟨rfl, rfl, rfl, by decide +kernel, rfl, by decide +kernel, by decide +kernel⟩

def sp_combined (K : PySem.W.Frag) : Sp := fun vs H Q _ => ∃ (y z : Str), vs = [.str y, .str z] ∧ y.length ≤ 30 ∧ z.length ≤ 31 ∧
  ∀ p H', Same H H' → H p = none → H' p = some (.tup ((comb z.cps.toList y.cps.toList).map V.str)) → Q (.ref p) H'

set_option maxHeartbeats 1000000 in
theorem ok_combined (D : Df K mg "_combined" s_combined ["letters", "holders"]) (B : Bn mg)   : Cal P w K mg base 1 "_combined" ["letters", "holders"] (sp_combined K) := by
  refine D.cal sc_combined ?_ ?_
  · intro vs H Q E h; obtain ⟨y, z, rfl, _⟩ := h; rfl
  intro f cdv A o s H vs Q E hr h
  obtain ⟨y, z, rfl, hy, hz, q⟩ := h
  have nd := sc_combined.nd
  refine ⟨_, (pss_one (ps_ret (pe_callTy call_tuple_of rfl B.tuple_ (by decide +kernel) (pa_cons (pe_lc2 (own := [("holder", 2), ("letter", 3)]) (vs1 := [3]) rfl nd (pi_str (pv 1)) (blkOk_by (N := N_combined) (sc := defScope s_combined) (by decide +kernel)) (by decide) (fun _ _ _ _ _ => (pg_name (i := 2) nd rfl (Or.inl rfl))) (fun _ _ _ _ _ => pts_nil) (fun _ _ _ _ _ => (pi_str (pv 0))) (fun _ _ _ _ _ => (pg_name (i := 3) nd rfl (Or.inl rfl))) (fun _ _ _ _ _ => pts_nil) (fun _ _ _ _ _ => (pe_op op_add_str (pv 2) (pv 3)))) pa_nil)))), ?_⟩
  have zl : z.cps.toList.length = z.length := Array.length_toList
  have yl : y.cps.toList.length = y.length := Array.length_toList
  have len : ∀ i j : Nat, i ≤ 31 → j ≤ 30 → i * j ≤ 930 := fun i j hi hj => Nat.mul_le_mul hi hj
  refine ⟨_, rfl, _, rfl, fun p hp => ?_⟩
  refine it_any walk_str (fun i H' => Same H H' ∧ H' p = some (.lst ((comb (z.cps.toList.take i) y.cps.toList).map V.str)))
    ⟨Same.new hp, upd_same⟩ (fun _ _ _ _ => trivial) ?_ ?_
  · rintro i x H1 H2 hi ⟨sm, hl⟩ ⟨rfl, c, hc, rfl⟩
    have hc' : z.cps.toList[i]? = some c := by rw [Array.getElem?_toList]; exact hc
    have hi' : i < z.length := hi
    refine ⟨rfl, yes_ite ?_⟩
    refine ⟨_, rfl, _, rfl, ?_⟩
    refine it_any walk_str (fun j H' => Same H H' ∧ H' p = some (.lst ((comb (z.cps.toList.take i) y.cps.toList ++ (y.cps.toList.take j).map fun l => sy c l).map V.str)))
      ⟨sm, by rw [List.take_zero, List.map_nil, List.append_nil]; exact hl⟩ (fun _ _ _ _ => trivial) ?_ ?_
    · rintro j x H1 H2 hj ⟨sm, hl⟩ ⟨rfl, d, hd, rfl⟩
      have hd' : y.cps.toList[j]? = some d := by rw [Array.getElem?_toList]; exact hd
      have hj' : j < y.length := hj
      refine ⟨rfl, yes_ite ?_⟩
      walk_at "r"
      refine ⟨_, hl, ?_, ?_⟩
      · rw [List.length_map, List.length_append, comb_len, List.length_map, List.length_take, List.length_take]
        have := len (min i z.cps.toList.length) y.cps.toList.length (by omega) (by omega)
        exact small1000 (by omega)
      · refine ⟨fun b' u e => ?_, ?_⟩
        · rw [upd_ne (ne_of_none e hp)]
          exact sm _ _ e
        · rw [upd_same, List.take_add_one, hd', sy_cat]
          simp
    · rintro H2 ⟨sm, hl⟩
      refine ⟨sm, ?_⟩
      rw [hl, List.take_add_one, hc']
      have e : y.cps.toList.take y.cps.size = y.cps.toList := List.take_of_length_le (by rw [Array.length_toList]; exact Nat.le_refl _)
      rw [e]
      show some (HO.lst (List.map V.str (comb _ _ ++ _))) = some (HO.lst (List.map V.str (comb (_ ++ [c]) _)))
      rw [comb_snoc]
  · rintro H2 ⟨sm, hl⟩
    refine ⟨p, _, rfl, .inl ⟨.inl (.inl hl), fun l hf => ?_⟩⟩
    have e : z.cps.toList.take z.cps.size = z.cps.toList := List.take_of_length_le (by rw [Array.length_toList]; exact Nat.le_refl _)
    rw [e] at *
    refine q l _ (sm.trans (Same.new hf)) (sm.free hf) upd_same
abbrev s_symbols : Stmt := topS 2
abbrev N_symbols : List Str := ["letters", "owners"]
theorem sc_symbols : FnScope N_symbols ["letters", "owners"] (defScope s_symbols) := ⟨rfl, rfl, rfl, by decide +kernel, rfl, by decide +kernel, by decide +kernel⟩

def sp_symbols (K : PySem.W.Frag) : Sp := fun vs H Q _ => ∃ (y z : Str), vs = [.str y, .str z] ∧ y.length ≤ 30 ∧ z.length ≤ 30 ∧
  ∀ p H', Same H H' → H p = none → H' p = some (.tup ((comb (64 :: z.cps.toList) y.cps.toList).map V.str)) → Q (.ref p) H'

set_option maxHeartbeats 1000000 in
theorem ok_symbols (D : Df K mg "symbols" s_symbols ["letters", "owners"]) (B : Bn mg) (C_combined : Cal P w K mg base 1 "_combined" ["letters", "holders"] (sp_combined K)) (mg_EDITOR : ∃ u, mg "EDITOR" = some (.str "@" u)) : Cal P w K mg base 2 "symbols" ["letters", "owners"] (sp_symbols K) := by
  refine D.cal sc_symbols ?_ ?_
  · intro vs H Q E h; obtain ⟨y, z, rfl, _⟩ := h; rfl
  intro f cdv A o s H vs Q E hr h
  obtain ⟨y, z, rfl, hy, hz, q⟩ := h
  have nd := sc_symbols.nd
  obtain ⟨u, mg_EDITOR⟩ := mg_EDITOR
  refine ⟨_, (pss_one (ps_ret (pe_cal C_combined (by first | exact hr | exact hr.mono (by decide)) rfl (pa_cons (pv 0) (pa_cons (pe_op op_add_str (pe_glob (v := .str "@") rfl mg_EDITOR ⟨_, rfl⟩) (pv 1)) pa_nil))))), ?_⟩
  walk_at "r"
  refine ⟨?_, y, _, rfl, hy, ?_, ?_⟩
  · show 1 + z.length ≤ sizeLine
    exact le_size (by omega)
  · rw [strLen_append]
    show 1 + z.length ≤ 31
    omega
  have ez : (("@" : Str) ++ z).cps.toList = 64 :: z.cps.toList := by
    show (#[64] ++ z.cps).toList = _
    rw [Array.toList_append]
    rfl
  rw [ez]
  exact q
abbrev s_ownersymbols : Stmt := topS 3
abbrev N_ownersymbols : List Str := ["letters", "owners"]
theorem sc_ownersymbols : FnScope N_ownersymbols ["letters", "owners"] (defScope s_ownersymbols) := ⟨rfl, rfl, rfl, by decide +kernel, rfl, by decide +kernel, by decide +kernel⟩

def sp_ownersymbols (K : PySem.W.Frag) : Sp := fun vs H Q _ => ∃ (y z : Str), vs = [.str y, .str z] ∧ y.length ≤ 30 ∧ z.length ≤ 30 ∧
  ∀ p H', Same H H' → H p = none → H' p = some (.tup ((comb (z.cps.toList) y.cps.toList).map V.str)) → Q (.ref p) H'

set_option maxHeartbeats 1000000 in
theorem ok_ownersymbols (D : Df K mg "owner_symbols" s_ownersymbols ["letters", "owners"]) (B : Bn mg) (C_combined : Cal P w K mg base 1 "_combined" ["letters", "holders"] (sp_combined K))  : Cal P w K mg base 2 "owner_symbols" ["letters", "owners"] (sp_ownersymbols K) := by
  refine D.cal sc_ownersymbols ?_ ?_
  · intro vs H Q E h; obtain ⟨y, z, rfl, _⟩ := h; rfl
  intro f cdv A o s H vs Q E hr h
  obtain ⟨y, z, rfl, hy, hz, q⟩ := h
  have nd := sc_ownersymbols.nd
  refine ⟨_, (pss_one (ps_ret (pe_cal C_combined (by first | exact hr | exact hr.mono (by decide)) rfl (pa_cons (pv 0) (pa_cons (pv 1) pa_nil))))), ?_⟩
  walk_at "r"
  exact ⟨y, z, rfl, hy, by omega, q⟩
abbrev s_law : Stmt := topS 12
abbrev N_law : List Str := ["script", "tape", "alphabets", "k", "letters", "owners", "due"]
theorem sc_law : FnScope N_law ["script"] (defScope s_law) := ⟨rfl, rfl, rfl, by decide +kernel, rfl, by decide +kernel, by decide +kernel⟩

theorem comb_sg {hs ls : List Nat} (h1 : ∀ c ∈ hs, c < 128) (h2 : ∀ c ∈ ls, c < 128) : ∀ x ∈ comb hs ls, Sg x ∧ x.length ≤ 2 := fun x hx => by
  obtain ⟨a, ha, b, hb, rfl⟩ := mem_comb hx
  refine ⟨fun c hc => ?_, Nat.le_refl _⟩
  have hc' : c = a ∨ c = b := by simpa using hc
  rcases hc' with rfl | rfl
  · exact h1 _ ha
  · exact h2 _ hb
theorem cutV_mem {xs : List V} {lo hi : Option Int} {x : V} (h : x ∈ cutV xs lo hi) : x ∈ xs := by
  unfold cutV at h
  exact List.mem_of_mem_drop (List.mem_of_mem_take h)

/-- letters and owners as they are drawn -/
def Alp (H : Hp) (v : V) : Prop := ∃ (p : Addr) (y z : Str), v = .ref p ∧ H p = some (.tup [.str y, .str z]) ∧ 1 ≤ y.length ∧ y.length ≤ 3 ∧ z.length ≤ 3 ∧
  (∀ c ∈ y.cps.toList, c < 128) ∧ (∀ c ∈ z.cps.toList, c < 128)
theorem Alp.kp {t : TA2} {H H' : Hp} {v : V} {ys : List V} (h : Alp H v) (k : Kp t H H') (ht : H t.1 = some (.lst ys)) : Alp H' v := by
  obtain ⟨p, y, z, e, hp, r⟩ := h
  exact ⟨p, y, z, e, k.tup ht hp, r⟩

set_option maxHeartbeats 1000000 in
theorem ok_law {e : Addr} {ed : FuncData} (F : Fun K "law" "law" s_law e ed) (B : Bn mg) (C_lawtape : Cal P w K mg base 1 "_law_tape" ["script"] (spTape K)) (C_lawletters : Cal P w K mg base 3 "_law_letters" ["tape"] (sp_lawletters K)) (C_lawowners : Cal P w K mg base 3 "_law_owners" ["tape"] (sp_lawowners K)) (C_lawsymbols : Cal P w K mg base 1 "_law_symbols" ["letters", "owners"] (sp_lawsymbols K)) (C_symbols : Cal P w K mg base 2 "symbols" ["letters", "owners"] (sp_symbols K)) (C_ownersymbols : Cal P w K mg base 2 "owner_symbols" ["letters", "owners"] (sp_ownersymbols K))  : FnG P w K mg base CX0 4 e ed ["script"] (spLaw K) := by
  refine okG0 F sc_law ?_ ?_
  · intro vs H Q E h; obtain ⟨a, ns, rfl, _⟩ := h; rfl
  intro f cdv A o s H vs Q E hr gd h
  obtain ⟨a, ns, rfl, hS, hl, q⟩ := h
  have nd := sc_law.nd
  have hrep : A.units + 3 + 64 < cLine := hr.units
  refine ⟨_, (pss_cons (ps_set (i := 1) nd rfl (Or.inl rfl) (pe_cal C_lawtape (by first | exact hr | exact hr.mono (by decide)) rfl (pa_cons (pv 0) pa_nil)))
    (pss_cons (ps_set (i := 2) nd rfl (Or.inl rfl) (pe_lst pa_nil))
    (pss_cons (ps_for PassesOwn.never rfl (pi_range1 rfl B.range_ (pa_cons pe_int pa_nil)) (pg_name (i := 3) nd rfl (Or.inl rfl))
      (pss_cons (ps_set (i := 4) nd rfl (Or.inl rfl) (pe_cal C_lawletters (by first | exact hr | exact hr.mono (by decide)) rfl (pa_cons (pv 1) pa_nil)))
      (pss_one (ps_expr (pe_bm PySem.F.plainAttrs_list PySem.F.slot_list_append PySem.F.type_list_append mt_append (pv 2) (pa_cons (pe_tup (pa_cons (pv 4) (pa_cons (pe_cal C_lawowners (by first | exact hr | exact hr.mono (by decide)) rfl (pa_cons (pv 1) pa_nil)) pa_nil))) pa_nil))))))
    (pss_cons (ps_for PassesOwn.never rfl (pi_list (pe_op op_cat (pv 2) (pe_slice sl_list (pv 2) po_none (po_some pe_int)))) (pg_tup rfl (pgs_cons (pg_name (i := 4) nd rfl (Or.inl rfl)) (pgs_cons (pg_name (i := 5) nd rfl (Or.inl rfl)) pgs_nil)))
      (pss_cons (ps_set (i := 6) nd rfl (Or.inl rfl) (pe_callTy call_tuple_of rfl B.tuple_ (by decide +kernel) (pa_cons (pe_cal C_lawsymbols (by first | exact hr | exact hr.mono (by decide)) rfl (pa_cons (pv 4) (pa_cons (pv 5) pa_nil))) pa_nil)))
      (pss_cons (ps_if (pt_cmpR op_ne (pe_callB (call_rep gd hrep) rfl B.repr_ (by decide +kernel) (pa_cons (pe_cal C_symbols (by first | exact hr | exact hr.mono (by decide)) rfl (pa_cons (pv 4) (pa_cons (pv 5) pa_nil))) pa_nil)) (pe_callB (call_rep gd hrep) rfl B.repr_ (by decide +kernel) (pa_cons (pv 6) pa_nil)) (nomark _))
        (pss_one (ps_ret pe_bl))
        pss_nil)
      (pss_one (ps_if (pt_cmpR op_ne (pe_callB (call_rep gd hrep) rfl B.repr_ (by decide +kernel) (pa_cons (pe_cal C_ownersymbols (by first | exact hr | exact hr.mono (by decide)) rfl (pa_cons (pv 4) (pa_cons (pv 5) pa_nil))) pa_nil)) (pe_callB (call_rep gd hrep) rfl B.repr_ (by decide +kernel) (pa_cons (pe_slice sl_tup (pv 6) (po_some (pe_callB call_len_str rfl B.len_ PySem.boot_len (pa_cons (pv 4) pa_nil))) po_none) pa_nil)) (nomark _))
        (pss_one (ps_ret pe_bl))
        pss_nil)))))
    (pss_one (ps_ret pe_bl)))))), ?_⟩
  refine ⟨_, rfl, a, ns, rfl, hS, hl, fun t H1 _ _ T1 => ?_⟩
  refine ⟨le_size0 rfl, fun p hp => ?_⟩
  walk_at "r"
  refine ⟨by decide, by decide, ?_⟩
  refine for_it walk_range (fun i σ H' => ∃ (x y z : Option V) (xs : List V), σ = [some (.ref a), some (.ref t.1), some (.ref p), x, y, z, none] ∧
    Tape K H' t ∧ p ≠ t.1 ∧ p ≠ t.2 ∧ H' p = some (.lst xs) ∧ xs.length = i ∧ ∀ v ∈ xs, Alp H' v) ?_ (fun _ _ _ _ _ => trivial) ?_ ?_
  · exact ⟨none, none, none, [], rfl, T1.new hp, T1.ne hp, T1.ne2 hp, upd_same, rfl, fun _ h => nomatch h⟩
  · rintro i x σ H2 H3 hi ⟨x1, y1, z1, xs, rfl, T2, hpt, hpt2, hl2, hn, hA⟩ ⟨rfl, rfl⟩
    have hi2 : i < 2 := hi
    refine ⟨_, rfl, t, rfl, T2, fun y H4 hy y1 y3 kp4 T4 => ?_⟩
    obtain ⟨us, hus⟩ := T2.lst
    obtain ⟨us4, hus4⟩ := T4.lst
    have hl4 := kp4 p _ hpt hl2
    refine ⟨_, rfl, .inl ⟨rfl, _, .inl (.inl hl4)⟩, ?_⟩
    walk_at "r"
    refine ⟨T4, fun z H5 hz z1 z3 kp5 T5 => ?_⟩
    obtain ⟨us5, hus5⟩ := T5.lst
    have hl5 := kp5 p _ hpt hl4
    refine ⟨le_size0 rfl, fun c hc => ?_⟩
    have hpc : p ≠ c := ne_of_none hl5 hc
    refine ⟨p, _, _, rfl, rfl, by rw [upd_ne hpc]; exact hl5, small1000 (by omega), ?_⟩
    have ld : ∀ {v : V}, Alp (upd H5 c (.tup [.str y, .str z])) v → Alp (upd (upd H5 c (.tup [.str y, .str z])) p (.lst (xs ++ [.ref c]))) v := fun h =>
      h.kp (t := (p, p)) (Kp.self (t := (p, p))) (ys := xs) (by show upd H5 c _ p = _; rw [upd_ne hpc]; exact hl5)
    refine ⟨_, _, _, xs ++ [.ref c], rfl, (T5.new hc).put hpt hpt2, hpt, hpt2, upd_same, by rw [List.length_append, hn]; rfl, fun v hv => ?_⟩
    rcases List.mem_append.mp hv with h | h
    · exact ld ((((hA v h).kp kp4 hus).kp kp5 hus4).kp (Kp.new hc) hus5)
    · obtain rfl : v = .ref c := by simpa using h
      exact ld ⟨c, y, z, rfl, upd_same, y1, y3, z3, fun d hd => lows_small d (hy.subset hd), fun d hd => caps_small d (hz.subset hd)⟩
  · rintro σ H2 ⟨x1, y1, z1, xs, rfl, T2, hpt, hpt2, hl2, hn, hA⟩
    have hn : xs.length = 2 := hn
    refine ⟨_, rfl, _, rfl, 1, rfl, p, xs, rfl, .inl (.inl hl2), fun c hc => ?_⟩
    have hpc : p ≠ c := ne_of_none hl2 hc
    have cl := cutV_length xs none (some 1)
    refine ⟨p, c, xs, _, rfl, rfl, by rw [upd_ne hpc]; exact hl2, upd_same, le_size (by omega), fun d hd => ?_⟩
    have sm0 : Same H2 (upd (upd H2 c (.lst (cutV xs none (some 1)))) d (.lst (xs ++ cutV xs none (some 1)))) := (Same.new hc).trans (Same.new hd)
    have hA2 : ∀ v ∈ xs ++ cutV xs none (some 1), Alp H2 v := fun v hv => by
      rcases List.mem_append.mp hv with h | h
      · exact hA v h
      · exact hA v (cutV_mem h)
    refine ⟨d, rfl, ⟨_, .inl (.inl upd_same)⟩, ?_⟩
    refine for_it (walk_list (xs := xs ++ cutV xs none (some 1))) (fun i σ H' => ∃ (x y z w : Option V), σ = [some (.ref a), some (.ref t.1), some (.ref p), x, y, z, w] ∧ Same H2 H' ∧
      H' d = some (.lst (xs ++ cutV xs none (some 1)))) ⟨x1, y1, z1, none, rfl, sm0, upd_same⟩ (fun i σ H' hi h => ?_) ?_ ?_
    · obtain ⟨x, y, z, w, _, _, h⟩ := h
      exact .inl (.inl h)
    · rintro i v σ H3 H4 hi ⟨x, y2, z2, w2, rfl, sm, hd2⟩ ⟨rfl, hx⟩
      obtain ⟨u, y, z, rfl, hu, ya, yb, zb, yc, zc⟩ := hA2 v (List.mem_of_getElem? hx)
      have hu4 := sm u _ hu
      refine ⟨u, [.str y, .str z], rfl, .inl (.inl hu4), rfl, _, _, rfl, _, _, rfl, rfl, ?_⟩
      walk_at "r"
      refine ⟨y, z, rfl, by omega, by omega, fun s5 H5 sm5 n5 hl5 => ?_⟩
      refine ⟨s5, _, rfl, .inl ⟨.inl (.inl hl5), fun u6 n6 => ?_⟩⟩
      have sm6 := sm5.trans (Same.new (o := .tup ((comb (64 :: z.cps.toList) y.cps.toList).map V.str)) n6)
      have zl : z.cps.toList.length = z.length := Array.length_toList
      have yl : y.cps.toList.length = y.length := Array.length_toList
      have h64 : ∀ c ∈ 64 :: z.cps.toList, c < 128 := fun c hc => by
        rcases List.mem_cons.mp hc with rfl | h
        · decide
        · exact zc c h
      have len1 : (comb (64 :: z.cps.toList) y.cps.toList).length ≤ 12 := by
        rw [comb_len, List.length_cons]
        exact Nat.le_trans (Nat.mul_le_mul (show z.cps.toList.length + 1 ≤ 4 by omega) (show y.cps.toList.length ≤ 3 by omega)) (by decide)
      have len2 : (comb z.cps.toList y.cps.toList).length ≤ 12 := by
        rw [comb_len]
        exact Nat.le_trans (Nat.mul_le_mul (show z.cps.toList.length ≤ 4 by omega) (show y.cps.toList.length ≤ 3 by omega)) (by decide)
      have s1 := sh_strs (comb_sg h64 yc)
      have s2 := sh_strs (comb_sg zc yc)
      walk_at "r"
      refine ⟨y, z, rfl, by omega, by omega, fun s7 H7 sm7 n7 hl7 => ?_⟩
      refine ⟨_, _, rfl, Dp.tup (.inl (.inl hl7)) (dp_strs _), s1.s, s1.n, Nat.le_trans s1.p (by decide), s1.fits (by omega), ?_⟩
      walk_at "r"
      refine ⟨_, _, rfl, Dp.tup (.inl (.inl (sm7 _ _ upd_same))) (dp_strs _), s1.s, s1.n, Nat.le_trans s1.p (by decide), s1.fits (by omega), ?_⟩
      refine ⟨rfl, _, rfl, iteNS rfl ?_⟩
      walk_at "r"
      refine ⟨y, z, rfl, by omega, by omega, fun s8 H8 sm8 n8 hl8 => ?_⟩
      refine ⟨_, _, rfl, Dp.tup (.inl (.inl hl8)) (dp_strs _), s2.s, s2.n, Nat.le_trans s2.p (by decide), s2.fits (by omega), ?_⟩
      have cl2 : y.length ≤ ((comb (64 :: z.cps.toList) y.cps.toList).map V.str).length := by
        rw [List.length_map, comb_len, List.length_cons, Nat.succ_mul]
        omega
      have cl3 : cutV ((comb (64 :: z.cps.toList) y.cps.toList).map V.str) (some (y.length : Int)) none = (comb z.cps.toList y.cps.toList).map V.str := by
        rw [cutV_from _ _ cl2, ← List.map_drop, comb_cons, List.drop_left' (by rw [List.length_map]; exact yl)]
      walk_at "r"
      refine ⟨u6, _, rfl, .inl (.inl (sm8 _ _ (sm7 _ _ upd_same))), fun hh => ?_, fun u9 n9 => ?_⟩
      · rw [sIx_from _ _ cl2] at hh
        omega
      rw [cl3]
      refine ⟨_, _, rfl, Dp.tup (.inl (.inl upd_same)) (dp_strs _), s2.s, s2.n, Nat.le_trans s2.p (by decide), s2.fits (by omega), ?_⟩
      refine ⟨rfl, _, rfl, iteNS rfl ?_⟩
      have smz := sm6.trans (sm7.trans (sm8.trans (Same.new (o := .tup ((comb z.cps.toList y.cps.toList).map V.str)) n9)))
      exact ⟨_, _, _, _, rfl, sm.trans smz, smz _ _ hd2⟩
    · rintro σ H3 ⟨x, y, z, w, rfl, _, _⟩
      exact q H3
end
theorem all_mk {l : PySem.W.OpenLaw} {w : World} {K : PySem.W.Frag} {h : Heap} {mg : Str → Option Value} {fa : Addr} (X : K.In h) (G : h.Ns mainGlobals mg) (hfa : mg "law" = some (.ref fa))
    {f1 : Addr} {od1 an1 : Option Addr} {sl1 : Array (Option Value)} {oc1 kV1 dc1 pm1 cd1 ct1 : Value}
    (a1 : PySem.W.nsIn K mainGlobals "_law_tape" = some (some (.ref f1)))
    (l1 : K.lookup f1 = some ⟨oc1, od1, .func (PySem.W.fnOf "_law_tape" "_law_tape" (defArgs s_lawtape) (defBody s_lawtape) (defScope s_lawtape) .none kV1 dc1 pm1 an1 cd1 ct1), sl1⟩)
    (c1 : PySem.W.codeIn K cd1 "_law_tape" = true) (k1 : PySem.W.keepIn K (.ref f1) = true)
    {f2 : Addr} {od2 an2 : Option Addr} {sl2 : Array (Option Value)} {oc2 kV2 dc2 pm2 cd2 ct2 : Value}
    (a2 : PySem.W.nsIn K mainGlobals "_law_draw" = some (some (.ref f2)))
    (l2 : K.lookup f2 = some ⟨oc2, od2, .func (PySem.W.fnOf "_law_draw" "_law_draw" (defArgs s_lawdraw) (defBody s_lawdraw) (defScope s_lawdraw) .none kV2 dc2 pm2 an2 cd2 ct2), sl2⟩)
    (c2 : PySem.W.codeIn K cd2 "_law_draw" = true) (k2 : PySem.W.keepIn K (.ref f2) = true)
    {f3 : Addr} {od3 an3 : Option Addr} {sl3 : Array (Option Value)} {oc3 kV3 dc3 pm3 cd3 ct3 : Value}
    (a3 : PySem.W.nsIn K mainGlobals "_law_rising" = some (some (.ref f3)))
    (l3 : K.lookup f3 = some ⟨oc3, od3, .func (PySem.W.fnOf "_law_rising" "_law_rising" (defArgs s_lawrising) (defBody s_lawrising) (defScope s_lawrising) .none kV3 dc3 pm3 an3 cd3 ct3), sl3⟩)
    (c3 : PySem.W.codeIn K cd3 "_law_rising" = true) (k3 : PySem.W.keepIn K (.ref f3) = true)
    {f4 : Addr} {od4 an4 : Option Addr} {sl4 : Array (Option Value)} {oc4 kV4 dc4 pm4 cd4 ct4 : Value}
    (a4 : PySem.W.nsIn K mainGlobals "_law_letters" = some (some (.ref f4)))
    (l4 : K.lookup f4 = some ⟨oc4, od4, .func (PySem.W.fnOf "_law_letters" "_law_letters" (defArgs s_lawletters) (defBody s_lawletters) (defScope s_lawletters) .none kV4 dc4 pm4 an4 cd4 ct4), sl4⟩)
    (c4 : PySem.W.codeIn K cd4 "_law_letters" = true) (k4 : PySem.W.keepIn K (.ref f4) = true)
    {f5 : Addr} {od5 an5 : Option Addr} {sl5 : Array (Option Value)} {oc5 kV5 dc5 pm5 cd5 ct5 : Value}
    (a5 : PySem.W.nsIn K mainGlobals "_law_symbols" = some (some (.ref f5)))
    (l5 : K.lookup f5 = some ⟨oc5, od5, .func (PySem.W.fnOf "_law_symbols" "_law_symbols" (defArgs s_lawsymbols) (defBody s_lawsymbols) (defScope s_lawsymbols) .none kV5 dc5 pm5 an5 cd5 ct5), sl5⟩)
    (c5 : PySem.W.codeIn K cd5 "_law_symbols" = true) (k5 : PySem.W.keepIn K (.ref f5) = true)
    {f6 : Addr} {od6 an6 : Option Addr} {sl6 : Array (Option Value)} {oc6 kV6 dc6 pm6 cd6 ct6 : Value}
    (a6 : PySem.W.nsIn K mainGlobals "_law_owners" = some (some (.ref f6)))
    (l6 : K.lookup f6 = some ⟨oc6, od6, .func (PySem.W.fnOf "_law_owners" "_law_owners" (defArgs s_lawowners) (defBody s_lawowners) (defScope s_lawowners) .none kV6 dc6 pm6 an6 cd6 ct6), sl6⟩)
    (c6 : PySem.W.codeIn K cd6 "_law_owners" = true) (k6 : PySem.W.keepIn K (.ref f6) = true)
    {f7 : Addr} {od7 an7 : Option Addr} {sl7 : Array (Option Value)} {oc7 kV7 dc7 pm7 cd7 ct7 : Value}
    (a7 : PySem.W.nsIn K mainGlobals "_combined" = some (some (.ref f7)))
    (l7 : K.lookup f7 = some ⟨oc7, od7, .func (PySem.W.fnOf "_combined" "_combined" (defArgs s_combined) (defBody s_combined) (defScope s_combined) .none kV7 dc7 pm7 an7 cd7 ct7), sl7⟩)
    (c7 : PySem.W.codeIn K cd7 "_combined" = true) (k7 : PySem.W.keepIn K (.ref f7) = true)
    {f8 : Addr} {od8 an8 : Option Addr} {sl8 : Array (Option Value)} {oc8 kV8 dc8 pm8 cd8 ct8 : Value}
    (a8 : PySem.W.nsIn K mainGlobals "symbols" = some (some (.ref f8)))
    (l8 : K.lookup f8 = some ⟨oc8, od8, .func (PySem.W.fnOf "symbols" "symbols" (defArgs s_symbols) (defBody s_symbols) (defScope s_symbols) .none kV8 dc8 pm8 an8 cd8 ct8), sl8⟩)
    (c8 : PySem.W.codeIn K cd8 "symbols" = true) (k8 : PySem.W.keepIn K (.ref f8) = true)
    {f9 : Addr} {od9 an9 : Option Addr} {sl9 : Array (Option Value)} {oc9 kV9 dc9 pm9 cd9 ct9 : Value}
    (a9 : PySem.W.nsIn K mainGlobals "owner_symbols" = some (some (.ref f9)))
    (l9 : K.lookup f9 = some ⟨oc9, od9, .func (PySem.W.fnOf "owner_symbols" "owner_symbols" (defArgs s_ownersymbols) (defBody s_ownersymbols) (defScope s_ownersymbols) .none kV9 dc9 pm9 an9 cd9 ct9), sl9⟩)
    (c9 : PySem.W.codeIn K cd9 "owner_symbols" = true) (k9 : PySem.W.keepIn K (.ref f9) = true)
    {f10 : Addr} {od10 an10 : Option Addr} {sl10 : Array (Option Value)} {oc10 kV10 dc10 pm10 cd10 ct10 : Value}
    (a10 : PySem.W.nsIn K mainGlobals "law" = some (some (.ref f10)))
    (l10 : K.lookup f10 = some ⟨oc10, od10, .func (PySem.W.fnOf "law" "law" (defArgs s_law) (defBody s_law) (defScope s_law) .none kV10 dc10 pm10 an10 cd10 ct10), sl10⟩)
    (c10 : PySem.W.codeIn K cd10 "law" = true) (k10 : PySem.W.keepIn K (.ref f10) = true)
    (z_len : PySem.W.nsIn K mainGlobals "len" = some none)
    (z_max : PySem.W.nsIn K mainGlobals "max" = some none)
    (z_abs : PySem.W.nsIn K mainGlobals "abs" = some none)
    (z_int : PySem.W.nsIn K mainGlobals "int" = some none)
    (z_list : PySem.W.nsIn K mainGlobals "list" = some none)
    (z_tuple : PySem.W.nsIn K mainGlobals "tuple" = some none)
    (z_range : PySem.W.nsIn K mainGlobals "range" = some none)
    (z_repr : PySem.W.nsIn K mainGlobals "repr" = some none)
    {u_EDITOR : Tok} (g_EDITOR : PySem.W.nsIn K mainGlobals "EDITOR" = some (some (.str "@" u_EDITOR)))
    : ∃ fd : FuncData, (∀ (s : Shared) (v : Value), BindsTo s fd ⟨[v], []⟩ [("script", v)]) ∧ ∀ base : Heap, K.In base → base.Ns mainGlobals mg → FnG l.prog w K mg base CX0 4 fa fd ["script"] (spLaw K) := by
  have e := hfa.symm.trans (PySem.W.mg_of X G a10)
  cases e
  have B : Bn mg := ⟨PySem.W.mg_none_of X G z_len, PySem.W.mg_none_of X G z_max, PySem.W.mg_none_of X G z_abs, PySem.W.mg_none_of X G z_int, PySem.W.mg_none_of X G z_list, PySem.W.mg_none_of X G z_tuple, PySem.W.mg_none_of X G z_range, PySem.W.mg_none_of X G z_repr⟩
  have mg_EDITOR := PySem.W.mg_of X G g_EDITOR
  have D1 : Df K mg "_law_tape" s_lawtape ["script"] := df_mk X G a1 l1 c1 k1 fun _ _ _ _ _ _ us hl => match us, hl with | [_], _ => rfl
  have D2 : Df K mg "_law_draw" s_lawdraw ["tape", "many"] := df_mk X G a2 l2 c2 k2 fun _ _ _ _ _ _ us hl => match us, hl with | [_, _], _ => rfl
  have D3 : Df K mg "_law_rising" s_lawrising ["tape", "signs", "many"] := df_mk X G a3 l3 c3 k3 fun _ _ _ _ _ _ us hl => match us, hl with | [_, _, _], _ => rfl
  have D4 : Df K mg "_law_letters" s_lawletters ["tape"] := df_mk X G a4 l4 c4 k4 fun _ _ _ _ _ _ us hl => match us, hl with | [_], _ => rfl
  have D5 : Df K mg "_law_symbols" s_lawsymbols ["letters", "owners"] := df_mk X G a5 l5 c5 k5 fun _ _ _ _ _ _ us hl => match us, hl with | [_, _], _ => rfl
  have D6 : Df K mg "_law_owners" s_lawowners ["tape"] := df_mk X G a6 l6 c6 k6 fun _ _ _ _ _ _ us hl => match us, hl with | [_], _ => rfl
  have D7 : Df K mg "_combined" s_combined ["letters", "holders"] := df_mk X G a7 l7 c7 k7 fun _ _ _ _ _ _ us hl => match us, hl with | [_, _], _ => rfl
  have D8 : Df K mg "symbols" s_symbols ["letters", "owners"] := df_mk X G a8 l8 c8 k8 fun _ _ _ _ _ _ us hl => match us, hl with | [_, _], _ => rfl
  have D9 : Df K mg "owner_symbols" s_ownersymbols ["letters", "owners"] := df_mk X G a9 l9 c9 k9 fun _ _ _ _ _ _ us hl => match us, hl with | [_, _], _ => rfl
  refine ⟨PySem.W.fnOf "law" "law" (defArgs s_law) (defBody s_law) (defScope s_law) .none kV10 dc10 pm10 an10 cd10 ct10, fun s v => .of_eq rfl, fun base _ _ => ?_⟩
  have K1 := ok_lawtape (P := l.prog) (w := w) (base := base) D1 B  
  have K2 := ok_lawdraw (P := l.prog) (w := w) (base := base) D2 B  
  have K3 := ok_lawrising (P := l.prog) (w := w) (base := base) D3 B K2 
  have K4 := ok_lawletters (P := l.prog) (w := w) (base := base) D4 B K3 K2 
  have K5 := ok_lawsymbols (P := l.prog) (w := w) (base := base) D5 B  
  have K6 := ok_lawowners (P := l.prog) (w := w) (base := base) D6 B K3 K2 
  have K7 := ok_combined (P := l.prog) (w := w) (base := base) D7 B  
  have K8 := ok_symbols (P := l.prog) (w := w) (base := base) D8 B K7 (⟨_, mg_EDITOR⟩)
  have K9 := ok_ownersymbols (P := l.prog) (w := w) (base := base) D9 B K7 
  exact ok_law (P := l.prog) (w := w) (base := base) (fun_mk l10 c10 k10) B K1 K4 K6 K5 K8 K9 
end My
open PySem PySem.W PyProof.Rows
set_option maxRecDepth 100000 in
set_option maxHeartbeats 0 in
theorem PySem.Challenge.cw_excerptcheck_k00_symbols_of_an_alphabet_holds : PySem.Challenge.rw_excerptcheck_k00_symbols_of_an_alphabet.Holds := by
  w_on; o_law; k_head; (case hw => w_witness2)
  k_fill
  refine My.walkG (l := PySem.Challenge.rw_excerptcheck_k00_symbols_of_an_alphabet) (n := 63) (k := 4) (x := "script") (sp := My.spLaw) rfl (by decide) rfl ⟨rfl, by decide, by decide⟩ (fun w h Y => PySem.W.kIn_of Y) ?F (fun K H a ns hl hS => ⟨a, ns, rfl, hS, hl, fun _ => rfl⟩)
  case F =>
    intro w mg fa h KX G hmg
    refine' My.all_mk KX G hmg ?a1 ?l1 ?c1 ?k1 ?a2 ?l2 ?c2 ?k2 ?a3 ?l3 ?c3 ?k3 ?a4 ?l4 ?c4 ?k4 ?a5 ?l5 ?c5 ?k5 ?a6 ?l6 ?c6 ?k6 ?a7 ?l7 ?c7 ?k7 ?a8 ?l8 ?c8 ?k8 ?a9 ?l9 ?c9 ?k9 ?a10 ?l10 ?c10 ?k10 ?z_len ?z_max ?z_abs ?z_int ?z_list ?z_tuple ?z_range ?z_repr ?g_EDITOR
    (case a1 => k_is); (case l1 => k_is); (case c1 => k_is); (case k1 => k_is); (case a2 => k_is); (case l2 => k_is); (case c2 => k_is); (case k2 => k_is); (case a3 => k_is); (case l3 => k_is); (case c3 => k_is); (case k3 => k_is); (case a4 => k_is); (case l4 => k_is); (case c4 => k_is); (case k4 => k_is); (case a5 => k_is); (case l5 => k_is); (case c5 => k_is); (case k5 => k_is); (case a6 => k_is); (case l6 => k_is); (case c6 => k_is); (case k6 => k_is); (case a7 => k_is); (case l7 => k_is); (case c7 => k_is); (case k7 => k_is); (case a8 => k_is); (case l8 => k_is); (case c8 => k_is); (case k8 => k_is); (case a9 => k_is); (case l9 => k_is); (case c9 => k_is); (case k9 => k_is); (case a10 => k_is); (case l10 => k_is); (case c10 => k_is); (case k10 => k_is); (case z_len => k_is); (case z_max => k_is); (case z_abs => k_is); (case z_int => k_is); (case z_list => k_is); (case z_tuple => k_is); (case z_range => k_is); (case z_repr => k_is); (case g_EDITOR => k_is)
