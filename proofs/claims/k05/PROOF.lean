import PyProof.Rows.All
import Wide.All
import OpenK.AllK
import Wide.FinOn
import HandS.Base
import HandS.Call
import HandS.List
import HandS.Comp
import HandS.Text
import HandS.Words
import HandS.Ends
import PyProof.ReprRoads
import HandS.ForMost
import HandS.Walk
import HandS.Conv
import HandS.Codes
import PySem.Challenge.RW_excerptcheck_k05_symbols_of_a_class
set_option Elab.async false
set_option linter.all false
set_option maxRecDepth 100000
namespace My
open PySem PySem.Spec PyProof.Rows L2

/-- as the layer's promise, where besides no repr is under way -/
structure FnG (P : Program) (w : World) (K : PySem.W.Frag) (mg : Str → Option Value) (base : Heap) (X : CXT)
    (k : Nat) (f : Addr) (fd : FuncData) (ps : List Str) (sp : Sp) : Prop where
  ln : ∀ vs H Q E, sp vs H Q E → vs.length = ps.length
  go : ∀ (A : Around) (outer : List Env) (s : Shared) (H : Hp) (args : Args) (us : List Value) (vs : List V) (Q : VK) (E : XK),
    Room k A → A.guards = some [] → Env0 P w K mg base A outer s H → BindsTo s fd args (ps.zip us) → Vals vs us →
    sp vs H Q E → codeAny (model P w) A (.call (.ref f) args) (CR X outer P w H s Q E) s

theorem FnG.of {P : Program} {w : World} {K : PySem.W.Frag} {mg : Str → Option Value} {base : Heap} {X : CXT}
    {k : Nat} {f : Addr} {fd : FuncData} {ps : List Str} {sp : Sp} (F : FnOk P w K mg base X k f fd ps sp) :
    FnG P w K mg base X k f fd ps sp :=
  ⟨F.len, fun A o s H ar us vs Q E h1 _ h2 h3 h4 h5 => F.run A o s H ar us vs Q E h1 h2 h3 h4 h5⟩

theorem deeper_guards {A : Around} {e : Env} (h : A.guards = some []) : (A.deeper e).guards = some [] := h

theorem okG {P : Program} {w : World} {K : PySem.W.Frag} {mg : Str → Option Value} {base : Heap} {CX : CXT}
    {x qual : Str} {st : Stmt} {f : Addr} {fd : FuncData} {N ps : List Str} {k : Nat} {sp : Sp}
    (F : Fun K x qual st f fd) (S : FnScope N ps (defScope st))
    (ln : ∀ vs H Q E, sp vs H Q E → vs.length = ps.length)
    (hbd : ∀ (cdv : Value) (A : Around) (o : List Env) (s : Shared) (H : Hp) (vs : List V) (Q : VK) (E : XK),
      Room k (A.deeper (envOfC qual (defScope st) s.heap.objs.size f cdv)) → A.guards = some [] → sp vs H Q E →
      ∃ t, PSs (cxOf CX P w K mg base N qual (defScope st) f cdv A o s H E) (defBody st) t ∧
        t { nx := fun _ h => Q .non h, rt := Q } (start N vs) H) :
    FnG P w K mg base CX (k + 1) f fd ps sp := by
  obtain ⟨oc, od, kV, doc, pm, an, cdv, ct, osl, rfl, lk, hcd⟩ := F.ex
  refine ⟨ln, fun A o s H ar us vs Q E hr hgd e0 hb r hs => ?_⟩
  have hl := ln _ _ _ _ hs
  have KX : K.In s.heap := e0.mod.kin.keeps fun b ob e => (e0.bs b ob e).1
  have lim : s.heap.NoLimit := e0.mod.nolimit.keeps fun b ob e => (e0.bs b ob e).1
  have hkd : ∀ y ∈ ps.zip us, (defScope st).names.lookup y.1 = some .local ∨
      ((defScope st).names.lookup y.1 = some .cell ∧
        ((cellsFrom (s.heap.objs.size + 1) (defScope st).names []).lookup y.1).isSome = true) := by
    rintro ⟨n, v⟩ hy
    have hp := S.par n (List.of_mem_zip hy).1
    rcases hp with q | q
    · left; exact q
    · right; exact ⟨q, PySem.W.cellsFrom_some _ _ _ (.inl q)⟩
  refine codeAny_call_function hr.depth (KX _ _ lk) rfl S.co S.gen rfl
    (PySem.W.codeRec_of KX hcd) (hb _ _ _ _ ?_)
  refine wpAny_newFunctionEnv_cells S.kind hkd
    fun env he s1 x => ?_
  subst he
  refine ⟨lim.keeps x.toInCall.keep, codeAny_func ?_⟩
  obtain ⟨t, ht, hq⟩ := hbd cdv A o s H vs Q E (hr.deeper _) hgd hs
  have I := inv_start (CX := CX) (E := E) S hr.hd e0 hl r x
  refine wpAny_mono (ht.run [] s1 (start N vs) H _ I hq)
    (fun fl s2 h2 => ?_) fun e s2 h2 => h2
  cases fl with
  | ret u =>
    obtain ⟨v, σ2, H2, J, rv, q⟩ := h2
    exact ⟨v, H2, J.os, J.bare, J.base, J.hok, rv, q⟩
  | next =>
    obtain ⟨σ2, H2, J, q⟩ := h2
    exact ⟨.non, H2, J.os, J.bare, J.base, J.hok, rfl, q⟩
  | brk =>
    obtain ⟨_, _, _, q⟩ := h2
    exact q.elim
  | cont =>
    obtain ⟨_, _, _, q⟩ := h2
    exact q.elim

section
variable {X : Cx} {CX : CXT} {k : Nat} {f : Addr} {fd : FuncData} {ps : List Str} {sp : Sp} {dvs : List V} {ds : List Value}
  {E : XK} {x : Str} {p pos : Pos} {e : Expr} {es : List Expr} {t : TA}
/-- the call of such a def -/
theorem pe_callG (gd : X.A.guards = some []) (F : FnG X.prog X.w X.K X.mg X.base CX k f fd ps sp) (hr : Room k X.A) (hg : Gl X x)
    (hm : X.mg x = some (.ref f)) (hk : PySem.W.keepIn X.K (.ref f) = true) (hb : Binds X.K fd ps ds) (hd : Vals dvs ds)
    (hx : Passes CX X E) (ha : PA X (e :: es) t) (hdb : (x == ("__debug__" : Str)) = false := by decide)
    (he : starEach (e :: es) X.env = (false, eval e X.env) :: starEach es X.env := by rfl)
    (hpl : (backTo pos (starEach es X.env)).any (·.1) = false := by rfl) :
    PE X (.Call (.Name x p) (e :: es) [] pos) (tCall sp dvs E t) := by
  constructor
  intro pins s σ H Q I h
  refine wpAny_Call_Name_kw (ld_glob I hg hm ?_ hdb)
  refine PySem.W.callWith_K (h₀ := X.base) I.ok.mod.kin hk
    (thn (ha.run pos pins s σ H _ I h) ?_) he hpl
  rintro us s1 ⟨vs, H1, I1, r, q⟩
  refine ⟨I1.kIn, ?_⟩
  have r2 : Vals (vs ++ dvs) (us ++ ds) := r.append hd
  have hl : (us ++ ds).length = ps.length := by
    rw [← r2.length]
    exact F.ln _ _ _ _ q
  refine wpAny_call (codeAny_mono (F.go X.A X.stack s1 H1 ⟨us, []⟩ (us ++ ds) (vs ++ dvs) Q E hr gd
    I1.env0 (hb s1 us I1.kIn hl) r2 q) fun rr s2 hq => ?_)
  cases rr with
  | error e => exact hx pins σ H1 s1 e s2 I1 hq
  | ok fl =>
    cases fl with
    | ret u => exact I1.after hq
    | next => exact False.elim hq
    | brk => exact False.elim hq
    | cont => exact False.elim hq

/-- repr of data -/
def rRep (K : PySem.W.Frag) : List V → Hp → VK → Prop := fun xs H Q => ∃ x d, xs = [x] ∧ Dp K H x d ∧ d.showable = true ∧
  d.hasDict = false ∧ d.depth ≤ 40 ∧ d.shown.length ≤ sizeLine ∧ Q (.str d.shown) H
theorem call_rep (gd : X.A.guards = some []) (hu : X.A.units + 64 < cLine) : CallR X (.builtin "repr") (rRep X.K) := by
  intro pins s σ H xs us Q I r h
  obtain ⟨x, d, rfl, hd, hs, hn, hp, hz, q⟩ := h
  obtain ⟨u, rfl, ru⟩ := vals1 r
  cases hd with
  | non =>
    cases ru
    exact PySem.P.repr_of_none ⟨.str _, H, I.tok _, ⟨_, rfl⟩, by simpa [PyData.shown_none] using q⟩
  | bl b =>
    cases ru
    exact PySem.P.repr_of_bool ⟨.str _, H, I.tok _, ⟨_, rfl⟩, by simpa [PyData.shown_bool] using q⟩
  | int i =>
    obtain ⟨t, rfl⟩ := ru
    have hi : i.natAbs.log2 < 1920 := by simpa [PyData.showable] using hs
    exact PySem.P.repr_of_int hi ⟨.str _, H, I.tok _, ⟨_, rfl⟩, by simpa [PyData.shown_int] using q⟩
  | str z =>
    obtain ⟨t, rfl⟩ := ru
    rw [PyData.shown_str] at hz q
    exact PySem.P.repr_of_str (hsz := hz) ⟨.str _, H, I.tok _, ⟨_, rfl⟩, q⟩
  | lst hS hA =>
    obtain ⟨as, rd⟩ := Dp.reads I _ _ _ (Dp.lst hS hA) ru
    cases ru
    exact repr_of_reads' rd hs (PyData.noDict_hsm hn) gd (by omega) (fun _ _ z => z)
      (fun h' u tk hk => ⟨.str _, H, I.kept hk, ⟨_, rfl⟩, q⟩) hz
  | tup hS hA =>
    obtain ⟨as, rd⟩ := Dp.reads I _ _ _ (Dp.tup hS hA) ru
    cases ru
    exact repr_of_reads' rd hs (PyData.noDict_hsm hn) gd (by omega) (fun _ _ z => z)
      (fun h' u tk hk => ⟨.str _, H, I.kept hk, ⟨_, rfl⟩, q⟩) hz
end
end My
namespace My
open PySem PySem.Spec PyProof.Rows L2

theorem callG {P : Program} {w : World} {K : PySem.W.Frag} {mg mb : Str → Option Value} {k : Nat} {fa a : Addr}
    {fd : FuncData} {x : Str} {sp : Sp} {s1 : Shared} {vs : List Value} {ns : List Int}
    (KX : K.In s1.heap) (hns : s1.heap.Ns mainGlobals mg) (hb : s1.heap.Ns builtinsNs mb)
    (hbb : ∀ y : Str, y ≠ "__name__" → mb y = bootBuiltins y) (hlim : s1.heap.NoLimit) (hg : s1.gens = #[])
    (ha : s1.heap.get? a = some { cls := .type "list", data := .seq vs.toArray }) (hi : IntsAre vs ns)
    (hl : ns.length ≤ sizeLine) (hr : Room k callerA)
    (F : ∀ base : Heap, K.In base → base.Ns mainGlobals mg → FnG P w K mg base CX0 k fa fd [x] sp)
    (hbind : ∀ (s : Shared) (u : Value), BindsTo s fd ⟨[u], []⟩ [(x, u)])
    (hsp : ∀ H : Hp, SqL K H a (ns.map V.int) → sp [.ref a] H (fun v _ => v = .bl true) fun _ _ _ => False) :
    codeAny (model P w) callerA (.call (.ref fa) ⟨[.ref a], []⟩)
      (fun r t => r = .ok (.ret (.bool true)) ∧ OldK s1.heap t.heap ∧ t.os = s1.os ∧ AllBare t.gens) s1 := by
  have rv := vals_ints hi
  have lv := hi.length
  have core : ∀ H : Hp, Only H → SqL K H a (ns.map V.int) → HOk P w H s1.heap → (∀ b, H b ≠ none → b = a) →
      (H a ≠ none → K.lookup a = none) → codeAny (model P w) callerA (.call (.ref fa) ⟨[.ref a], []⟩)
      (fun r t => r = .ok (.ret (.bool true)) ∧ OldK s1.heap t.heap ∧ t.os = s1.os ∧ AllBare t.gens) s1 := by
    intro H hO hS hok hA hK
    have bo : ∀ {b : Addr} {o : Obj}, s1.heap.get? b = some o → H b = none → (hidT s1.heap H).get? b = some o :=
      fun e n => hidT_get e n
    have noA : ∀ {b : Addr} {o : Obj} {es : Array DictEntry} {ep : Nat}, s1.heap.get? b = some o →
        o.data = .dict es ep → H b = none := by
      intro b o es ep e d
      by_cases q : H b = none
      · exact q
      · have z := hA b q
        rw [z, ha] at e
        cases e
        cases (show Data.seq vs.toArray _ = Data.dict es ep from d)
    have nsK : ∀ {b : Addr} {m : Str → Option Value}, s1.heap.Ns b m → (hidT s1.heap H).Ns b m := by
      rintro b m ⟨o, es, ep, e, d, r⟩
      exact ⟨o, es, ep, bo e (noA e d), d, r⟩
    have kb : K.In (hidT s1.heap H) := by
      intro b o e
      refine bo (KX b o e) ?_
      by_cases q : H b = none
      · exact q
      · have z := hA b q
        rw [z] at e q
        rw [hK q] at e
        cases e
    have hM : Mod K mg (hidT s1.heap H) := by
      obtain ⟨mc, h1, h2⟩ := hlim
      exact ⟨kb, nsK hns, ⟨mb, nsK hb, hbb⟩, ⟨mc, nsK h1, h2⟩⟩
    have e0 : Env0 P w K mg (hidT s1.heap H) callerA [] s1 H :=
      ⟨rfl, hM, fun b o e => of_hidT e, Nat.le_of_eq (hidT_size _ _), trivial,
        fun b z => absurd (show b ∈ ([] : List Addr) from z) (by simp), hok, .of_eq hg⟩
    refine codeAny_mono ((F _ kb (nsK hns)).go callerA [] s1 H ⟨[.ref a], []⟩ [.ref a] [.ref a] _ _ hr rfl e0
      (hbind s1 (.ref a)) (.cons rfl .nil) (hsp H hS)) fun r t h => ?_
    cases r with
    | error e => exact h.elim
    | ok fl =>
      cases fl with
      | next => exact h.elim
      | brk => exact h.elim
      | cont => exact h.elim
      | ret u =>
        obtain ⟨v, H2, os, bare, un, hok2, r2, q⟩ := h
        have q2 : v = .bl true := q
        subst q2
        obtain rfl : u = Value.bool true := r2
        refine ⟨rfl, OldK.of_keep fun b o e => ?_, os, bare⟩
        rcases hO b with z | ⟨ob, xs, z⟩
        · exact un.keep b o e z (fun y => absurd (show b ∈ ([] : List Addr) from y) (by simp)) (by simp)
        · have e1 := (hok b _ z).1
          have e2 := (hok2 b _ (un.frzs b ob _ z)).1
          rw [e] at e1
          cases e1
          exact e2
  by_cases hk : K.lookup a = none
  · have hon : (fun b => if b = a then some (HO.frz { cls := .type "list", data := .seq vs.toArray }
        (.lst (ns.map V.int))) else none : Hp) a = _ := if_pos rfl
    refine core (fun b => if b = a then some (.frz { cls := .type "list", data := .seq vs.toArray }
      (.lst (ns.map V.int))) else none) (fun b => ?_) (.inl (.inr ⟨_, hon⟩)) (fun b u z => ?_) (fun b z => ?_) fun _ => hk
    · by_cases h : b = a
      · exact .inr ⟨_, _, if_pos h⟩
      · exact .inl (if_neg h)
    · by_cases h : b = a
      · have z2 := (if_pos h).symm.trans z
        cases z2
        subst h
        exact ⟨ha, by rw [List.length_map]; exact hl, vs, _, rv, ha⟩
      · cases (if_neg h).symm.trans z
    · by_cases h : b = a
      · exact h
      · exact absurd (if_neg h) z
  · obtain ⟨o, ho⟩ := Option.ne_none_iff_exists'.mp hk
    have e := KX a o ho
    rw [ha] at e
    cases e
    refine core (fun _ => none) (fun _ => .inl rfl) (.inr ⟨_, vs.toArray, _, ho, rfl, rfl, rfl, ?_, ?_⟩)
      (fun b u z => nomatch (show (none : Option HO) = some u from z)) (fun b z => absurd rfl z) fun z => absurd rfl z
    · rw [List.size_toArray, lv]; exact hl
    · simpa using rv

/-- the end, where the law's def is shown with no repr under way -/
theorem walkG {l : PySem.W.OpenLaw} {n k : Nat} {q : Program} {loose : List Str} {XP : (Str → Option Value) → Heap → Prop}
    {YP : World → Heap → Prop} {d : DefRec} {K : Params → PySem.W.Frag} {sp : PySem.W.Frag → Sp} {x : Str}
    (hn : l.most = some n) (hn2 : n ≤ sizeLine) (hdf : d.params.defaults = []) (hr : Room k callerA)
    (hY : ∀ (w : World) (h : Heap), YP w h → (K w.params).In h)
    (F : ∀ (w : World) (mg : Str → Option Value) (fa : Addr) (h : Heap), (K w.params).In h → h.Ns mainGlobals mg →
      mg d.name = some (.ref fa) → ∃ fd : FuncData,
        (∀ (s : Shared) (u : Value), BindsTo s fd ⟨[u], []⟩ [(x, u)]) ∧ ∀ base : Heap, (K w.params).In base →
          base.Ns mainGlobals mg → FnG l.prog w (K w.params) mg base CX0 k fa fd [x] (sp (K w.params)))
    (hsp : ∀ (K : PySem.W.Frag) (H : Hp) (a : Addr) (ns : List Int), ns.length ≤ n → SqL K H a (ns.map V.int) →
      sp K [.ref a] H (fun v _ => v = .bl true) fun _ _ _ => False) :
    PySem.W.WalkO q loose XP YP l.row.toRowW d [] (fun f vs => PySem.call f vs) := by
  refine Att.attach_call hn hdf ?_
  intro w s0 s1 mg mb fa o pm cd doc a vs ns G Y ho hd hcd hmg hobj hints hlen hg
  have KX := hY w _ Y
  obtain ⟨fd, hb, hF⟩ := F w mg fa _ KX G.T.g hmg
  exact callG KX G.T.g G.T.b G.T.builtins G.T.nolimit hg hobj hints (Nat.le_trans hlen hn2) hr hF hb
    fun H hS => hsp _ H a ns hlen hS
end My
namespace My
open PySem PySem.Spec PyProof.Rows L2

/-- a def of the text as it stands behind the top -/
structure Df (K : PySem.W.Frag) (mg : Str → Option Value) (x : Str) (st : Stmt) (ps : List Str) : Prop where
  ex : ∃ (f : Addr) (fd : FuncData), Fun K x x st f fd ∧ mg x = some (.ref f) ∧ Binds K fd ps []
/-- .. with what it promises -/
structure Cal (P : Program) (w : World) (K : PySem.W.Frag) (mg : Str → Option Value) (base : Heap) (k : Nat) (x : Str) (ps : List Str) (sp : Sp) : Prop where
  ex : ∃ (f : Addr) (fd : FuncData), FnOk P w K mg base CX0 k f fd ps sp ∧ mg x = some (.ref f) ∧ PySem.W.keepIn K (.ref f) = true ∧ Binds K fd ps []
structure CalG (P : Program) (w : World) (K : PySem.W.Frag) (mg : Str → Option Value) (base : Heap) (k : Nat) (x : Str) (ps : List Str) (sp : Sp) : Prop where
  ex : ∃ (f : Addr) (fd : FuncData), FnG P w K mg base CX0 k f fd ps sp ∧ mg x = some (.ref f) ∧ PySem.W.keepIn K (.ref f) = true ∧ Binds K fd ps []
section
variable {P : Program} {w : World} {K : PySem.W.Frag} {mg : Str → Option Value} {base : Heap}
theorem Df.cal {x : Str} {st : Stmt} {N ps : List Str} {k : Nat} {sp : Sp} (D : Df K mg x st ps) (S : FnScope N ps (defScope st))
    (ln : ∀ vs H Q E, sp vs H Q E → vs.length = ps.length)
    (hb : ∀ (f : Addr) (cdv : Value) (A : Around) (o : List Env) (s : Shared) (H : Hp) (vs : List V) (Q : VK) (E : XK),
      Room k (A.deeper (envOfC x (defScope st) s.heap.objs.size f cdv)) → sp vs H Q E →
      ∃ t, PSs (cxOf CX0 P w K mg base N x (defScope st) f cdv A o s H E).nox (defBody st) t ∧
        t { nx := fun _ h => Q .non h, rt := Q } (start N vs) H) :
    Cal P w K mg base (k + 1) x ps sp := by
  obtain ⟨f, fd, F, m, b⟩ := D.ex
  exact ⟨f, fd, F.ok S ln (fun cdv A o s H vs Q E => hb f cdv A o s H vs Q E), m, F.kp, b⟩
theorem Df.calG {x : Str} {st : Stmt} {N ps : List Str} {k : Nat} {sp : Sp} (D : Df K mg x st ps) (S : FnScope N ps (defScope st))
    (ln : ∀ vs H Q E, sp vs H Q E → vs.length = ps.length)
    (hb : ∀ (f : Addr) (cdv : Value) (A : Around) (o : List Env) (s : Shared) (H : Hp) (vs : List V) (Q : VK) (E : XK),
      Room k (A.deeper (envOfC x (defScope st) s.heap.objs.size f cdv)) → A.guards = some [] → sp vs H Q E →
      ∃ t, PSs (cxOf CX0 P w K mg base N x (defScope st) f cdv A o s H E).nox (defBody st) t ∧
        t { nx := fun _ h => Q .non h, rt := Q } (start N vs) H) :
    CalG P w K mg base (k + 1) x ps sp := by
  obtain ⟨f, fd, F, m, b⟩ := D.ex
  refine ⟨f, fd, okG F S ln (fun cdv A o s H vs Q E hr hg h => ?_), m, F.kp, b⟩
  obtain ⟨t, h1, h2⟩ := hb f cdv A o s H vs Q E hr hg h
  exact ⟨t, h1.nox, h2⟩
end
section
variable {X : Cx} {k j : Nat} {ps : List Str} {sp : Sp} {x : Str} {p pos : Pos} {e : Expr} {es : List Expr} {t : TA}
theorem pe_cal (C : Cal X.prog X.w X.K X.mg X.base k x ps sp) (hr : Room k X.A) (hg : Gl X x)
    (ha : PA X (e :: es) t) (hdb : (x == ("__debug__" : Str)) = false := by decide)
    (he : starEach (e :: es) X.env = (false, eval e X.env) :: starEach es X.env := by rfl)
    (hpl : (backTo pos (starEach es X.env)).any (·.1) = false := by rfl) :
    PE X (.Call (.Name x p) (e :: es) [] pos) (tCall sp [] E0 t) := by
  obtain ⟨f, fd, F, m, kp, b⟩ := C.ex
  exact pe_call F hr hg m kp b .nil pass0 ha hdb he hpl
theorem pe_calG (gd : X.A.guards = some []) (C : CalG X.prog X.w X.K X.mg X.base k x ps sp) (hr : Room k X.A) (hg : Gl X x)
    (ha : PA X (e :: es) t) (hdb : (x == ("__debug__" : Str)) = false := by decide)
    (he : starEach (e :: es) X.env = (false, eval e X.env) :: starEach es X.env := by rfl)
    (hpl : (backTo pos (starEach es X.env)).any (·.1) = false := by rfl) :
    PE X (.Call (.Name x p) (e :: es) [] pos) (tCall sp [] E0 t) := by
  obtain ⟨f, fd, F, m, kp, b⟩ := C.ex
  exact pe_callG gd F hr hg m kp b .nil pass0 ha hdb he hpl
end

/-! ### heaps: all stands but the tape; t.1 is the tape's own list, t.2 that of its cells -/
abbrev TA2 := Addr × Addr
def Kp (t : TA2) (H H' : Hp) : Prop := ∀ b o, b ≠ t.1 → H b = some o → H' b = some o
theorem Kp.refl (t : TA2) (H : Hp) : Kp t H H := fun _ _ _ h => h
theorem Kp.trans {t : TA2} {H H1 H2 : Hp} (a : Kp t H H1) (b : Kp t H1 H2) : Kp t H H2 := fun c o n h => b c o n (a c o n h)
theorem Kp.new {t : TA2} {p : Addr} {H : Hp} {o : HO} (h : H p = none) : Kp t H (upd H p o) := fun b u _ e => by
  rw [upd_ne (ne_of_none e h)]; exact e
theorem Kp.self {t : TA2} {H : Hp} {o : HO} : Kp t H (upd H t.1 o) := fun b u n e => by rw [upd_ne n]; exact e
theorem Kp.free {t : TA2} {p : Addr} {H H' : Hp} (a : Kp t H H') (n : p ≠ t.1) (h : H' p = none) : H p = none := by
  cases q : H p with
  | none => rfl
  | some o => rw [a p o n q] at h; cases h
theorem Kp.tup {t : TA2} {p : Addr} {H H' : Hp} {xs ys : List V} (a : Kp t H H') (ht : H t.1 = some (.lst ys)) (h : H p = some (.tup xs)) : H' p = some (.tup xs) :=
  a p _ (ne_of h ht (fun z => nomatch z)) h
/-- the numbers that a script gives -/
structure Tape (K : PySem.W.Frag) (H : Hp) (t : TA2) : Prop where
  ex : ∃ (ns : List Int) (p n s : Int), H t.1 = some (.lst [.ref t.2, .int p, .int n, .int s]) ∧ t.2 ≠ t.1 ∧
    H t.2 = some (.lst (ns.map V.int)) ∧ 0 ≤ p ∧ 0 ≤ n ∧ 0 ≤ s
theorem Tape.lst {K : PySem.W.Frag} {H : Hp} {t : TA2} (T : Tape K H t) : ∃ ys, H t.1 = some (.lst ys) := by
  obtain ⟨ns, p, n, s, h, _⟩ := T.ex
  exact ⟨_, h⟩
theorem Tape.new {K : PySem.W.Frag} {H : Hp} {t : TA2} {a : Addr} {o : HO} (T : Tape K H t) (h : H a = none) : Tape K (upd H a o) t := by
  obtain ⟨ns, p, n, s, h1, h2, h3, h4⟩ := T.ex
  exact ⟨ns, p, n, s, by rw [upd_ne (ne_of_none h1 h)]; exact h1, h2, by rw [upd_ne (ne_of_none h3 h)]; exact h3, h4⟩
theorem Tape.ne {K : PySem.W.Frag} {H : Hp} {t : TA2} {a : Addr} (T : Tape K H t) (h : H a = none) : a ≠ t.1 := by
  obtain ⟨ys, e⟩ := T.lst
  exact (ne_of_none e h).symm
theorem Tape.ne2 {K : PySem.W.Frag} {H : Hp} {t : TA2} {a : Addr} (T : Tape K H t) (h : H a = none) : a ≠ t.2 := by
  obtain ⟨ns, p, n, s, h1, h2, h3, h4⟩ := T.ex
  exact (ne_of_none h3 h).symm
/-- another object is changed -/
theorem Tape.put {K : PySem.W.Frag} {H : Hp} {t : TA2} {a : Addr} {o : HO} (T : Tape K H t) (h1 : a ≠ t.1) (h2 : a ≠ t.2) : Tape K (upd H a o) t := by
  obtain ⟨ns, p, n, s, g1, g2, g3, g4⟩ := T.ex
  exact ⟨ns, p, n, s, by rw [upd_ne h1.symm]; exact g1, g2, by rw [upd_ne h2.symm]; exact g3, g4⟩

def spTape (K : PySem.W.Frag) : Sp := fun vs H Q _ => ∃ (a : Addr) (ns : List Int), vs = [.ref a] ∧ SqL K H a (ns.map V.int) ∧ ns.length ≤ 63 ∧
  ∀ (t : TA2) H', Same H H' → H t.1 = none → Tape K H' t → Q (.ref t.1) H'
def spDraw (K : PySem.W.Frag) : Sp := fun vs H Q _ => ∃ (t : TA2) (m : Int), vs = [.ref t.1, .int m] ∧ Tape K H t ∧ m < 1000000 ∧
  ∀ v H', 0 ≤ v → v < max m 1 → Kp t H H' → (∀ b, H b = none → H' b = none) → Tape K H' t → Q (.int v) H'
end My
namespace My
open PySem PySem.Spec PyProof.Rows L2
theorem le_size {n : Nat} (h : n ≤ 1000) : n ≤ sizeLine := Nat.le_of_lt (small1000 h)
theorem le_size0 {n : Nat} (h : n.ble 1000 = true) : n ≤ sizeLine := le_size (Nat.le_of_ble_eq_true h)
end My
namespace My
open PySem PySem.Spec PyProof.Rows L2
theorem okG0 {P : Program} {w : World} {K : PySem.W.Frag} {mg : Str → Option Value} {base : Heap}
    {x : Str} {st : Stmt} {f : Addr} {fd : FuncData} {N ps : List Str} {k : Nat} {sp : Sp}
    (F : Fun K x x st f fd) (S : FnScope N ps (defScope st))
    (ln : ∀ vs H Q E, sp vs H Q E → vs.length = ps.length)
    (hb : ∀ (f : Addr) (cdv : Value) (A : Around) (o : List Env) (s : Shared) (H : Hp) (vs : List V) (Q : VK) (E : XK),
      Room k (A.deeper (envOfC x (defScope st) s.heap.objs.size f cdv)) → A.guards = some [] → sp vs H Q E →
      ∃ t, PSs (cxOf CX0 P w K mg base N x (defScope st) f cdv A o s H E).nox (defBody st) t ∧
        t { nx := fun _ h => Q .non h, rt := Q } (start N vs) H) :
    FnG P w K mg base CX0 (k + 1) f fd ps sp := by
  refine okG F S ln (fun cdv A o s H vs Q E hr hg h => ?_)
  obtain ⟨t, h1, h2⟩ := hb f cdv A o s H vs Q E hr hg h
  exact ⟨t, h1.nox, h2⟩
theorem df_mk {K : PySem.W.Frag} {h : Heap} {mg : Str → Option Value} {x : Str} {st : Stmt} {ps : List Str} {f : Addr}
    {od an : Option Addr} {sl : Array (Option Value)} {oc kV dc pm cd ct : Value} (X : K.In h) (G : h.Ns mainGlobals mg)
    (a : PySem.W.nsIn K mainGlobals x = some (some (.ref f)))
    (l : K.lookup f = some ⟨oc, od, .func (PySem.W.fnOf x x (defArgs st) (defBody st) (defScope st) .none kV dc pm an cd ct), sl⟩)
    (c : PySem.W.codeIn K cd x = true) (k : PySem.W.keepIn K (.ref f) = true)
    (hb : ∀ (kV doc pm : Value) (an : Option Addr) (cdv ct : Value) (us : List Value), us.length = ps.length →
      bindArgs (PySem.W.fnOf x x (defArgs st) (defBody st) (defScope st) .none kV doc pm an cdv ct) ⟨us, []⟩ = pure (ps.zip us)) :
    Df K mg x st ps := ⟨f, _, fun_mk l c k, PySem.W.mg_of X G a, (fun_mk l c k).binds hb⟩
/-- what a script's law promises -/
def spLaw (K : PySem.W.Frag) : Sp := fun vs H Q _ => ∃ (a : Addr) (ns : List Int), vs = [.ref a] ∧ SqL K H a (ns.map V.int) ∧ ns.length ≤ 63 ∧ ∀ H', Q (.bl true) H'
end My
namespace My
open PySem PySem.Spec PyProof.Rows L2

theorem it_any {J : It} {n : Nat} {G : Hp → Prop} {Y : Nat → Hp → V → Hp → Prop} (w : Walk J n G Y)
    {Bd : V → Hp → (Hp → Prop) → Prop} {Qd : Hp → Prop} {H0 : Hp} (Pv : Nat → Hp → Prop) (h0 : Pv 0 H0)
    (hG : ∀ i H, i ≤ n → Pv i H → G H) (hs : ∀ i x H H', i < n → Pv i H → Y i H x H' → Bd x H' (Pv (i + 1)))
    (hd : ∀ H, Pv n H → Qd H) :
    ∃ W : Nat → Nat → Hp → Prop, (∃ m, W 0 m H0) ∧ ∀ i m H, W i m H → (J.stop i H ∧ Qd H) ∨ (J.go i H ∧
      ∃ Nx : Hp → Prop, (∀ H', Nx H' → ∃ m', m' < m ∧ W (i + 1) m' H') ∧ ∀ x H', J.yld i H x H' → Bd x H' Nx) := by
  refine ⟨fun i m H => m = n - i ∧ i ≤ n ∧ Pv i H, ⟨n, by simp, Nat.zero_le _, h0⟩, ?_⟩
  rintro i m H ⟨rfl, hi, p⟩
  by_cases h : i < n
  · exact .inr ⟨w.goes i H h (hG i H hi p), Pv (i + 1), fun H' p' => ⟨n - (i + 1), by omega, rfl, h, p'⟩,
      fun x H' y => hs i x H H' h p (w.yields i H x H' h (hG i H hi p) y)⟩
  · have e : i = n := by omega
    subst e
    exact .inl ⟨w.stops H (hG i H hi p), hd H p⟩

/-! ### data that repr shows -/
structure Sh (d : PyData) (dp bk : Nat) : Prop where
  s : d.showable = true
  n : d.hasDict = false
  p : d.depth ≤ dp
  l : d.leavesShort 13 = true
  b : d.bulk ≤ bk
theorem Sh.mono {d : PyData} {a b a' b' : Nat} (h : Sh d a b) (ha : a ≤ a') (hb : b ≤ b') : Sh d a' b' :=
  ⟨h.s, h.n, Nat.le_trans h.p ha, h.l, Nat.le_trans h.b hb⟩
theorem Sh.fits {d : PyData} {dp bk : Nat} (h : Sh d dp bk) (hb : bk ≤ 1000000) : d.shown.length ≤ sizeLine :=
  PyData.shown_fits_bulk (B := 13) (by decide) (by decide) h.l (Nat.le_trans h.b (Nat.le_trans hb (by decide)))
theorem Sh.none : Sh .none 0 0 := ⟨by simp [PyData.showable], by simp [PyData.hasDict], by simp [PyData.depth], by simp [PyData.leavesShort], by simp [PyData.bulk]⟩
theorem Sh.bool (b : Bool) : Sh (.bool b) 0 0 := ⟨by simp [PyData.showable], by simp [PyData.hasDict], by simp [PyData.depth], by simp [PyData.leavesShort], by simp [PyData.bulk]⟩
theorem Sh.int {i : Int} (h : i.natAbs < 10 ^ 12) : Sh (.int i) 0 0 := by
  refine ⟨?_, by simp [PyData.hasDict], by simp [PyData.depth], ?_, by simp [PyData.bulk]⟩
  · simp only [PyData.showable, decide_eq_true_eq]
    exact log2_small (Nat.lt_trans h (by decide +kernel))
  · simp only [PyData.leavesShort, decide_eq_true_eq]
    exact PyData.shown_int_le h
/-- all signs are small -/
def Sg (x : Str) : Prop := ∀ c ∈ x.cps.toList, c < 128
theorem Sh.str {x : Str} (h : Sg x) : Sh (.str x) 0 x.length := by
  refine ⟨by simp [PyData.showable], by simp [PyData.hasDict], by simp [PyData.depth], ?_, by simp only [PyData.bulk]; exact Nat.le_refl _⟩
  simp only [PyData.leavesShort, List.all_eq_true, decide_eq_true_eq]
  intro c hc
  exact Nat.lt_trans (h c hc) (by decide)
theorem shAll {dp bk : Nat} : ∀ {ds : List PyData}, (∀ d ∈ ds, Sh d dp bk) → PyData.showableAll ds = true ∧ PyData.hasDictAll ds = false ∧
    PyData.depthAll ds ≤ dp ∧ PyData.leavesShortAll 13 ds = true ∧ PyData.bulkAll ds ≤ ds.length * (bk + 1)
  | [], _ => by simp [PyData.showableAll, PyData.hasDictAll, PyData.depthAll, PyData.leavesShortAll, PyData.bulkAll]
  | d :: ds, h => by
    obtain ⟨h1, h2, h3, h4, h5⟩ := shAll (ds := ds) fun e he => h e (List.mem_cons_of_mem _ he)
    have g := h d (List.mem_cons_self)
    refine ⟨by simp [PyData.showableAll, g.s, h1], by simp [PyData.hasDictAll, g.n, h2], ?_, by simp [PyData.leavesShortAll, g.l, h4], ?_⟩
    · simp only [PyData.depthAll]
      have := g.p
      omega
    · simp only [PyData.bulkAll, List.length_cons, Nat.succ_mul]
      have := g.b
      omega
theorem Sh.tup {dp bk : Nat} {ds : List PyData} (h : ∀ d ∈ ds, Sh d dp bk) : Sh (.tuple ds) (dp + 1) (ds.length * (bk + 1)) := by
  obtain ⟨h1, h2, h3, h4, h5⟩ := shAll h
  refine ⟨by simpa [PyData.showable] using h1, by simpa [PyData.hasDict] using h2, ?_, by simpa [PyData.leavesShort] using h4, by simpa [PyData.bulk] using h5⟩
  simp only [PyData.depth]
  omega
theorem Sh.list {dp bk : Nat} {ds : List PyData} (h : ∀ d ∈ ds, Sh d dp bk) : Sh (.list ds) (dp + 1) (ds.length * (bk + 1)) := by
  obtain ⟨h1, h2, h3, h4, h5⟩ := shAll h
  refine ⟨by simpa [PyData.showable] using h1, by simpa [PyData.hasDict] using h2, ?_, by simpa [PyData.leavesShort] using h4, by simpa [PyData.bulk] using h5⟩
  simp only [PyData.depth]
  omega
/-- repr answers with the shown text -/
theorem rep_ok {K : PySem.W.Frag} {H : Hp} {Q : VK} {x : V} {d : PyData} {dp bk : Nat} (h : Dp K H x d) (s : Sh d dp bk) (h1 : dp ≤ 40) (h2 : bk ≤ 1000000)
    (q : Q (.str d.shown) H) : rRep K [x] H Q := ⟨x, d, rfl, h, s.s, s.n, Nat.le_trans s.p h1, s.fits h2, q⟩
theorem dp_strs {K : PySem.W.Frag} {H : Hp} : ∀ xs : List Str, DpAll K H (xs.map V.str) (xs.map PyData.str)
  | [] => .nil
  | x :: xs => .cons (.str x) (dp_strs xs)
theorem dp_ints {K : PySem.W.Frag} {H : Hp} : ∀ xs : List Int, DpAll K H (xs.map V.int) (xs.map PyData.int)
  | [] => .nil
  | x :: xs => .cons (.int x) (dp_ints xs)
theorem sh_strs {n : Nat} {xs : List Str} (h : ∀ x ∈ xs, Sg x ∧ x.length ≤ n) : Sh (.tuple (xs.map PyData.str)) 1 (xs.length * (n + 1)) := by
  have := Sh.tup (dp := 0) (bk := n) (ds := xs.map PyData.str) (fun d hd => by
    obtain ⟨x, hx, rfl⟩ := List.mem_map.mp hd
    exact (Sh.str (h x hx).1).mono (Nat.le_refl _) (h x hx).2)
  rwa [List.length_map] at this

theorem Same.kp {t : TA2} {H H' : Hp} (h : Same H H') : Kp t H H' := fun b o _ e => h b o e
theorem Same.new {p : Addr} {H : Hp} {o : HO} (h : H p = Option.none) : Same H (upd H p o) := fun b u e => by
  rw [upd_ne (ne_of_none e h)]; exact e
theorem Tape.same {K : PySem.W.Frag} {H H' : Hp} {t : TA2} (T : Tape K H t) (h : Same H H') : Tape K H' t := by
  obtain ⟨ns, p, n, s, h1, h2, h3, h4⟩ := T.ex
  exact ⟨ns, p, n, s, h _ _ h1, h2, h _ _ h3, h4⟩
/-- a place in a list of numbers -/
theorem pickI {ns : List Int} {v : Int} (h0 : 0 ≤ v) (h1 : v < ns.length) : ∃ w, w ∈ ns ∧ atI (ns.map V.int) v = some (.int w) := by
  have h : v.toNat < ns.length := by omega
  refine ⟨ns[v.toNat], List.getElem_mem h, ?_⟩
  have z := atI_nat (xs := ns.map V.int) (j := v.toNat) (v := .int ns[v.toNat]) (by rw [List.getElem?_map, List.getElem?_eq_getElem h]; rfl)
  rw [Int.toNat_of_nonneg h0] at z
  exact z
theorem pickV {xs : List V} {v : Int} (h0 : 0 ≤ v) (h1 : v < xs.length) : ∃ w, w ∈ xs ∧ atI xs v = some w := by
  have h : v.toNat < xs.length := by omega
  refine ⟨xs[v.toNat], List.getElem_mem h, ?_⟩
  have z := atI_nat (xs := xs) (List.getElem?_eq_getElem h)
  rw [Int.toNat_of_nonneg h0] at z
  exact z
theorem pickS {ss : List Str} {v : Int} (h0 : 0 ≤ v) (h1 : v < ss.length) : ∃ w, w ∈ ss ∧ atI (ss.map V.str) v = some (.str w) := by
  have h : v.toNat < ss.length := by omega
  refine ⟨ss[v.toNat], List.getElem_mem h, ?_⟩
  have z := atI_nat (xs := ss.map V.str) (j := v.toNat) (v := .str ss[v.toNat]) (by rw [List.getElem?_map, List.getElem?_eq_getElem h]; rfl)
  rw [Int.toNat_of_nonneg h0] at z
  exact z

/-! ### symbols -/
abbrev sy (h l : Nat) : Str := ⟨#[h, l]⟩
theorem sy_cat (h l : Nat) : (⟨#[h]⟩ : Str) ++ (⟨#[l]⟩ : Str) = sy h l := rfl
def comb (hs ls : List Nat) : List Str := hs.flatMap fun h => ls.map fun l => sy h l
theorem comb_nil (ls : List Nat) : comb [] ls = [] := rfl
theorem comb_cons (h : Nat) (hs ls : List Nat) : comb (h :: hs) ls = (ls.map fun l => sy h l) ++ comb hs ls := List.flatMap_cons
theorem comb_snoc (h : Nat) (hs ls : List Nat) : comb (hs ++ [h]) ls = comb hs ls ++ (ls.map fun l => sy h l) := by
  unfold comb
  rw [List.flatMap_append]
  simp
theorem comb_len (ls : List Nat) : ∀ hs : List Nat, (comb hs ls).length = hs.length * ls.length
  | [] => by simp [comb_nil]
  | h :: hs => by
    rw [comb_cons, List.length_append, List.length_map, comb_len ls hs, List.length_cons, Nat.succ_mul, Nat.add_comm]
theorem mem_comb {x : Str} {hs ls : List Nat} (h : x ∈ comb hs ls) : ∃ a ∈ hs, ∃ b ∈ ls, x = sy a b := by
  unfold comb at h
  obtain ⟨a, ha, hx⟩ := List.mem_flatMap.mp h
  obtain ⟨b, hb, rfl⟩ := List.mem_map.mp hx
  exact ⟨a, ha, b, hb, rfl⟩
abbrev lows : List Nat := [97,98,99,100,101,102,103,104,105,106,107,108,109,110,111,112,113,114,115,116,117,118,119,120,121,122]
abbrev caps : List Nat := [65,66,67,68,69,70,71,72,73,74,75,76,77,78,79,80,81,82,83,84,85,86,87,88,89,90]
theorem lows_eq : ("abcdefghijklmnopqrstuvwxyz" : Str).cps.toList = lows := by decide +kernel
theorem caps_eq : ("ABCDEFGHIJKLMNOPQRSTUVWXYZ" : Str).cps.toList = caps := by decide +kernel
theorem lows_small : ∀ c ∈ lows, c < 128 := by decide
theorem caps_small : ∀ c ∈ caps, c < 128 := by decide
end My
namespace My
open PySem PySem.Spec PyProof.Rows L2
theorem le_of1000 : (26 : Nat) ≤ 1000 := by decide
end My
namespace My
open PySem PySem.Spec PyProof.Rows L2
theorem yes_ite {σ : L2.St} {H : Hp} {A B : Hp → Prop} (h : A H) : tYes σ H (fun b H3 => if b = true then A H3 else B H3) := by
  show (if true = true then A H else B H)
  rw [if_pos rfl]
  exact h
end My
namespace My
open PySem PySem.Spec PyProof.Rows L2
theorem cutV_from (xs : List V) (n : Nat) (h : n ≤ xs.length) : cutV xs (some (n : Int)) Option.none = xs.drop n := by
  unfold cutV
  rw [show HT.sIx xs.length 0 (some (n : Int)) = min n xs.length from HT.sIx_nat xs.length 0 n, HT.sIx_none, Nat.min_eq_left h]
  exact List.take_of_length_le (by rw [List.length_drop]; exact Nat.le_refl _)
theorem sIx_from (L n : Nat) (h : n ≤ L) : HT.sIx L 0 (some (n : Int)) = n := by
  rw [show HT.sIx L 0 (some (n : Int)) = min n L from HT.sIx_nat L 0 n, Nat.min_eq_left h]
end My
namespace My
open PySem PySem.Spec PyProof.Rows L2

/-! ### data that never changes -/
mutual
inductive Im (H : Hp) : V → PyData → Prop
  | non : Im H .non .none
  | bl (b : Bool) : Im H (.bl b) (.bool b)
  | int (i : Int) : Im H (.int i) (.int i)
  | str (x : Str) : Im H (.str x) (.str x)
  | tup {a : Addr} {xs : List V} {ds : List PyData} : H a = some (.tup xs) → ImAll H xs ds → Im H (.ref a) (.tuple ds)
inductive ImAll (H : Hp) : List V → List PyData → Prop
  | nil : ImAll H [] []
  | cons {v : V} {vs : List V} {d : PyData} {ds : List PyData} : Im H v d → ImAll H vs ds → ImAll H (v :: vs) (d :: ds)
end
def KT (H H' : Hp) : Prop := ∀ a xs, H a = some (.tup xs) → H' a = some (.tup xs)
theorem KT.refl (H : Hp) : KT H H := fun _ _ h => h
theorem KT.trans {H H1 H2 : Hp} (a : KT H H1) (b : KT H1 H2) : KT H H2 := fun c o h => b c o (a c o h)
theorem KT.new {H : Hp} {p : Addr} {o : HO} (h : H p = none) : KT H (upd H p o) := fun a xs e => by
  rw [upd_ne (ne_of_none e h)]; exact e
theorem KT.put {H : Hp} {p : Addr} {xs ys : List V} (h : H p = some (.lst xs)) : KT H (upd H p (.lst ys)) := fun a zs e => by
  rw [upd_ne (ne_of e h (fun z => nomatch z))]; exact e
theorem Same.kt {H H' : Hp} (h : Same H H') : KT H H' := fun a xs e => h _ _ e
theorem Kp.kt {K : PySem.W.Frag} {t : TA2} {H H' : Hp} (k : Kp t H H') (T : Tape K H t) : KT H H' := fun a xs e => by
  obtain ⟨ys, h⟩ := T.lst
  exact k.tup h e
mutual
theorem Im.dp {K : PySem.W.Frag} {H : Hp} : ∀ {v : V} {d : PyData}, Im H v d → Dp K H v d
  | _, _, .non => .non
  | _, _, .bl b => .bl b
  | _, _, .int i => .int i
  | _, _, .str x => .str x
  | _, _, .tup h ha => .tup (.inl (.inl h)) (ImAll.dp ha)
theorem ImAll.dp {K : PySem.W.Frag} {H : Hp} : ∀ {vs : List V} {ds : List PyData}, ImAll H vs ds → DpAll K H vs ds
  | _, _, .nil => .nil
  | _, _, .cons h t => .cons (Im.dp h) (ImAll.dp t)
end
mutual
theorem Im.kt {H H' : Hp} (k : KT H H') : ∀ {v : V} {d : PyData}, Im H v d → Im H' v d
  | _, _, .non => .non
  | _, _, .bl b => .bl b
  | _, _, .int i => .int i
  | _, _, .str x => .str x
  | _, _, .tup h ha => .tup (k _ _ h) (ImAll.kt k ha)
theorem ImAll.kt {H H' : Hp} (k : KT H H') : ∀ {vs : List V} {ds : List PyData}, ImAll H vs ds → ImAll H' vs ds
  | _, _, .nil => .nil
  | _, _, .cons h t => .cons (Im.kt k h) (ImAll.kt k t)
end
theorem ImAll.length {H : Hp} : ∀ {vs : List V} {ds : List PyData}, ImAll H vs ds → vs.length = ds.length
  | _, _, .nil => rfl
  | _, _, .cons _ t => congrArg (· + 1) (ImAll.length t)
theorem ImAll.get {H : Hp} : ∀ {vs : List V} {ds : List PyData} {i : Nat} {v : V}, ImAll H vs ds → vs[i]? = some v → ∃ d, ds[i]? = some d ∧ Im H v d
  | _, _, _, _, .nil, e => by simp at e
  | _, _, 0, _, .cons h _, e => by simp at e; subst e; exact ⟨_, rfl, h⟩
  | _, _, i + 1, _, .cons _ t, e => by
    obtain ⟨d, h1, h2⟩ := ImAll.get (i := i) t (by simpa using e)
    exact ⟨d, by simpa using h1, h2⟩
theorem ImAll.of {H : Hp} : ∀ {vs : List V} {ds : List PyData} {i : Nat} {d : PyData}, ImAll H vs ds → ds[i]? = some d → ∃ v, vs[i]? = some v ∧ Im H v d
  | _, _, _, _, .nil, e => by simp at e
  | _, _, 0, _, .cons h _, e => by simp at e; subst e; exact ⟨_, rfl, h⟩
  | _, _, i + 1, _, .cons _ t, e => by
    obtain ⟨d, h1, h2⟩ := ImAll.of (i := i) t (by simpa using e)
    exact ⟨d, by simpa using h1, h2⟩
theorem ImAll.snoc {H : Hp} : ∀ {vs : List V} {ds : List PyData} {v : V} {d : PyData}, ImAll H vs ds → Im H v d → ImAll H (vs ++ [v]) (ds ++ [d])
  | _, _, _, _, .nil, h => .cons h .nil
  | _, _, _, _, .cons g t, h => .cons g (ImAll.snoc t h)
theorem ImAll.append {H : Hp} : ∀ {vs ws : List V} {ds es : List PyData}, ImAll H vs ds → ImAll H ws es → ImAll H (vs ++ ws) (ds ++ es)
  | _, _, _, _, .nil, h => h
  | _, _, _, _, .cons g t, h => .cons g (ImAll.append t h)
theorem ImAll.strs {H : Hp} : ∀ xs : List Str, ImAll H (xs.map V.str) (xs.map PyData.str)
  | [] => .nil
  | x :: xs => .cons (.str x) (ImAll.strs xs)
theorem ImAll.ints {H : Hp} : ∀ xs : List Int, ImAll H (xs.map V.int) (xs.map PyData.int)
  | [] => .nil
  | x :: xs => .cons (.int x) (ImAll.ints xs)
theorem ImAll.strs_inv {H : Hp} : ∀ {vs : List V} {xs : List Str}, ImAll H vs (xs.map PyData.str) → vs = xs.map V.str
  | vs, [], h => by cases h; rfl
  | vs, x :: xs, h => by
    cases h with
    | cons h1 h2 =>
      cases h1
      rw [ImAll.strs_inv h2]
      rfl
theorem ImAll.ints_inv {H : Hp} : ∀ {vs : List V} {xs : List Int}, ImAll H vs (xs.map PyData.int) → vs = xs.map V.int
  | vs, [], h => by cases h; rfl
  | vs, x :: xs, h => by
    cases h with
    | cons h1 h2 =>
      cases h1
      rw [ImAll.ints_inv h2]
      rfl
theorem Im.inv {H : Hp} {v : V} {ds : List PyData} (h : Im H v (.tuple ds)) : ∃ p xs, v = .ref p ∧ H p = some (.tup xs) ∧ ImAll H xs ds := by
  cases h with
  | tup a b => exact ⟨_, _, rfl, a, b⟩

/-! ### texts -/
theorem flat1 : ∀ xs : List Nat, ((xs.map fun c => (⟨#[c]⟩ : Str)).map TL.tl).flatten = xs
  | [] => rfl
  | x :: xs => by
    rw [List.map_cons, List.map_cons, List.flatten_cons, flat1 xs]
    rfl
theorem joinL_nil : ∀ xs : List (List Nat), TL.joinL [] xs = xs.flatten
  | [] => rfl
  | [p] => by simp [TL.joinL]
  | p :: q :: r => by
    show p ++ ([] ++ TL.joinL [] (q :: r)) = _
    rw [joinL_nil (q :: r)]
    simp
theorem join_empty (ys : List Str) : (Txt.join "" ys).cps.toList = (ys.map TL.tl).flatten := by
  have h := TL.tl_join "" ys
  rw [← TL.join_eq] at h
  exact h.trans (joinL_nil _)
theorem join_signs (cs : List Nat) : (Txt.join "" (cs.map fun c => (⟨#[c]⟩ : Str))).cps.toList = cs := by
  rw [join_empty, flat1]
theorem sum_signs : ∀ cs : List Nat, ((cs.map fun c => (⟨#[c]⟩ : Str)).map (·.length)).sum = cs.length
  | [] => rfl
  | c :: cs => by
    rw [List.map_cons, List.map_cons, List.sum_cons, sum_signs cs, List.length_cons]
    show 1 + cs.length = _
    omega
theorem str_ext {x y : Str} (h : x.cps.toList = y.cps.toList) : x = y := by
  obtain ⟨⟨a⟩⟩ := x
  obtain ⟨⟨b⟩⟩ := y
  have h : a = b := h
  rw [h]
theorem str_len (x : Str) : x.cps.toList.length = x.length := Array.length_toList
theorem str_cat (x y : Str) : (x ++ y).cps.toList = x.cps.toList ++ y.cps.toList := by
  show (x.cps ++ y.cps).toList = _
  rw [Array.toList_append]
/-- a sign of a text, drawn -/
theorem pickC {z : Str} {v : Int} (h0 : 0 ≤ v) (h1 : v < z.length) : ∃ c, c ∈ z.cps.toList ∧ atI z.cps.toList v = some c := by
  have h : v.toNat < z.cps.toList.length := by rw [str_len]; omega
  refine ⟨z.cps.toList[v.toNat], List.getElem_mem h, ?_⟩
  have e := atI_nat (List.getElem?_eq_getElem h)
  rw [Int.toNat_of_nonneg h0] at e
  exact e

/-! ### class nodes -/
def clsD (b : Bool) (hs ls : Str) : PyData := .tuple [.str "class", .bool b, .str hs, .str ls]
structure Cl (hs ls : Str) : Prop where
  h1 : hs.length ≤ 27
  h2 : ls.length ≤ 26
  h3 : Sg hs
  h4 : Sg ls
theorem Cl.none : Cl "" "" := ⟨by decide, by decide, fun _ h => (nomatch h), fun _ h => (nomatch h)⟩
theorem Im.cls {H : Hp} {v : V} {b : Bool} {hs ls : Str} (h : Im H v (clsD b hs ls)) : ∃ p, v = .ref p ∧ H p = some (.tup [.str "class", .bl b, .str hs, .str ls]) := by
  obtain ⟨p, xs, rfl, hp, ha⟩ := h.inv
  cases ha with
  | cons a1 a2 => cases a1; cases a2 with
    | cons b1 b2 => cases b1; cases b2 with
      | cons c1 c2 => cases c1; cases c2 with
        | cons d1 d2 => cases d1; cases d2; exact ⟨p, rfl, hp⟩
theorem Im.mkcls {H : Hp} {p : Addr} {b : Bool} {hs ls : Str} (h : H p = some (.tup [.str "class", .bl b, .str hs, .str ls])) : Im H (.ref p) (clsD b hs ls) :=
  .tup h (.cons (.str _) (.cons (.bl _) (.cons (.str _) (.cons (.str _) .nil))))
/-- belongs -/
def bel (b : Bool) (hs ls : Str) (c d : Nat) : Bool :=
  !decide (V.bl ((decide (V.str hs = V.str (Str.ofString "")) || decide (c ∈ hs.cps.toList)) && (decide (V.str ls = V.str (Str.ofString "")) || decide (d ∈ ls.cps.toList))) = V.bl b)
/-- and, or of values -/
theorem or_val {Q : VK} {H : Hp} {c d : Bool} (h : Q (.bl (c || d)) H) : if c = true then Q (.bl true) H else Q (.bl d) H := by
  cases c <;> exact h
theorem or_cps {Q : VK} {H : Hp} {P : Prop} {c d : Bool} (hp : c = false → Q (.bl d) H → P) (h : Q (.bl (c || d)) H) : if c = true then Q (.bl true) H else P := by
  cases c
  · exact hp rfl h
  · exact h
theorem and_cps {Q : VK} {H : Hp} {P : Prop} {c d : Bool} (hp : c = true → Q (.bl d) H → P) (h : Q (.bl (c && d)) H) : if c = true then P else Q (.bl false) H := by
  cases c
  · exact h
  · exact hp rfl h
end My
namespace My
open PySem PySem.Spec PyProof.Rows L2
/-- letters, owners -/
structure Al (x : Str) : Prop where
  n1 : 1 ≤ x.length
  n3 : x.length ≤ 3
  sg : Sg x
theorem le_cat {z : Str} (h : z.length ≤ 900) : (Str.ofString "@").length + z.length ≤ sizeLine := le_size (by show 1 + z.length ≤ 1000; omega)
end My
namespace My
open PySem PySem.Spec PyProof.Rows L2
theorem join_fits (l : List Nat) (h : l.length ≤ 1000) : ((l.map fun c => (⟨#[c]⟩ : Str)).map (·.length)).sum + (l.map fun c => (⟨#[c]⟩ : Str)).length * (Str.ofString "").length ≤ 16777216 := by
  rw [sum_signs, show (Str.ofString "").length = 0 from rfl]
  omega
theorem join_cl (l : List Nat) : (Txt.join (Str.ofString "") (l.map fun c => (⟨#[c]⟩ : Str))).cps.toList = l := join_signs l
theorem join_len (l : List Nat) : (Txt.join (Str.ofString "") (l.map fun c => (⟨#[c]⟩ : Str))).length = l.length := by
  rw [← str_len, join_cl]
theorem sg_one {c : Nat} (h : c < 128) : Sg ⟨#[c]⟩ := fun d hd => by rw [show d = c by simpa using hd]; exact h
theorem sg_cat {x y : Str} (h : Sg x) (g : Sg y) : Sg (x ++ y) := fun c hc => by
  rw [str_cat] at hc
  rcases List.mem_append.mp hc with z | z
  · exact h c z
  · exact g c z
theorem sg_at : Sg (Str.ofString "@") := by
  intro c hc
  have h : c ∈ ([64] : List Nat) := hc
  have h2 : c = 64 := by simpa using h
  omega
end My
namespace My
open PySem PySem.Spec PyProof.Rows L2
theorem atcaps_eq : ("@ABCDEFGHIJKLMNOPQRSTUVWXYZ" : Str).cps.toList = 64 :: caps := by decide +kernel
theorem sg_sub {x : Str} {l : List Nat} (h : x.cps.toList.Sublist l) (g : ∀ c ∈ l, c < 128) : Sg x := fun c hc => g c (h.subset hc)
theorem atcaps_small : ∀ c ∈ 64 :: caps, c < 128 := by decide
theorem lows_sg : Sg "abcdefghijklmnopqrstuvwxyz" := fun c hc => by rw [lows_eq] at hc; exact lows_small c hc
theorem caps_sg : Sg "ABCDEFGHIJKLMNOPQRSTUVWXYZ" := fun c hc => by rw [caps_eq] at hc; exact caps_small c hc
theorem al_lows {x : Str} (h : x.cps.toList.Sublist lows) (h1 : 1 ≤ x.length) (h3 : x.length ≤ 3) : Al x := ⟨h1, h3, sg_sub h lows_small⟩
theorem al_caps {x : Str} (h : x.cps.toList.Sublist caps) (h1 : 1 ≤ x.length) (h3 : x.length ≤ 3) : Al x := ⟨h1, h3, sg_sub h caps_small⟩
end My
namespace My
open PySem PySem.Spec PyProof.Rows L2
theorem rep_bl (K : PySem.W.Frag) (H : Hp) (b : Bool) : Dp K H (.bl b) (.bool b) ∧ (PyData.bool b).showable = true ∧ (PyData.bool b).hasDict = false ∧ (PyData.bool b).depth ≤ 40 ∧ (PyData.bool b).shown.length ≤ sizeLine :=
  ⟨.bl b, (Sh.bool b).s, (Sh.bool b).n, Nat.le_trans (Sh.bool b).p (by decide), (Sh.bool b).fits (by decide)⟩
end My
namespace My
open PySem PySem.Spec PyProof.Rows L2
def topS (i : Nat) : Stmt := PySem.Challenge.pw_excerptcheck_k05_symbols_of_a_class.main.body.getD i (.Pass ⟨0, 0, 0, 0⟩)
structure Bn (mg : Str → Option Value) : Prop where
  len_ : mg "len" = none
  max_ : mg "max" = none
  abs_ : mg "abs" = none
  int_ : mg "int" = none
  list_ : mg "list" = none
  range_ : mg "range" = none
  repr_ : mg "repr" = none
local macro_rules | `(tactic| walk_at "h") => `(tactic| first | assumption | exact upd_same)
local macro_rules | `(tactic| walk_at "c1") => `(tactic| first | exact .inr ⟨by decide, by decide⟩ | exact .inl ⟨by decide, by decide⟩ | exact rfl | exact ⟨by decide, by decide, by decide⟩ | (show (0 : Int) < _; first | decide | omega | (split <;> omega)) | (show (0 : Int) < _ ∧ _ < (1073741824 : Int); constructor <;> (split <;> omega)) | exact le_size0 rfl | exact le_size (by omega))
local macro_rules | `(tactic| walk_at "r") => `(tactic| repeat (first | refine ⟨_, rfl, ?_⟩ | refine ⟨⟨_, rfl⟩, ?_⟩ | refine ⟨_, _, rfl, rfl, ?_⟩ | refine .inl ⟨_, rfl, ?_⟩ | refine ⟨by walk_at "c1", ?_⟩ | refine ⟨_, _, _, _, rfl, rfl, .inl (.inl (by walk_at "h")), atI_nat (j := 0) rfl, ?_⟩ | refine ⟨_, _, _, _, rfl, rfl, .inl (.inl (by walk_at "h")), atI_nat (j := 1) rfl, ?_⟩ | refine ⟨_, _, _, _, rfl, rfl, .inl (.inl (by walk_at "h")), atI_nat (j := 2) rfl, ?_⟩ | refine ⟨_, _, _, _, rfl, rfl, .inl (.inl (by walk_at "h")), atI_nat (j := 3) rfl, ?_⟩ | refine ⟨_, _, _, _, rfl, rfl, by walk_at "h", rfl, ?_⟩ | refine ⟨_, _, rfl, .inl (.inl (.inl (by walk_at "h"))), ?_⟩ | refine ⟨_, _, (rfl : [V.int _, V.int _] = [V.int _, V.int _]), ?_⟩))
section
variable {P : Program} {w : World} {K : PySem.W.Frag} {mg : Str → Option Value} {base : Heap}
abbrev s_lawtape : Stmt := topS 4
abbrev N_lawtape : List Str := ["script", "total", "cell"]
theorem sc_lawtape : FnScope N_lawtape ["script"] (defScope s_lawtape) := ⟨rfl, rfl, rfl, by decide +kernel, rfl, by decide +kernel, by decide +kernel⟩
set_option maxHeartbeats 1000000 in
theorem ok_lawtape (D : Df K mg "_law_tape" s_lawtape ["script"]) (B : Bn mg)   : Cal P w K mg base 1 "_law_tape" ["script"] (spTape K) := by
  refine D.cal sc_lawtape ?_ ?_
  · intro vs H Q E h; obtain ⟨a, ns, rfl, _⟩ := h; rfl
  intro f cdv A o s H vs Q E hr h
  obtain ⟨a, ns, rfl, hS, hl, q⟩ := h
  have nd := sc_lawtape.nd
  refine ⟨_, (pss_cons (ps_set (i := 1) nd rfl (Or.inl rfl) pe_int)
    (pss_cons (ps_for PassesOwn.never rfl (pi_list (pv 0)) (pg_name (i := 2) nd rfl (Or.inl rfl))
      (pss_one (ps_set (i := 1) nd rfl (Or.inl rfl) (pe_op op_mod (pe_callTy call_int1 rfl B.int_ (by decide +kernel) (pa_cons (pe_op op_add (pe_op op_mul (pv 1) pe_int) (pe_callB call_abs rfl B.abs_ (by decide +kernel) (pa_cons (pe_callTy call_int1 rfl B.int_ (by decide +kernel) (pa_cons (pv 2) pa_nil)) pa_nil))) pa_nil)) pe_int))))
    (pss_one (ps_ret (pe_lst (pa_cons (pe_callTy call_list_of rfl B.list_ (by decide +kernel) (pa_cons (pv 0) pa_nil)) (pa_cons pe_int (pa_cons pe_int (pa_cons (pv 1) pa_nil))))))))), ?_⟩
  refine ⟨_, rfl, a, rfl, ⟨_, hS⟩, for_it (walk_list (xs := ns.map V.int)) (fun i σ H' => ∃ v y, σ = [some (.ref a), some (.int v), y] ∧ 0 ≤ v ∧ H' = H) ⟨7, none, rfl, by omega, rfl⟩ ?_ ?_ ?_⟩
  · rintro i σ H' hi ⟨v, y, rfl, hv, rfl⟩
    exact hS
  · rintro i x σ H1 H2 hi ⟨v, y, rfl, hv, rfl⟩ ⟨rfl, hx⟩
    obtain ⟨c, rfl⟩ : ∃ c : Int, x = .int c := by
      rw [List.getElem?_map] at hx
      cases e : ns[i]? with
      | none => rw [e] at hx; cases hx
      | some c => rw [e] at hx; exact ⟨c, (Option.some.inj hx).symm⟩
    walk_at "r"
    exact ⟨_, _, rfl, Int.emod_nonneg _ (by decide), rfl⟩
  · rintro σ H2 ⟨v, y, rfl, hv, rfl⟩
    walk_at "r"
    refine ⟨_, _, rfl, .inl hS, fun c hc => ?_⟩
    walk_at "r"
    intro t ht
    have hct : c ≠ t := fun e => by
      rw [e, upd_same] at ht; cases ht
    have hn : H2 t = none := by rw [upd_ne hct.symm] at ht; exact ht
    refine q (t, c) _ (fun b u e => ?_) hn ⟨ns, 0, 0, v, upd_same, hct, ?_, by omega, by omega, hv⟩
    · rw [upd_ne (ne_of_none e hn), upd_ne (ne_of_none e hc)]
      exact e
    · show upd (upd H2 c _) t _ c = _
      rw [upd_ne hct, upd_same]
abbrev s_lawdraw : Stmt := topS 5
abbrev N_lawdraw : List Str := ["tape", "many", "place", "number"]
theorem sc_lawdraw : FnScope N_lawdraw ["tape", "many"] (defScope s_lawdraw) := ⟨rfl, rfl, rfl, by decide +kernel, rfl, by decide +kernel, by decide +kernel⟩
set_option maxHeartbeats 1000000 in
theorem ok_lawdraw (D : Df K mg "_law_draw" s_lawdraw ["tape", "many"]) (B : Bn mg)   : Cal P w K mg base 1 "_law_draw" ["tape", "many"] (spDraw K) := by
  refine D.cal sc_lawdraw ?_ ?_
  · intro vs H Q E h; obtain ⟨t, m, rfl, _⟩ := h; rfl
  intro f cdv A o s H vs Q E hr h
  obtain ⟨t, m, rfl, T, hm, q⟩ := h
  have nd := sc_lawdraw.nd
  refine ⟨_, (pss_cons (ps_if (pt_cmpR op_eq (pe_ix ix_list (pv 0) pe_int (fun _ _ => rfl)) pe_int (nomark _))
      (pss_cons (ps_set (i := 2) nd rfl (Or.inl rfl) (pe_ix ix_list (pv 0) pe_int (fun _ _ => rfl)))
      (pss_cons (ps_set (i := 3) nd rfl (Or.inl rfl) pe_int)
      (pss_cons (ps_if (pt_cmpR op_lt (pv 2) (pe_callB call_len_seq rfl B.len_ PySem.boot_len (pa_cons (pe_ix ix_list (pv 0) pe_int (fun _ _ => rfl)) pa_nil)) (nomark _))
        (pss_one (ps_set (i := 3) nd rfl (Or.inl rfl) (pe_callB call_abs rfl B.abs_ (by decide +kernel) (pa_cons (pe_callTy call_int1 rfl B.int_ (by decide +kernel) (pa_cons (pe_ix ix_list (pe_ix ix_list (pv 0) pe_int (fun _ _ => rfl)) (pv 2) (fun _ _ => rfl)) pa_nil)) pa_nil))))
        (pss_cons (ps_asg (pe_op op_mod (pe_callTy call_int1 rfl B.int_ (by decide +kernel) (pa_cons (pe_op op_add (pe_op op_add (pe_op op_mul (pe_ix ix_list (pv 0) pe_int (fun _ _ => rfl)) pe_int) (pv 2)) pe_int) pa_nil)) pe_int) (pg_sub (pv 0) pe_int set_list))
        (pss_one (ps_set (i := 3) nd rfl (Or.inl rfl) (pe_ix ix_list (pv 0) pe_int (fun _ _ => rfl))))))
      (pss_cons (ps_asg (pe_op op_add (pv 2) pe_int) (pg_sub (pv 0) pe_int set_list))
      (pss_cons (ps_if (pt_cmpR op_lt (pv 3) (pe_op op_pow pe_int pe_int) (nomark _))
        (pss_cons (ps_set (i := 3) nd rfl (Or.inl rfl) (pe_op op_mod (pe_callTy call_int1 rfl B.int_ (by decide +kernel) (pa_cons (pe_op op_add (pe_op op_add (pe_op op_mul (pv 3) pe_int) (pe_op op_mul (pv 2) pe_int)) pe_int) pa_nil)) pe_int))
        (pss_cons (ps_set (i := 3) nd rfl (Or.inl rfl) (pe_op op_mod (pe_callTy call_int1 rfl B.int_ (by decide +kernel) (pa_cons (pe_op op_mul (pv 3) pe_int) pa_nil)) pe_int))
        (pss_one (ps_ret (pe_op op_mod (pe_callTy call_int1 rfl B.int_ (by decide +kernel) (pa_cons (pv 3) pa_nil)) (pe_callB (call_max2 rfl) rfl B.max_ (by decide +kernel) (pa_cons (pv 1) (pa_cons pe_int pa_nil))))))))
        pss_nil)
      (pss_one (ps_asg (pv 3) (pg_sub (pv 0) pe_int set_list))))))))
      pss_nil)
    (pss_cons (ps_set (i := 3) nd rfl (Or.inl rfl) (pe_ix ix_list (pv 0) pe_int (fun _ _ => rfl)))
    (pss_cons (ps_asg (pe_op op_fdiv (pv 3) (pe_callB (call_max2 rfl) rfl B.max_ (by decide +kernel) (pa_cons (pv 1) (pa_cons pe_int pa_nil)))) (pg_sub (pv 0) pe_int set_list))
    (pss_one (ps_ret (pe_op op_mod (pe_callTy call_int1 rfl B.int_ (by decide +kernel) (pa_cons (pv 3) pa_nil)) (pe_callB (call_max2 rfl) rfl B.max_ (by decide +kernel) (pa_cons (pv 1) (pa_cons pe_int pa_nil))))))))), ?_⟩
  obtain ⟨t, c⟩ := t
  obtain ⟨ns, p, n, sd, ht, hct, hc, hp, hn, hs⟩ := T.ex
  have ht : H t = some (HO.lst [V.ref c, V.int p, V.int n, V.int sd]) := ht
  have hct : c ≠ t := hct
  have hc : H c = some (HO.lst (ns.map V.int)) := hc
  have q : ∀ v H', 0 ≤ v → v < max m 1 → Kp (t, c) H H' → (∀ b, H b = none → H' b = none) → Tape K H' (t, c) → Q (.int v) H' := q
  have q2 : ∀ (v p' n' s' : Int), 0 ≤ v → v < max m 1 → 0 ≤ p' → 0 ≤ n' → 0 ≤ s' → Q (.int v) (upd H t (.lst [.ref c, .int p', .int n', .int s'])) := fun v p' n' s' h1 h2 h3 h4 h5 =>
    q v _ h1 h2 (Kp.self (t := (t, c))) (fun b hb => by rw [upd_ne (ne_of_none ht hb).symm]; exact hb) ⟨ns, p', n', s', upd_same, hct, by show upd H t _ c = _; rw [upd_ne hct]; exact hc, h3, h4, h5⟩
  have e1 : (if (1 : Int) > m then 1 else m) = max m 1 := by
    split <;> omega
  have m1 : 0 < max m 1 := by omega
  have fin : ∀ z : Int, 0 ≤ z % (if (1 : Int) > m then 1 else m) ∧ z % (if (1 : Int) > m then 1 else m) < max m 1 := fun z => by
    rw [e1]
    exact ⟨Int.emod_nonneg _ (by omega), Int.emod_lt_of_pos _ m1⟩
  have d0 : ∀ z : Int, 0 ≤ z → 0 ≤ z / (if (2 : Int) > m then 2 else m) := fun z hz =>
    Int.ediv_nonneg hz (by split <;> omega)
  walk_at "r"
  refine ite2 (fun e => ?_) (fun e => ?_)
  · walk_at "r"
    refine ite2 (fun e2 => ?_) (fun e2 => ?_)
    · have e3 := of_decide_eq_true e2
      rw [List.length_map] at e3
      have e4 : p.toNat < ns.length := by omega
      have e5 : atI (ns.map V.int) p = some (.int ns[p.toNat]) := by
        have z := atI_nat (xs := ns.map V.int) (j := p.toNat) (v := .int ns[p.toNat]) (by rw [List.getElem?_map, List.getElem?_eq_getElem e4]; rfl)
        rw [Int.toNat_of_nonneg hp] at z
        exact z
      refine ⟨_, rfl, ?_⟩
      walk_at "r"
      refine ⟨_, _, _, _, rfl, rfl, .inl (.inl hc), e5, ?_⟩
      walk_at "r"
      generalize hx : (if ns[p.toNat] < 0 then -ns[p.toNat] else ns[p.toNat]) = x
      have hx0 : 0 ≤ x := by
        rw [← hx]
        split <;> omega
      refine ite2 (fun e6 => ?_) (fun e6 => ?_)
      · walk_at "r"
        exact q2 _ (p + 1) n sd (fin _).1 (fin _).2 (by omega) hn hs
      · walk_at "r"
        rw [upd_upd, upd_upd]
        exact q2 _ (p + 1) _ sd (fin _).1 (fin _).2 (by omega) (d0 _ hx0) hs
    · walk_at "r"
      have s0 : 0 ≤ (sd * 48271 + p + 1) % 2147483647 := Int.emod_nonneg _ (by decide)
      refine ite2 (fun e6 => ?_) (fun e6 => ?_)
      · walk_at "r"
        rw [upd_upd]
        exact q2 _ (p + 1) n _ (fin _).1 (fin _).2 (by omega) hn s0
      · walk_at "r"
        rw [upd_upd, upd_upd, upd_upd]
        exact q2 _ (p + 1) _ _ (fin _).1 (fin _).2 (by omega) (d0 _ s0) s0
  · walk_at "r"
    exact q2 _ p _ sd (fin _).1 (fin _).2 hp (d0 _ hn) hs
abbrev s_lawrising : Stmt := topS 6
abbrev N_lawrising : List Str := ["tape", "signs", "many", "found", "at", "k"]
theorem sc_lawrising : FnScope N_lawrising ["tape", "signs", "many"] (defScope s_lawrising) := ⟨rfl, rfl, rfl, by decide +kernel, rfl, by decide +kernel, by decide +kernel⟩

def sp_lawrising (K : PySem.W.Frag) : Sp := fun vs H Q _ => ∃ (t : TA2) (z : Str) (m : Int), vs = [.ref t.1, .str z, .int m] ∧ Tape K H t ∧ 0 ≤ m ∧ m ≤ (z.length : Int) ∧ z.length ≤ 1000 ∧
  ∀ (y : Str) H', y.cps.toList.Sublist z.cps.toList → (y.length : Int) = m → Kp t H H' → Tape K H' t → Q (.str y) H'

set_option maxHeartbeats 1000000 in
theorem ok_lawrising (D : Df K mg "_law_rising" s_lawrising ["tape", "signs", "many"]) (B : Bn mg) (C_lawdraw : Cal P w K mg base 1 "_law_draw" ["tape", "many"] (spDraw K))  : Cal P w K mg base 2 "_law_rising" ["tape", "signs", "many"] (sp_lawrising K) := by
  refine D.cal sc_lawrising ?_ ?_
  · intro vs H Q E h; obtain ⟨t, z, m, rfl, _⟩ := h; rfl
  intro f cdv A o s H vs Q E hr h
  obtain ⟨t, z, m, rfl, T, m0, mz, hz, q⟩ := h
  have nd := sc_lawrising.nd
  refine ⟨_, (pss_cons (ps_set (i := 3) nd rfl (Or.inl rfl) pe_str)
    (pss_cons (ps_set (i := 4) nd rfl (Or.inl rfl) pe_int)
    (pss_cons (ps_for PassesOwn.never rfl (pi_range1 rfl B.range_ (pa_cons (pv 2) pa_nil)) (pg_name (i := 5) nd rfl (Or.inl rfl))
      (pss_cons (ps_set (i := 4) nd rfl (Or.inl rfl) (pe_op op_add (pv 4) (pe_cal C_lawdraw (by first | exact hr | exact hr.mono (by decide)) rfl (pa_cons (pv 0) (pa_cons (pe_op op_sub (pe_op op_add (pe_op op_add (pe_op op_sub (pe_callB call_len_str rfl B.len_ PySem.boot_len (pa_cons (pv 1) pa_nil)) (pv 2)) (pv 5)) pe_int) (pv 4)) pa_nil)))))
      (pss_cons (ps_set (i := 3) nd rfl (Or.inl rfl) (pe_op op_add_str (pv 3) (pe_ix ix_str (pv 1) (pv 4) (fun _ _ => rfl))))
      (pss_one (ps_set (i := 4) nd rfl (Or.inl rfl) (pe_op op_add (pv 4) pe_int))))))
    (pss_one (ps_ret (pv 3)))))), ?_⟩
  walk_at "r"
  refine ⟨by omega, by omega, for_it walk_range (fun i σ H' => ∃ (y : Str) (a : Int) (x : Option V), σ = [some (.ref t.1), some (.str z), some (.int m), some (.str y), some (.int a), x] ∧
    0 ≤ a ∧ a ≤ (z.length : Int) - m + i ∧ (y.length : Int) = i ∧ y.cps.toList.Sublist (z.cps.toList.take a.toNat) ∧ Kp t H H' ∧ Tape K H' t) ?_ ?_ ?_ ?_⟩
  · exact ⟨_, 0, none, rfl, by omega, by omega, rfl, List.nil_sublist _, Kp.refl _ _, T⟩
  · intros; trivial
  · rintro i x σ H1 H2 hi ⟨y, a, w, rfl, a0, a1, hy, hs, kp, T1⟩ ⟨rfl, rfl⟩
    walk_at "r"
    have hm' : m = (m.toNat : Int) := by omega
    refine ⟨t, _, rfl, T1, by omega, fun v H3 v0 v1 kp2 _ T2 => ?_⟩
    have v2 : a + v ≤ (z.length : Int) - m + i := by omega
    have g1 : (a + v).toNat < z.cps.toList.length := by
      show _ < z.cps.toList.length
      have : z.cps.toList.length = z.length := Array.length_toList
      omega
    have g2 := atI_nat (List.getElem?_eq_getElem g1)
    rw [Int.toNat_of_nonneg (by omega)] at g2
    walk_at "r"
    refine ⟨_, _, _, rfl, rfl, le_size (by omega), g2, ?_⟩
    walk_at "r"
    refine ⟨?_, ?_⟩
    · show y.length + 1 ≤ sizeLine
      exact le_size (by omega)
    walk_at "r"
    refine ⟨_, _, _, rfl, by omega, by omega, ?_, ?_, kp.trans kp2, T2⟩
    · rw [strLen_append]
      show ((y.length + 1 : Nat) : Int) = _
      omega
    · have e1 : (a + v + 1).toNat = (a + v).toNat + 1 := by omega
      rw [e1, List.take_add_one, List.getElem?_eq_getElem g1]
      have e2 : (y ++ (⟨#[z.cps.toList[(a + v).toNat]]⟩ : Str)).cps.toList = y.cps.toList ++ [z.cps.toList[(a + v).toNat]] := by
        show (y.cps ++ #[z.cps.toList[(a + v).toNat]]).toList = _
        rw [Array.toList_append]
      rw [e2]
      exact List.Sublist.append (hs.trans (List.take_sublist_take_left (by omega))) (List.Sublist.refl _)
  · rintro σ H2 ⟨y, a, w, rfl, a0, a1, hy, hs, kp, T1⟩
    walk_at "r"
    exact q y H2 (hs.trans (List.take_sublist _ _)) (by omega) kp T1
abbrev s_lawletters : Stmt := topS 7
abbrev N_lawletters : List Str := ["tape"]
theorem sc_lawletters : FnScope N_lawletters ["tape"] (defScope s_lawletters) := ⟨rfl, rfl, rfl, by decide +kernel, rfl, by decide +kernel, by decide +kernel⟩

def sp_lawletters (K : PySem.W.Frag) : Sp := fun vs H Q _ => ∃ (t : TA2), vs = [.ref t.1] ∧ Tape K H t ∧
  ∀ (y : Str) H', y.cps.toList.Sublist lows → 1 ≤ y.length → y.length ≤ 3 → Kp t H H' → Tape K H' t → Q (.str y) H'

set_option maxHeartbeats 1000000 in
theorem ok_lawletters (D : Df K mg "_law_letters" s_lawletters ["tape"]) (B : Bn mg) (C_lawrising : Cal P w K mg base 2 "_law_rising" ["tape", "signs", "many"] (sp_lawrising K)) (C_lawdraw : Cal P w K mg base 1 "_law_draw" ["tape", "many"] (spDraw K))  : Cal P w K mg base 3 "_law_letters" ["tape"] (sp_lawletters K) := by
  refine D.cal sc_lawletters ?_ ?_
  · intro vs H Q E h; obtain ⟨t, rfl, _⟩ := h; rfl
  intro f cdv A o s H vs Q E hr h
  obtain ⟨t, rfl, T, q⟩ := h
  have nd := sc_lawletters.nd
  refine ⟨_, (pss_one (ps_ret (pe_cal C_lawrising (by first | exact hr | exact hr.mono (by decide)) rfl (pa_cons (pv 0) (pa_cons pe_str (pa_cons (pe_ix ix_list (pe_lst (pa_cons pe_int (pa_cons pe_int (pa_cons pe_int (pa_cons pe_int (pa_cons pe_int (pa_cons pe_int pa_nil))))))) (pe_cal C_lawdraw (by first | exact hr | exact hr.mono (by decide)) rfl (pa_cons (pv 0) (pa_cons pe_int pa_nil))) (fun _ _ => rfl)) pa_nil)))))), ?_⟩
  walk_at "r"
  intro p hp
  walk_at "r"
  refine ⟨t, _, rfl, T.new hp, by decide, fun v H1 v0 v1 kp _ T1 => ?_⟩
  obtain ⟨u, hu, eu⟩ := pickI (ns := [1, 1, 1, 2, 2, 3]) (v := v) v0 (by show v < 6; omega)
  refine ⟨p, _, v, _, rfl, rfl, .inl (.inl (kp p _ (T.ne hp) upd_same)), eu, ?_⟩
  have u3 : 1 ≤ u ∧ u ≤ 3 := by simp at hu; omega
  walk_at "r"
  refine ⟨t, _, u, rfl, T1, by omega, (show u ≤ (26 : Int) by omega), le_of1000, fun y H2 hs hl kp2 T2 => ?_⟩
  exact q y H2 (lows_eq ▸ hs) (by omega) (by omega) ((Kp.new hp).trans (kp.trans kp2)) T2
abbrev s_lawowners : Stmt := topS 8
abbrev N_lawowners : List Str := ["tape"]
theorem sc_lawowners : FnScope N_lawowners ["tape"] (defScope s_lawowners) := ⟨rfl, rfl, rfl, by decide +kernel, rfl, by decide +kernel, by decide +kernel⟩

def sp_lawowners (K : PySem.W.Frag) : Sp := fun vs H Q _ => ∃ (t : TA2), vs = [.ref t.1] ∧ Tape K H t ∧
  ∀ (y : Str) H', y.cps.toList.Sublist caps → 1 ≤ y.length → y.length ≤ 3 → Kp t H H' → Tape K H' t → Q (.str y) H'

set_option maxHeartbeats 1000000 in
theorem ok_lawowners (D : Df K mg "_law_owners" s_lawowners ["tape"]) (B : Bn mg) (C_lawrising : Cal P w K mg base 2 "_law_rising" ["tape", "signs", "many"] (sp_lawrising K)) (C_lawdraw : Cal P w K mg base 1 "_law_draw" ["tape", "many"] (spDraw K))  : Cal P w K mg base 3 "_law_owners" ["tape"] (sp_lawowners K) := by
  refine D.cal sc_lawowners ?_ ?_
  · intro vs H Q E h; obtain ⟨t, rfl, _⟩ := h; rfl
  intro f cdv A o s H vs Q E hr h
  obtain ⟨t, rfl, T, q⟩ := h
  have nd := sc_lawowners.nd
  refine ⟨_, (pss_one (ps_ret (pe_cal C_lawrising (by first | exact hr | exact hr.mono (by decide)) rfl (pa_cons (pv 0) (pa_cons pe_str (pa_cons (pe_ix ix_list (pe_lst (pa_cons pe_int (pa_cons pe_int (pa_cons pe_int (pa_cons pe_int (pa_cons pe_int (pa_cons pe_int pa_nil))))))) (pe_cal C_lawdraw (by first | exact hr | exact hr.mono (by decide)) rfl (pa_cons (pv 0) (pa_cons pe_int pa_nil))) (fun _ _ => rfl)) pa_nil)))))), ?_⟩
  walk_at "r"
  intro p hp
  walk_at "r"
  refine ⟨t, _, rfl, T.new hp, by decide, fun v H1 v0 v1 kp _ T1 => ?_⟩
  obtain ⟨u, hu, eu⟩ := pickI (ns := [1, 2, 2, 2, 2, 3]) (v := v) v0 (by show v < 6; omega)
  refine ⟨p, _, v, _, rfl, rfl, .inl (.inl (kp p _ (T.ne hp) upd_same)), eu, ?_⟩
  have u3 : 1 ≤ u ∧ u ≤ 3 := by simp at hu; omega
  walk_at "r"
  refine ⟨t, _, u, rfl, T1, by omega, (show u ≤ (26 : Int) by omega), le_of1000, fun y H2 hs hl kp2 T2 => ?_⟩
  exact q y H2 (caps_eq ▸ hs) (by omega) (by omega) ((Kp.new hp).trans (kp.trans kp2)) T2
abbrev s_lawleaf : Stmt := topS 9
abbrev N_lawleaf : List Str := ["tape", "letters", "owners", "choice", "held", "sign"]
theorem sc_lawleaf : FnScope N_lawleaf ["tape", "letters", "owners"] (defScope s_lawleaf) := ⟨rfl, rfl, rfl, by decide +kernel, rfl, by decide +kernel, by decide +kernel⟩

def sp_lawleaf (K : PySem.W.Frag) : Sp := fun vs H Q _ => ∃ (t : TA2) (y z : Str), vs = [.ref t.1, .str y, .str z] ∧ Tape K H t ∧ Al y ∧ Al z ∧
  ∀ p b hs ls H', Im H' (.ref p) (clsD b hs ls) → Cl hs ls → Kp t H H' → Tape K H' t → Q (.ref p) H'

set_option maxHeartbeats 1000000 in
theorem ok_lawleaf (D : Df K mg "_law_leaf" s_lawleaf ["tape", "letters", "owners"]) (B : Bn mg) (C_lawdraw : Cal P w K mg base 1 "_law_draw" ["tape", "many"] (spDraw K))  : Cal P w K mg base 2 "_law_leaf" ["tape", "letters", "owners"] (sp_lawleaf K) := by
  refine D.cal sc_lawleaf ?_ ?_
  · intro vs H Q E h; obtain ⟨t, y, z, rfl, _⟩ := h; rfl
  intro f cdv A o s H vs Q E hr h
  obtain ⟨t, y, z, rfl, T, hy, hz, q⟩ := h
  have nd := sc_lawleaf.nd
  refine ⟨_, (pss_cons (ps_set (i := 3) nd rfl (Or.inl rfl) (pe_cal C_lawdraw (by first | exact hr | exact hr.mono (by decide)) rfl (pa_cons (pv 0) (pa_cons pe_int pa_nil))))
    (pss_cons (ps_if (pt_cmpR op_lt (pv 3) pe_int (nomark _))
      (pss_one (ps_ret (pe_tup (pa_cons pe_str (pa_cons pe_bl (pa_cons pe_str (pa_cons pe_str pa_nil)))))))
      pss_nil)
    (pss_cons (ps_if (pt_cmpR op_lt (pv 3) pe_int (nomark _))
      (pss_one (ps_ret (pe_tup (pa_cons pe_str (pa_cons pe_bl (pa_cons (pe_ix ix_str (pv 2) (pe_cal C_lawdraw (by first | exact hr | exact hr.mono (by decide)) rfl (pa_cons (pv 0) (pa_cons (pe_callB call_len_str rfl B.len_ PySem.boot_len (pa_cons (pv 2) pa_nil)) pa_nil))) (fun _ _ => rfl)) (pa_cons pe_str pa_nil)))))))
      pss_nil)
    (pss_cons (ps_if (pt_cmpR op_eq (pv 3) pe_int (nomark _))
      (pss_one (ps_ret (pe_tup (pa_cons pe_str (pa_cons pe_bl (pa_cons pe_str (pa_cons (pe_ix ix_str (pv 1) (pe_cal C_lawdraw (by first | exact hr | exact hr.mono (by decide)) rfl (pa_cons (pv 0) (pa_cons (pe_callB call_len_str rfl B.len_ PySem.boot_len (pa_cons (pv 1) pa_nil)) pa_nil))) (fun _ _ => rfl)) pa_nil)))))))
      pss_nil)
    (pss_cons (ps_if (pt_cmpR op_eq (pv 3) pe_int (nomark _))
      (pss_one (ps_ret (pe_tup (pa_cons pe_str (pa_cons pe_bl (pa_cons pe_str (pa_cons pe_str pa_nil)))))))
      pss_nil)
    (pss_cons (ps_set (i := 4) nd rfl (Or.inl rfl) (pe_join pe_str (pe_lc (own := [("sign", 5)]) rfl nd (pi_str (pe_op op_add_str pe_str (pv 2))) (blkOk_by (N := N_lawleaf) (sc := defScope s_lawleaf) (by decide +kernel)) (fun _ _ _ _ _ => (pg_name (i := 5) nd rfl (Or.inl rfl))) (fun _ _ _ _ _ => (pts_one (pt_cmpR op_eq (pe_cal C_lawdraw (by first | exact hr | exact hr.mono (by decide)) rfl (pa_cons (pv 0) (pa_cons pe_int pa_nil))) pe_int (nomark _)))) (fun _ _ _ _ _ => (pv 5)))))
    (pss_one (ps_ret (pe_tup (pa_cons pe_str (pa_cons (pe_cmpR op_eq (pe_cal C_lawdraw (by first | exact hr | exact hr.mono (by decide)) rfl (pa_cons (pv 0) (pa_cons pe_int pa_nil))) pe_int (nomark _)) (pa_cons (pv 4) (pa_cons (pe_join pe_str (pe_lc (own := [("sign", 5)]) rfl nd (pi_str (pv 1)) (blkOk_by (N := N_lawleaf) (sc := defScope s_lawleaf) (by decide +kernel)) (fun _ _ _ _ _ => (pg_name (i := 5) nd rfl (Or.inl rfl))) (fun _ _ _ _ _ => (pts_one (pt_cmpR op_eq (pe_cal C_lawdraw (by first | exact hr | exact hr.mono (by decide)) rfl (pa_cons (pv 0) (pa_cons pe_int pa_nil))) pe_int (nomark _)))) (fun _ _ _ _ _ => (pv 5)))) pa_nil))))))))))))), ?_⟩
  have y1 := hy.n1
  have y3 := hy.n3
  have z1 := hz.n1
  have z3 := hz.n3
  have yl := str_len y
  have zl := str_len z
  walk_at "r"
  refine ⟨t, _, rfl, T, by decide, fun v H1 v0 v1 kp1 _ T1 => ?_⟩
  walk_at "r"
  refine ite2 (fun e => ?_) (fun e => ?_)
  · walk_at "r"
    intro p hp
    exact q p false "" "" _ (Im.mkcls upd_same) Cl.none (kp1.trans (Kp.new hp)) (T1.new hp)
  walk_at "r"
  refine ite2 (fun e2 => ?_) (fun e2 => ?_)
  · walk_at "r"
    refine ⟨t, _, rfl, T1, by omega, fun v2 H2 u0 u1 kp2 _ T2 => ?_⟩
    obtain ⟨c, hc, ec⟩ := pickC (z := z) u0 (by omega)
    refine ⟨_, _, _, rfl, rfl, le_size (by omega), ec, ?_⟩
    walk_at "r"
    intro p hp
    exact q p false ⟨#[c]⟩ "" _ (Im.mkcls upd_same) ⟨Nat.le_of_ble_eq_true rfl, by decide, sg_one (hz.sg c hc), fun _ h => nomatch h⟩ (kp1.trans (kp2.trans (Kp.new hp))) (T2.new hp)
  walk_at "r"
  refine ite2 (fun e3 => ?_) (fun e3 => ?_)
  · walk_at "r"
    refine ⟨t, _, rfl, T1, by omega, fun v2 H2 u0 u1 kp2 _ T2 => ?_⟩
    obtain ⟨c, hc, ec⟩ := pickC (z := y) u0 (by omega)
    refine ⟨_, _, _, rfl, rfl, le_size (by omega), ec, ?_⟩
    walk_at "r"
    intro p hp
    exact q p false "" ⟨#[c]⟩ _ (Im.mkcls upd_same) ⟨by decide, Nat.le_of_ble_eq_true rfl, fun _ h => (nomatch h), sg_one (hy.sg c hc)⟩ (kp1.trans (kp2.trans (Kp.new hp))) (T2.new hp)
  walk_at "r"
  refine ite2 (fun e4 => ?_) (fun e4 => ?_)
  · walk_at "r"
    intro p hp
    exact q p false "@" "" _ (Im.mkcls upd_same) ⟨by decide, by decide, sg_at, fun _ h => (nomatch h)⟩ (kp1.trans (Kp.new hp)) (T1.new hp)
  walk_at "r"
  have ez : (("@" : Str) ++ z).cps.toList = 64 :: z.cps.toList := str_cat _ _
  try refine ⟨le_cat (by omega), _, rfl, ?_⟩
  intro dp hdp
  have dpt := T1.ne hdp
  have dpt2 := T1.ne2 hdp
  refine it_any walk_str (fun i H' => ∃ l : List Nat, l.Sublist ((64 :: z.cps.toList).take i) ∧ H' dp = some (.lst ((l.map fun c => (⟨#[c]⟩ : Str)).map V.str)) ∧ Kp t H1 H' ∧ Tape K H' t)
    ⟨[], List.nil_sublist _, upd_same, Kp.new hdp, T1.new hdp⟩ (fun _ _ _ _ => trivial) ?_ ?_
  · rintro i x H2 H3 hi ⟨l, hl, hp2, kp2, T2⟩ ⟨rfl, c, hc, rfl⟩
    have hc' : (64 :: z.cps.toList)[i]? = some c := by rw [← ez, Array.getElem?_toList]; exact hc
    have hll : l.length ≤ 30 := Nat.le_trans (hl.trans (List.take_sublist _ _)).length_le (by rw [List.length_cons]; omega)
    refine ⟨rfl, ?_⟩
    walk_at "r"
    refine ⟨t, _, rfl, T2, by decide, fun v H4 v0 v1 kp4 _ T4 => ?_⟩
    have hp4 := kp4 dp _ dpt hp2
    walk_at "r"
    refine ite2 (fun e => ?_) (fun e => ?_)
    · walk_at "r"
      refine ⟨_, hp4, ?_, l ++ [c], ?_, ?_, ?_, ?_⟩
      · rw [List.length_map, List.length_map]
        exact small1000 (by omega)
      · rw [List.take_add_one, hc']
        exact List.Sublist.append hl (List.Sublist.refl _)
      · rw [upd_same, List.map_append, List.map_append]
        rfl
      · exact fun b o n e2 => by
          rw [upd_ne (ne_of_none e2 hdp)]
          exact (kp2.trans kp4) b o n e2
      · exact T4.put dpt dpt2
    · refine ⟨l, ?_, hp4, kp2.trans kp4, T4⟩
      rw [List.take_add_one]
      exact hl.trans (List.sublist_append_left _ _)
  rintro H2 ⟨l, hl, hp2, kp2, T2⟩
  have l31 : l.length ≤ 4 := Nat.le_trans (hl.trans (List.take_sublist _ _)).length_le (by rw [List.length_cons]; omega)
  refine ⟨_, dp, _, rfl, rfl, .inl (.inl (.inl hp2)), join_fits _ (by omega), ?_⟩
  generalize hhs : Txt.join (Str.ofString "") (l.map fun c => (⟨#[c]⟩ : Str)) = hs
  have hs1 : hs.length ≤ 4 := by rw [← hhs, join_len]; exact l31
  have hs2 : Sg hs := fun c hc => by
    rw [← hhs, join_cl] at hc
    have h := (hl.trans (List.take_sublist _ _)).subset hc
    rcases List.mem_cons.mp h with rfl | h
    · decide
    · exact hz.sg c h
  have dpq := dpt
  clear hhs hl hp2 dpt dpt2 ez
  walk_at "r"
  refine ⟨t, _, rfl, T2, by decide, fun v5 H5 u0 u1 kp5 _ T5 => ?_⟩
  walk_at "r"
  have kp6 := kp1.trans (kp2.trans kp5)
  clear hdp dpq
  clear l31
  clear l
  clear dp
  intro dp hdp
  have dpt := T5.ne hdp
  have dpt2 := T5.ne2 hdp
  refine it_any walk_str (fun i H' => ∃ l : List Nat, l.Sublist ((y.cps.toList).take i) ∧ H' dp = some (.lst ((l.map fun c => (⟨#[c]⟩ : Str)).map V.str)) ∧ Kp t H5 H' ∧ Tape K H' t)
    ⟨[], List.nil_sublist _, upd_same, Kp.new hdp, T5.new hdp⟩ (fun _ _ _ _ => trivial) ?_ ?_
  · rintro i x H7 H3 hi ⟨l, hl, hp7, kp7, T7⟩ ⟨rfl, c, hc, rfl⟩
    have hc' : (y.cps.toList)[i]? = some c := by rw [← (rfl : y.cps.toList = y.cps.toList), Array.getElem?_toList]; exact hc
    have hll : l.length ≤ 30 := Nat.le_trans (hl.trans (List.take_sublist _ _)).length_le (by omega)
    refine ⟨rfl, ?_⟩
    walk_at "r"
    refine ⟨t, _, rfl, T7, by decide, fun v H4 v0 v1 kp4 _ T4 => ?_⟩
    have hp4 := kp4 dp _ dpt hp7
    walk_at "r"
    refine ite2 (fun e => ?_) (fun e => ?_)
    · walk_at "r"
      refine ⟨_, hp4, ?_, l ++ [c], ?_, ?_, ?_, ?_⟩
      · rw [List.length_map, List.length_map]
        exact small1000 (by omega)
      · rw [List.take_add_one, hc']
        exact List.Sublist.append hl (List.Sublist.refl _)
      · rw [upd_same, List.map_append, List.map_append]
        rfl
      · exact fun b o n e2 => by
          rw [upd_ne (ne_of_none e2 hdp)]
          exact (kp7.trans kp4) b o n e2
      · exact T4.put dpt dpt2
    · refine ⟨l, ?_, hp4, kp7.trans kp4, T4⟩
      rw [List.take_add_one]
      exact hl.trans (List.sublist_append_left _ _)
  rintro H7 ⟨l, hl, hp7, kp7, T7⟩
  have l31 : l.length ≤ 4 := Nat.le_trans (hl.trans (List.take_sublist _ _)).length_le (by omega)
  refine ⟨_, dp, _, rfl, rfl, .inl (.inl (.inl hp7)), join_fits _ (by omega), ?_⟩
  walk_at "r"
  intro p hp
  refine q p _ hs _ _ (Im.mkcls upd_same) ⟨by omega, by rw [join_len]; omega, hs2, fun c hc => ?_⟩ (kp6.trans (kp7.trans (Kp.new hp))) (T7.new hp)
  rw [join_cl] at hc
  exact hy.sg c ((hl.trans (List.take_sublist _ _)).subset hc)
abbrev s_lawnode : Stmt := topS 10
abbrev N_lawnode : List Str := ["tape", "letters", "owners", "held"]
theorem sc_lawnode : FnScope N_lawnode ["tape", "letters", "owners"] (defScope s_lawnode) := ⟨rfl, rfl, rfl, by decide +kernel, rfl, by decide +kernel, by decide +kernel⟩

def sp_lawnode (K : PySem.W.Frag) : Sp := fun vs H Q _ => ∃ (t : TA2) (y z : Str), vs = [.ref t.1, .str y, .str z] ∧ Tape K H t ∧ Al y ∧ Al z ∧
  ∀ p b hs ls H', Im H' (.ref p) (clsD b hs ls) → Cl hs ls → Kp t H H' → Tape K H' t → Q (.ref p) H'

set_option maxHeartbeats 1000000 in
theorem ok_lawnode (D : Df K mg "_law_node" s_lawnode ["tape", "letters", "owners"]) (B : Bn mg) (C_lawdraw : Cal P w K mg base 1 "_law_draw" ["tape", "many"] (spDraw K)) (C_lawleaf : Cal P w K mg base 2 "_law_leaf" ["tape", "letters", "owners"] (sp_lawleaf K)) (C_lawrising : Cal P w K mg base 2 "_law_rising" ["tape", "signs", "many"] (sp_lawrising K))  : Cal P w K mg base 3 "_law_node" ["tape", "letters", "owners"] (sp_lawnode K) := by
  refine D.cal sc_lawnode ?_ ?_
  · intro vs H Q E h; obtain ⟨t, y, z, rfl, _⟩ := h; rfl
  intro f cdv A o s H vs Q E hr h
  obtain ⟨t, y, z, rfl, T, hy, hz, q⟩ := h
  have nd := sc_lawnode.nd
  refine ⟨_, (pss_cons (ps_if (pt_cmpR op_gt (pe_cal C_lawdraw (by first | exact hr | exact hr.mono (by decide)) rfl (pa_cons (pv 0) (pa_cons pe_int pa_nil))) pe_int (nomark _))
      (pss_one (ps_ret (pe_cal C_lawleaf (by first | exact hr | exact hr.mono (by decide)) rfl (pa_cons (pv 0) (pa_cons (pv 1) (pa_cons (pv 2) pa_nil))))))
      pss_nil)
    (pss_cons (ps_set (i := 3) nd rfl (Or.inl rfl) (pe_cal C_lawrising (by first | exact hr | exact hr.mono (by decide)) rfl (pa_cons (pv 0) (pa_cons pe_str (pa_cons (pe_cal C_lawdraw (by first | exact hr | exact hr.mono (by decide)) rfl (pa_cons (pv 0) (pa_cons pe_int pa_nil))) pa_nil)))))
    (pss_one (ps_ret (pe_tup (pa_cons pe_str (pa_cons (pe_cmpR op_eq (pe_cal C_lawdraw (by first | exact hr | exact hr.mono (by decide)) rfl (pa_cons (pv 0) (pa_cons pe_int pa_nil))) pe_int (nomark _)) (pa_cons (pv 3) (pa_cons (pe_cal C_lawrising (by first | exact hr | exact hr.mono (by decide)) rfl (pa_cons (pv 0) (pa_cons pe_str (pa_cons (pe_cal C_lawdraw (by first | exact hr | exact hr.mono (by decide)) rfl (pa_cons (pv 0) (pa_cons pe_int pa_nil))) pa_nil)))) pa_nil))))))))), ?_⟩
  walk_at "r"
  refine ⟨t, _, rfl, T, by decide, fun v H1 v0 v1 kp1 _ T1 => ?_⟩
  walk_at "r"
  refine ite2 (fun e => ?_) (fun e => ?_)
  · walk_at "r"
    exact ⟨t, y, z, rfl, T1, hy, hz, fun p b hs ls H2 a1 a2 a3 a4 => q p b hs ls H2 a1 a2 (kp1.trans a3) a4⟩
  walk_at "r"
  refine ⟨t, _, rfl, T1, by decide, fun v2 H2 u0 u1 kp2 _ T2 => ?_⟩
  refine ⟨t, _, v2, rfl, T2, u0, (show v2 ≤ (27 : Int) by omega), (by decide : 27 ≤ 1000), fun x H3 hx xl kp3 T3 => ?_⟩
  rw [atcaps_eq] at hx
  walk_at "r"
  refine ⟨t, _, rfl, T3, by decide, fun v4 H4 w0 w1 kp4 _ T4 => ?_⟩
  walk_at "r"
  refine ⟨t, _, rfl, T4, by decide, fun v5 H5 w5 w6 kp5 _ T5 => ?_⟩
  refine ⟨t, _, v5, rfl, T5, w5, (show v5 ≤ (26 : Int) by omega), (by decide : 26 ≤ 1000), fun x2 H6 hx2 xl2 kp6 T6 => ?_⟩
  rw [lows_eq] at hx2
  walk_at "r"
  intro p hp
  exact q p _ x x2 _ (Im.mkcls upd_same) ⟨by omega, by omega, sg_sub hx atcaps_small, sg_sub hx2 lows_small⟩ (kp1.trans (kp2.trans (kp3.trans (kp4.trans (kp5.trans (kp6.trans (Kp.new hp))))))) (T6.new hp)
abbrev s_lists : Stmt := topS 2
abbrev N_lists : List Str := ["characters", "character"]
theorem sc_lists : FnScope N_lists ["characters", "character"] (defScope s_lists) := ⟨rfl, rfl, rfl, by decide +kernel, rfl, by decide +kernel, by decide +kernel⟩

def sp_lists (K : PySem.W.Frag) : Sp := fun vs H Q _ => ∃ (z : Str) (c : Nat), vs = [.str z, .str ⟨#[c]⟩] ∧ Q (.bl (decide (V.str z = V.str (Str.ofString "")) || decide (c ∈ z.cps.toList))) H

set_option maxHeartbeats 1000000 in
theorem ok_lists (D : Df K mg "_lists" s_lists ["characters", "character"]) (B : Bn mg)   : Cal P w K mg base 1 "_lists" ["characters", "character"] (sp_lists K) := by
  refine D.cal sc_lists ?_ ?_
  · intro vs H Q E h; obtain ⟨z, c, rfl, _⟩ := h; rfl
  intro f cdv A o s H vs Q E hr h
  obtain ⟨z, c, rfl, q⟩ := h
  have nd := sc_lists.nd
  refine ⟨_, (pss_one (ps_ret (pe_or (pe_cmpR op_eq (pv 0) pe_str (nomark _)) (pe_one (pe_cmpR op_in_sign (pv 1) (pv 0) rfl))))), ?_⟩
  walk_at "r"
  refine or_cps (fun _ q => ?_) q
  walk_at "r"
  exact q
abbrev s_belongs : Stmt := topS 1
abbrev N_belongs : List Str := ["symbol", "tree", "_", "negated", "holders", "letters", "listed"]
theorem sc_belongs : FnScope N_belongs ["symbol", "tree"] (defScope s_belongs) := ⟨rfl, rfl, rfl, by decide +kernel, rfl, by decide +kernel, by decide +kernel⟩

def sp_belongs (K : PySem.W.Frag) : Sp := fun vs H Q _ => ∃ (c d : Nat) (v : V) (b : Bool) (hs ls : Str), vs = [.str (sy c d), v] ∧ Im H v (clsD b hs ls) ∧ Q (.bl (bel b hs ls c d)) H

set_option maxHeartbeats 1000000 in
theorem ok_belongs (D : Df K mg "belongs" s_belongs ["symbol", "tree"]) (B : Bn mg) (C_lists : Cal P w K mg base 1 "_lists" ["characters", "character"] (sp_lists K))  : Cal P w K mg base 2 "belongs" ["symbol", "tree"] (sp_belongs K) := by
  refine D.cal sc_belongs ?_ ?_
  · intro vs H Q E h; obtain ⟨c, d, v, b, hs, ls, rfl, _⟩ := h; rfl
  intro f cdv A o s H vs Q E hr h
  obtain ⟨c, d, v, b, hs, ls, rfl, hI, q⟩ := h
  have nd := sc_belongs.nd
  refine ⟨_, (pss_cons (ps_asg (pv 1) (pg_tup rfl (pgs_cons (pg_name (i := 2) nd rfl (Or.inl rfl)) (pgs_cons (pg_name (i := 3) nd rfl (Or.inl rfl)) (pgs_cons (pg_name (i := 4) nd rfl (Or.inl rfl)) (pgs_cons (pg_name (i := 5) nd rfl (Or.inl rfl)) pgs_nil))))))
    (pss_cons (ps_set (i := 6) nd rfl (Or.inl rfl) (pe_and (pe_cal C_lists (by first | exact hr | exact hr.mono (by decide)) rfl (pa_cons (pv 4) (pa_cons (pe_ix ix_str (pv 0) pe_int (fun _ _ => rfl)) pa_nil))) (pe_one (pe_cal C_lists (by first | exact hr | exact hr.mono (by decide)) rfl (pa_cons (pv 5) (pa_cons (pe_ix ix_str (pv 0) pe_int (fun _ _ => rfl)) pa_nil))))))
    (pss_one (ps_ret (pe_cmpR op_ne (pv 6) (pv 3) (nomark _)))))), ?_⟩
  obtain ⟨p, rfl, hp⟩ := hI.cls
  refine ⟨_, rfl, p, _, rfl, .inl (.inl hp), rfl, _, _, rfl, _, _, rfl, _, _, rfl, _, _, rfl, rfl, ?_⟩
  walk_at "r"
  refine ⟨_, _, _, rfl, rfl, le_size0 rfl, atI_nat (j := 0) rfl, ?_⟩
  refine ⟨hs, c, rfl, ?_⟩
  refine ⟨_, rfl, ?_⟩
  unfold bel at q
  refine ite2 (fun e => ?_) (fun e => ?_)
  · walk_at "r"
    refine ⟨_, _, _, rfl, rfl, le_size0 rfl, atI_nat (j := 1) rfl, ?_⟩
    refine ⟨ls, d, rfl, ?_⟩
    walk_at "r"
    rw [e, Bool.true_and] at q
    exact q
  · walk_at "r"
    rw [Bool.eq_false_iff.mpr e, Bool.false_and] at q
    exact q
abbrev s_lawbelongs : Stmt := topS 11
abbrev N_lawbelongs : List Str := ["leaf", "sign", "inside"]
theorem sc_lawbelongs : FnScope N_lawbelongs ["leaf", "sign"] (defScope s_lawbelongs) := ⟨rfl, rfl, rfl, by decide +kernel, rfl, by decide +kernel, by decide +kernel⟩

def sp_lawbelongs (K : PySem.W.Frag) : Sp := fun vs H Q _ => ∃ (c d : Nat) (v : V) (b : Bool) (hs ls : Str), vs = [v, .str (sy c d)] ∧ Im H v (clsD b hs ls) ∧ Q (.bl (bel b hs ls c d)) H

set_option maxHeartbeats 1000000 in
theorem ok_lawbelongs (D : Df K mg "_law_belongs" s_lawbelongs ["leaf", "sign"]) (B : Bn mg)   : Cal P w K mg base 1 "_law_belongs" ["leaf", "sign"] (sp_lawbelongs K) := by
  refine D.cal sc_lawbelongs ?_ ?_
  · intro vs H Q E h; obtain ⟨c, d, v, b, hs, ls, rfl, _⟩ := h; rfl
  intro f cdv A o s H vs Q E hr h
  obtain ⟨c, d, v, b, hs, ls, rfl, hI, q⟩ := h
  have nd := sc_lawbelongs.nd
  refine ⟨_, (pss_cons (ps_set (i := 2) nd rfl (Or.inl rfl) (pe_and (pe_or (pe_cmpR op_eq (pe_ix ix_tup (pv 0) pe_int (fun _ _ => rfl)) pe_str (nomark _)) (pe_one (pe_cmpR op_in_sign (pe_ix ix_str (pv 1) pe_int (fun _ _ => rfl)) (pe_ix ix_tup (pv 0) pe_int (fun _ _ => rfl)) rfl))) (pe_one (pe_or (pe_cmpR op_eq (pe_ix ix_tup (pv 0) pe_int (fun _ _ => rfl)) pe_str (nomark _)) (pe_one (pe_cmpR op_in_sign (pe_ix ix_str (pv 1) pe_int (fun _ _ => rfl)) (pe_ix ix_tup (pv 0) pe_int (fun _ _ => rfl)) rfl))))))
    (pss_one (ps_ret (pe_cmpR op_ne (pv 2) (pe_ix ix_tup (pv 0) pe_int (fun _ _ => rfl)) (nomark _))))), ?_⟩
  obtain ⟨p, rfl, hp⟩ := hI.cls
  unfold bel at q
  walk_at "r"
  refine ite2 (fun e => ?_) (fun e => ?_)
  · rw [e, Bool.true_or, Bool.true_and] at q
    refine ⟨_, rfl, iteT ?_⟩
    walk_at "r"
    refine ite2 (fun e2 => ?_) (fun e2 => ?_)
    · rw [e2, Bool.true_or] at q
      walk_at "r"
      exact q
    · rw [Bool.eq_false_iff.mpr e2, Bool.false_or] at q
      walk_at "r"
      refine ⟨_, _, _, rfl, rfl, le_size0 rfl, atI_nat (j := 1) rfl, ?_⟩
      walk_at "r"
      exact q
  · rw [Bool.eq_false_iff.mpr e, Bool.false_or] at q
    walk_at "r"
    refine ⟨_, _, _, rfl, rfl, le_size0 rfl, atI_nat (j := 0) rfl, ?_⟩
    walk_at "r"
    refine ite2 (fun e3 => ?_) (fun e3 => ?_)
    · rw [e3, Bool.true_and] at q
      walk_at "r"
      refine ite2 (fun e2 => ?_) (fun e2 => ?_)
      · rw [e2, Bool.true_or] at q
        walk_at "r"
        exact q
      · rw [Bool.eq_false_iff.mpr e2, Bool.false_or] at q
        walk_at "r"
        refine ⟨_, _, _, rfl, rfl, le_size0 rfl, atI_nat (j := 1) rfl, ?_⟩
        walk_at "r"
        exact q
    · rw [Bool.eq_false_iff.mpr e3, Bool.false_and] at q
      walk_at "r"
      exact q
abbrev s_law : Stmt := topS 12
abbrev N_law : List Str := ["script", "tape", "letters", "owners", "k", "tree", "held", "signs", "holders", "holder", "letter"]
theorem sc_law : FnScope N_law ["script"] (defScope s_law) := ⟨rfl, rfl, rfl, by decide +kernel, rfl, by decide +kernel, by decide +kernel⟩
set_option maxHeartbeats 1000000 in
theorem ok_law {e : Addr} {ed : FuncData} (F : Fun K "law" "law" s_law e ed) (B : Bn mg) (C_lawtape : Cal P w K mg base 1 "_law_tape" ["script"] (spTape K)) (C_lawletters : Cal P w K mg base 3 "_law_letters" ["tape"] (sp_lawletters K)) (C_lawowners : Cal P w K mg base 3 "_law_owners" ["tape"] (sp_lawowners K)) (C_lawnode : Cal P w K mg base 3 "_law_node" ["tape", "letters", "owners"] (sp_lawnode K)) (C_lawrising : Cal P w K mg base 2 "_law_rising" ["tape", "signs", "many"] (sp_lawrising K)) (C_lawdraw : Cal P w K mg base 1 "_law_draw" ["tape", "many"] (spDraw K)) (C_belongs : Cal P w K mg base 2 "belongs" ["symbol", "tree"] (sp_belongs K)) (C_lawbelongs : Cal P w K mg base 1 "_law_belongs" ["leaf", "sign"] (sp_lawbelongs K))  : FnG P w K mg base CX0 4 e ed ["script"] (spLaw K) := by
  refine okG0 F sc_law ?_ ?_
  · intro vs H Q E h; obtain ⟨a, ns, rfl, _⟩ := h; rfl
  intro f cdv A o s H vs Q E hr gd h
  obtain ⟨a, ns, rfl, hS, hl, q⟩ := h
  have nd := sc_law.nd
  have hrep : A.units + 3 + 64 < cLine := hr.units
  refine ⟨_, (pss_cons (ps_set (i := 1) nd rfl (Or.inl rfl) (pe_cal C_lawtape (by first | exact hr | exact hr.mono (by decide)) rfl (pa_cons (pv 0) pa_nil)))
    (pss_cons (ps_set (i := 2) nd rfl (Or.inl rfl) (pe_cal C_lawletters (by first | exact hr | exact hr.mono (by decide)) rfl (pa_cons (pv 1) pa_nil)))
    (pss_cons (ps_set (i := 3) nd rfl (Or.inl rfl) (pe_cal C_lawowners (by first | exact hr | exact hr.mono (by decide)) rfl (pa_cons (pv 1) pa_nil)))
    (pss_cons (ps_for PassesOwn.never rfl (pi_range1 rfl B.range_ (pa_cons pe_int pa_nil)) (pg_name (i := 4) nd rfl (Or.inl rfl))
      (pss_cons (ps_set (i := 5) nd rfl (Or.inl rfl) (pe_cal C_lawnode (by first | exact hr | exact hr.mono (by decide)) rfl (pa_cons (pv 1) (pa_cons (pv 2) (pa_cons (pv 3) pa_nil)))))
      (C8.pss_cut (ps_if (pt_cmpR op_eq (pv 4) pe_int (nomark _))
        (pss_cons (ps_set (i := 6) nd rfl (Or.inl rfl) (pe_cal C_lawrising (by first | exact hr | exact hr.mono (by decide)) rfl (pa_cons (pv 1) (pa_cons pe_str (pa_cons (pe_cal C_lawdraw (by first | exact hr | exact hr.mono (by decide)) rfl (pa_cons (pv 1) (pa_cons pe_int pa_nil))) pa_nil)))))
        (pss_cons (ps_set (i := 7) nd rfl (Or.inl rfl) (pe_cal C_lawrising (by first | exact hr | exact hr.mono (by decide)) rfl (pa_cons (pv 1) (pa_cons pe_str (pa_cons (pe_cal C_lawdraw (by first | exact hr | exact hr.mono (by decide)) rfl (pa_cons (pv 1) (pa_cons pe_int pa_nil))) pa_nil)))))
        (pss_one (ps_set (i := 5) nd rfl (Or.inl rfl) (pe_tup (pa_cons pe_str (pa_cons (pe_cmpR op_eq (pe_cal C_lawdraw (by first | exact hr | exact hr.mono (by decide)) rfl (pa_cons (pv 1) (pa_cons pe_int pa_nil))) pe_int (nomark _)) (pa_cons (pv 6) (pa_cons (pv 7) pa_nil)))))))))
        pss_nil)
      (pss_cons (ps_set (i := 8) nd rfl (Or.inl rfl) (pe_op op_add_str (pe_op op_add_str (pe_op op_add_str (pe_ix ix_tup (pv 5) pe_int (fun _ _ => rfl)) pe_str) (pv 3)) (pe_ix ix_str pe_str (pe_cal C_lawdraw (by first | exact hr | exact hr.mono (by decide)) rfl (pa_cons (pv 1) (pa_cons pe_int pa_nil))) (fun _ _ => rfl))))
      (pss_cons (ps_set (i := 7) nd rfl (Or.inl rfl) (pe_op op_add_str (pe_op op_add_str (pe_ix ix_tup (pv 5) pe_int (fun _ _ => rfl)) (pv 2)) (pe_ix ix_str pe_str (pe_cal C_lawdraw (by first | exact hr | exact hr.mono (by decide)) rfl (pa_cons (pv 1) (pa_cons pe_int pa_nil))) (fun _ _ => rfl))))
      (pss_one (ps_for PassesOwn.never rfl (pi_str (pv 8)) (pg_name (i := 9) nd rfl (Or.inl rfl))
        (pss_one (ps_for PassesOwn.never rfl (pi_str (pv 7)) (pg_name (i := 10) nd rfl (Or.inl rfl))
          (pss_one (ps_if (pt_cmpR op_ne (pe_callB (call_rep gd hrep) rfl B.repr_ (by decide +kernel) (pa_cons (pe_cal C_belongs (by first | exact hr | exact hr.mono (by decide)) rfl (pa_cons (pe_op op_add_str (pv 9) (pv 10)) (pa_cons (pv 5) pa_nil))) pa_nil)) (pe_callB (call_rep gd hrep) rfl B.repr_ (by decide +kernel) (pa_cons (pe_cal C_lawbelongs (by first | exact hr | exact hr.mono (by decide)) rfl (pa_cons (pv 5) (pa_cons (pe_op op_add_str (pv 9) (pv 10)) pa_nil))) pa_nil)) (nomark _))
            (pss_one (ps_ret pe_bl))
            pss_nil)))))))))))
    (pss_one (ps_ret pe_bl)))))), ?_⟩
  refine ⟨_, rfl, a, ns, rfl, hS, hl, fun t H1 _ _ T1 => ?_⟩
  refine ⟨_, rfl, t, rfl, T1, fun y H2 hy y1 y3 kp2 T2 => ?_⟩
  refine ⟨_, rfl, t, rfl, T2, fun z H3 hz z1 z3 kp3 T3 => ?_⟩
  have ay := al_lows hy y1 y3
  have az := al_caps hz z1 z3
  refine ⟨_, rfl, by decide, by decide, ?_⟩
  refine for_it walk_range (fun i σ H' => ∃ (x1 x2 x3 x4 x5 x6 x7 : Option V), σ = [some (.ref a), some (.ref t.1), some (.str y), some (.str z), x1, x2, x3, x4, x5, x6, x7] ∧
    Tape K H' t) ⟨_, _, _, _, _, _, _, rfl, T3⟩ (fun _ _ _ _ _ => trivial) ?_ ?_
  · rintro i x σ H4 H5 hi ⟨x1, x2, x3, x4, x5, x6, x7, rfl, T5⟩ ⟨rfl, rfl⟩
    walk_at "r"
    refine ⟨t, y, z, rfl, T5, ay, az, fun p b hs ls H6 hI hC kp6 T6 => ?_⟩
    refine ⟨fun σ H' => ∃ (v : V) (b : Bool) (hs ls : Str) (x3 x4 x5 x6 x7 : Option V), σ = [some (.ref a), some (.ref t.1), some (.str y), some (.str z), some (.int (0 + (i : Int))), some v, x3, x4, x5, x6, x7] ∧
      Tape K H' t ∧ Im H' v (clsD b hs ls) ∧ Cl hs ls, ?_, ?_⟩
    · walk_at "r"
      refine ite2 (fun e => ?_) (fun e => ?_)
      · walk_at "r"
        refine ⟨t, _, rfl, T6, by decide, fun v2 H7 u0 u1 kp7 _ T7 => ?_⟩
        refine ⟨t, _, v2, rfl, T7, u0, (show v2 ≤ (27 : Int) by omega), (by decide : 27 ≤ 1000), fun w H8 hw wl kp8 T8 => ?_⟩
        rw [atcaps_eq] at hw
        walk_at "r"
        refine ⟨t, _, rfl, T8, by decide, fun v5 H9 w5 w6 kp9 _ T9 => ?_⟩
        refine ⟨t, _, v5, rfl, T9, w5, (show v5 ≤ (26 : Int) by omega), (by decide : 26 ≤ 1000), fun w2 H10 hw2 wl2 kp10 T10 => ?_⟩
        rw [lows_eq] at hw2
        walk_at "r"
        refine ⟨t, _, rfl, T10, by decide, fun v6 H11 _ _ kp11 _ T11 => ?_⟩
        walk_at "r"
        intro p2 hp2
        exact ⟨_, _, _, _, _, _, _, _, _, rfl, T11.new hp2, Im.mkcls upd_same, ⟨by omega, by omega, sg_sub hw atcaps_small, sg_sub hw2 lows_small⟩⟩
      · exact ⟨_, _, _, _, _, _, _, _, _, rfl, T6, hI, hC⟩
    · rintro σ H7 ⟨v, b, hs, ls, x3, x4, x5, x6, x7, rfl, T7, hI, hC⟩
      obtain ⟨p, rfl, hp⟩ := hI.cls
      have c1 := hC.h1
      have c2 := hC.h2
      walk_at "r"
      refine ⟨le_size (by show hs.length + 1 ≤ 1000; omega), ?_⟩
      walk_at "r"
      refine ⟨le_size (by rw [strLen_append]; show hs.length + 1 + z.length ≤ 1000; omega), ?_⟩
      walk_at "r"
      refine ⟨t, _, rfl, T7, by decide, fun v3 H8 u0 u1 kp8 _ T8 => ?_⟩
      obtain ⟨c3, hc3, ec3⟩ := pickC (z := "ABCDEFGHIJKLMNOPQRSTUVWXYZ") (v := v3) u0 (by show v3 < 26; omega)
      refine ⟨_, _, _, rfl, rfl, le_size0 rfl, ec3, ?_⟩
      walk_at "r"
      refine ⟨le_size (by rw [strLen_append, strLen_append]; show hs.length + 1 + z.length + 1 ≤ 1000; omega), ?_⟩
      have hI8 := hI.kt (kp8.kt T7)
      obtain ⟨_, hpe, hp8⟩ := hI8.cls
      cases hpe
      walk_at "r"
      refine ⟨t, _, rfl, T8, by decide, fun v4 H9 u2 u3 kp9 _ T9 => ?_⟩
      obtain ⟨c4, hc4, ec4⟩ := pickC (z := "abcdefghijklmnopqrstuvwxyz") (v := v4) u2 (by show v4 < 26; omega)
      refine ⟨_, _, _, rfl, rfl, le_size0 rfl, ec4, ?_⟩
      walk_at "r"
      refine ⟨le_size (by rw [strLen_append]; show ls.length + y.length + 1 ≤ 1000; omega), ?_⟩
      have hI9 := hI8.kt (kp9.kt T8)
      walk_at "r"
      generalize (hs ++ Str.ofString "@" ++ z ++ ({ cps := #[c3] } : Str)) = hh
      generalize (ls ++ y ++ ({ cps := #[c4] } : Str)) = ll
      refine for_it walk_str (fun i' σ H' => ∃ (w1 w2 : Option V), σ = [some (.ref a), some (.ref t.1), some (.str y), some (.str z), some (.int (0 + (i : Int))), some (.ref p), x3, some (.str ll), some (.str hh), w1, w2] ∧
        Tape K H' t ∧ Im H' (.ref p) (clsD b hs ls)) ⟨_, _, rfl, T9, hI9⟩ (fun _ _ _ _ _ => trivial) ?_ ?_
      · rintro i1 x σ H10 H11 hi1 ⟨w1, w2, rfl, T10, hI10⟩ ⟨rfl, c, hc, rfl⟩
        refine ⟨_, rfl, _, rfl, ?_⟩
        refine for_it walk_str (fun i' σ H' => ∃ (w2 : Option V), σ = [some (.ref a), some (.ref t.1), some (.str y), some (.str z), some (.int (0 + (i : Int))), some (.ref p), x3, some (.str ll), some (.str hh), some (.str ⟨#[c]⟩), w2] ∧
          Tape K H' t ∧ Im H' (.ref p) (clsD b hs ls)) ⟨_, rfl, T10, hI10⟩ (fun _ _ _ _ _ => trivial) ?_ ?_
        · rintro i2 x σ H12 H13 hi2 ⟨w2, rfl, T12, hI12⟩ ⟨rfl, d, hd, rfl⟩
          walk_at "r"
          refine ⟨c, d, _, b, hs, ls, rfl, hI12, ?_⟩
          obtain ⟨g1, g2, g3, g4, g5⟩ := rep_bl K H13 (bel b hs ls c d)
          refine ⟨_, _, rfl, g1, g2, g3, g4, g5, ?_⟩
          walk_at "r"
          refine ⟨c, d, _, b, hs, ls, rfl, hI12, ?_⟩
          refine ⟨_, _, rfl, g1, g2, g3, g4, g5, ?_⟩
          refine ⟨rfl, _, rfl, iteNS rfl ?_⟩
          exact ⟨_, rfl, T12, hI12⟩
        · rintro σ H12 ⟨w2, rfl, T12, hI12⟩
          exact ⟨_, _, rfl, T12, hI12⟩
      · rintro σ H10 ⟨w1, w2, rfl, T10, hI10⟩
        exact ⟨_, _, _, _, _, _, _, rfl, T10⟩
  · rintro σ H4 ⟨x1, x2, x3, x4, x5, x6, x7, rfl, T5⟩
    exact q H4
end
theorem all_mk {l : PySem.W.OpenLaw} {w : World} {K : PySem.W.Frag} {h : Heap} {mg : Str → Option Value} {fa : Addr} (X : K.In h) (G : h.Ns mainGlobals mg) (hfa : mg "law" = some (.ref fa))
    {f1 : Addr} {od1 an1 : Option Addr} {sl1 : Array (Option Value)} {oc1 kV1 dc1 pm1 cd1 ct1 : Value}
    (a1 : PySem.W.nsIn K mainGlobals "_law_tape" = some (some (.ref f1)))
    (l1 : K.lookup f1 = some ⟨oc1, od1, .func (PySem.W.fnOf "_law_tape" "_law_tape" (defArgs s_lawtape) (defBody s_lawtape) (defScope s_lawtape) .none kV1 dc1 pm1 an1 cd1 ct1), sl1⟩)
    (c1 : PySem.W.codeIn K cd1 "_law_tape" = true) (k1 : PySem.W.keepIn K (.ref f1) = true)
    {f2 : Addr} {od2 an2 : Option Addr} {sl2 : Array (Option Value)} {oc2 kV2 dc2 pm2 cd2 ct2 : Value}
    (a2 : PySem.W.nsIn K mainGlobals "_law_draw" = some (some (.ref f2)))
    (l2 : K.lookup f2 = some ⟨oc2, od2, .func (PySem.W.fnOf "_law_draw" "_law_draw" (defArgs s_lawdraw) (defBody s_lawdraw) (defScope s_lawdraw) .none kV2 dc2 pm2 an2 cd2 ct2), sl2⟩)
    (c2 : PySem.W.codeIn K cd2 "_law_draw" = true) (k2 : PySem.W.keepIn K (.ref f2) = true)
    {f3 : Addr} {od3 an3 : Option Addr} {sl3 : Array (Option Value)} {oc3 kV3 dc3 pm3 cd3 ct3 : Value}
    (a3 : PySem.W.nsIn K mainGlobals "_law_rising" = some (some (.ref f3)))
    (l3 : K.lookup f3 = some ⟨oc3, od3, .func (PySem.W.fnOf "_law_rising" "_law_rising" (defArgs s_lawrising) (defBody s_lawrising) (defScope s_lawrising) .none kV3 dc3 pm3 an3 cd3 ct3), sl3⟩)
    (c3 : PySem.W.codeIn K cd3 "_law_rising" = true) (k3 : PySem.W.keepIn K (.ref f3) = true)
    {f4 : Addr} {od4 an4 : Option Addr} {sl4 : Array (Option Value)} {oc4 kV4 dc4 pm4 cd4 ct4 : Value}
    (a4 : PySem.W.nsIn K mainGlobals "_law_letters" = some (some (.ref f4)))
    (l4 : K.lookup f4 = some ⟨oc4, od4, .func (PySem.W.fnOf "_law_letters" "_law_letters" (defArgs s_lawletters) (defBody s_lawletters) (defScope s_lawletters) .none kV4 dc4 pm4 an4 cd4 ct4), sl4⟩)
    (c4 : PySem.W.codeIn K cd4 "_law_letters" = true) (k4 : PySem.W.keepIn K (.ref f4) = true)
    {f5 : Addr} {od5 an5 : Option Addr} {sl5 : Array (Option Value)} {oc5 kV5 dc5 pm5 cd5 ct5 : Value}
    (a5 : PySem.W.nsIn K mainGlobals "_law_owners" = some (some (.ref f5)))
    (l5 : K.lookup f5 = some ⟨oc5, od5, .func (PySem.W.fnOf "_law_owners" "_law_owners" (defArgs s_lawowners) (defBody s_lawowners) (defScope s_lawowners) .none kV5 dc5 pm5 an5 cd5 ct5), sl5⟩)
    (c5 : PySem.W.codeIn K cd5 "_law_owners" = true) (k5 : PySem.W.keepIn K (.ref f5) = true)
    {f6 : Addr} {od6 an6 : Option Addr} {sl6 : Array (Option Value)} {oc6 kV6 dc6 pm6 cd6 ct6 : Value}
    (a6 : PySem.W.nsIn K mainGlobals "_law_leaf" = some (some (.ref f6)))
    (l6 : K.lookup f6 = some ⟨oc6, od6, .func (PySem.W.fnOf "_law_leaf" "_law_leaf" (defArgs s_lawleaf) (defBody s_lawleaf) (defScope s_lawleaf) .none kV6 dc6 pm6 an6 cd6 ct6), sl6⟩)
    (c6 : PySem.W.codeIn K cd6 "_law_leaf" = true) (k6 : PySem.W.keepIn K (.ref f6) = true)
    {f7 : Addr} {od7 an7 : Option Addr} {sl7 : Array (Option Value)} {oc7 kV7 dc7 pm7 cd7 ct7 : Value}
    (a7 : PySem.W.nsIn K mainGlobals "_law_node" = some (some (.ref f7)))
    (l7 : K.lookup f7 = some ⟨oc7, od7, .func (PySem.W.fnOf "_law_node" "_law_node" (defArgs s_lawnode) (defBody s_lawnode) (defScope s_lawnode) .none kV7 dc7 pm7 an7 cd7 ct7), sl7⟩)
    (c7 : PySem.W.codeIn K cd7 "_law_node" = true) (k7 : PySem.W.keepIn K (.ref f7) = true)
    {f8 : Addr} {od8 an8 : Option Addr} {sl8 : Array (Option Value)} {oc8 kV8 dc8 pm8 cd8 ct8 : Value}
    (a8 : PySem.W.nsIn K mainGlobals "_lists" = some (some (.ref f8)))
    (l8 : K.lookup f8 = some ⟨oc8, od8, .func (PySem.W.fnOf "_lists" "_lists" (defArgs s_lists) (defBody s_lists) (defScope s_lists) .none kV8 dc8 pm8 an8 cd8 ct8), sl8⟩)
    (c8 : PySem.W.codeIn K cd8 "_lists" = true) (k8 : PySem.W.keepIn K (.ref f8) = true)
    {f9 : Addr} {od9 an9 : Option Addr} {sl9 : Array (Option Value)} {oc9 kV9 dc9 pm9 cd9 ct9 : Value}
    (a9 : PySem.W.nsIn K mainGlobals "belongs" = some (some (.ref f9)))
    (l9 : K.lookup f9 = some ⟨oc9, od9, .func (PySem.W.fnOf "belongs" "belongs" (defArgs s_belongs) (defBody s_belongs) (defScope s_belongs) .none kV9 dc9 pm9 an9 cd9 ct9), sl9⟩)
    (c9 : PySem.W.codeIn K cd9 "belongs" = true) (k9 : PySem.W.keepIn K (.ref f9) = true)
    {f10 : Addr} {od10 an10 : Option Addr} {sl10 : Array (Option Value)} {oc10 kV10 dc10 pm10 cd10 ct10 : Value}
    (a10 : PySem.W.nsIn K mainGlobals "_law_belongs" = some (some (.ref f10)))
    (l10 : K.lookup f10 = some ⟨oc10, od10, .func (PySem.W.fnOf "_law_belongs" "_law_belongs" (defArgs s_lawbelongs) (defBody s_lawbelongs) (defScope s_lawbelongs) .none kV10 dc10 pm10 an10 cd10 ct10), sl10⟩)
    (c10 : PySem.W.codeIn K cd10 "_law_belongs" = true) (k10 : PySem.W.keepIn K (.ref f10) = true)
    {f11 : Addr} {od11 an11 : Option Addr} {sl11 : Array (Option Value)} {oc11 kV11 dc11 pm11 cd11 ct11 : Value}
    (a11 : PySem.W.nsIn K mainGlobals "law" = some (some (.ref f11)))
    (l11 : K.lookup f11 = some ⟨oc11, od11, .func (PySem.W.fnOf "law" "law" (defArgs s_law) (defBody s_law) (defScope s_law) .none kV11 dc11 pm11 an11 cd11 ct11), sl11⟩)
    (c11 : PySem.W.codeIn K cd11 "law" = true) (k11 : PySem.W.keepIn K (.ref f11) = true)
    (z_len : PySem.W.nsIn K mainGlobals "len" = some none)
    (z_max : PySem.W.nsIn K mainGlobals "max" = some none)
    (z_abs : PySem.W.nsIn K mainGlobals "abs" = some none)
    (z_int : PySem.W.nsIn K mainGlobals "int" = some none)
    (z_list : PySem.W.nsIn K mainGlobals "list" = some none)
    (z_range : PySem.W.nsIn K mainGlobals "range" = some none)
    (z_repr : PySem.W.nsIn K mainGlobals "repr" = some none)
    : ∃ fd : FuncData, (∀ (s : Shared) (v : Value), BindsTo s fd ⟨[v], []⟩ [("script", v)]) ∧ ∀ base : Heap, K.In base → base.Ns mainGlobals mg → FnG l.prog w K mg base CX0 4 fa fd ["script"] (spLaw K) := by
  have e := hfa.symm.trans (PySem.W.mg_of X G a11)
  cases e
  have B : Bn mg := ⟨PySem.W.mg_none_of X G z_len, PySem.W.mg_none_of X G z_max, PySem.W.mg_none_of X G z_abs, PySem.W.mg_none_of X G z_int, PySem.W.mg_none_of X G z_list, PySem.W.mg_none_of X G z_range, PySem.W.mg_none_of X G z_repr⟩
  have D1 : Df K mg "_law_tape" s_lawtape ["script"] := df_mk X G a1 l1 c1 k1 fun _ _ _ _ _ _ us hl => match us, hl with | [_], _ => rfl
  have D2 : Df K mg "_law_draw" s_lawdraw ["tape", "many"] := df_mk X G a2 l2 c2 k2 fun _ _ _ _ _ _ us hl => match us, hl with | [_, _], _ => rfl
  have D3 : Df K mg "_law_rising" s_lawrising ["tape", "signs", "many"] := df_mk X G a3 l3 c3 k3 fun _ _ _ _ _ _ us hl => match us, hl with | [_, _, _], _ => rfl
  have D4 : Df K mg "_law_letters" s_lawletters ["tape"] := df_mk X G a4 l4 c4 k4 fun _ _ _ _ _ _ us hl => match us, hl with | [_], _ => rfl
  have D5 : Df K mg "_law_owners" s_lawowners ["tape"] := df_mk X G a5 l5 c5 k5 fun _ _ _ _ _ _ us hl => match us, hl with | [_], _ => rfl
  have D6 : Df K mg "_law_leaf" s_lawleaf ["tape", "letters", "owners"] := df_mk X G a6 l6 c6 k6 fun _ _ _ _ _ _ us hl => match us, hl with | [_, _, _], _ => rfl
  have D7 : Df K mg "_law_node" s_lawnode ["tape", "letters", "owners"] := df_mk X G a7 l7 c7 k7 fun _ _ _ _ _ _ us hl => match us, hl with | [_, _, _], _ => rfl
  have D8 : Df K mg "_lists" s_lists ["characters", "character"] := df_mk X G a8 l8 c8 k8 fun _ _ _ _ _ _ us hl => match us, hl with | [_, _], _ => rfl
  have D9 : Df K mg "belongs" s_belongs ["symbol", "tree"] := df_mk X G a9 l9 c9 k9 fun _ _ _ _ _ _ us hl => match us, hl with | [_, _], _ => rfl
  have D10 : Df K mg "_law_belongs" s_lawbelongs ["leaf", "sign"] := df_mk X G a10 l10 c10 k10 fun _ _ _ _ _ _ us hl => match us, hl with | [_, _], _ => rfl
  refine ⟨PySem.W.fnOf "law" "law" (defArgs s_law) (defBody s_law) (defScope s_law) .none kV11 dc11 pm11 an11 cd11 ct11, fun s v => .of_eq rfl, fun base _ _ => ?_⟩
  have K1 := ok_lawtape (P := l.prog) (w := w) (base := base) D1 B  
  have K2 := ok_lawdraw (P := l.prog) (w := w) (base := base) D2 B  
  have K3 := ok_lawrising (P := l.prog) (w := w) (base := base) D3 B K2 
  have K4 := ok_lawletters (P := l.prog) (w := w) (base := base) D4 B K3 K2 
  have K5 := ok_lawowners (P := l.prog) (w := w) (base := base) D5 B K3 K2 
  have K6 := ok_lawleaf (P := l.prog) (w := w) (base := base) D6 B K2 
  have K7 := ok_lawnode (P := l.prog) (w := w) (base := base) D7 B K2 K6 K3 
  have K8 := ok_lists (P := l.prog) (w := w) (base := base) D8 B  
  have K9 := ok_belongs (P := l.prog) (w := w) (base := base) D9 B K8 
  have K10 := ok_lawbelongs (P := l.prog) (w := w) (base := base) D10 B  
  exact ok_law (P := l.prog) (w := w) (base := base) (fun_mk l11 c11 k11) B K1 K4 K5 K7 K3 K2 K9 K10 
end My
open PySem PySem.W PyProof.Rows
set_option maxRecDepth 100000 in
set_option maxHeartbeats 0 in
theorem PySem.Challenge.cw_excerptcheck_k05_symbols_of_a_class_holds : PySem.Challenge.rw_excerptcheck_k05_symbols_of_a_class.Holds := by
  w_on; o_law; k_head; (case hw => w_witness2)
  k_fill
  refine My.walkG (l := PySem.Challenge.rw_excerptcheck_k05_symbols_of_a_class) (n := 63) (k := 4) (x := "script") (sp := My.spLaw) rfl (by decide) rfl ⟨rfl, by decide, by decide⟩ (fun w h Y => PySem.W.kIn_of Y) ?F (fun K H a ns hl hS => ⟨a, ns, rfl, hS, hl, fun _ => rfl⟩)
  case F =>
    intro w mg fa h KX G hmg
    refine' My.all_mk KX G hmg ?a1 ?l1 ?c1 ?k1 ?a2 ?l2 ?c2 ?k2 ?a3 ?l3 ?c3 ?k3 ?a4 ?l4 ?c4 ?k4 ?a5 ?l5 ?c5 ?k5 ?a6 ?l6 ?c6 ?k6 ?a7 ?l7 ?c7 ?k7 ?a8 ?l8 ?c8 ?k8 ?a9 ?l9 ?c9 ?k9 ?a10 ?l10 ?c10 ?k10 ?a11 ?l11 ?c11 ?k11 ?z_len ?z_max ?z_abs ?z_int ?z_list ?z_range ?z_repr
    (case a1 => k_is); (case l1 => k_is); (case c1 => k_is); (case k1 => k_is); (case a2 => k_is); (case l2 => k_is); (case c2 => k_is); (case k2 => k_is); (case a3 => k_is); (case l3 => k_is); (case c3 => k_is); (case k3 => k_is); (case a4 => k_is); (case l4 => k_is); (case c4 => k_is); (case k4 => k_is); (case a5 => k_is); (case l5 => k_is); (case c5 => k_is); (case k5 => k_is); (case a6 => k_is); (case l6 => k_is); (case c6 => k_is); (case k6 => k_is); (case a7 => k_is); (case l7 => k_is); (case c7 => k_is); (case k7 => k_is); (case a8 => k_is); (case l8 => k_is); (case c8 => k_is); (case k8 => k_is); (case a9 => k_is); (case l9 => k_is); (case c9 => k_is); (case k9 => k_is); (case a10 => k_is); (case l10 => k_is); (case c10 => k_is); (case k10 => k_is); (case a11 => k_is); (case l11 => k_is); (case c11 => k_is); (case k11 => k_is); (case z_len => k_is); (case z_max => k_is); (case z_abs => k_is); (case z_int => k_is); (case z_list => k_is); (case z_range => k_is); (case z_repr => k_is)
