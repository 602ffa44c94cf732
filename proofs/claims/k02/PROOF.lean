import PyProof.Rows.All
import Wide.All
import OpenK.AllK
import Wide.FinOn
import HandS.Base
import HandS.Call
import HandS.List
import HandS.Comp
import HandS.Text
import HandS.Words
import HandS.Ends
import PyProof.ReprRoads
import HandS.ForMost
import HandS.Walk
import HandS.Conv
import HandS.Codes
import HandS.Strs
import KE.GoesEnum
import HandS.TupMul
import HandS.TupAny
import PySem.Challenge.RW_excerptcheck_k02_texts_of_sequences
set_option Elab.async false
set_option linter.all false
set_option maxRecDepth 100000
namespace My
open PySem PySem.Spec PyProof.Rows L2

/-- as the layer's promise, where besides no repr is under way -/
structure FnG (P : Program) (w : World) (K : PySem.W.Frag) (mg : Str → Option Value) (base : Heap) (X : CXT)
    (k : Nat) (f : Addr) (fd : FuncData) (ps : List Str) (sp : Sp) : Prop where
  ln : ∀ vs H Q E, sp vs H Q E → vs.length = ps.length
  go : ∀ (A : Around) (outer : List Env) (s : Shared) (H : Hp) (args : Args) (us : List Value) (vs : List V) (Q : VK) (E : XK),
    Room k A → A.guards = some [] → Env0 P w K mg base A outer s H → BindsTo s fd args (ps.zip us) → Vals vs us →
    sp vs H Q E → codeAny (model P w) A (.call (.ref f) args) (CR X outer P w H s Q E) s

theorem FnG.of {P : Program} {w : World} {K : PySem.W.Frag} {mg : Str → Option Value} {base : Heap} {X : CXT}
    {k : Nat} {f : Addr} {fd : FuncData} {ps : List Str} {sp : Sp} (F : FnOk P w K mg base X k f fd ps sp) :
    FnG P w K mg base X k f fd ps sp :=
  ⟨F.len, fun A o s H ar us vs Q E h1 _ h2 h3 h4 h5 => F.run A o s H ar us vs Q E h1 h2 h3 h4 h5⟩

theorem deeper_guards {A : Around} {e : Env} (h : A.guards = some []) : (A.deeper e).guards = some [] := h

theorem okG {P : Program} {w : World} {K : PySem.W.Frag} {mg : Str → Option Value} {base : Heap} {CX : CXT}
    {x qual : Str} {st : Stmt} {f : Addr} {fd : FuncData} {N ps : List Str} {k : Nat} {sp : Sp}
    (F : Fun K x qual st f fd) (S : FnScope N ps (defScope st))
    (ln : ∀ vs H Q E, sp vs H Q E → vs.length = ps.length)
    (hbd : ∀ (cdv : Value) (A : Around) (o : List Env) (s : Shared) (H : Hp) (vs : List V) (Q : VK) (E : XK),
      Room k (A.deeper (envOfC qual (defScope st) s.heap.objs.size f cdv)) → A.guards = some [] → sp vs H Q E →
      ∃ t, PSs (cxOf CX P w K mg base N qual (defScope st) f cdv A o s H E) (defBody st) t ∧
        t { nx := fun _ h => Q .non h, rt := Q } (start N vs) H) :
    FnG P w K mg base CX (k + 1) f fd ps sp := by
  obtain ⟨oc, od, kV, doc, pm, an, cdv, ct, osl, rfl, lk, hcd⟩ := F.ex
  refine ⟨ln, fun A o s H ar us vs Q E hr hgd e0 hb r hs => ?_⟩
  have hl := ln _ _ _ _ hs
  have KX : K.In s.heap := e0.mod.kin.keeps fun b ob e => (e0.bs b ob e).1
  have lim : s.heap.NoLimit := e0.mod.nolimit.keeps fun b ob e => (e0.bs b ob e).1
  have hkd : ∀ y ∈ ps.zip us, (defScope st).names.lookup y.1 = some .local ∨
      ((defScope st).names.lookup y.1 = some .cell ∧
        ((cellsFrom (s.heap.objs.size + 1) (defScope st).names []).lookup y.1).isSome = true) := by
    rintro ⟨n, v⟩ hy
    have hp := S.par n (List.of_mem_zip hy).1
    rcases hp with q | q
    · left; exact q
    · right; exact ⟨q, PySem.W.cellsFrom_some _ _ _ (.inl q)⟩
  refine codeAny_call_function hr.depth (KX _ _ lk) rfl S.co S.gen rfl
    (PySem.W.codeRec_of KX hcd) (hb _ _ _ _ ?_)
  refine wpAny_newFunctionEnv_cells S.kind hkd
    fun env he s1 x => ?_
  subst he
  refine ⟨lim.keeps x.toInCall.keep, codeAny_func ?_⟩
  obtain ⟨t, ht, hq⟩ := hbd cdv A o s H vs Q E (hr.deeper _) hgd hs
  have I := inv_start (CX := CX) (E := E) S hr.hd e0 hl r x
  refine wpAny_mono (ht.run [] s1 (start N vs) H _ I hq)
    (fun fl s2 h2 => ?_) fun e s2 h2 => h2
  cases fl with
  | ret u =>
    obtain ⟨v, σ2, H2, J, rv, q⟩ := h2
    exact ⟨v, H2, J.os, J.bare, J.base, J.hok, rv, q⟩
  | next =>
    obtain ⟨σ2, H2, J, q⟩ := h2
    exact ⟨.non, H2, J.os, J.bare, J.base, J.hok, rfl, q⟩
  | brk =>
    obtain ⟨_, _, _, q⟩ := h2
    exact q.elim
  | cont =>
    obtain ⟨_, _, _, q⟩ := h2
    exact q.elim

section
variable {X : Cx} {CX : CXT} {k : Nat} {f : Addr} {fd : FuncData} {ps : List Str} {sp : Sp} {dvs : List V} {ds : List Value}
  {E : XK} {x : Str} {p pos : Pos} {e : Expr} {es : List Expr} {t : TA}
/-- the call of such a def -/
theorem pe_callG (gd : X.A.guards = some []) (F : FnG X.prog X.w X.K X.mg X.base CX k f fd ps sp) (hr : Room k X.A) (hg : Gl X x)
    (hm : X.mg x = some (.ref f)) (hk : PySem.W.keepIn X.K (.ref f) = true) (hb : Binds X.K fd ps ds) (hd : Vals dvs ds)
    (hx : Passes CX X E) (ha : PA X (e :: es) t) (hdb : (x == ("__debug__" : Str)) = false := by decide)
    (he : starEach (e :: es) X.env = (false, eval e X.env) :: starEach es X.env := by rfl)
    (hpl : (backTo pos (starEach es X.env)).any (·.1) = false := by rfl) :
    PE X (.Call (.Name x p) (e :: es) [] pos) (tCall sp dvs E t) := by
  constructor
  intro pins s σ H Q I h
  refine wpAny_Call_Name_kw (ld_glob I hg hm ?_ hdb)
  refine PySem.W.callWith_K (h₀ := X.base) I.ok.mod.kin hk
    (thn (ha.run pos pins s σ H _ I h) ?_) he hpl
  rintro us s1 ⟨vs, H1, I1, r, q⟩
  refine ⟨I1.kIn, ?_⟩
  have r2 : Vals (vs ++ dvs) (us ++ ds) := r.append hd
  have hl : (us ++ ds).length = ps.length := by
    rw [← r2.length]
    exact F.ln _ _ _ _ q
  refine wpAny_call (codeAny_mono (F.go X.A X.stack s1 H1 ⟨us, []⟩ (us ++ ds) (vs ++ dvs) Q E hr gd
    I1.env0 (hb s1 us I1.kIn hl) r2 q) fun rr s2 hq => ?_)
  cases rr with
  | error e => exact hx pins σ H1 s1 e s2 I1 hq
  | ok fl =>
    cases fl with
    | ret u => exact I1.after hq
    | next => exact False.elim hq
    | brk => exact False.elim hq
    | cont => exact False.elim hq

/-- repr of data -/
def rRep (K : PySem.W.Frag) : List V → Hp → VK → Prop := fun xs H Q => ∃ x d, xs = [x] ∧ Dp K H x d ∧ d.showable = true ∧
  d.hasDict = false ∧ d.depth ≤ 40 ∧ d.shown.length ≤ sizeLine ∧ Q (.str d.shown) H
theorem call_rep (gd : X.A.guards = some []) (hu : X.A.units + 64 < cLine) : CallR X (.builtin "repr") (rRep X.K) := by
  intro pins s σ H xs us Q I r h
  obtain ⟨x, d, rfl, hd, hs, hn, hp, hz, q⟩ := h
  obtain ⟨u, rfl, ru⟩ := vals1 r
  cases hd with
  | non =>
    cases ru
    exact PySem.P.repr_of_none ⟨.str _, H, I.tok _, ⟨_, rfl⟩, by simpa [PyData.shown_none] using q⟩
  | bl b =>
    cases ru
    exact PySem.P.repr_of_bool ⟨.str _, H, I.tok _, ⟨_, rfl⟩, by simpa [PyData.shown_bool] using q⟩
  | int i =>
    obtain ⟨t, rfl⟩ := ru
    have hi : i.natAbs.log2 < 1920 := by simpa [PyData.showable] using hs
    exact PySem.P.repr_of_int hi ⟨.str _, H, I.tok _, ⟨_, rfl⟩, by simpa [PyData.shown_int] using q⟩
  | str z =>
    obtain ⟨t, rfl⟩ := ru
    rw [PyData.shown_str] at hz q
    exact PySem.P.repr_of_str (hsz := hz) ⟨.str _, H, I.tok _, ⟨_, rfl⟩, q⟩
  | lst hS hA =>
    obtain ⟨as, rd⟩ := Dp.reads I _ _ _ (Dp.lst hS hA) ru
    cases ru
    exact repr_of_reads' rd hs (PyData.noDict_hsm hn) gd (by omega) (fun _ _ z => z)
      (fun h' u tk hk => ⟨.str _, H, I.kept hk, ⟨_, rfl⟩, q⟩) hz
  | tup hS hA =>
    obtain ⟨as, rd⟩ := Dp.reads I _ _ _ (Dp.tup hS hA) ru
    cases ru
    exact repr_of_reads' rd hs (PyData.noDict_hsm hn) gd (by omega) (fun _ _ z => z)
      (fun h' u tk hk => ⟨.str _, H, I.kept hk, ⟨_, rfl⟩, q⟩) hz
end
end My
namespace My
open PySem PySem.Spec PyProof.Rows L2

theorem callG {P : Program} {w : World} {K : PySem.W.Frag} {mg mb : Str → Option Value} {k : Nat} {fa a : Addr}
    {fd : FuncData} {x : Str} {sp : Sp} {s1 : Shared} {vs : List Value} {ns : List Int}
    (KX : K.In s1.heap) (hns : s1.heap.Ns mainGlobals mg) (hb : s1.heap.Ns builtinsNs mb)
    (hbb : ∀ y : Str, y ≠ "__name__" → mb y = bootBuiltins y) (hlim : s1.heap.NoLimit) (hg : s1.gens = #[])
    (ha : s1.heap.get? a = some { cls := .type "list", data := .seq vs.toArray }) (hi : IntsAre vs ns)
    (hl : ns.length ≤ sizeLine) (hr : Room k callerA)
    (F : ∀ base : Heap, K.In base → base.Ns mainGlobals mg → FnG P w K mg base CX0 k fa fd [x] sp)
    (hbind : ∀ (s : Shared) (u : Value), BindsTo s fd ⟨[u], []⟩ [(x, u)])
    (hsp : ∀ H : Hp, SqL K H a (ns.map V.int) → sp [.ref a] H (fun v _ => v = .bl true) fun _ _ _ => False) :
    codeAny (model P w) callerA (.call (.ref fa) ⟨[.ref a], []⟩)
      (fun r t => r = .ok (.ret (.bool true)) ∧ OldK s1.heap t.heap ∧ t.os = s1.os ∧ AllBare t.gens) s1 := by
  have rv := vals_ints hi
  have lv := hi.length
  have core : ∀ H : Hp, Only H → SqL K H a (ns.map V.int) → HOk P w H s1.heap → (∀ b, H b ≠ none → b = a) →
      (H a ≠ none → K.lookup a = none) → codeAny (model P w) callerA (.call (.ref fa) ⟨[.ref a], []⟩)
      (fun r t => r = .ok (.ret (.bool true)) ∧ OldK s1.heap t.heap ∧ t.os = s1.os ∧ AllBare t.gens) s1 := by
    intro H hO hS hok hA hK
    have bo : ∀ {b : Addr} {o : Obj}, s1.heap.get? b = some o → H b = none → (hidT s1.heap H).get? b = some o :=
      fun e n => hidT_get e n
    have noA : ∀ {b : Addr} {o : Obj} {es : Array DictEntry} {ep : Nat}, s1.heap.get? b = some o →
        o.data = .dict es ep → H b = none := by
      intro b o es ep e d
      by_cases q : H b = none
      · exact q
      · have z := hA b q
        rw [z, ha] at e
        cases e
        cases (show Data.seq vs.toArray _ = Data.dict es ep from d)
    have nsK : ∀ {b : Addr} {m : Str → Option Value}, s1.heap.Ns b m → (hidT s1.heap H).Ns b m := by
      rintro b m ⟨o, es, ep, e, d, r⟩
      exact ⟨o, es, ep, bo e (noA e d), d, r⟩
    have kb : K.In (hidT s1.heap H) := by
      intro b o e
      refine bo (KX b o e) ?_
      by_cases q : H b = none
      · exact q
      · have z := hA b q
        rw [z] at e q
        rw [hK q] at e
        cases e
    have hM : Mod K mg (hidT s1.heap H) := by
      obtain ⟨mc, h1, h2⟩ := hlim
      exact ⟨kb, nsK hns, ⟨mb, nsK hb, hbb⟩, ⟨mc, nsK h1, h2⟩⟩
    have e0 : Env0 P w K mg (hidT s1.heap H) callerA [] s1 H :=
      ⟨rfl, hM, fun b o e => of_hidT e, Nat.le_of_eq (hidT_size _ _), trivial,
        fun b z => absurd (show b ∈ ([] : List Addr) from z) (by simp), hok, .of_eq hg⟩
    refine codeAny_mono ((F _ kb (nsK hns)).go callerA [] s1 H ⟨[.ref a], []⟩ [.ref a] [.ref a] _ _ hr rfl e0
      (hbind s1 (.ref a)) (.cons rfl .nil) (hsp H hS)) fun r t h => ?_
    cases r with
    | error e => exact h.elim
    | ok fl =>
      cases fl with
      | next => exact h.elim
      | brk => exact h.elim
      | cont => exact h.elim
      | ret u =>
        obtain ⟨v, H2, os, bare, un, hok2, r2, q⟩ := h
        have q2 : v = .bl true := q
        subst q2
        obtain rfl : u = Value.bool true := r2
        refine ⟨rfl, OldK.of_keep fun b o e => ?_, os, bare⟩
        rcases hO b with z | ⟨ob, xs, z⟩
        · exact un.keep b o e z (fun y => absurd (show b ∈ ([] : List Addr) from y) (by simp)) (by simp)
        · have e1 := (hok b _ z).1
          have e2 := (hok2 b _ (un.frzs b ob _ z)).1
          rw [e] at e1
          cases e1
          exact e2
  by_cases hk : K.lookup a = none
  · have hon : (fun b => if b = a then some (HO.frz { cls := .type "list", data := .seq vs.toArray }
        (.lst (ns.map V.int))) else none : Hp) a = _ := if_pos rfl
    refine core (fun b => if b = a then some (.frz { cls := .type "list", data := .seq vs.toArray }
      (.lst (ns.map V.int))) else none) (fun b => ?_) (.inl (.inr ⟨_, hon⟩)) (fun b u z => ?_) (fun b z => ?_) fun _ => hk
    · by_cases h : b = a
      · exact .inr ⟨_, _, if_pos h⟩
      · exact .inl (if_neg h)
    · by_cases h : b = a
      · have z2 := (if_pos h).symm.trans z
        cases z2
        subst h
        exact ⟨ha, by rw [List.length_map]; exact hl, vs, _, rv, ha⟩
      · cases (if_neg h).symm.trans z
    · by_cases h : b = a
      · exact h
      · exact absurd (if_neg h) z
  · obtain ⟨o, ho⟩ := Option.ne_none_iff_exists'.mp hk
    have e := KX a o ho
    rw [ha] at e
    cases e
    refine core (fun _ => none) (fun _ => .inl rfl) (.inr ⟨_, vs.toArray, _, ho, rfl, rfl, rfl, ?_, ?_⟩)
      (fun b u z => nomatch (show (none : Option HO) = some u from z)) (fun b z => absurd rfl z) fun z => absurd rfl z
    · rw [List.size_toArray, lv]; exact hl
    · simpa using rv

/-- the end, where the law's def is shown with no repr under way -/
theorem walkG {l : PySem.W.OpenLaw} {n k : Nat} {q : Program} {loose : List Str} {XP : (Str → Option Value) → Heap → Prop}
    {YP : World → Heap → Prop} {d : DefRec} {K : Params → PySem.W.Frag} {sp : PySem.W.Frag → Sp} {x : Str}
    (hn : l.most = some n) (hn2 : n ≤ sizeLine) (hdf : d.params.defaults = []) (hr : Room k callerA)
    (hY : ∀ (w : World) (h : Heap), YP w h → (K w.params).In h)
    (F : ∀ (w : World) (mg : Str → Option Value) (fa : Addr) (h : Heap), (K w.params).In h → h.Ns mainGlobals mg →
      mg d.name = some (.ref fa) → ∃ fd : FuncData,
        (∀ (s : Shared) (u : Value), BindsTo s fd ⟨[u], []⟩ [(x, u)]) ∧ ∀ base : Heap, (K w.params).In base →
          base.Ns mainGlobals mg → FnG l.prog w (K w.params) mg base CX0 k fa fd [x] (sp (K w.params)))
    (hsp : ∀ (K : PySem.W.Frag) (H : Hp) (a : Addr) (ns : List Int), ns.length ≤ n → SqL K H a (ns.map V.int) →
      sp K [.ref a] H (fun v _ => v = .bl true) fun _ _ _ => False) :
    PySem.W.WalkO q loose XP YP l.row.toRowW d [] (fun f vs => PySem.call f vs) := by
  refine Att.attach_call hn hdf ?_
  intro w s0 s1 mg mb fa o pm cd doc a vs ns G Y ho hd hcd hmg hobj hints hlen hg
  have KX := hY w _ Y
  obtain ⟨fd, hb, hF⟩ := F w mg fa _ KX G.T.g hmg
  exact callG KX G.T.g G.T.b G.T.builtins G.T.nolimit hg hobj hints (Nat.le_trans hlen hn2) hr hF hb
    fun H hS => hsp _ H a ns hlen hS
end My
namespace My
open PySem PySem.Spec PyProof.Rows L2

/-- a def of the text as it stands behind the top -/
structure Df (K : PySem.W.Frag) (mg : Str → Option Value) (x : Str) (st : Stmt) (ps : List Str) : Prop where
  ex : ∃ (f : Addr) (fd : FuncData), Fun K x x st f fd ∧ mg x = some (.ref f) ∧ Binds K fd ps []
/-- .. with what it promises -/
structure Cal (P : Program) (w : World) (K : PySem.W.Frag) (mg : Str → Option Value) (base : Heap) (k : Nat) (x : Str) (ps : List Str) (sp : Sp) : Prop where
  ex : ∃ (f : Addr) (fd : FuncData), FnOk P w K mg base CX0 k f fd ps sp ∧ mg x = some (.ref f) ∧ PySem.W.keepIn K (.ref f) = true ∧ Binds K fd ps []
structure CalG (P : Program) (w : World) (K : PySem.W.Frag) (mg : Str → Option Value) (base : Heap) (k : Nat) (x : Str) (ps : List Str) (sp : Sp) : Prop where
  ex : ∃ (f : Addr) (fd : FuncData), FnG P w K mg base CX0 k f fd ps sp ∧ mg x = some (.ref f) ∧ PySem.W.keepIn K (.ref f) = true ∧ Binds K fd ps []
section
variable {P : Program} {w : World} {K : PySem.W.Frag} {mg : Str → Option Value} {base : Heap}
theorem Df.cal {x : Str} {st : Stmt} {N ps : List Str} {k : Nat} {sp : Sp} (D : Df K mg x st ps) (S : FnScope N ps (defScope st))
    (ln : ∀ vs H Q E, sp vs H Q E → vs.length = ps.length)
    (hb : ∀ (f : Addr) (cdv : Value) (A : Around) (o : List Env) (s : Shared) (H : Hp) (vs : List V) (Q : VK) (E : XK),
      Room k (A.deeper (envOfC x (defScope st) s.heap.objs.size f cdv)) → sp vs H Q E →
      ∃ t, PSs (cxOf CX0 P w K mg base N x (defScope st) f cdv A o s H E).nox (defBody st) t ∧
        t { nx := fun _ h => Q .non h, rt := Q } (start N vs) H) :
    Cal P w K mg base (k + 1) x ps sp := by
  obtain ⟨f, fd, F, m, b⟩ := D.ex
  exact ⟨f, fd, F.ok S ln (fun cdv A o s H vs Q E => hb f cdv A o s H vs Q E), m, F.kp, b⟩
theorem Df.calG {x : Str} {st : Stmt} {N ps : List Str} {k : Nat} {sp : Sp} (D : Df K mg x st ps) (S : FnScope N ps (defScope st))
    (ln : ∀ vs H Q E, sp vs H Q E → vs.length = ps.length)
    (hb : ∀ (f : Addr) (cdv : Value) (A : Around) (o : List Env) (s : Shared) (H : Hp) (vs : List V) (Q : VK) (E : XK),
      Room k (A.deeper (envOfC x (defScope st) s.heap.objs.size f cdv)) → A.guards = some [] → sp vs H Q E →
      ∃ t, PSs (cxOf CX0 P w K mg base N x (defScope st) f cdv A o s H E).nox (defBody st) t ∧
        t { nx := fun _ h => Q .non h, rt := Q } (start N vs) H) :
    CalG P w K mg base (k + 1) x ps sp := by
  obtain ⟨f, fd, F, m, b⟩ := D.ex
  refine ⟨f, fd, okG F S ln (fun cdv A o s H vs Q E hr hg h => ?_), m, F.kp, b⟩
  obtain ⟨t, h1, h2⟩ := hb f cdv A o s H vs Q E hr hg h
  exact ⟨t, h1.nox, h2⟩
end
section
variable {X : Cx} {k j : Nat} {ps : List Str} {sp : Sp} {x : Str} {p pos : Pos} {e : Expr} {es : List Expr} {t : TA}
theorem pe_cal (C : Cal X.prog X.w X.K X.mg X.base k x ps sp) (hr : Room k X.A) (hg : Gl X x)
    (ha : PA X (e :: es) t) (hdb : (x == ("__debug__" : Str)) = false := by decide)
    (he : starEach (e :: es) X.env = (false, eval e X.env) :: starEach es X.env := by rfl)
    (hpl : (backTo pos (starEach es X.env)).any (·.1) = false := by rfl) :
    PE X (.Call (.Name x p) (e :: es) [] pos) (tCall sp [] E0 t) := by
  obtain ⟨f, fd, F, m, kp, b⟩ := C.ex
  exact pe_call F hr hg m kp b .nil pass0 ha hdb he hpl
theorem pe_calG (gd : X.A.guards = some []) (C : CalG X.prog X.w X.K X.mg X.base k x ps sp) (hr : Room k X.A) (hg : Gl X x)
    (ha : PA X (e :: es) t) (hdb : (x == ("__debug__" : Str)) = false := by decide)
    (he : starEach (e :: es) X.env = (false, eval e X.env) :: starEach es X.env := by rfl)
    (hpl : (backTo pos (starEach es X.env)).any (·.1) = false := by rfl) :
    PE X (.Call (.Name x p) (e :: es) [] pos) (tCall sp [] E0 t) := by
  obtain ⟨f, fd, F, m, kp, b⟩ := C.ex
  exact pe_callG gd F hr hg m kp b .nil pass0 ha hdb he hpl
end

/-! ### heaps: all stands but the tape; t.1 is the tape's own list, t.2 that of its cells -/
abbrev TA2 := Addr × Addr
def Kp (t : TA2) (H H' : Hp) : Prop := ∀ b o, b ≠ t.1 → H b = some o → H' b = some o
theorem Kp.refl (t : TA2) (H : Hp) : Kp t H H := fun _ _ _ h => h
theorem Kp.trans {t : TA2} {H H1 H2 : Hp} (a : Kp t H H1) (b : Kp t H1 H2) : Kp t H H2 := fun c o n h => b c o n (a c o n h)
theorem Kp.new {t : TA2} {p : Addr} {H : Hp} {o : HO} (h : H p = none) : Kp t H (upd H p o) := fun b u _ e => by
  rw [upd_ne (ne_of_none e h)]; exact e
theorem Kp.self {t : TA2} {H : Hp} {o : HO} : Kp t H (upd H t.1 o) := fun b u n e => by rw [upd_ne n]; exact e
theorem Kp.free {t : TA2} {p : Addr} {H H' : Hp} (a : Kp t H H') (n : p ≠ t.1) (h : H' p = none) : H p = none := by
  cases q : H p with
  | none => rfl
  | some o => rw [a p o n q] at h; cases h
theorem Kp.tup {t : TA2} {p : Addr} {H H' : Hp} {xs ys : List V} (a : Kp t H H') (ht : H t.1 = some (.lst ys)) (h : H p = some (.tup xs)) : H' p = some (.tup xs) :=
  a p _ (ne_of h ht (fun z => nomatch z)) h
/-- the numbers that a script gives -/
structure Tape (K : PySem.W.Frag) (H : Hp) (t : TA2) : Prop where
  ex : ∃ (ns : List Int) (p n s : Int), H t.1 = some (.lst [.ref t.2, .int p, .int n, .int s]) ∧ t.2 ≠ t.1 ∧
    H t.2 = some (.lst (ns.map V.int)) ∧ 0 ≤ p ∧ 0 ≤ n ∧ 0 ≤ s
theorem Tape.lst {K : PySem.W.Frag} {H : Hp} {t : TA2} (T : Tape K H t) : ∃ ys, H t.1 = some (.lst ys) := by
  obtain ⟨ns, p, n, s, h, _⟩ := T.ex
  exact ⟨_, h⟩
theorem Tape.new {K : PySem.W.Frag} {H : Hp} {t : TA2} {a : Addr} {o : HO} (T : Tape K H t) (h : H a = none) : Tape K (upd H a o) t := by
  obtain ⟨ns, p, n, s, h1, h2, h3, h4⟩ := T.ex
  exact ⟨ns, p, n, s, by rw [upd_ne (ne_of_none h1 h)]; exact h1, h2, by rw [upd_ne (ne_of_none h3 h)]; exact h3, h4⟩
theorem Tape.ne {K : PySem.W.Frag} {H : Hp} {t : TA2} {a : Addr} (T : Tape K H t) (h : H a = none) : a ≠ t.1 := by
  obtain ⟨ys, e⟩ := T.lst
  exact (ne_of_none e h).symm
theorem Tape.ne2 {K : PySem.W.Frag} {H : Hp} {t : TA2} {a : Addr} (T : Tape K H t) (h : H a = none) : a ≠ t.2 := by
  obtain ⟨ns, p, n, s, h1, h2, h3, h4⟩ := T.ex
  exact (ne_of_none h3 h).symm
/-- another object is changed -/
theorem Tape.put {K : PySem.W.Frag} {H : Hp} {t : TA2} {a : Addr} {o : HO} (T : Tape K H t) (h1 : a ≠ t.1) (h2 : a ≠ t.2) : Tape K (upd H a o) t := by
  obtain ⟨ns, p, n, s, g1, g2, g3, g4⟩ := T.ex
  exact ⟨ns, p, n, s, by rw [upd_ne h1.symm]; exact g1, g2, by rw [upd_ne h2.symm]; exact g3, g4⟩

def spTape (K : PySem.W.Frag) : Sp := fun vs H Q _ => ∃ (a : Addr) (ns : List Int), vs = [.ref a] ∧ SqL K H a (ns.map V.int) ∧ ns.length ≤ 63 ∧
  ∀ (t : TA2) H', Same H H' → H t.1 = none → Tape K H' t → Q (.ref t.1) H'
def spDraw (K : PySem.W.Frag) : Sp := fun vs H Q _ => ∃ (t : TA2) (m : Int), vs = [.ref t.1, .int m] ∧ Tape K H t ∧ m < 1000000 ∧
  ∀ v H', 0 ≤ v → v < max m 1 → Kp t H H' → (∀ b, H b = none → H' b = none) → Tape K H' t → Q (.int v) H'
end My
namespace My
open PySem PySem.Spec PyProof.Rows L2
theorem le_size {n : Nat} (h : n ≤ 1000) : n ≤ sizeLine := Nat.le_of_lt (small1000 h)
theorem le_size0 {n : Nat} (h : n.ble 1000 = true) : n ≤ sizeLine := le_size (Nat.le_of_ble_eq_true h)
end My
namespace My
open PySem PySem.Spec PyProof.Rows L2
theorem okG0 {P : Program} {w : World} {K : PySem.W.Frag} {mg : Str → Option Value} {base : Heap}
    {x : Str} {st : Stmt} {f : Addr} {fd : FuncData} {N ps : List Str} {k : Nat} {sp : Sp}
    (F : Fun K x x st f fd) (S : FnScope N ps (defScope st))
    (ln : ∀ vs H Q E, sp vs H Q E → vs.length = ps.length)
    (hb : ∀ (f : Addr) (cdv : Value) (A : Around) (o : List Env) (s : Shared) (H : Hp) (vs : List V) (Q : VK) (E : XK),
      Room k (A.deeper (envOfC x (defScope st) s.heap.objs.size f cdv)) → A.guards = some [] → sp vs H Q E →
      ∃ t, PSs (cxOf CX0 P w K mg base N x (defScope st) f cdv A o s H E).nox (defBody st) t ∧
        t { nx := fun _ h => Q .non h, rt := Q } (start N vs) H) :
    FnG P w K mg base CX0 (k + 1) f fd ps sp := by
  refine okG F S ln (fun cdv A o s H vs Q E hr hg h => ?_)
  obtain ⟨t, h1, h2⟩ := hb f cdv A o s H vs Q E hr hg h
  exact ⟨t, h1.nox, h2⟩
theorem df_mk {K : PySem.W.Frag} {h : Heap} {mg : Str → Option Value} {x : Str} {st : Stmt} {ps : List Str} {f : Addr}
    {od an : Option Addr} {sl : Array (Option Value)} {oc kV dc pm cd ct : Value} (X : K.In h) (G : h.Ns mainGlobals mg)
    (a : PySem.W.nsIn K mainGlobals x = some (some (.ref f)))
    (l : K.lookup f = some ⟨oc, od, .func (PySem.W.fnOf x x (defArgs st) (defBody st) (defScope st) .none kV dc pm an cd ct), sl⟩)
    (c : PySem.W.codeIn K cd x = true) (k : PySem.W.keepIn K (.ref f) = true)
    (hb : ∀ (kV doc pm : Value) (an : Option Addr) (cdv ct : Value) (us : List Value), us.length = ps.length →
      bindArgs (PySem.W.fnOf x x (defArgs st) (defBody st) (defScope st) .none kV doc pm an cdv ct) ⟨us, []⟩ = pure (ps.zip us)) :
    Df K mg x st ps := ⟨f, _, fun_mk l c k, PySem.W.mg_of X G a, (fun_mk l c k).binds hb⟩
/-- what a script's law promises -/
def spLaw (K : PySem.W.Frag) : Sp := fun vs H Q _ => ∃ (a : Addr) (ns : List Int), vs = [.ref a] ∧ SqL K H a (ns.map V.int) ∧ ns.length ≤ 63 ∧ ∀ H', Q (.bl true) H'
end My
namespace My
open PySem PySem.Spec PyProof.Rows L2
section
variable {X : Cx}
def rTupOf (K : PySem.W.Frag) : List V → Hp → VK → Prop := fun xs H Q => ∃ p ys, xs = [.ref p] ∧
  ((SqL K H p ys ∧ ∀ l, H l = none → Q (.ref l) (upd H l (.tup ys))) ∨ (SqT K H p ys ∧ Q (.ref p) H))
theorem call_tupK : CallR X (.type "tuple") (rTupOf X.K) := call_tuple_of
def rLisOf (K : PySem.W.Frag) : List V → Hp → VK → Prop := fun xs H Q => ∃ p ys, xs = [.ref p] ∧ (SqL K H p ys ∨ SqT K H p ys) ∧
  ∀ l, H l = none → Q (.ref l) (upd H l (.lst ys))
theorem call_lisK : CallR X (.type "list") (rLisOf X.K) := call_list_of
def rLenS (K : PySem.W.Frag) : List V → Hp → VK → Prop := fun xs H Q => ∃ p ys, xs = [.ref p] ∧ (SqL K H p ys ∨ SqT K H p ys) ∧ Q (.int ys.length) H
theorem call_lenK : CallR X (.builtin "len") (rLenS X.K) := call_len_seq
def tTru (K : PySem.W.Frag) (ta : TE) : TT := fun σ H Q => ta σ H fun x h => ∃ k, TruV K x h k ∧ Q k h
theorem pt_truK {a : Expr} {ta : TE} (ha : PE X a ta) (he : ∀ whole, isTrue a X.env whole = (do let v ← whole; standAt a.pos; holding [v] (truthy v))) :
    PT X a (tTru X.K ta) := pt_truth ha he
end
end My
namespace My
open PySem PySem.Spec PyProof.Rows L2

theorem it_any {J : It} {n : Nat} {G : Hp → Prop} {Y : Nat → Hp → V → Hp → Prop} (w : Walk J n G Y)
    {Bd : V → Hp → (Hp → Prop) → Prop} {Qd : Hp → Prop} {H0 : Hp} (Pv : Nat → Hp → Prop) (h0 : Pv 0 H0)
    (hG : ∀ i H, i ≤ n → Pv i H → G H) (hs : ∀ i x H H', i < n → Pv i H → Y i H x H' → Bd x H' (Pv (i + 1)))
    (hd : ∀ H, Pv n H → Qd H) :
    ∃ W : Nat → Nat → Hp → Prop, (∃ m, W 0 m H0) ∧ ∀ i m H, W i m H → (J.stop i H ∧ Qd H) ∨ (J.go i H ∧
      ∃ Nx : Hp → Prop, (∀ H', Nx H' → ∃ m', m' < m ∧ W (i + 1) m' H') ∧ ∀ x H', J.yld i H x H' → Bd x H' Nx) := by
  refine ⟨fun i m H => m = n - i ∧ i ≤ n ∧ Pv i H, ⟨n, by simp, Nat.zero_le _, h0⟩, ?_⟩
  rintro i m H ⟨rfl, hi, p⟩
  by_cases h : i < n
  · exact .inr ⟨w.goes i H h (hG i H hi p), Pv (i + 1), fun H' p' => ⟨n - (i + 1), by omega, rfl, h, p'⟩,
      fun x H' y => hs i x H H' h p (w.yields i H x H' h (hG i H hi p) y)⟩
  · have e : i = n := by omega
    subst e
    exact .inl ⟨w.stops H (hG i H hi p), hd H p⟩

/-! ### data that repr shows -/
structure Sh (d : PyData) (dp bk : Nat) : Prop where
  s : d.showable = true
  n : d.hasDict = false
  p : d.depth ≤ dp
  l : d.leavesShort 13 = true
  b : d.bulk ≤ bk
theorem Sh.mono {d : PyData} {a b a' b' : Nat} (h : Sh d a b) (ha : a ≤ a') (hb : b ≤ b') : Sh d a' b' :=
  ⟨h.s, h.n, Nat.le_trans h.p ha, h.l, Nat.le_trans h.b hb⟩
theorem Sh.fits {d : PyData} {dp bk : Nat} (h : Sh d dp bk) (hb : bk ≤ 1000000) : d.shown.length ≤ sizeLine :=
  PyData.shown_fits_bulk (B := 13) (by decide) (by decide) h.l (Nat.le_trans h.b (Nat.le_trans hb (by decide)))
theorem Sh.none : Sh .none 0 0 := ⟨by simp [PyData.showable], by simp [PyData.hasDict], by simp [PyData.depth], by simp [PyData.leavesShort], by simp [PyData.bulk]⟩
theorem Sh.bool (b : Bool) : Sh (.bool b) 0 0 := ⟨by simp [PyData.showable], by simp [PyData.hasDict], by simp [PyData.depth], by simp [PyData.leavesShort], by simp [PyData.bulk]⟩
theorem Sh.int {i : Int} (h : i.natAbs < 10 ^ 12) : Sh (.int i) 0 0 := by
  refine ⟨?_, by simp [PyData.hasDict], by simp [PyData.depth], ?_, by simp [PyData.bulk]⟩
  · simp only [PyData.showable, decide_eq_true_eq]
    exact log2_small (Nat.lt_trans h (by decide +kernel))
  · simp only [PyData.leavesShort, decide_eq_true_eq]
    exact PyData.shown_int_le h
/-- all signs are small -/
def Sg (x : Str) : Prop := ∀ c ∈ x.cps.toList, c < 128
theorem Sh.str {x : Str} (h : Sg x) : Sh (.str x) 0 x.length := by
  refine ⟨by simp [PyData.showable], by simp [PyData.hasDict], by simp [PyData.depth], ?_, by simp only [PyData.bulk]; exact Nat.le_refl _⟩
  simp only [PyData.leavesShort, List.all_eq_true, decide_eq_true_eq]
  intro c hc
  exact Nat.lt_trans (h c hc) (by decide)
theorem shAll {dp bk : Nat} : ∀ {ds : List PyData}, (∀ d ∈ ds, Sh d dp bk) → PyData.showableAll ds = true ∧ PyData.hasDictAll ds = false ∧
    PyData.depthAll ds ≤ dp ∧ PyData.leavesShortAll 13 ds = true ∧ PyData.bulkAll ds ≤ ds.length * (bk + 1)
  | [], _ => by simp [PyData.showableAll, PyData.hasDictAll, PyData.depthAll, PyData.leavesShortAll, PyData.bulkAll]
  | d :: ds, h => by
    obtain ⟨h1, h2, h3, h4, h5⟩ := shAll (ds := ds) fun e he => h e (List.mem_cons_of_mem _ he)
    have g := h d (List.mem_cons_self)
    refine ⟨by simp [PyData.showableAll, g.s, h1], by simp [PyData.hasDictAll, g.n, h2], ?_, by simp [PyData.leavesShortAll, g.l, h4], ?_⟩
    · simp only [PyData.depthAll]
      have := g.p
      omega
    · simp only [PyData.bulkAll, List.length_cons, Nat.succ_mul]
      have := g.b
      omega
theorem Sh.tup {dp bk : Nat} {ds : List PyData} (h : ∀ d ∈ ds, Sh d dp bk) : Sh (.tuple ds) (dp + 1) (ds.length * (bk + 1)) := by
  obtain ⟨h1, h2, h3, h4, h5⟩ := shAll h
  refine ⟨by simpa [PyData.showable] using h1, by simpa [PyData.hasDict] using h2, ?_, by simpa [PyData.leavesShort] using h4, by simpa [PyData.bulk] using h5⟩
  simp only [PyData.depth]
  omega
theorem Sh.list {dp bk : Nat} {ds : List PyData} (h : ∀ d ∈ ds, Sh d dp bk) : Sh (.list ds) (dp + 1) (ds.length * (bk + 1)) := by
  obtain ⟨h1, h2, h3, h4, h5⟩ := shAll h
  refine ⟨by simpa [PyData.showable] using h1, by simpa [PyData.hasDict] using h2, ?_, by simpa [PyData.leavesShort] using h4, by simpa [PyData.bulk] using h5⟩
  simp only [PyData.depth]
  omega
/-- repr answers with the shown text -/
theorem rep_ok {K : PySem.W.Frag} {H : Hp} {Q : VK} {x : V} {d : PyData} {dp bk : Nat} (h : Dp K H x d) (s : Sh d dp bk) (h1 : dp ≤ 40) (h2 : bk ≤ 1000000)
    (q : Q (.str d.shown) H) : rRep K [x] H Q := ⟨x, d, rfl, h, s.s, s.n, Nat.le_trans s.p h1, s.fits h2, q⟩
theorem dp_strs {K : PySem.W.Frag} {H : Hp} : ∀ xs : List Str, DpAll K H (xs.map V.str) (xs.map PyData.str)
  | [] => .nil
  | x :: xs => .cons (.str x) (dp_strs xs)
theorem dp_ints {K : PySem.W.Frag} {H : Hp} : ∀ xs : List Int, DpAll K H (xs.map V.int) (xs.map PyData.int)
  | [] => .nil
  | x :: xs => .cons (.int x) (dp_ints xs)
theorem sh_strs {n : Nat} {xs : List Str} (h : ∀ x ∈ xs, Sg x ∧ x.length ≤ n) : Sh (.tuple (xs.map PyData.str)) 1 (xs.length * (n + 1)) := by
  have := Sh.tup (dp := 0) (bk := n) (ds := xs.map PyData.str) (fun d hd => by
    obtain ⟨x, hx, rfl⟩ := List.mem_map.mp hd
    exact (Sh.str (h x hx).1).mono (Nat.le_refl _) (h x hx).2)
  rwa [List.length_map] at this

theorem Same.kp {t : TA2} {H H' : Hp} (h : Same H H') : Kp t H H' := fun b o _ e => h b o e
theorem Same.new {p : Addr} {H : Hp} {o : HO} (h : H p = Option.none) : Same H (upd H p o) := fun b u e => by
  rw [upd_ne (ne_of_none e h)]; exact e
theorem Tape.same {K : PySem.W.Frag} {H H' : Hp} {t : TA2} (T : Tape K H t) (h : Same H H') : Tape K H' t := by
  obtain ⟨ns, p, n, s, h1, h2, h3, h4⟩ := T.ex
  exact ⟨ns, p, n, s, h _ _ h1, h2, h _ _ h3, h4⟩
/-- a place in a list of numbers -/
theorem pickI {ns : List Int} {v : Int} (h0 : 0 ≤ v) (h1 : v < ns.length) : ∃ w, w ∈ ns ∧ atI (ns.map V.int) v = some (.int w) := by
  have h : v.toNat < ns.length := by omega
  refine ⟨ns[v.toNat], List.getElem_mem h, ?_⟩
  have z := atI_nat (xs := ns.map V.int) (j := v.toNat) (v := .int ns[v.toNat]) (by rw [List.getElem?_map, List.getElem?_eq_getElem h]; rfl)
  rw [Int.toNat_of_nonneg h0] at z
  exact z
theorem pickV {xs : List V} {v : Int} (h0 : 0 ≤ v) (h1 : v < xs.length) : ∃ w, w ∈ xs ∧ atI xs v = some w := by
  have h : v.toNat < xs.length := by omega
  refine ⟨xs[v.toNat], List.getElem_mem h, ?_⟩
  have z := atI_nat (xs := xs) (List.getElem?_eq_getElem h)
  rw [Int.toNat_of_nonneg h0] at z
  exact z
theorem pickS {ss : List Str} {v : Int} (h0 : 0 ≤ v) (h1 : v < ss.length) : ∃ w, w ∈ ss ∧ atI (ss.map V.str) v = some (.str w) := by
  have h : v.toNat < ss.length := by omega
  refine ⟨ss[v.toNat], List.getElem_mem h, ?_⟩
  have z := atI_nat (xs := ss.map V.str) (j := v.toNat) (v := .str ss[v.toNat]) (by rw [List.getElem?_map, List.getElem?_eq_getElem h]; rfl)
  rw [Int.toNat_of_nonneg h0] at z
  exact z

/-! ### symbols -/
abbrev sy (h l : Nat) : Str := ⟨#[h, l]⟩
theorem sy_cat (h l : Nat) : (⟨#[h]⟩ : Str) ++ (⟨#[l]⟩ : Str) = sy h l := rfl
def comb (hs ls : List Nat) : List Str := hs.flatMap fun h => ls.map fun l => sy h l
theorem comb_nil (ls : List Nat) : comb [] ls = [] := rfl
theorem comb_cons (h : Nat) (hs ls : List Nat) : comb (h :: hs) ls = (ls.map fun l => sy h l) ++ comb hs ls := List.flatMap_cons
theorem comb_snoc (h : Nat) (hs ls : List Nat) : comb (hs ++ [h]) ls = comb hs ls ++ (ls.map fun l => sy h l) := by
  unfold comb
  rw [List.flatMap_append]
  simp
theorem comb_len (ls : List Nat) : ∀ hs : List Nat, (comb hs ls).length = hs.length * ls.length
  | [] => by simp [comb_nil]
  | h :: hs => by
    rw [comb_cons, List.length_append, List.length_map, comb_len ls hs, List.length_cons, Nat.succ_mul, Nat.add_comm]
theorem mem_comb {x : Str} {hs ls : List Nat} (h : x ∈ comb hs ls) : ∃ a ∈ hs, ∃ b ∈ ls, x = sy a b := by
  unfold comb at h
  obtain ⟨a, ha, hx⟩ := List.mem_flatMap.mp h
  obtain ⟨b, hb, rfl⟩ := List.mem_map.mp hx
  exact ⟨a, ha, b, hb, rfl⟩
abbrev lows : List Nat := [97,98,99,100,101,102,103,104,105,106,107,108,109,110,111,112,113,114,115,116,117,118,119,120,121,122]
abbrev caps : List Nat := [65,66,67,68,69,70,71,72,73,74,75,76,77,78,79,80,81,82,83,84,85,86,87,88,89,90]
theorem lows_eq : ("abcdefghijklmnopqrstuvwxyz" : Str).cps.toList = lows := by decide +kernel
theorem caps_eq : ("ABCDEFGHIJKLMNOPQRSTUVWXYZ" : Str).cps.toList = caps := by decide +kernel
theorem lows_small : ∀ c ∈ lows, c < 128 := by decide
theorem caps_small : ∀ c ∈ caps, c < 128 := by decide
end My
namespace My
open PySem PySem.Spec PyProof.Rows L2
theorem le_of1000 : (26 : Nat) ≤ 1000 := by decide
end My
namespace My
open PySem PySem.Spec PyProof.Rows L2
theorem yes_ite {σ : L2.St} {H : Hp} {A B : Hp → Prop} (h : A H) : tYes σ H (fun b H3 => if b = true then A H3 else B H3) := by
  show (if true = true then A H else B H)
  rw [if_pos rfl]
  exact h
end My
namespace My
open PySem PySem.Spec PyProof.Rows L2
theorem cutV_from (xs : List V) (n : Nat) (h : n ≤ xs.length) : cutV xs (some (n : Int)) Option.none = xs.drop n := by
  unfold cutV
  rw [show HT.sIx xs.length 0 (some (n : Int)) = min n xs.length from HT.sIx_nat xs.length 0 n, HT.sIx_none, Nat.min_eq_left h]
  exact List.take_of_length_le (by rw [List.length_drop]; exact Nat.le_refl _)
theorem sIx_from (L n : Nat) (h : n ≤ L) : HT.sIx L 0 (some (n : Int)) = n := by
  rw [show HT.sIx L 0 (some (n : Int)) = min n L from HT.sIx_nat L 0 n, Nat.min_eq_left h]
end My
namespace My
open PySem PySem.Spec PyProof.Rows L2

/-! ### data that never changes -/
mutual
inductive Im (H : Hp) : V → PyData → Prop
  | non : Im H .non .none
  | bl (b : Bool) : Im H (.bl b) (.bool b)
  | int (i : Int) : Im H (.int i) (.int i)
  | str (x : Str) : Im H (.str x) (.str x)
  | tup {a : Addr} {xs : List V} {ds : List PyData} : H a = some (.tup xs) → ImAll H xs ds → Im H (.ref a) (.tuple ds)
inductive ImAll (H : Hp) : List V → List PyData → Prop
  | nil : ImAll H [] []
  | cons {v : V} {vs : List V} {d : PyData} {ds : List PyData} : Im H v d → ImAll H vs ds → ImAll H (v :: vs) (d :: ds)
end
def KT (H H' : Hp) : Prop := ∀ a xs, H a = some (.tup xs) → H' a = some (.tup xs)
theorem KT.refl (H : Hp) : KT H H := fun _ _ h => h
theorem KT.trans {H H1 H2 : Hp} (a : KT H H1) (b : KT H1 H2) : KT H H2 := fun c o h => b c o (a c o h)
theorem KT.new {H : Hp} {p : Addr} {o : HO} (h : H p = none) : KT H (upd H p o) := fun a xs e => by
  rw [upd_ne (ne_of_none e h)]; exact e
theorem KT.put {H : Hp} {p : Addr} {xs ys : List V} (h : H p = some (.lst xs)) : KT H (upd H p (.lst ys)) := fun a zs e => by
  rw [upd_ne (ne_of e h (fun z => nomatch z))]; exact e
theorem Same.kt {H H' : Hp} (h : Same H H') : KT H H' := fun a xs e => h _ _ e
theorem Kp.kt {K : PySem.W.Frag} {t : TA2} {H H' : Hp} (k : Kp t H H') (T : Tape K H t) : KT H H' := fun a xs e => by
  obtain ⟨ys, h⟩ := T.lst
  exact k.tup h e
mutual
theorem Im.dp {K : PySem.W.Frag} {H : Hp} : ∀ {v : V} {d : PyData}, Im H v d → Dp K H v d
  | _, _, .non => .non
  | _, _, .bl b => .bl b
  | _, _, .int i => .int i
  | _, _, .str x => .str x
  | _, _, .tup h ha => .tup (.inl (.inl h)) (ImAll.dp ha)
theorem ImAll.dp {K : PySem.W.Frag} {H : Hp} : ∀ {vs : List V} {ds : List PyData}, ImAll H vs ds → DpAll K H vs ds
  | _, _, .nil => .nil
  | _, _, .cons h t => .cons (Im.dp h) (ImAll.dp t)
end
mutual
theorem Im.kt {H H' : Hp} (k : KT H H') : ∀ {v : V} {d : PyData}, Im H v d → Im H' v d
  | _, _, .non => .non
  | _, _, .bl b => .bl b
  | _, _, .int i => .int i
  | _, _, .str x => .str x
  | _, _, .tup h ha => .tup (k _ _ h) (ImAll.kt k ha)
theorem ImAll.kt {H H' : Hp} (k : KT H H') : ∀ {vs : List V} {ds : List PyData}, ImAll H vs ds → ImAll H' vs ds
  | _, _, .nil => .nil
  | _, _, .cons h t => .cons (Im.kt k h) (ImAll.kt k t)
end
theorem ImAll.length {H : Hp} : ∀ {vs : List V} {ds : List PyData}, ImAll H vs ds → vs.length = ds.length
  | _, _, .nil => rfl
  | _, _, .cons _ t => congrArg (· + 1) (ImAll.length t)
theorem ImAll.get {H : Hp} : ∀ {vs : List V} {ds : List PyData} {i : Nat} {v : V}, ImAll H vs ds → vs[i]? = some v → ∃ d, ds[i]? = some d ∧ Im H v d
  | _, _, _, _, .nil, e => by simp at e
  | _, _, 0, _, .cons h _, e => by simp at e; subst e; exact ⟨_, rfl, h⟩
  | _, _, i + 1, _, .cons _ t, e => by
    obtain ⟨d, h1, h2⟩ := ImAll.get (i := i) t (by simpa using e)
    exact ⟨d, by simpa using h1, h2⟩
theorem ImAll.of {H : Hp} : ∀ {vs : List V} {ds : List PyData} {i : Nat} {d : PyData}, ImAll H vs ds → ds[i]? = some d → ∃ v, vs[i]? = some v ∧ Im H v d
  | _, _, _, _, .nil, e => by simp at e
  | _, _, 0, _, .cons h _, e => by simp at e; subst e; exact ⟨_, rfl, h⟩
  | _, _, i + 1, _, .cons _ t, e => by
    obtain ⟨d, h1, h2⟩ := ImAll.of (i := i) t (by simpa using e)
    exact ⟨d, by simpa using h1, h2⟩
theorem ImAll.snoc {H : Hp} : ∀ {vs : List V} {ds : List PyData} {v : V} {d : PyData}, ImAll H vs ds → Im H v d → ImAll H (vs ++ [v]) (ds ++ [d])
  | _, _, _, _, .nil, h => .cons h .nil
  | _, _, _, _, .cons g t, h => .cons g (ImAll.snoc t h)
theorem ImAll.append {H : Hp} : ∀ {vs ws : List V} {ds es : List PyData}, ImAll H vs ds → ImAll H ws es → ImAll H (vs ++ ws) (ds ++ es)
  | _, _, _, _, .nil, h => h
  | _, _, _, _, .cons g t, h => .cons g (ImAll.append t h)
theorem ImAll.strs {H : Hp} : ∀ xs : List Str, ImAll H (xs.map V.str) (xs.map PyData.str)
  | [] => .nil
  | x :: xs => .cons (.str x) (ImAll.strs xs)
theorem ImAll.ints {H : Hp} : ∀ xs : List Int, ImAll H (xs.map V.int) (xs.map PyData.int)
  | [] => .nil
  | x :: xs => .cons (.int x) (ImAll.ints xs)
theorem ImAll.strs_inv {H : Hp} : ∀ {vs : List V} {xs : List Str}, ImAll H vs (xs.map PyData.str) → vs = xs.map V.str
  | vs, [], h => by cases h; rfl
  | vs, x :: xs, h => by
    cases h with
    | cons h1 h2 =>
      cases h1
      rw [ImAll.strs_inv h2]
      rfl
theorem ImAll.ints_inv {H : Hp} : ∀ {vs : List V} {xs : List Int}, ImAll H vs (xs.map PyData.int) → vs = xs.map V.int
  | vs, [], h => by cases h; rfl
  | vs, x :: xs, h => by
    cases h with
    | cons h1 h2 =>
      cases h1
      rw [ImAll.ints_inv h2]
      rfl
theorem Im.inv {H : Hp} {v : V} {ds : List PyData} (h : Im H v (.tuple ds)) : ∃ p xs, v = .ref p ∧ H p = some (.tup xs) ∧ ImAll H xs ds := by
  cases h with
  | tup a b => exact ⟨_, _, rfl, a, b⟩

/-! ### texts -/
theorem flat1 : ∀ xs : List Nat, ((xs.map fun c => (⟨#[c]⟩ : Str)).map TL.tl).flatten = xs
  | [] => rfl
  | x :: xs => by
    rw [List.map_cons, List.map_cons, List.flatten_cons, flat1 xs]
    rfl
theorem joinL_nil : ∀ xs : List (List Nat), TL.joinL [] xs = xs.flatten
  | [] => rfl
  | [p] => by simp [TL.joinL]
  | p :: q :: r => by
    show p ++ ([] ++ TL.joinL [] (q :: r)) = _
    rw [joinL_nil (q :: r)]
    simp
theorem join_empty (ys : List Str) : (Txt.join "" ys).cps.toList = (ys.map TL.tl).flatten := by
  have h := TL.tl_join "" ys
  rw [← TL.join_eq] at h
  exact h.trans (joinL_nil _)
theorem join_signs (cs : List Nat) : (Txt.join "" (cs.map fun c => (⟨#[c]⟩ : Str))).cps.toList = cs := by
  rw [join_empty, flat1]
theorem sum_signs : ∀ cs : List Nat, ((cs.map fun c => (⟨#[c]⟩ : Str)).map (·.length)).sum = cs.length
  | [] => rfl
  | c :: cs => by
    rw [List.map_cons, List.map_cons, List.sum_cons, sum_signs cs, List.length_cons]
    show 1 + cs.length = _
    omega
theorem str_ext {x y : Str} (h : x.cps.toList = y.cps.toList) : x = y := by
  obtain ⟨⟨a⟩⟩ := x
  obtain ⟨⟨b⟩⟩ := y
  have h : a = b := h
  rw [h]
theorem str_len (x : Str) : x.cps.toList.length = x.length := Array.length_toList
theorem str_cat (x y : Str) : (x ++ y).cps.toList = x.cps.toList ++ y.cps.toList := by
  show (x.cps ++ y.cps).toList = _
  rw [Array.toList_append]
/-- a sign of a text, drawn -/
theorem pickC {z : Str} {v : Int} (h0 : 0 ≤ v) (h1 : v < z.length) : ∃ c, c ∈ z.cps.toList ∧ atI z.cps.toList v = some c := by
  have h : v.toNat < z.cps.toList.length := by rw [str_len]; omega
  refine ⟨z.cps.toList[v.toNat], List.getElem_mem h, ?_⟩
  have e := atI_nat (List.getElem?_eq_getElem h)
  rw [Int.toNat_of_nonneg h0] at e
  exact e

/-! ### class nodes -/
def clsD (b : Bool) (hs ls : Str) : PyData := .tuple [.str "class", .bool b, .str hs, .str ls]
structure Cl (hs ls : Str) : Prop where
  h1 : hs.length ≤ 27
  h2 : ls.length ≤ 26
  h3 : Sg hs
  h4 : Sg ls
theorem Cl.none : Cl "" "" := ⟨by decide, by decide, fun _ h => (nomatch h), fun _ h => (nomatch h)⟩
theorem Im.cls {H : Hp} {v : V} {b : Bool} {hs ls : Str} (h : Im H v (clsD b hs ls)) : ∃ p, v = .ref p ∧ H p = some (.tup [.str "class", .bl b, .str hs, .str ls]) := by
  obtain ⟨p, xs, rfl, hp, ha⟩ := h.inv
  cases ha with
  | cons a1 a2 => cases a1; cases a2 with
    | cons b1 b2 => cases b1; cases b2 with
      | cons c1 c2 => cases c1; cases c2 with
        | cons d1 d2 => cases d1; cases d2; exact ⟨p, rfl, hp⟩
theorem Im.mkcls {H : Hp} {p : Addr} {b : Bool} {hs ls : Str} (h : H p = some (.tup [.str "class", .bl b, .str hs, .str ls])) : Im H (.ref p) (clsD b hs ls) :=
  .tup h (.cons (.str _) (.cons (.bl _) (.cons (.str _) (.cons (.str _) .nil))))
/-- belongs -/
def bel (b : Bool) (hs ls : Str) (c d : Nat) : Bool :=
  !decide (V.bl ((decide (V.str hs = V.str (Str.ofString "")) || decide (c ∈ hs.cps.toList)) && (decide (V.str ls = V.str (Str.ofString "")) || decide (d ∈ ls.cps.toList))) = V.bl b)
/-- and, or of values -/
theorem or_val {Q : VK} {H : Hp} {c d : Bool} (h : Q (.bl (c || d)) H) : if c = true then Q (.bl true) H else Q (.bl d) H := by
  cases c <;> exact h
theorem or_cps {Q : VK} {H : Hp} {P : Prop} {c d : Bool} (hp : c = false → Q (.bl d) H → P) (h : Q (.bl (c || d)) H) : if c = true then Q (.bl true) H else P := by
  cases c
  · exact hp rfl h
  · exact h
theorem and_cps {Q : VK} {H : Hp} {P : Prop} {c d : Bool} (hp : c = true → Q (.bl d) H → P) (h : Q (.bl (c && d)) H) : if c = true then P else Q (.bl false) H := by
  cases c
  · exact h
  · exact hp rfl h
end My
namespace My
open PySem PySem.Spec PyProof.Rows L2
/-- letters, owners -/
structure Al (x : Str) : Prop where
  n1 : 1 ≤ x.length
  n3 : x.length ≤ 3
  sg : Sg x
theorem le_cat {z : Str} (h : z.length ≤ 900) : (Str.ofString "@").length + z.length ≤ sizeLine := le_size (by show 1 + z.length ≤ 1000; omega)
end My
namespace My
open PySem PySem.Spec PyProof.Rows L2
theorem join_fits (l : List Nat) (h : l.length ≤ 1000) : ((l.map fun c => (⟨#[c]⟩ : Str)).map (·.length)).sum + (l.map fun c => (⟨#[c]⟩ : Str)).length * (Str.ofString "").length ≤ 16777216 := by
  rw [sum_signs, show (Str.ofString "").length = 0 from rfl]
  omega
theorem join_cl (l : List Nat) : (Txt.join (Str.ofString "") (l.map fun c => (⟨#[c]⟩ : Str))).cps.toList = l := join_signs l
theorem join_len (l : List Nat) : (Txt.join (Str.ofString "") (l.map fun c => (⟨#[c]⟩ : Str))).length = l.length := by
  rw [← str_len, join_cl]
theorem sg_one {c : Nat} (h : c < 128) : Sg ⟨#[c]⟩ := fun d hd => by rw [show d = c by simpa using hd]; exact h
theorem sg_cat {x y : Str} (h : Sg x) (g : Sg y) : Sg (x ++ y) := fun c hc => by
  rw [str_cat] at hc
  rcases List.mem_append.mp hc with z | z
  · exact h c z
  · exact g c z
theorem sg_at : Sg (Str.ofString "@") := by
  intro c hc
  have h : c ∈ ([64] : List Nat) := hc
  have h2 : c = 64 := by simpa using h
  omega
end My
namespace My
open PySem PySem.Spec PyProof.Rows L2
theorem atcaps_eq : ("@ABCDEFGHIJKLMNOPQRSTUVWXYZ" : Str).cps.toList = 64 :: caps := by decide +kernel
theorem sg_sub {x : Str} {l : List Nat} (h : x.cps.toList.Sublist l) (g : ∀ c ∈ l, c < 128) : Sg x := fun c hc => g c (h.subset hc)
theorem atcaps_small : ∀ c ∈ 64 :: caps, c < 128 := by decide
theorem lows_sg : Sg "abcdefghijklmnopqrstuvwxyz" := fun c hc => by rw [lows_eq] at hc; exact lows_small c hc
theorem caps_sg : Sg "ABCDEFGHIJKLMNOPQRSTUVWXYZ" := fun c hc => by rw [caps_eq] at hc; exact caps_small c hc
theorem al_lows {x : Str} (h : x.cps.toList.Sublist lows) (h1 : 1 ≤ x.length) (h3 : x.length ≤ 3) : Al x := ⟨h1, h3, sg_sub h lows_small⟩
theorem al_caps {x : Str} (h : x.cps.toList.Sublist caps) (h1 : 1 ≤ x.length) (h3 : x.length ≤ 3) : Al x := ⟨h1, h3, sg_sub h caps_small⟩
end My
namespace My
open PySem PySem.Spec PyProof.Rows L2
theorem rep_bl (K : PySem.W.Frag) (H : Hp) (b : Bool) : Dp K H (.bl b) (.bool b) ∧ (PyData.bool b).showable = true ∧ (PyData.bool b).hasDict = false ∧ (PyData.bool b).depth ≤ 40 ∧ (PyData.bool b).shown.length ≤ sizeLine :=
  ⟨.bl b, (Sh.bool b).s, (Sh.bool b).n, Nat.le_trans (Sh.bool b).p (by decide), (Sh.bool b).fits (by decide)⟩
end My
namespace My
open PySem PySem.Spec PyProof.Rows L2

theorem atI_lastV {xs : List V} (h : xs ≠ []) : ∃ v, v ∈ xs ∧ atI xs (-1) = some v := by
  refine ⟨xs.getLast h, List.getLast_mem h, ?_⟩
  have e : xs = xs.dropLast ++ [xs.getLast h] := (List.dropLast_concat_getLast h).symm
  rw [show atI xs (-1) = atI (xs.dropLast ++ [xs.getLast h]) (-1) by rw [← e]]
  exact atI_last _ _
/-- the first place of a text -/
def at1 : List Str → Str → Nat
  | [], _ => 0
  | y :: ys, z => if y = z then 0 else at1 ys z + 1
theorem at1_get : ∀ {ys : List Str} {z : Str}, z ∈ ys → ys[at1 ys z]? = some z ∧ ∀ m, m < at1 ys z → ys[m]? ≠ some z
  | y :: ys, z, h => by
    unfold at1
    by_cases e : y = z
    · rw [if_pos e]
      exact ⟨by rw [e]; rfl, fun m hm => absurd hm (Nat.not_lt_zero _)⟩
    · rw [if_neg e]
      have h2 : z ∈ ys := by
        rcases List.mem_cons.mp h with q | q
        · exact absurd q.symm e
        · exact q
      obtain ⟨h3, h4⟩ := at1_get h2
      refine ⟨by simpa using h3, fun m hm => ?_⟩
      cases m with
      | zero => simpa using e
      | succ m => simpa using h4 m (by omega)
theorem at1_lt {ys : List Str} {z : Str} (h : z ∈ ys) : at1 ys z < ys.length := (List.getElem?_eq_some_iff.mp (at1_get h).1).1
/-- a sequence of symbols as a value -/
def Sq (H : Hp) (v : V) (xs : List Str) : Prop := Im H v (.tuple (xs.map PyData.str))
theorem Sq.get {H : Hp} {v : V} {xs : List Str} (h : Sq H v xs) : ∃ p, v = .ref p ∧ H p = some (.tup (xs.map V.str)) := by
  obtain ⟨p, vs, rfl, hp, ha⟩ := Im.inv h
  exact ⟨p, rfl, by rw [hp, ha.strs_inv]⟩
theorem Sq.mk {H : Hp} {p : Addr} {xs : List Str} (h : H p = some (.tup (xs.map V.str))) : Sq H (.ref p) xs := .tup h (ImAll.strs xs)
/-- a symbol -/
def Sym (x : Str) : Prop := ∃ a b, x = sy a b ∧ a < 128 ∧ b < 128
theorem Sym.sg {x : Str} (h : Sym x) : Sg x ∧ x.length ≤ 2 := by
  obtain ⟨a, b, rfl, ha, hb⟩ := h
  refine ⟨fun c hc => ?_, Nat.le_refl _⟩
  have hc' : c = a ∨ c = b := by simpa using hc
  rcases hc' with rfl | rfl <;> assumption
theorem sym_comb {hs ls : List Nat} (h1 : ∀ c ∈ hs, c < 128) (h2 : ∀ c ∈ ls, c < 128) : ∀ x ∈ comb hs ls, Sym x := fun x hx => by
  obtain ⟨a, ha, b, hb, rfl⟩ := mem_comb hx
  exact ⟨a, b, rfl, h1 a ha, h2 b hb⟩
theorem strs_in {ss : List Str} {w : V} (h : w ∈ ss.map V.str) : ∃ x, x ∈ ss ∧ w = .str x := by
  obtain ⟨x, hx, rfl⟩ := List.mem_map.mp h
  exact ⟨x, hx, rfl⟩
end My
namespace My
open PySem PySem.Spec PyProof.Rows L2

/-! ### acceptors -/
def rowD (r : List Int) : PyData := .tuple (r.map PyData.int)
def rowsD (rows : List (List Int)) : PyData := .tuple (rows.map rowD)
structure RowsOk (rows : List (List Int)) (n m : Nat) : Prop where
  ln : rows.length = n
  w : ∀ r ∈ rows, r.length = m ∧ ∀ x ∈ r, 0 ≤ x ∧ x < (n : Int)
structure AccOk (rs : List Str) (rows : List (List Int)) (ac : List Int) : Prop where
  r1 : 1 ≤ rs.length
  r12 : rs.length ≤ 12
  n1 : 1 ≤ rows.length
  n2 : rows.length ≤ 200
  w : ∀ r ∈ rows, r.length = rs.length ∧ ∀ x ∈ r, 0 ≤ x ∧ x < (rows.length : Int)
  a : ∀ x ∈ ac, 0 ≤ x ∧ x < (rows.length : Int)
  a2 : ac.length ≤ 200
/-- a tuple of texts whose object is known -/
def Rds (H : Hp) (p : Addr) (rs : List Str) : Prop := ∃ o : Obj, H p = some (.frz o (.tup (rs.map V.str))) ∧ o.cls = .type "tuple" ∧ o.dict = Option.none
theorem Rds.sq {K : PySem.W.Frag} {H : Hp} {p : Addr} {rs : List Str} (h : Rds H p rs) : SqT K H p (rs.map V.str) := by
  obtain ⟨o, e, _⟩ := h
  exact .inl (.inr ⟨o, e⟩)
theorem Rds.kp {t : TA2} {K : PySem.W.Frag} {H H' : Hp} {p : Addr} {rs : List Str} (h : Rds H p rs) (k : Kp t H H') (T : Tape K H t) : Rds H' p rs := by
  obtain ⟨o, e, r⟩ := h
  obtain ⟨ys, g⟩ := T.lst
  exact ⟨o, k _ _ (ne_of e g (fun z => nomatch z)) e, r⟩
theorem Rds.same {H H' : Hp} {p : Addr} {rs : List Str} (h : Rds H p rs) (k : Same H H') : Rds H' p rs := by
  obtain ⟨o, e, r⟩ := h
  exact ⟨o, k _ _ e, r⟩
theorem Rds.new {H : Hp} {p q : Addr} {u : HO} {rs : List Str} (h : Rds H p rs) (n : H q = Option.none) : Rds (upd H q u) p rs := h.same (Same.new n)
theorem Rds.put {H : Hp} {p q : Addr} {xs ys : List V} {rs : List Str} (h : Rds H p rs) (n : H q = some (.lst xs)) : Rds (upd H q (.lst ys)) p rs := by
  obtain ⟨o, e, r⟩ := h
  exact ⟨o, by rw [upd_ne (ne_of e n (fun z => nomatch z))]; exact e, r⟩
theorem Rds.ne {K : PySem.W.Frag} {t : TA2} {H : Hp} {p : Addr} {rs : List Str} (h : Rds H p rs) (T : Tape K H t) : p ≠ t.1 := by
  obtain ⟨o, e, r⟩ := h
  obtain ⟨ys, g⟩ := T.lst
  exact ne_of e g (fun z => nomatch z)
section
variable {X : Cx}
def rTupF (K : PySem.W.Frag) : List V → Hp → VK → Prop := fun xs H Q => ∃ p ys, xs = [.ref p] ∧ SqL K H p ys ∧
  ∀ (l : Addr) (o : Obj), H l = Option.none → o.cls = .type "tuple" → o.dict = Option.none → Q (.ref l) (upd H l (.frz o (.tup ys)))
theorem call_tupF : CallR X (.type "tuple") (rTupF X.K) := by
  intro pins s σ H xs us Q I r h
  obtain ⟨p, ys, rfl, hq, q⟩ := h
  obtain ⟨u, rfl, rx⟩ := vals1 r
  cases rx
  obtain ⟨its, r2, pl, hz⟩ := I.list hq
  have hlen := r2.length
  refine call_tuple_list pl.isList (fun h2 kp => ?_) (by simp only [List.size_toArray] <;> omega)
  have J : Inv X pins σ H { s with heap := h2 } := I.kept (t' := s.toks) kp
  have L : Inv X pins σ (upd H h2.objs.size (.frz { cls := .type "tuple", data := .seq its.toArray } (.tup ys)))
      { s with heap := h2.push { cls := .type "tuple", data := .seq its.toArray } } :=
    J.laid (t' := s.toks) (fun b o e => Heap.get?_push_of_some _ e) (Nat.le_refl _) ⟨Heap.get?_push_size _ rfl, hz, its, r2, IsTup.new _ _⟩
  exact ⟨.ref h2.objs.size, _, L, rfl, q _ _ (J.hok.fresh (Nat.le_refl _)) rfl rfl⟩
/-- a method of such a tuple -/
def tyF (T : String) (x : V) (H : Hp) : Prop := ∃ (p : Addr) (o : Obj) (u : HO), x = .ref p ∧ H p = some (.frz o u) ∧ o.cls = .type T ∧ o.dict = Option.none
def tBF (T : String) (r : V → List V → Hp → VK → Prop) (to : TE) (t : TA) : TE := fun σ H Q => to σ H fun x H1 => tyF T x H1 ∧ t σ H1 fun xs H2 => r x xs H2 Q
variable {o e : Expr} {es : List Expr} {to : TE} {t : TA} {name : Str} {apos cpos : Pos} {T id : String} {r : V → List V → Hp → VK → Prop}
theorem pe_bf (pa : PlainAttrs T) (slot : Slot T name id) (hty : typeOf (.builtin id) = pure (.type "method_descriptor")) (hm : MtR X id r)
    (ho : PE X o to) (ha : PA X (e :: es) t) (hbase : attributeBase o name X.env (eval o X.env) = eval o X.env := by rfl)
    (hfw : ((backTo cpos (starEach (e :: es) X.env)).all (fun x => !x.1) && (backToKw cpos (keywordEach [] X.env)).all (fun x => x.1.isSome) && decide
      ((e :: es).length + ([] : List Keyword).length + (if ([] : List Keyword).isEmpty then 0 else 1) < 30)) = true := by rfl)
    (hln : (apos.endLine == cpos.line) = true := by rfl) (hs : starEach (e :: es) X.env = (false, eval e X.env) :: starEach es X.env := by rfl)
    (hpl : (backTo cpos (starEach es X.env)).any (·.1) = false := by rfl) :
    PE X (.Call (.Attribute o name apos) (e :: es) [] cpos) (tBF T r to t) := by
  constructor
  intro pins s σ H Q I h
  refine wpAny_Call_method_late hbase hfw hln rfl
    (thn (ho.run pins s σ H _ I h) ?_)
  rintro v s1 ⟨x, H1, I1, r1, ⟨p, ob, u, rfl, hp, hc, hd⟩, q1⟩
  cases r1
  have hk := (I1.hok p _ hp).1
  refine ⟨T, id, pa, slot, hty, ⟨ob, hk, hc⟩, fun a ea => by cases ea; exact ⟨ob, hk, hd⟩, ?_⟩
  have hA := ha.run cpos pins s1 σ H1 _ I1 q1
  rw [hs] at hA ⊢
  refine Calls.callWith_builtin (by show (false || (backTo cpos (starEach es X.env)).any (·.1)) = false; rw [hpl]; rfl)
    (Calls.evalArgs_plain (thn hA ?_))
  rintro us s2 ⟨vs, H2, I2, r2, q2⟩
  exact hm pins s2 σ H2 (.ref p) vs (.ref p) us Q I2 rfl r2 q2
def rIdx (K : PySem.W.Frag) : V → List V → Hp → VK → Prop := fun x xs H Q => ∃ p, ∃ ys : List Str, ∃ z j, x = .ref p ∧ xs = [.str z] ∧ SqT K H p (ys.map V.str) ∧ ys[j]? = some z ∧ (∀ m, m < j → ys[m]? ≠ some z) ∧ Q (.int (j : Nat)) H
theorem mt_idx : MtR X "tuple.index" (rIdx X.K) := mt_tup_index
end
def AccAt (H : Hp) (v : V) (rs : List Str) (rows : List (List Int)) (ac : List Int) : Prop :=
  ∃ p a b c, v = .ref p ∧ H p = some (.tup [.ref a, .ref b, .ref c]) ∧ Rds H a rs ∧ Im H (.ref b) (rowsD rows) ∧ H c = some (.tup (ac.map V.int))
theorem Im.row {H : Hp} {v : V} {r : List Int} (h : Im H v (rowD r)) : ∃ p, v = .ref p ∧ H p = some (.tup (r.map V.int)) := by
  obtain ⟨p, vs, rfl, hp, ha⟩ := Im.inv h
  exact ⟨p, rfl, by rw [hp, ha.ints_inv]⟩
theorem Im.mkrow {H : Hp} {p : Addr} {r : List Int} (h : H p = some (.tup (r.map V.int))) : Im H (.ref p) (rowD r) := .tup h (ImAll.ints r)
theorem AccAt.same {H H' : Hp} {v : V} {rs : List Str} {rows : List (List Int)} {ac : List Int} (h : AccAt H v rs rows ac) (k : Same H H') : AccAt H' v rs rows ac := by
  obtain ⟨p, a, b, c, e, hp, ha, hb, hc⟩ := h
  exact ⟨p, a, b, c, e, k _ _ hp, ha.same k, hb.kt (Same.kt k), k _ _ hc⟩
theorem AccAt.kp {t : TA2} {K : PySem.W.Frag} {H H' : Hp} {v : V} {rs : List Str} {rows : List (List Int)} {ac : List Int} (h : AccAt H v rs rows ac) (k : Kp t H H') (T : Tape K H t) : AccAt H' v rs rows ac := by
  obtain ⟨p, a, b, c, e, hp, ha, hb, hc⟩ := h
  exact ⟨p, a, b, c, e, k.kt T _ _ hp, ha.kp k T, hb.kt (k.kt T), k.kt T _ _ hc⟩
theorem AccAt.inv {H : Hp} {v : V} {rs : List Str} {rows : List (List Int)} {ac : List Int} (h : AccAt H v rs rows ac) :
    ∃ p a b c us, v = .ref p ∧ H p = some (.tup [.ref a, .ref b, .ref c]) ∧ Rds H a rs ∧ H b = some (.tup us) ∧
      ImAll H us (rows.map rowD) ∧ H c = some (.tup (ac.map V.int)) := by
  obtain ⟨p, a, b, c, e, hp, ha, hb, hc⟩ := h
  obtain ⟨b2, vb, e2, hb2, ib⟩ := Im.inv hb
  cases e2
  exact ⟨p, a, b, c, vb, e, hp, ha, hb2, ib, hc⟩
/-- one step -/
def stp (rs : List Str) (rows : List (List Int)) (a : Int) (x : Str) : Int := (rows.getD a.toNat []).getD (at1 rs x) 0
def st (rs : List Str) (rows : List (List Int)) (xs : List Str) : Int := xs.foldl (stp rs rows) 0
theorem st_snoc (rs : List Str) (rows : List (List Int)) (xs : List Str) (x : Str) : st rs rows (xs ++ [x]) = stp rs rows (st rs rows xs) x := by
  unfold st
  rw [List.foldl_append]
  rfl
theorem stp_get {rs : List Str} {rows : List (List Int)} {ac : List Int} (O : AccOk rs rows ac) {a : Int} (h0 : 0 ≤ a) (h1 : a < rows.length) {x : Str} (hx : x ∈ rs) :
    ∃ r, rows[a.toNat]? = some r ∧ r[at1 rs x]? = some (stp rs rows a x) ∧ 0 ≤ stp rs rows a x ∧ stp rs rows a x < rows.length := by
  have ha : a.toNat < rows.length := by omega
  have hr := O.w _ (List.getElem_mem ha)
  have hi : at1 rs x < rows[a.toNat].length := by rw [hr.1]; exact at1_lt hx
  have e1 : rows.getD a.toNat [] = rows[a.toNat] := by simp [ha]
  have e : stp rs rows a x = rows[a.toNat][at1 rs x] := by
    unfold stp
    rw [e1]
    simp [hi]
  refine ⟨rows[a.toNat], List.getElem?_eq_getElem ha, ?_, ?_⟩
  · rw [e]
    exact List.getElem?_eq_getElem hi
  · rw [e]
    exact hr.2 _ (List.getElem_mem hi)
theorem st_in {rs : List Str} {rows : List (List Int)} {ac : List Int} (O : AccOk rs rows ac) (xs : List Str) (h : ∀ x ∈ xs, x ∈ rs) : ∀ i, 0 ≤ st rs rows (xs.take i) ∧ st rs rows (xs.take i) < rows.length := by
  intro i
  induction i with
  | zero => exact ⟨Int.le_refl 0, by have := O.n1; show (0 : Int) < _; omega⟩
  | succ i ih =>
    rw [List.take_add_one]
    cases e : xs[i]? with
    | none => simpa using ih
    | some x =>
      show 0 ≤ st rs rows (_ ++ [x]) ∧ st rs rows (_ ++ [x]) < _
      rw [st_snoc]
      obtain ⟨r, _, _, h1, h2⟩ := stp_get O ih.1 ih.2 (h x (List.mem_of_getElem? e))
      exact ⟨h1, h2⟩
def alg (rs : List Str) (rows : List (List Int)) (xs : List Str) (i : Nat) : List Int := (List.range (i + 1)).map fun j => st rs rows (xs.take j)
theorem alg_succ (rs : List Str) (rows : List (List Int)) (xs : List Str) (i : Nat) : alg rs rows xs (i + 1) = alg rs rows xs i ++ [st rs rows (xs.take (i + 1))] := by
  unfold alg
  rw [List.range_succ, List.map_append]
  rfl
theorem alg_len (rs : List Str) (rows : List (List Int)) (xs : List Str) (i : Nat) : (alg rs rows xs i).length = i + 1 := by
  unfold alg
  rw [List.length_map, List.length_range]
theorem alg_last (rs : List Str) (rows : List (List Int)) (xs : List Str) (i : Nat) : atI ((alg rs rows xs i).map V.int) (-1) = some (.int (st rs rows (xs.take i))) := by
  cases i with
  | zero => rfl
  | succ i =>
    rw [alg_succ, List.map_append]
    exact atI_last _ _
theorem flat_ints : ∀ xs : List Int, (xs.map V.int).all flatV = true
  | [] => rfl
  | x :: xs => by
    rw [List.map_cons, List.all_cons, flat_ints xs]
    rfl
theorem sh_ints {xs : List Int} (h : ∀ x ∈ xs, 0 ≤ x ∧ x < 1000000) : Sh (.tuple (xs.map PyData.int)) 1 xs.length := by
  have := Sh.tup (dp := 0) (bk := 0) (ds := xs.map PyData.int) (fun d hd => by
    obtain ⟨x, hx, rfl⟩ := List.mem_map.mp hd
    have := h x hx
    exact Sh.int (by omega))
  rwa [List.length_map, Nat.zero_add, Nat.mul_one] at this
theorem atI_int {xs : List V} {a : Int} {v : V} (h0 : 0 ≤ a) (h : xs[a.toNat]? = some v) : atI xs a = some v := by
  have e := atI_nat h
  rw [Int.toNat_of_nonneg h0] at e
  exact e
end My
namespace My
open PySem PySem.Spec PyProof.Rows L2
/-- enumerate(text) -/
def IteS (x : Str) : It :=
  ⟨fun i _ => i < x.cps.size, fun i H v h => ∃ T c, v = .ref T ∧ H T = none ∧ h = upd H T (.tup [.int (i : Nat), .str ⟨#[c]⟩]) ∧ x.cps[i]? = some c,
    fun i _ => x.cps.size ≤ i⟩
theorem turn_enS {P : Program} {w : World} {K : PySem.W.Frag} {elts : List Expr} {kk : Nat} {tpos : Pos} (x : Str) (t : Tok) (e it : Addr) :
    Turn P w K (.Tuple elts kk tpos) (IteS x) [e, it] e
      (fun i h => i ≤ x.cps.size ∧ (∃ old, IsEnum h e it ((i : Nat) : Int) old) ∧ h.IsStrIter it (strIterType x) x t i ∧ e ≠ it) where
  mem := by simp
  obj := fun i h st b hb => by
    obtain ⟨_, ⟨old, he⟩, ⟨o, ho, hc, hd⟩, _⟩ := st
    have hz : b = e ∨ b = it := by simpa using hb
    rcases hz with z | z
    · rw [z]; exact ⟨_, he, fun v q => nomatch q⟩
    · rw [z]; exact ⟨o, ho, fun v q => by rw [hd] at q; cases q⟩
  keep := fun i h g st k => by
    obtain ⟨hi, ⟨old, he⟩, ⟨o, ho, r⟩, hne⟩ := st
    exact ⟨hi, ⟨old, k e (by simp) _ he⟩, ⟨o, k it (by simp) o ho, r⟩, hne⟩
  item := by
    intro X hP hw hK hc i pins s σ H E I hf st hg
    subst hP hw hK
    obtain ⟨hi, ⟨old, he⟩, hit, hne⟩ := st
    have hel : e < s.heap.objs.size := Heap.lt_size he
    have hil : it < s.heap.objs.size := by
      obtain ⟨_, q, _⟩ := hit
      exact Heap.lt_size q
    have D : Draws X.prog X.w X.A.in1 it [it] x.cps.size _ _ := Draws.text (show X.A.in1.handled = none from I.ok.hd hc) it x t
    refine wpAny_pyNext_enum_itemC D he hit hg hne (by simpa using hne) ?_
    rintro u h1 tk ⟨c, tc, hcx, rfl⟩ ho hit1 hT hsz hk
    refine ⟨_, rfl, wpAny_letOwnedTupleGo_enum (s := { s with heap := h1, toks := tk + 1 }) ho ?_⟩
    intro h2 he2 sb
    have hT2 : h2.get? s.heap.objs.size = some { cls := .type "tuple", data := .seq #[.int i tk, .str ⟨#[c]⟩ tc] } :=
      (sb.2 _ (Nat.ne_of_gt hel)).trans hT
    have new : ObjOk X.prog X.w (upd H s.heap.objs.size (.tup [.int (i : Nat), .str ⟨#[c]⟩])) h2 s.heap.objs.size (.tup [.int (i : Nat), .str ⟨#[c]⟩]) :=
      ⟨le_size0 rfl, [.int i tk, .str ⟨#[c]⟩ tc], .cons ⟨_, rfl⟩ (.cons ⟨_, rfl⟩ .nil), ⟨_, hT2, rfl, _, rfl⟩⟩
    have J : Inv X pins σ (upd H s.heap.objs.size (.tup [.int (i : Nat), .str ⟨#[c]⟩])) { s with heap := h2, toks := tk + 1 } :=
      I.turnedNew (ch := [e, it]) (fun b ob hb q => (sb.2 b (fun z => hb (by simp [z]))).trans
        (hk b ob (fun z => hb (by simp [z])) (fun z => hb (by simp [z])) q)) hf (Nat.le_refl _) new
    have hit2 : h2.IsStrIter it (strIterType x) x t (i + 1) := by
      obtain ⟨o, q, r⟩ := hit1
      exact ⟨o, (sb.2 it hne.symm).trans q, r⟩
    refine ⟨.ref s.heap.objs.size, _, J, rfl, ⟨_, c, rfl, I.hok.fresh (Nat.le_refl _), rfl, hcx⟩, ⟨hg, ⟨.str ⟨#[c]⟩ tc, ?_⟩, hit2, hne⟩, fun b hb => ?_⟩
    · rw [show ((i + 1 : Nat) : Int) = (i : Int) + 1 by omega]
      exact he2
    · have hz : b = e ∨ b = it := by simpa using hb
      have hlt : b < s.heap.objs.size := by
        rcases hz with z | z
        · rw [z]; exact hel
        · rw [z]; exact hil
      rw [upd_ne (Nat.ne_of_lt hlt)]
      exact (hf b hb).1
  done := by
    intro X hP hw hK hc i pins s σ H E I hf st hg
    subst hP hw hK
    obtain ⟨hi, ⟨old, he⟩, hit, hne⟩ := st
    have ei : i = x.cps.size := Nat.le_antisymm hi hg
    subst ei
    obtain ⟨f0, f1, f2, f3, f4, f5⟩ := hf it (by simp)
    have D : Draws X.prog X.w X.A.in1 it [it] x.cps.size _ _ := Draws.text (show X.A.in1.handled = none from I.ok.hd hc) it x t
    exact wpAny_pyNext_enum_endD D he hit fun h1 eb => ⟨rfl, I.turned (t' := s.toks) (fun b o hb q => eb b o hb q) f0 f1 f3 f4 f5⟩
  self := fun A i s Q E st h => by
    obtain ⟨_, ⟨_, he⟩, _⟩ := st
    exact wpAny_pyIter_enum he h
def iEnS (ta : TA) : TI := fun σ H R => ta σ H fun vs h => ∃ x, vs = [.str x] ∧ R (IteS x) h
theorem pi_enS {X : Cx} {e : Expr} {ta : TA} {p pos tpos : Pos} {elts : List Expr} {kk : Nat} (hg : Gl X "enumerate") (hm : X.mg "enumerate" = none)
    (ha : PA X [e] ta) (hs : starEach [e] X.env = [(false, eval e X.env)] := by rfl) :
    PI X (.Tuple elts kk tpos) (.Call (.Name "enumerate" p) [e] [] pos) (iEnS ta) := by
  constructor
  intro pins s σ H R I h
  refine Call_ (ld_blt I hg hm boot_enumerate (PyProof.Rows.callWith_type1
    (thn (ha.run pos pins s σ H _ I h) ?_) hs rfl))
  rintro us s1 ⟨vs, H1, I1, r1, x, rfl, q⟩
  cases r1 with
  | cons r rr =>
    cases rr
    obtain ⟨t, rfl⟩ := r
    refine call_enumerate_str ?_
    intro h1 he hit hsz hk
    refine wpAny_pyIter_enum he ?_
    have J : Inv X pins σ H1 { s1 with heap := h1 } := I1.kept (t' := s1.toks) hk
    refine ⟨s1.heap.objs.size + 1, [s1.heap.objs.size + 1, s1.heap.objs.size], _, _, H1, rfl, J, turn_enS x t (s1.heap.objs.size + 1) s1.heap.objs.size,
      ⟨Nat.zero_le _, ⟨.none, he⟩, hit, Nat.succ_ne_self _⟩, fun b hb => ?_, q⟩
    have hz : b = s1.heap.objs.size + 1 ∨ b = s1.heap.objs.size := by simpa using hb
    have hle : s1.heap.objs.size ≤ b := by
      rcases hz with z | z
      · rw [z]; exact Nat.le_add_right _ _
      · rw [z]; exact Nat.le_refl _
    exact I1.fpOk hle (I1.hok.fresh hle)
theorem walk_enS {x : Str} : Walk (IteS x) x.cps.size (fun _ => True) (fun i H v h => ∃ T c, v = .ref T ∧ H T = none ∧ h = upd H T (.tup [.int (i : Nat), .str ⟨#[c]⟩]) ∧ x.cps[i]? = some c) :=
  ⟨fun _ _ hi _ => hi, fun _ _ => Nat.le_refl _, fun _ _ _ _ _ _ y => y⟩
end My
set_option maxHeartbeats 4000000
namespace My
open PySem PySem.Spec PyProof.Rows L2
theorem mul_empty (l : Addr) (n : Nat) (dd : Option Addr) (sl : Array (Option Value)) (x : Int) (u : Tok)
    (c0 : (decide (x < -(2 ^ 63)) || decide (x ≥ 2 ^ 63)) = false) (hx : 2 ≤ x) :
    Meets (Builtin.«tuple.__mul__» ⟨[.ref l, .int x u], []⟩) (fun _ R s =>
      s.heap.get? l = some { cls := .type "tuple", dict := dd, data := .seq #[] n, slots := sl } ∧ R (.ok (.ret (Value.ref l))) s) :=
  .of_wp fun prog w A R s h => by
    obtain ⟨hp, g, d, tk, os⟩ := s
    obtain ⟨hl, h⟩ := h
    have f1 := AutoSeq1.idx_int
    wp_walk using wpAny_loadPart' hl
    repeat (first
      | (refine wpAny_ite_false (decide_eq_false (by rw [c0]; exact Bool.false_ne_true)) ?_; wp_walk using wpAny_loadPart' hl)
      | (refine wpAny_ite_true (by simp) ?_; wp_walk using wpAny_loadPart' hl))
    exact ⟨_, rfl, h⟩
/-- tuple * int, the empty one too -/
def rRepE (K : PySem.W.Frag) : R2 := fun x y H Q => ∃ l k xs, x = .ref l ∧ y = .int k ∧ SqT K H l xs ∧ 2 ≤ k ∧ k ≤ 1000 ∧ xs.length ≤ 1000 ∧
  (xs = [] → Q (.ref l) H) ∧ (xs ≠ [] → ∀ p, H p = none → Q (.ref p) (upd H p (.tup (List.replicate k.toNat xs).flatten)))
theorem op_repE {X : Cx} : OpR X (binaryOp .Mult) (rRepE X.K) := by
  intro pins s σ H x y v u Q I rx ry h
  obtain ⟨l, k, xs, rfl, rfl, hT, h1, h2, hz, q1, q2⟩ := h
  by_cases hne : xs = []
  · subst hne
    cases rx
    obtain ⟨t, rfl⟩ := ry
    obtain ⟨its, r, ⟨⟨cls, dd, data, sl⟩, ho, hc, n, hd⟩, hs⟩ := I.tuple hT
    simp only at hc hd
    subst hc hd
    have hn : its = [] := by
      cases r
      rfl
    subst hn
    have c0 : (decide (k < -(2 ^ 63)) || decide (k ≥ 2 ^ 63)) = false := by
      rw [decide_eq_false (by omega), decide_eq_false (by omega)] <;> rfl
    refine wpAny_binaryOp_repeat_ref (T := "tuple") (U := "int") (by decide) ⟨_, ho, rfl⟩ (fun s2 => typeIs_int s2 k t) noFill_tuple_mul
      F.fills_int_mul F.slot_int_rmul repeat_tuple F.slot_int_index.lookup ?_
    refine call_meets F.slot_int_rmul (typeIs_int s k t) F.entry_int_rmul (F.args_int_rmul_2 _ _) (int_rmul_tuple k t l #[] n dd sl) ⟨ho, rfl, ⟨_, ho, rfl⟩, ?_⟩
    refine call_meets F.slot_tuple_mul ⟨_, ho, rfl⟩ F.entry_tuple_mul (F.args_tuple_mul_2 _ _) (mul_empty l n dd sl k t c0 h1) ⟨ho, ?_⟩
    exact ⟨.ref l, H, I, rfl, q1 rfl⟩
  · exact op_repT pins s σ H (.ref l) (.int k) v u Q I rx ry ⟨l, k, xs, rfl, rfl, hT, hne, h1, h2, hz, q2 hne⟩
/-- slices of tuples -/
theorem cut_to (xs : List V) (n : Nat) : cutV xs none (some (n : Int)) = xs.take n := by
  unfold cutV
  rw [HT.sIx_none, show HT.sIx xs.length xs.length (some (n : Int)) = min n xs.length from HT.sIx_nat xs.length xs.length n, List.drop_zero, Nat.sub_zero]
  by_cases h : n ≤ xs.length
  · rw [Nat.min_eq_left h]
  · rw [Nat.min_eq_right (by omega), List.take_of_length_le (Nat.le_refl _), List.take_of_length_le (by omega)]
/-! ### texts of sequences -/
/-- a symbol of an alphabet -/
def Sy (p : Nat × Nat) : Prop := (p.1 = 64 ∨ (65 ≤ p.1 ∧ p.1 ≤ 90)) ∧ 97 ≤ p.2 ∧ p.2 ≤ 122
abbrev syp (p : Nat × Nat) : Str := sy p.1 p.2
/-- a text that stands for a sequence, behind a holder -/
inductive Wr : Option Nat → List (Nat × Nat) → List Nat → Prop
  | nil (c : Option Nat) : Wr c [] []
  | new {c : Option Nat} {h l : Nat} {ps : List (Nat × Nat)} {t : List Nat} : Wr (some h) ps t → Wr c ((h, l) :: ps) (h :: l :: t)
  | old {h l : Nat} {ps : List (Nat × Nat)} {t : List Nat} : Wr (some h) ps t → Wr (some h) ((h, l) :: ps) (l :: t)
def lastH : Option Nat → List (Nat × Nat) → Option Nat
  | c, [] => c
  | _, p :: ps => lastH (some p.1) ps
theorem lastH_snoc (p : Nat × Nat) : ∀ (c : Option Nat) (ps : List (Nat × Nat)), lastH c (ps ++ [p]) = some p.1
  | _, [] => rfl
  | _, q :: ps => lastH_snoc p (some q.1) ps
theorem Wr.snoc {c : Option Nat} {ps : List (Nat × Nat)} {t : List Nat} (w : Wr c ps t) (h l : Nat) : Wr c (ps ++ [(h, l)]) (t ++ [h, l]) := by
  induction w with
  | nil c => exact .new (.nil _)
  | new _ ih => exact .new ih
  | old _ ih => exact .old ih
theorem Wr.snoc1 {c : Option Nat} {ps : List (Nat × Nat)} {t : List Nat} (w : Wr c ps t) {h : Nat} (l : Nat) (e : lastH c ps = some h) : Wr c (ps ++ [(h, l)]) (t ++ [l]) := by
  induction w with
  | nil c =>
    have e : c = some h := e
    subst e
    exact .old (.nil _)
  | new _ ih => exact .new (ih e)
  | old _ ih => exact .old (ih e)
/-- the least text -/
def enc : Option Nat → List (Nat × Nat) → List Nat
  | _, [] => []
  | c, p :: ps => if c = some p.1 then p.2 :: enc (some p.1) ps else p.1 :: p.2 :: enc (some p.1) ps
theorem enc_cons (c : Option Nat) (p : Nat × Nat) (ps : List (Nat × Nat)) : enc c (p :: ps) = if c = some p.1 then p.2 :: enc (some p.1) ps else p.1 :: p.2 :: enc (some p.1) ps := rfl
theorem enc_wr : ∀ (c : Option Nat) (ps : List (Nat × Nat)), Wr c ps (enc c ps)
  | c, [] => .nil c
  | c, (h, l) :: ps => by
    rw [enc_cons]
    by_cases e : c = some h
    · rw [if_pos e, e]
      exact .old (enc_wr _ ps)
    · rw [if_neg e]
      exact .new (enc_wr _ ps)
theorem enc_snoc (p : Nat × Nat) : ∀ (c : Option Nat) (ps : List (Nat × Nat)), enc c (ps ++ [p]) = enc c ps ++ (if lastH c ps = some p.1 then [p.2] else [p.1, p.2])
  | c, [] => by
    show enc c [p] = [] ++ (if c = some p.1 then [p.2] else [p.1, p.2])
    rw [enc_cons, List.nil_append]
    by_cases e : c = some p.1
    · rw [if_pos e, if_pos e]
      rfl
    · rw [if_neg e, if_neg e]
      rfl
  | c, q :: ps => by
    have ih := enc_snoc p (some q.1) ps
    show enc c (q :: (ps ++ [p])) = enc c (q :: ps) ++ (if lastH (some q.1) ps = some p.1 then [p.2] else [p.1, p.2])
    rw [enc_cons, enc_cons, ih]
    by_cases e : c = some q.1
    · rw [if_pos e, if_pos e]
      rfl
    · rw [if_neg e, if_neg e]
      rfl
theorem enc_le {c : Option Nat} {ps : List (Nat × Nat)} {t : List Nat} (w : Wr c ps t) : (enc c ps).length ≤ t.length := by
  induction w with
  | nil c => exact Nat.le_refl _
  | @new c h l ps t _ ih =>
    rw [enc_cons]
    split <;> (simp only [List.length_cons] at *; omega)
  | @old h l ps t _ ih =>
    rw [enc_cons, if_pos rfl]
    simp only [List.length_cons] at *
    omega
theorem Wr.len {c : Option Nat} {ps : List (Nat × Nat)} {t : List Nat} (w : Wr c ps t) : t.length ≤ 2 * ps.length := by
  induction w with
  | nil c => exact Nat.le_refl _
  | new _ ih => simp only [List.length_cons] at *; omega
  | old _ ih => simp only [List.length_cons] at *; omega
theorem Wr.sg {c : Option Nat} {ps : List (Nat × Nat)} {t : List Nat} (w : Wr c ps t) (h : ∀ p ∈ ps, Sy p) : ∀ d ∈ t, d < 128 := by
  induction w with
  | nil c => exact fun d hd => nomatch hd
  | @new c a l ps t _ ih =>
    intro d hd
    have s := h (a, l) List.mem_cons_self
    unfold Sy at s
    rcases List.mem_cons.mp hd with rfl | hd
    · have s1 := s.1
      simp only at s1
      omega
    · rcases List.mem_cons.mp hd with rfl | hd
      · have s1 := s.2
        simp only at s1
        omega
      · exact ih (fun p hp => h p (List.mem_cons_of_mem _ hp)) d hd
  | @old a l ps t _ ih =>
    intro d hd
    have s := h (a, l) List.mem_cons_self
    unfold Sy at s
    rcases List.mem_cons.mp hd with rfl | hd
    · have s1 := s.2
      simp only at s1
      omega
    · exact ih (fun p hp => h p (List.mem_cons_of_mem _ hp)) d hd
theorem one_lt (a b : Nat) : decide (([a] : List Nat) < [b]) = decide (a < b) := by
  by_cases h : a < b
  · rw [decide_eq_true h]
    exact decide_eq_true (List.Lex.rel h)
  · rw [decide_eq_false h]
    refine decide_eq_false fun q => ?_
    cases q with
    | rel r => exact h r
    | cons r => cases r
def Lt (c : Nat) : Bool := decide (97 ≤ c) && decide (c ≤ 122)
def Hd (c : Nat) : Bool := decide (c = 64) || (decide (65 ≤ c) && decide (c ≤ 90))
/-- how decoding stands: what is found, the holder, what is still due of the text -/
inductive Dc (ps : List (Nat × Nat)) : List (Nat × Nat) → Str → Bool → List Nat → Prop
  | start {t : List Nat} : Wr none ps t → Dc ps [] "" true t
  | whole {a b : List (Nat × Nat)} {h : Nat} {t : List Nat} : ps = a ++ b → (h = 64 ∨ (65 ≤ h ∧ h ≤ 90)) → Wr (some h) b t → Dc ps a ⟨#[h]⟩ true t
  | half {a b : List (Nat × Nat)} {h l : Nat} {t : List Nat} : ps = a ++ (h, l) :: b → Wr (some h) b t → Dc ps a ⟨#[h]⟩ false (l :: t)
end My
namespace My
open PySem PySem.Spec PyProof.Rows L2
def hst : Option Nat → Str
  | none => Str.ofString ""
  | some h => ⟨#[h]⟩
theorem hst_eq (h : Nat) (o : Option Nat) : (V.str ⟨#[h]⟩ = V.str (hst o)) ↔ o = some h := by
  cases o with
  | none =>
    refine ⟨fun q => ?_, fun q => nomatch q⟩
    have e : (⟨#[h]⟩ : Str) = Str.ofString "" := V.str.inj q
    have e2 := congrArg Str.length e
    cases (show (1 : Nat) = 0 from e2)
  | some k =>
    refine ⟨fun q => ?_, fun q => ?_⟩
    · have e : (⟨#[h]⟩ : Str) = ⟨#[k]⟩ := V.str.inj q
      have e2 : [h] = [k] := congrArg (fun x : Str => x.cps.toList) e
      have e3 : h = k := by simpa using e2
      rw [e3]
    · rw [Option.some.inj q]
      rfl
abbrev one1 (c : Nat) : Str := ⟨#[c]⟩
theorem pairs_of {hs ls : List Nat} (h1 : ∀ c ∈ hs, c = 64 ∨ (65 ≤ c ∧ c ≤ 90)) (h2 : ∀ c ∈ ls, 97 ≤ c ∧ c ≤ 122) : ∀ xs : List Str, (∀ x ∈ xs, x ∈ comb hs ls) →
    ∃ ps : List (Nat × Nat), xs = ps.map syp ∧ ∀ p ∈ ps, Sy p
  | [], _ => ⟨[], rfl, fun _ h => nomatch h⟩
  | x :: xs, h => by
    obtain ⟨ps, e, hp⟩ := pairs_of h1 h2 xs fun y hy => h y (List.mem_cons_of_mem _ hy)
    obtain ⟨a, ha, b, hb, rfl⟩ := mem_comb (h x List.mem_cons_self)
    refine ⟨(a, b) :: ps, by rw [e]; rfl, fun p hp2 => ?_⟩
    rcases List.mem_cons.mp hp2 with rfl | hp2
    · exact ⟨h1 a ha, h2 b hb⟩
    · exact hp p hp2
theorem lows_rng : ∀ c ∈ lows, 97 ≤ c ∧ c ≤ 122 := by decide
theorem caps_rng : ∀ c ∈ caps, 65 ≤ c ∧ c ≤ 90 := by decide
theorem sy_sym {p : Nat × Nat} (h : Sy p) : Sg (syp p) ∧ (syp p).length ≤ 2 := by
  unfold Sy at h
  refine Sym.sg ⟨p.1, p.2, rfl, ?_, ?_⟩
  · have := h.1
    omega
  · have := h.2
    omega
theorem sh_ps {ps : List (Nat × Nat)} (h : ∀ p ∈ ps, Sy p) : Sh (.tuple ((ps.map syp).map PyData.str)) 1 ((ps.map syp).length * 3) :=
  sh_strs (n := 2) fun x hx => by
    obtain ⟨p, hp, rfl⟩ := List.mem_map.mp hx
    exact sy_sym (h p hp)
end My
namespace My
open PySem PySem.Spec PyProof.Rows L2
def topS (i : Nat) : Stmt := PySem.Challenge.pw_excerptcheck_k02_texts_of_sequences.main.body.getD i (.Pass ⟨0, 0, 0, 0⟩)
structure Bn (mg : Str → Option Value) : Prop where
  len_ : mg "len" = none
  max_ : mg "max" = none
  abs_ : mg "abs" = none
  int_ : mg "int" = none
  list_ : mg "list" = none
  tuple_ : mg "tuple" = none
  range_ : mg "range" = none
  repr_ : mg "repr" = none
  enumerate_ : mg "enumerate" = none
local macro_rules | `(tactic| walk_at "h") => `(tactic| first | assumption | exact upd_same)
local macro_rules | `(tactic| walk_at "c1") => `(tactic| first | exact .inr ⟨by decide, by decide⟩ | exact .inl ⟨by decide, by decide⟩ | exact rfl | exact ⟨by decide, by decide, by decide⟩ | (show (0 : Int) < _; first | decide | omega | (split <;> omega)) | (show (0 : Int) < _ ∧ _ < (1073741824 : Int); constructor <;> (split <;> omega)) | exact le_size0 rfl | exact le_size (by omega))
local macro_rules | `(tactic| walk_at "r") => `(tactic| repeat (first | refine ⟨_, rfl, ?_⟩ | refine ⟨⟨_, rfl⟩, ?_⟩ | refine ⟨_, _, rfl, rfl, ?_⟩ | refine .inl ⟨_, rfl, ?_⟩ | refine ⟨by walk_at "c1", ?_⟩ | refine ⟨_, _, _, _, rfl, rfl, .inl (.inl (by walk_at "h")), atI_nat (j := 0) rfl, ?_⟩ | refine ⟨_, _, _, _, rfl, rfl, .inl (.inl (by walk_at "h")), atI_nat (j := 1) rfl, ?_⟩ | refine ⟨_, _, _, _, rfl, rfl, .inl (.inl (by walk_at "h")), atI_nat (j := 2) rfl, ?_⟩ | refine ⟨_, _, _, _, rfl, rfl, .inl (.inl (by walk_at "h")), atI_nat (j := 3) rfl, ?_⟩ | refine ⟨_, _, _, _, rfl, rfl, by walk_at "h", rfl, ?_⟩ | refine ⟨_, _, rfl, .inl (.inl (.inl (by walk_at "h"))), ?_⟩ | refine ⟨_, _, (rfl : [V.int _, V.int _] = [V.int _, V.int _]), ?_⟩))
section
variable {P : Program} {w : World} {K : PySem.W.Frag} {mg : Str → Option Value} {base : Heap}
abbrev s_lawtape : Stmt := topS 10
abbrev N_lawtape : List Str := ["script", "total", "cell"]
theorem sc_lawtape : FnScope N_lawtape ["script"] (defScope s_lawtape) := ⟨rfl, rfl, rfl, by decide +kernel, rfl, by decide +kernel, by decide +kernel⟩
set_option maxHeartbeats 1000000 in
theorem ok_lawtape (D : Df K mg "_law_tape" s_lawtape ["script"]) (B : Bn mg)   : Cal P w K mg base 1 "_law_tape" ["script"] (spTape K) := by
  refine D.cal sc_lawtape ?_ ?_
  · intro vs H Q E h; obtain ⟨a, ns, rfl, _⟩ := h; rfl
  intro f cdv A o s H vs Q E hr h
  obtain ⟨a, ns, rfl, hS, hl, q⟩ := h
  have nd := sc_lawtape.nd
  refine ⟨_, (pss_cons (ps_set (i := 1) nd rfl (Or.inl rfl) pe_int)
    (pss_cons (ps_for PassesOwn.never rfl (show PI _ _ _ (iList K _) from pi_list (pv 0)) (pg_name (i := 2) nd rfl (Or.inl rfl))
      (pss_one (ps_set (i := 1) nd rfl (Or.inl rfl) (pe_op op_mod (pe_callTy (T := "int") call_int1 rfl B.int_ (by decide +kernel) (pa_cons (pe_op op_add (pe_op op_mul (pv 1) pe_int) (pe_callB (id := "abs") call_abs rfl B.abs_ (by decide +kernel) (pa_cons (pe_callTy (T := "int") call_int1 rfl B.int_ (by decide +kernel) (pa_cons (pv 2) pa_nil)) pa_nil))) pa_nil)) pe_int))))
    (pss_one (ps_ret (pe_lst (pa_cons (pe_callTy (T := "list") (r := rLisOf K) call_lisK rfl B.list_ (by decide +kernel) (pa_cons (pv 0) pa_nil)) (pa_cons pe_int (pa_cons pe_int (pa_cons (pv 1) pa_nil))))))))), ?_⟩
  refine ⟨_, rfl, a, rfl, ⟨_, hS⟩, for_it (walk_list (xs := ns.map V.int)) (fun i σ H' => ∃ v y, σ = [some (.ref a), some (.int v), y] ∧ 0 ≤ v ∧ H' = H) ⟨7, none, rfl, by omega, rfl⟩ ?_ ?_ ?_⟩
  · rintro i σ H' hi ⟨v, y, rfl, hv, rfl⟩
    exact hS
  · rintro i x σ H1 H2 hi ⟨v, y, rfl, hv, rfl⟩ ⟨rfl, hx⟩
    obtain ⟨c, rfl⟩ : ∃ c : Int, x = .int c := by
      rw [List.getElem?_map] at hx
      cases e : ns[i]? with
      | none => rw [e] at hx; cases hx
      | some c => rw [e] at hx; exact ⟨c, (Option.some.inj hx).symm⟩
    walk_at "r"
    exact ⟨_, _, rfl, Int.emod_nonneg _ (by decide), rfl⟩
  · rintro σ H2 ⟨v, y, rfl, hv, rfl⟩
    walk_at "r"
    refine ⟨_, _, rfl, .inl hS, fun c hc => ?_⟩
    walk_at "r"
    intro t ht
    have hct : c ≠ t := fun e => by
      rw [e, upd_same] at ht; cases ht
    have hn : H2 t = none := by rw [upd_ne hct.symm] at ht; exact ht
    refine q (t, c) _ (fun b u e => ?_) hn ⟨ns, 0, 0, v, upd_same, hct, ?_, by omega, by omega, hv⟩
    · rw [upd_ne (ne_of_none e hn), upd_ne (ne_of_none e hc)]
      exact e
    · show upd (upd H2 c _) t _ c = _
      rw [upd_ne hct, upd_same]
abbrev s_lawdraw : Stmt := topS 11
abbrev N_lawdraw : List Str := ["tape", "many", "place", "number"]
theorem sc_lawdraw : FnScope N_lawdraw ["tape", "many"] (defScope s_lawdraw) := ⟨rfl, rfl, rfl, by decide +kernel, rfl, by decide +kernel, by decide +kernel⟩
set_option maxHeartbeats 1000000 in
theorem ok_lawdraw (D : Df K mg "_law_draw" s_lawdraw ["tape", "many"]) (B : Bn mg)   : Cal P w K mg base 1 "_law_draw" ["tape", "many"] (spDraw K) := by
  refine D.cal sc_lawdraw ?_ ?_
  · intro vs H Q E h; obtain ⟨t, m, rfl, _⟩ := h; rfl
  intro f cdv A o s H vs Q E hr h
  obtain ⟨t, m, rfl, T, hm, q⟩ := h
  have nd := sc_lawdraw.nd
  refine ⟨_, (pss_cons (ps_if (pt_cmpR op_eq (pe_ix (r := rIxL K) ix_list (pv 0) pe_int (fun _ _ => rfl)) pe_int (nomark _))
      (pss_cons (ps_set (i := 2) nd rfl (Or.inl rfl) (pe_ix (r := rIxL K) ix_list (pv 0) pe_int (fun _ _ => rfl)))
      (pss_cons (ps_set (i := 3) nd rfl (Or.inl rfl) pe_int)
      (pss_cons (ps_if (pt_cmpR op_lt (pv 2) (pe_callB (id := "len") (r := rLenS K) call_lenK rfl B.len_ PySem.boot_len (pa_cons (pe_ix (r := rIxL K) ix_list (pv 0) pe_int (fun _ _ => rfl)) pa_nil)) (nomark _))
        (pss_one (ps_set (i := 3) nd rfl (Or.inl rfl) (pe_callB (id := "abs") call_abs rfl B.abs_ (by decide +kernel) (pa_cons (pe_callTy (T := "int") call_int1 rfl B.int_ (by decide +kernel) (pa_cons (pe_ix (r := rIxL K) ix_list (pe_ix (r := rIxL K) ix_list (pv 0) pe_int (fun _ _ => rfl)) (pv 2) (fun _ _ => rfl)) pa_nil)) pa_nil))))
        (pss_cons (ps_asg (pe_op op_mod (pe_callTy (T := "int") call_int1 rfl B.int_ (by decide +kernel) (pa_cons (pe_op op_add (pe_op op_add (pe_op op_mul (pe_ix (r := rIxL K) ix_list (pv 0) pe_int (fun _ _ => rfl)) pe_int) (pv 2)) pe_int) pa_nil)) pe_int) (pg_sub (pv 0) pe_int set_list))
        (pss_one (ps_set (i := 3) nd rfl (Or.inl rfl) (pe_ix (r := rIxL K) ix_list (pv 0) pe_int (fun _ _ => rfl))))))
      (pss_cons (ps_asg (pe_op op_add (pv 2) pe_int) (pg_sub (pv 0) pe_int set_list))
      (pss_cons (ps_if (pt_cmpR op_lt (pv 3) (pe_op op_pow pe_int pe_int) (nomark _))
        (pss_cons (ps_set (i := 3) nd rfl (Or.inl rfl) (pe_op op_mod (pe_callTy (T := "int") call_int1 rfl B.int_ (by decide +kernel) (pa_cons (pe_op op_add (pe_op op_add (pe_op op_mul (pv 3) pe_int) (pe_op op_mul (pv 2) pe_int)) pe_int) pa_nil)) pe_int))
        (pss_cons (ps_set (i := 3) nd rfl (Or.inl rfl) (pe_op op_mod (pe_callTy (T := "int") call_int1 rfl B.int_ (by decide +kernel) (pa_cons (pe_op op_mul (pv 3) pe_int) pa_nil)) pe_int))
        (pss_one (ps_ret (pe_op op_mod (pe_callTy (T := "int") call_int1 rfl B.int_ (by decide +kernel) (pa_cons (pv 3) pa_nil)) (pe_callB (id := "max") (call_max2 rfl) rfl B.max_ (by decide +kernel) (pa_cons (pv 1) (pa_cons pe_int pa_nil))))))))
        pss_nil)
      (pss_one (ps_asg (pv 3) (pg_sub (pv 0) pe_int set_list))))))))
      pss_nil)
    (pss_cons (ps_set (i := 3) nd rfl (Or.inl rfl) (pe_ix (r := rIxL K) ix_list (pv 0) pe_int (fun _ _ => rfl)))
    (pss_cons (ps_asg (pe_op op_fdiv (pv 3) (pe_callB (id := "max") (call_max2 rfl) rfl B.max_ (by decide +kernel) (pa_cons (pv 1) (pa_cons pe_int pa_nil)))) (pg_sub (pv 0) pe_int set_list))
    (pss_one (ps_ret (pe_op op_mod (pe_callTy (T := "int") call_int1 rfl B.int_ (by decide +kernel) (pa_cons (pv 3) pa_nil)) (pe_callB (id := "max") (call_max2 rfl) rfl B.max_ (by decide +kernel) (pa_cons (pv 1) (pa_cons pe_int pa_nil))))))))), ?_⟩
  obtain ⟨t, c⟩ := t
  obtain ⟨ns, p, n, sd, ht, hct, hc, hp, hn, hs⟩ := T.ex
  have ht : H t = some (HO.lst [V.ref c, V.int p, V.int n, V.int sd]) := ht
  have hct : c ≠ t := hct
  have hc : H c = some (HO.lst (ns.map V.int)) := hc
  have q : ∀ v H', 0 ≤ v → v < max m 1 → Kp (t, c) H H' → (∀ b, H b = none → H' b = none) → Tape K H' (t, c) → Q (.int v) H' := q
  have q2 : ∀ (v p' n' s' : Int), 0 ≤ v → v < max m 1 → 0 ≤ p' → 0 ≤ n' → 0 ≤ s' → Q (.int v) (upd H t (.lst [.ref c, .int p', .int n', .int s'])) := fun v p' n' s' h1 h2 h3 h4 h5 =>
    q v _ h1 h2 (Kp.self (t := (t, c))) (fun b hb => by rw [upd_ne (ne_of_none ht hb).symm]; exact hb) ⟨ns, p', n', s', upd_same, hct, by show upd H t _ c = _; rw [upd_ne hct]; exact hc, h3, h4, h5⟩
  have e1 : (if (1 : Int) > m then 1 else m) = max m 1 := by
    split <;> omega
  have m1 : 0 < max m 1 := by omega
  have fin : ∀ z : Int, 0 ≤ z % (if (1 : Int) > m then 1 else m) ∧ z % (if (1 : Int) > m then 1 else m) < max m 1 := fun z => by
    rw [e1]
    exact ⟨Int.emod_nonneg _ (by omega), Int.emod_lt_of_pos _ m1⟩
  have d0 : ∀ z : Int, 0 ≤ z → 0 ≤ z / (if (2 : Int) > m then 2 else m) := fun z hz =>
    Int.ediv_nonneg hz (by split <;> omega)
  walk_at "r"
  refine ite2 (fun e => ?_) (fun e => ?_)
  · walk_at "r"
    refine ite2 (fun e2 => ?_) (fun e2 => ?_)
    · have e3 := of_decide_eq_true e2
      rw [List.length_map] at e3
      have e4 : p.toNat < ns.length := by omega
      have e5 : atI (ns.map V.int) p = some (.int ns[p.toNat]) := by
        have z := atI_nat (xs := ns.map V.int) (j := p.toNat) (v := .int ns[p.toNat]) (by rw [List.getElem?_map, List.getElem?_eq_getElem e4]; rfl)
        rw [Int.toNat_of_nonneg hp] at z
        exact z
      refine ⟨_, rfl, ?_⟩
      walk_at "r"
      refine ⟨_, _, _, _, rfl, rfl, .inl (.inl hc), e5, ?_⟩
      walk_at "r"
      generalize hx : (if ns[p.toNat] < 0 then -ns[p.toNat] else ns[p.toNat]) = x
      have hx0 : 0 ≤ x := by
        rw [← hx]
        split <;> omega
      refine ite2 (fun e6 => ?_) (fun e6 => ?_)
      · walk_at "r"
        exact q2 _ (p + 1) n sd (fin _).1 (fin _).2 (by omega) hn hs
      · walk_at "r"
        rw [upd_upd, upd_upd]
        exact q2 _ (p + 1) _ sd (fin _).1 (fin _).2 (by omega) (d0 _ hx0) hs
    · walk_at "r"
      have s0 : 0 ≤ (sd * 48271 + p + 1) % 2147483647 := Int.emod_nonneg _ (by decide)
      refine ite2 (fun e6 => ?_) (fun e6 => ?_)
      · walk_at "r"
        rw [upd_upd]
        exact q2 _ (p + 1) n _ (fin _).1 (fin _).2 (by omega) hn s0
      · walk_at "r"
        rw [upd_upd, upd_upd, upd_upd]
        exact q2 _ (p + 1) _ _ (fin _).1 (fin _).2 (by omega) (d0 _ s0) s0
  · walk_at "r"
    exact q2 _ p _ sd (fin _).1 (fin _).2 hp (d0 _ hn) hs
abbrev s_lawwritten : Stmt := topS 17
abbrev N_lawwritten : List Str := ["tape", "sequence", "needless", "text", "k", "told"]
theorem sc_lawwritten : FnScope N_lawwritten ["tape", "sequence", "needless"] (defScope s_lawwritten) := ⟨rfl, rfl, rfl, by decide +kernel, rfl, by decide +kernel, by decide +kernel⟩

def sp_lawwritten (K : PySem.W.Frag) : Sp := fun vs H Q _ => ∃ (t : TA2) (v : V) (ps : List (Nat × Nat)) (n : Int), vs = [.ref t.1, v, .int n] ∧ Tape K H t ∧ Sq H v (ps.map syp) ∧ ps.length ≤ 400 ∧ 0 ≤ n ∧ n ≤ 1000 ∧
  ∀ (z : Str) H', Wr none ps z.cps.toList → (n = 0 → z.cps.toList = enc none ps) → Kp t H H' → Tape K H' t → Q (.str z) H'
theorem last_at {ps : List (Nat × Nat)} {i : Nat} (h1 : 1 ≤ i) (h2 : i ≤ ps.length) : lastH none (ps.take i) = some (ps[i - 1]'(by omega)).1 := by
  have e : ps.take i = ps.take (i - 1) ++ [ps[i - 1]'(by omega)] := by
    have h3 : i - 1 < ps.length := by omega
    have := List.take_add_one (l := ps) (i := i - 1)
    rw [show i - 1 + 1 = i by omega, List.getElem?_eq_getElem h3] at this
    exact this
  rw [e]
  exact lastH_snoc _ _ _

set_option maxHeartbeats 1000000 in
theorem ok_lawwritten (D : Df K mg "_law_written" s_lawwritten ["tape", "sequence", "needless"]) (B : Bn mg) (C_lawdraw : Cal P w K mg base 1 "_law_draw" ["tape", "many"] (spDraw K))  : Cal P w K mg base 2 "_law_written" ["tape", "sequence", "needless"] (sp_lawwritten K) := by
  refine D.cal sc_lawwritten ?_ ?_
  · intro vs H Q E h; obtain ⟨t, v, ps, n, rfl, _⟩ := h; rfl
  intro f cdv A o s H vs Q E hr h
  obtain ⟨t, v, ps, n, rfl, T, hv, hl, n0, n5, q⟩ := h
  have nd := sc_lawwritten.nd
  refine ⟨_, (pss_cons (ps_set (i := 3) nd rfl (Or.inl rfl) pe_str)
    (pss_cons (ps_for PassesOwn.never rfl (pi_range1 rfl B.range_ (pa_cons (pe_callB (id := "len") (r := rLenS K) call_lenK rfl B.len_ PySem.boot_len (pa_cons (pv 1) pa_nil)) pa_nil)) (pg_name (i := 4) nd rfl (Or.inl rfl))
      (C8.pss_cut (ps_set (i := 5) nd rfl (Or.inl rfl) (pe_or (pe_cmpR op_eq (pv 4) pe_int (nomark _)) (pe_one (pe_cmpR op_ne (pe_ix (r := rIxS) ix_str (pe_ix (r := rIxT K) ix_tup (pv 1) (pv 4) (fun _ _ => rfl)) pe_int (fun _ _ => rfl)) (pe_ix (r := rIxS) ix_str (pe_ix (r := rIxT K) ix_tup (pv 1) (pe_op op_sub (pv 4) pe_int) (fun _ _ => rfl)) pe_int (fun _ _ => rfl)) (nomark _)))))
      (C8.pss_cut (ps_if (PW.pt (pw_and (pt_not (pt_val (pv 5))) (pw_and1 (pt_cmpR op_gt (pv 2) pe_int (nomark _)))))
        (pss_one (ps_set (i := 5) nd rfl (Or.inl rfl) (pe_cmpR op_eq (pe_cal C_lawdraw (by first | exact hr | exact hr.mono (by decide)) rfl (pa_cons (pv 0) (pa_cons (pv 2) pa_nil))) pe_int (nomark _))))
        pss_nil)
      (C8.pss_cut (ps_if (pt_val (pv 5))
        (pss_one (ps_set (i := 3) nd rfl (Or.inl rfl) (pe_op op_add_str (pv 3) (pe_ix (r := rIxS) ix_str (pe_ix (r := rIxT K) ix_tup (pv 1) (pv 4) (fun _ _ => rfl)) pe_int (fun _ _ => rfl)))))
        pss_nil)
      (pss_one (ps_set (i := 3) nd rfl (Or.inl rfl) (pe_op op_add_str (pv 3) (pe_ix (r := rIxS) ix_str (pe_ix (r := rIxT K) ix_tup (pv 1) (pv 4) (fun _ _ => rfl)) pe_int (fun _ _ => rfl)))))))))
    (pss_one (ps_ret (pv 3))))), ?_⟩
  obtain ⟨p, rfl, hp⟩ := hv.get
  have pt : p ≠ t.1 := by
    obtain ⟨us, hu⟩ := T.lst
    exact ne_of hp hu (fun z => nomatch z)
  walk_at "r"
  refine ⟨p, _, rfl, .inr (.inl (.inl hp)), ?_⟩
  rw [List.length_map, List.length_map]
  walk_at "r"
  refine ⟨by omega, by omega, ?_⟩
  refine for_it walk_range (fun i σ H' => ∃ (z : Str) (w1 w2 : Option V), σ = [some (.ref t.1), some (.ref p), some (.int n), some (.str z), w1, w2] ∧
    Wr none (ps.take i) z.cps.toList ∧ (n = 0 → z.cps.toList = enc none (ps.take i)) ∧ Kp t H H' ∧ Tape K H' t) ⟨_, _, _, rfl, .nil _, (fun _ => rfl), Kp.refl _ _, T⟩ (fun _ _ _ _ _ => trivial) ?_ ?_
  · rintro i x σ H1 H2 hi ⟨z, w1, w2, rfl, hw, h0, kp, T2⟩ ⟨rfl, rfl⟩
    have hi1 : i < ps.length := by omega
    have hp2 := kp p _ pt hp
    have ei : ((0 : Int) + (i : Int)) = i := by omega
    have g1 : atI ((ps.map syp).map V.str) (0 + (i : Int)) = some (.str (syp ps[i])) := by
      rw [ei]
      exact atI_nat (by rw [List.getElem?_map, List.getElem?_map, List.getElem?_eq_getElem hi1]; rfl)
    have tk : ps.take (i + 1) = ps.take i ++ [ps[i]] := by rw [List.take_add_one, List.getElem?_eq_getElem hi1]; rfl
    have zl : z.length ≤ 800 := by
      have h1 := hw.len
      rw [str_len, List.length_take] at h1
      omega
    refine ⟨fun σ H' => σ = [some (.ref t.1), some (.ref p), some (.int n), some (.str z), some (.int (0 + (i : Int))), some (.bl (decide (lastH none (ps.take i) ≠ some ps[i].1)))] ∧ H' = H2, ?_, ?_⟩
    · walk_at "r"
      refine ite2 (fun e => ?_) (fun e => ?_)
      · have e1 : (0 : Int) + (i : Int) = 0 := V.int.inj (of_decide_eq_true e)
        have e2 : i = 0 := by omega
        subst e2
        refine ⟨?_, rfl⟩
        show [some (V.ref t.1), some (.ref p), some (.int n), some (.str z), some (.int (0 + ((0 : Nat) : Int))), some (.bl true)] = _
        rw [decide_eq_true (p := lastH none (ps.take 0) ≠ some ps[0].1) (fun q => nomatch (show (none : Option Nat) = some ps[0].1 from q))]
      · have hi0 : i ≠ 0 := fun z => by
          rw [z] at e
          exact e (decide_eq_true rfl)
        have hi2 : i - 1 < ps.length := by omega
        have g2 : atI ((ps.map syp).map V.str) (0 + (i : Int) - 1) = some (.str (syp ps[i - 1])) := by
          rw [show (0 : Int) + (i : Int) - 1 = ((i - 1 : Nat) : Int) by omega]
          exact atI_nat (by rw [List.getElem?_map, List.getElem?_map, List.getElem?_eq_getElem hi2]; rfl)
        walk_at "r"
        refine ⟨p, _, _, _, rfl, rfl, .inl (.inl hp2), g1, ?_⟩
        refine ⟨_, _, _, rfl, rfl, le_size0 rfl, atI_nat (j := 0) rfl, ?_⟩
        walk_at "r"
        refine ⟨p, _, _, _, rfl, rfl, .inl (.inl hp2), g2, ?_⟩
        refine ⟨_, _, _, rfl, rfl, le_size0 rfl, atI_nat (j := 0) rfl, ?_⟩
        refine ⟨rfl, ?_, rfl⟩
        have hl2 := last_at (ps := ps) (i := i) (by omega) (by omega)
        have eq : (!decide (V.str (⟨#[ps[i].1]⟩ : Str) = V.str (⟨#[ps[i - 1].1]⟩ : Str))) = decide (lastH none (ps.take i) ≠ some ps[i].1) := by
          rw [hl2]
          by_cases h : ps[i - 1].1 = ps[i].1
          · rw [h, decide_eq_true rfl, decide_eq_false (fun z => z rfl)]
            rfl
          · rw [decide_eq_false (fun z => h (Option.some.inj ((hst_eq ps[i].1 (some ps[i - 1].1)).mp z))), decide_eq_true (p := some ps[i - 1].1 ≠ some ps[i].1) (fun z => h (Option.some.inj z))]
            rfl
        show [some (V.ref t.1), some (.ref p), some (.int n), some (.str z), some (.int (0 + (i : Int))), some (.bl (!decide (V.str (⟨#[ps[i].1]⟩ : Str) = V.str (⟨#[ps[i - 1].1]⟩ : Str))))] = _
        rw [eq]
    · rintro σ H3 ⟨rfl, rfl⟩
      refine ⟨fun σ H' => ∃ (b : Bool), σ = [some (.ref t.1), some (.ref p), some (.int n), some (.str z), some (.int (0 + (i : Int))), some (.bl b)] ∧
        (b = false → lastH none (ps.take i) = some ps[i].1) ∧ (n = 0 → b = decide (lastH none (ps.take i) ≠ some ps[i].1)) ∧ Kp t H H' ∧ Tape K H' t, ?_, ?_⟩
      · refine ⟨_, rfl, _, rfl, ?_⟩
        by_cases e : lastH none (ps.take i) = some ps[i].1
        · rw [decide_eq_false (p := lastH none (ps.take i) ≠ some ps[i].1) (fun z => z e)]
          refine iteT ?_
          walk_at "r"
          refine ite2 (fun e2 => ?_) (fun e2 => ?_)
          · walk_at "r"
            refine ⟨t, _, rfl, T2, by omega, fun v H4 v0 v1 kp4 _ T4 => ?_⟩
            walk_at "r"
            have n1 := of_decide_eq_true e2
            exact ⟨(fun _ => e), (fun z => absurd z (by omega)), kp.trans kp4, T4⟩
          · exact ⟨false, rfl, (fun _ => e), (fun _ => rfl), kp, T2⟩
        · rw [decide_eq_true (p := lastH none (ps.take i) ≠ some ps[i].1) e]
          refine iteF ?_
          refine iteF ?_
          exact ⟨true, rfl, (fun z => nomatch z), (fun _ => rfl), kp, T2⟩
      · rintro σ H4 ⟨b, rfl, b1, b2, kp4, T4⟩
        have hp4 := kp4 p _ pt hp
        refine ⟨fun σ H' => ∃ (y : Str), σ = [some (.ref t.1), some (.ref p), some (.int n), some (.str y), some (.int (0 + (i : Int))), some (.bl b)] ∧
          y.cps.toList = z.cps.toList ++ (if b = true then [ps[i].1] else []) ∧ H' = H4, ?_, ?_⟩
        · walk_at "r"
          cases b
          · exact iteF ⟨z, rfl, (List.append_nil _).symm, rfl⟩
          · refine iteT ?_
            walk_at "r"
            refine ⟨p, _, _, _, rfl, rfl, .inl (.inl hp4), g1, ?_⟩
            refine ⟨_, _, _, rfl, rfl, le_size0 rfl, atI_nat (j := 0) rfl, ?_⟩
            walk_at "r"
            refine ⟨le_size (by show z.length + 1 ≤ 1000; omega), ?_⟩
            exact ⟨_, rfl, str_cat _ _, rfl⟩
        · rintro σ H5 ⟨y, rfl, hy, rfl⟩
          have yl : y.length ≤ 801 := by
            have := congrArg List.length hy
            rw [str_len, List.length_append, str_len] at this
            split at this <;> simp at this <;> omega
          walk_at "r"
          refine ⟨p, _, _, _, rfl, rfl, .inl (.inl hp4), g1, ?_⟩
          refine ⟨_, _, _, rfl, rfl, le_size0 rfl, atI_nat (j := 1) rfl, ?_⟩
          walk_at "r"
          refine ⟨le_size (by show y.length + 1 ≤ 1000; omega), ?_⟩
          have hz : (y ++ (⟨#[ps[i].2]⟩ : Str)).cps.toList = z.cps.toList ++ (if b = true then [ps[i].1, ps[i].2] else [ps[i].2]) := by
            rw [str_cat, hy, List.append_assoc]
            cases b <;> rfl
          refine ⟨_, _, _, rfl, ?_, fun hn => ?_, kp4, T4⟩
          · rw [hz, tk]
            cases b
            · exact hw.snoc1 _ (b1 rfl)
            · exact hw.snoc _ _
          · rw [hz, tk, enc_snoc, h0 hn, b2 hn]
            by_cases e : lastH none (ps.take i) = some ps[i].1
            · rw [if_pos e, decide_eq_false (p := lastH none (ps.take i) ≠ some ps[i].1) (fun z => z e)]
              rfl
            · rw [if_neg e, decide_eq_true (p := lastH none (ps.take i) ≠ some ps[i].1) e]
              rfl
  · rintro σ H1 ⟨z, w1, w2, rfl, hw, h0, kp, T2⟩
    have e : ps.take ((ps.length : Int)).toNat = ps := List.take_of_length_le (by omega)
    rw [e] at hw h0
    walk_at "r"
    exact q z H1 hw h0 kp T2
abbrev s_lawrising : Stmt := topS 12
abbrev N_lawrising : List Str := ["tape", "signs", "many", "found", "at", "k"]
theorem sc_lawrising : FnScope N_lawrising ["tape", "signs", "many"] (defScope s_lawrising) := ⟨rfl, rfl, rfl, by decide +kernel, rfl, by decide +kernel, by decide +kernel⟩

def sp_lawrising (K : PySem.W.Frag) : Sp := fun vs H Q _ => ∃ (t : TA2) (z : Str) (m : Int), vs = [.ref t.1, .str z, .int m] ∧ Tape K H t ∧ 0 ≤ m ∧ m ≤ (z.length : Int) ∧ z.length ≤ 1000 ∧
  ∀ (y : Str) H', y.cps.toList.Sublist z.cps.toList → (y.length : Int) = m → Kp t H H' → Tape K H' t → Q (.str y) H'

set_option maxHeartbeats 1000000 in
theorem ok_lawrising (D : Df K mg "_law_rising" s_lawrising ["tape", "signs", "many"]) (B : Bn mg) (C_lawdraw : Cal P w K mg base 1 "_law_draw" ["tape", "many"] (spDraw K))  : Cal P w K mg base 2 "_law_rising" ["tape", "signs", "many"] (sp_lawrising K) := by
  refine D.cal sc_lawrising ?_ ?_
  · intro vs H Q E h; obtain ⟨t, z, m, rfl, _⟩ := h; rfl
  intro f cdv A o s H vs Q E hr h
  obtain ⟨t, z, m, rfl, T, m0, mz, hz, q⟩ := h
  have nd := sc_lawrising.nd
  refine ⟨_, (pss_cons (ps_set (i := 3) nd rfl (Or.inl rfl) pe_str)
    (pss_cons (ps_set (i := 4) nd rfl (Or.inl rfl) pe_int)
    (pss_cons (ps_for PassesOwn.never rfl (pi_range1 rfl B.range_ (pa_cons (pv 2) pa_nil)) (pg_name (i := 5) nd rfl (Or.inl rfl))
      (pss_cons (ps_set (i := 4) nd rfl (Or.inl rfl) (pe_op op_add (pv 4) (pe_cal C_lawdraw (by first | exact hr | exact hr.mono (by decide)) rfl (pa_cons (pv 0) (pa_cons (pe_op op_sub (pe_op op_add (pe_op op_add (pe_op op_sub (pe_callB (id := "len") call_len_str rfl B.len_ PySem.boot_len (pa_cons (pv 1) pa_nil)) (pv 2)) (pv 5)) pe_int) (pv 4)) pa_nil)))))
      (pss_cons (ps_set (i := 3) nd rfl (Or.inl rfl) (pe_op op_add_str (pv 3) (pe_ix (r := rIxS) ix_str (pv 1) (pv 4) (fun _ _ => rfl))))
      (pss_one (ps_set (i := 4) nd rfl (Or.inl rfl) (pe_op op_add (pv 4) pe_int))))))
    (pss_one (ps_ret (pv 3)))))), ?_⟩
  walk_at "r"
  refine ⟨by omega, by omega, for_it walk_range (fun i σ H' => ∃ (y : Str) (a : Int) (x : Option V), σ = [some (.ref t.1), some (.str z), some (.int m), some (.str y), some (.int a), x] ∧
    0 ≤ a ∧ a ≤ (z.length : Int) - m + i ∧ (y.length : Int) = i ∧ y.cps.toList.Sublist (z.cps.toList.take a.toNat) ∧ Kp t H H' ∧ Tape K H' t) ?_ ?_ ?_ ?_⟩
  · exact ⟨_, 0, none, rfl, by omega, by omega, rfl, List.nil_sublist _, Kp.refl _ _, T⟩
  · intros; trivial
  · rintro i x σ H1 H2 hi ⟨y, a, w, rfl, a0, a1, hy, hs, kp, T1⟩ ⟨rfl, rfl⟩
    walk_at "r"
    have hm' : m = (m.toNat : Int) := by omega
    refine ⟨t, _, rfl, T1, by omega, fun v H3 v0 v1 kp2 _ T2 => ?_⟩
    have v2 : a + v ≤ (z.length : Int) - m + i := by omega
    have g1 : (a + v).toNat < z.cps.toList.length := by
      show _ < z.cps.toList.length
      have : z.cps.toList.length = z.length := Array.length_toList
      omega
    have g2 := atI_nat (List.getElem?_eq_getElem g1)
    rw [Int.toNat_of_nonneg (by omega)] at g2
    walk_at "r"
    refine ⟨_, _, _, rfl, rfl, le_size (by omega), g2, ?_⟩
    walk_at "r"
    refine ⟨?_, ?_⟩
    · show y.length + 1 ≤ sizeLine
      exact le_size (by omega)
    walk_at "r"
    refine ⟨_, _, _, rfl, by omega, by omega, ?_, ?_, kp.trans kp2, T2⟩
    · rw [strLen_append]
      show ((y.length + 1 : Nat) : Int) = _
      omega
    · have e1 : (a + v + 1).toNat = (a + v).toNat + 1 := by omega
      rw [e1, List.take_add_one, List.getElem?_eq_getElem g1]
      have e2 : (y ++ (⟨#[z.cps.toList[(a + v).toNat]]⟩ : Str)).cps.toList = y.cps.toList ++ [z.cps.toList[(a + v).toNat]] := by
        show (y.cps ++ #[z.cps.toList[(a + v).toNat]]).toList = _
        rw [Array.toList_append]
      rw [e2]
      exact List.Sublist.append (hs.trans (List.take_sublist_take_left (by omega))) (List.Sublist.refl _)
  · rintro σ H2 ⟨y, a, w, rfl, a0, a1, hy, hs, kp, T1⟩
    walk_at "r"
    exact q y H2 (hs.trans (List.take_sublist _ _)) (by omega) kp T1
abbrev s_lawletters : Stmt := topS 13
abbrev N_lawletters : List Str := ["tape"]
theorem sc_lawletters : FnScope N_lawletters ["tape"] (defScope s_lawletters) := ⟨rfl, rfl, rfl, by decide +kernel, rfl, by decide +kernel, by decide +kernel⟩

def sp_lawletters (K : PySem.W.Frag) : Sp := fun vs H Q _ => ∃ (t : TA2), vs = [.ref t.1] ∧ Tape K H t ∧
  ∀ (y : Str) H', y.cps.toList.Sublist lows → 1 ≤ y.length → y.length ≤ 3 → Kp t H H' → Tape K H' t → Q (.str y) H'

set_option maxHeartbeats 1000000 in
theorem ok_lawletters (D : Df K mg "_law_letters" s_lawletters ["tape"]) (B : Bn mg) (C_lawrising : Cal P w K mg base 2 "_law_rising" ["tape", "signs", "many"] (sp_lawrising K)) (C_lawdraw : Cal P w K mg base 1 "_law_draw" ["tape", "many"] (spDraw K))  : Cal P w K mg base 3 "_law_letters" ["tape"] (sp_lawletters K) := by
  refine D.cal sc_lawletters ?_ ?_
  · intro vs H Q E h; obtain ⟨t, rfl, _⟩ := h; rfl
  intro f cdv A o s H vs Q E hr h
  obtain ⟨t, rfl, T, q⟩ := h
  have nd := sc_lawletters.nd
  refine ⟨_, (pss_one (ps_ret (pe_cal C_lawrising (by first | exact hr | exact hr.mono (by decide)) rfl (pa_cons (pv 0) (pa_cons pe_str (pa_cons (pe_ix (r := rIxL K) ix_list (pe_lst (pa_cons pe_int (pa_cons pe_int (pa_cons pe_int (pa_cons pe_int (pa_cons pe_int (pa_cons pe_int pa_nil))))))) (pe_cal C_lawdraw (by first | exact hr | exact hr.mono (by decide)) rfl (pa_cons (pv 0) (pa_cons pe_int pa_nil))) (fun _ _ => rfl)) pa_nil)))))), ?_⟩
  walk_at "r"
  intro p hp
  walk_at "r"
  refine ⟨t, _, rfl, T.new hp, by decide, fun v H1 v0 v1 kp _ T1 => ?_⟩
  obtain ⟨u, hu, eu⟩ := pickI (ns := [1, 1, 1, 2, 2, 3]) (v := v) v0 (by show v < 6; omega)
  refine ⟨p, _, v, _, rfl, rfl, .inl (.inl (kp p _ (T.ne hp) upd_same)), eu, ?_⟩
  have u3 : 1 ≤ u ∧ u ≤ 3 := by simp at hu; omega
  walk_at "r"
  refine ⟨t, _, u, rfl, T1, by omega, (show u ≤ (26 : Int) by omega), le_of1000, fun y H2 hs hl kp2 T2 => ?_⟩
  exact q y H2 (lows_eq ▸ hs) (by omega) (by omega) ((Kp.new hp).trans (kp.trans kp2)) T2
abbrev s_lawsymbols : Stmt := topS 14
abbrev N_lawsymbols : List Str := ["letters", "owners", "found", "owner", "letter"]
theorem sc_lawsymbols : FnScope N_lawsymbols ["letters", "owners"] (defScope s_lawsymbols) := ⟨rfl, rfl, rfl, by decide +kernel, rfl, by decide +kernel, by decide +kernel⟩

def sp_lawsymbols (K : PySem.W.Frag) : Sp := fun vs H Q _ => ∃ (y z : Str), vs = [.str y, .str z] ∧ y.length ≤ 30 ∧ z.length ≤ 30 ∧
  ∀ p H', Same H H' → H p = none → H' p = some (.lst ((comb (64 :: z.cps.toList) y.cps.toList).map V.str)) → Q (.ref p) H'

set_option maxHeartbeats 1000000 in
theorem ok_lawsymbols (D : Df K mg "_law_symbols" s_lawsymbols ["letters", "owners"]) (B : Bn mg)   : Cal P w K mg base 1 "_law_symbols" ["letters", "owners"] (sp_lawsymbols K) := by
  refine D.cal sc_lawsymbols ?_ ?_
  · intro vs H Q E h; obtain ⟨y, z, rfl, _⟩ := h; rfl
  intro f cdv A o s H vs Q E hr h
  obtain ⟨y, z, rfl, hy, hz, q⟩ := h
  have nd := sc_lawsymbols.nd
  refine ⟨_, (pss_cons (ps_set (i := 2) nd rfl (Or.inl rfl) (pe_lst pa_nil))
    (pss_cons (ps_for PassesOwn.never rfl (pi_str (pe_op op_add_str pe_str (pv 1))) (pg_name (i := 3) nd rfl (Or.inl rfl))
      (pss_one (ps_for PassesOwn.never rfl (pi_str (pv 0)) (pg_name (i := 4) nd rfl (Or.inl rfl))
        (pss_one (ps_expr (pe_bm PySem.F.plainAttrs_list PySem.F.slot_list_append PySem.F.type_list_append mt_append (pv 2) (pa_cons (pe_op op_add_str (pv 3) (pv 4)) pa_nil)))))))
    (pss_one (ps_ret (pv 2))))), ?_⟩
  walk_at "r"
  intro p hp
  walk_at "r"
  have zl : z.cps.toList.length = z.length := Array.length_toList
  have yl : y.cps.toList.length = y.length := Array.length_toList
  refine ⟨?_, _, rfl, ?_⟩
  · show 1 + z.length ≤ sizeLine
    exact le_size (by omega)
  have ez : (("@" : Str) ++ z).cps.toList = 64 :: z.cps.toList := by
    show (#[64] ++ z.cps).toList = _
    rw [Array.toList_append]
    rfl
  have len : ∀ i j : Nat, i ≤ 31 → j ≤ 30 → i * j ≤ 930 := fun i j hi hj => Nat.mul_le_mul hi hj
  refine for_it walk_str (fun i σ H' => ∃ (a b : Option V), σ = [some (.str y), some (.str z), some (.ref p), a, b] ∧ Same H H' ∧
    H' p = some (.lst ((comb ((64 :: z.cps.toList).take i) y.cps.toList).map V.str))) ⟨none, none, rfl, Same.new hp, upd_same⟩ (fun _ _ _ _ _ => trivial) ?_ ?_
  · rintro i x σ H1 H2 hi ⟨a, b, rfl, sm, hl⟩ ⟨rfl, c, hc, rfl⟩
    have hc' : (64 :: z.cps.toList)[i]? = some c := by rw [← ez, Array.getElem?_toList]; exact hc
    have hi' : i < 1 + z.length := by
      have := (List.getElem?_eq_some_iff.mp hc').1
      simp only [List.length_cons] at this
      omega
    refine ⟨_, rfl, _, rfl, ?_⟩
    refine for_it walk_str (fun j σ H' => ∃ (b : Option V), σ = [some (.str y), some (.str z), some (.ref p), some (.str ⟨#[c]⟩), b] ∧ Same H H' ∧
      H' p = some (.lst ((comb ((64 :: z.cps.toList).take i) y.cps.toList ++ (y.cps.toList.take j).map fun l => sy c l).map V.str)))
      ⟨b, rfl, sm, by rw [List.take_zero, List.map_nil, List.append_nil]; exact hl⟩ (fun _ _ _ _ _ => trivial) ?_ ?_
    · rintro j x σ H1 H2 hj ⟨b, rfl, sm, hl⟩ ⟨rfl, d, hd, rfl⟩
      have hd' : y.cps.toList[j]? = some d := by rw [Array.getElem?_toList]; exact hd
      have hj' : j < y.length := hj
      refine ⟨_, rfl, .inl ⟨rfl, _, .inl (.inl hl)⟩, ?_⟩
      walk_at "r"
      refine ⟨p, _, _, rfl, rfl, hl, ?_, ?_⟩
      · rw [List.length_map, List.length_append, comb_len, List.length_map, List.length_take, List.length_take, List.length_cons]
        have := len (min i (z.cps.toList.length + 1)) y.cps.toList.length (by omega) (by omega)
        exact small1000 (by omega)
      · refine ⟨_, rfl, fun b' u e => ?_, ?_⟩
        · rw [upd_ne (ne_of_none e hp)]
          exact sm _ _ e
        · rw [upd_same, List.take_add_one, hd', sy_cat]
          simp
    · rintro σ H2 ⟨b, rfl, sm, hl⟩
      refine ⟨_, _, rfl, sm, ?_⟩
      rw [hl, List.take_add_one, hc']
      have e : y.cps.toList.take y.cps.size = y.cps.toList := List.take_of_length_le (by rw [Array.length_toList]; exact Nat.le_refl _)
      rw [e]
      show some (HO.lst (List.map V.str (comb _ _ ++ _))) = some (HO.lst (List.map V.str (comb (_ ++ [c]) _)))
      rw [comb_snoc]
  · rintro σ H2 ⟨a, b, rfl, sm, hl⟩
    walk_at "r"
    refine q p _ sm hp ?_
    have e : (64 :: z.cps.toList).take (("@" : Str) ++ z).cps.size = 64 :: z.cps.toList := by
      rw [← ez]
      exact List.take_of_length_le (by rw [Array.length_toList]; exact Nat.le_refl _)
    rw [e] at hl
    exact hl
abbrev s_encoded : Stmt := topS 5
abbrev N_encoded : List Str := ["sequence", "parts", "holder", "symbol"]
theorem sc_encoded : FnScope N_encoded ["sequence"] (defScope s_encoded) := ⟨rfl, rfl, rfl, by decide +kernel, rfl, by decide +kernel, by decide +kernel⟩

def sp_encoded (K : PySem.W.Frag) : Sp := fun vs H Q _ => ∃ (v : V) (ps : List (Nat × Nat)), vs = [v] ∧ Sq H v (ps.map syp) ∧ ps.length ≤ 400 ∧
  ∀ (z : Str) H', Same H H' → z.cps.toList = enc none ps → Q (.str z) H'

set_option maxHeartbeats 1000000 in
theorem ok_encoded (D : Df K mg "encoded" s_encoded ["sequence"]) (B : Bn mg)   : Cal P w K mg base 1 "encoded" ["sequence"] (sp_encoded K) := by
  refine D.cal sc_encoded ?_ ?_
  · intro vs H Q E h; obtain ⟨v, ps, rfl, _⟩ := h; rfl
  intro f cdv A o s H vs Q E hr h
  obtain ⟨v, ps, rfl, hv, hl, q⟩ := h
  have nd := sc_encoded.nd
  refine ⟨_, (pss_cons (ps_set (i := 1) nd rfl (Or.inl rfl) (pe_lst pa_nil))
    (pss_cons (ps_set (i := 2) nd rfl (Or.inl rfl) pe_str)
    (pss_cons (ps_for PassesOwn.never rfl (show PI _ _ _ (iTup K _) from pi_tup (pv 0)) (pg_name (i := 3) nd rfl (Or.inl rfl))
      (C8.pss_cut (ps_if (pt_cmpR op_ne (pe_ix (r := rIxS) ix_str (pv 3) pe_int (fun _ _ => rfl)) (pv 2) (nomark _))
        (pss_cons (ps_set (i := 2) nd rfl (Or.inl rfl) (pe_ix (r := rIxS) ix_str (pv 3) pe_int (fun _ _ => rfl)))
        (pss_one (ps_expr (pe_bm PySem.F.plainAttrs_list PySem.F.slot_list_append PySem.F.type_list_append mt_append (pv 1) (pa_cons (pv 2) pa_nil)))))
        pss_nil)
      (pss_one (ps_expr (pe_bm PySem.F.plainAttrs_list PySem.F.slot_list_append PySem.F.type_list_append mt_append (pv 1) (pa_cons (pe_ix (r := rIxS) ix_str (pv 3) pe_int (fun _ _ => rfl)) pa_nil))))))
    (pss_one (ps_ret (pe_join pe_str (pv 1))))))), ?_⟩
  obtain ⟨p, rfl, hp⟩ := hv.get
  walk_at "r"
  intro d hd
  have sd := Same.new (o := .lst []) hd
  walk_at "r"
  refine ⟨⟨_, .inl (.inl (sd _ _ hp))⟩, ?_⟩
  have el : ∀ i, (enc none (ps.take i)).length ≤ 800 := fun i => by
    have h1 := (enc_wr none (ps.take i)).len
    rw [List.length_take] at h1
    omega
  refine for_it (walk_tup (xs := (ps.map syp).map V.str)) (fun i σ H' => ∃ (w : Option V), σ = [some (.ref p), some (.ref d), some (.str (hst (lastH none (ps.take i)))), w] ∧
    H' d = some (.lst (((enc none (ps.take i)).map one1).map V.str)) ∧ Same H H') ⟨_, rfl, upd_same, sd⟩ ?_ ?_ ?_
  · rintro i σ H1 hi ⟨w, rfl, h1, sm⟩
    exact .inl (.inl (sm _ _ hp))
  · rintro i x σ H1 H2 hi ⟨w, rfl, h1, sm⟩ ⟨rfl, hx⟩
    obtain ⟨s, hs, rfl⟩ : ∃ s, ps[i]? = some s ∧ x = .str (syp s) := by
      rw [List.getElem?_map, List.getElem?_map] at hx
      cases e : ps[i]? with
      | none => rw [e] at hx; cases hx
      | some s => rw [e] at hx; exact ⟨s, rfl, (Option.some.inj hx).symm⟩
    have tk : ps.take (i + 1) = ps.take i ++ [s] := by rw [List.take_add_one, hs]; rfl
    have le := el i
    refine ⟨fun σ H' => σ = [some (.ref p), some (.ref d), some (.str ⟨#[s.1]⟩), some (.str (syp s))] ∧
      H' d = some (.lst (((enc none (ps.take i) ++ (if lastH none (ps.take i) = some s.1 then [] else [s.1])).map one1).map V.str)) ∧ Same H H', ?_, ?_⟩
    · refine ⟨_, rfl, ?_⟩
      refine ⟨_, _, _, rfl, rfl, le_size0 rfl, atI_nat (j := 0) rfl, ?_⟩
      refine ⟨_, rfl, rfl, _, rfl, ?_⟩
      by_cases e : lastH none (ps.take i) = some s.1
      · refine iteNS ((hst_eq _ _).mpr e) ?_
        refine ⟨?_, by rw [if_pos e, List.append_nil]; exact h1, sm⟩
        rw [e]
        rfl
      · rw [decide_eq_false (fun z => e ((hst_eq _ _).mp z))]
        refine iteT ?_
        refine ⟨_, rfl, _, _, _, rfl, rfl, le_size0 rfl, atI_nat (j := 0) rfl, ?_⟩
        refine ⟨_, rfl, .inl ⟨rfl, _, .inl (.inl h1)⟩, ?_⟩
        walk_at "r"
        refine ⟨d, _, _, rfl, rfl, h1, small1000 (by rw [List.length_map, List.length_map]; omega), ?_⟩
        refine ⟨rfl, ?_, fun b o eb => ?_⟩
        · rw [upd_same, if_neg e, List.map_append, List.map_append]
          rfl
        · rw [upd_ne (ne_of_none eb hd)]
          exact sm _ _ eb
    · rintro σ H3 ⟨rfl, h3, sm3⟩
      refine ⟨_, rfl, .inl ⟨rfl, _, .inl (.inl h3)⟩, ?_⟩
      refine ⟨_, rfl, _, _, _, rfl, rfl, le_size0 rfl, atI_nat (j := 1) rfl, ?_⟩
      refine ⟨d, _, _, rfl, rfl, h3, small1000 (by rw [List.length_map, List.length_map, List.length_append]; split <;> simp <;> omega), ?_⟩
      refine ⟨some (.str (syp s)), ?_, ?_, fun b o eb => ?_⟩
      · rw [tk, lastH_snoc]
        rfl
      · rw [upd_same, tk, enc_snoc]
        by_cases e : lastH none (ps.take i) = some s.1
        · rw [if_pos e, if_pos e, List.append_nil, List.map_append, List.map_append]
          rfl
        · rw [if_neg e, if_neg e, show [s.1, s.2] = [s.1] ++ [s.2] from rfl, ← List.append_assoc]
          rw [List.map_append (l₁ := enc none (ps.take i) ++ [s.1]) (l₂ := [s.2]), List.map_append (l₂ := [s.2].map one1)]
          rfl
      · rw [upd_ne (ne_of_none eb hd)]
        exact sm3 _ _ eb
  · rintro σ H1 ⟨w, rfl, h1, sm⟩
    have tk : ps.take ((ps.map syp).map V.str).length = ps := List.take_of_length_le (by rw [List.length_map, List.length_map]; exact Nat.le_refl _)
    rw [tk] at h1
    have le := el ps.length
    rw [List.take_length] at le
    walk_at "r"
    refine ⟨_, d, _, rfl, rfl, .inl (.inl (.inl h1)), join_fits _ (by omega), ?_⟩
    exact q _ H1 sm (join_cl _)
abbrev s_lawowners : Stmt := topS 15
abbrev N_lawowners : List Str := ["tape"]
theorem sc_lawowners : FnScope N_lawowners ["tape"] (defScope s_lawowners) := ⟨rfl, rfl, rfl, by decide +kernel, rfl, by decide +kernel, by decide +kernel⟩

def sp_lawowners (K : PySem.W.Frag) : Sp := fun vs H Q _ => ∃ (t : TA2), vs = [.ref t.1] ∧ Tape K H t ∧
  ∀ (y : Str) H', y.cps.toList.Sublist caps → 1 ≤ y.length → y.length ≤ 3 → Kp t H H' → Tape K H' t → Q (.str y) H'

set_option maxHeartbeats 1000000 in
theorem ok_lawowners (D : Df K mg "_law_owners" s_lawowners ["tape"]) (B : Bn mg) (C_lawrising : Cal P w K mg base 2 "_law_rising" ["tape", "signs", "many"] (sp_lawrising K)) (C_lawdraw : Cal P w K mg base 1 "_law_draw" ["tape", "many"] (spDraw K))  : Cal P w K mg base 3 "_law_owners" ["tape"] (sp_lawowners K) := by
  refine D.cal sc_lawowners ?_ ?_
  · intro vs H Q E h; obtain ⟨t, rfl, _⟩ := h; rfl
  intro f cdv A o s H vs Q E hr h
  obtain ⟨t, rfl, T, q⟩ := h
  have nd := sc_lawowners.nd
  refine ⟨_, (pss_one (ps_ret (pe_cal C_lawrising (by first | exact hr | exact hr.mono (by decide)) rfl (pa_cons (pv 0) (pa_cons pe_str (pa_cons (pe_ix (r := rIxL K) ix_list (pe_lst (pa_cons pe_int (pa_cons pe_int (pa_cons pe_int (pa_cons pe_int (pa_cons pe_int (pa_cons pe_int pa_nil))))))) (pe_cal C_lawdraw (by first | exact hr | exact hr.mono (by decide)) rfl (pa_cons (pv 0) (pa_cons pe_int pa_nil))) (fun _ _ => rfl)) pa_nil)))))), ?_⟩
  walk_at "r"
  intro p hp
  walk_at "r"
  refine ⟨t, _, rfl, T.new hp, by decide, fun v H1 v0 v1 kp _ T1 => ?_⟩
  obtain ⟨u, hu, eu⟩ := pickI (ns := [1, 2, 2, 2, 2, 3]) (v := v) v0 (by show v < 6; omega)
  refine ⟨p, _, v, _, rfl, rfl, .inl (.inl (kp p _ (T.ne hp) upd_same)), eu, ?_⟩
  have u3 : 1 ≤ u ∧ u ≤ 3 := by simp at hu; omega
  walk_at "r"
  refine ⟨t, _, u, rfl, T1, by omega, (show u ≤ (26 : Int) by omega), le_of1000, fun y H2 hs hl kp2 T2 => ?_⟩
  exact q y H2 (caps_eq ▸ hs) (by omega) (by omega) ((Kp.new hp).trans (kp.trans kp2)) T2
abbrev s_lawsequence : Stmt := topS 16
abbrev N_lawsequence : List Str := ["tape", "signs", "most", "found", "k"]
theorem sc_lawsequence : FnScope N_lawsequence ["tape", "signs", "most"] (defScope s_lawsequence) := ⟨rfl, rfl, rfl, by decide +kernel, rfl, by decide +kernel, by decide +kernel⟩

def sp_lawsequence (K : PySem.W.Frag) : Sp := fun vs H Q _ => ∃ (t : TA2) (p : Addr) (ss : List Str) (m : Int), vs = [.ref t.1, .ref p, .int m] ∧ Tape K H t ∧ H p = some (.lst (ss.map V.str)) ∧ p ≠ t.1 ∧
  1 ≤ ss.length ∧ ss.length ≤ 900 ∧ 0 ≤ m ∧ m ≤ 100 ∧ ∀ v xs H', Sq H' v xs → (∀ x ∈ xs, x ∈ ss) → (xs.length : Int) ≤ m → Kp t H H' → Tape K H' t → Q v H'

set_option maxHeartbeats 1000000 in
theorem ok_lawsequence (D : Df K mg "_law_sequence" s_lawsequence ["tape", "signs", "most"]) (B : Bn mg) (C_lawdraw : Cal P w K mg base 1 "_law_draw" ["tape", "many"] (spDraw K))  : Cal P w K mg base 2 "_law_sequence" ["tape", "signs", "most"] (sp_lawsequence K) := by
  refine D.cal sc_lawsequence ?_ ?_
  · intro vs H Q E h; obtain ⟨t, p, ss, m, rfl, _⟩ := h; rfl
  intro f cdv A o s H vs Q E hr h
  obtain ⟨t, p, ss, m, rfl, T, hp, hpt, s0, s1, m0, m1, q⟩ := h
  have nd := sc_lawsequence.nd
  refine ⟨_, (pss_cons (ps_set (i := 3) nd rfl (Or.inl rfl) (pe_lst pa_nil))
    (pss_cons (ps_for PassesOwn.never rfl (pi_range1 rfl B.range_ (pa_cons (pe_cal C_lawdraw (by first | exact hr | exact hr.mono (by decide)) rfl (pa_cons (pv 0) (pa_cons (pe_op op_add (pv 2) pe_int) pa_nil))) pa_nil)) (pg_name (i := 4) nd rfl (Or.inl rfl))
      (pss_one (ps_if (PW.pt (pw_and (show PT _ _ (tTru K _) from pt_truK (pv 3) (by intro _; rfl)) (pw_and1 (pt_cmpR op_eq (pe_cal C_lawdraw (by first | exact hr | exact hr.mono (by decide)) rfl (pa_cons (pv 0) (pa_cons pe_int pa_nil))) pe_int (nomark _)))))
        (pss_one (ps_expr (pe_bm PySem.F.plainAttrs_list PySem.F.slot_list_append PySem.F.type_list_append mt_append (pv 3) (pa_cons (pe_ix (r := rIxL K) ix_list (pv 3) (pe_un un_neg pe_int) (fun _ _ => rfl)) pa_nil))))
        (pss_one (ps_expr (pe_bm PySem.F.plainAttrs_list PySem.F.slot_list_append PySem.F.type_list_append mt_append (pv 3) (pa_cons (pe_ix (r := rIxL K) ix_list (pv 1) (pe_cal C_lawdraw (by first | exact hr | exact hr.mono (by decide)) rfl (pa_cons (pv 0) (pa_cons (pe_callB (id := "len") (r := rLenS K) call_lenK rfl B.len_ PySem.boot_len (pa_cons (pv 1) pa_nil)) pa_nil))) (fun _ _ => rfl)) pa_nil)))))))
    (pss_one (ps_ret (pe_callTy (T := "tuple") (r := rTupOf K) call_tupK rfl B.tuple_ (by decide +kernel) (pa_cons (pv 3) pa_nil)))))), ?_⟩
  walk_at "r"
  intro d hd
  have dt := T.ne hd
  have dt2 := T.ne2 hd
  have hpd : p ≠ d := ne_of_none hp hd
  walk_at "r"
  refine ⟨t, _, rfl, T.new hd, by omega, fun n H1 n0 n1 kp1 _ T1 => ?_⟩
  walk_at "r"
  refine ⟨by omega, by omega, ?_⟩
  have hd1 : H1 d = some (.lst []) := kp1 d _ dt upd_same
  refine for_it walk_range (fun i σ H' => ∃ (xs : List Str) (w : Option V), σ = [some (.ref t.1), some (.ref p), some (.int m), some (.ref d), w] ∧
    xs.length = i ∧ (∀ x ∈ xs, x ∈ ss) ∧ H' d = some (.lst (xs.map V.str)) ∧ Kp t H H' ∧ Tape K H' t) ?_ (fun _ _ _ _ _ => trivial) ?_ ?_
  · exact ⟨[], none, rfl, rfl, (fun _ h => nomatch h), hd1, (Kp.new hd).trans kp1, T1⟩
  · rintro i x σ H2 H3 hi ⟨xs, w, rfl, h1, h2, h3, kp, T2⟩ ⟨rfl, rfl⟩
    have hp2 := kp p _ hpt hp
    have hn : i < 100 := by omega
    have new : ∀ (z : Str) (H4 : Hp), z ∈ ss → Kp t H H4 → Tape K H4 t → H4 d = some (.lst (xs.map V.str)) → ∃ (xs' : List Str) (w : Option V),
        [some (V.ref t.1), some (.ref p), some (.int m), some (.ref d), some (.int (0 + (i : Int)))] = [some (.ref t.1), some (.ref p), some (.int m), some (.ref d), w] ∧
        xs'.length = i + 1 ∧ (∀ x ∈ xs', x ∈ ss) ∧ (upd H4 d (.lst (xs.map V.str ++ [.str z]))) d = some (.lst (xs'.map V.str)) ∧ Kp t H (upd H4 d (.lst (xs.map V.str ++ [.str z]))) ∧
        Tape K (upd H4 d (.lst (xs.map V.str ++ [.str z]))) t := fun z H4 hz k4 T4 h4 => by
      refine ⟨xs ++ [z], _, rfl, by rw [List.length_append, h1]; rfl, fun x hx => ?_, by rw [upd_same, List.map_append]; rfl, fun b o n eb => ?_, T4.put dt dt2⟩
      · rcases List.mem_append.mp hx with q | q
        · exact h2 x q
        · rw [show x = z by simpa using q]; exact hz
      · rw [upd_ne (ne_of_none eb hd)]
        exact k4 b o n eb
    have other : ∀ (H4 : Hp), Kp t H H4 → Tape K H4 t → H4 d = some (.lst (xs.map V.str)) → True := fun _ _ _ _ => trivial
    refine ⟨_, rfl, _, .inl ⟨_, .inl (.inl h3), rfl⟩, ?_⟩
    refine ite2 (fun e => ?_) (fun e => ?_)
    · walk_at "r"
      refine ⟨t, _, rfl, T2, by decide, fun v H4 v0 v1 kp4 _ T4 => ?_⟩
      have h4 := kp4 d _ dt h3
      have hp4 := kp4 p _ hpt hp2
      walk_at "r"
      refine ite2 (fun e2 => ?_) (fun e2 => ?_)
      · have ne : xs.map V.str ≠ [] := fun z => by rw [z] at e; exact absurd e (by decide)
        obtain ⟨u, hu, eu⟩ := atI_lastV ne
        obtain ⟨z, hz, rfl⟩ := strs_in hu
        refine ⟨_, rfl, .inl ⟨rfl, _, .inl (.inl h4)⟩, ?_⟩
        walk_at "r"
        refine ⟨d, _, _, _, rfl, rfl, .inl (.inl h4), eu, ?_⟩
        refine ⟨d, _, _, rfl, rfl, h4, small1000 (by rw [List.length_map]; omega), ?_⟩
        exact new z H4 (h2 z hz) (kp.trans kp4) T4 h4
      · refine ⟨_, rfl, .inl ⟨rfl, _, .inl (.inl h4)⟩, ?_⟩
        walk_at "r"
        
        refine ⟨t, _, rfl, T4, by rw [List.length_map]; omega, fun v5 H5 u0 u1 kp5 _ T5 => ?_⟩
        rw [List.length_map] at u1
        obtain ⟨z, hz, ez⟩ := pickS (ss := ss) u0 (by omega)
        have h5 := kp5 d _ dt h4
        refine ⟨p, _, _, _, rfl, rfl, .inl (.inl (kp5 p _ hpt hp4)), ez, ?_⟩
        refine ⟨d, _, _, rfl, rfl, h5, small1000 (by rw [List.length_map]; omega), ?_⟩
        exact new z H5 hz (kp.trans (kp4.trans kp5)) T5 h5
    · refine iteF ?_
      refine ⟨_, rfl, .inl ⟨rfl, _, .inl (.inl h3)⟩, ?_⟩
      walk_at "r"
      
      refine ⟨t, _, rfl, T2, by rw [List.length_map]; omega, fun v5 H5 u0 u1 kp5 _ T5 => ?_⟩
      rw [List.length_map] at u1
      obtain ⟨z, hz, ez⟩ := pickS (ss := ss) u0 (by omega)
      have h5 := kp5 d _ dt h3
      refine ⟨p, _, _, _, rfl, rfl, .inl (.inl (kp5 p _ hpt hp2)), ez, ?_⟩
      refine ⟨d, _, _, rfl, rfl, h5, small1000 (by rw [List.length_map]; omega), ?_⟩
      exact new z H5 hz (kp.trans kp5) T5 h5
  · rintro σ H2 ⟨xs, w, rfl, h1, h2, h3, kp, T2⟩
    refine ⟨_, rfl, d, _, rfl, .inl ⟨.inl (.inl h3), fun l hl => ?_⟩⟩
    exact q _ xs _ (Sq.mk upd_same) h2 (by omega) (kp.trans (Kp.new hl)) (T2.new hl)
abbrev s_isletter : Stmt := topS 7
abbrev N_isletter : List Str := ["character"]
theorem sc_isletter : FnScope N_isletter ["character"] (defScope s_isletter) := ⟨rfl, rfl, rfl, by decide +kernel, rfl, by decide +kernel, by decide +kernel⟩

def sp_isletter (K : PySem.W.Frag) : Sp := fun vs H Q _ => ∃ (c : Nat), vs = [.str ⟨#[c]⟩] ∧ Q (.bl (Lt c)) H
theorem not_lt (a b : Nat) : (!decide (([a] : List Nat) < [b])) = decide (b ≤ a) := by
  rw [one_lt]
  by_cases h : a < b
  · rw [decide_eq_true h, decide_eq_false (by omega)]
    rfl
  · rw [decide_eq_false h, decide_eq_true (by omega)]
    rfl

set_option maxHeartbeats 1000000 in
theorem ok_isletter (D : Df K mg "_is_letter" s_isletter ["character"]) (B : Bn mg)   : Cal P w K mg base 1 "_is_letter" ["character"] (sp_isletter K) := by
  refine D.cal sc_isletter ?_ ?_
  · intro vs H Q E h; obtain ⟨c, rfl, _⟩ := h; rfl
  intro f cdv A o s H vs Q E hr h
  obtain ⟨c, rfl, q⟩ := h
  have nd := sc_isletter.nd
  refine ⟨_, (pss_one (ps_ret (pe_chain op_le_str op_le_str pe_str (pv 0) pe_str))), ?_⟩
  unfold Lt at q
  refine ⟨_, rfl, _, _, rfl, rfl, _, rfl, ?_⟩
  have e1 : (!decide ((⟨#[c]⟩ : Str).cps.toList < (Str.ofString "a").cps.toList)) = decide (97 ≤ c) := not_lt c 97
  have e2 : (!decide ((Str.ofString "z").cps.toList < (⟨#[c]⟩ : Str).cps.toList)) = decide (c ≤ 122) := not_lt 122 c
  rw [e1]
  refine ite2 (fun e => ?_) (fun e => ?_)
  · refine ⟨_, _, rfl, rfl, ?_⟩
    rw [e2]
    rw [e, Bool.true_and] at q
    exact q
  · rw [Bool.eq_false_iff.mpr e, Bool.false_and] at q
    exact q
abbrev s_isholder : Stmt := topS 8
abbrev N_isholder : List Str := ["character"]
theorem sc_isholder : FnScope N_isholder ["character"] (defScope s_isholder) := ⟨rfl, rfl, rfl, by decide +kernel, rfl, by decide +kernel, by decide +kernel⟩

def sp_isholder (K : PySem.W.Frag) : Sp := fun vs H Q _ => ∃ (c : Nat), vs = [.str ⟨#[c]⟩] ∧ Q (.bl (Hd c)) H

set_option maxHeartbeats 1000000 in
theorem ok_isholder (D : Df K mg "_is_holder" s_isholder ["character"]) (B : Bn mg)  (mg_EDITOR : ∃ u, mg "EDITOR" = some (.str "@" u)) : Cal P w K mg base 1 "_is_holder" ["character"] (sp_isholder K) := by
  refine D.cal sc_isholder ?_ ?_
  · intro vs H Q E h; obtain ⟨c, rfl, _⟩ := h; rfl
  intro f cdv A o s H vs Q E hr h
  obtain ⟨c, rfl, q⟩ := h
  have nd := sc_isholder.nd
  obtain ⟨u, mg_EDITOR⟩ := mg_EDITOR
  refine ⟨_, (pss_one (ps_ret (pe_or (pe_cmpR op_eq (pv 0) (pe_glob (v := .str "@") rfl mg_EDITOR ⟨_, rfl⟩) (nomark _)) (pe_one (pe_chain op_le_str op_le_str pe_str (pv 0) pe_str))))), ?_⟩
  unfold Hd at q
  have e0 : decide (V.str ⟨#[c]⟩ = V.str (Str.ofString "@")) = decide (c = 64) := by
    have ea : V.str (Str.ofString "@") = V.str (hst (some 64)) := rfl
    rw [ea]
    by_cases h : c = 64
    · rw [decide_eq_true ((hst_eq c (some 64)).mpr (by rw [h])), decide_eq_true h]
    · rw [decide_eq_false h, decide_eq_false fun z => h (Option.some.inj ((hst_eq c (some 64)).mp z)).symm]
  have e1 : (!decide ((⟨#[c]⟩ : Str).cps.toList < (Str.ofString "A").cps.toList)) = decide (65 ≤ c) := not_lt c 65
  have e2 : (!decide ((Str.ofString "Z").cps.toList < (⟨#[c]⟩ : Str).cps.toList)) = decide (c ≤ 90) := not_lt 90 c
  refine ⟨_, rfl, rfl, _, rfl, ?_⟩
  rw [e0]
  refine ite2 (fun e => ?_) (fun e => ?_)
  · rw [e, Bool.true_or] at q
    exact q
  · rw [Bool.eq_false_iff.mpr e, Bool.false_or] at q
    refine ⟨_, rfl, _, _, rfl, rfl, _, rfl, ?_⟩
    rw [e1]
    refine ite2 (fun e => ?_) (fun e => ?_)
    · refine ⟨_, _, rfl, rfl, ?_⟩
      rw [e2]
      rw [e, Bool.true_and] at q
      exact q
    · rw [Bool.eq_false_iff.mpr e, Bool.false_and] at q
      exact q
abbrev s_decoded : Stmt := topS 6
abbrev N_decoded : List Str := ["text", "found", "holder", "complete", "place", "character"]
theorem sc_decoded : FnScope N_decoded ["text"] (defScope s_decoded) := ⟨rfl, rfl, rfl, by decide +kernel, rfl, by decide +kernel, by decide +kernel⟩

def sp_decoded (K : PySem.W.Frag) : Sp := fun vs H Q _ => ∃ (z : Str) (ps : List (Nat × Nat)), vs = [.str z] ∧ Wr none ps z.cps.toList ∧ (∀ p ∈ ps, Sy p) ∧ ps.length ≤ 400 ∧
  ∀ v H', Same H H' → Sq H' v (ps.map syp) → Q v H'
theorem lt_sy {p : Nat × Nat} (h : Sy p) : Lt p.2 = true ∧ Lt p.1 = false ∧ Hd p.1 = true := by
  unfold Sy at h
  refine ⟨?_, ?_, ?_⟩
  · unfold Lt
    rw [decide_eq_true h.2.1, decide_eq_true h.2.2]
    rfl
  · unfold Lt
    rw [decide_eq_false (by omega)]
    rfl
  · unfold Hd
    rcases h.1 with e | ⟨e1, e2⟩
    · rw [decide_eq_true e]
      rfl
    · rw [decide_eq_true e1, decide_eq_true e2]
      cases decide (p.1 = 64) <;> rfl

set_option maxHeartbeats 1000000 in
theorem ok_decoded (D : Df K mg "decoded" s_decoded ["text"]) (B : Bn mg) (C_isletter : Cal P w K mg base 1 "_is_letter" ["character"] (sp_isletter K)) (C_isholder : Cal P w K mg base 1 "_is_holder" ["character"] (sp_isholder K))  : Cal P w K mg base 2 "decoded" ["text"] (sp_decoded K) := by
  refine D.cal sc_decoded ?_ ?_
  · intro vs H Q E h; obtain ⟨z, ps, rfl, _⟩ := h; rfl
  intro f cdv A o s H vs Q E hr h
  obtain ⟨z, ps, rfl, hw, hps, hl, q⟩ := h
  have nd := sc_decoded.nd
  refine ⟨_, (pss_cons (ps_set (i := 1) nd rfl (Or.inl rfl) (pe_lst pa_nil))
    (pss_cons (ps_set (i := 2) nd rfl (Or.inl rfl) pe_str)
    (pss_cons (ps_set (i := 3) nd rfl (Or.inl rfl) pe_bl)
    (pss_cons (ps_for PassesOwn.never rfl (pi_enS rfl B.enumerate_ (pa_cons (pv 0) pa_nil)) (pg_tup rfl (pgs_cons (pg_name (i := 4) nd rfl (Or.inl rfl)) (pgs_cons (pg_name (i := 5) nd rfl (Or.inl rfl)) pgs_nil)))
      (pss_one (ps_if (PW.pt (pw_and (pt_val (pe_cal C_isletter (by first | exact hr | exact hr.mono (by decide)) rfl (pa_cons (pv 5) pa_nil))) (pw_and1 (pt_cmpR op_ne (pv 2) pe_str (nomark _)))))
        (pss_cons (ps_expr (pe_bm PySem.F.plainAttrs_list PySem.F.slot_list_append PySem.F.type_list_append mt_append (pv 1) (pa_cons (pe_op op_add_str (pv 2) (pv 5)) pa_nil)))
        (pss_one (ps_set (i := 3) nd rfl (Or.inl rfl) pe_bl)))
        (pss_one (ps_if (PW.pt (pw_and (pt_val (pe_cal C_isholder (by first | exact hr | exact hr.mono (by decide)) rfl (pa_cons (pv 5) pa_nil))) (pw_and1 (pt_val (pv 3)))))
          (pss_cons (ps_set (i := 2) nd rfl (Or.inl rfl) (pv 5))
          (pss_one (ps_set (i := 3) nd rfl (Or.inl rfl) pe_bl)))
          (pss_one ps_never))))))
    (pss_cons (ps_if (pt_not (pt_val (pv 3)))
      (pss_one ps_never)
      pss_nil)
    (pss_one (ps_ret (pe_callTy (T := "tuple") (r := rTupOf K) call_tupK rfl B.tuple_ (by decide +kernel) (pa_cons (pv 1) pa_nil))))))))), ?_⟩
  walk_at "r"
  intro d hd
  have sd := Same.new (o := .lst []) hd
  walk_at "r"
  refine for_it walk_enS (fun i σ H' => ∃ (a : List (Nat × Nat)) (hol : Str) (cm : Bool) (w1 w2 : Option V), σ = [some (.str z), some (.ref d), some (.str hol), some (.bl cm), w1, w2] ∧
    Dc ps a hol cm (z.cps.toList.drop i) ∧ a.length ≤ ps.length ∧ H' d = some (.lst ((a.map syp).map V.str)) ∧ Same H H') ⟨[], _, _, _, _, rfl, .start hw, Nat.zero_le _, upd_same, sd⟩ (fun _ _ _ _ _ => trivial) ?_ ?_
  · rintro i x σ H1 H2 hi ⟨a, hol, cm, w1, w2, rfl, hD, hal, h1, sm⟩ ⟨T, c, rfl, nT, rfl, hc⟩
    have hc' : z.cps.toList[i]? = some c := by rw [Array.getElem?_toList]; exact hc
    obtain ⟨hi2, ec⟩ := List.getElem?_eq_some_iff.mp hc'
    have ed : z.cps.toList.drop i = c :: z.cps.toList.drop (i + 1) := by rw [List.drop_eq_getElem_cons hi2, ec]
    rw [ed] at hD
    generalize z.cps.toList.drop (i + 1) = rest at hD
    have hdT : d ≠ T := ne_of_none h1 nT
    have h2 : (upd H1 T (.tup [.int (i : Nat), .str ⟨#[c]⟩])) d = some (.lst ((a.map syp).map V.str)) := by rw [upd_ne hdT]; exact h1
    have sm2 : Same H (upd H1 T (.tup [.int (i : Nat), .str ⟨#[c]⟩])) := sm.trans (Same.new nT)
    refine ⟨T, [.int (i : Nat), .str ⟨#[c]⟩], rfl, .inl (.inl upd_same), rfl, _, _, rfl, _, _, rfl, rfl, ?_⟩
    generalize upd H1 T (.tup [.int (i : Nat), .str ⟨#[c]⟩]) = H3 at h2 sm2
    -- a holder comes
    have holder : ∀ (h l : Nat) (b : List (Nat × Nat)) (t : List Nat), c = h → rest = l :: t → ps = a ++ (h, l) :: b → Wr (some h) b t → cm = true → Lt c = false ∧ Hd c = true ∧ Dc ps a ⟨#[c]⟩ false rest := by
      rintro h l b t rfl rfl e w _
      have s := lt_sy (hps (c, l) (by rw [e]; exact List.mem_append_right _ List.mem_cons_self))
      exact ⟨s.2.1, s.2.2, .half e w⟩
    -- a letter comes
    have letter : ∀ (h : Nat) (b : List (Nat × Nat)), hol = ⟨#[h]⟩ → ps = a ++ (h, c) :: b → Wr (some h) b rest → Lt c = true ∧ Dc ps (a ++ [(h, c)]) ⟨#[h]⟩ true rest ∧ (a ++ [(h, c)]).length ≤ ps.length := by
      rintro h b rfl e w
      have s0 := hps (h, c) (by rw [e]; exact List.mem_append_right _ List.mem_cons_self)
      refine ⟨(lt_sy s0).1, .whole (by rw [e, List.append_assoc]; rfl) s0.1 w, ?_⟩
      rw [e]
      simp only [List.length_append, List.length_cons, List.length_nil]
      omega
    have way : (∃ h b, hol = ⟨#[h]⟩ ∧ ps = a ++ (h, c) :: b ∧ Wr (some h) b rest) ∨ (cm = true ∧ Lt c = false ∧ Hd c = true ∧ Dc ps a ⟨#[c]⟩ false rest) := by
      cases hD with
      | start w =>
        cases w with
        | new w => exact .inr ⟨rfl, holder _ _ _ _ rfl rfl rfl w rfl⟩
      | whole e hh w =>
        cases w with
        | new w => exact .inr ⟨rfl, holder _ _ _ _ rfl rfl e w rfl⟩
        | old w => exact .inl ⟨_, _, rfl, e, w⟩
      | half e w => exact .inl ⟨_, _, rfl, e, w⟩
    rcases way with ⟨h, b, e1, e2, w⟩ | ⟨e1, e2, e3, e4⟩
    · obtain ⟨g1, g2, g3⟩ := letter h b e1 e2 w
      subst e1
      refine ⟨_, rfl, c, rfl, _, rfl, ?_⟩
      rw [g1]
      refine iteT ?_
      refine ⟨_, rfl, rfl, _, rfl, ?_⟩
      rw [decide_eq_false (p := V.str ⟨#[h]⟩ = V.str (Str.ofString "")) (fun q => nomatch (hst_eq h none).mp q)]
      refine iteT ?_
      refine ⟨_, rfl, .inl ⟨rfl, _, .inl (.inl h2)⟩, ?_⟩
      walk_at "r"
      refine ⟨d, _, _, rfl, rfl, h2, small1000 (by rw [List.length_map, List.length_map]; omega), ?_⟩
      refine ⟨a ++ [(h, c)], _, _, _, _, rfl, g2, g3, ?_, fun b' o eb => ?_⟩
      · rw [upd_same, List.map_append, List.map_append]
        rfl
      · rw [upd_ne (ne_of_none eb hd)]
        exact sm2 _ _ eb
    · subst e1
      refine ⟨_, rfl, c, rfl, _, rfl, ?_⟩
      rw [e2]
      refine iteF ?_
      refine iteF ?_
      refine ⟨_, rfl, c, rfl, _, rfl, ?_⟩
      rw [e3]
      refine iteT ?_
      refine ⟨_, rfl, _, rfl, iteT ?_⟩
      walk_at "r"
      exact ⟨a, _, _, _, _, rfl, e4, hal, h2, sm2⟩
  · rintro σ H1 ⟨a, hol, cm, w1, w2, rfl, hD, hal, h1, sm⟩
    have en : z.cps.toList.drop z.cps.size = [] := List.drop_eq_nil_of_le (by rw [Array.length_toList]; exact Nat.le_refl _)
    rw [en] at hD
    have fin : cm = true ∧ ps = a := by
      cases hD with
      | start w => cases w; exact ⟨rfl, rfl⟩
      | whole e hh w => cases w; exact ⟨rfl, by rw [e, List.append_nil]⟩
    obtain ⟨rfl, rfl⟩ := fin
    refine ⟨_, rfl, _, rfl, iteF ?_⟩
    refine ⟨_, rfl, d, _, rfl, .inl ⟨.inl (.inl h1), fun l hl => ?_⟩⟩
    exact q _ _ (sm.trans (Same.new hl)) (Sq.mk upd_same)
abbrev s_law : Stmt := topS 18
abbrev N_law : List Str := ["script", "tape", "told", "k", "letters", "signs", "sequence", "least", "text", "long"]
theorem sc_law : FnScope N_law ["script"] (defScope s_law) := ⟨rfl, rfl, rfl, by decide +kernel, rfl, by decide +kernel, by decide +kernel⟩

/-- a sequence of symbols of an alphabet -/
def Sqs (H : Hp) (v : V) : Prop := ∃ ps : List (Nat × Nat), Sq H v (ps.map syp) ∧ (∀ p ∈ ps, Sy p) ∧ ps.length ≤ 40
theorem Sqs.kt {H H' : Hp} {v : V} (h : Sqs H v) (k : KT H H') : Sqs H' v := by
  obtain ⟨ps, h1, h2⟩ := h
  exact ⟨ps, h1.kt k, h2⟩
theorem cutV_mem {xs : List V} {lo hi : Option Int} {x : V} (h : x ∈ cutV xs lo hi) : x ∈ xs := by
  unfold cutV at h
  exact List.mem_of_mem_drop (List.mem_of_mem_take h)
theorem rep_sy {ps : List (Nat × Nat)} (h : ∀ p ∈ ps, Sy p) : ∀ m : Nat, ∀ p ∈ (List.replicate m ps).flatten, Sy p := fun m p hp => by
  obtain ⟨l, hl, hp⟩ := List.mem_flatten.mp hp
  rw [(List.mem_replicate.mp hl).2] at hp
  exact h p hp
theorem map_rep (ps : List (Nat × Nat)) : ∀ m : Nat, (List.replicate m ((ps.map syp).map V.str)).flatten = (((List.replicate m ps).flatten.map syp).map V.str)
  | 0 => rfl
  | m + 1 => by
    rw [List.replicate_succ, List.replicate_succ, List.flatten_cons, List.flatten_cons, List.map_append, List.map_append, map_rep ps m]
theorem rep_str (z : Str) (h : Sg z) (l : z.length ≤ 1000) : (PyData.str z).showable = true ∧ (PyData.str z).hasDict = false ∧ (PyData.str z).depth ≤ 40 ∧ (PyData.str z).shown.length ≤ sizeLine := by
  have s := Sh.str h
  exact ⟨s.s, s.n, Nat.le_trans s.p (by decide), s.fits (by omega)⟩

set_option maxHeartbeats 1000000 in
theorem ok_law {e : Addr} {ed : FuncData} (F : Fun K "law" "law" s_law e ed) (B : Bn mg) (C_lawtape : Cal P w K mg base 1 "_law_tape" ["script"] (spTape K)) (C_lawletters : Cal P w K mg base 3 "_law_letters" ["tape"] (sp_lawletters K)) (C_lawsymbols : Cal P w K mg base 1 "_law_symbols" ["letters", "owners"] (sp_lawsymbols K)) (C_lawowners : Cal P w K mg base 3 "_law_owners" ["tape"] (sp_lawowners K)) (C_lawsequence : Cal P w K mg base 2 "_law_sequence" ["tape", "signs", "most"] (sp_lawsequence K)) (C_lawdraw : Cal P w K mg base 1 "_law_draw" ["tape", "many"] (spDraw K)) (C_encoded : Cal P w K mg base 1 "encoded" ["sequence"] (sp_encoded K)) (C_decoded : Cal P w K mg base 2 "decoded" ["text"] (sp_decoded K)) (C_lawwritten : Cal P w K mg base 2 "_law_written" ["tape", "sequence", "needless"] (sp_lawwritten K))  : FnG P w K mg base CX0 4 e ed ["script"] (spLaw K) := by
  refine okG0 F sc_law ?_ ?_
  · intro vs H Q E h; obtain ⟨a, ns, rfl, _⟩ := h; rfl
  intro f cdv A o s H vs Q E hr gd h
  obtain ⟨a, ns, rfl, hS, hl, q⟩ := h
  have nd := sc_law.nd
  have hrep : A.units + 3 + 64 < cLine := hr.units
  refine ⟨_, (pss_cons (ps_set (i := 1) nd rfl (Or.inl rfl) (pe_cal C_lawtape (by first | exact hr | exact hr.mono (by decide)) rfl (pa_cons (pv 0) pa_nil)))
    (pss_cons (ps_set (i := 2) nd rfl (Or.inl rfl) (pe_lst pa_nil))
    (pss_cons (ps_for PassesOwn.never rfl (pi_range1 rfl B.range_ (pa_cons pe_int pa_nil)) (pg_name (i := 3) nd rfl (Or.inl rfl))
      (pss_cons (ps_set (i := 4) nd rfl (Or.inl rfl) (pe_cal C_lawletters (by first | exact hr | exact hr.mono (by decide)) rfl (pa_cons (pv 1) pa_nil)))
      (pss_cons (ps_set (i := 5) nd rfl (Or.inl rfl) (pe_cal C_lawsymbols (by first | exact hr | exact hr.mono (by decide)) rfl (pa_cons (pv 4) (pa_cons (pe_cal C_lawowners (by first | exact hr | exact hr.mono (by decide)) rfl (pa_cons (pv 1) pa_nil)) pa_nil))))
      (pss_one (ps_expr (pe_bm PySem.F.plainAttrs_list PySem.F.slot_list_append PySem.F.type_list_append mt_append (pv 2) (pa_cons (pe_cal C_lawsequence (by first | exact hr | exact hr.mono (by decide)) rfl (pa_cons (pv 1) (pa_cons (pv 5) (pa_cons (pe_ix (r := rIxL K) ix_list (pe_lst (pa_cons pe_int (pa_cons pe_int (pa_cons pe_int (pa_cons pe_int pa_nil))))) (pe_cal C_lawdraw (by first | exact hr | exact hr.mono (by decide)) rfl (pa_cons (pv 1) (pa_cons pe_int pa_nil))) (fun _ _ => rfl)) pa_nil)))) pa_nil)))))))
    (pss_cons (ps_for PassesOwn.never rfl (show PI _ _ _ (iList K _) from pi_list (pe_op op_cat (pe_op op_cat (pv 2) (pe_slice (r := rSlL K) sl_list (pv 2) po_none (po_some pe_int))) (pe_lst (pa_cons (pe_tup pa_nil) pa_nil)))) (pg_name (i := 6) nd rfl (Or.inl rfl))
      (pss_cons (ps_set (i := 7) nd rfl (Or.inl rfl) (pe_cal C_encoded (by first | exact hr | exact hr.mono (by decide)) rfl (pa_cons (pv 6) pa_nil)))
      (pss_cons (ps_if (PW.pt (pw_or (pt_cmpR op_ne (pe_callB (id := "repr") (r := rRep K) (call_rep gd hrep) rfl B.repr_ (by decide +kernel) (pa_cons (pv 7) pa_nil)) (pe_callB (id := "repr") (r := rRep K) (call_rep gd hrep) rfl B.repr_ (by decide +kernel) (pa_cons (pe_cal C_lawwritten (by first | exact hr | exact hr.mono (by decide)) rfl (pa_cons (pv 1) (pa_cons (pv 6) (pa_cons pe_int pa_nil)))) pa_nil)) (nomark _)) (pw_or1 (pt_cmpR op_ne (pe_callB (id := "repr") (r := rRep K) (call_rep gd hrep) rfl B.repr_ (by decide +kernel) (pa_cons (pe_cal C_decoded (by first | exact hr | exact hr.mono (by decide)) rfl (pa_cons (pv 7) pa_nil)) pa_nil)) (pe_callB (id := "repr") (r := rRep K) (call_rep gd hrep) rfl B.repr_ (by decide +kernel) (pa_cons (pv 6) pa_nil)) (nomark _)))))
        (pss_one (ps_ret pe_bl))
        pss_nil)
      (pss_cons (ps_set (i := 8) nd rfl (Or.inl rfl) (pe_cal C_lawwritten (by first | exact hr | exact hr.mono (by decide)) rfl (pa_cons (pv 1) (pa_cons (pv 6) (pa_cons (pe_ix (r := rIxL K) ix_list (pe_lst (pa_cons pe_int (pa_cons pe_int pa_nil))) (pe_cal C_lawdraw (by first | exact hr | exact hr.mono (by decide)) rfl (pa_cons (pv 1) (pa_cons pe_int pa_nil))) (fun _ _ => rfl)) pa_nil)))))
      (pss_one (ps_if (PW.pt (pw_or (pt_cmpR op_ne (pe_callB (id := "repr") (r := rRep K) (call_rep gd hrep) rfl B.repr_ (by decide +kernel) (pa_cons (pe_cal C_decoded (by first | exact hr | exact hr.mono (by decide)) rfl (pa_cons (pv 8) pa_nil)) pa_nil)) (pe_callB (id := "repr") (r := rRep K) (call_rep gd hrep) rfl B.repr_ (by decide +kernel) (pa_cons (pv 6) pa_nil)) (nomark _)) (pw_or1 (pt_cmpR op_gt (pe_callB (id := "len") call_len_str rfl B.len_ PySem.boot_len (pa_cons (pv 7) pa_nil)) (pe_callB (id := "len") call_len_str rfl B.len_ PySem.boot_len (pa_cons (pv 8) pa_nil)) (nomark _)))))
        (pss_one (ps_ret pe_bl))
        pss_nil))))))
    (pss_cons (ps_set (i := 9) nd rfl (Or.inl rfl) (pe_slice (r := rSlA K) sl_tupA (pe_op (r := rRepE K) op_repE (pe_ix (r := rIxL K) ix_list (pv 2) pe_int (fun _ _ => rfl)) pe_int) po_none (po_some pe_int)))
    (pss_cons (ps_set (i := 8) nd rfl (Or.inl rfl) (pe_cal C_lawwritten (by first | exact hr | exact hr.mono (by decide)) rfl (pa_cons (pv 1) (pa_cons (pv 9) (pa_cons pe_int pa_nil)))))
    (pss_one (ps_ret (pe_and (pe_cmpR op_eq (pe_callB (id := "repr") (r := rRep K) (call_rep gd hrep) rfl B.repr_ (by decide +kernel) (pa_cons (pe_cal C_encoded (by first | exact hr | exact hr.mono (by decide)) rfl (pa_cons (pv 9) pa_nil)) pa_nil)) (pe_callB (id := "repr") (r := rRep K) (call_rep gd hrep) rfl B.repr_ (by decide +kernel) (pa_cons (pe_cal C_lawwritten (by first | exact hr | exact hr.mono (by decide)) rfl (pa_cons (pv 1) (pa_cons (pv 9) (pa_cons pe_int pa_nil)))) pa_nil)) (nomark _)) (pe_one (pe_cmpR op_eq (pe_callB (id := "repr") (r := rRep K) (call_rep gd hrep) rfl B.repr_ (by decide +kernel) (pa_cons (pe_cal C_decoded (by first | exact hr | exact hr.mono (by decide)) rfl (pa_cons (pv 8) pa_nil)) pa_nil)) (pe_callB (id := "repr") (r := rRep K) (call_rep gd hrep) rfl B.repr_ (by decide +kernel) (pa_cons (pv 9) pa_nil)) (nomark _)))))))))))), ?_⟩
  refine ⟨_, rfl, a, ns, rfl, hS, hl, fun t H1 _ _ T1 => ?_⟩
  walk_at "r"
  intro d hd
  walk_at "r"
  refine ⟨by decide, by decide, ?_⟩
  refine for_it walk_range (fun i σ H' => ∃ (w1 w2 w3 : Option V) (xs : List V), σ = [some (.ref a), some (.ref t.1), some (.ref d), w1, w2, w3, none, none, none, none] ∧
    Tape K H' t ∧ d ≠ t.1 ∧ d ≠ t.2 ∧ H' d = some (.lst xs) ∧ xs.length = i ∧ ∀ v ∈ xs, Sqs H' v) ?_ (fun _ _ _ _ _ => trivial) ?_ ?_
  · exact ⟨none, none, none, [], rfl, T1.new hd, T1.ne hd, T1.ne2 hd, upd_same, rfl, fun _ h => nomatch h⟩
  · rintro i x σ H2 H3 hi ⟨w1, w2, w3, xs, rfl, T2, dt, dt2, hd2, hn, hA⟩ ⟨rfl, rfl⟩
    have hi2 : i < 2 := hi
    refine ⟨_, rfl, t, rfl, T2, fun y H4 hy y1 y3 kp4 T4 => ?_⟩
    walk_at "r"
    refine ⟨T4, fun z H5 hz z1 z3 kp5 T5 => ?_⟩
    have yl := str_len y
    have zl := str_len z
    have l1 : (comb (64 :: z.cps.toList) y.cps.toList).length = (z.length + 1) * y.length := by
      rw [comb_len, List.length_cons, yl, zl]
    have l2 : (z.length + 1) * y.length ≤ 12 := Nat.mul_le_mul (show z.length + 1 ≤ 4 by omega) y3
    have l3 : 1 * 1 ≤ (z.length + 1) * y.length := Nat.mul_le_mul (by omega) y1
    walk_at "r"
    refine ⟨y, z, rfl, by omega, by omega, fun p H6 sm6 n6 hp6 => ?_⟩
    have T6 := T5.same sm6
    have pt6 : p ≠ t.1 := T5.ne n6
    have hd6 := sm6 _ _ (kp5 d _ dt (kp4 d _ dt hd2))
    have k6 : KT H3 H6 := (kp4.kt T2).trans ((kp5.kt T4).trans (Same.kt sm6))
    refine ⟨_, rfl, .inl ⟨rfl, _, .inl (.inl hd6)⟩, ?_⟩
    walk_at "r"
    intro p7 hp7
    walk_at "r"
    refine ⟨t, _, rfl, T6.new hp7, by decide, fun v8 H8 v80 v81 kp8 _ T8 => ?_⟩
    obtain ⟨m, hm, em⟩ := pickI (ns := [6, 6, 15, 40]) (v := v8) v80 (by show v8 < 4; omega)
    have m4 : 0 ≤ m ∧ m ≤ 40 := by simp at hm; omega
    refine ⟨p7, _, _, _, rfl, rfl, .inl (.inl (kp8 p7 _ (T6.ne hp7) upd_same)), em, ?_⟩
    have hp8 := kp8 p _ pt6 (Same.new hp7 _ _ hp6)
    have hd8 := kp8 d _ dt (Same.new hp7 _ _ hd6)
    refine ⟨t, p, _, m, rfl, T8, hp8, pt6, by omega, by omega, m4.1, by omega, fun v ss H9 hv hx hxl kp9 T9 => ?_⟩
    have hd9 := kp9 d _ dt hd8
    obtain ⟨ps, rfl, hps⟩ := pairs_of (hs := 64 :: z.cps.toList) (ls := y.cps.toList) (fun c hc => by
      rcases List.mem_cons.mp hc with rfl | h
      · exact .inl rfl
      · exact .inr (caps_rng c (hz.subset h))) (fun c hc => lows_rng c (hy.subset hc)) ss hx
    have k9 : KT H3 H9 := k6.trans ((KT.new hp7).trans ((kp8.kt (T6.new hp7)).trans (kp9.kt T8)))
    rw [List.length_map] at hxl
    refine ⟨d, _, _, rfl, rfl, hd9, small1000 (by omega), ?_⟩
    refine ⟨_, _, _, xs ++ [v], rfl, T9.put dt dt2, dt, dt2, upd_same, by rw [List.length_append, hn]; rfl, fun u hu => ?_⟩
    rcases List.mem_append.mp hu with h | h
    · exact ((hA u h).kt k9).kt (KT.put hd9)
    · rw [show u = v by simpa using h]
      exact ⟨ps, hv.kt (KT.put hd9), hps, by omega⟩
  · rintro σ H2 ⟨w1, w2, w3, xs, rfl, T2, dt, dt2, hd2, hn, hA⟩
    have hn : xs.length = 2 := hn
    refine ⟨_, rfl, _, rfl, 1, rfl, d, xs, rfl, .inl (.inl hd2), fun c hc => ?_⟩
    have hdc : d ≠ c := ne_of_none hd2 hc
    have cl := cutV_length xs none (some 1)
    refine ⟨d, c, xs, _, rfl, rfl, by rw [upd_ne hdc]; exact hd2, upd_same, le_size (by omega), fun e he => ?_⟩
    refine ⟨le_size0 rfl, fun f1 hf1 => ?_⟩
    refine ⟨le_size0 rfl, fun f2 hf2 => ?_⟩
    have hef2 : e ≠ f2 := ne_of_none (Same.new hf1 _ _ upd_same) hf2
    have he2 : (upd (upd (upd (upd H2 c (.lst (cutV xs none (some 1)))) e (.lst (xs ++ cutV xs none (some 1)))) f1 (.tup [])) f2 (.lst [.ref f1])) e = some (.lst (xs ++ cutV xs none (some 1))) :=
      Same.new hf2 _ _ (Same.new hf1 _ _ upd_same)
    refine ⟨e, f2, _, _, rfl, rfl, he2, upd_same, le_size (by rw [List.length_append]; show xs.length + (cutV xs none (some 1)).length + 1 ≤ 1000; omega), fun g hg => ?_⟩
    obtain ⟨L, hL⟩ : ∃ L, L = xs ++ cutV xs none (some 1) ++ [V.ref f1] := ⟨_, rfl⟩
    have sm0 : Same H2 (upd (upd (upd (upd H2 c (.lst (cutV xs none (some 1)))) e (.lst (xs ++ cutV xs none (some 1)))) f1 (.tup [])) f2 (.lst [.ref f1])) :=
      (Same.new hc).trans ((Same.new he).trans ((Same.new hf1).trans (Same.new hf2)))
    have hf1g : (upd (upd (upd (upd H2 c (.lst (cutV xs none (some 1)))) e (.lst (xs ++ cutV xs none (some 1)))) f1 (.tup [])) f2 (.lst [.ref f1])) f1 = some (.tup []) := Same.new hf2 _ _ upd_same
    generalize (upd (upd (upd (upd H2 c (.lst (cutV xs none (some 1)))) e (.lst (xs ++ cutV xs none (some 1)))) f1 (.tup [])) f2 (.lst [.ref f1])) = H3 at sm0 hf1g hg he2 ⊢
    rw [← hL]
    have sm1 : Same H2 (upd H3 g (.lst L)) := sm0.trans (Same.new hg)
    have T3 := T2.same sm1
    have gt : g ≠ t.1 := (T2.same sm0).ne hg
    have hA3 : ∀ v ∈ L, Sqs (upd H3 g (.lst L)) v := fun v hv => by
      rw [hL] at hv
      rcases List.mem_append.mp hv with h | h
      · rcases List.mem_append.mp h with h | h
        · exact (hA v h).kt (Same.kt sm1)
        · exact (hA v (cutV_mem h)).kt (Same.kt sm1)
      · rw [show v = V.ref f1 by simpa using h]
        exact ⟨[], Sq.mk (xs := []) (Same.new hg _ _ hf1g), (fun _ h => nomatch h), by decide⟩
    have hd3 := sm1 _ _ hd2
    have hg3 : (upd H3 g (.lst L)) g = some (.lst L) := upd_same
    have hA30 : ∀ v ∈ xs, Sqs (upd H3 g (.lst L)) v := fun v hv => (hA v hv).kt (Same.kt sm1)
    generalize upd H3 g (.lst L) = H4 at T3 hA3 hd3 hg3 hA30
    refine ⟨g, rfl, ⟨_, .inl (.inl hg3)⟩, ?_⟩
    refine for_it (walk_list (xs := L)) (fun i σ H' => ∃ (w1 w2 w3 w4 w5 w6 : Option V), σ = [some (.ref a), some (.ref t.1), some (.ref d), w1, w2, w3, w4, w5, w6, none] ∧
      Tape K H' t ∧ Kp t H4 H') ⟨_, _, _, _, _, _, rfl, T3, Kp.refl _ _⟩ ?_ ?_ ?_
    · rintro i σ H' hi ⟨w1, w2, w3, w4, w5, w6, rfl, T, kp⟩
      exact .inl (.inl (kp g _ gt hg3))
    · rintro i x σ H5 H6 hi ⟨w1, w2, w3, w4, w5, w6, rfl, T5, kp⟩ ⟨rfl, hx⟩
      obtain ⟨ps, hx4, hps, hpl⟩ := hA3 x (List.mem_of_getElem? hx)
      have hx6 := hx4.kt (kp.kt T3)
      have shp := sh_ps hps
      have shl : (ps.map syp).length ≤ 40 := by rw [List.length_map]; exact hpl
      walk_at "r"
      refine ⟨x, ps, rfl, hx6, by omega, fun least H7 sm7 hle => ?_⟩
      have T7 := T5.same sm7
      have hx7 := hx6.kt (Same.kt sm7)
      have lw := enc_wr none ps
      have lsg : Sg least := fun c hc => by rw [hle] at hc; exact lw.sg hps c hc
      have lln : least.length ≤ 80 := by rw [← str_len, hle]; have := lw.len; omega
      obtain ⟨r1, r2, r3, r4⟩ := rep_str least lsg (by omega)
      walk_at "r"
      refine ⟨_, _, rfl, Dp.str least, r1, r2, r3, r4, ?_⟩
      walk_at "r"
      refine ⟨t, x, ps, 0, rfl, T7, hx7, by omega, by decide, by decide, fun y H8 hw8 h08 kp8 T8 => ?_⟩
      have ey : y = least := str_ext ((h08 rfl).trans hle.symm)
      subst ey
      have hx8 := hx7.kt (kp8.kt T7)
      refine ⟨_, _, rfl, Dp.str y, r1, r2, r3, r4, ?_⟩
      refine ⟨rfl, _, rfl, iteNS rfl ?_⟩
      walk_at "r"
      refine ⟨y, ps, rfl, hw8, hps, by omega, fun v H9 sm9 hv9 => ?_⟩
      have hx9 := hx8.kt (Same.kt sm9)
      have T9 := T8.same sm9
      refine ⟨_, _, rfl, Im.dp hv9, shp.s, shp.n, Nat.le_trans shp.p (by decide), shp.fits (by omega), ?_⟩
      walk_at "r"
      refine ⟨_, _, rfl, Im.dp hx9, shp.s, shp.n, Nat.le_trans shp.p (by decide), shp.fits (by omega), ?_⟩
      refine ⟨rfl, _, rfl, iteNS rfl ?_⟩
      walk_at "r"
      intro p10 hp10
      walk_at "r"
      refine ⟨t, _, rfl, T9.new hp10, by decide, fun v11 H11 v110 v111 kp11 _ T11 => ?_⟩
      obtain ⟨m, hm, em⟩ := pickI (ns := [2, 5]) (v := v11) v110 (by show v11 < 2; omega)
      have m4 : 0 ≤ m ∧ m ≤ 5 := by simp at hm; omega
      refine ⟨p10, _, _, _, rfl, rfl, .inl (.inl (kp11 p10 _ (T9.ne hp10) upd_same)), em, ?_⟩
      have hx11 := hx9.kt ((KT.new (o := .lst [.int 2, .int 5]) hp10).trans (kp11.kt (T9.new hp10)))
      refine ⟨t, x, ps, m, rfl, T11, hx11, by omega, m4.1, by omega, fun text H12 hw12 _ kp12 T12 => ?_⟩
      have hx12 := hx11.kt (kp12.kt T11)
      have tln : text.length ≤ 80 := by rw [← str_len]; have := hw12.len; omega
      walk_at "r"
      refine ⟨text, ps, rfl, hw12, hps, by omega, fun v H13 sm13 hv13 => ?_⟩
      have hx13 := hx12.kt (Same.kt sm13)
      have T13 := T12.same sm13
      refine ⟨_, _, rfl, Im.dp hv13, shp.s, shp.n, Nat.le_trans shp.p (by decide), shp.fits (by omega), ?_⟩
      walk_at "r"
      refine ⟨_, _, rfl, Im.dp hx13, shp.s, shp.n, Nat.le_trans shp.p (by decide), shp.fits (by omega), ?_⟩
      refine ⟨rfl, _, rfl, iteNS rfl ?_⟩
      walk_at "r"
      have hlen : y.length ≤ text.length := by
        have := enc_le hw12
        rw [← hle, str_len, str_len] at this
        exact this
      rw [decide_eq_false (by omega)]
      refine iteF ?_
      exact ⟨_, _, _, _, _, _, rfl, T13, kp.trans ((Same.kp (t := t) sm7).trans (kp8.trans ((Same.kp (t := t) sm9).trans ((Kp.new hp10).trans (kp11.trans (kp12.trans (Same.kp (t := t) sm13)))))))⟩
    · rintro σ H5 ⟨w1, w2, w3, w4, w5, w6, rfl, T5, kp⟩
      have hd5 := kp d _ dt hd3
      have x0 : xs[0]? = some xs[0] := List.getElem?_eq_getElem (by omega)
      obtain ⟨ps, hv0, hps, hpl⟩ := hA30 xs[0] (List.getElem_mem _)
      have hv5 := hv0.kt (kp.kt T3)
      obtain ⟨v0, ev0, hv05⟩ := Sq.get hv5
      obtain ⟨qs, hqs⟩ : ∃ qs, qs = ((List.replicate 100 ps).flatten).take 100 := ⟨_, rfl⟩
      have hqy : ∀ p ∈ qs, Sy p := fun p hp => by
        rw [hqs] at hp
        exact rep_sy hps 100 p (List.mem_of_mem_take hp)
      have hql : qs.length ≤ 100 := by rw [hqs, List.length_take]; omega
      refine ⟨_, rfl, d, _, 0, _, rfl, rfl, .inl (.inl hd5), atI_nat (j := 0) x0, ?_⟩
      rw [ev0]
      refine ⟨v0, 100, _, rfl, rfl, .inl (.inl hv05), by decide, by decide, by rw [List.length_map, List.length_map]; omega, fun hnil => ?_, fun hne p6 hp6 => ?_⟩
      · have hps0 : ps = [] := List.map_eq_nil_iff.mp (List.map_eq_nil_iff.mp hnil)
        subst hps0
        refine ⟨100, rfl, v0, _, rfl, .inl (.inl hv05), fun _ => ?_, fun hw => absurd ⟨rfl, rfl⟩ hw⟩
        have hq0 : qs = [] := by rw [hqs]; rfl
        have hw : Sq H5 (.ref v0) (qs.map syp) := by rw [hq0]; exact Sq.mk hv05
        have TX := T5
        walk_at "r"
        refine ⟨t, .ref v0, qs, 1, rfl, TX, hw, by omega, by decide, by decide, fun text H7 hw7 _ kp7 T7 => ?_⟩
        have hx7 := hw.kt (kp7.kt TX)
        walk_at "r"
        refine ⟨.ref v0, qs, rfl, hx7, by omega, fun least H8 sm8 hle => ?_⟩
        have T8 := T7.same sm8
        have hx8 := hx7.kt (Same.kt sm8)
        have lw := enc_wr none qs
        have lsg : Sg least := fun c hc => by rw [hle] at hc; exact lw.sg hqy c hc
        have lln : least.length ≤ 200 := by rw [← str_len, hle]; have := lw.len; omega
        obtain ⟨r1, r2, r3, r4⟩ := rep_str least lsg (by omega)
        refine ⟨_, _, rfl, Dp.str least, r1, r2, r3, r4, ?_⟩
        walk_at "r"
        refine ⟨t, .ref v0, qs, 0, rfl, T8, hx8, by omega, by decide, by decide, fun y H9 hw9 h09 kp9 T9 => ?_⟩
        have ey : y = least := str_ext ((h09 rfl).trans hle.symm)
        subst ey
        have hx9 := hx8.kt (kp9.kt T8)
        refine ⟨_, _, rfl, Dp.str y, r1, r2, r3, r4, ?_⟩
        refine ⟨rfl, _, rfl, ?_⟩
        rw [decide_eq_true rfl]
        refine iteT ?_
        walk_at "r"
        refine ⟨text, qs, rfl, hw7, hqy, by omega, fun v H10 sm10 hv10 => ?_⟩
        have shp := sh_ps hqy
        have shl : (qs.map syp).length ≤ 100 := by rw [List.length_map]; exact hql
        refine ⟨_, _, rfl, Im.dp hv10, shp.s, shp.n, Nat.le_trans shp.p (by decide), shp.fits (by omega), ?_⟩
        walk_at "r"
        refine ⟨_, _, rfl, Im.dp (hx9.kt (Same.kt sm10)), shp.s, shp.n, Nat.le_trans shp.p (by decide), shp.fits (by omega), ?_⟩
        refine ⟨rfl, ?_⟩
        rw [decide_eq_true rfl]
        exact q H10
      · have el : ((List.replicate 100 ((ps.map syp).map V.str)).flatten) = ((List.replicate 100 ps).flatten.map syp).map V.str := map_rep ps 100
        refine ⟨100, rfl, p6, _, rfl, .inl (.inl upd_same), fun hw => ?_, fun hw p7 hp7 => ?_⟩
        · have key : ∀ L : Nat, HT.sIx L L (some (100 : Int)) = L → L ≤ 100 := fun L h => by
            rw [show HT.sIx L L (some (100 : Int)) = min 100 L from HT.sIx_nat L L 100] at h
            omega
          have h3 : (List.replicate (100 : Int).toNat ((ps.map syp).map V.str)).flatten.length ≤ 100 := key _ hw.2
          have h4 : ((List.replicate 100 ps).flatten).length ≤ 100 := by
            have h5 : (List.replicate (100 : Int).toNat ((ps.map syp).map V.str)).flatten.length = ((List.replicate 100 ps).flatten).length := by
              show (List.replicate 100 ((ps.map syp).map V.str)).flatten.length = _
              rw [el, List.length_map, List.length_map]
            omega
          have hq1 : qs = (List.replicate 100 ps).flatten := by rw [hqs]; exact List.take_of_length_le h4
          have hw : Sq (upd H5 p6 (.tup (List.replicate (100 : Int).toNat ((ps.map syp).map V.str)).flatten)) (.ref p6) (qs.map syp) := by
            refine Sq.mk ?_
            rw [upd_same, hq1]
            show some (HO.tup (List.replicate 100 ((ps.map syp).map V.str)).flatten) = _
            rw [el]
          have TX := T5.new (o := .tup (List.replicate (100 : Int).toNat ((ps.map syp).map V.str)).flatten) hp6
          walk_at "r"
          refine ⟨t, .ref p6, qs, 1, rfl, TX, hw, by omega, by decide, by decide, fun text H7 hw7 _ kp7 T7 => ?_⟩
          have hx7 := hw.kt (kp7.kt TX)
          walk_at "r"
          refine ⟨.ref p6, qs, rfl, hx7, by omega, fun least H8 sm8 hle => ?_⟩
          have T8 := T7.same sm8
          have hx8 := hx7.kt (Same.kt sm8)
          have lw := enc_wr none qs
          have lsg : Sg least := fun c hc => by rw [hle] at hc; exact lw.sg hqy c hc
          have lln : least.length ≤ 200 := by rw [← str_len, hle]; have := lw.len; omega
          obtain ⟨r1, r2, r3, r4⟩ := rep_str least lsg (by omega)
          refine ⟨_, _, rfl, Dp.str least, r1, r2, r3, r4, ?_⟩
          walk_at "r"
          refine ⟨t, .ref p6, qs, 0, rfl, T8, hx8, by omega, by decide, by decide, fun y H9 hw9 h09 kp9 T9 => ?_⟩
          have ey : y = least := str_ext ((h09 rfl).trans hle.symm)
          subst ey
          have hx9 := hx8.kt (kp9.kt T8)
          refine ⟨_, _, rfl, Dp.str y, r1, r2, r3, r4, ?_⟩
          refine ⟨rfl, _, rfl, ?_⟩
          rw [decide_eq_true rfl]
          refine iteT ?_
          walk_at "r"
          refine ⟨text, qs, rfl, hw7, hqy, by omega, fun v H10 sm10 hv10 => ?_⟩
          have shp := sh_ps hqy
          have shl : (qs.map syp).length ≤ 100 := by rw [List.length_map]; exact hql
          refine ⟨_, _, rfl, Im.dp hv10, shp.s, shp.n, Nat.le_trans shp.p (by decide), shp.fits (by omega), ?_⟩
          walk_at "r"
          refine ⟨_, _, rfl, Im.dp (hx9.kt (Same.kt sm10)), shp.s, shp.n, Nat.le_trans shp.p (by decide), shp.fits (by omega), ?_⟩
          refine ⟨rfl, ?_⟩
          rw [decide_eq_true rfl]
          exact q H10
        · have ec : cutV (List.replicate (100 : Int).toNat ((ps.map syp).map V.str)).flatten none (some 100) = (qs.map syp).map V.str := by
            rw [show (100 : Int) = ((100 : Nat) : Int) from rfl, cut_to, hqs]
            show (List.replicate 100 ((ps.map syp).map V.str)).flatten.take 100 = _
            rw [el, List.map_take, List.map_take]
          have hw : Sq (upd (upd H5 p6 (.tup (List.replicate (100 : Int).toNat ((ps.map syp).map V.str)).flatten)) p7 (.tup (cutV (List.replicate (100 : Int).toNat ((ps.map syp).map V.str)).flatten none (some 100)))) (.ref p7) (qs.map syp) := by
            refine Sq.mk ?_
            rw [upd_same, ec]
          have TX := (T5.new (o := .tup (List.replicate (100 : Int).toNat ((ps.map syp).map V.str)).flatten) hp6).new (o := .tup (cutV (List.replicate (100 : Int).toNat ((ps.map syp).map V.str)).flatten none (some 100))) hp7
          walk_at "r"
          refine ⟨t, .ref p7, qs, 1, rfl, TX, hw, by omega, by decide, by decide, fun text H7 hw7 _ kp7 T7 => ?_⟩
          have hx7 := hw.kt (kp7.kt TX)
          walk_at "r"
          refine ⟨.ref p7, qs, rfl, hx7, by omega, fun least H8 sm8 hle => ?_⟩
          have T8 := T7.same sm8
          have hx8 := hx7.kt (Same.kt sm8)
          have lw := enc_wr none qs
          have lsg : Sg least := fun c hc => by rw [hle] at hc; exact lw.sg hqy c hc
          have lln : least.length ≤ 200 := by rw [← str_len, hle]; have := lw.len; omega
          obtain ⟨r1, r2, r3, r4⟩ := rep_str least lsg (by omega)
          refine ⟨_, _, rfl, Dp.str least, r1, r2, r3, r4, ?_⟩
          walk_at "r"
          refine ⟨t, .ref p7, qs, 0, rfl, T8, hx8, by omega, by decide, by decide, fun y H9 hw9 h09 kp9 T9 => ?_⟩
          have ey : y = least := str_ext ((h09 rfl).trans hle.symm)
          subst ey
          have hx9 := hx8.kt (kp9.kt T8)
          refine ⟨_, _, rfl, Dp.str y, r1, r2, r3, r4, ?_⟩
          refine ⟨rfl, _, rfl, ?_⟩
          rw [decide_eq_true rfl]
          refine iteT ?_
          walk_at "r"
          refine ⟨text, qs, rfl, hw7, hqy, by omega, fun v H10 sm10 hv10 => ?_⟩
          have shp := sh_ps hqy
          have shl : (qs.map syp).length ≤ 100 := by rw [List.length_map]; exact hql
          refine ⟨_, _, rfl, Im.dp hv10, shp.s, shp.n, Nat.le_trans shp.p (by decide), shp.fits (by omega), ?_⟩
          walk_at "r"
          refine ⟨_, _, rfl, Im.dp (hx9.kt (Same.kt sm10)), shp.s, shp.n, Nat.le_trans shp.p (by decide), shp.fits (by omega), ?_⟩
          refine ⟨rfl, ?_⟩
          rw [decide_eq_true rfl]
          exact q H10
end
theorem all_mk {l : PySem.W.OpenLaw} {w : World} {K : PySem.W.Frag} {h : Heap} {mg : Str → Option Value} {fa : Addr} (X : K.In h) (G : h.Ns mainGlobals mg) (hfa : mg "law" = some (.ref fa))
    {f1 : Addr} {od1 an1 : Option Addr} {sl1 : Array (Option Value)} {oc1 kV1 dc1 pm1 cd1 ct1 : Value}
    (a1 : PySem.W.nsIn K mainGlobals "_law_tape" = some (some (.ref f1)))
    (l1 : K.lookup f1 = some ⟨oc1, od1, .func (PySem.W.fnOf "_law_tape" "_law_tape" (defArgs s_lawtape) (defBody s_lawtape) (defScope s_lawtape) .none kV1 dc1 pm1 an1 cd1 ct1), sl1⟩)
    (c1 : PySem.W.codeIn K cd1 "_law_tape" = true) (k1 : PySem.W.keepIn K (.ref f1) = true)
    {f2 : Addr} {od2 an2 : Option Addr} {sl2 : Array (Option Value)} {oc2 kV2 dc2 pm2 cd2 ct2 : Value}
    (a2 : PySem.W.nsIn K mainGlobals "_law_draw" = some (some (.ref f2)))
    (l2 : K.lookup f2 = some ⟨oc2, od2, .func (PySem.W.fnOf "_law_draw" "_law_draw" (defArgs s_lawdraw) (defBody s_lawdraw) (defScope s_lawdraw) .none kV2 dc2 pm2 an2 cd2 ct2), sl2⟩)
    (c2 : PySem.W.codeIn K cd2 "_law_draw" = true) (k2 : PySem.W.keepIn K (.ref f2) = true)
    {f3 : Addr} {od3 an3 : Option Addr} {sl3 : Array (Option Value)} {oc3 kV3 dc3 pm3 cd3 ct3 : Value}
    (a3 : PySem.W.nsIn K mainGlobals "_law_written" = some (some (.ref f3)))
    (l3 : K.lookup f3 = some ⟨oc3, od3, .func (PySem.W.fnOf "_law_written" "_law_written" (defArgs s_lawwritten) (defBody s_lawwritten) (defScope s_lawwritten) .none kV3 dc3 pm3 an3 cd3 ct3), sl3⟩)
    (c3 : PySem.W.codeIn K cd3 "_law_written" = true) (k3 : PySem.W.keepIn K (.ref f3) = true)
    {f4 : Addr} {od4 an4 : Option Addr} {sl4 : Array (Option Value)} {oc4 kV4 dc4 pm4 cd4 ct4 : Value}
    (a4 : PySem.W.nsIn K mainGlobals "_law_rising" = some (some (.ref f4)))
    (l4 : K.lookup f4 = some ⟨oc4, od4, .func (PySem.W.fnOf "_law_rising" "_law_rising" (defArgs s_lawrising) (defBody s_lawrising) (defScope s_lawrising) .none kV4 dc4 pm4 an4 cd4 ct4), sl4⟩)
    (c4 : PySem.W.codeIn K cd4 "_law_rising" = true) (k4 : PySem.W.keepIn K (.ref f4) = true)
    {f5 : Addr} {od5 an5 : Option Addr} {sl5 : Array (Option Value)} {oc5 kV5 dc5 pm5 cd5 ct5 : Value}
    (a5 : PySem.W.nsIn K mainGlobals "_law_letters" = some (some (.ref f5)))
    (l5 : K.lookup f5 = some ⟨oc5, od5, .func (PySem.W.fnOf "_law_letters" "_law_letters" (defArgs s_lawletters) (defBody s_lawletters) (defScope s_lawletters) .none kV5 dc5 pm5 an5 cd5 ct5), sl5⟩)
    (c5 : PySem.W.codeIn K cd5 "_law_letters" = true) (k5 : PySem.W.keepIn K (.ref f5) = true)
    {f6 : Addr} {od6 an6 : Option Addr} {sl6 : Array (Option Value)} {oc6 kV6 dc6 pm6 cd6 ct6 : Value}
    (a6 : PySem.W.nsIn K mainGlobals "_law_symbols" = some (some (.ref f6)))
    (l6 : K.lookup f6 = some ⟨oc6, od6, .func (PySem.W.fnOf "_law_symbols" "_law_symbols" (defArgs s_lawsymbols) (defBody s_lawsymbols) (defScope s_lawsymbols) .none kV6 dc6 pm6 an6 cd6 ct6), sl6⟩)
    (c6 : PySem.W.codeIn K cd6 "_law_symbols" = true) (k6 : PySem.W.keepIn K (.ref f6) = true)
    {f7 : Addr} {od7 an7 : Option Addr} {sl7 : Array (Option Value)} {oc7 kV7 dc7 pm7 cd7 ct7 : Value}
    (a7 : PySem.W.nsIn K mainGlobals "encoded" = some (some (.ref f7)))
    (l7 : K.lookup f7 = some ⟨oc7, od7, .func (PySem.W.fnOf "encoded" "encoded" (defArgs s_encoded) (defBody s_encoded) (defScope s_encoded) .none kV7 dc7 pm7 an7 cd7 ct7), sl7⟩)
    (c7 : PySem.W.codeIn K cd7 "encoded" = true) (k7 : PySem.W.keepIn K (.ref f7) = true)
    {f8 : Addr} {od8 an8 : Option Addr} {sl8 : Array (Option Value)} {oc8 kV8 dc8 pm8 cd8 ct8 : Value}
    (a8 : PySem.W.nsIn K mainGlobals "_law_owners" = some (some (.ref f8)))
    (l8 : K.lookup f8 = some ⟨oc8, od8, .func (PySem.W.fnOf "_law_owners" "_law_owners" (defArgs s_lawowners) (defBody s_lawowners) (defScope s_lawowners) .none kV8 dc8 pm8 an8 cd8 ct8), sl8⟩)
    (c8 : PySem.W.codeIn K cd8 "_law_owners" = true) (k8 : PySem.W.keepIn K (.ref f8) = true)
    {f9 : Addr} {od9 an9 : Option Addr} {sl9 : Array (Option Value)} {oc9 kV9 dc9 pm9 cd9 ct9 : Value}
    (a9 : PySem.W.nsIn K mainGlobals "_law_sequence" = some (some (.ref f9)))
    (l9 : K.lookup f9 = some ⟨oc9, od9, .func (PySem.W.fnOf "_law_sequence" "_law_sequence" (defArgs s_lawsequence) (defBody s_lawsequence) (defScope s_lawsequence) .none kV9 dc9 pm9 an9 cd9 ct9), sl9⟩)
    (c9 : PySem.W.codeIn K cd9 "_law_sequence" = true) (k9 : PySem.W.keepIn K (.ref f9) = true)
    {f10 : Addr} {od10 an10 : Option Addr} {sl10 : Array (Option Value)} {oc10 kV10 dc10 pm10 cd10 ct10 : Value}
    (a10 : PySem.W.nsIn K mainGlobals "_is_letter" = some (some (.ref f10)))
    (l10 : K.lookup f10 = some ⟨oc10, od10, .func (PySem.W.fnOf "_is_letter" "_is_letter" (defArgs s_isletter) (defBody s_isletter) (defScope s_isletter) .none kV10 dc10 pm10 an10 cd10 ct10), sl10⟩)
    (c10 : PySem.W.codeIn K cd10 "_is_letter" = true) (k10 : PySem.W.keepIn K (.ref f10) = true)
    {f11 : Addr} {od11 an11 : Option Addr} {sl11 : Array (Option Value)} {oc11 kV11 dc11 pm11 cd11 ct11 : Value}
    (a11 : PySem.W.nsIn K mainGlobals "_is_holder" = some (some (.ref f11)))
    (l11 : K.lookup f11 = some ⟨oc11, od11, .func (PySem.W.fnOf "_is_holder" "_is_holder" (defArgs s_isholder) (defBody s_isholder) (defScope s_isholder) .none kV11 dc11 pm11 an11 cd11 ct11), sl11⟩)
    (c11 : PySem.W.codeIn K cd11 "_is_holder" = true) (k11 : PySem.W.keepIn K (.ref f11) = true)
    {f12 : Addr} {od12 an12 : Option Addr} {sl12 : Array (Option Value)} {oc12 kV12 dc12 pm12 cd12 ct12 : Value}
    (a12 : PySem.W.nsIn K mainGlobals "decoded" = some (some (.ref f12)))
    (l12 : K.lookup f12 = some ⟨oc12, od12, .func (PySem.W.fnOf "decoded" "decoded" (defArgs s_decoded) (defBody s_decoded) (defScope s_decoded) .none kV12 dc12 pm12 an12 cd12 ct12), sl12⟩)
    (c12 : PySem.W.codeIn K cd12 "decoded" = true) (k12 : PySem.W.keepIn K (.ref f12) = true)
    {f13 : Addr} {od13 an13 : Option Addr} {sl13 : Array (Option Value)} {oc13 kV13 dc13 pm13 cd13 ct13 : Value}
    (a13 : PySem.W.nsIn K mainGlobals "law" = some (some (.ref f13)))
    (l13 : K.lookup f13 = some ⟨oc13, od13, .func (PySem.W.fnOf "law" "law" (defArgs s_law) (defBody s_law) (defScope s_law) .none kV13 dc13 pm13 an13 cd13 ct13), sl13⟩)
    (c13 : PySem.W.codeIn K cd13 "law" = true) (k13 : PySem.W.keepIn K (.ref f13) = true)
    (z_len : PySem.W.nsIn K mainGlobals "len" = some none)
    (z_max : PySem.W.nsIn K mainGlobals "max" = some none)
    (z_abs : PySem.W.nsIn K mainGlobals "abs" = some none)
    (z_int : PySem.W.nsIn K mainGlobals "int" = some none)
    (z_list : PySem.W.nsIn K mainGlobals "list" = some none)
    (z_tuple : PySem.W.nsIn K mainGlobals "tuple" = some none)
    (z_range : PySem.W.nsIn K mainGlobals "range" = some none)
    (z_repr : PySem.W.nsIn K mainGlobals "repr" = some none)
    (z_enumerate : PySem.W.nsIn K mainGlobals "enumerate" = some none)
    {u_EDITOR : Tok} (g_EDITOR : PySem.W.nsIn K mainGlobals "EDITOR" = some (some (.str "@" u_EDITOR)))
    : ∃ fd : FuncData, (∀ (s : Shared) (v : Value), BindsTo s fd ⟨[v], []⟩ [("script", v)]) ∧ ∀ base : Heap, K.In base → base.Ns mainGlobals mg → FnG l.prog w K mg base CX0 4 fa fd ["script"] (spLaw K) := by
  have e := hfa.symm.trans (PySem.W.mg_of X G a13)
  cases e
  have B : Bn mg := ⟨PySem.W.mg_none_of X G z_len, PySem.W.mg_none_of X G z_max, PySem.W.mg_none_of X G z_abs, PySem.W.mg_none_of X G z_int, PySem.W.mg_none_of X G z_list, PySem.W.mg_none_of X G z_tuple, PySem.W.mg_none_of X G z_range, PySem.W.mg_none_of X G z_repr, PySem.W.mg_none_of X G z_enumerate⟩
  have mg_EDITOR := PySem.W.mg_of X G g_EDITOR
  have D1 : Df K mg "_law_tape" s_lawtape ["script"] := df_mk X G a1 l1 c1 k1 fun _ _ _ _ _ _ us hl => match us, hl with | [_], _ => rfl
  have D2 : Df K mg "_law_draw" s_lawdraw ["tape", "many"] := df_mk X G a2 l2 c2 k2 fun _ _ _ _ _ _ us hl => match us, hl with | [_, _], _ => rfl
  have D3 : Df K mg "_law_written" s_lawwritten ["tape", "sequence", "needless"] := df_mk X G a3 l3 c3 k3 fun _ _ _ _ _ _ us hl => match us, hl with | [_, _, _], _ => rfl
  have D4 : Df K mg "_law_rising" s_lawrising ["tape", "signs", "many"] := df_mk X G a4 l4 c4 k4 fun _ _ _ _ _ _ us hl => match us, hl with | [_, _, _], _ => rfl
  have D5 : Df K mg "_law_letters" s_lawletters ["tape"] := df_mk X G a5 l5 c5 k5 fun _ _ _ _ _ _ us hl => match us, hl with | [_], _ => rfl
  have D6 : Df K mg "_law_symbols" s_lawsymbols ["letters", "owners"] := df_mk X G a6 l6 c6 k6 fun _ _ _ _ _ _ us hl => match us, hl with | [_, _], _ => rfl
  have D7 : Df K mg "encoded" s_encoded ["sequence"] := df_mk X G a7 l7 c7 k7 fun _ _ _ _ _ _ us hl => match us, hl with | [_], _ => rfl
  have D8 : Df K mg "_law_owners" s_lawowners ["tape"] := df_mk X G a8 l8 c8 k8 fun _ _ _ _ _ _ us hl => match us, hl with | [_], _ => rfl
  have D9 : Df K mg "_law_sequence" s_lawsequence ["tape", "signs", "most"] := df_mk X G a9 l9 c9 k9 fun _ _ _ _ _ _ us hl => match us, hl with | [_, _, _], _ => rfl
  have D10 : Df K mg "_is_letter" s_isletter ["character"] := df_mk X G a10 l10 c10 k10 fun _ _ _ _ _ _ us hl => match us, hl with | [_], _ => rfl
  have D11 : Df K mg "_is_holder" s_isholder ["character"] := df_mk X G a11 l11 c11 k11 fun _ _ _ _ _ _ us hl => match us, hl with | [_], _ => rfl
  have D12 : Df K mg "decoded" s_decoded ["text"] := df_mk X G a12 l12 c12 k12 fun _ _ _ _ _ _ us hl => match us, hl with | [_], _ => rfl
  refine ⟨PySem.W.fnOf "law" "law" (defArgs s_law) (defBody s_law) (defScope s_law) .none kV13 dc13 pm13 an13 cd13 ct13, fun s v => .of_eq rfl, fun base _ _ => ?_⟩
  have K1 := ok_lawtape (P := l.prog) (w := w) (base := base) D1 B  
  have K2 := ok_lawdraw (P := l.prog) (w := w) (base := base) D2 B  
  have K3 := ok_lawwritten (P := l.prog) (w := w) (base := base) D3 B K2 
  have K4 := ok_lawrising (P := l.prog) (w := w) (base := base) D4 B K2 
  have K5 := ok_lawletters (P := l.prog) (w := w) (base := base) D5 B K4 K2 
  have K6 := ok_lawsymbols (P := l.prog) (w := w) (base := base) D6 B  
  have K7 := ok_encoded (P := l.prog) (w := w) (base := base) D7 B  
  have K8 := ok_lawowners (P := l.prog) (w := w) (base := base) D8 B K4 K2 
  have K9 := ok_lawsequence (P := l.prog) (w := w) (base := base) D9 B K2 
  have K10 := ok_isletter (P := l.prog) (w := w) (base := base) D10 B  
  have K11 := ok_isholder (P := l.prog) (w := w) (base := base) D11 B  (⟨_, mg_EDITOR⟩)
  have K12 := ok_decoded (P := l.prog) (w := w) (base := base) D12 B K10 K11 
  exact ok_law (P := l.prog) (w := w) (base := base) (fun_mk l13 c13 k13) B K1 K5 K6 K8 K9 K2 K7 K12 K3 
end My
open PySem PySem.W PyProof.Rows
set_option maxRecDepth 100000 in
set_option maxHeartbeats 0 in
theorem PySem.Challenge.cw_excerptcheck_k02_texts_of_sequences_holds : PySem.Challenge.rw_excerptcheck_k02_texts_of_sequences.Holds := by
  w_on; o_law; k_head; (case hw => w_witness2)
  k_fill
  refine My.walkG (l := PySem.Challenge.rw_excerptcheck_k02_texts_of_sequences) (n := 63) (k := 4) (x := "script") (sp := My.spLaw) rfl (by decide) rfl ⟨rfl, by decide, by decide⟩ (fun w h Y => PySem.W.kIn_of Y) ?F (fun K H a ns hl hS => ⟨a, ns, rfl, hS, hl, fun _ => rfl⟩)
  case F =>
    intro w mg fa h KX G hmg
    refine' My.all_mk KX G hmg ?a1 ?l1 ?c1 ?k1 ?a2 ?l2 ?c2 ?k2 ?a3 ?l3 ?c3 ?k3 ?a4 ?l4 ?c4 ?k4 ?a5 ?l5 ?c5 ?k5 ?a6 ?l6 ?c6 ?k6 ?a7 ?l7 ?c7 ?k7 ?a8 ?l8 ?c8 ?k8 ?a9 ?l9 ?c9 ?k9 ?a10 ?l10 ?c10 ?k10 ?a11 ?l11 ?c11 ?k11 ?a12 ?l12 ?c12 ?k12 ?a13 ?l13 ?c13 ?k13 ?z_len ?z_max ?z_abs ?z_int ?z_list ?z_tuple ?z_range ?z_repr ?z_enumerate ?g_EDITOR
    (case a1 => k_is); (case l1 => k_is); (case c1 => k_is); (case k1 => k_is); (case a2 => k_is); (case l2 => k_is); (case c2 => k_is); (case k2 => k_is); (case a3 => k_is); (case l3 => k_is); (case c3 => k_is); (case k3 => k_is); (case a4 => k_is); (case l4 => k_is); (case c4 => k_is); (case k4 => k_is); (case a5 => k_is); (case l5 => k_is); (case c5 => k_is); (case k5 => k_is); (case a6 => k_is); (case l6 => k_is); (case c6 => k_is); (case k6 => k_is); (case a7 => k_is); (case l7 => k_is); (case c7 => k_is); (case k7 => k_is); (case a8 => k_is); (case l8 => k_is); (case c8 => k_is); (case k8 => k_is); (case a9 => k_is); (case l9 => k_is); (case c9 => k_is); (case k9 => k_is); (case a10 => k_is); (case l10 => k_is); (case c10 => k_is); (case k10 => k_is); (case a11 => k_is); (case l11 => k_is); (case c11 => k_is); (case k11 => k_is); (case a12 => k_is); (case l12 => k_is); (case c12 => k_is); (case k12 => k_is); (case a13 => k_is); (case l13 => k_is); (case c13 => k_is); (case k13 => k_is); (case z_len => k_is); (case z_max => k_is); (case z_abs => k_is); (case z_int => k_is); (case z_list => k_is); (case z_tuple => k_is); (case z_range => k_is); (case z_repr => k_is); (case z_enumerate => k_is); (case g_EDITOR => k_is)
