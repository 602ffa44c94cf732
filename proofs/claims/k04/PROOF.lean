import PyProof.Rows.All
import Wide.All
import OpenK.AllK
import Wide.FinOn
import HandS.Base
import HandS.Call
import HandS.List
import HandS.Comp
import HandS.Text
import HandS.Words
import HandS.Ends
import PyProof.ReprRoads
import HandS.ForMost
import HandS.Walk
import HandS.Conv
import HandS.Codes
import HandS.Strs
import HandS.Style
import HandS.Defaults
import KE.DataCmp
import HandS.Star
import HandS.IsInst
import HandS.TupAny
import PySem.Challenge.RW_excerptcheck_k04_nodes_parts_and_mirrors
set_option Elab.async false
set_option linter.all false
set_option maxRecDepth 100000
namespace My
open PySem PySem.Spec PyProof.Rows L2

/-- as the layer's promise, where besides no repr is under way -/
structure FnG (P : Program) (w : World) (K : PySem.W.Frag) (mg : Str → Option Value) (base : Heap) (X : CXT)
    (k : Nat) (f : Addr) (fd : FuncData) (ps : List Str) (sp : Sp) : Prop where
  ln : ∀ vs H Q E, sp vs H Q E → vs.length = ps.length
  go : ∀ (A : Around) (outer : List Env) (s : Shared) (H : Hp) (args : Args) (us : List Value) (vs : List V) (Q : VK) (E : XK),
    Room k A → A.guards = some [] → Env0 P w K mg base A outer s H → BindsTo s fd args (ps.zip us) → Vals vs us →
    sp vs H Q E → codeAny (model P w) A (.call (.ref f) args) (CR X outer P w H s Q E) s

theorem FnG.of {P : Program} {w : World} {K : PySem.W.Frag} {mg : Str → Option Value} {base : Heap} {X : CXT}
    {k : Nat} {f : Addr} {fd : FuncData} {ps : List Str} {sp : Sp} (F : FnOk P w K mg base X k f fd ps sp) :
    FnG P w K mg base X k f fd ps sp :=
  ⟨F.len, fun A o s H ar us vs Q E h1 _ h2 h3 h4 h5 => F.run A o s H ar us vs Q E h1 h2 h3 h4 h5⟩

theorem deeper_guards {A : Around} {e : Env} (h : A.guards = some []) : (A.deeper e).guards = some [] := h

theorem okG {P : Program} {w : World} {K : PySem.W.Frag} {mg : Str → Option Value} {base : Heap} {CX : CXT}
    {x qual : Str} {st : Stmt} {f : Addr} {fd : FuncData} {N ps : List Str} {k : Nat} {sp : Sp}
    (F : Fun K x qual st f fd) (S : FnScope N ps (defScope st))
    (ln : ∀ vs H Q E, sp vs H Q E → vs.length = ps.length)
    (hbd : ∀ (cdv : Value) (A : Around) (o : List Env) (s : Shared) (H : Hp) (vs : List V) (Q : VK) (E : XK),
      Room k (A.deeper (envOfC qual (defScope st) s.heap.objs.size f cdv)) → A.guards = some [] → sp vs H Q E →
      ∃ t, PSs (cxOf CX P w K mg base N qual (defScope st) f cdv A o s H E) (defBody st) t ∧
        t { nx := fun _ h => Q .non h, rt := Q } (start N vs) H) :
    FnG P w K mg base CX (k + 1) f fd ps sp := by
  obtain ⟨oc, od, kV, doc, pm, an, cdv, ct, osl, rfl, lk, hcd⟩ := F.ex
  refine ⟨ln, fun A o s H ar us vs Q E hr hgd e0 hb r hs => ?_⟩
  have hl := ln _ _ _ _ hs
  have KX : K.In s.heap := e0.mod.kin.keeps fun b ob e => (e0.bs b ob e).1
  have lim : s.heap.NoLimit := e0.mod.nolimit.keeps fun b ob e => (e0.bs b ob e).1
  have hkd : ∀ y ∈ ps.zip us, (defScope st).names.lookup y.1 = some .local ∨
      ((defScope st).names.lookup y.1 = some .cell ∧
        ((cellsFrom (s.heap.objs.size + 1) (defScope st).names []).lookup y.1).isSome = true) := by
    rintro ⟨n, v⟩ hy
    have hp := S.par n (List.of_mem_zip hy).1
    rcases hp with q | q
    · left; exact q
    · right; exact ⟨q, PySem.W.cellsFrom_some _ _ _ (.inl q)⟩
  refine codeAny_call_function hr.depth (KX _ _ lk) rfl S.co S.gen rfl
    (PySem.W.codeRec_of KX hcd) (hb _ _ _ _ ?_)
  refine wpAny_newFunctionEnv_cells S.kind hkd
    fun env he s1 x => ?_
  subst he
  refine ⟨lim.keeps x.toInCall.keep, codeAny_func ?_⟩
  obtain ⟨t, ht, hq⟩ := hbd cdv A o s H vs Q E (hr.deeper _) hgd hs
  have I := inv_start (CX := CX) (E := E) S hr.hd e0 hl r x
  refine wpAny_mono (ht.run [] s1 (start N vs) H _ I hq)
    (fun fl s2 h2 => ?_) fun e s2 h2 => h2
  cases fl with
  | ret u =>
    obtain ⟨v, σ2, H2, J, rv, q⟩ := h2
    exact ⟨v, H2, J.os, J.bare, J.base, J.hok, rv, q⟩
  | next =>
    obtain ⟨σ2, H2, J, q⟩ := h2
    exact ⟨.non, H2, J.os, J.bare, J.base, J.hok, rfl, q⟩
  | brk =>
    obtain ⟨_, _, _, q⟩ := h2
    exact q.elim
  | cont =>
    obtain ⟨_, _, _, q⟩ := h2
    exact q.elim

section
variable {X : Cx} {CX : CXT} {k : Nat} {f : Addr} {fd : FuncData} {ps : List Str} {sp : Sp} {dvs : List V} {ds : List Value}
  {E : XK} {x : Str} {p pos : Pos} {e : Expr} {es : List Expr} {t : TA}
/-- the call of such a def -/
theorem pe_callG (gd : X.A.guards = some []) (F : FnG X.prog X.w X.K X.mg X.base CX k f fd ps sp) (hr : Room k X.A) (hg : Gl X x)
    (hm : X.mg x = some (.ref f)) (hk : PySem.W.keepIn X.K (.ref f) = true) (hb : Binds X.K fd ps ds) (hd : Vals dvs ds)
    (hx : Passes CX X E) (ha : PA X (e :: es) t) (hdb : (x == ("__debug__" : Str)) = false := by decide)
    (he : starEach (e :: es) X.env = (false, eval e X.env) :: starEach es X.env := by rfl)
    (hpl : (backTo pos (starEach es X.env)).any (·.1) = false := by rfl) :
    PE X (.Call (.Name x p) (e :: es) [] pos) (tCall sp dvs E t) := by
  constructor
  intro pins s σ H Q I h
  refine wpAny_Call_Name_kw (ld_glob I hg hm ?_ hdb)
  refine PySem.W.callWith_K (h₀ := X.base) I.ok.mod.kin hk
    (thn (ha.run pos pins s σ H _ I h) ?_) he hpl
  rintro us s1 ⟨vs, H1, I1, r, q⟩
  refine ⟨I1.kIn, ?_⟩
  have r2 : Vals (vs ++ dvs) (us ++ ds) := r.append hd
  have hl : (us ++ ds).length = ps.length := by
    rw [← r2.length]
    exact F.ln _ _ _ _ q
  refine wpAny_call (codeAny_mono (F.go X.A X.stack s1 H1 ⟨us, []⟩ (us ++ ds) (vs ++ dvs) Q E hr gd
    I1.env0 (hb s1 us I1.kIn hl) r2 q) fun rr s2 hq => ?_)
  cases rr with
  | error e => exact hx pins σ H1 s1 e s2 I1 hq
  | ok fl =>
    cases fl with
    | ret u => exact I1.after hq
    | next => exact False.elim hq
    | brk => exact False.elim hq
    | cont => exact False.elim hq

/-- repr of data -/
def rRep (K : PySem.W.Frag) : List V → Hp → VK → Prop := fun xs H Q => ∃ x d, xs = [x] ∧ Dp K H x d ∧ d.showable = true ∧
  d.hasDict = false ∧ d.depth ≤ 40 ∧ d.shown.length ≤ sizeLine ∧ Q (.str d.shown) H
theorem call_rep (gd : X.A.guards = some []) (hu : X.A.units + 64 < cLine) : CallR X (.builtin "repr") (rRep X.K) := by
  intro pins s σ H xs us Q I r h
  obtain ⟨x, d, rfl, hd, hs, hn, hp, hz, q⟩ := h
  obtain ⟨u, rfl, ru⟩ := vals1 r
  cases hd with
  | non =>
    cases ru
    exact PySem.P.repr_of_none ⟨.str _, H, I.tok _, ⟨_, rfl⟩, by simpa [PyData.shown_none] using q⟩
  | bl b =>
    cases ru
    exact PySem.P.repr_of_bool ⟨.str _, H, I.tok _, ⟨_, rfl⟩, by simpa [PyData.shown_bool] using q⟩
  | int i =>
    obtain ⟨t, rfl⟩ := ru
    have hi : i.natAbs.log2 < 1920 := by simpa [PyData.showable] using hs
    exact PySem.P.repr_of_int hi ⟨.str _, H, I.tok _, ⟨_, rfl⟩, by simpa [PyData.shown_int] using q⟩
  | str z =>
    obtain ⟨t, rfl⟩ := ru
    rw [PyData.shown_str] at hz q
    exact PySem.P.repr_of_str (hsz := hz) ⟨.str _, H, I.tok _, ⟨_, rfl⟩, q⟩
  | lst hS hA =>
    obtain ⟨as, rd⟩ := Dp.reads I _ _ _ (Dp.lst hS hA) ru
    cases ru
    exact repr_of_reads' rd hs (PyData.noDict_hsm hn) gd (by omega) (fun _ _ z => z)
      (fun h' u tk hk => ⟨.str _, H, I.kept hk, ⟨_, rfl⟩, q⟩) hz
  | tup hS hA =>
    obtain ⟨as, rd⟩ := Dp.reads I _ _ _ (Dp.tup hS hA) ru
    cases ru
    exact repr_of_reads' rd hs (PyData.noDict_hsm hn) gd (by omega) (fun _ _ z => z)
      (fun h' u tk hk => ⟨.str _, H, I.kept hk, ⟨_, rfl⟩, q⟩) hz
end
end My
namespace My
open PySem PySem.Spec PyProof.Rows L2

theorem callG {P : Program} {w : World} {K : PySem.W.Frag} {mg mb : Str → Option Value} {k : Nat} {fa a : Addr}
    {fd : FuncData} {x : Str} {sp : Sp} {s1 : Shared} {vs : List Value} {ns : List Int}
    (KX : K.In s1.heap) (hns : s1.heap.Ns mainGlobals mg) (hb : s1.heap.Ns builtinsNs mb)
    (hbb : ∀ y : Str, y ≠ "__name__" → mb y = bootBuiltins y) (hlim : s1.heap.NoLimit) (hg : s1.gens = #[])
    (ha : s1.heap.get? a = some { cls := .type "list", data := .seq vs.toArray }) (hi : IntsAre vs ns)
    (hl : ns.length ≤ sizeLine) (hr : Room k callerA)
    (F : ∀ base : Heap, K.In base → base.Ns mainGlobals mg → FnG P w K mg base CX0 k fa fd [x] sp)
    (hbind : ∀ (s : Shared) (u : Value), BindsTo s fd ⟨[u], []⟩ [(x, u)])
    (hsp : ∀ H : Hp, SqL K H a (ns.map V.int) → sp [.ref a] H (fun v _ => v = .bl true) fun _ _ _ => False) :
    codeAny (model P w) callerA (.call (.ref fa) ⟨[.ref a], []⟩)
      (fun r t => r = .ok (.ret (.bool true)) ∧ OldK s1.heap t.heap ∧ t.os = s1.os ∧ AllBare t.gens) s1 := by
  have rv := vals_ints hi
  have lv := hi.length
  have core : ∀ H : Hp, Only H → SqL K H a (ns.map V.int) → HOk P w H s1.heap → (∀ b, H b ≠ none → b = a) →
      (H a ≠ none → K.lookup a = none) → codeAny (model P w) callerA (.call (.ref fa) ⟨[.ref a], []⟩)
      (fun r t => r = .ok (.ret (.bool true)) ∧ OldK s1.heap t.heap ∧ t.os = s1.os ∧ AllBare t.gens) s1 := by
    intro H hO hS hok hA hK
    have bo : ∀ {b : Addr} {o : Obj}, s1.heap.get? b = some o → H b = none → (hidT s1.heap H).get? b = some o :=
      fun e n => hidT_get e n
    have noA : ∀ {b : Addr} {o : Obj} {es : Array DictEntry} {ep : Nat}, s1.heap.get? b = some o →
        o.data = .dict es ep → H b = none := by
      intro b o es ep e d
      by_cases q : H b = none
      · exact q
      · have z := hA b q
        rw [z, ha] at e
        cases e
        cases (show Data.seq vs.toArray _ = Data.dict es ep from d)
    have nsK : ∀ {b : Addr} {m : Str → Option Value}, s1.heap.Ns b m → (hidT s1.heap H).Ns b m := by
      rintro b m ⟨o, es, ep, e, d, r⟩
      exact ⟨o, es, ep, bo e (noA e d), d, r⟩
    have kb : K.In (hidT s1.heap H) := by
      intro b o e
      refine bo (KX b o e) ?_
      by_cases q : H b = none
      · exact q
      · have z := hA b q
        rw [z] at e q
        rw [hK q] at e
        cases e
    have hM : Mod K mg (hidT s1.heap H) := by
      obtain ⟨mc, h1, h2⟩ := hlim
      exact ⟨kb, nsK hns, ⟨mb, nsK hb, hbb⟩, ⟨mc, nsK h1, h2⟩⟩
    have e0 : Env0 P w K mg (hidT s1.heap H) callerA [] s1 H :=
      ⟨rfl, hM, fun b o e => of_hidT e, Nat.le_of_eq (hidT_size _ _), trivial,
        fun b z => absurd (show b ∈ ([] : List Addr) from z) (by simp), hok, .of_eq hg⟩
    refine codeAny_mono ((F _ kb (nsK hns)).go callerA [] s1 H ⟨[.ref a], []⟩ [.ref a] [.ref a] _ _ hr rfl e0
      (hbind s1 (.ref a)) (.cons rfl .nil) (hsp H hS)) fun r t h => ?_
    cases r with
    | error e => exact h.elim
    | ok fl =>
      cases fl with
      | next => exact h.elim
      | brk => exact h.elim
      | cont => exact h.elim
      | ret u =>
        obtain ⟨v, H2, os, bare, un, hok2, r2, q⟩ := h
        have q2 : v = .bl true := q
        subst q2
        obtain rfl : u = Value.bool true := r2
        refine ⟨rfl, OldK.of_keep fun b o e => ?_, os, bare⟩
        rcases hO b with z | ⟨ob, xs, z⟩
        · exact un.keep b o e z (fun y => absurd (show b ∈ ([] : List Addr) from y) (by simp)) (by simp)
        · have e1 := (hok b _ z).1
          have e2 := (hok2 b _ (un.frzs b ob _ z)).1
          rw [e] at e1
          cases e1
          exact e2
  by_cases hk : K.lookup a = none
  · have hon : (fun b => if b = a then some (HO.frz { cls := .type "list", data := .seq vs.toArray }
        (.lst (ns.map V.int))) else none : Hp) a = _ := if_pos rfl
    refine core (fun b => if b = a then some (.frz { cls := .type "list", data := .seq vs.toArray }
      (.lst (ns.map V.int))) else none) (fun b => ?_) (.inl (.inr ⟨_, hon⟩)) (fun b u z => ?_) (fun b z => ?_) fun _ => hk
    · by_cases h : b = a
      · exact .inr ⟨_, _, if_pos h⟩
      · exact .inl (if_neg h)
    · by_cases h : b = a
      · have z2 := (if_pos h).symm.trans z
        cases z2
        subst h
        exact ⟨ha, by rw [List.length_map]; exact hl, vs, _, rv, ha⟩
      · cases (if_neg h).symm.trans z
    · by_cases h : b = a
      · exact h
      · exact absurd (if_neg h) z
  · obtain ⟨o, ho⟩ := Option.ne_none_iff_exists'.mp hk
    have e := KX a o ho
    rw [ha] at e
    cases e
    refine core (fun _ => none) (fun _ => .inl rfl) (.inr ⟨_, vs.toArray, _, ho, rfl, rfl, rfl, ?_, ?_⟩)
      (fun b u z => nomatch (show (none : Option HO) = some u from z)) (fun b z => absurd rfl z) fun z => absurd rfl z
    · rw [List.size_toArray, lv]; exact hl
    · simpa using rv

/-- the end, where the law's def is shown with no repr under way -/
theorem walkG {l : PySem.W.OpenLaw} {n k : Nat} {q : Program} {loose : List Str} {XP : (Str → Option Value) → Heap → Prop}
    {YP : World → Heap → Prop} {d : DefRec} {K : Params → PySem.W.Frag} {sp : PySem.W.Frag → Sp} {x : Str}
    (hn : l.most = some n) (hn2 : n ≤ sizeLine) (hdf : d.params.defaults = []) (hr : Room k callerA)
    (hY : ∀ (w : World) (h : Heap), YP w h → (K w.params).In h)
    (F : ∀ (w : World) (mg : Str → Option Value) (fa : Addr) (h : Heap), (K w.params).In h → h.Ns mainGlobals mg →
      mg d.name = some (.ref fa) → ∃ fd : FuncData,
        (∀ (s : Shared) (u : Value), BindsTo s fd ⟨[u], []⟩ [(x, u)]) ∧ ∀ base : Heap, (K w.params).In base →
          base.Ns mainGlobals mg → FnG l.prog w (K w.params) mg base CX0 k fa fd [x] (sp (K w.params)))
    (hsp : ∀ (K : PySem.W.Frag) (H : Hp) (a : Addr) (ns : List Int), ns.length ≤ n → SqL K H a (ns.map V.int) →
      sp K [.ref a] H (fun v _ => v = .bl true) fun _ _ _ => False) :
    PySem.W.WalkO q loose XP YP l.row.toRowW d [] (fun f vs => PySem.call f vs) := by
  refine Att.attach_call hn hdf ?_
  intro w s0 s1 mg mb fa o pm cd doc a vs ns G Y ho hd hcd hmg hobj hints hlen hg
  have KX := hY w _ Y
  obtain ⟨fd, hb, hF⟩ := F w mg fa _ KX G.T.g hmg
  exact callG KX G.T.g G.T.b G.T.builtins G.T.nolimit hg hobj hints (Nat.le_trans hlen hn2) hr hF hb
    fun H hS => hsp _ H a ns hlen hS
end My
namespace My
open PySem PySem.Spec PyProof.Rows L2

/-- a def of the text as it stands behind the top -/
structure Df (K : PySem.W.Frag) (mg : Str → Option Value) (x : Str) (st : Stmt) (ps : List Str) : Prop where
  ex : ∃ (f : Addr) (fd : FuncData), Fun K x x st f fd ∧ mg x = some (.ref f) ∧ Binds K fd ps []
/-- .. with what it promises -/
structure Cal (P : Program) (w : World) (K : PySem.W.Frag) (mg : Str → Option Value) (base : Heap) (k : Nat) (x : Str) (ps : List Str) (sp : Sp) : Prop where
  ex : ∃ (f : Addr) (fd : FuncData), FnOk P w K mg base CX0 k f fd ps sp ∧ mg x = some (.ref f) ∧ PySem.W.keepIn K (.ref f) = true ∧ Binds K fd ps []
structure CalG (P : Program) (w : World) (K : PySem.W.Frag) (mg : Str → Option Value) (base : Heap) (k : Nat) (x : Str) (ps : List Str) (sp : Sp) : Prop where
  ex : ∃ (f : Addr) (fd : FuncData), FnG P w K mg base CX0 k f fd ps sp ∧ mg x = some (.ref f) ∧ PySem.W.keepIn K (.ref f) = true ∧ Binds K fd ps []
section
variable {P : Program} {w : World} {K : PySem.W.Frag} {mg : Str → Option Value} {base : Heap}
theorem Df.cal {x : Str} {st : Stmt} {N ps : List Str} {k : Nat} {sp : Sp} (D : Df K mg x st ps) (S : FnScope N ps (defScope st))
    (ln : ∀ vs H Q E, sp vs H Q E → vs.length = ps.length)
    (hb : ∀ (f : Addr) (cdv : Value) (A : Around) (o : List Env) (s : Shared) (H : Hp) (vs : List V) (Q : VK) (E : XK),
      Room k (A.deeper (envOfC x (defScope st) s.heap.objs.size f cdv)) → sp vs H Q E →
      ∃ t, PSs (cxOf CX0 P w K mg base N x (defScope st) f cdv A o s H E).nox (defBody st) t ∧
        t { nx := fun _ h => Q .non h, rt := Q } (start N vs) H) :
    Cal P w K mg base (k + 1) x ps sp := by
  obtain ⟨f, fd, F, m, b⟩ := D.ex
  exact ⟨f, fd, F.ok S ln (fun cdv A o s H vs Q E => hb f cdv A o s H vs Q E), m, F.kp, b⟩
theorem Df.calG {x : Str} {st : Stmt} {N ps : List Str} {k : Nat} {sp : Sp} (D : Df K mg x st ps) (S : FnScope N ps (defScope st))
    (ln : ∀ vs H Q E, sp vs H Q E → vs.length = ps.length)
    (hb : ∀ (f : Addr) (cdv : Value) (A : Around) (o : List Env) (s : Shared) (H : Hp) (vs : List V) (Q : VK) (E : XK),
      Room k (A.deeper (envOfC x (defScope st) s.heap.objs.size f cdv)) → A.guards = some [] → sp vs H Q E →
      ∃ t, PSs (cxOf CX0 P w K mg base N x (defScope st) f cdv A o s H E).nox (defBody st) t ∧
        t { nx := fun _ h => Q .non h, rt := Q } (start N vs) H) :
    CalG P w K mg base (k + 1) x ps sp := by
  obtain ⟨f, fd, F, m, b⟩ := D.ex
  refine ⟨f, fd, okG F S ln (fun cdv A o s H vs Q E hr hg h => ?_), m, F.kp, b⟩
  obtain ⟨t, h1, h2⟩ := hb f cdv A o s H vs Q E hr hg h
  exact ⟨t, h1.nox, h2⟩
end
section
variable {X : Cx} {k j : Nat} {ps : List Str} {sp : Sp} {x : Str} {p pos : Pos} {e : Expr} {es : List Expr} {t : TA}
theorem pe_cal (C : Cal X.prog X.w X.K X.mg X.base k x ps sp) (hr : Room k X.A) (hg : Gl X x)
    (ha : PA X (e :: es) t) (hdb : (x == ("__debug__" : Str)) = false := by decide)
    (he : starEach (e :: es) X.env = (false, eval e X.env) :: starEach es X.env := by rfl)
    (hpl : (backTo pos (starEach es X.env)).any (·.1) = false := by rfl) :
    PE X (.Call (.Name x p) (e :: es) [] pos) (tCall sp [] E0 t) := by
  obtain ⟨f, fd, F, m, kp, b⟩ := C.ex
  exact pe_call F hr hg m kp b .nil pass0 ha hdb he hpl
theorem pe_calG (gd : X.A.guards = some []) (C : CalG X.prog X.w X.K X.mg X.base k x ps sp) (hr : Room k X.A) (hg : Gl X x)
    (ha : PA X (e :: es) t) (hdb : (x == ("__debug__" : Str)) = false := by decide)
    (he : starEach (e :: es) X.env = (false, eval e X.env) :: starEach es X.env := by rfl)
    (hpl : (backTo pos (starEach es X.env)).any (·.1) = false := by rfl) :
    PE X (.Call (.Name x p) (e :: es) [] pos) (tCall sp [] E0 t) := by
  obtain ⟨f, fd, F, m, kp, b⟩ := C.ex
  exact pe_callG gd F hr hg m kp b .nil pass0 ha hdb he hpl
end

/-! ### heaps: all stands but the tape; t.1 is the tape's own list, t.2 that of its cells -/
abbrev TA2 := Addr × Addr
def Kp (t : TA2) (H H' : Hp) : Prop := ∀ b o, b ≠ t.1 → H b = some o → H' b = some o
theorem Kp.refl (t : TA2) (H : Hp) : Kp t H H := fun _ _ _ h => h
theorem Kp.trans {t : TA2} {H H1 H2 : Hp} (a : Kp t H H1) (b : Kp t H1 H2) : Kp t H H2 := fun c o n h => b c o n (a c o n h)
theorem Kp.new {t : TA2} {p : Addr} {H : Hp} {o : HO} (h : H p = none) : Kp t H (upd H p o) := fun b u _ e => by
  rw [upd_ne (ne_of_none e h)]; exact e
theorem Kp.self {t : TA2} {H : Hp} {o : HO} : Kp t H (upd H t.1 o) := fun b u n e => by rw [upd_ne n]; exact e
theorem Kp.free {t : TA2} {p : Addr} {H H' : Hp} (a : Kp t H H') (n : p ≠ t.1) (h : H' p = none) : H p = none := by
  cases q : H p with
  | none => rfl
  | some o => rw [a p o n q] at h; cases h
theorem Kp.tup {t : TA2} {p : Addr} {H H' : Hp} {xs ys : List V} (a : Kp t H H') (ht : H t.1 = some (.lst ys)) (h : H p = some (.tup xs)) : H' p = some (.tup xs) :=
  a p _ (ne_of h ht (fun z => nomatch z)) h
/-- the numbers that a script gives -/
structure Tape (K : PySem.W.Frag) (H : Hp) (t : TA2) : Prop where
  ex : ∃ (ns : List Int) (p n s : Int), H t.1 = some (.lst [.ref t.2, .int p, .int n, .int s]) ∧ t.2 ≠ t.1 ∧
    H t.2 = some (.lst (ns.map V.int)) ∧ 0 ≤ p ∧ 0 ≤ n ∧ 0 ≤ s
theorem Tape.lst {K : PySem.W.Frag} {H : Hp} {t : TA2} (T : Tape K H t) : ∃ ys, H t.1 = some (.lst ys) := by
  obtain ⟨ns, p, n, s, h, _⟩ := T.ex
  exact ⟨_, h⟩
theorem Tape.new {K : PySem.W.Frag} {H : Hp} {t : TA2} {a : Addr} {o : HO} (T : Tape K H t) (h : H a = none) : Tape K (upd H a o) t := by
  obtain ⟨ns, p, n, s, h1, h2, h3, h4⟩ := T.ex
  exact ⟨ns, p, n, s, by rw [upd_ne (ne_of_none h1 h)]; exact h1, h2, by rw [upd_ne (ne_of_none h3 h)]; exact h3, h4⟩
theorem Tape.ne {K : PySem.W.Frag} {H : Hp} {t : TA2} {a : Addr} (T : Tape K H t) (h : H a = none) : a ≠ t.1 := by
  obtain ⟨ys, e⟩ := T.lst
  exact (ne_of_none e h).symm
theorem Tape.ne2 {K : PySem.W.Frag} {H : Hp} {t : TA2} {a : Addr} (T : Tape K H t) (h : H a = none) : a ≠ t.2 := by
  obtain ⟨ns, p, n, s, h1, h2, h3, h4⟩ := T.ex
  exact (ne_of_none h3 h).symm
/-- another object is changed -/
theorem Tape.put {K : PySem.W.Frag} {H : Hp} {t : TA2} {a : Addr} {o : HO} (T : Tape K H t) (h1 : a ≠ t.1) (h2 : a ≠ t.2) : Tape K (upd H a o) t := by
  obtain ⟨ns, p, n, s, g1, g2, g3, g4⟩ := T.ex
  exact ⟨ns, p, n, s, by rw [upd_ne h1.symm]; exact g1, g2, by rw [upd_ne h2.symm]; exact g3, g4⟩

def spTape (K : PySem.W.Frag) : Sp := fun vs H Q _ => ∃ (a : Addr) (ns : List Int), vs = [.ref a] ∧ SqL K H a (ns.map V.int) ∧ ns.length ≤ 63 ∧
  ∀ (t : TA2) H', Same H H' → H t.1 = none → Tape K H' t → Q (.ref t.1) H'
def spDraw (K : PySem.W.Frag) : Sp := fun vs H Q _ => ∃ (t : TA2) (m : Int), vs = [.ref t.1, .int m] ∧ Tape K H t ∧ m < 1000000 ∧
  ∀ v H', 0 ≤ v → v < max m 1 → Kp t H H' → (∀ b, H b = none → H' b = none) → Tape K H' t → Q (.int v) H'
end My
namespace My
open PySem PySem.Spec PyProof.Rows L2
theorem le_size {n : Nat} (h : n ≤ 1000) : n ≤ sizeLine := Nat.le_of_lt (small1000 h)
theorem le_size0 {n : Nat} (h : n.ble 1000 = true) : n ≤ sizeLine := le_size (Nat.le_of_ble_eq_true h)
end My
namespace My
open PySem PySem.Spec PyProof.Rows L2
theorem okG0 {P : Program} {w : World} {K : PySem.W.Frag} {mg : Str → Option Value} {base : Heap}
    {x : Str} {st : Stmt} {f : Addr} {fd : FuncData} {N ps : List Str} {k : Nat} {sp : Sp}
    (F : Fun K x x st f fd) (S : FnScope N ps (defScope st))
    (ln : ∀ vs H Q E, sp vs H Q E → vs.length = ps.length)
    (hb : ∀ (f : Addr) (cdv : Value) (A : Around) (o : List Env) (s : Shared) (H : Hp) (vs : List V) (Q : VK) (E : XK),
      Room k (A.deeper (envOfC x (defScope st) s.heap.objs.size f cdv)) → A.guards = some [] → sp vs H Q E →
      ∃ t, PSs (cxOf CX0 P w K mg base N x (defScope st) f cdv A o s H E).nox (defBody st) t ∧
        t { nx := fun _ h => Q .non h, rt := Q } (start N vs) H) :
    FnG P w K mg base CX0 (k + 1) f fd ps sp := by
  refine okG F S ln (fun cdv A o s H vs Q E hr hg h => ?_)
  obtain ⟨t, h1, h2⟩ := hb f cdv A o s H vs Q E hr hg h
  exact ⟨t, h1.nox, h2⟩
theorem df_mk {K : PySem.W.Frag} {h : Heap} {mg : Str → Option Value} {x : Str} {st : Stmt} {ps : List Str} {f : Addr}
    {od an : Option Addr} {sl : Array (Option Value)} {oc kV dc pm cd ct : Value} (X : K.In h) (G : h.Ns mainGlobals mg)
    (a : PySem.W.nsIn K mainGlobals x = some (some (.ref f)))
    (l : K.lookup f = some ⟨oc, od, .func (PySem.W.fnOf x x (defArgs st) (defBody st) (defScope st) .none kV dc pm an cd ct), sl⟩)
    (c : PySem.W.codeIn K cd x = true) (k : PySem.W.keepIn K (.ref f) = true)
    (hb : ∀ (kV doc pm : Value) (an : Option Addr) (cdv ct : Value) (us : List Value), us.length = ps.length →
      bindArgs (PySem.W.fnOf x x (defArgs st) (defBody st) (defScope st) .none kV doc pm an cdv ct) ⟨us, []⟩ = pure (ps.zip us)) :
    Df K mg x st ps := ⟨f, _, fun_mk l c k, PySem.W.mg_of X G a, (fun_mk l c k).binds hb⟩
/-- what a script's law promises -/
def spLaw (K : PySem.W.Frag) : Sp := fun vs H Q _ => ∃ (a : Addr) (ns : List Int), vs = [.ref a] ∧ SqL K H a (ns.map V.int) ∧ ns.length ≤ 63 ∧ ∀ H', Q (.bl true) H'
end My
namespace My
open PySem PySem.Spec PyProof.Rows L2
section
variable {X : Cx}
def rTupOf (K : PySem.W.Frag) : List V → Hp → VK → Prop := fun xs H Q => ∃ p ys, xs = [.ref p] ∧
  ((SqL K H p ys ∧ ∀ l, H l = none → Q (.ref l) (upd H l (.tup ys))) ∨ (SqT K H p ys ∧ Q (.ref p) H))
theorem call_tupK : CallR X (.type "tuple") (rTupOf X.K) := call_tuple_of
def rLisOf (K : PySem.W.Frag) : List V → Hp → VK → Prop := fun xs H Q => ∃ p ys, xs = [.ref p] ∧ (SqL K H p ys ∨ SqT K H p ys) ∧
  ∀ l, H l = none → Q (.ref l) (upd H l (.lst ys))
theorem call_lisK : CallR X (.type "list") (rLisOf X.K) := call_list_of
def rLenS (K : PySem.W.Frag) : List V → Hp → VK → Prop := fun xs H Q => ∃ p ys, xs = [.ref p] ∧ (SqL K H p ys ∨ SqT K H p ys) ∧ Q (.int ys.length) H
theorem call_lenK : CallR X (.builtin "len") (rLenS X.K) := call_len_seq
def tTru (K : PySem.W.Frag) (ta : TE) : TT := fun σ H Q => ta σ H fun x h => ∃ k, TruV K x h k ∧ Q k h
theorem pt_truK {a : Expr} {ta : TE} (ha : PE X a ta) (he : ∀ whole, isTrue a X.env whole = (do let v ← whole; standAt a.pos; holding [v] (truthy v))) :
    PT X a (tTru X.K ta) := pt_truth ha he
end
end My
namespace My
open PySem PySem.Spec PyProof.Rows L2

theorem it_any {J : It} {n : Nat} {G : Hp → Prop} {Y : Nat → Hp → V → Hp → Prop} (w : Walk J n G Y)
    {Bd : V → Hp → (Hp → Prop) → Prop} {Qd : Hp → Prop} {H0 : Hp} (Pv : Nat → Hp → Prop) (h0 : Pv 0 H0)
    (hG : ∀ i H, i ≤ n → Pv i H → G H) (hs : ∀ i x H H', i < n → Pv i H → Y i H x H' → Bd x H' (Pv (i + 1)))
    (hd : ∀ H, Pv n H → Qd H) :
    ∃ W : Nat → Nat → Hp → Prop, (∃ m, W 0 m H0) ∧ ∀ i m H, W i m H → (J.stop i H ∧ Qd H) ∨ (J.go i H ∧
      ∃ Nx : Hp → Prop, (∀ H', Nx H' → ∃ m', m' < m ∧ W (i + 1) m' H') ∧ ∀ x H', J.yld i H x H' → Bd x H' Nx) := by
  refine ⟨fun i m H => m = n - i ∧ i ≤ n ∧ Pv i H, ⟨n, by simp, Nat.zero_le _, h0⟩, ?_⟩
  rintro i m H ⟨rfl, hi, p⟩
  by_cases h : i < n
  · exact .inr ⟨w.goes i H h (hG i H hi p), Pv (i + 1), fun H' p' => ⟨n - (i + 1), by omega, rfl, h, p'⟩,
      fun x H' y => hs i x H H' h p (w.yields i H x H' h (hG i H hi p) y)⟩
  · have e : i = n := by omega
    subst e
    exact .inl ⟨w.stops H (hG i H hi p), hd H p⟩

/-! ### data that repr shows -/
structure Sh (d : PyData) (dp bk : Nat) : Prop where
  s : d.showable = true
  n : d.hasDict = false
  p : d.depth ≤ dp
  l : d.leavesShort 13 = true
  b : d.bulk ≤ bk
theorem Sh.mono {d : PyData} {a b a' b' : Nat} (h : Sh d a b) (ha : a ≤ a') (hb : b ≤ b') : Sh d a' b' :=
  ⟨h.s, h.n, Nat.le_trans h.p ha, h.l, Nat.le_trans h.b hb⟩
theorem Sh.fits {d : PyData} {dp bk : Nat} (h : Sh d dp bk) (hb : bk ≤ 1000000) : d.shown.length ≤ sizeLine :=
  PyData.shown_fits_bulk (B := 13) (by decide) (by decide) h.l (Nat.le_trans h.b (Nat.le_trans hb (by decide)))
theorem Sh.none : Sh .none 0 0 := ⟨by simp [PyData.showable], by simp [PyData.hasDict], by simp [PyData.depth], by simp [PyData.leavesShort], by simp [PyData.bulk]⟩
theorem Sh.bool (b : Bool) : Sh (.bool b) 0 0 := ⟨by simp [PyData.showable], by simp [PyData.hasDict], by simp [PyData.depth], by simp [PyData.leavesShort], by simp [PyData.bulk]⟩
theorem Sh.int {i : Int} (h : i.natAbs < 10 ^ 12) : Sh (.int i) 0 0 := by
  refine ⟨?_, by simp [PyData.hasDict], by simp [PyData.depth], ?_, by simp [PyData.bulk]⟩
  · simp only [PyData.showable, decide_eq_true_eq]
    exact log2_small (Nat.lt_trans h (by decide +kernel))
  · simp only [PyData.leavesShort, decide_eq_true_eq]
    exact PyData.shown_int_le h
/-- all signs are small -/
def Sg (x : Str) : Prop := ∀ c ∈ x.cps.toList, c < 128
theorem Sh.str {x : Str} (h : Sg x) : Sh (.str x) 0 x.length := by
  refine ⟨by simp [PyData.showable], by simp [PyData.hasDict], by simp [PyData.depth], ?_, by simp only [PyData.bulk]; exact Nat.le_refl _⟩
  simp only [PyData.leavesShort, List.all_eq_true, decide_eq_true_eq]
  intro c hc
  exact Nat.lt_trans (h c hc) (by decide)
theorem shAll {dp bk : Nat} : ∀ {ds : List PyData}, (∀ d ∈ ds, Sh d dp bk) → PyData.showableAll ds = true ∧ PyData.hasDictAll ds = false ∧
    PyData.depthAll ds ≤ dp ∧ PyData.leavesShortAll 13 ds = true ∧ PyData.bulkAll ds ≤ ds.length * (bk + 1)
  | [], _ => by simp [PyData.showableAll, PyData.hasDictAll, PyData.depthAll, PyData.leavesShortAll, PyData.bulkAll]
  | d :: ds, h => by
    obtain ⟨h1, h2, h3, h4, h5⟩ := shAll (ds := ds) fun e he => h e (List.mem_cons_of_mem _ he)
    have g := h d (List.mem_cons_self)
    refine ⟨by simp [PyData.showableAll, g.s, h1], by simp [PyData.hasDictAll, g.n, h2], ?_, by simp [PyData.leavesShortAll, g.l, h4], ?_⟩
    · simp only [PyData.depthAll]
      have := g.p
      omega
    · simp only [PyData.bulkAll, List.length_cons, Nat.succ_mul]
      have := g.b
      omega
theorem Sh.tup {dp bk : Nat} {ds : List PyData} (h : ∀ d ∈ ds, Sh d dp bk) : Sh (.tuple ds) (dp + 1) (ds.length * (bk + 1)) := by
  obtain ⟨h1, h2, h3, h4, h5⟩ := shAll h
  refine ⟨by simpa [PyData.showable] using h1, by simpa [PyData.hasDict] using h2, ?_, by simpa [PyData.leavesShort] using h4, by simpa [PyData.bulk] using h5⟩
  simp only [PyData.depth]
  omega
theorem Sh.list {dp bk : Nat} {ds : List PyData} (h : ∀ d ∈ ds, Sh d dp bk) : Sh (.list ds) (dp + 1) (ds.length * (bk + 1)) := by
  obtain ⟨h1, h2, h3, h4, h5⟩ := shAll h
  refine ⟨by simpa [PyData.showable] using h1, by simpa [PyData.hasDict] using h2, ?_, by simpa [PyData.leavesShort] using h4, by simpa [PyData.bulk] using h5⟩
  simp only [PyData.depth]
  omega
/-- repr answers with the shown text -/
theorem rep_ok {K : PySem.W.Frag} {H : Hp} {Q : VK} {x : V} {d : PyData} {dp bk : Nat} (h : Dp K H x d) (s : Sh d dp bk) (h1 : dp ≤ 40) (h2 : bk ≤ 1000000)
    (q : Q (.str d.shown) H) : rRep K [x] H Q := ⟨x, d, rfl, h, s.s, s.n, Nat.le_trans s.p h1, s.fits h2, q⟩
theorem dp_strs {K : PySem.W.Frag} {H : Hp} : ∀ xs : List Str, DpAll K H (xs.map V.str) (xs.map PyData.str)
  | [] => .nil
  | x :: xs => .cons (.str x) (dp_strs xs)
theorem dp_ints {K : PySem.W.Frag} {H : Hp} : ∀ xs : List Int, DpAll K H (xs.map V.int) (xs.map PyData.int)
  | [] => .nil
  | x :: xs => .cons (.int x) (dp_ints xs)
theorem sh_strs {n : Nat} {xs : List Str} (h : ∀ x ∈ xs, Sg x ∧ x.length ≤ n) : Sh (.tuple (xs.map PyData.str)) 1 (xs.length * (n + 1)) := by
  have := Sh.tup (dp := 0) (bk := n) (ds := xs.map PyData.str) (fun d hd => by
    obtain ⟨x, hx, rfl⟩ := List.mem_map.mp hd
    exact (Sh.str (h x hx).1).mono (Nat.le_refl _) (h x hx).2)
  rwa [List.length_map] at this

theorem Same.kp {t : TA2} {H H' : Hp} (h : Same H H') : Kp t H H' := fun b o _ e => h b o e
theorem Same.new {p : Addr} {H : Hp} {o : HO} (h : H p = Option.none) : Same H (upd H p o) := fun b u e => by
  rw [upd_ne (ne_of_none e h)]; exact e
theorem Tape.same {K : PySem.W.Frag} {H H' : Hp} {t : TA2} (T : Tape K H t) (h : Same H H') : Tape K H' t := by
  obtain ⟨ns, p, n, s, h1, h2, h3, h4⟩ := T.ex
  exact ⟨ns, p, n, s, h _ _ h1, h2, h _ _ h3, h4⟩
/-- a place in a list of numbers -/
theorem pickI {ns : List Int} {v : Int} (h0 : 0 ≤ v) (h1 : v < ns.length) : ∃ w, w ∈ ns ∧ atI (ns.map V.int) v = some (.int w) := by
  have h : v.toNat < ns.length := by omega
  refine ⟨ns[v.toNat], List.getElem_mem h, ?_⟩
  have z := atI_nat (xs := ns.map V.int) (j := v.toNat) (v := .int ns[v.toNat]) (by rw [List.getElem?_map, List.getElem?_eq_getElem h]; rfl)
  rw [Int.toNat_of_nonneg h0] at z
  exact z
theorem pickV {xs : List V} {v : Int} (h0 : 0 ≤ v) (h1 : v < xs.length) : ∃ w, w ∈ xs ∧ atI xs v = some w := by
  have h : v.toNat < xs.length := by omega
  refine ⟨xs[v.toNat], List.getElem_mem h, ?_⟩
  have z := atI_nat (xs := xs) (List.getElem?_eq_getElem h)
  rw [Int.toNat_of_nonneg h0] at z
  exact z
theorem pickS {ss : List Str} {v : Int} (h0 : 0 ≤ v) (h1 : v < ss.length) : ∃ w, w ∈ ss ∧ atI (ss.map V.str) v = some (.str w) := by
  have h : v.toNat < ss.length := by omega
  refine ⟨ss[v.toNat], List.getElem_mem h, ?_⟩
  have z := atI_nat (xs := ss.map V.str) (j := v.toNat) (v := .str ss[v.toNat]) (by rw [List.getElem?_map, List.getElem?_eq_getElem h]; rfl)
  rw [Int.toNat_of_nonneg h0] at z
  exact z

/-! ### symbols -/
abbrev sy (h l : Nat) : Str := ⟨#[h, l]⟩
theorem sy_cat (h l : Nat) : (⟨#[h]⟩ : Str) ++ (⟨#[l]⟩ : Str) = sy h l := rfl
def comb (hs ls : List Nat) : List Str := hs.flatMap fun h => ls.map fun l => sy h l
theorem comb_nil (ls : List Nat) : comb [] ls = [] := rfl
theorem comb_cons (h : Nat) (hs ls : List Nat) : comb (h :: hs) ls = (ls.map fun l => sy h l) ++ comb hs ls := List.flatMap_cons
theorem comb_snoc (h : Nat) (hs ls : List Nat) : comb (hs ++ [h]) ls = comb hs ls ++ (ls.map fun l => sy h l) := by
  unfold comb
  rw [List.flatMap_append]
  simp
theorem comb_len (ls : List Nat) : ∀ hs : List Nat, (comb hs ls).length = hs.length * ls.length
  | [] => by simp [comb_nil]
  | h :: hs => by
    rw [comb_cons, List.length_append, List.length_map, comb_len ls hs, List.length_cons, Nat.succ_mul, Nat.add_comm]
theorem mem_comb {x : Str} {hs ls : List Nat} (h : x ∈ comb hs ls) : ∃ a ∈ hs, ∃ b ∈ ls, x = sy a b := by
  unfold comb at h
  obtain ⟨a, ha, hx⟩ := List.mem_flatMap.mp h
  obtain ⟨b, hb, rfl⟩ := List.mem_map.mp hx
  exact ⟨a, ha, b, hb, rfl⟩
abbrev lows : List Nat := [97,98,99,100,101,102,103,104,105,106,107,108,109,110,111,112,113,114,115,116,117,118,119,120,121,122]
abbrev caps : List Nat := [65,66,67,68,69,70,71,72,73,74,75,76,77,78,79,80,81,82,83,84,85,86,87,88,89,90]
theorem lows_eq : ("abcdefghijklmnopqrstuvwxyz" : Str).cps.toList = lows := by decide +kernel
theorem caps_eq : ("ABCDEFGHIJKLMNOPQRSTUVWXYZ" : Str).cps.toList = caps := by decide +kernel
theorem lows_small : ∀ c ∈ lows, c < 128 := by decide
theorem caps_small : ∀ c ∈ caps, c < 128 := by decide
end My
namespace My
open PySem PySem.Spec PyProof.Rows L2
theorem le_of1000 : (26 : Nat) ≤ 1000 := by decide
end My
namespace My
open PySem PySem.Spec PyProof.Rows L2
theorem yes_ite {σ : L2.St} {H : Hp} {A B : Hp → Prop} (h : A H) : tYes σ H (fun b H3 => if b = true then A H3 else B H3) := by
  show (if true = true then A H else B H)
  rw [if_pos rfl]
  exact h
end My
namespace My
open PySem PySem.Spec PyProof.Rows L2
theorem cutV_from (xs : List V) (n : Nat) (h : n ≤ xs.length) : cutV xs (some (n : Int)) Option.none = xs.drop n := by
  unfold cutV
  rw [show HT.sIx xs.length 0 (some (n : Int)) = min n xs.length from HT.sIx_nat xs.length 0 n, HT.sIx_none, Nat.min_eq_left h]
  exact List.take_of_length_le (by rw [List.length_drop]; exact Nat.le_refl _)
theorem sIx_from (L n : Nat) (h : n ≤ L) : HT.sIx L 0 (some (n : Int)) = n := by
  rw [show HT.sIx L 0 (some (n : Int)) = min n L from HT.sIx_nat L 0 n, Nat.min_eq_left h]
end My
namespace My
open PySem PySem.Spec PyProof.Rows L2

/-! ### data that never changes -/
mutual
inductive Im (H : Hp) : V → PyData → Prop
  | non : Im H .non .none
  | bl (b : Bool) : Im H (.bl b) (.bool b)
  | int (i : Int) : Im H (.int i) (.int i)
  | str (x : Str) : Im H (.str x) (.str x)
  | tup {a : Addr} {xs : List V} {ds : List PyData} : H a = some (.tup xs) → ImAll H xs ds → Im H (.ref a) (.tuple ds)
inductive ImAll (H : Hp) : List V → List PyData → Prop
  | nil : ImAll H [] []
  | cons {v : V} {vs : List V} {d : PyData} {ds : List PyData} : Im H v d → ImAll H vs ds → ImAll H (v :: vs) (d :: ds)
end
def KT (H H' : Hp) : Prop := ∀ a xs, H a = some (.tup xs) → H' a = some (.tup xs)
theorem KT.refl (H : Hp) : KT H H := fun _ _ h => h
theorem KT.trans {H H1 H2 : Hp} (a : KT H H1) (b : KT H1 H2) : KT H H2 := fun c o h => b c o (a c o h)
theorem KT.new {H : Hp} {p : Addr} {o : HO} (h : H p = none) : KT H (upd H p o) := fun a xs e => by
  rw [upd_ne (ne_of_none e h)]; exact e
theorem KT.put {H : Hp} {p : Addr} {xs ys : List V} (h : H p = some (.lst xs)) : KT H (upd H p (.lst ys)) := fun a zs e => by
  rw [upd_ne (ne_of e h (fun z => nomatch z))]; exact e
theorem Same.kt {H H' : Hp} (h : Same H H') : KT H H' := fun a xs e => h _ _ e
theorem Kp.kt {K : PySem.W.Frag} {t : TA2} {H H' : Hp} (k : Kp t H H') (T : Tape K H t) : KT H H' := fun a xs e => by
  obtain ⟨ys, h⟩ := T.lst
  exact k.tup h e
mutual
theorem Im.dp {K : PySem.W.Frag} {H : Hp} : ∀ {v : V} {d : PyData}, Im H v d → Dp K H v d
  | _, _, .non => .non
  | _, _, .bl b => .bl b
  | _, _, .int i => .int i
  | _, _, .str x => .str x
  | _, _, .tup h ha => .tup (.inl (.inl h)) (ImAll.dp ha)
theorem ImAll.dp {K : PySem.W.Frag} {H : Hp} : ∀ {vs : List V} {ds : List PyData}, ImAll H vs ds → DpAll K H vs ds
  | _, _, .nil => .nil
  | _, _, .cons h t => .cons (Im.dp h) (ImAll.dp t)
end
mutual
theorem Im.kt {H H' : Hp} (k : KT H H') : ∀ {v : V} {d : PyData}, Im H v d → Im H' v d
  | _, _, .non => .non
  | _, _, .bl b => .bl b
  | _, _, .int i => .int i
  | _, _, .str x => .str x
  | _, _, .tup h ha => .tup (k _ _ h) (ImAll.kt k ha)
theorem ImAll.kt {H H' : Hp} (k : KT H H') : ∀ {vs : List V} {ds : List PyData}, ImAll H vs ds → ImAll H' vs ds
  | _, _, .nil => .nil
  | _, _, .cons h t => .cons (Im.kt k h) (ImAll.kt k t)
end
theorem ImAll.length {H : Hp} : ∀ {vs : List V} {ds : List PyData}, ImAll H vs ds → vs.length = ds.length
  | _, _, .nil => rfl
  | _, _, .cons _ t => congrArg (· + 1) (ImAll.length t)
theorem ImAll.get {H : Hp} : ∀ {vs : List V} {ds : List PyData} {i : Nat} {v : V}, ImAll H vs ds → vs[i]? = some v → ∃ d, ds[i]? = some d ∧ Im H v d
  | _, _, _, _, .nil, e => by simp at e
  | _, _, 0, _, .cons h _, e => by simp at e; subst e; exact ⟨_, rfl, h⟩
  | _, _, i + 1, _, .cons _ t, e => by
    obtain ⟨d, h1, h2⟩ := ImAll.get (i := i) t (by simpa using e)
    exact ⟨d, by simpa using h1, h2⟩
theorem ImAll.of {H : Hp} : ∀ {vs : List V} {ds : List PyData} {i : Nat} {d : PyData}, ImAll H vs ds → ds[i]? = some d → ∃ v, vs[i]? = some v ∧ Im H v d
  | _, _, _, _, .nil, e => by simp at e
  | _, _, 0, _, .cons h _, e => by simp at e; subst e; exact ⟨_, rfl, h⟩
  | _, _, i + 1, _, .cons _ t, e => by
    obtain ⟨d, h1, h2⟩ := ImAll.of (i := i) t (by simpa using e)
    exact ⟨d, by simpa using h1, h2⟩
theorem ImAll.snoc {H : Hp} : ∀ {vs : List V} {ds : List PyData} {v : V} {d : PyData}, ImAll H vs ds → Im H v d → ImAll H (vs ++ [v]) (ds ++ [d])
  | _, _, _, _, .nil, h => .cons h .nil
  | _, _, _, _, .cons g t, h => .cons g (ImAll.snoc t h)
theorem ImAll.append {H : Hp} : ∀ {vs ws : List V} {ds es : List PyData}, ImAll H vs ds → ImAll H ws es → ImAll H (vs ++ ws) (ds ++ es)
  | _, _, _, _, .nil, h => h
  | _, _, _, _, .cons g t, h => .cons g (ImAll.append t h)
theorem ImAll.strs {H : Hp} : ∀ xs : List Str, ImAll H (xs.map V.str) (xs.map PyData.str)
  | [] => .nil
  | x :: xs => .cons (.str x) (ImAll.strs xs)
theorem ImAll.ints {H : Hp} : ∀ xs : List Int, ImAll H (xs.map V.int) (xs.map PyData.int)
  | [] => .nil
  | x :: xs => .cons (.int x) (ImAll.ints xs)
theorem ImAll.strs_inv {H : Hp} : ∀ {vs : List V} {xs : List Str}, ImAll H vs (xs.map PyData.str) → vs = xs.map V.str
  | vs, [], h => by cases h; rfl
  | vs, x :: xs, h => by
    cases h with
    | cons h1 h2 =>
      cases h1
      rw [ImAll.strs_inv h2]
      rfl
theorem ImAll.ints_inv {H : Hp} : ∀ {vs : List V} {xs : List Int}, ImAll H vs (xs.map PyData.int) → vs = xs.map V.int
  | vs, [], h => by cases h; rfl
  | vs, x :: xs, h => by
    cases h with
    | cons h1 h2 =>
      cases h1
      rw [ImAll.ints_inv h2]
      rfl
theorem Im.inv {H : Hp} {v : V} {ds : List PyData} (h : Im H v (.tuple ds)) : ∃ p xs, v = .ref p ∧ H p = some (.tup xs) ∧ ImAll H xs ds := by
  cases h with
  | tup a b => exact ⟨_, _, rfl, a, b⟩

/-! ### texts -/
theorem flat1 : ∀ xs : List Nat, ((xs.map fun c => (⟨#[c]⟩ : Str)).map TL.tl).flatten = xs
  | [] => rfl
  | x :: xs => by
    rw [List.map_cons, List.map_cons, List.flatten_cons, flat1 xs]
    rfl
theorem joinL_nil : ∀ xs : List (List Nat), TL.joinL [] xs = xs.flatten
  | [] => rfl
  | [p] => by simp [TL.joinL]
  | p :: q :: r => by
    show p ++ ([] ++ TL.joinL [] (q :: r)) = _
    rw [joinL_nil (q :: r)]
    simp
theorem join_empty (ys : List Str) : (Txt.join "" ys).cps.toList = (ys.map TL.tl).flatten := by
  have h := TL.tl_join "" ys
  rw [← TL.join_eq] at h
  exact h.trans (joinL_nil _)
theorem join_signs (cs : List Nat) : (Txt.join "" (cs.map fun c => (⟨#[c]⟩ : Str))).cps.toList = cs := by
  rw [join_empty, flat1]
theorem sum_signs : ∀ cs : List Nat, ((cs.map fun c => (⟨#[c]⟩ : Str)).map (·.length)).sum = cs.length
  | [] => rfl
  | c :: cs => by
    rw [List.map_cons, List.map_cons, List.sum_cons, sum_signs cs, List.length_cons]
    show 1 + cs.length = _
    omega
theorem str_ext {x y : Str} (h : x.cps.toList = y.cps.toList) : x = y := by
  obtain ⟨⟨a⟩⟩ := x
  obtain ⟨⟨b⟩⟩ := y
  have h : a = b := h
  rw [h]
theorem str_len (x : Str) : x.cps.toList.length = x.length := Array.length_toList
theorem str_cat (x y : Str) : (x ++ y).cps.toList = x.cps.toList ++ y.cps.toList := by
  show (x.cps ++ y.cps).toList = _
  rw [Array.toList_append]
/-- a sign of a text, drawn -/
theorem pickC {z : Str} {v : Int} (h0 : 0 ≤ v) (h1 : v < z.length) : ∃ c, c ∈ z.cps.toList ∧ atI z.cps.toList v = some c := by
  have h : v.toNat < z.cps.toList.length := by rw [str_len]; omega
  refine ⟨z.cps.toList[v.toNat], List.getElem_mem h, ?_⟩
  have e := atI_nat (List.getElem?_eq_getElem h)
  rw [Int.toNat_of_nonneg h0] at e
  exact e

/-! ### class nodes -/
def clsD (b : Bool) (hs ls : Str) : PyData := .tuple [.str "class", .bool b, .str hs, .str ls]
structure Cl (hs ls : Str) : Prop where
  h1 : hs.length ≤ 27
  h2 : ls.length ≤ 26
  h3 : Sg hs
  h4 : Sg ls
theorem Cl.none : Cl "" "" := ⟨by decide, by decide, fun _ h => (nomatch h), fun _ h => (nomatch h)⟩
theorem Im.cls {H : Hp} {v : V} {b : Bool} {hs ls : Str} (h : Im H v (clsD b hs ls)) : ∃ p, v = .ref p ∧ H p = some (.tup [.str "class", .bl b, .str hs, .str ls]) := by
  obtain ⟨p, xs, rfl, hp, ha⟩ := h.inv
  cases ha with
  | cons a1 a2 => cases a1; cases a2 with
    | cons b1 b2 => cases b1; cases b2 with
      | cons c1 c2 => cases c1; cases c2 with
        | cons d1 d2 => cases d1; cases d2; exact ⟨p, rfl, hp⟩
theorem Im.mkcls {H : Hp} {p : Addr} {b : Bool} {hs ls : Str} (h : H p = some (.tup [.str "class", .bl b, .str hs, .str ls])) : Im H (.ref p) (clsD b hs ls) :=
  .tup h (.cons (.str _) (.cons (.bl _) (.cons (.str _) (.cons (.str _) .nil))))
/-- belongs -/
def bel (b : Bool) (hs ls : Str) (c d : Nat) : Bool :=
  !decide (V.bl ((decide (V.str hs = V.str (Str.ofString "")) || decide (c ∈ hs.cps.toList)) && (decide (V.str ls = V.str (Str.ofString "")) || decide (d ∈ ls.cps.toList))) = V.bl b)
/-- and, or of values -/
theorem or_val {Q : VK} {H : Hp} {c d : Bool} (h : Q (.bl (c || d)) H) : if c = true then Q (.bl true) H else Q (.bl d) H := by
  cases c <;> exact h
theorem or_cps {Q : VK} {H : Hp} {P : Prop} {c d : Bool} (hp : c = false → Q (.bl d) H → P) (h : Q (.bl (c || d)) H) : if c = true then Q (.bl true) H else P := by
  cases c
  · exact hp rfl h
  · exact h
theorem and_cps {Q : VK} {H : Hp} {P : Prop} {c d : Bool} (hp : c = true → Q (.bl d) H → P) (h : Q (.bl (c && d)) H) : if c = true then P else Q (.bl false) H := by
  cases c
  · exact h
  · exact hp rfl h
end My
namespace My
open PySem PySem.Spec PyProof.Rows L2
/-- letters, owners -/
structure Al (x : Str) : Prop where
  n1 : 1 ≤ x.length
  n3 : x.length ≤ 3
  sg : Sg x
theorem le_cat {z : Str} (h : z.length ≤ 900) : (Str.ofString "@").length + z.length ≤ sizeLine := le_size (by show 1 + z.length ≤ 1000; omega)
end My
namespace My
open PySem PySem.Spec PyProof.Rows L2
theorem join_fits (l : List Nat) (h : l.length ≤ 1000) : ((l.map fun c => (⟨#[c]⟩ : Str)).map (·.length)).sum + (l.map fun c => (⟨#[c]⟩ : Str)).length * (Str.ofString "").length ≤ 16777216 := by
  rw [sum_signs, show (Str.ofString "").length = 0 from rfl]
  omega
theorem join_cl (l : List Nat) : (Txt.join (Str.ofString "") (l.map fun c => (⟨#[c]⟩ : Str))).cps.toList = l := join_signs l
theorem join_len (l : List Nat) : (Txt.join (Str.ofString "") (l.map fun c => (⟨#[c]⟩ : Str))).length = l.length := by
  rw [← str_len, join_cl]
theorem sg_one {c : Nat} (h : c < 128) : Sg ⟨#[c]⟩ := fun d hd => by rw [show d = c by simpa using hd]; exact h
theorem sg_cat {x y : Str} (h : Sg x) (g : Sg y) : Sg (x ++ y) := fun c hc => by
  rw [str_cat] at hc
  rcases List.mem_append.mp hc with z | z
  · exact h c z
  · exact g c z
theorem sg_at : Sg (Str.ofString "@") := by
  intro c hc
  have h : c ∈ ([64] : List Nat) := hc
  have h2 : c = 64 := by simpa using h
  omega
end My
namespace My
open PySem PySem.Spec PyProof.Rows L2
theorem atcaps_eq : ("@ABCDEFGHIJKLMNOPQRSTUVWXYZ" : Str).cps.toList = 64 :: caps := by decide +kernel
theorem sg_sub {x : Str} {l : List Nat} (h : x.cps.toList.Sublist l) (g : ∀ c ∈ l, c < 128) : Sg x := fun c hc => g c (h.subset hc)
theorem atcaps_small : ∀ c ∈ 64 :: caps, c < 128 := by decide
theorem lows_sg : Sg "abcdefghijklmnopqrstuvwxyz" := fun c hc => by rw [lows_eq] at hc; exact lows_small c hc
theorem caps_sg : Sg "ABCDEFGHIJKLMNOPQRSTUVWXYZ" := fun c hc => by rw [caps_eq] at hc; exact caps_small c hc
theorem al_lows {x : Str} (h : x.cps.toList.Sublist lows) (h1 : 1 ≤ x.length) (h3 : x.length ≤ 3) : Al x := ⟨h1, h3, sg_sub h lows_small⟩
theorem al_caps {x : Str} (h : x.cps.toList.Sublist caps) (h1 : 1 ≤ x.length) (h3 : x.length ≤ 3) : Al x := ⟨h1, h3, sg_sub h caps_small⟩
end My
namespace My
open PySem PySem.Spec PyProof.Rows L2
theorem rep_bl (K : PySem.W.Frag) (H : Hp) (b : Bool) : Dp K H (.bl b) (.bool b) ∧ (PyData.bool b).showable = true ∧ (PyData.bool b).hasDict = false ∧ (PyData.bool b).depth ≤ 40 ∧ (PyData.bool b).shown.length ≤ sizeLine :=
  ⟨.bl b, (Sh.bool b).s, (Sh.bool b).n, Nat.le_trans (Sh.bool b).p (by decide), (Sh.bool b).fits (by decide)⟩
end My
namespace My
open PySem PySem.Spec PyProof.Rows L2

theorem atI_lastV {xs : List V} (h : xs ≠ []) : ∃ v, v ∈ xs ∧ atI xs (-1) = some v := by
  refine ⟨xs.getLast h, List.getLast_mem h, ?_⟩
  have e : xs = xs.dropLast ++ [xs.getLast h] := (List.dropLast_concat_getLast h).symm
  rw [show atI xs (-1) = atI (xs.dropLast ++ [xs.getLast h]) (-1) by rw [← e]]
  exact atI_last _ _
/-- the first place of a text -/
def at1 : List Str → Str → Nat
  | [], _ => 0
  | y :: ys, z => if y = z then 0 else at1 ys z + 1
theorem at1_get : ∀ {ys : List Str} {z : Str}, z ∈ ys → ys[at1 ys z]? = some z ∧ ∀ m, m < at1 ys z → ys[m]? ≠ some z
  | y :: ys, z, h => by
    unfold at1
    by_cases e : y = z
    · rw [if_pos e]
      exact ⟨by rw [e]; rfl, fun m hm => absurd hm (Nat.not_lt_zero _)⟩
    · rw [if_neg e]
      have h2 : z ∈ ys := by
        rcases List.mem_cons.mp h with q | q
        · exact absurd q.symm e
        · exact q
      obtain ⟨h3, h4⟩ := at1_get h2
      refine ⟨by simpa using h3, fun m hm => ?_⟩
      cases m with
      | zero => simpa using e
      | succ m => simpa using h4 m (by omega)
theorem at1_lt {ys : List Str} {z : Str} (h : z ∈ ys) : at1 ys z < ys.length := (List.getElem?_eq_some_iff.mp (at1_get h).1).1
/-- a sequence of symbols as a value -/
def Sq (H : Hp) (v : V) (xs : List Str) : Prop := Im H v (.tuple (xs.map PyData.str))
theorem Sq.get {H : Hp} {v : V} {xs : List Str} (h : Sq H v xs) : ∃ p, v = .ref p ∧ H p = some (.tup (xs.map V.str)) := by
  obtain ⟨p, vs, rfl, hp, ha⟩ := Im.inv h
  exact ⟨p, rfl, by rw [hp, ha.strs_inv]⟩
theorem Sq.mk {H : Hp} {p : Addr} {xs : List Str} (h : H p = some (.tup (xs.map V.str))) : Sq H (.ref p) xs := .tup h (ImAll.strs xs)
/-- a symbol -/
def Sym (x : Str) : Prop := ∃ a b, x = sy a b ∧ a < 128 ∧ b < 128
theorem Sym.sg {x : Str} (h : Sym x) : Sg x ∧ x.length ≤ 2 := by
  obtain ⟨a, b, rfl, ha, hb⟩ := h
  refine ⟨fun c hc => ?_, Nat.le_refl _⟩
  have hc' : c = a ∨ c = b := by simpa using hc
  rcases hc' with rfl | rfl <;> assumption
theorem sym_comb {hs ls : List Nat} (h1 : ∀ c ∈ hs, c < 128) (h2 : ∀ c ∈ ls, c < 128) : ∀ x ∈ comb hs ls, Sym x := fun x hx => by
  obtain ⟨a, ha, b, hb, rfl⟩ := mem_comb hx
  exact ⟨a, b, rfl, h1 a ha, h2 b hb⟩
theorem strs_in {ss : List Str} {w : V} (h : w ∈ ss.map V.str) : ∃ x, x ∈ ss ∧ w = .str x := by
  obtain ⟨x, hx, rfl⟩ := List.mem_map.mp h
  exact ⟨x, hx, rfl⟩
end My
namespace My
open PySem PySem.Spec PyProof.Rows L2

/-! ### acceptors -/
def rowD (r : List Int) : PyData := .tuple (r.map PyData.int)
def rowsD (rows : List (List Int)) : PyData := .tuple (rows.map rowD)
structure RowsOk (rows : List (List Int)) (n m : Nat) : Prop where
  ln : rows.length = n
  w : ∀ r ∈ rows, r.length = m ∧ ∀ x ∈ r, 0 ≤ x ∧ x < (n : Int)
structure AccOk (rs : List Str) (rows : List (List Int)) (ac : List Int) : Prop where
  r1 : 1 ≤ rs.length
  r12 : rs.length ≤ 12
  n1 : 1 ≤ rows.length
  n2 : rows.length ≤ 200
  w : ∀ r ∈ rows, r.length = rs.length ∧ ∀ x ∈ r, 0 ≤ x ∧ x < (rows.length : Int)
  a : ∀ x ∈ ac, 0 ≤ x ∧ x < (rows.length : Int)
  a2 : ac.length ≤ 200
/-- a tuple of texts whose object is known -/
def Rds (H : Hp) (p : Addr) (rs : List Str) : Prop := ∃ o : Obj, H p = some (.frz o (.tup (rs.map V.str))) ∧ o.cls = .type "tuple" ∧ o.dict = Option.none
theorem Rds.sq {K : PySem.W.Frag} {H : Hp} {p : Addr} {rs : List Str} (h : Rds H p rs) : SqT K H p (rs.map V.str) := by
  obtain ⟨o, e, _⟩ := h
  exact .inl (.inr ⟨o, e⟩)
theorem Rds.kp {t : TA2} {K : PySem.W.Frag} {H H' : Hp} {p : Addr} {rs : List Str} (h : Rds H p rs) (k : Kp t H H') (T : Tape K H t) : Rds H' p rs := by
  obtain ⟨o, e, r⟩ := h
  obtain ⟨ys, g⟩ := T.lst
  exact ⟨o, k _ _ (ne_of e g (fun z => nomatch z)) e, r⟩
theorem Rds.same {H H' : Hp} {p : Addr} {rs : List Str} (h : Rds H p rs) (k : Same H H') : Rds H' p rs := by
  obtain ⟨o, e, r⟩ := h
  exact ⟨o, k _ _ e, r⟩
theorem Rds.new {H : Hp} {p q : Addr} {u : HO} {rs : List Str} (h : Rds H p rs) (n : H q = Option.none) : Rds (upd H q u) p rs := h.same (Same.new n)
theorem Rds.put {H : Hp} {p q : Addr} {xs ys : List V} {rs : List Str} (h : Rds H p rs) (n : H q = some (.lst xs)) : Rds (upd H q (.lst ys)) p rs := by
  obtain ⟨o, e, r⟩ := h
  exact ⟨o, by rw [upd_ne (ne_of e n (fun z => nomatch z))]; exact e, r⟩
theorem Rds.ne {K : PySem.W.Frag} {t : TA2} {H : Hp} {p : Addr} {rs : List Str} (h : Rds H p rs) (T : Tape K H t) : p ≠ t.1 := by
  obtain ⟨o, e, r⟩ := h
  obtain ⟨ys, g⟩ := T.lst
  exact ne_of e g (fun z => nomatch z)
section
variable {X : Cx}
def rTupF (K : PySem.W.Frag) : List V → Hp → VK → Prop := fun xs H Q => ∃ p ys, xs = [.ref p] ∧ SqL K H p ys ∧
  ∀ (l : Addr) (o : Obj), H l = Option.none → o.cls = .type "tuple" → o.dict = Option.none → Q (.ref l) (upd H l (.frz o (.tup ys)))
theorem call_tupF : CallR X (.type "tuple") (rTupF X.K) := by
  intro pins s σ H xs us Q I r h
  obtain ⟨p, ys, rfl, hq, q⟩ := h
  obtain ⟨u, rfl, rx⟩ := vals1 r
  cases rx
  obtain ⟨its, r2, pl, hz⟩ := I.list hq
  have hlen := r2.length
  refine call_tuple_list pl.isList (fun h2 kp => ?_) (by simp only [List.size_toArray] <;> omega)
  have J : Inv X pins σ H { s with heap := h2 } := I.kept (t' := s.toks) kp
  have L : Inv X pins σ (upd H h2.objs.size (.frz { cls := .type "tuple", data := .seq its.toArray } (.tup ys)))
      { s with heap := h2.push { cls := .type "tuple", data := .seq its.toArray } } :=
    J.laid (t' := s.toks) (fun b o e => Heap.get?_push_of_some _ e) (Nat.le_refl _) ⟨Heap.get?_push_size _ rfl, hz, its, r2, IsTup.new _ _⟩
  exact ⟨.ref h2.objs.size, _, L, rfl, q _ _ (J.hok.fresh (Nat.le_refl _)) rfl rfl⟩
/-- a method of such a tuple -/
def tyF (T : String) (x : V) (H : Hp) : Prop := ∃ (p : Addr) (o : Obj) (u : HO), x = .ref p ∧ H p = some (.frz o u) ∧ o.cls = .type T ∧ o.dict = Option.none
def tBF (T : String) (r : V → List V → Hp → VK → Prop) (to : TE) (t : TA) : TE := fun σ H Q => to σ H fun x H1 => tyF T x H1 ∧ t σ H1 fun xs H2 => r x xs H2 Q
variable {o e : Expr} {es : List Expr} {to : TE} {t : TA} {name : Str} {apos cpos : Pos} {T id : String} {r : V → List V → Hp → VK → Prop}
theorem pe_bf (pa : PlainAttrs T) (slot : Slot T name id) (hty : typeOf (.builtin id) = pure (.type "method_descriptor")) (hm : MtR X id r)
    (ho : PE X o to) (ha : PA X (e :: es) t) (hbase : attributeBase o name X.env (eval o X.env) = eval o X.env := by rfl)
    (hfw : ((backTo cpos (starEach (e :: es) X.env)).all (fun x => !x.1) && (backToKw cpos (keywordEach [] X.env)).all (fun x => x.1.isSome) && decide
      ((e :: es).length + ([] : List Keyword).length + (if ([] : List Keyword).isEmpty then 0 else 1) < 30)) = true := by rfl)
    (hln : (apos.endLine == cpos.line) = true := by rfl) (hs : starEach (e :: es) X.env = (false, eval e X.env) :: starEach es X.env := by rfl)
    (hpl : (backTo cpos (starEach es X.env)).any (·.1) = false := by rfl) :
    PE X (.Call (.Attribute o name apos) (e :: es) [] cpos) (tBF T r to t) := by
  constructor
  intro pins s σ H Q I h
  refine wpAny_Call_method_late hbase hfw hln rfl
    (thn (ho.run pins s σ H _ I h) ?_)
  rintro v s1 ⟨x, H1, I1, r1, ⟨p, ob, u, rfl, hp, hc, hd⟩, q1⟩
  cases r1
  have hk := (I1.hok p _ hp).1
  refine ⟨T, id, pa, slot, hty, ⟨ob, hk, hc⟩, fun a ea => by cases ea; exact ⟨ob, hk, hd⟩, ?_⟩
  have hA := ha.run cpos pins s1 σ H1 _ I1 q1
  rw [hs] at hA ⊢
  refine Calls.callWith_builtin (by show (false || (backTo cpos (starEach es X.env)).any (·.1)) = false; rw [hpl]; rfl)
    (Calls.evalArgs_plain (thn hA ?_))
  rintro us s2 ⟨vs, H2, I2, r2, q2⟩
  exact hm pins s2 σ H2 (.ref p) vs (.ref p) us Q I2 rfl r2 q2
def rIdx (K : PySem.W.Frag) : V → List V → Hp → VK → Prop := fun x xs H Q => ∃ p, ∃ ys : List Str, ∃ z j, x = .ref p ∧ xs = [.str z] ∧ SqT K H p (ys.map V.str) ∧ ys[j]? = some z ∧ (∀ m, m < j → ys[m]? ≠ some z) ∧ Q (.int (j : Nat)) H
theorem mt_idx : MtR X "tuple.index" (rIdx X.K) := mt_tup_index
end
def AccAt (H : Hp) (v : V) (rs : List Str) (rows : List (List Int)) (ac : List Int) : Prop :=
  ∃ p a b c, v = .ref p ∧ H p = some (.tup [.ref a, .ref b, .ref c]) ∧ Rds H a rs ∧ Im H (.ref b) (rowsD rows) ∧ H c = some (.tup (ac.map V.int))
theorem Im.row {H : Hp} {v : V} {r : List Int} (h : Im H v (rowD r)) : ∃ p, v = .ref p ∧ H p = some (.tup (r.map V.int)) := by
  obtain ⟨p, vs, rfl, hp, ha⟩ := Im.inv h
  exact ⟨p, rfl, by rw [hp, ha.ints_inv]⟩
theorem Im.mkrow {H : Hp} {p : Addr} {r : List Int} (h : H p = some (.tup (r.map V.int))) : Im H (.ref p) (rowD r) := .tup h (ImAll.ints r)
theorem AccAt.same {H H' : Hp} {v : V} {rs : List Str} {rows : List (List Int)} {ac : List Int} (h : AccAt H v rs rows ac) (k : Same H H') : AccAt H' v rs rows ac := by
  obtain ⟨p, a, b, c, e, hp, ha, hb, hc⟩ := h
  exact ⟨p, a, b, c, e, k _ _ hp, ha.same k, hb.kt (Same.kt k), k _ _ hc⟩
theorem AccAt.kp {t : TA2} {K : PySem.W.Frag} {H H' : Hp} {v : V} {rs : List Str} {rows : List (List Int)} {ac : List Int} (h : AccAt H v rs rows ac) (k : Kp t H H') (T : Tape K H t) : AccAt H' v rs rows ac := by
  obtain ⟨p, a, b, c, e, hp, ha, hb, hc⟩ := h
  exact ⟨p, a, b, c, e, k.kt T _ _ hp, ha.kp k T, hb.kt (k.kt T), k.kt T _ _ hc⟩
theorem AccAt.inv {H : Hp} {v : V} {rs : List Str} {rows : List (List Int)} {ac : List Int} (h : AccAt H v rs rows ac) :
    ∃ p a b c us, v = .ref p ∧ H p = some (.tup [.ref a, .ref b, .ref c]) ∧ Rds H a rs ∧ H b = some (.tup us) ∧
      ImAll H us (rows.map rowD) ∧ H c = some (.tup (ac.map V.int)) := by
  obtain ⟨p, a, b, c, e, hp, ha, hb, hc⟩ := h
  obtain ⟨b2, vb, e2, hb2, ib⟩ := Im.inv hb
  cases e2
  exact ⟨p, a, b, c, vb, e, hp, ha, hb2, ib, hc⟩
/-- one step -/
def stp (rs : List Str) (rows : List (List Int)) (a : Int) (x : Str) : Int := (rows.getD a.toNat []).getD (at1 rs x) 0
def st (rs : List Str) (rows : List (List Int)) (xs : List Str) : Int := xs.foldl (stp rs rows) 0
theorem st_snoc (rs : List Str) (rows : List (List Int)) (xs : List Str) (x : Str) : st rs rows (xs ++ [x]) = stp rs rows (st rs rows xs) x := by
  unfold st
  rw [List.foldl_append]
  rfl
theorem stp_get {rs : List Str} {rows : List (List Int)} {ac : List Int} (O : AccOk rs rows ac) {a : Int} (h0 : 0 ≤ a) (h1 : a < rows.length) {x : Str} (hx : x ∈ rs) :
    ∃ r, rows[a.toNat]? = some r ∧ r[at1 rs x]? = some (stp rs rows a x) ∧ 0 ≤ stp rs rows a x ∧ stp rs rows a x < rows.length := by
  have ha : a.toNat < rows.length := by omega
  have hr := O.w _ (List.getElem_mem ha)
  have hi : at1 rs x < rows[a.toNat].length := by rw [hr.1]; exact at1_lt hx
  have e1 : rows.getD a.toNat [] = rows[a.toNat] := by simp [ha]
  have e : stp rs rows a x = rows[a.toNat][at1 rs x] := by
    unfold stp
    rw [e1]
    simp [hi]
  refine ⟨rows[a.toNat], List.getElem?_eq_getElem ha, ?_, ?_⟩
  · rw [e]
    exact List.getElem?_eq_getElem hi
  · rw [e]
    exact hr.2 _ (List.getElem_mem hi)
theorem st_in {rs : List Str} {rows : List (List Int)} {ac : List Int} (O : AccOk rs rows ac) (xs : List Str) (h : ∀ x ∈ xs, x ∈ rs) : ∀ i, 0 ≤ st rs rows (xs.take i) ∧ st rs rows (xs.take i) < rows.length := by
  intro i
  induction i with
  | zero => exact ⟨Int.le_refl 0, by have := O.n1; show (0 : Int) < _; omega⟩
  | succ i ih =>
    rw [List.take_add_one]
    cases e : xs[i]? with
    | none => simpa using ih
    | some x =>
      show 0 ≤ st rs rows (_ ++ [x]) ∧ st rs rows (_ ++ [x]) < _
      rw [st_snoc]
      obtain ⟨r, _, _, h1, h2⟩ := stp_get O ih.1 ih.2 (h x (List.mem_of_getElem? e))
      exact ⟨h1, h2⟩
def alg (rs : List Str) (rows : List (List Int)) (xs : List Str) (i : Nat) : List Int := (List.range (i + 1)).map fun j => st rs rows (xs.take j)
theorem alg_succ (rs : List Str) (rows : List (List Int)) (xs : List Str) (i : Nat) : alg rs rows xs (i + 1) = alg rs rows xs i ++ [st rs rows (xs.take (i + 1))] := by
  unfold alg
  rw [List.range_succ, List.map_append]
  rfl
theorem alg_len (rs : List Str) (rows : List (List Int)) (xs : List Str) (i : Nat) : (alg rs rows xs i).length = i + 1 := by
  unfold alg
  rw [List.length_map, List.length_range]
theorem alg_last (rs : List Str) (rows : List (List Int)) (xs : List Str) (i : Nat) : atI ((alg rs rows xs i).map V.int) (-1) = some (.int (st rs rows (xs.take i))) := by
  cases i with
  | zero => rfl
  | succ i =>
    rw [alg_succ, List.map_append]
    exact atI_last _ _
theorem flat_ints : ∀ xs : List Int, (xs.map V.int).all flatV = true
  | [] => rfl
  | x :: xs => by
    rw [List.map_cons, List.all_cons, flat_ints xs]
    rfl
theorem sh_ints {xs : List Int} (h : ∀ x ∈ xs, 0 ≤ x ∧ x < 1000000) : Sh (.tuple (xs.map PyData.int)) 1 xs.length := by
  have := Sh.tup (dp := 0) (bk := 0) (ds := xs.map PyData.int) (fun d hd => by
    obtain ⟨x, hx, rfl⟩ := List.mem_map.mp hd
    have := h x hx
    exact Sh.int (by omega))
  rwa [List.length_map, Nat.zero_add, Nat.mul_one] at this
theorem atI_int {xs : List V} {a : Int} {v : V} (h0 : 0 ≤ a) (h : xs[a.toNat]? = some v) : atI xs a = some v := by
  have e := atI_nat h
  rw [Int.toNat_of_nonneg h0] at e
  exact e
end My
namespace My
open PySem PySem.Spec PyProof.Rows L2
section
variable {X : Cx}
/-- < of data -/
def rLtD (K : PySem.W.Frag) : R2 := fun x y H Q => ∃ d e, Dp K H x d ∧ Dp K H y e ∧ PySem.W.alike d e = true ∧ d ≠ .none ∧ d.depth ≤ 30 ∧ Q (.bl (PySem.W.dataLt d e)) H
theorem op_ltD (hu : X.A.units + 64 < cLine) : OpR X (compareOp .Lt) (rLtD X.K) := by
  intro pins s σ H x y v u Q I rx ry h
  obtain ⟨d, e, hd, he, ha, hn, hp, q⟩ := h
  obtain ⟨as, r1⟩ := Dp.reads I d x v hd rx
  obtain ⟨bs, r2⟩ := Dp.reads I e y u he ry
  exact PySem.W.lt_data r1 r2 ha hn (by omega) ⟨.bl _, H, I, rfl, q⟩
end
section
variable {prog : Program} {w : World} {A : Around} {E : Value → Shared → Prop} {s : Shared}
theorem rev_places (n : Nat) : Builtin.Slice.slicePlaces ((n : Int) - 1) (-1) (-1) = n := by
  unfold Builtin.Slice.slicePlaces
  rw [if_neg (by decide)]
  by_cases h : (n : Int) - 1 > -1
  · rw [if_pos h, show (-(-1) : Int) = 1 by decide, Int.ediv_one]
    omega
  · rw [if_neg h]
    omega
theorem rev_applied {sl : Addr} {vl vu vs : Value} {n : Nat} {Q : Int × Int × Nat → Shared → Prop} (hs : s.heap.IsSliceOf sl vl vu vs)
    (pl : IsPart vl none) (pu : IsPart vu none) (ps : IsPart vs (some (-1))) (h : Q ((n : Int) - 1, -1, n) s) :
    wpAny (model prog w) A (Builtin.Slice.sliceApplied (.ref sl) (pure (n : Int))) Q E s := by
  obtain ⟨os, hos, hcs, hds⟩ := id hs
  unfold Builtin.Slice.sliceApplied Builtin.Slice.sliceFields
  refine wpAny_bind (wpAny_bind (wpAny_field hos hds (x := vl) rfl (wpAny_bind (wpAny_field hos hds (x := vu) rfl
    (wpAny_bind (wpAny_field hos hds (x := vs) rfl (wpAny_pure ?_)))))))
  refine wpAny_bind (HT.slicePart_ ps ?_)
  show wpAny _ _ (if ((-1 : Int) == 0) = true then _ else _) _ _ s
  rw [if_neg (by decide)]
  refine wpAny_bind (HT.slicePart_ pl (wpAny_bind (HT.slicePart_ pu
    (wpAny_bind (wpAny_pure ?_)))))
  have e : Builtin.Slice.sliceAdjust none none (-1) (n : Int) = ((n : Int) - 1, -1) := rfl
  show wpAny _ _ (match Builtin.Slice.sliceAdjust none none (-1) (n : Int) with | (lo, hi) => pure (lo, (-1 : Int), Builtin.Slice.slicePlaces lo hi (-1))) _ _ s
  rw [e]
  show wpAny _ _ (pure ((n : Int) - 1, (-1 : Int), Builtin.Slice.slicePlaces ((n : Int) - 1) (-1) (-1))) _ _ s
  rw [rev_places]
  exact wpAny_pure h
theorem rev_pick (xs : Array Value) : ((List.range xs.size).filterMap fun (m : Nat) => xs[(((xs.size : Int) - 1) + (m : Int) * (-1)).toNat]?).toArray = xs.toList.reverse.toArray := by
  have h := PySem.W.krv_range xs.size
  have e : (List.range xs.size).filterMap (fun (m : Nat) => xs[(((xs.size : Int) - 1) + (m : Int) * (-1)).toNat]?) = ((List.range xs.size).map fun k => xs.size - 1 - k).filterMap (xs[·]?) := by
    rw [List.filterMap_map]
    have go : ∀ l : List Nat, (∀ m ∈ l, m < xs.size) → l.filterMap (fun (m : Nat) => xs[(((xs.size : Int) - 1) + (m : Int) * (-1)).toNat]?) = l.filterMap ((xs[·]?) ∘ fun k => xs.size - 1 - k) := by
      intro l
      induction l with
      | nil => intro _; rfl
      | cons m l ih =>
        intro hl
        have hm := hl m List.mem_cons_self
        have e1 : (((xs.size : Int) - 1) + (m : Int) * (-1)).toNat = xs.size - 1 - m := by omega
        rw [List.filterMap_cons, List.filterMap_cons, ih fun k hk => hl k (List.mem_cons_of_mem _ hk), e1]
        rfl
    exact go _ fun m hm => List.mem_range.mp hm
  rw [e, h, List.filterMap_reverse, PySem.W.krv_all]
theorem getItem_rev {t sl : Addr} {items : Array Value} {vl vu vs : Value} {Q : Value → Shared → Prop} (ht : IsTup s.heap t items)
    (hs : s.heap.IsSliceOf sl vl vu vs) (pl : IsPart vl none) (pu : IsPart vu none) (ps : IsPart vs (some (-1)))
    (h : Q (.ref s.heap.objs.size) { s with heap := s.heap.push { cls := .type "tuple", data := .seq items.toList.reverse.toArray } })
    (hsz : items.size ≤ sizeLine) : wpAny (model prog w) A (getItem (.ref t) (.ref sl)) Q E s := by
  have hok : sizeOk (.seq items.toList.reverse.toArray) := by
    show items.toList.reverse.toArray.size ≤ sizeLine
    rw [List.size_toArray, List.length_reverse, Array.length_toList]
    exact hsz
  obtain ⟨os, hos, hcs, hds⟩ := id hs
  have hTs : s.TypeIs (.ref sl) "slice" := ⟨os, hos, hcs⟩
  unfold getItem
  try with_reducible refine wpAny_holding ?_
  first | refine wpAny_bind (wpAny_pure ?_) | skip
  refine wpAny_bind (wpAny_sequenceKey ht.typeIs (by decide) ?_)
  refine wpAny_bind (wpAny_callSpecial?_slot (name := Str.ofString "__getitem__") ht.typeIs PyProof.Rows.slot_tuple_getitem
    (wpAny_call_entry PyProof.Rows.slot_tuple_getitem ht.typeIs PyProof.Rows.entry_tuple_getitem ?_ (PyProof.Rows.args_tuple_getitem _ _)))
  show wpAny _ _ (Builtin.Tuple.tupleItemsOf (.ref t) >>= _) _ _ s
  refine wpAny_bind (PyProof.Rows.tupleItemsOf_ ht ?_)
  refine wpAny_bind (wpAny_typeOf hTs ?_)
  rw [if_pos (by decide)]
  refine wpAny_bind (rev_applied hs pl pu ps ?_)
  have hno : ¬ ((((items.size : Int) - 1) == 0 && (-1 : Int) == 1 && items.size == items.size) = true) := by
    intro q
    rw [Bool.and_eq_true, Bool.and_eq_true] at q
    exact absurd q.1.2 (by decide)
  show wpAny _ _ (if (((items.size : Int) - 1) == 0 && (-1 : Int) == 1 && items.size == items.size) = true then _ else _) _ _ s
  rw [if_neg hno, rev_pick]
  first
    | exact wpAny_bind (m := Builtin.Tuple.tupleExact _) (wpAny_newObj_type (wpAny_pure ⟨_, rfl, wpAny_pure h⟩) hok)
    | exact wpAny_bind (m := Builtin.Tuple.tupleExact _) (wpAny_newObj_type (wpAny_bind (wpAny_pure (wpAny_pure ⟨_, rfl, wpAny_pure h⟩))) hok)
    | exact wpAny_bind (wpAny_bind (m := Builtin.Tuple.tupleExact _) (wpAny_newObj_type (wpAny_pure (wpAny_pure ⟨_, rfl, wpAny_pure h⟩)) hok))
    | exact wpAny_bind (wpAny_bind (m := Builtin.Tuple.tupleExact _) (wpAny_newObj_type (wpAny_pure ⟨_, rfl, wpAny_pure h⟩) hok))
end
section
variable {X : Cx}
/-- t[::-1] -/
def tRevT (K : PySem.W.Frag) (te : TE) : TE := fun σ H Q => te σ H fun x H1 => ∃ a xs, x = .ref a ∧ SqT K H1 a xs ∧ ∀ p, H1 p = none → Q (.ref p) (upd H1 p (.tup xs.reverse))
theorem pe_revT {e : Expr} {te : TE} {k : Nat} {p1 p2 p3 pos : Pos} (he : PE X e te) :
    PE X (.Subscript e (.Slice none none (some (.UnaryOp .USub (.Constant (.int 1) k p1) p2)) p3) pos) (tRevT X.K te) := by
  constructor
  intro pins s σ H Q I h
  refine Subscript_ (thn (he.run pins s σ H _ I h) ?_)
  rintro v s1 ⟨x, H1, I1, r1, a, xs, rfl, hx, q⟩
  cases r1
  have hst : PO X (some (.UnaryOp .USub (.Constant (.int 1) k p1) p2)) (tPart (tUn (rU fun i => .int (-i)) (tC (.int 1)))) :=
    po_some (pe_un un_neg pe_int)
  refine wpAny_Slice (thn (po_none.run pins s1 σ H1 (fun o h2 => o = none ∧ h2 = H1) I1 ⟨rfl, rfl⟩) ?_)
  rintro vl s2 ⟨l, H2, I2, pl, rfl, rfl⟩
  refine thn (po_none.run pins s2 σ H2 (fun o h3 => o = none ∧ h3 = H2) I2 ⟨rfl, rfl⟩) ?_
  rintro vu s3 ⟨u, H3, I3, pu, rfl, rfl⟩
  refine thn (hst.run pins s3 σ H3 (fun o h4 => o = some (-1) ∧ h4 = H3) I3 ⟨1, rfl, -1, rfl, rfl, rfl⟩) ?_
  rintro vs s4 ⟨o, H4, I4, ps, rfl, rfl⟩
  have I5 : Inv X pins σ H4 { s4 with heap := s4.heap.push { cls := .type "slice", data := .fields #[vl, vu, vs] } } :=
    I4.kept (t' := s4.toks) fun b ob q => Heap.get?_push_of_some _ q
  obtain ⟨its, r, ht, hz⟩ := I5.tuple hx
  have hlen := r.length
  show wpAny (model X.prog X.w) X.A (subscriptTail e (.Slice none none (some (.UnaryOp .USub (.Constant (.int 1) k p1) p2)) p3) (.ref a)
    (.ref s4.heap.objs.size)) (EP X pins σ Q) X.xe { s4 with heap := s4.heap.push { cls := .type "slice", data := .fields #[vl, vu, vs] } }
  refine tail_any (ops := [.ref a, .ref s4.heap.objs.size]) ht.typeIs (PyProof.Rows.slot_tuple_getitem.lookup) ?_ (by with_unfolding_all rfl)
  refine getItem_rev ht (Heap.IsSliceOf.new _ vl vu vs) pl pu ps ?_ (by rw [List.size_toArray]; omega)
  refine ⟨.ref _, _, I5.laid (t' := s4.toks) (o := .tup xs.reverse) (fun b ob q => Heap.get?_push_of_some _ q) (Nat.le_refl _) ?_, rfl, q _ (I5.hok.fresh (Nat.le_refl _))⟩
  exact ⟨by rw [List.length_reverse]; exact hz, _, r.reverse, IsTup.new _ _⟩
end
end My
namespace My
open PySem PySem.Spec PyProof.Rows L2
section
variable {X : Cx}
/-- tuple(list): the object is known -/
def rTupG (K : PySem.W.Frag) : List V → Hp → VK → Prop := fun xs H Q => ∃ p ys, xs = [.ref p] ∧ SqL K H p ys ∧
  ∀ (l : Addr) (o : Obj), H l = Option.none → (o.cls = .type "tuple" ∧ o.dict = Option.none ∧ o.slots = #[]) → Q (.ref l) (upd H l (.frz o (.tup ys)))
theorem call_tupG : CallR X (.type "tuple") (rTupG X.K) := by
  intro pins s σ H xs us Q I r h
  obtain ⟨p, ys, rfl, hq, q⟩ := h
  obtain ⟨u, rfl, rx⟩ := vals1 r
  cases rx
  obtain ⟨its, r2, pl, hz⟩ := I.list hq
  have hlen := r2.length
  refine call_tuple_list pl.isList (fun h2 kp => ?_) (by simp only [List.size_toArray] <;> omega)
  have J : Inv X pins σ H { s with heap := h2 } := I.kept (t' := s.toks) kp
  have L : Inv X pins σ (upd H h2.objs.size (.frz { cls := .type "tuple", data := .seq its.toArray } (.tup ys)))
      { s with heap := h2.push { cls := .type "tuple", data := .seq its.toArray } } :=
    J.laid (t' := s.toks) (fun b o e => Heap.get?_push_of_some _ e) (Nat.le_refl _) ⟨Heap.get?_push_size _ rfl, hz, its, r2, IsTup.new _ _⟩
  exact ⟨.ref h2.objs.size, _, L, rfl, q _ _ (J.hok.fresh (Nat.le_refl _)) ⟨rfl, rfl, rfl⟩⟩
/-- such a tuple -/
def TupG (H : Hp) (p : Addr) (xs : List V) : Prop := ∃ o : Obj, H p = some (.frz o (.tup xs)) ∧ o.cls = .type "tuple" ∧ o.dict = Option.none ∧ o.slots = #[]
/-- l.extend(tuple) -/
def rExtG : V → List V → Hp → VK → Prop := fun x vs H Q => ∃ l b xs zs, x = .ref l ∧ vs = [.ref b] ∧ H l = some (.lst xs) ∧ TupG H b zs ∧ xs.length + zs.length ≤ sizeLine ∧ Q .non (upd H l (.lst (xs ++ zs)))
theorem mt_extG : MtM X "list.extend" rExtG := by
  intro pins s σ H x vs v us Q I rx rv h
  obtain ⟨l, b, xs, zs, rfl, rfl, hH, ⟨ob, hB, hc, hd, hsl⟩, hz, q⟩ := h
  cases rx
  obtain ⟨u, rfl, ru⟩ := rv.one
  cases ru
  obtain ⟨z, its, n, r, hl, e⟩ := I.lstM hH
  obtain ⟨e2, z2, its2, r2, o2, e2', c2, n2, d2⟩ := I.hok b _ hB
  have eo : o2 = ob := Option.some.inj (e2'.symm.trans e2)
  subst eo
  obtain ⟨oc, od, odt, osl⟩ := o2
  simp only at hc hd hsl c2 d2
  subst hc hd hsl d2
  have hl2 := r2.length
  have hsz : its.toArray.size + its2.toArray.size ≤ sizeLine := by rw [List.size_toArray, List.size_toArray]; omega
  have hlong : ¬ (!its.toArray.isEmpty && Builtin.List.listTooLong (its.toArray.size + its2.toArray.size)) = true := by
    rw [notLongL hsz, Bool.and_false]
    exact Bool.false_ne_true
  refine call_meets F.slot_list_extend ⟨_, e, rfl⟩ F.entry_list_extend (F.args_list_extend_2 _ _)
    (AutoSeq1.list_extend_list_tuple_0 l its.toArray n b its2.toArray n2 hlong (by rw [List.size_toArray]; omega) (by omega)) ⟨e, e2, ?_⟩
  refine ⟨.non, _, I.lset (its' := its ++ its2) hH e (by simp) (r.append r2) ?_, rfl, q⟩
  rw [List.length_append]
  omega
end
theorem Same.putNew {H H' : Hp} {l : Addr} {o : HO} (k : Same H H') (h : H l = Option.none) : Same H (upd H' l o) := fun b u e => by
  rw [upd_ne (ne_of_none e h)]
  exact k b u e

/-! ### patterns -/
inductive Pat
  | emp
  | cls (b : Bool) (hs ls : Str)
  | un (k : Str) (p : Pat)
  | bi (k : Str) (p q : Pat)
namespace Pat
def d : Pat → PyData
  | emp => .tuple [.str "empty"]
  | cls b hs ls => clsD b hs ls
  | un k p => .tuple [.str k, p.d]
  | bi k p q => .tuple [.str k, p.d, q.d]
def n : Pat → Nat
  | emp => 1
  | cls _ _ _ => 1
  | un _ p => p.n + 1
  | bi _ p q => p.n + q.n + 1
def ops : Pat → List Pat
  | emp => []
  | cls _ _ _ => []
  | un _ p => [p]
  | bi _ p q => [p, q]
def parts : Pat → List Pat
  | emp => [emp]
  | cls b hs ls => [cls b hs ls]
  | un k p => p.parts ++ [un k p]
  | bi k p q => p.parts ++ q.parts ++ [bi k p q]
def mir : Pat → Pat
  | emp => emp
  | cls b hs ls => cls b hs ls
  | un k p => un k p.mir
  | bi k p q => if k = "then" then bi k q.mir p.mir else bi k p.mir q.mir
def Ok : Pat → Prop
  | emp => True
  | cls _ hs ls => Cl hs ls
  | un k p => (k = "star" ∨ k = "not") ∧ p.Ok
  | bi k p q => (k = "then" ∨ k = "or" ∨ k = "and") ∧ p.Ok ∧ q.Ok
theorem n_pos : ∀ p : Pat, 1 ≤ p.n
  | emp => Nat.le_refl _
  | cls _ _ _ => Nat.le_refl _
  | un _ _ => Nat.succ_le_succ (Nat.zero_le _)
  | bi _ _ _ => Nat.succ_le_succ (Nat.zero_le _)
theorem ops_ok : ∀ {p : Pat}, p.Ok → ∀ o ∈ p.ops, o.Ok
  | emp, _, o, h => nomatch h
  | cls _ _ _, _, o, h => nomatch h
  | un k p, h, o, ho => by
    obtain rfl : o = p := by simpa [ops] using ho
    exact h.2
  | bi k p q, h, o, ho => by
    have ho : o = p ∨ o = q := by simpa [ops] using ho
    rcases ho with rfl | rfl
    · exact h.2.1
    · exact h.2.2
theorem n_ops : ∀ p : Pat, p.n = (p.ops.map n).sum + 1
  | emp => rfl
  | cls _ _ _ => rfl
  | un _ p => by simp [n, ops]
  | bi _ p q => by simp [n, ops]
theorem ops_lt {p o : Pat} (h : o ∈ p.ops) : o.n < p.n := by
  cases p with
  | emp => cases h
  | cls => cases h
  | un k p =>
    obtain rfl : o = p := by simpa [ops] using h
    simp [n]
  | bi k p q =>
    have ho : o = p ∨ o = q := by simpa [ops] using h
    rcases ho with rfl | rfl <;> simp only [n] <;> omega
theorem parts_ops : ∀ p : Pat, p.parts = (p.ops.map parts).flatten ++ [p]
  | emp => rfl
  | cls _ _ _ => rfl
  | un _ p => by simp [parts, ops]
  | bi _ p q => by simp [parts, ops]
theorem parts_len : ∀ p : Pat, p.parts.length = p.n
  | emp => rfl
  | cls _ _ _ => rfl
  | un _ p => by rw [parts, List.length_append, parts_len p]; rfl
  | bi _ p q => by rw [parts, List.length_append, List.length_append, parts_len p, parts_len q]; rfl
theorem parts_n : ∀ {p o : Pat}, o ∈ p.parts → o.n ≤ p.n
  | emp, o, h => by obtain rfl : o = emp := by simpa [parts] using h
                    exact Nat.le_refl _
  | cls b x y, o, h => by obtain rfl : o = cls b x y := by simpa [parts] using h
                          exact Nat.le_refl _
  | un k p, o, h => by
    have h : o ∈ p.parts ∨ o = un k p := by simpa [parts] using h
    rcases h with h | rfl
    · have := parts_n h
      simp only [n]; omega
    · exact Nat.le_refl _
  | bi k p q, o, h => by
    have h : o ∈ p.parts ∨ o ∈ q.parts ∨ o = bi k p q := by simpa [parts] using h
    rcases h with h | h | rfl
    · have := parts_n h
      simp only [n]; omega
    · have := parts_n h
      simp only [n]; omega
    · exact Nat.le_refl _
theorem parts_ok : ∀ {p o : Pat}, p.Ok → o ∈ p.parts → o.Ok
  | emp, o, g, h => by obtain rfl : o = emp := by simpa [parts] using h
                       exact g
  | cls b x y, o, g, h => by obtain rfl : o = cls b x y := by simpa [parts] using h
                             exact g
  | un k p, o, g, h => by
    have h : o ∈ p.parts ∨ o = un k p := by simpa [parts] using h
    rcases h with h | rfl
    · exact parts_ok g.2 h
    · exact g
  | bi k p q, o, g, h => by
    have h : o ∈ p.parts ∨ o ∈ q.parts ∨ o = bi k p q := by simpa [parts] using h
    rcases h with h | h | rfl
    · exact parts_ok g.2.1 h
    · exact parts_ok g.2.2 h
    · exact g
theorem mir_n : ∀ p : Pat, p.mir.n = p.n
  | emp => rfl
  | cls _ _ _ => rfl
  | un _ p => by rw [mir, n, mir_n p]; rfl
  | bi k p q => by
    rw [mir]
    split
    · rw [n, mir_n p, mir_n q, n]; omega
    · rw [n, mir_n p, mir_n q, n]
theorem mir_ok : ∀ {p : Pat}, p.Ok → p.mir.Ok
  | emp, h => h
  | cls _ _ _, h => h
  | un _ p, h => ⟨h.1, mir_ok h.2⟩
  | bi k p q, h => by
    rw [mir]
    split
    · exact ⟨h.1, mir_ok h.2.2, mir_ok h.2.1⟩
    · exact ⟨h.1, mir_ok h.2.1, mir_ok h.2.2⟩
theorem mir_mir : ∀ p : Pat, p.mir.mir = p
  | emp => rfl
  | cls _ _ _ => rfl
  | un _ p => by rw [mir, mir, mir_mir p]
  | bi k p q => by
    by_cases h : k = "then"
    · rw [mir, if_pos h, mir, if_pos h, mir_mir p, mir_mir q]
    · rw [mir, if_neg h, mir, if_neg h, mir_mir p, mir_mir q]
end Pat
theorem Sh.two {x y : PyData} {a b a' b' c : Nat} (h : Sh x a b) (g : Sh y a' b') (h1 : a ≤ c) (h2 : a' ≤ c) : Sh (.tuple [x, y]) (c + 1) (b + b' + 2) := by
  refine ⟨by simp [PyData.showable, PyData.showableAll, h.s, g.s], by simp [PyData.hasDict, PyData.hasDictAll, h.n, g.n], ?_, by simp [PyData.leavesShort, PyData.leavesShortAll, h.l, g.l], ?_⟩
  · have := h.p
    have := g.p
    simp only [PyData.depth, PyData.depthAll]
    omega
  · have := h.b
    have := g.b
    simp only [PyData.bulk, PyData.bulkAll]
    omega
theorem Sh.three {x y z : PyData} {a b a' b' a2 b2 c : Nat} (h : Sh x a b) (g : Sh y a' b') (k : Sh z a2 b2) (h1 : a ≤ c) (h2 : a' ≤ c) (h3 : a2 ≤ c) : Sh (.tuple [x, y, z]) (c + 1) (b + b' + b2 + 3) := by
  refine ⟨by simp [PyData.showable, PyData.showableAll, h.s, g.s, k.s], by simp [PyData.hasDict, PyData.hasDictAll, h.n, g.n, k.n], ?_, by simp [PyData.leavesShort, PyData.leavesShortAll, h.l, g.l, k.l], ?_⟩
  · have := h.p
    have := g.p
    have := k.p
    simp only [PyData.depth, PyData.depthAll]
    omega
  · have := h.b
    have := g.b
    have := k.b
    simp only [PyData.bulk, PyData.bulkAll]
    omega
theorem sh_cls {b : Bool} {hs ls : Str} (h : Cl hs ls) : Sh (clsD b hs ls) 1 112 := by
  have h1 := h.h1
  have h2 := h.h2
  have := Sh.tup (dp := 0) (bk := 27) (ds := [.str "class", .bool b, .str hs, .str ls]) (fun d hd => by
    simp only [List.mem_cons, List.not_mem_nil, or_false] at hd
    rcases hd with rfl | rfl | rfl | rfl
    · exact (Sh.str (x := "class") (by intro c hc; revert c; decide)).mono (by decide) (by decide)
    · exact (Sh.bool b).mono (by decide) (by decide)
    · exact (Sh.str h.h3).mono (by decide) (by omega)
    · exact (Sh.str h.h4).mono (by decide) (by omega))
  exact this
theorem sg_dec {x : Str} (h : x.cps.toList.all (fun c => c < 128) = true) : Sg x := fun c hc => by simpa using List.all_eq_true.mp h c hc
theorem sh_pat : ∀ {p : Pat}, p.Ok → Sh p.d p.n (120 * p.n)
  | .emp, _ => by
    have := Sh.tup (dp := 0) (bk := 5) (ds := [.str "empty"]) (fun d hd => by
      obtain rfl : d = .str "empty" := by simpa using hd
      exact (Sh.str (x := "empty") (sg_dec (by decide))).mono (by decide) (by decide))
    exact this.mono (by decide) (by decide)
  | .cls b hs ls, h => (sh_cls h).mono (Nat.le_refl 1) (by show 112 ≤ 120 * 1; decide)
  | .un k p, h => by
    have hk : Sh (.str k) 0 5 := by
      rcases h.1 with rfl | rfl
      · exact (Sh.str (sg_dec (by decide))).mono (by decide) (by decide)
      · exact (Sh.str (sg_dec (by decide))).mono (by decide) (by decide)
    refine (Sh.two hk (sh_pat h.2) (Nat.zero_le _) (Nat.le_refl p.n)).mono (Nat.le_refl _) ?_
    simp only [Pat.n]
    omega
  | .bi k p q, h => by
    have hk : Sh (.str k) 0 5 := by
      rcases h.1 with rfl | rfl | rfl
      · exact (Sh.str (sg_dec (by decide))).mono (by decide) (by decide)
      · exact (Sh.str (sg_dec (by decide))).mono (by decide) (by decide)
      · exact (Sh.str (sg_dec (by decide))).mono (by decide) (by decide)
    refine (Sh.three (c := p.n + q.n) hk (sh_pat h.2.1) (sh_pat h.2.2) (Nat.zero_le _) (by omega) (by omega)).mono (Nat.le_refl _) ?_
    simp only [Pat.n]
    omega
theorem sh_parts {p : Pat} (h : p.Ok) (h16 : p.n ≤ 16) : Sh (.tuple (p.parts.map Pat.d)) 17 (16 * 1921) := by
  have := Sh.tup (dp := 16) (bk := 1920) (ds := p.parts.map Pat.d) (fun d hd => by
    obtain ⟨o, ho, rfl⟩ := List.mem_map.mp hd
    have h1 := Pat.parts_n ho
    exact (sh_pat (Pat.parts_ok h ho)).mono (by omega) (by omega))
  refine this.mono (Nat.le_refl _) ?_
  rw [List.length_map, Pat.parts_len]
  exact Nat.mul_le_mul_right _ h16
/-- how a pattern's tuple stands -/
theorem Im.emp {H : Hp} {v : V} (h : Im H v Pat.emp.d) : ∃ a, v = .ref a ∧ H a = some (.tup [.str "empty"]) := by
  obtain ⟨a, us, rfl, ha, hi⟩ := Im.inv h
  cases hi with
  | cons a1 a2 => cases a1; cases a2; exact ⟨a, rfl, ha⟩
theorem Im.un {H : Hp} {v : V} {k : Str} {p : Pat} (h : Im H v (Pat.un k p).d) : ∃ a u, v = .ref a ∧ H a = some (.tup [.str k, u]) ∧ Im H u p.d := by
  obtain ⟨a, us, rfl, ha, hi⟩ := Im.inv h
  cases hi with
  | cons a1 a2 => cases a1; cases a2 with
    | cons b1 b2 => cases b2; exact ⟨a, _, rfl, ha, b1⟩
theorem Im.bi {H : Hp} {v : V} {k : Str} {p q : Pat} (h : Im H v (Pat.bi k p q).d) : ∃ a u w, v = .ref a ∧ H a = some (.tup [.str k, u, w]) ∧ Im H u p.d ∧ Im H w q.d := by
  obtain ⟨a, us, rfl, ha, hi⟩ := Im.inv h
  cases hi with
  | cons a1 a2 => cases a1; cases a2 with
    | cons b1 b2 => cases b2 with
      | cons c1 c2 => cases c2; exact ⟨a, _, _, rfl, ha, b1, c1⟩
theorem Im.mkemp {H : Hp} {a : Addr} (h : H a = some (.tup [.str "empty"])) : Im H (.ref a) Pat.emp.d := .tup h (.cons (.str _) .nil)
theorem Im.mkun {H : Hp} {a : Addr} {k : Str} {u : V} {p : Pat} (h : H a = some (.tup [.str k, u])) (hp : Im H u p.d) : Im H (.ref a) (Pat.un k p).d := .tup h (.cons (.str _) (.cons hp .nil))
theorem Im.mkbi {H : Hp} {a : Addr} {k : Str} {u w : V} {p q : Pat} (h : H a = some (.tup [.str k, u, w])) (hp : Im H u p.d) (hq : Im H w q.d) : Im H (.ref a) (Pat.bi k p q).d := .tup h (.cons (.str _) (.cons hp (.cons hq .nil)))
theorem Im.ref {H : Hp} {v : V} {p : Pat} (h : Im H v p.d) : ∃ a us, v = .ref a ∧ H a = some (.tup us) ∧ us.length ≤ 4 := by
  cases p with
  | emp => obtain ⟨a, e, h⟩ := h.emp; exact ⟨a, _, e, h, by decide⟩
  | cls b hs ls => obtain ⟨a, e, h⟩ := Im.cls h; exact ⟨a, _, e, h, by show 4 ≤ 4; decide⟩
  | un k p => obtain ⟨a, u, e, h, _⟩ := h.un; exact ⟨a, _, e, h, by show 2 ≤ 4; decide⟩
  | bi k p q => obtain ⟨a, u, w, e, h, _⟩ := h.bi; exact ⟨a, _, e, h, by show 3 ≤ 4; decide⟩
theorem Same.im {H H' : Hp} (k : Same H H') {v : V} {d : PyData} (h : Im H v d) : Im H' v d := h.kt (Same.kt k)
theorem iteFe {c : Bool} {A B : Prop} (hc : c = false) (h : B) : if c = true then A else B := by
  rw [hc]
  exact h
theorem iteTe {c : Bool} {A B : Prop} (hc : c = true) (h : A) : if c = true then A else B := by
  rw [hc]
  exact h
theorem ImAll.op {H : Hp} {us : List V} {ps : List Pat} {i : Nat} {x : V} (h : ImAll H us (ps.map Pat.d)) (e : us[i]? = some x) : ∃ o, ps[i]? = some o ∧ Im H x o.d := by
  obtain ⟨d, hd, hi⟩ := ImAll.get h e
  rw [List.getElem?_map] at hd
  cases g : ps[i]? with
  | none => rw [g] at hd; cases hd
  | some o =>
    rw [g] at hd
    obtain rfl := Option.some.inj hd
    exact ⟨o, rfl, hi⟩
theorem ImAll.lenP {H : Hp} {us : List V} {ps : List Pat} (h : ImAll H us (ps.map Pat.d)) : us.length = ps.length := by
  rw [ImAll.length h, List.length_map]
theorem Same.imAll {H H' : Hp} (k : Same H H') {vs : List V} {ds : List PyData} (h : ImAll H vs ds) : ImAll H' vs ds := ImAll.kt (Same.kt k) h
theorem Pat.ops_len : ∀ p : Pat, p.ops.length ≤ 2
  | .emp => by decide
  | .cls _ _ _ => by show 0 ≤ 2; decide
  | .un _ _ => by show 1 ≤ 2; decide
  | .bi _ _ _ => by show 2 ≤ 2; decide
theorem TupG.sq {K : PySem.W.Frag} {H : Hp} {p : Addr} {xs : List V} (h : TupG H p xs) : SqT K H p xs := by
  obtain ⟨o, e, _⟩ := h
  exact .inl (.inr ⟨o, e⟩)
theorem TupG.same {H H' : Hp} {p : Addr} {xs : List V} (h : TupG H p xs) (k : Same H H') : TupG H' p xs := by
  obtain ⟨o, e, r⟩ := h
  exact ⟨o, k _ _ e, r⟩
theorem Pat.parts_take (p : Pat) (i : Nat) : ((p.ops.take i).map Pat.parts).flatten.length ≤ p.n := by
  have h := congrArg List.length (Pat.parts_ops p)
  rw [Pat.parts_len] at h
  conv at h => rhs; rw [← List.take_append_drop i p.ops]
  simp only [List.map_append, List.flatten_append, List.length_append] at h
  omega
theorem Pat.mir_leaf {p : Pat} (h : p.ops = []) : p.mir = p := by
  cases p with
  | emp => rfl
  | cls => rfl
  | un => cases h
  | bi => cases h
theorem Pat.inner {p : Pat} (h : p.ops ≠ []) : (∃ k o, p = .un k o) ∨ ∃ k o r, p = .bi k o r := by
  cases p with
  | emp => exact absurd rfl h
  | cls => exact absurd rfl h
  | un k o => exact .inl ⟨k, o, rfl⟩
  | bi k o r => exact .inr ⟨k, o, r, rfl⟩
theorem Pat.n_sum (p : Pat) : (1 : Int) + (p.ops.map fun o => (o.n : Int)).sum = (p.n : Nat) := by
  cases p <;> simp [Pat.ops, Pat.n] <;> omega
theorem KT.lput {H : Hp} {p : Addr} {xs ys : List V} (h : H p = some (.lst xs)) : KT H (upd H p (.lst ys)) := KT.put h
theorem Im.top {H : Hp} {v : V} {p : Pat} (h : Im H v p.d) : ∃ a k us, v = .ref a ∧ H a = some (.tup (.str k :: us)) ∧ us.length ≤ 3 ∧
    ((p.ops ≠ [] ∧ ImAll H us (p.ops.map Pat.d)) ∨ (p.ops = [] ∧ ∀ u ∈ us, (∃ b, u = .bl b) ∨ ∃ x, u = .str x)) := by
  cases p with
  | emp =>
    obtain ⟨a, e, h⟩ := h.emp
    exact ⟨a, _, [], e, h, by decide, .inr ⟨rfl, fun _ h => nomatch h⟩⟩
  | cls b hs ls =>
    obtain ⟨a, e, h⟩ := Im.cls h
    refine ⟨a, _, _, e, h, by show 3 ≤ 3; decide, .inr ⟨rfl, fun u hu => ?_⟩⟩
    simp only [List.mem_cons, List.not_mem_nil, or_false] at hu
    rcases hu with rfl | rfl | rfl
    · exact .inl ⟨_, rfl⟩
    · exact .inr ⟨_, rfl⟩
    · exact .inr ⟨_, rfl⟩
  | un k p =>
    obtain ⟨a, u, e, h, g⟩ := h.un
    exact ⟨a, _, _, e, h, by show 1 ≤ 3; decide, .inl ⟨(fun z => nomatch z), .cons g .nil⟩⟩
  | bi k p q =>
    obtain ⟨a, u, w, e, h, g1, g2⟩ := h.bi
    exact ⟨a, _, _, e, h, by show 2 ≤ 3; decide, .inl ⟨(fun z => nomatch z), .cons g1 (.cons g2 .nil)⟩⟩
theorem cut1 (x : V) (us : List V) : cutV (x :: us) (some (1 : Int)) Option.none = us := by
  have := cutV_from (x :: us) 1 (by simp)
  exact this
theorem cut1_no (x : V) (us : List V) : ¬ (HT.sIx (x :: us).length 0 (some (1 : Int)) = 0 ∧ HT.sIx (x :: us).length (x :: us).length Option.none = (x :: us).length) := fun hh => by
  have := sIx_from (x :: us).length 1 (by simp)
  have h2 := hh.1
  have h3 : HT.sIx (x :: us).length 0 (some ((1 : Nat) : Int)) = 0 := h2
  omega
theorem isi_tt : kitB "tuple" "tuple" = some true := by decide +kernel
theorem isi_bt : kitB "bool" "tuple" = some false := by decide +kernel
theorem isi_st : kitB "str" "tuple" = some false := by decide +kernel
end My
namespace My
open PySem PySem.Spec PyProof.Rows L2
def topS (i : Nat) : Stmt := PySem.Challenge.pw_excerptcheck_k04_nodes_parts_and_mirrors.main.body.getD i (.Pass ⟨0, 0, 0, 0⟩)
structure Bn (mg : Str → Option Value) : Prop where
  len_ : mg "len" = none
  max_ : mg "max" = none
  abs_ : mg "abs" = none
  int_ : mg "int" = none
  list_ : mg "list" = none
  tuple_ : mg "tuple" = none
  range_ : mg "range" = none
  repr_ : mg "repr" = none
  isinstance_ : mg "isinstance" = none
  sum_ : mg "sum" = none
local macro_rules | `(tactic| walk_at "h") => `(tactic| first | assumption | exact upd_same)
local macro_rules | `(tactic| walk_at "c1") => `(tactic| first | exact .inr ⟨by decide, by decide⟩ | exact .inl ⟨by decide, by decide⟩ | exact rfl | exact ⟨by decide, by decide, by decide⟩ | (show (0 : Int) < _; first | decide | omega | (split <;> omega)) | (show (0 : Int) < _ ∧ _ < (1073741824 : Int); constructor <;> (split <;> omega)) | exact le_size0 rfl | exact le_size (by omega))
local macro_rules | `(tactic| walk_at "r") => `(tactic| repeat (first | refine ⟨_, rfl, ?_⟩ | refine ⟨⟨_, rfl⟩, ?_⟩ | refine ⟨_, _, rfl, rfl, ?_⟩ | refine .inl ⟨_, rfl, ?_⟩ | refine ⟨by walk_at "c1", ?_⟩ | refine ⟨_, _, _, _, rfl, rfl, .inl (.inl (by walk_at "h")), atI_nat (j := 0) rfl, ?_⟩ | refine ⟨_, _, _, _, rfl, rfl, .inl (.inl (by walk_at "h")), atI_nat (j := 1) rfl, ?_⟩ | refine ⟨_, _, _, _, rfl, rfl, .inl (.inl (by walk_at "h")), atI_nat (j := 2) rfl, ?_⟩ | refine ⟨_, _, _, _, rfl, rfl, .inl (.inl (by walk_at "h")), atI_nat (j := 3) rfl, ?_⟩ | refine ⟨_, _, _, _, rfl, rfl, by walk_at "h", rfl, ?_⟩ | refine ⟨_, _, rfl, .inl (.inl (.inl (by walk_at "h"))), ?_⟩ | refine ⟨_, _, (rfl : [V.int _, V.int _] = [V.int _, V.int _]), ?_⟩))
section
variable {P : Program} {w : World} {K : PySem.W.Frag} {mg : Str → Option Value} {base : Heap}
abbrev s_lawtape : Stmt := topS 6
abbrev N_lawtape : List Str := ["script", "total", "cell"]
theorem sc_lawtape : FnScope N_lawtape ["script"] (defScope s_lawtape) := ⟨rfl, rfl, rfl, by decide +kernel, rfl, by decide +kernel, by decide +kernel⟩
set_option maxHeartbeats 1000000 in
theorem ok_lawtape (D : Df K mg "_law_tape" s_lawtape ["script"]) (B : Bn mg)   : Cal P w K mg base 1 "_law_tape" ["script"] (spTape K) := by
  refine D.cal sc_lawtape ?_ ?_
  · intro vs H Q E h; obtain ⟨a, ns, rfl, _⟩ := h; rfl
  intro f cdv A o s H vs Q E hr h
  obtain ⟨a, ns, rfl, hS, hl, q⟩ := h
  have nd := sc_lawtape.nd
  refine ⟨_, (pss_cons (ps_set (i := 1) nd rfl (Or.inl rfl) pe_int)
    (pss_cons (ps_for PassesOwn.never rfl (show PI _ _ _ (iList K _) from pi_list (pv 0)) (pg_name (i := 2) nd rfl (Or.inl rfl))
      (pss_one (ps_set (i := 1) nd rfl (Or.inl rfl) (pe_op op_mod (pe_callTy (T := "int") call_int1 rfl B.int_ (by decide +kernel) (pa_cons (pe_op op_add (pe_op op_mul (pv 1) pe_int) (pe_callB (id := "abs") call_abs rfl B.abs_ (by decide +kernel) (pa_cons (pe_callTy (T := "int") call_int1 rfl B.int_ (by decide +kernel) (pa_cons (pv 2) pa_nil)) pa_nil))) pa_nil)) pe_int))))
    (pss_one (ps_ret (pe_lst (pa_cons (pe_callTy (T := "list") (r := rLisOf K) call_lisK rfl B.list_ (by decide +kernel) (pa_cons (pv 0) pa_nil)) (pa_cons pe_int (pa_cons pe_int (pa_cons (pv 1) pa_nil))))))))), ?_⟩
  refine ⟨_, rfl, a, rfl, ⟨_, hS⟩, for_it (walk_list (xs := ns.map V.int)) (fun i σ H' => ∃ v y, σ = [some (.ref a), some (.int v), y] ∧ 0 ≤ v ∧ H' = H) ⟨7, none, rfl, by omega, rfl⟩ ?_ ?_ ?_⟩
  · rintro i σ H' hi ⟨v, y, rfl, hv, rfl⟩
    exact hS
  · rintro i x σ H1 H2 hi ⟨v, y, rfl, hv, rfl⟩ ⟨rfl, hx⟩
    obtain ⟨c, rfl⟩ : ∃ c : Int, x = .int c := by
      rw [List.getElem?_map] at hx
      cases e : ns[i]? with
      | none => rw [e] at hx; cases hx
      | some c => rw [e] at hx; exact ⟨c, (Option.some.inj hx).symm⟩
    walk_at "r"
    exact ⟨_, _, rfl, Int.emod_nonneg _ (by decide), rfl⟩
  · rintro σ H2 ⟨v, y, rfl, hv, rfl⟩
    walk_at "r"
    refine ⟨_, _, rfl, .inl hS, fun c hc => ?_⟩
    walk_at "r"
    intro t ht
    have hct : c ≠ t := fun e => by
      rw [e, upd_same] at ht; cases ht
    have hn : H2 t = none := by rw [upd_ne hct.symm] at ht; exact ht
    refine q (t, c) _ (fun b u e => ?_) hn ⟨ns, 0, 0, v, upd_same, hct, ?_, by omega, by omega, hv⟩
    · rw [upd_ne (ne_of_none e hn), upd_ne (ne_of_none e hc)]
      exact e
    · show upd (upd H2 c _) t _ c = _
      rw [upd_ne hct, upd_same]
abbrev s_lawdraw : Stmt := topS 7
abbrev N_lawdraw : List Str := ["tape", "many", "place", "number"]
theorem sc_lawdraw : FnScope N_lawdraw ["tape", "many"] (defScope s_lawdraw) := ⟨rfl, rfl, rfl, by decide +kernel, rfl, by decide +kernel, by decide +kernel⟩
set_option maxHeartbeats 1000000 in
theorem ok_lawdraw (D : Df K mg "_law_draw" s_lawdraw ["tape", "many"]) (B : Bn mg)   : Cal P w K mg base 1 "_law_draw" ["tape", "many"] (spDraw K) := by
  refine D.cal sc_lawdraw ?_ ?_
  · intro vs H Q E h; obtain ⟨t, m, rfl, _⟩ := h; rfl
  intro f cdv A o s H vs Q E hr h
  obtain ⟨t, m, rfl, T, hm, q⟩ := h
  have nd := sc_lawdraw.nd
  refine ⟨_, (pss_cons (ps_if (pt_cmpR op_eq (pe_ix (r := rIxL K) ix_list (pv 0) pe_int (fun _ _ => rfl)) pe_int (nomark _))
      (pss_cons (ps_set (i := 2) nd rfl (Or.inl rfl) (pe_ix (r := rIxL K) ix_list (pv 0) pe_int (fun _ _ => rfl)))
      (pss_cons (ps_set (i := 3) nd rfl (Or.inl rfl) pe_int)
      (pss_cons (ps_if (pt_cmpR op_lt (pv 2) (pe_callB (id := "len") (r := rLenS K) call_lenK rfl B.len_ PySem.boot_len (pa_cons (pe_ix (r := rIxL K) ix_list (pv 0) pe_int (fun _ _ => rfl)) pa_nil)) (nomark _))
        (pss_one (ps_set (i := 3) nd rfl (Or.inl rfl) (pe_callB (id := "abs") call_abs rfl B.abs_ (by decide +kernel) (pa_cons (pe_callTy (T := "int") call_int1 rfl B.int_ (by decide +kernel) (pa_cons (pe_ix (r := rIxL K) ix_list (pe_ix (r := rIxL K) ix_list (pv 0) pe_int (fun _ _ => rfl)) (pv 2) (fun _ _ => rfl)) pa_nil)) pa_nil))))
        (pss_cons (ps_asg (pe_op op_mod (pe_callTy (T := "int") call_int1 rfl B.int_ (by decide +kernel) (pa_cons (pe_op op_add (pe_op op_add (pe_op op_mul (pe_ix (r := rIxL K) ix_list (pv 0) pe_int (fun _ _ => rfl)) pe_int) (pv 2)) pe_int) pa_nil)) pe_int) (pg_sub (pv 0) pe_int set_list))
        (pss_one (ps_set (i := 3) nd rfl (Or.inl rfl) (pe_ix (r := rIxL K) ix_list (pv 0) pe_int (fun _ _ => rfl))))))
      (pss_cons (ps_asg (pe_op op_add (pv 2) pe_int) (pg_sub (pv 0) pe_int set_list))
      (pss_cons (ps_if (pt_cmpR op_lt (pv 3) (pe_op op_pow pe_int pe_int) (nomark _))
        (pss_cons (ps_set (i := 3) nd rfl (Or.inl rfl) (pe_op op_mod (pe_callTy (T := "int") call_int1 rfl B.int_ (by decide +kernel) (pa_cons (pe_op op_add (pe_op op_add (pe_op op_mul (pv 3) pe_int) (pe_op op_mul (pv 2) pe_int)) pe_int) pa_nil)) pe_int))
        (pss_cons (ps_set (i := 3) nd rfl (Or.inl rfl) (pe_op op_mod (pe_callTy (T := "int") call_int1 rfl B.int_ (by decide +kernel) (pa_cons (pe_op op_mul (pv 3) pe_int) pa_nil)) pe_int))
        (pss_one (ps_ret (pe_op op_mod (pe_callTy (T := "int") call_int1 rfl B.int_ (by decide +kernel) (pa_cons (pv 3) pa_nil)) (pe_callB (id := "max") (call_max2 rfl) rfl B.max_ (by decide +kernel) (pa_cons (pv 1) (pa_cons pe_int pa_nil))))))))
        pss_nil)
      (pss_one (ps_asg (pv 3) (pg_sub (pv 0) pe_int set_list))))))))
      pss_nil)
    (pss_cons (ps_set (i := 3) nd rfl (Or.inl rfl) (pe_ix (r := rIxL K) ix_list (pv 0) pe_int (fun _ _ => rfl)))
    (pss_cons (ps_asg (pe_op op_fdiv (pv 3) (pe_callB (id := "max") (call_max2 rfl) rfl B.max_ (by decide +kernel) (pa_cons (pv 1) (pa_cons pe_int pa_nil)))) (pg_sub (pv 0) pe_int set_list))
    (pss_one (ps_ret (pe_op op_mod (pe_callTy (T := "int") call_int1 rfl B.int_ (by decide +kernel) (pa_cons (pv 3) pa_nil)) (pe_callB (id := "max") (call_max2 rfl) rfl B.max_ (by decide +kernel) (pa_cons (pv 1) (pa_cons pe_int pa_nil))))))))), ?_⟩
  obtain ⟨t, c⟩ := t
  obtain ⟨ns, p, n, sd, ht, hct, hc, hp, hn, hs⟩ := T.ex
  have ht : H t = some (HO.lst [V.ref c, V.int p, V.int n, V.int sd]) := ht
  have hct : c ≠ t := hct
  have hc : H c = some (HO.lst (ns.map V.int)) := hc
  have q : ∀ v H', 0 ≤ v → v < max m 1 → Kp (t, c) H H' → (∀ b, H b = none → H' b = none) → Tape K H' (t, c) → Q (.int v) H' := q
  have q2 : ∀ (v p' n' s' : Int), 0 ≤ v → v < max m 1 → 0 ≤ p' → 0 ≤ n' → 0 ≤ s' → Q (.int v) (upd H t (.lst [.ref c, .int p', .int n', .int s'])) := fun v p' n' s' h1 h2 h3 h4 h5 =>
    q v _ h1 h2 (Kp.self (t := (t, c))) (fun b hb => by rw [upd_ne (ne_of_none ht hb).symm]; exact hb) ⟨ns, p', n', s', upd_same, hct, by show upd H t _ c = _; rw [upd_ne hct]; exact hc, h3, h4, h5⟩
  have e1 : (if (1 : Int) > m then 1 else m) = max m 1 := by
    split <;> omega
  have m1 : 0 < max m 1 := by omega
  have fin : ∀ z : Int, 0 ≤ z % (if (1 : Int) > m then 1 else m) ∧ z % (if (1 : Int) > m then 1 else m) < max m 1 := fun z => by
    rw [e1]
    exact ⟨Int.emod_nonneg _ (by omega), Int.emod_lt_of_pos _ m1⟩
  have d0 : ∀ z : Int, 0 ≤ z → 0 ≤ z / (if (2 : Int) > m then 2 else m) := fun z hz =>
    Int.ediv_nonneg hz (by split <;> omega)
  walk_at "r"
  refine ite2 (fun e => ?_) (fun e => ?_)
  · walk_at "r"
    refine ite2 (fun e2 => ?_) (fun e2 => ?_)
    · have e3 := of_decide_eq_true e2
      rw [List.length_map] at e3
      have e4 : p.toNat < ns.length := by omega
      have e5 : atI (ns.map V.int) p = some (.int ns[p.toNat]) := by
        have z := atI_nat (xs := ns.map V.int) (j := p.toNat) (v := .int ns[p.toNat]) (by rw [List.getElem?_map, List.getElem?_eq_getElem e4]; rfl)
        rw [Int.toNat_of_nonneg hp] at z
        exact z
      refine ⟨_, rfl, ?_⟩
      walk_at "r"
      refine ⟨_, _, _, _, rfl, rfl, .inl (.inl hc), e5, ?_⟩
      walk_at "r"
      generalize hx : (if ns[p.toNat] < 0 then -ns[p.toNat] else ns[p.toNat]) = x
      have hx0 : 0 ≤ x := by
        rw [← hx]
        split <;> omega
      refine ite2 (fun e6 => ?_) (fun e6 => ?_)
      · walk_at "r"
        exact q2 _ (p + 1) n sd (fin _).1 (fin _).2 (by omega) hn hs
      · walk_at "r"
        rw [upd_upd, upd_upd]
        exact q2 _ (p + 1) _ sd (fin _).1 (fin _).2 (by omega) (d0 _ hx0) hs
    · walk_at "r"
      have s0 : 0 ≤ (sd * 48271 + p + 1) % 2147483647 := Int.emod_nonneg _ (by decide)
      refine ite2 (fun e6 => ?_) (fun e6 => ?_)
      · walk_at "r"
        rw [upd_upd]
        exact q2 _ (p + 1) n _ (fin _).1 (fin _).2 (by omega) hn s0
      · walk_at "r"
        rw [upd_upd, upd_upd, upd_upd]
        exact q2 _ (p + 1) _ _ (fin _).1 (fin _).2 (by omega) (d0 _ s0) s0
  · walk_at "r"
    exact q2 _ p _ sd (fin _).1 (fin _).2 hp (d0 _ hn) hs
abbrev s_lawrising : Stmt := topS 8
abbrev N_lawrising : List Str := ["tape", "signs", "many", "found", "at", "k"]
theorem sc_lawrising : FnScope N_lawrising ["tape", "signs", "many"] (defScope s_lawrising) := ⟨rfl, rfl, rfl, by decide +kernel, rfl, by decide +kernel, by decide +kernel⟩

def sp_lawrising (K : PySem.W.Frag) : Sp := fun vs H Q _ => ∃ (t : TA2) (z : Str) (m : Int), vs = [.ref t.1, .str z, .int m] ∧ Tape K H t ∧ 0 ≤ m ∧ m ≤ (z.length : Int) ∧ z.length ≤ 1000 ∧
  ∀ (y : Str) H', y.cps.toList.Sublist z.cps.toList → (y.length : Int) = m → Kp t H H' → Tape K H' t → Q (.str y) H'

set_option maxHeartbeats 1000000 in
theorem ok_lawrising (D : Df K mg "_law_rising" s_lawrising ["tape", "signs", "many"]) (B : Bn mg) (C_lawdraw : Cal P w K mg base 1 "_law_draw" ["tape", "many"] (spDraw K))  : Cal P w K mg base 2 "_law_rising" ["tape", "signs", "many"] (sp_lawrising K) := by
  refine D.cal sc_lawrising ?_ ?_
  · intro vs H Q E h; obtain ⟨t, z, m, rfl, _⟩ := h; rfl
  intro f cdv A o s H vs Q E hr h
  obtain ⟨t, z, m, rfl, T, m0, mz, hz, q⟩ := h
  have nd := sc_lawrising.nd
  refine ⟨_, (pss_cons (ps_set (i := 3) nd rfl (Or.inl rfl) pe_str)
    (pss_cons (ps_set (i := 4) nd rfl (Or.inl rfl) pe_int)
    (pss_cons (ps_for PassesOwn.never rfl (pi_range1 rfl B.range_ (pa_cons (pv 2) pa_nil)) (pg_name (i := 5) nd rfl (Or.inl rfl))
      (pss_cons (ps_set (i := 4) nd rfl (Or.inl rfl) (pe_op op_add (pv 4) (pe_cal C_lawdraw (by first | exact hr | exact hr.mono (by decide)) rfl (pa_cons (pv 0) (pa_cons (pe_op op_sub (pe_op op_add (pe_op op_add (pe_op op_sub (pe_callB (id := "len") call_len_str rfl B.len_ PySem.boot_len (pa_cons (pv 1) pa_nil)) (pv 2)) (pv 5)) pe_int) (pv 4)) pa_nil)))))
      (pss_cons (ps_set (i := 3) nd rfl (Or.inl rfl) (pe_op op_add_str (pv 3) (pe_ix (r := rIxS) ix_str (pv 1) (pv 4) (fun _ _ => rfl))))
      (pss_one (ps_set (i := 4) nd rfl (Or.inl rfl) (pe_op op_add (pv 4) pe_int))))))
    (pss_one (ps_ret (pv 3)))))), ?_⟩
  walk_at "r"
  refine ⟨by omega, by omega, for_it walk_range (fun i σ H' => ∃ (y : Str) (a : Int) (x : Option V), σ = [some (.ref t.1), some (.str z), some (.int m), some (.str y), some (.int a), x] ∧
    0 ≤ a ∧ a ≤ (z.length : Int) - m + i ∧ (y.length : Int) = i ∧ y.cps.toList.Sublist (z.cps.toList.take a.toNat) ∧ Kp t H H' ∧ Tape K H' t) ?_ ?_ ?_ ?_⟩
  · exact ⟨_, 0, none, rfl, by omega, by omega, rfl, List.nil_sublist _, Kp.refl _ _, T⟩
  · intros; trivial
  · rintro i x σ H1 H2 hi ⟨y, a, w, rfl, a0, a1, hy, hs, kp, T1⟩ ⟨rfl, rfl⟩
    walk_at "r"
    have hm' : m = (m.toNat : Int) := by omega
    refine ⟨t, _, rfl, T1, by omega, fun v H3 v0 v1 kp2 _ T2 => ?_⟩
    have v2 : a + v ≤ (z.length : Int) - m + i := by omega
    have g1 : (a + v).toNat < z.cps.toList.length := by
      show _ < z.cps.toList.length
      have : z.cps.toList.length = z.length := Array.length_toList
      omega
    have g2 := atI_nat (List.getElem?_eq_getElem g1)
    rw [Int.toNat_of_nonneg (by omega)] at g2
    walk_at "r"
    refine ⟨_, _, _, rfl, rfl, le_size (by omega), g2, ?_⟩
    walk_at "r"
    refine ⟨?_, ?_⟩
    · show y.length + 1 ≤ sizeLine
      exact le_size (by omega)
    walk_at "r"
    refine ⟨_, _, _, rfl, by omega, by omega, ?_, ?_, kp.trans kp2, T2⟩
    · rw [strLen_append]
      show ((y.length + 1 : Nat) : Int) = _
      omega
    · have e1 : (a + v + 1).toNat = (a + v).toNat + 1 := by omega
      rw [e1, List.take_add_one, List.getElem?_eq_getElem g1]
      have e2 : (y ++ (⟨#[z.cps.toList[(a + v).toNat]]⟩ : Str)).cps.toList = y.cps.toList ++ [z.cps.toList[(a + v).toNat]] := by
        show (y.cps ++ #[z.cps.toList[(a + v).toNat]]).toList = _
        rw [Array.toList_append]
      rw [e2]
      exact List.Sublist.append (hs.trans (List.take_sublist_take_left (by omega))) (List.Sublist.refl _)
  · rintro σ H2 ⟨y, a, w, rfl, a0, a1, hy, hs, kp, T1⟩
    walk_at "r"
    exact q y H2 (hs.trans (List.take_sublist _ _)) (by omega) kp T1
abbrev s_lawletters : Stmt := topS 9
abbrev N_lawletters : List Str := ["tape"]
theorem sc_lawletters : FnScope N_lawletters ["tape"] (defScope s_lawletters) := ⟨rfl, rfl, rfl, by decide +kernel, rfl, by decide +kernel, by decide +kernel⟩

def sp_lawletters (K : PySem.W.Frag) : Sp := fun vs H Q _ => ∃ (t : TA2), vs = [.ref t.1] ∧ Tape K H t ∧
  ∀ (y : Str) H', y.cps.toList.Sublist lows → 1 ≤ y.length → y.length ≤ 3 → Kp t H H' → Tape K H' t → Q (.str y) H'

set_option maxHeartbeats 1000000 in
theorem ok_lawletters (D : Df K mg "_law_letters" s_lawletters ["tape"]) (B : Bn mg) (C_lawrising : Cal P w K mg base 2 "_law_rising" ["tape", "signs", "many"] (sp_lawrising K)) (C_lawdraw : Cal P w K mg base 1 "_law_draw" ["tape", "many"] (spDraw K))  : Cal P w K mg base 3 "_law_letters" ["tape"] (sp_lawletters K) := by
  refine D.cal sc_lawletters ?_ ?_
  · intro vs H Q E h; obtain ⟨t, rfl, _⟩ := h; rfl
  intro f cdv A o s H vs Q E hr h
  obtain ⟨t, rfl, T, q⟩ := h
  have nd := sc_lawletters.nd
  refine ⟨_, (pss_one (ps_ret (pe_cal C_lawrising (by first | exact hr | exact hr.mono (by decide)) rfl (pa_cons (pv 0) (pa_cons pe_str (pa_cons (pe_ix (r := rIxL K) ix_list (pe_lst (pa_cons pe_int (pa_cons pe_int (pa_cons pe_int (pa_cons pe_int (pa_cons pe_int (pa_cons pe_int pa_nil))))))) (pe_cal C_lawdraw (by first | exact hr | exact hr.mono (by decide)) rfl (pa_cons (pv 0) (pa_cons pe_int pa_nil))) (fun _ _ => rfl)) pa_nil)))))), ?_⟩
  walk_at "r"
  intro p hp
  walk_at "r"
  refine ⟨t, _, rfl, T.new hp, by decide, fun v H1 v0 v1 kp _ T1 => ?_⟩
  obtain ⟨u, hu, eu⟩ := pickI (ns := [1, 1, 1, 2, 2, 3]) (v := v) v0 (by show v < 6; omega)
  refine ⟨p, _, v, _, rfl, rfl, .inl (.inl (kp p _ (T.ne hp) upd_same)), eu, ?_⟩
  have u3 : 1 ≤ u ∧ u ≤ 3 := by simp at hu; omega
  walk_at "r"
  refine ⟨t, _, u, rfl, T1, by omega, (show u ≤ (26 : Int) by omega), le_of1000, fun y H2 hs hl kp2 T2 => ?_⟩
  exact q y H2 (lows_eq ▸ hs) (by omega) (by omega) ((Kp.new hp).trans (kp.trans kp2)) T2
abbrev s_lawowners : Stmt := topS 10
abbrev N_lawowners : List Str := ["tape"]
theorem sc_lawowners : FnScope N_lawowners ["tape"] (defScope s_lawowners) := ⟨rfl, rfl, rfl, by decide +kernel, rfl, by decide +kernel, by decide +kernel⟩

def sp_lawowners (K : PySem.W.Frag) : Sp := fun vs H Q _ => ∃ (t : TA2), vs = [.ref t.1] ∧ Tape K H t ∧
  ∀ (y : Str) H', y.cps.toList.Sublist caps → 1 ≤ y.length → y.length ≤ 3 → Kp t H H' → Tape K H' t → Q (.str y) H'

set_option maxHeartbeats 1000000 in
theorem ok_lawowners (D : Df K mg "_law_owners" s_lawowners ["tape"]) (B : Bn mg) (C_lawrising : Cal P w K mg base 2 "_law_rising" ["tape", "signs", "many"] (sp_lawrising K)) (C_lawdraw : Cal P w K mg base 1 "_law_draw" ["tape", "many"] (spDraw K))  : Cal P w K mg base 3 "_law_owners" ["tape"] (sp_lawowners K) := by
  refine D.cal sc_lawowners ?_ ?_
  · intro vs H Q E h; obtain ⟨t, rfl, _⟩ := h; rfl
  intro f cdv A o s H vs Q E hr h
  obtain ⟨t, rfl, T, q⟩ := h
  have nd := sc_lawowners.nd
  refine ⟨_, (pss_one (ps_ret (pe_cal C_lawrising (by first | exact hr | exact hr.mono (by decide)) rfl (pa_cons (pv 0) (pa_cons pe_str (pa_cons (pe_ix (r := rIxL K) ix_list (pe_lst (pa_cons pe_int (pa_cons pe_int (pa_cons pe_int (pa_cons pe_int (pa_cons pe_int (pa_cons pe_int pa_nil))))))) (pe_cal C_lawdraw (by first | exact hr | exact hr.mono (by decide)) rfl (pa_cons (pv 0) (pa_cons pe_int pa_nil))) (fun _ _ => rfl)) pa_nil)))))), ?_⟩
  walk_at "r"
  intro p hp
  walk_at "r"
  refine ⟨t, _, rfl, T.new hp, by decide, fun v H1 v0 v1 kp _ T1 => ?_⟩
  obtain ⟨u, hu, eu⟩ := pickI (ns := [1, 2, 2, 2, 2, 3]) (v := v) v0 (by show v < 6; omega)
  refine ⟨p, _, v, _, rfl, rfl, .inl (.inl (kp p _ (T.ne hp) upd_same)), eu, ?_⟩
  have u3 : 1 ≤ u ∧ u ≤ 3 := by simp at hu; omega
  walk_at "r"
  refine ⟨t, _, u, rfl, T1, by omega, (show u ≤ (26 : Int) by omega), le_of1000, fun y H2 hs hl kp2 T2 => ?_⟩
  exact q y H2 (caps_eq ▸ hs) (by omega) (by omega) ((Kp.new hp).trans (kp.trans kp2)) T2
abbrev s_lawleaf : Stmt := topS 11
abbrev N_lawleaf : List Str := ["tape", "letters", "owners", "choice", "held", "sign"]
theorem sc_lawleaf : FnScope N_lawleaf ["tape", "letters", "owners"] (defScope s_lawleaf) := ⟨rfl, rfl, rfl, by decide +kernel, rfl, by decide +kernel, by decide +kernel⟩

def sp_lawleaf (K : PySem.W.Frag) : Sp := fun vs H Q _ => ∃ (t : TA2) (y z : Str), vs = [.ref t.1, .str y, .str z] ∧ Tape K H t ∧ Al y ∧ Al z ∧
  ∀ p b hs ls H', Im H' (.ref p) (clsD b hs ls) → Cl hs ls → Kp t H H' → Tape K H' t → Q (.ref p) H'

set_option maxHeartbeats 1000000 in
theorem ok_lawleaf (D : Df K mg "_law_leaf" s_lawleaf ["tape", "letters", "owners"]) (B : Bn mg) (C_lawdraw : Cal P w K mg base 1 "_law_draw" ["tape", "many"] (spDraw K))  : Cal P w K mg base 2 "_law_leaf" ["tape", "letters", "owners"] (sp_lawleaf K) := by
  refine D.cal sc_lawleaf ?_ ?_
  · intro vs H Q E h; obtain ⟨t, y, z, rfl, _⟩ := h; rfl
  intro f cdv A o s H vs Q E hr h
  obtain ⟨t, y, z, rfl, T, hy, hz, q⟩ := h
  have nd := sc_lawleaf.nd
  refine ⟨_, (pss_cons (ps_set (i := 3) nd rfl (Or.inl rfl) (pe_cal C_lawdraw (by first | exact hr | exact hr.mono (by decide)) rfl (pa_cons (pv 0) (pa_cons pe_int pa_nil))))
    (pss_cons (ps_if (pt_cmpR op_lt (pv 3) pe_int (nomark _))
      (pss_one (ps_ret (pe_tup (pa_cons pe_str (pa_cons pe_bl (pa_cons pe_str (pa_cons pe_str pa_nil)))))))
      pss_nil)
    (pss_cons (ps_if (pt_cmpR op_lt (pv 3) pe_int (nomark _))
      (pss_one (ps_ret (pe_tup (pa_cons pe_str (pa_cons pe_bl (pa_cons (pe_ix (r := rIxS) ix_str (pv 2) (pe_cal C_lawdraw (by first | exact hr | exact hr.mono (by decide)) rfl (pa_cons (pv 0) (pa_cons (pe_callB (id := "len") call_len_str rfl B.len_ PySem.boot_len (pa_cons (pv 2) pa_nil)) pa_nil))) (fun _ _ => rfl)) (pa_cons pe_str pa_nil)))))))
      pss_nil)
    (pss_cons (ps_if (pt_cmpR op_eq (pv 3) pe_int (nomark _))
      (pss_one (ps_ret (pe_tup (pa_cons pe_str (pa_cons pe_bl (pa_cons pe_str (pa_cons (pe_ix (r := rIxS) ix_str (pv 1) (pe_cal C_lawdraw (by first | exact hr | exact hr.mono (by decide)) rfl (pa_cons (pv 0) (pa_cons (pe_callB (id := "len") call_len_str rfl B.len_ PySem.boot_len (pa_cons (pv 1) pa_nil)) pa_nil))) (fun _ _ => rfl)) pa_nil)))))))
      pss_nil)
    (pss_cons (ps_if (pt_cmpR op_eq (pv 3) pe_int (nomark _))
      (pss_one (ps_ret (pe_tup (pa_cons pe_str (pa_cons pe_bl (pa_cons pe_str (pa_cons pe_str pa_nil)))))))
      pss_nil)
    (pss_cons (ps_set (i := 4) nd rfl (Or.inl rfl) (pe_join pe_str (pe_lc (own := [("sign", 5)]) rfl nd (pi_str (pe_op op_add_str pe_str (pv 2))) (blkOk_by (N := N_lawleaf) (sc := defScope s_lawleaf) (by decide +kernel)) (fun _ _ _ _ _ => (pg_name (i := 5) nd rfl (Or.inl rfl))) (fun _ _ _ _ _ => (pts_one (pt_cmpR op_eq (pe_cal C_lawdraw (by first | exact hr | exact hr.mono (by decide)) rfl (pa_cons (pv 0) (pa_cons pe_int pa_nil))) pe_int (nomark _)))) (fun _ _ _ _ _ => (pv 5)))))
    (pss_one (ps_ret (pe_tup (pa_cons pe_str (pa_cons (pe_cmpR op_eq (pe_cal C_lawdraw (by first | exact hr | exact hr.mono (by decide)) rfl (pa_cons (pv 0) (pa_cons pe_int pa_nil))) pe_int (nomark _)) (pa_cons (pv 4) (pa_cons (pe_join pe_str (pe_lc (own := [("sign", 5)]) rfl nd (pi_str (pv 1)) (blkOk_by (N := N_lawleaf) (sc := defScope s_lawleaf) (by decide +kernel)) (fun _ _ _ _ _ => (pg_name (i := 5) nd rfl (Or.inl rfl))) (fun _ _ _ _ _ => (pts_one (pt_cmpR op_eq (pe_cal C_lawdraw (by first | exact hr | exact hr.mono (by decide)) rfl (pa_cons (pv 0) (pa_cons pe_int pa_nil))) pe_int (nomark _)))) (fun _ _ _ _ _ => (pv 5)))) pa_nil))))))))))))), ?_⟩
  have y1 := hy.n1
  have y3 := hy.n3
  have z1 := hz.n1
  have z3 := hz.n3
  have yl := str_len y
  have zl := str_len z
  walk_at "r"
  refine ⟨t, _, rfl, T, by decide, fun v H1 v0 v1 kp1 _ T1 => ?_⟩
  walk_at "r"
  refine ite2 (fun e => ?_) (fun e => ?_)
  · walk_at "r"
    intro p hp
    exact q p false "" "" _ (Im.mkcls upd_same) Cl.none (kp1.trans (Kp.new hp)) (T1.new hp)
  walk_at "r"
  refine ite2 (fun e2 => ?_) (fun e2 => ?_)
  · walk_at "r"
    refine ⟨t, _, rfl, T1, by omega, fun v2 H2 u0 u1 kp2 _ T2 => ?_⟩
    obtain ⟨c, hc, ec⟩ := pickC (z := z) u0 (by omega)
    refine ⟨_, _, _, rfl, rfl, le_size (by omega), ec, ?_⟩
    walk_at "r"
    intro p hp
    exact q p false ⟨#[c]⟩ "" _ (Im.mkcls upd_same) ⟨Nat.le_of_ble_eq_true rfl, by decide, sg_one (hz.sg c hc), fun _ h => nomatch h⟩ (kp1.trans (kp2.trans (Kp.new hp))) (T2.new hp)
  walk_at "r"
  refine ite2 (fun e3 => ?_) (fun e3 => ?_)
  · walk_at "r"
    refine ⟨t, _, rfl, T1, by omega, fun v2 H2 u0 u1 kp2 _ T2 => ?_⟩
    obtain ⟨c, hc, ec⟩ := pickC (z := y) u0 (by omega)
    refine ⟨_, _, _, rfl, rfl, le_size (by omega), ec, ?_⟩
    walk_at "r"
    intro p hp
    exact q p false "" ⟨#[c]⟩ _ (Im.mkcls upd_same) ⟨by decide, Nat.le_of_ble_eq_true rfl, fun _ h => (nomatch h), sg_one (hy.sg c hc)⟩ (kp1.trans (kp2.trans (Kp.new hp))) (T2.new hp)
  walk_at "r"
  refine ite2 (fun e4 => ?_) (fun e4 => ?_)
  · walk_at "r"
    intro p hp
    exact q p false "@" "" _ (Im.mkcls upd_same) ⟨by decide, by decide, sg_at, fun _ h => (nomatch h)⟩ (kp1.trans (Kp.new hp)) (T1.new hp)
  walk_at "r"
  have ez : (("@" : Str) ++ z).cps.toList = 64 :: z.cps.toList := str_cat _ _
  try refine ⟨le_cat (by omega), _, rfl, ?_⟩
  intro dp hdp
  have dpt := T1.ne hdp
  have dpt2 := T1.ne2 hdp
  refine it_any walk_str (fun i H' => ∃ l : List Nat, l.Sublist ((64 :: z.cps.toList).take i) ∧ H' dp = some (.lst ((l.map fun c => (⟨#[c]⟩ : Str)).map V.str)) ∧ Kp t H1 H' ∧ Tape K H' t)
    ⟨[], List.nil_sublist _, upd_same, Kp.new hdp, T1.new hdp⟩ (fun _ _ _ _ => trivial) ?_ ?_
  · rintro i x H2 H3 hi ⟨l, hl, hp2, kp2, T2⟩ ⟨rfl, c, hc, rfl⟩
    have hc' : (64 :: z.cps.toList)[i]? = some c := by rw [← ez, Array.getElem?_toList]; exact hc
    have hll : l.length ≤ 30 := Nat.le_trans (hl.trans (List.take_sublist _ _)).length_le (by rw [List.length_cons]; omega)
    refine ⟨rfl, ?_⟩
    walk_at "r"
    refine ⟨t, _, rfl, T2, by decide, fun v H4 v0 v1 kp4 _ T4 => ?_⟩
    have hp4 := kp4 dp _ dpt hp2
    walk_at "r"
    refine ite2 (fun e => ?_) (fun e => ?_)
    · walk_at "r"
      refine ⟨_, hp4, ?_, l ++ [c], ?_, ?_, ?_, ?_⟩
      · rw [List.length_map, List.length_map]
        exact small1000 (by omega)
      · rw [List.take_add_one, hc']
        exact List.Sublist.append hl (List.Sublist.refl _)
      · rw [upd_same, List.map_append, List.map_append]
        rfl
      · exact fun b o n e2 => by
          rw [upd_ne (ne_of_none e2 hdp)]
          exact (kp2.trans kp4) b o n e2
      · exact T4.put dpt dpt2
    · refine ⟨l, ?_, hp4, kp2.trans kp4, T4⟩
      rw [List.take_add_one]
      exact hl.trans (List.sublist_append_left _ _)
  rintro H2 ⟨l, hl, hp2, kp2, T2⟩
  have l31 : l.length ≤ 4 := Nat.le_trans (hl.trans (List.take_sublist _ _)).length_le (by rw [List.length_cons]; omega)
  refine ⟨_, dp, _, rfl, rfl, .inl (.inl (.inl hp2)), join_fits _ (by omega), ?_⟩
  generalize hhs : Txt.join (Str.ofString "") (l.map fun c => (⟨#[c]⟩ : Str)) = hs
  have hs1 : hs.length ≤ 4 := by rw [← hhs, join_len]; exact l31
  have hs2 : Sg hs := fun c hc => by
    rw [← hhs, join_cl] at hc
    have h := (hl.trans (List.take_sublist _ _)).subset hc
    rcases List.mem_cons.mp h with rfl | h
    · decide
    · exact hz.sg c h
  have dpq := dpt
  clear hhs hl hp2 dpt dpt2 ez
  walk_at "r"
  refine ⟨t, _, rfl, T2, by decide, fun v5 H5 u0 u1 kp5 _ T5 => ?_⟩
  walk_at "r"
  have kp6 := kp1.trans (kp2.trans kp5)
  clear hdp dpq
  clear l31
  clear l
  clear dp
  intro dp hdp
  have dpt := T5.ne hdp
  have dpt2 := T5.ne2 hdp
  refine it_any walk_str (fun i H' => ∃ l : List Nat, l.Sublist ((y.cps.toList).take i) ∧ H' dp = some (.lst ((l.map fun c => (⟨#[c]⟩ : Str)).map V.str)) ∧ Kp t H5 H' ∧ Tape K H' t)
    ⟨[], List.nil_sublist _, upd_same, Kp.new hdp, T5.new hdp⟩ (fun _ _ _ _ => trivial) ?_ ?_
  · rintro i x H7 H3 hi ⟨l, hl, hp7, kp7, T7⟩ ⟨rfl, c, hc, rfl⟩
    have hc' : (y.cps.toList)[i]? = some c := by rw [← (rfl : y.cps.toList = y.cps.toList), Array.getElem?_toList]; exact hc
    have hll : l.length ≤ 30 := Nat.le_trans (hl.trans (List.take_sublist _ _)).length_le (by omega)
    refine ⟨rfl, ?_⟩
    walk_at "r"
    refine ⟨t, _, rfl, T7, by decide, fun v H4 v0 v1 kp4 _ T4 => ?_⟩
    have hp4 := kp4 dp _ dpt hp7
    walk_at "r"
    refine ite2 (fun e => ?_) (fun e => ?_)
    · walk_at "r"
      refine ⟨_, hp4, ?_, l ++ [c], ?_, ?_, ?_, ?_⟩
      · rw [List.length_map, List.length_map]
        exact small1000 (by omega)
      · rw [List.take_add_one, hc']
        exact List.Sublist.append hl (List.Sublist.refl _)
      · rw [upd_same, List.map_append, List.map_append]
        rfl
      · exact fun b o n e2 => by
          rw [upd_ne (ne_of_none e2 hdp)]
          exact (kp7.trans kp4) b o n e2
      · exact T4.put dpt dpt2
    · refine ⟨l, ?_, hp4, kp7.trans kp4, T4⟩
      rw [List.take_add_one]
      exact hl.trans (List.sublist_append_left _ _)
  rintro H7 ⟨l, hl, hp7, kp7, T7⟩
  have l31 : l.length ≤ 4 := Nat.le_trans (hl.trans (List.take_sublist _ _)).length_le (by omega)
  refine ⟨_, dp, _, rfl, rfl, .inl (.inl (.inl hp7)), join_fits _ (by omega), ?_⟩
  walk_at "r"
  intro p hp
  refine q p _ hs _ _ (Im.mkcls upd_same) ⟨by omega, by rw [join_len]; omega, hs2, fun c hc => ?_⟩ (kp6.trans (kp7.trans (Kp.new hp))) (T7.new hp)
  rw [join_cl] at hc
  exact hy.sg c ((hl.trans (List.take_sublist _ _)).subset hc)
abbrev s_lawnode : Stmt := topS 12
abbrev N_lawnode : List Str := ["tape", "letters", "owners", "held"]
theorem sc_lawnode : FnScope N_lawnode ["tape", "letters", "owners"] (defScope s_lawnode) := ⟨rfl, rfl, rfl, by decide +kernel, rfl, by decide +kernel, by decide +kernel⟩

def sp_lawnode (K : PySem.W.Frag) : Sp := fun vs H Q _ => ∃ (t : TA2) (y z : Str), vs = [.ref t.1, .str y, .str z] ∧ Tape K H t ∧ Al y ∧ Al z ∧
  ∀ p b hs ls H', Im H' (.ref p) (clsD b hs ls) → Cl hs ls → Kp t H H' → Tape K H' t → Q (.ref p) H'

set_option maxHeartbeats 1000000 in
theorem ok_lawnode (D : Df K mg "_law_node" s_lawnode ["tape", "letters", "owners"]) (B : Bn mg) (C_lawdraw : Cal P w K mg base 1 "_law_draw" ["tape", "many"] (spDraw K)) (C_lawleaf : Cal P w K mg base 2 "_law_leaf" ["tape", "letters", "owners"] (sp_lawleaf K)) (C_lawrising : Cal P w K mg base 2 "_law_rising" ["tape", "signs", "many"] (sp_lawrising K))  : Cal P w K mg base 3 "_law_node" ["tape", "letters", "owners"] (sp_lawnode K) := by
  refine D.cal sc_lawnode ?_ ?_
  · intro vs H Q E h; obtain ⟨t, y, z, rfl, _⟩ := h; rfl
  intro f cdv A o s H vs Q E hr h
  obtain ⟨t, y, z, rfl, T, hy, hz, q⟩ := h
  have nd := sc_lawnode.nd
  refine ⟨_, (pss_cons (ps_if (pt_cmpR op_gt (pe_cal C_lawdraw (by first | exact hr | exact hr.mono (by decide)) rfl (pa_cons (pv 0) (pa_cons pe_int pa_nil))) pe_int (nomark _))
      (pss_one (ps_ret (pe_cal C_lawleaf (by first | exact hr | exact hr.mono (by decide)) rfl (pa_cons (pv 0) (pa_cons (pv 1) (pa_cons (pv 2) pa_nil))))))
      pss_nil)
    (pss_cons (ps_set (i := 3) nd rfl (Or.inl rfl) (pe_cal C_lawrising (by first | exact hr | exact hr.mono (by decide)) rfl (pa_cons (pv 0) (pa_cons pe_str (pa_cons (pe_cal C_lawdraw (by first | exact hr | exact hr.mono (by decide)) rfl (pa_cons (pv 0) (pa_cons pe_int pa_nil))) pa_nil)))))
    (pss_one (ps_ret (pe_tup (pa_cons pe_str (pa_cons (pe_cmpR op_eq (pe_cal C_lawdraw (by first | exact hr | exact hr.mono (by decide)) rfl (pa_cons (pv 0) (pa_cons pe_int pa_nil))) pe_int (nomark _)) (pa_cons (pv 3) (pa_cons (pe_cal C_lawrising (by first | exact hr | exact hr.mono (by decide)) rfl (pa_cons (pv 0) (pa_cons pe_str (pa_cons (pe_cal C_lawdraw (by first | exact hr | exact hr.mono (by decide)) rfl (pa_cons (pv 0) (pa_cons pe_int pa_nil))) pa_nil)))) pa_nil))))))))), ?_⟩
  walk_at "r"
  refine ⟨t, _, rfl, T, by decide, fun v H1 v0 v1 kp1 _ T1 => ?_⟩
  walk_at "r"
  refine ite2 (fun e => ?_) (fun e => ?_)
  · walk_at "r"
    exact ⟨t, y, z, rfl, T1, hy, hz, fun p b hs ls H2 a1 a2 a3 a4 => q p b hs ls H2 a1 a2 (kp1.trans a3) a4⟩
  walk_at "r"
  refine ⟨t, _, rfl, T1, by decide, fun v2 H2 u0 u1 kp2 _ T2 => ?_⟩
  refine ⟨t, _, v2, rfl, T2, u0, (show v2 ≤ (27 : Int) by omega), (by decide : 27 ≤ 1000), fun x H3 hx xl kp3 T3 => ?_⟩
  rw [atcaps_eq] at hx
  walk_at "r"
  refine ⟨t, _, rfl, T3, by decide, fun v4 H4 w0 w1 kp4 _ T4 => ?_⟩
  walk_at "r"
  refine ⟨t, _, rfl, T4, by decide, fun v5 H5 w5 w6 kp5 _ T5 => ?_⟩
  refine ⟨t, _, v5, rfl, T5, w5, (show v5 ≤ (26 : Int) by omega), (by decide : 26 ≤ 1000), fun x2 H6 hx2 xl2 kp6 T6 => ?_⟩
  rw [lows_eq] at hx2
  walk_at "r"
  intro p hp
  exact q p _ x x2 _ (Im.mkcls upd_same) ⟨by omega, by omega, sg_sub hx atcaps_small, sg_sub hx2 lows_small⟩ (kp1.trans (kp2.trans (kp3.trans (kp4.trans (kp5.trans (kp6.trans (Kp.new hp))))))) (T6.new hp)
abbrev s_lawwild : Stmt := topS 13
abbrev N_lawwild : List Str := ["tape", "letters", "owners", "nodes", "choice", "many", "first", "kind"]
theorem sc_lawwild : FnScope N_lawwild ["tape", "letters", "owners", "nodes"] (defScope s_lawwild) := ⟨rfl, rfl, rfl, by decide +kernel, rfl, by decide +kernel, by decide +kernel⟩

def sp_lawwildm (K : PySem.W.Frag) (m : Nat) : Sp := fun vs H Q _ => ∃ (t : TA2) (y z : Str) (n : Int), vs = [.ref t.1, .str y, .str z, .int n] ∧ Tape K H t ∧ Al y ∧ Al z ∧ 0 ≤ n ∧ (n < m ∧ m ≤ 20) ∧
  ∀ a (p : Pat) H', Im H' (.ref a) p.d → p.Ok → ((p.n : Nat) : Int) ≤ max n 1 → Kp t H H' → Tape K H' t → Q (.ref a) H'
def sp_lawwild (K : PySem.W.Frag) : Sp := sp_lawwildm K 20

set_option maxHeartbeats 1000000 in
theorem okm_lawwild (D : Df K mg "_law_wild" s_lawwild ["tape", "letters", "owners", "nodes"]) (B : Bn mg) (C_lawdraw : Cal P w K mg base 1 "_law_draw" ["tape", "many"] (spDraw K)) (C_lawnode : Cal P w K mg base 3 "_law_node" ["tape", "letters", "owners"] (sp_lawnode K))  : ∀ m : Nat, Cal P w K mg base (4 + m) "_law_wild" ["tape", "letters", "owners", "nodes"] (sp_lawwildm K m)
  | 0 => by
    show Cal P w K mg base (3 + 1) _ _ _
    refine D.cal sc_lawwild ?_ ?_
    · intro vs H Q E h; obtain ⟨t, y, z, n, rfl, _⟩ := h; rfl
    intro f cdv A o s H vs Q E hr h
    exfalso; obtain ⟨t, y, z, n, rfl, T, hy, hz, n0, hn, q⟩ := h; omega
  | m + 1 => by
    have C_lawwild := okm_lawwild D B C_lawdraw C_lawnode m
    refine D.cal (k := 4 + m) sc_lawwild ?_ ?_
    · intro vs H Q E h; obtain ⟨t, y, z, n, rfl, _⟩ := h; rfl
    intro f cdv A o s H vs Q E hr h
    obtain ⟨t, y, z, n, rfl, T, hy, hz, n0, hn, q⟩ := h
    have nd := sc_lawwild.nd
    refine ⟨_, (pss_cons (ps_set (i := 4) nd rfl (Or.inl rfl) (pe_cal C_lawdraw (by first | exact hr | exact hr.mono (by omega)) rfl (pa_cons (pv 0) (pa_cons pe_int pa_nil))))
    (pss_cons (ps_if (PW.pt (pw_or (pt_cmpR op_lt (pv 3) pe_int (nomark _)) (pw_or1 (pt_cmpR op_eq (pv 4) pe_int (nomark _)))))
      (pss_cons (ps_if (pt_cmpR op_eq (pe_cal C_lawdraw (by first | exact hr | exact hr.mono (by omega)) rfl (pa_cons (pv 0) (pa_cons pe_int pa_nil))) pe_int (nomark _))
        (pss_one (ps_ret (pe_tup (pa_cons pe_str pa_nil))))
        pss_nil)
      (pss_one (ps_ret (pe_cal C_lawnode (by first | exact hr | exact hr.mono (by omega)) rfl (pa_cons (pv 0) (pa_cons (pv 1) (pa_cons (pv 2) pa_nil)))))))
      pss_nil)
    (pss_cons (ps_if (PW.pt (pw_or (pt_cmpR op_lt (pv 3) pe_int (nomark _)) (pw_or1 (pt_cmpR op_lt (pv 4) pe_int (nomark _)))))
      (pss_one (ps_ret (pe_tup (pa_cons (pe_ix (r := rIxL K) ix_list (pe_lst (pa_cons pe_str (pa_cons pe_str (pa_cons pe_str pa_nil)))) (pe_op op_mod (pe_callTy (T := "int") call_int1 rfl B.int_ (by decide +kernel) (pa_cons (pv 4) pa_nil)) pe_int) (fun _ _ => rfl)) (pa_cons (pe_cal C_lawwild (by first | exact hr | exact hr.mono (by omega)) rfl (pa_cons (pv 0) (pa_cons (pv 1) (pa_cons (pv 2) (pa_cons (pe_op op_sub (pv 3) pe_int) pa_nil))))) pa_nil)))))
      pss_nil)
    (pss_cons (ps_set (i := 5) nd rfl (Or.inl rfl) (pe_op op_add pe_int (pe_cal C_lawdraw (by first | exact hr | exact hr.mono (by omega)) rfl (pa_cons (pv 0) (pa_cons (pe_op op_sub (pv 3) pe_int) pa_nil)))))
    (pss_cons (ps_set (i := 6) nd rfl (Or.inl rfl) (pe_cal C_lawwild (by first | exact hr | exact hr.mono (by omega)) rfl (pa_cons (pv 0) (pa_cons (pv 1) (pa_cons (pv 2) (pa_cons (pv 5) pa_nil))))))
    (pss_cons (ps_set (i := 7) nd rfl (Or.inl rfl) (pe_ix (r := rIxL K) ix_list (pe_lst (pa_cons pe_str (pa_cons pe_str (pa_cons pe_str (pa_cons pe_str (pa_cons pe_str (pa_cons pe_str (pa_cons pe_str pa_nil)))))))) (pe_op op_sub (pv 4) pe_int) (fun _ _ => rfl)))
    (pss_one (ps_ret (pe_tup (pa_cons (pv 7) (pa_cons (pv 6) (pa_cons (pe_cal C_lawwild (by first | exact hr | exact hr.mono (by omega)) rfl (pa_cons (pv 0) (pa_cons (pv 1) (pa_cons (pv 2) (pa_cons (pe_op op_sub (pe_op op_sub (pv 3) pe_int) (pv 5)) pa_nil))))) pa_nil)))))))))))), ?_⟩
    walk_at "r"
    refine ⟨t, _, rfl, T, by decide, fun c H1 c0 c1 kp1 _ T1 => ?_⟩
    walk_at "r"
    refine ite2 (fun e => ?_) (fun e => ?_)
    · skip
      walk_at "r"
      refine ⟨t, _, rfl, T1, by decide, fun v H2 v0 v1 kp2 _ T2 => ?_⟩
      walk_at "r"
      refine ite2 (fun e2 => ?_) (fun e2 => ?_)
      · walk_at "r"
        intro p hp
        exact q p .emp _ (Im.mkemp upd_same) trivial (by show (1 : Int) ≤ _; omega) (kp1.trans (kp2.trans (Kp.new hp))) (T2.new hp)
      · walk_at "r"
        exact ⟨t, y, z, rfl, T2, hy, hz, fun p b hs ls H3 a1 a2 a3 a4 => q p (.cls b hs ls) H3 a1 a2 (by show (1 : Int) ≤ _; omega) (kp1.trans (kp2.trans a3)) a4⟩
    walk_at "r"
    refine ite2 (fun e1 => ?_) (fun e1 => ?_)
    · skip
      walk_at "r"
      refine ⟨t, _, rfl, T1, by decide, fun v H2 v0 v1 kp2 _ T2 => ?_⟩
      walk_at "r"
      refine ite2 (fun e2 => ?_) (fun e2 => ?_)
      · walk_at "r"
        intro p hp
        exact q p .emp _ (Im.mkemp upd_same) trivial (by show (1 : Int) ≤ _; omega) (kp1.trans (kp2.trans (Kp.new hp))) (T2.new hp)
      · walk_at "r"
        exact ⟨t, y, z, rfl, T2, hy, hz, fun p b hs ls H3 a1 a2 a3 a4 => q p (.cls b hs ls) H3 a1 a2 (by show (1 : Int) ≤ _; omega) (kp1.trans (kp2.trans a3)) a4⟩
    have n2 : 2 ≤ n := by
      have := of_decide_eq_false (Bool.eq_false_iff.mpr e)
      omega
    walk_at "r"
    refine ite2 (fun f => ?_) (fun f => ?_)
    · skip
      walk_at "r"
      intro p1 hp1
      walk_at "r"
      obtain ⟨k, hk, ek⟩ := pickS (ss := ["star", "not", "star"]) (v := c % 3) (by omega) (by show c % 3 < 3; omega)
      have hk2 : k = "star" ∨ k = "not" := by
        simp at hk
        rcases hk with h | h | h <;> simp [h]
      refine ⟨p1, _, _, _, rfl, rfl, .inl (.inl upd_same), ek, ?_⟩
      walk_at "r"
      refine ⟨t, y, z, _, rfl, T1.new hp1, hy, hz, by omega, by omega, fun a p H2 hI hO hn2 kp2 T2 => ?_⟩
      walk_at "r"
      intro p3 hp3
      exact q p3 (.un k p) _ (Im.mkun upd_same (Same.im (Same.new hp3) hI)) ⟨hk2, hO⟩ (by simp only [Pat.n]; omega) (kp1.trans ((Kp.new hp1).trans (kp2.trans (Kp.new hp3)))) (T2.new hp3)
    walk_at "r"
    refine ite2 (fun f2 => ?_) (fun f2 => ?_)
    · skip
      walk_at "r"
      intro p1 hp1
      walk_at "r"
      obtain ⟨k, hk, ek⟩ := pickS (ss := ["star", "not", "star"]) (v := c % 3) (by omega) (by show c % 3 < 3; omega)
      have hk2 : k = "star" ∨ k = "not" := by
        simp at hk
        rcases hk with h | h | h <;> simp [h]
      refine ⟨p1, _, _, _, rfl, rfl, .inl (.inl upd_same), ek, ?_⟩
      walk_at "r"
      refine ⟨t, y, z, _, rfl, T1.new hp1, hy, hz, by omega, by omega, fun a p H2 hI hO hn2 kp2 T2 => ?_⟩
      walk_at "r"
      intro p3 hp3
      exact q p3 (.un k p) _ (Im.mkun upd_same (Same.im (Same.new hp3) hI)) ⟨hk2, hO⟩ (by simp only [Pat.n]; omega) (kp1.trans ((Kp.new hp1).trans (kp2.trans (Kp.new hp3)))) (T2.new hp3)
    walk_at "r"
    have n3 : 3 ≤ n := by
      have := of_decide_eq_false (Bool.eq_false_iff.mpr f)
      omega
    have c4 : 4 ≤ c := by
      have := of_decide_eq_false (Bool.eq_false_iff.mpr f2)
      omega
    refine ⟨t, _, rfl, T1, by omega, fun v H2 v0 v1 kp2 _ T2 => ?_⟩
    walk_at "r"
    refine ⟨t, y, z, _, rfl, T2, hy, hz, by omega, by omega, fun a p H3 hI3 hO3 hn3 kp3 T3 => ?_⟩
    walk_at "r"
    intro p4 hp4
    walk_at "r"
    obtain ⟨k, hk, ek⟩ := pickS (ss := ["then", "or", "then", "and", "then", "or", "then"]) (v := c - 4) (by omega) (by show c - 4 < 7; omega)
    have hk2 : k = "then" ∨ k = "or" ∨ k = "and" := by
      simp at hk
      rcases hk with h | h | h | h | h | h | h <;> simp [h]
    refine ⟨p4, _, _, _, rfl, rfl, .inl (.inl upd_same), ek, ?_⟩
    walk_at "r"
    refine ⟨t, y, z, _, rfl, T3.new hp4, hy, hz, by omega, by omega, fun b r H5 hI5 hO5 hn5 kp5 T5 => ?_⟩
    walk_at "r"
    intro p6 hp6
    have hI6 := (hI3.kt (KT.new hp4)).kt (kp5.kt (T3.new hp4))
    exact q p6 (.bi k p r) _ (Im.mkbi upd_same (Same.im (Same.new hp6) hI6) (Same.im (Same.new hp6) hI5)) ⟨hk2, hO3, hO5⟩ (by simp only [Pat.n]; omega) (kp1.trans (kp2.trans (kp3.trans ((Kp.new hp4).trans (kp5.trans (Kp.new hp6)))))) (T5.new hp6)
theorem ok_lawwild (D : Df K mg "_law_wild" s_lawwild ["tape", "letters", "owners", "nodes"]) (B : Bn mg) (C_lawdraw : Cal P w K mg base 1 "_law_draw" ["tape", "many"] (spDraw K)) (C_lawnode : Cal P w K mg base 3 "_law_node" ["tape", "letters", "owners"] (sp_lawnode K))  : Cal P w K mg base 24 "_law_wild" ["tape", "letters", "owners", "nodes"] (sp_lawwild K) := okm_lawwild D B C_lawdraw C_lawnode 20
abbrev s_lawpattern : Stmt := topS 14
abbrev N_lawpattern : List Str := ["tape", "letters", "owners", "nodes", "shape", "tree", "k", "other", "kind"]
theorem sc_lawpattern : FnScope N_lawpattern ["tape", "letters", "owners", "nodes"] (defScope s_lawpattern) := ⟨rfl, rfl, rfl, by decide +kernel, rfl, by decide +kernel, by decide +kernel⟩

def sp_lawpattern (K : PySem.W.Frag) : Sp := fun vs H Q _ => ∃ (t : TA2) (y z : Str) (n : Int), vs = [.ref t.1, .str y, .str z, .int n] ∧ Tape K H t ∧ Al y ∧ Al z ∧ 1 ≤ n ∧ n ≤ 16 ∧
  ∀ a (p : Pat) H', Im H' (.ref a) p.d → p.Ok → p.n ≤ 16 → Kp t H H' → Tape K H' t → Q (.ref a) H'

set_option maxHeartbeats 1000000 in
theorem ok_lawpattern (D : Df K mg "_law_pattern" s_lawpattern ["tape", "letters", "owners", "nodes"]) (B : Bn mg) (C_lawdraw : Cal P w K mg base 1 "_law_draw" ["tape", "many"] (spDraw K)) (C_lawwild : Cal P w K mg base 24 "_law_wild" ["tape", "letters", "owners", "nodes"] (sp_lawwild K)) (C_lawnode : Cal P w K mg base 3 "_law_node" ["tape", "letters", "owners"] (sp_lawnode K))  : Cal P w K mg base 25 "_law_pattern" ["tape", "letters", "owners", "nodes"] (sp_lawpattern K) := by
  refine D.cal sc_lawpattern ?_ ?_
  · intro vs H Q E h; obtain ⟨t, y, z, n, rfl, _⟩ := h; rfl
  intro f cdv A o s H vs Q E hr h
  obtain ⟨t, y, z, n, rfl, T, hy, hz, n0, hn, q⟩ := h
  have nd := sc_lawpattern.nd
  refine ⟨_, (pss_cons (ps_set (i := 4) nd rfl (Or.inl rfl) (pe_cal C_lawdraw (by first | exact hr | exact hr.mono (by decide)) rfl (pa_cons (pv 0) (pa_cons pe_int pa_nil))))
    (pss_cons (ps_if (pt_cmpR op_gt (pv 4) pe_int (nomark _))
      (pss_one (ps_ret (pe_cal C_lawwild (by first | exact hr | exact hr.mono (by decide)) rfl (pa_cons (pv 0) (pa_cons (pv 1) (pa_cons (pv 2) (pa_cons (pv 3) pa_nil)))))))
      pss_nil)
    (pss_cons (ps_set (i := 5) nd rfl (Or.inl rfl) (pe_cal C_lawnode (by first | exact hr | exact hr.mono (by decide)) rfl (pa_cons (pv 0) (pa_cons (pv 1) (pa_cons (pv 2) pa_nil)))))
    (pss_cons (ps_for PassesOwn.never rfl (pi_range1 rfl B.range_ (pa_cons (pv 3) pa_nil)) (pg_name (i := 6) nd rfl (Or.inl rfl))
      (C8.pss_cut (ps_if (PW.pt (pw_and (pt_cmpR op_eq (pv 4) pe_int (nomark _)) (pw_and1 (pt_cmpR op_le (pe_op op_add (pv 6) pe_int) (pv 3) (nomark _)))))
        (pss_one (ps_set (i := 5) nd rfl (Or.inl rfl) (pe_tup (pa_cons (pe_ix (r := rIxL K) ix_list (pe_lst (pa_cons pe_str (pa_cons pe_str pa_nil))) (pe_cal C_lawdraw (by first | exact hr | exact hr.mono (by decide)) rfl (pa_cons (pv 0) (pa_cons pe_int pa_nil))) (fun _ _ => rfl)) (pa_cons (pv 5) pa_nil)))))
        pss_nil)
      (pss_one (ps_if (PW.pt (pw_and (pt_cmpR op_gt (pv 4) pe_int (nomark _)) (pw_and1 (pt_cmpR op_le (pe_op op_add (pe_op op_mul pe_int (pv 6)) pe_int) (pv 3) (nomark _)))))
        (pss_cons (ps_set (i := 7) nd rfl (Or.inl rfl) (pe_cal C_lawnode (by first | exact hr | exact hr.mono (by decide)) rfl (pa_cons (pv 0) (pa_cons (pv 1) (pa_cons (pv 2) pa_nil)))))
        (pss_cons (ps_set (i := 8) nd rfl (Or.inl rfl) (pe_ix (r := rIxL K) ix_list (pe_lst (pa_cons pe_str (pa_cons pe_str (pa_cons pe_str (pa_cons pe_str pa_nil))))) (pe_cal C_lawdraw (by first | exact hr | exact hr.mono (by decide)) rfl (pa_cons (pv 0) (pa_cons pe_int pa_nil))) (fun _ _ => rfl)))
        (pss_one (ps_set (i := 5) nd rfl (Or.inl rfl) (pe_ix (r := rIxL K) ix_list (pe_lst (pa_cons (pe_tup (pa_cons (pv 8) (pa_cons (pv 5) (pa_cons (pv 7) pa_nil)))) (pa_cons (pe_tup (pa_cons (pv 8) (pa_cons (pv 7) (pa_cons (pv 5) pa_nil)))) pa_nil))) (pe_op op_sub (pv 4) pe_int) (fun _ _ => rfl))))))
        pss_nil))))
    (pss_one (ps_ret (pv 5))))))), ?_⟩
  walk_at "r"
  refine ⟨t, _, rfl, T, by decide, fun c H1 c0 c1 kp1 _ T1 => ?_⟩
  walk_at "r"
  refine ite2 (fun e => ?_) (fun e => ?_)
  · walk_at "r"
    refine ⟨t, y, z, n, rfl, T1, hy, hz, by omega, by omega, fun a p H2 hI hO hn2 kp2 T2 => ?_⟩
    exact q a p H2 hI hO (by omega) (kp1.trans kp2) T2
  have c2 : c ≤ 2 := by
    have := of_decide_eq_false (Bool.eq_false_iff.mpr e)
    omega
  walk_at "r"
  refine ⟨t, y, z, rfl, T1, hy, hz, fun a0 b hs ls H2 hI hC kp2 T2 => ?_⟩
  walk_at "r"
  refine ⟨by omega, by omega, ?_⟩
  refine for_it walk_range (fun i σ H' => ∃ (a : Addr) (p : Pat) (w6 w7 w8 : Option V), σ = [some (.ref t.1), some (.str y), some (.str z), some (.int n), some (.int c), some (.ref a), w6, w7, w8] ∧
    Im H' (.ref a) p.d ∧ p.Ok ∧ p.n ≤ 16 ∧ (c = 0 → p.n ≤ i + 1) ∧ (0 < c → p.n ≤ 2 * i + 1) ∧ Kp t H H' ∧ Tape K H' t) ?_ (fun _ _ _ _ _ => trivial) ?_ ?_
  · exact ⟨a0, .cls b hs ls, none, none, none, rfl, hI, hC, (by show 1 ≤ 16; decide), (fun _ => Nat.le_refl 1), (fun _ => Nat.le_refl 1), kp1.trans kp2, T2⟩
  · rintro i x σ H4 H5 hi ⟨a, p, w6, w7, w8, rfl, h1, h2, h3, h4, h5, kp5, T5⟩ ⟨rfl, rfl⟩
    walk_at "r"
    refine ⟨fun σ H' => ∃ (a : Addr) (p : Pat), σ = [some (.ref t.1), some (.str y), some (.str z), some (.int n), some (.int c), some (.ref a), some (.int (0 + (i : Int))), w7, w8] ∧
      Im H' (.ref a) p.d ∧ p.Ok ∧ p.n ≤ 16 ∧ (c = 0 → p.n ≤ i + 2) ∧ (0 < c → p.n ≤ 2 * i + 1) ∧ Kp t H H' ∧ Tape K H' t, ?_, ?_⟩
    · walk_at "r"
      refine ite2 (fun g => ?_) (fun g => ?_)
      · walk_at "r"
        refine ite2 (fun g2 => ?_) (fun g2 => ?_)
        · have g3 := of_decide_eq_true g2
          have g4 : c = 0 := by injection of_decide_eq_true g
          walk_at "r"
          intro p1 hp1
          walk_at "r"
          refine ⟨t, _, rfl, T5.new hp1, by decide, fun v H6 v0 v1 kp6 _ T6 => ?_⟩
          obtain ⟨k, hk, ek⟩ := pickS (ss := ["not", "star"]) (v := v) v0 (by show v < 2; omega)
          have hk2 : k = "star" ∨ k = "not" := by
            simp at hk
            rcases hk with h | h <;> simp [h]
          refine ⟨p1, _, _, _, rfl, rfl, .inl (.inl (kp6 p1 _ (T5.ne hp1) upd_same)), ek, ?_⟩
          walk_at "r"
          intro p7 hp7
          have h17 := (h1.kt (KT.new hp1)).kt (kp6.kt (T5.new hp1))
          have := h4 g4
          exact ⟨p7, .un k p, rfl, Im.mkun upd_same (Same.im (Same.new hp7) h17), ⟨hk2, h2⟩, (by simp only [Pat.n]; omega), (fun _ => by simp only [Pat.n]; omega), (fun h => by omega), kp5.trans ((Kp.new hp1).trans (kp6.trans (Kp.new hp7))), T6.new hp7⟩
        · walk_at "r"
          exact ⟨a, p, rfl, h1, h2, h3, (fun h => by have := h4 h; omega), h5, kp5, T5⟩
      · walk_at "r"
        exact ⟨a, p, rfl, h1, h2, h3, (fun h => by have := h4 h; omega), h5, kp5, T5⟩
    · rintro σ H6 ⟨a, p, rfl, h1, h2, h3, h4, h5, kp6, T6⟩
      walk_at "r"
      refine ite2 (fun g => ?_) (fun g => ?_)
      · walk_at "r"
        have g3 : 0 < c := of_decide_eq_true g
        refine ite2 (fun g2 => ?_) (fun g2 => ?_)
        · have g4 := of_decide_eq_true g2
          have h50 := h5 g3
          walk_at "r"
          refine ⟨t, y, z, rfl, T6, hy, hz, fun b7 bb hs7 ls7 H7 hI7 hC7 kp7 T7 => ?_⟩
          walk_at "r"
          intro p8 hp8
          walk_at "r"
          refine ⟨t, _, rfl, T7.new hp8, by decide, fun v H9 v0 v1 kp9 _ T9 => ?_⟩
          obtain ⟨k, hk, ek⟩ := pickS (ss := ["then", "or", "and", "then"]) (v := v) v0 (by show v < 4; omega)
          have hk2 : k = "then" ∨ k = "or" ∨ k = "and" := by
            simp at hk
            rcases hk with h | h | h | h <;> simp [h]
          refine ⟨p8, _, _, _, rfl, rfl, .inl (.inl (kp9 p8 _ (T7.ne hp8) upd_same)), ek, ?_⟩
          have A9 := ((h1.kt (kp7.kt T6)).kt (KT.new (o := .lst [.str "then", .str "or", .str "and", .str "then"]) hp8)).kt (kp9.kt (T7.new hp8))
          have B9 := (hI7.kt (KT.new (o := .lst [.str "then", .str "or", .str "and", .str "then"]) hp8)).kt (kp9.kt (T7.new hp8))
          walk_at "r"
          intro p10 hp10
          walk_at "r"
          intro p11 hp11
          walk_at "r"
          intro p12 hp12
          walk_at "r"
          have sz := (Same.new (o := .tup [.str k, .ref a, .ref b7]) hp10).trans ((Same.new (o := .tup [.str k, .ref b7, .ref a]) hp11).trans (Same.new (o := .lst [.ref p10, .ref p11]) hp12))
          have A12 := Same.im sz A9
          have B12 : Im _ _ (Pat.cls bb hs7 ls7).d := Same.im sz B9
          have upd10 := ((Same.new (o := .tup [.str k, .ref b7, .ref a]) hp11).trans (Same.new (o := .lst [.ref p10, .ref p11]) hp12)) p10 _ (upd_same (H := H9) (o := .tup [.str k, .ref a, .ref b7]))
          have upd11 := (Same.new (o := .lst [.ref p10, .ref p11]) hp12) p11 _ (upd_same (o := .tup [.str k, .ref b7, .ref a]))
          have kpz := kp6.trans (kp7.trans ((Kp.new (o := .lst [.str "then", .str "or", .str "and", .str "then"]) hp8).trans (kp9.trans (Same.kp sz))))
          have Tz := T9.same sz
          rcases (show c = 1 ∨ c = 2 by omega) with rfl | rfl
          · refine ⟨p12, _, _, _, rfl, rfl, .inl (.inl upd_same), atI_nat (j := 0) rfl, ?_⟩
            walk_at "r"
            exact ⟨p10, .bi k p (.cls bb hs7 ls7), _, _, _, rfl, Im.mkbi upd10 A12 B12, ⟨hk2, h2, hC7⟩, (by simp only [Pat.n]; omega), (fun h => absurd h (by decide)), (fun _ => by simp only [Pat.n]; omega), kpz, Tz⟩
          · refine ⟨p12, _, _, _, rfl, rfl, .inl (.inl upd_same), atI_nat (j := 1) rfl, ?_⟩
            walk_at "r"
            exact ⟨p11, .bi k (.cls bb hs7 ls7) p, _, _, _, rfl, Im.mkbi upd11 B12 A12, ⟨hk2, hC7, h2⟩, (by simp only [Pat.n]; omega), (fun h => absurd h (by decide)), (fun _ => by simp only [Pat.n]; omega), kpz, Tz⟩
        · walk_at "r"
          exact ⟨a, p, _, _, _, rfl, h1, h2, h3, h4, (fun h => by have := h5 h; omega), kp6, T6⟩
      · walk_at "r"
        exact ⟨a, p, _, _, _, rfl, h1, h2, h3, h4, (fun h => by have := h5 h; omega), kp6, T6⟩
  · rintro σ H4 ⟨a, p, w6, w7, w8, rfl, h1, h2, h3, h4, h5, kp5, T5⟩
    walk_at "r"
    exact q a p H4 h1 h2 h3 kp5 T5
abbrev s_lawparts : Stmt := topS 15
abbrev N_lawparts : List Str := ["tree", "found", "operand"]
theorem sc_lawparts : FnScope N_lawparts ["tree"] (defScope s_lawparts) := ⟨rfl, rfl, rfl, by decide +kernel, rfl, by decide +kernel, by decide +kernel⟩

def sp_lawpartsm (K : PySem.W.Frag) (m : Nat) : Sp := fun vs H Q _ => ∃ (v : V) (p : Pat), vs = [v] ∧ Im H v p.d ∧ p.Ok ∧ (p.n ≤ m ∧ m ≤ 20) ∧
  ∀ a us H', Same H H' → H' a = some (.lst us) → ImAll H' us (p.parts.map Pat.d) → Q (.ref a) H'
def sp_lawparts (K : PySem.W.Frag) : Sp := sp_lawpartsm K 20

set_option maxHeartbeats 1000000 in
theorem okm_lawparts (D : Df K mg "_law_parts" s_lawparts ["tree"]) (B : Bn mg)   : ∀ m : Nat, Cal P w K mg base (1 + m) "_law_parts" ["tree"] (sp_lawpartsm K m)
  | 0 => by
    show Cal P w K mg base (0 + 1) _ _ _
    refine D.cal sc_lawparts ?_ ?_
    · intro vs H Q E h; obtain ⟨v, p, rfl, _⟩ := h; rfl
    intro f cdv A o s H vs Q E hr h
    exfalso; obtain ⟨v, p, rfl, hv, hp, hn, q⟩ := h; have := p.n_pos; omega
  | m + 1 => by
    have C_lawparts := okm_lawparts D B m
    refine D.cal (k := 1 + m) sc_lawparts ?_ ?_
    · intro vs H Q E h; obtain ⟨v, p, rfl, _⟩ := h; rfl
    intro f cdv A o s H vs Q E hr h
    obtain ⟨v, p, rfl, hv, hp, hn, q⟩ := h
    have nd := sc_lawparts.nd
    refine ⟨_, (pss_cons (ps_set (i := 1) nd rfl (Or.inl rfl) (pe_lst pa_nil))
    (pss_cons (ps_for PassesOwn.never rfl (show PI _ _ _ (iTup K _) from pi_tup (pe_slice (r := rSlT K) sl_tup (pv 0) (po_some pe_int) po_none)) (pg_name (i := 2) nd rfl (Or.inl rfl))
      (pss_one (ps_if (pt_val (pe_callB (id := "isinstance") (r := rIsi K) call_isi rfl B.isinstance_ (by decide +kernel) (pa_cons (pv 2) (pa_cons (pe_bltn (v := .ty "tuple") rfl B.tuple_ (by decide +kernel) rfl) pa_nil))))
        (pss_one (ps_set (i := 1) nd rfl (Or.inl rfl) (pe_op op_cat (pv 1) (pe_cal C_lawparts (by first | exact hr | exact hr.mono (by omega)) rfl (pa_cons (pv 2) pa_nil)))))
        pss_nil)))
    (pss_one (ps_ret (pe_op op_cat (pv 1) (pe_lst (pa_cons (pv 0) pa_nil))))))), ?_⟩
    obtain ⟨a, k, us, rfl, ha, hl, hT⟩ := hv.top
    walk_at "r"
    intro dp hdp
    walk_at "r"
    refine ⟨a, _, rfl, .inl (.inl (Same.new hdp _ _ ha)), cut1_no _ _, fun c hc => ?_⟩
    rw [cut1]
    refine ⟨c, rfl, ⟨us, .inl (.inl upd_same)⟩, ?_⟩
    have hd1 : upd (upd H dp (.lst [])) c (.tup us) dp = some (.lst []) := Same.new hc _ _ upd_same
    have smA : Same H (upd (upd H dp (.lst [])) c (.tup us)) := (Same.new hdp).trans (Same.new hc)
    have hcc : upd (upd H dp (.lst [])) c (.tup us) c = some (.tup us) := upd_same
    generalize upd (upd H dp (.lst [])) c (.tup us) = H1 at hd1 smA hcc
    have ops0 := Pat.ops_len p
    refine for_it (walk_tup (xs := us)) (fun i σ H' => ∃ (w : Option V) (l : Addr) (ys : List V), σ = [some (.ref a), some (.ref l), w] ∧ Same H1 H' ∧ H' l = some (.lst ys) ∧
      ImAll H' ys (((p.ops.take i).map Pat.parts).flatten.map Pat.d)) ⟨_, dp, [], rfl, Same.refl _, hd1, .nil⟩ (fun i σ H' _ h => ?_) ?_ ?_
    · obtain ⟨w, l, ys, _, sm, _⟩ := h
      exact .inl (.inl (sm _ _ hcc))
    · rintro i x σ H2 H3 hj ⟨w, l, ys, rfl, sm, hd, hys⟩ ⟨rfl, hx⟩
      refine ⟨_, rfl, ?_⟩
      rcases hT with ⟨_, hi⟩ | ⟨h0, hi⟩
      · obtain ⟨o, ho, hio⟩ := ImAll.op (Same.imAll smA hi) hx
        have hm := List.mem_of_getElem? ho
        have hio3 := Same.im sm hio
        obtain ⟨b, zs, rfl, hb, _⟩ := hio3.ref
        have hlt := Pat.ops_lt hm
        walk_at "r"
        refine ⟨_, .ty "tuple", _, _, _, rfl, .ty _, .base (.tup hb), kit_ty isi_tt, ?_⟩
        walk_at "r"
        refine ⟨.ref b, o, rfl, hio3, Pat.ops_ok hp o hm, by omega, fun c2 z2 H4 sm4 hc2 hz => ?_⟩
        have l1 := Pat.parts_take p i
        have l2 := hys.lenP
        have l3 := hz.lenP
        rw [Pat.parts_len] at l3
        refine ⟨l, c2, ys, z2, rfl, rfl, sm4 _ _ hd, hc2, le_size (by omega), fun l5 hl5 => ?_⟩
        have s5 := Same.new (o := .lst (ys ++ z2)) hl5
        refine ⟨_, l5, ys ++ z2, rfl, sm.trans (sm4.trans s5), upd_same, ?_⟩
        rw [List.take_add_one, ho]
        simp only [Option.toList_some, List.map_append, List.flatten_append, List.map_cons, List.map_nil, List.flatten_cons, List.flatten_nil, List.append_nil]
        exact ImAll.append (Same.imAll (sm4.trans s5) hys) (Same.imAll s5 hz)
      · have hm := List.mem_of_getElem? hx
        have e1 : (p.ops.take (i + 1)) = p.ops.take i := by rw [h0]; simp
        rcases hi x hm with ⟨b, rfl⟩ | ⟨z, rfl⟩
        · walk_at "r"
          refine ⟨_, .ty "tuple", _, _, _, rfl, .ty _, .base (.bl b), kit_ty isi_bt, ?_⟩
          walk_at "r"
          exact ⟨_, l, ys, rfl, sm, hd, by rw [e1]; exact hys⟩
        · walk_at "r"
          refine ⟨_, .ty "tuple", _, _, _, rfl, .ty _, .base (.str z), kit_ty isi_st, ?_⟩
          walk_at "r"
          exact ⟨_, l, ys, rfl, sm, hd, by rw [e1]; exact hys⟩
    · rintro σ H2 ⟨w, l, ys, rfl, sm, hd, hys⟩
      have e1 : p.ops.take us.length = p.ops := by
        rcases hT with ⟨_, hi⟩ | ⟨h0, hi⟩
        · rw [hi.lenP, List.take_length]
        · rw [h0]; simp
      rw [e1] at hys
      have l1 := Pat.parts_take p p.ops.length
      rw [List.take_length] at l1
      walk_at "r"
      intro c2 hc2
      have l2 := hys.lenP
      refine ⟨l, c2, ys, _, rfl, rfl, Same.new hc2 _ _ hd, upd_same, le_size (by show ys.length + 1 ≤ 1000; omega), fun l5 hl5 => ?_⟩
      have s5 := (Same.new (o := .lst [V.ref a]) hc2).trans (Same.new (o := .lst (ys ++ [V.ref a])) hl5)
      refine q l5 _ _ (smA.trans (sm.trans s5)) upd_same ?_
      rw [Pat.parts_ops, List.map_append]
      exact ImAll.append (Same.imAll s5 hys) (.cons (Same.im (smA.trans (sm.trans s5)) hv) .nil)
theorem ok_lawparts (D : Df K mg "_law_parts" s_lawparts ["tree"]) (B : Bn mg)   : Cal P w K mg base 21 "_law_parts" ["tree"] (sp_lawparts K) := okm_lawparts D B 20
abbrev s_operandsof : Stmt := topS 1
abbrev N_operandsof : List Str := ["tree"]
theorem sc_operandsof : FnScope N_operandsof ["tree"] (defScope s_operandsof) := ⟨rfl, rfl, rfl, by decide +kernel, rfl, by decide +kernel, by decide +kernel⟩

def sp_operandsof (K : PySem.W.Frag) : Sp := fun vs H Q _ => ∃ (v : V) (p : Pat), vs = [v] ∧ Im H v p.d ∧ p.Ok ∧
  ∀ a us H', Same H H' → H' a = some (.tup us) → ImAll H' us (p.ops.map Pat.d) → Q (.ref a) H'

set_option maxHeartbeats 1000000 in
theorem ok_operandsof (D : Df K mg "operands_of" s_operandsof ["tree"]) (B : Bn mg)   : Cal P w K mg base 1 "operands_of" ["tree"] (sp_operandsof K) := by
  refine D.cal sc_operandsof ?_ ?_
  · intro vs H Q E h; obtain ⟨v, p, rfl, _⟩ := h; rfl
  intro f cdv A o s H vs Q E hr h
  obtain ⟨v, p, rfl, hv, hp, q⟩ := h
  have nd := sc_operandsof.nd
  refine ⟨_, (pss_cons (ps_if (pt_cmpR (r := rIn K false) op_in_seq (pe_ix (r := rIxT K) ix_tup (pv 0) pe_int (fun _ _ => rfl)) (pe_tup (pa_cons pe_str (pa_cons pe_str pa_nil))) rfl)
      (pss_one (ps_ret (pe_tup pa_nil)))
      pss_nil)
    (pss_one (ps_ret (pe_slice (r := rSlT K) sl_tup (pv 0) (po_some pe_int) po_none)))), ?_⟩
  have n1 : ∀ k : Str, k = "star" ∨ k = "not" → inV (V.str k) [V.str (Str.ofString "empty"), V.str (Str.ofString "class")] = false := by
    rintro k (rfl | rfl) <;> rfl
  have n2 : ∀ k : Str, k = "then" ∨ k = "or" ∨ k = "and" → inV (V.str k) [V.str (Str.ofString "empty"), V.str (Str.ofString "class")] = false := by
    rintro k (rfl | rfl | rfl) <;> rfl
  cases p with
  | emp =>
    obtain ⟨a, rfl, ha⟩ := hv.emp
    walk_at "r"
    intro p1 hp1
    refine ⟨_, _, rfl, .inr (.inl (.inl (by walk_at "h"))), rfl, rfl, ?_⟩
    walk_at "r"
    intro p2 hp2
    exact q p2 _ _ ((Same.new hp1).trans (Same.new hp2)) upd_same .nil
  | cls b hs ls =>
    obtain ⟨a, rfl, ha⟩ := Im.cls hv
    walk_at "r"
    intro p1 hp1
    refine ⟨_, _, rfl, .inr (.inl (.inl (by walk_at "h"))), rfl, rfl, ?_⟩
    walk_at "r"
    intro p2 hp2
    exact q p2 _ _ ((Same.new hp1).trans (Same.new hp2)) upd_same .nil
  | un k o =>
    obtain ⟨a, u, rfl, ha, hu⟩ := hv.un
    walk_at "r"
    intro p1 hp1
    refine ⟨_, _, rfl, .inr (.inl (.inl (by walk_at "h"))), rfl, rfl, ?_⟩
    refine ⟨_, rfl, ?_⟩
    refine iteFe (n1 k hp.1) ?_
    walk_at "r"
    refine ⟨a, _, rfl, .inl (.inl (Same.new hp1 _ _ ha)), (by show ¬ (HT.sIx 2 0 (some (1 : Int)) = 0 ∧ HT.sIx 2 2 none = 2); decide), fun p2 hp2 => ?_⟩
    exact q p2 [u] _ ((Same.new hp1).trans (Same.new hp2)) upd_same (.cons (Same.im ((Same.new hp1).trans (Same.new hp2)) hu) .nil)
  | bi k o r =>
    obtain ⟨a, u, w, rfl, ha, hu, hw⟩ := hv.bi
    walk_at "r"
    intro p1 hp1
    refine ⟨_, _, rfl, .inr (.inl (.inl (by walk_at "h"))), rfl, rfl, ?_⟩
    refine ⟨_, rfl, ?_⟩
    refine iteFe (n2 k hp.1) ?_
    walk_at "r"
    refine ⟨a, _, rfl, .inl (.inl (Same.new hp1 _ _ ha)), (by show ¬ (HT.sIx 3 0 (some (1 : Int)) = 0 ∧ HT.sIx 3 3 none = 3); decide), fun p2 hp2 => ?_⟩
    exact q p2 [u, w] _ ((Same.new hp1).trans (Same.new hp2)) upd_same (.cons (Same.im ((Same.new hp1).trans (Same.new hp2)) hu) (.cons (Same.im ((Same.new hp1).trans (Same.new hp2)) hw) .nil))
abbrev s_mirrored : Stmt := topS 4
abbrev N_mirrored : List Str := ["tree", "operands", "turned", "operand"]
theorem sc_mirrored : FnScope N_mirrored ["tree"] (defScope s_mirrored) := ⟨rfl, rfl, rfl, by decide +kernel, rfl, by decide +kernel, by decide +kernel⟩

def sp_mirroredm (K : PySem.W.Frag) (m : Nat) : Sp := fun vs H Q _ => ∃ (v : V) (p : Pat), vs = [v] ∧ Im H v p.d ∧ p.Ok ∧ p.n ≤ m ∧
  ∀ a H', Same H H' → Im H' (.ref a) p.mir.d → Q (.ref a) H'
def sp_mirrored (K : PySem.W.Frag) : Sp := sp_mirroredm K 20

set_option maxHeartbeats 1000000 in
theorem okm_mirrored (D : Df K mg "mirrored" s_mirrored ["tree"]) (B : Bn mg) (C_operandsof : Cal P w K mg base 1 "operands_of" ["tree"] (sp_operandsof K))  : ∀ m : Nat, Cal P w K mg base (2 + m) "mirrored" ["tree"] (sp_mirroredm K m)
  | 0 => by
    show Cal P w K mg base (1 + 1) _ _ _
    refine D.cal sc_mirrored ?_ ?_
    · intro vs H Q E h; obtain ⟨v, p, rfl, _⟩ := h; rfl
    intro f cdv A o s H vs Q E hr h
    exfalso; obtain ⟨v, p, rfl, hv, hp, hn, q⟩ := h; have := p.n_pos; omega
  | m + 1 => by
    have C_mirrored := okm_mirrored D B C_operandsof m
    refine D.cal (k := 2 + m) sc_mirrored ?_ ?_
    · intro vs H Q E h; obtain ⟨v, p, rfl, _⟩ := h; rfl
    intro f cdv A o s H vs Q E hr h
    obtain ⟨v, p, rfl, hv, hp, hn, q⟩ := h
    have nd := sc_mirrored.nd
    refine ⟨_, (pss_cons (ps_set (i := 1) nd rfl (Or.inl rfl) (pe_cal C_operandsof (by first | exact hr | exact hr.mono (by omega)) rfl (pa_cons (pv 0) pa_nil)))
    (pss_cons (ps_if (pt_not (show PT _ _ (tTru K _) from pt_truK (pv 1) (by intro _; rfl)))
      (pss_one (ps_ret (pv 0)))
      pss_nil)
    (pss_cons (ps_set (i := 2) nd rfl (Or.inl rfl) (pe_callTy (T := "tuple") (r := rTupOf K) call_tupK rfl B.tuple_ (by decide +kernel) (pa_cons (pe_lc (own := [("operand", 3)]) rfl nd (show PI _ _ _ (iTup K _) from pi_tup (pv 1)) (blkOk_by (N := N_mirrored) (sc := defScope s_mirrored) (by decide +kernel)) (fun _ _ _ _ _ => (pg_name (i := 3) nd rfl (Or.inl rfl))) (fun _ _ _ _ _ => pts_nil) (fun _ _ _ _ _ => (pe_cal C_mirrored (by first | exact hr | exact hr.mono (by omega)) rfl (pa_cons (pv 3) pa_nil)))) pa_nil)))
    (pss_cons (ps_if (pt_cmpR op_eq (pe_ix (r := rIxT K) ix_tup (pv 0) pe_int (fun _ _ => rfl)) pe_str (nomark _))
      (pss_one (ps_set (i := 2) nd rfl (Or.inl rfl) (show PE _ _ (tRevT K _) from pe_revT (pv 2))))
      pss_nil)
    (pss_one (ps_ret (pe_tup (pa_cons (pe_ix (r := rIxT K) ix_tup (pv 0) pe_int (fun _ _ => rfl)) (show PA _ _ (StX.tStar K _ _) from StX.pa_star (pv 2) pa_nil))))))))), ?_⟩
    walk_at "r"
    refine ⟨v, p, rfl, hv, hp, fun a us H1 sm1 ha hi => ?_⟩
    walk_at "r"
    refine ⟨_, .inr (.inl ⟨us, .inl (.inl ha), rfl⟩), ?_⟩
    refine ite2 (fun e => ?_) (fun e => ?_)
    · have hp0 : p.ops = [] := by
        have h1 := hi.lenP
        cases us with
        | nil => exact List.length_eq_zero_iff.mp h1.symm
        | cons x xs => simp at e
      obtain ⟨b, xs, rfl, _, _⟩ := hv.ref
      walk_at "r"
      refine q b _ sm1 ?_
      rw [Pat.mir_leaf hp0]
      exact Same.im sm1 hv
    have hp1 : p.ops ≠ [] := by
      intro h0
      have h1 := hi.lenP
      rw [h0] at h1
      have : us = [] := List.length_eq_zero_iff.mp h1
      subst this
      simp at e
    walk_at "r"
    refine ⟨⟨us, .inl (.inl ha)⟩, ?_⟩
    intro dp hdp
    refine it_any (walk_tup (xs := us)) (fun i H' => ∃ ys, Same H1 H' ∧ H' dp = some (.lst ys) ∧ ImAll H' ys (((p.ops.take i).map Pat.mir).map Pat.d)) ⟨[], Same.new hdp, upd_same, .nil⟩
      (fun i H' _ ⟨_, h⟩ => .inl (.inl (h.1 _ _ ha))) ?_ ?_
    · rintro i x H2 H3 hj ⟨ys, sm, hd, hys⟩ ⟨rfl, hx⟩
      obtain ⟨o, ho, hio⟩ := ImAll.op hi hx
      have hm := List.mem_of_getElem? ho
      refine ⟨rfl, yes_ite ?_⟩
      walk_at "r"
      refine ⟨x, o, rfl, Same.im sm hio, Pat.ops_ok hp o hm, (by have := Pat.ops_lt hm; omega), fun c H4 sm4 hc => ?_⟩
      refine ⟨_, sm4 _ _ hd, ?_, ys ++ [.ref c], Same.putNew (sm.trans sm4) hdp, upd_same, ?_⟩
      · have := Pat.ops_len p
        rw [hys.lenP, List.length_map, List.length_take]
        exact small1000 (by omega)
      · rw [List.take_add_one, ho]
        simp only [Option.toList_some, List.map_append, List.map_cons, List.map_nil]
        have k4 := (Same.kt sm4).trans (KT.lput (ys := ys ++ [.ref c]) (sm4 _ _ hd))
        exact ImAll.snoc (hys.kt k4) (hc.kt (KT.lput (sm4 _ _ hd)))
    rintro H2 ⟨ys, sm, hd, hys⟩
    rw [ImAll.lenP hi, List.take_length] at hys
    refine ⟨dp, _, rfl, .inl ⟨.inl (.inl hd), fun c hc => ?_⟩⟩
    have smz : Same H (upd H2 c (.tup ys)) := sm1.trans (sm.trans (Same.new hc))
    have hys2 := Same.imAll (Same.new (o := .tup ys) hc) hys
    rcases Pat.inner hp1 with ⟨k, o, rfl⟩ | ⟨k, o, r, rfl⟩
    · obtain ⟨b, u, rfl, hb, hu⟩ := (Same.im smz hv).un
      obtain ⟨y, rfl, hy⟩ : ∃ y, ys = [y] ∧ Im (upd H2 c (.tup ys)) y o.mir.d := by
        cases hys2 with
        | cons a1 a2 => cases a2; exact ⟨_, rfl, a1⟩
      walk_at "r"
      refine iteFe (by rcases hp.1 with rfl | rfl <;> decide) ?_
      walk_at "r"
      intro z hz
      exact q z _ (smz.trans (Same.new hz)) (Im.mkun upd_same (Same.im (Same.new hz) hy))
    · obtain ⟨b, u, w, rfl, hb, _⟩ := (Same.im smz hv).bi
      obtain ⟨y, x, rfl, hy, hx⟩ : ∃ y x, ys = [y, x] ∧ Im (upd H2 c (.tup ys)) y o.mir.d ∧ Im (upd H2 c (.tup ys)) x r.mir.d := by
        cases hys2 with
        | cons a1 a2 => cases a2 with
          | cons b1 b2 => cases b2; exact ⟨_, _, rfl, a1, b1⟩
      walk_at "r"
      by_cases hk : k = "then"
      · rw [hk] at hb
        refine iteTe (by rw [hk]; decide) ?_
        walk_at "r"
        refine ⟨c, [y, x], rfl, .inl (.inl upd_same), fun c2 hc2 => ?_⟩
        have hb2 := Same.new (o := .tup [y, x].reverse) hc2 _ _ hb
        walk_at "r"
        intro z hz
        refine q z _ (smz.trans ((Same.new hc2).trans (Same.new hz))) ?_
        rw [Pat.mir, if_pos hk, hk]
        have k2 := (Same.new (o := .tup [y, x].reverse) hc2).trans (Same.new (o := .tup [.str "then", x, y]) hz)
        exact Im.mkbi upd_same (Same.im k2 hx) (Same.im k2 hy)
      · refine iteFe (decide_eq_false fun h => hk (by injection h)) ?_
        walk_at "r"
        intro z hz
        refine q z _ (smz.trans (Same.new hz)) ?_
        rw [Pat.mir, if_neg hk]
        exact Im.mkbi upd_same (Same.im (Same.new hz) hy) (Same.im (Same.new hz) hx)
theorem ok_mirrored (D : Df K mg "mirrored" s_mirrored ["tree"]) (B : Bn mg) (C_operandsof : Cal P w K mg base 1 "operands_of" ["tree"] (sp_operandsof K))  : Cal P w K mg base 22 "mirrored" ["tree"] (sp_mirrored K) := okm_mirrored D B C_operandsof 20
abbrev s_nodecount : Stmt := topS 2
abbrev N_nodecount : List Str := ["tree", "operand"]
theorem sc_nodecount : FnScope N_nodecount ["tree"] (defScope s_nodecount) := ⟨rfl, rfl, rfl, by decide +kernel, rfl, by decide +kernel, by decide +kernel⟩

def sp_nodecountm (K : PySem.W.Frag) (m : Nat) : Sp := fun vs H Q _ => ∃ (v : V) (p : Pat), vs = [v] ∧ Im H v p.d ∧ p.Ok ∧ p.n ≤ m ∧ ∀ H', Same H H' → Q (.int (p.n : Nat)) H'
def sp_nodecount (K : PySem.W.Frag) : Sp := sp_nodecountm K 20

set_option maxHeartbeats 1000000 in
theorem okm_nodecount (D : Df K mg "node_count" s_nodecount ["tree"]) (B : Bn mg) (C_operandsof : Cal P w K mg base 1 "operands_of" ["tree"] (sp_operandsof K))  : ∀ m : Nat, Cal P w K mg base (2 + m) "node_count" ["tree"] (sp_nodecountm K m)
  | 0 => by
    show Cal P w K mg base (1 + 1) _ _ _
    refine D.cal sc_nodecount ?_ ?_
    · intro vs H Q E h; obtain ⟨v, p, rfl, _⟩ := h; rfl
    intro f cdv A o s H vs Q E hr h
    exfalso; obtain ⟨v, p, rfl, hv, hp, hn, q⟩ := h; have := p.n_pos; omega
  | m + 1 => by
    have C_nodecount := okm_nodecount D B C_operandsof m
    refine D.cal (k := 2 + m) sc_nodecount ?_ ?_
    · intro vs H Q E h; obtain ⟨v, p, rfl, _⟩ := h; rfl
    intro f cdv A o s H vs Q E hr h
    obtain ⟨v, p, rfl, hv, hp, hn, q⟩ := h
    have nd := sc_nodecount.nd
    refine ⟨_, (pss_one (ps_ret (pe_op op_add pe_int (pe_callB (id := "sum") (cr_sum rfl) rfl B.sum_ (by decide +kernel) (pa_cons (pe_lc (own := [("operand", 1)]) rfl nd (show PI _ _ _ (iTup K _) from pi_tup (pe_cal C_operandsof (by first | exact hr | exact hr.mono (by omega)) rfl (pa_cons (pv 0) pa_nil))) (blkOk_by (N := N_nodecount) (sc := defScope s_nodecount) (by decide +kernel)) (fun _ _ _ _ _ => (pg_name (i := 1) nd rfl (Or.inl rfl))) (fun _ _ _ _ _ => pts_nil) (fun _ _ _ _ _ => (pe_cal C_nodecount (by first | exact hr | exact hr.mono (by omega)) rfl (pa_cons (pv 1) pa_nil)))) pa_nil))))), ?_⟩
    walk_at "r"
    refine ⟨v, p, rfl, hv, hp, fun a us H1 sm1 ha hi => ?_⟩
    refine ⟨a, rfl, ⟨us, .inl (.inl ha)⟩, ?_⟩
    intro dp hdp
    refine it_any (walk_tup (xs := us)) (fun i H' => Same H1 H' ∧ H' dp = some (.lst (((p.ops.take i).map fun o => (o.n : Int)).map V.int))) ⟨Same.new hdp, upd_same⟩ (fun i H' _ h => .inl (.inl (h.1 _ _ ha))) ?_ ?_
    · rintro i x H2 H3 hj ⟨sm, hd⟩ ⟨rfl, hx⟩
      obtain ⟨o, ho, hio⟩ := ImAll.op hi hx
      have hm := List.mem_of_getElem? ho
      refine ⟨rfl, yes_ite ?_⟩
      walk_at "r"
      refine ⟨x, o, rfl, Same.im sm hio, Pat.ops_ok hp o hm, (by have := Pat.ops_lt hm; omega), fun H4 sm4 => ?_⟩
      refine ⟨_, sm4 _ _ hd, ?_, Same.putNew (sm.trans sm4) hdp, ?_⟩
      · have := Pat.ops_len p
        rw [List.length_map, List.length_map, List.length_take]
        exact small1000 (by omega)
      · rw [upd_same, List.take_add_one, ho]
        simp
    rintro H2 ⟨sm, hd⟩
    rw [ImAll.lenP hi, List.take_length] at hd
    refine ⟨dp, _, rfl, .inl (.inl hd), ?_⟩
    walk_at "r"
    have := q _ (sm1.trans sm)
    rw [← Pat.n_sum] at this
    exact this
theorem ok_nodecount (D : Df K mg "node_count" s_nodecount ["tree"]) (B : Bn mg) (C_operandsof : Cal P w K mg base 1 "operands_of" ["tree"] (sp_operandsof K))  : Cal P w K mg base 22 "node_count" ["tree"] (sp_nodecount K) := okm_nodecount D B C_operandsof 20
abbrev s_partsof : Stmt := topS 3
abbrev N_partsof : List Str := ["tree", "parts", "operand"]
theorem sc_partsof : FnScope N_partsof ["tree"] (defScope s_partsof) := ⟨rfl, rfl, rfl, by decide +kernel, rfl, by decide +kernel, by decide +kernel⟩

def sp_partsofm (K : PySem.W.Frag) (m : Nat) : Sp := fun vs H Q _ => ∃ (v : V) (p : Pat), vs = [v] ∧ Im H v p.d ∧ p.Ok ∧ (p.n ≤ m ∧ m ≤ 20) ∧
  ∀ a us H', Same H H' → TupG H' a us → ImAll H' us (p.parts.map Pat.d) → Q (.ref a) H'
def sp_partsof (K : PySem.W.Frag) : Sp := sp_partsofm K 20

set_option maxHeartbeats 1000000 in
theorem okm_partsof (D : Df K mg "parts_of" s_partsof ["tree"]) (B : Bn mg) (C_operandsof : Cal P w K mg base 1 "operands_of" ["tree"] (sp_operandsof K))  : ∀ m : Nat, Cal P w K mg base (2 + m) "parts_of" ["tree"] (sp_partsofm K m)
  | 0 => by
    show Cal P w K mg base (1 + 1) _ _ _
    refine D.cal sc_partsof ?_ ?_
    · intro vs H Q E h; obtain ⟨v, p, rfl, _⟩ := h; rfl
    intro f cdv A o s H vs Q E hr h
    exfalso; obtain ⟨v, p, rfl, hv, hp, hn, q⟩ := h; have := p.n_pos; omega
  | m + 1 => by
    have C_partsof := okm_partsof D B C_operandsof m
    refine D.cal (k := 2 + m) sc_partsof ?_ ?_
    · intro vs H Q E h; obtain ⟨v, p, rfl, _⟩ := h; rfl
    intro f cdv A o s H vs Q E hr h
    obtain ⟨v, p, rfl, hv, hp, hn, q⟩ := h
    have nd := sc_partsof.nd
    refine ⟨_, (pss_cons (ps_set (i := 1) nd rfl (Or.inl rfl) (pe_lst pa_nil))
    (pss_cons (ps_for PassesOwn.never rfl (show PI _ _ _ (iTup K _) from pi_tup (pe_cal C_operandsof (by first | exact hr | exact hr.mono (by omega)) rfl (pa_cons (pv 0) pa_nil))) (pg_name (i := 2) nd rfl (Or.inl rfl))
      (pss_one (ps_expr (pe_bm PySem.F.plainAttrs_list PySem.F.slot_list_extend PySem.F.type_list_extend mt_extG (pv 1) (pa_cons (pe_cal C_partsof (by first | exact hr | exact hr.mono (by omega)) rfl (pa_cons (pv 2) pa_nil)) pa_nil)))))
    (pss_cons (ps_expr (pe_bm PySem.F.plainAttrs_list PySem.F.slot_list_append PySem.F.type_list_append mt_append (pv 1) (pa_cons (pv 0) pa_nil)))
    (pss_one (ps_ret (pe_callTy (T := "tuple") (r := rTupG K) call_tupG rfl B.tuple_ (by decide +kernel) (pa_cons (pv 1) pa_nil))))))), ?_⟩
    walk_at "r"
    intro dp hdp
    walk_at "r"
    refine ⟨v, p, rfl, Same.im (Same.new hdp) hv, hp, fun a us H1 sm1 ha hi => ?_⟩
    have hd1 : H1 dp = some (.lst []) := sm1 _ _ upd_same
    have smA : Same H H1 := (Same.new hdp).trans sm1
    refine ⟨a, rfl, ⟨us, .inl (.inl ha)⟩, ?_⟩
    refine for_it (walk_tup (xs := us)) (fun i σ H' => ∃ (w : Option V) (ys : List V), σ = [some v, some (.ref dp), w] ∧ Same H H' ∧ KT H1 H' ∧ H' dp = some (.lst ys) ∧
      ImAll H' ys (((p.ops.take i).map Pat.parts).flatten.map Pat.d)) ⟨_, [], rfl, smA, KT.refl _, hd1, .nil⟩ (fun i σ H' _ h => ?_) ?_ ?_
    · obtain ⟨w, ys, _, _, kt, _⟩ := h
      exact .inl (.inl (kt _ _ ha))
    · rintro i x σ H2 H3 hj ⟨w, ys, rfl, sm, kt, hd, hys⟩ ⟨rfl, hx⟩
      obtain ⟨o, ho, hio⟩ := ImAll.op hi hx
      have hm := List.mem_of_getElem? ho
      refine ⟨_, rfl, .inl ⟨rfl, _, .inl (.inl hd)⟩, ?_⟩
      have hlt := Pat.ops_lt hm
      walk_at "r"
      refine ⟨x, o, rfl, hio.kt kt, Pat.ops_ok hp o hm, (by omega), fun c zs H4 sm4 hc hz => ?_⟩
      have l1 := Pat.parts_take p i
      have l2 := hys.lenP
      have l3 := hz.lenP
      rw [Pat.parts_len] at l3
      refine ⟨dp, c, _, _, rfl, rfl, sm4 _ _ hd, hc, le_size (by omega), ?_⟩
      have kt4 := KT.lput (ys := ys ++ zs) (sm4 _ _ hd)
      refine ⟨_, _, rfl, Same.putNew (sm.trans sm4) hdp, kt.trans ((Same.kt sm4).trans kt4), upd_same, ?_⟩
      rw [List.take_add_one, ho]
      simp only [Option.toList_some, List.map_append, List.flatten_append, List.map_cons, List.map_nil, List.flatten_cons, List.flatten_nil, List.append_nil]
      exact ImAll.append (hys.kt ((Same.kt sm4).trans kt4)) (hz.kt kt4)
    · rintro σ H2 ⟨w, ys, rfl, sm, kt, hd, hys⟩
      rw [ImAll.lenP hi, List.take_length] at hys
      refine ⟨_, rfl, .inl ⟨rfl, _, .inl (.inl hd)⟩, ?_⟩
      walk_at "r"
      have l1 := Pat.parts_take p p.ops.length
      rw [List.take_length] at l1
      refine ⟨dp, _, _, rfl, rfl, hd, ?_, ?_⟩
      · rw [hys.lenP]
        exact small1000 (by omega)
      walk_at "r"
      refine ⟨dp, _, rfl, .inl (.inl upd_same), fun l o hl ho => ?_⟩
      have s1 : Same H (upd H2 dp (.lst (ys ++ [v]))) := Same.putNew sm hdp
      have s2 : Same H (upd (upd H2 dp (.lst (ys ++ [v]))) l (.frz o (.tup (ys ++ [v])))) := s1.trans (Same.new hl)
      refine q l (ys ++ [v]) _ s2 ⟨o, upd_same, ho⟩ ?_
      rw [Pat.parts_ops, List.map_append]
      exact ImAll.append (hys.kt ((KT.lput hd).trans (KT.new hl))) (.cons (Same.im s2 hv) .nil)
theorem ok_partsof (D : Df K mg "parts_of" s_partsof ["tree"]) (B : Bn mg) (C_operandsof : Cal P w K mg base 1 "operands_of" ["tree"] (sp_operandsof K))  : Cal P w K mg base 22 "parts_of" ["tree"] (sp_partsof K) := okm_partsof D B C_operandsof 20
abbrev s_lawmirrored : Stmt := topS 16
abbrev N_lawmirrored : List Str := ["tree"]
theorem sc_lawmirrored : FnScope N_lawmirrored ["tree"] (defScope s_lawmirrored) := ⟨rfl, rfl, rfl, by decide +kernel, rfl, by decide +kernel, by decide +kernel⟩

def sp_lawmirroredm (K : PySem.W.Frag) (m : Nat) : Sp := fun vs H Q _ => ∃ (v : V) (p : Pat), vs = [v] ∧ Im H v p.d ∧ p.Ok ∧ p.n ≤ m ∧
  ∀ a H', Same H H' → Im H' (.ref a) p.mir.d → Q (.ref a) H'
def sp_lawmirrored (K : PySem.W.Frag) : Sp := sp_lawmirroredm K 20

set_option maxHeartbeats 1000000 in
theorem okm_lawmirrored (D : Df K mg "_law_mirrored" s_lawmirrored ["tree"]) (B : Bn mg)   : ∀ m : Nat, Cal P w K mg base (1 + m) "_law_mirrored" ["tree"] (sp_lawmirroredm K m)
  | 0 => by
    show Cal P w K mg base (0 + 1) _ _ _
    refine D.cal sc_lawmirrored ?_ ?_
    · intro vs H Q E h; obtain ⟨v, p, rfl, _⟩ := h; rfl
    intro f cdv A o s H vs Q E hr h
    exfalso; obtain ⟨v, p, rfl, hv, hp, hn, q⟩ := h; have := p.n_pos; omega
  | m + 1 => by
    have C_lawmirrored := okm_lawmirrored D B m
    refine D.cal (k := 1 + m) sc_lawmirrored ?_ ?_
    · intro vs H Q E h; obtain ⟨v, p, rfl, _⟩ := h; rfl
    intro f cdv A o s H vs Q E hr h
    obtain ⟨v, p, rfl, hv, hp, hn, q⟩ := h
    have nd := sc_lawmirrored.nd
    refine ⟨_, (pss_cons (ps_if (pt_cmpR op_eq (pe_ix (r := rIxT K) ix_tup (pv 0) pe_int (fun _ _ => rfl)) pe_str (nomark _))
      (pss_one (ps_ret (pe_tup (pa_cons pe_str (pa_cons (pe_cal C_lawmirrored (by first | exact hr | exact hr.mono (by omega)) rfl (pa_cons (pe_ix (r := rIxT K) ix_tup (pv 0) pe_int (fun _ _ => rfl)) pa_nil)) (pa_cons (pe_cal C_lawmirrored (by first | exact hr | exact hr.mono (by omega)) rfl (pa_cons (pe_ix (r := rIxT K) ix_tup (pv 0) pe_int (fun _ _ => rfl)) pa_nil)) pa_nil))))))
      pss_nil)
    (pss_cons (ps_if (pt_cmpR (r := rIn K false) op_in_seq (pe_ix (r := rIxT K) ix_tup (pv 0) pe_int (fun _ _ => rfl)) (pe_lst (pa_cons pe_str (pa_cons pe_str pa_nil))) rfl)
      (pss_one (ps_ret (pe_tup (pa_cons (pe_ix (r := rIxT K) ix_tup (pv 0) pe_int (fun _ _ => rfl)) (pa_cons (pe_cal C_lawmirrored (by first | exact hr | exact hr.mono (by omega)) rfl (pa_cons (pe_ix (r := rIxT K) ix_tup (pv 0) pe_int (fun _ _ => rfl)) pa_nil)) (pa_cons (pe_cal C_lawmirrored (by first | exact hr | exact hr.mono (by omega)) rfl (pa_cons (pe_ix (r := rIxT K) ix_tup (pv 0) pe_int (fun _ _ => rfl)) pa_nil)) pa_nil))))))
      pss_nil)
    (pss_cons (ps_if (pt_cmpR (r := rIn K false) op_in_seq (pe_ix (r := rIxT K) ix_tup (pv 0) pe_int (fun _ _ => rfl)) (pe_lst (pa_cons pe_str (pa_cons pe_str pa_nil))) rfl)
      (pss_one (ps_ret (pe_tup (pa_cons (pe_ix (r := rIxT K) ix_tup (pv 0) pe_int (fun _ _ => rfl)) (pa_cons (pe_cal C_lawmirrored (by first | exact hr | exact hr.mono (by omega)) rfl (pa_cons (pe_ix (r := rIxT K) ix_tup (pv 0) pe_int (fun _ _ => rfl)) pa_nil)) pa_nil)))))
      pss_nil)
    (pss_one (ps_ret (pv 0)))))), ?_⟩
    cases p with
    | emp =>
      obtain ⟨a, rfl, ha⟩ := hv.emp
      walk_at "r"
      intro p1 hp1
      refine ⟨_, _, rfl, .inl (.inl (.inl upd_same)), rfl, rfl, ?_⟩
      have ha1 := Same.new (o := .lst [.str "or", .str "and"]) hp1 _ _ ha
      walk_at "r"
      intro p2 hp2
      refine ⟨_, _, rfl, .inl (.inl (.inl upd_same)), rfl, rfl, ?_⟩
      walk_at "r"
      exact q a _ ((Same.new hp1).trans (Same.new hp2)) (Same.im ((Same.new hp1).trans (Same.new hp2)) hv)
    | cls b hs ls =>
      obtain ⟨a, rfl, ha⟩ := Im.cls hv
      walk_at "r"
      intro p1 hp1
      refine ⟨_, _, rfl, .inl (.inl (.inl upd_same)), rfl, rfl, ?_⟩
      have ha1 := Same.new (o := .lst [.str "or", .str "and"]) hp1 _ _ ha
      walk_at "r"
      intro p2 hp2
      refine ⟨_, _, rfl, .inl (.inl (.inl upd_same)), rfl, rfl, ?_⟩
      walk_at "r"
      exact q a _ ((Same.new hp1).trans (Same.new hp2)) (Same.im ((Same.new hp1).trans (Same.new hp2)) hv)
    | un k o =>
      obtain ⟨a, u, rfl, ha, hu⟩ := hv.un
      rcases hp.1 with rfl | rfl
      · skip
        walk_at "r"
        intro p1 hp1
        refine ⟨_, _, rfl, .inl (.inl (.inl upd_same)), rfl, rfl, ?_⟩
        have ha1 := Same.new (o := .lst [.str "or", .str "and"]) hp1 _ _ ha
        walk_at "r"
        intro p2 hp2
        refine ⟨_, _, rfl, .inl (.inl (.inl upd_same)), rfl, rfl, ?_⟩
        have ha2 := Same.new (o := .lst [.str "star", .str "not"]) hp2 _ _ ha1
        have sm2 := (Same.new (o := .lst [.str "or", .str "and"]) hp1).trans (Same.new (o := .lst [.str "star", .str "not"]) hp2)
        walk_at "r"
        refine ⟨u, o, rfl, Same.im sm2 hu, hp.2, (by simp only [Pat.n] at hn; omega), fun c H4 sm4 hc => ?_⟩
        walk_at "r"
        intro z hz
        exact q z _ (sm2.trans (sm4.trans (Same.new hz))) (Im.mkun upd_same (Same.im (Same.new hz) hc))
      · skip
        walk_at "r"
        intro p1 hp1
        refine ⟨_, _, rfl, .inl (.inl (.inl upd_same)), rfl, rfl, ?_⟩
        have ha1 := Same.new (o := .lst [.str "or", .str "and"]) hp1 _ _ ha
        walk_at "r"
        intro p2 hp2
        refine ⟨_, _, rfl, .inl (.inl (.inl upd_same)), rfl, rfl, ?_⟩
        have ha2 := Same.new (o := .lst [.str "star", .str "not"]) hp2 _ _ ha1
        have sm2 := (Same.new (o := .lst [.str "or", .str "and"]) hp1).trans (Same.new (o := .lst [.str "star", .str "not"]) hp2)
        walk_at "r"
        refine ⟨u, o, rfl, Same.im sm2 hu, hp.2, (by simp only [Pat.n] at hn; omega), fun c H4 sm4 hc => ?_⟩
        walk_at "r"
        intro z hz
        exact q z _ (sm2.trans (sm4.trans (Same.new hz))) (Im.mkun upd_same (Same.im (Same.new hz) hc))
    | bi k o r =>
      obtain ⟨a, u, w, rfl, ha, hu, hw⟩ := hv.bi
      rcases hp.1 with rfl | rfl | rfl
      · walk_at "r"
        refine ⟨w, r, rfl, hw, hp.2.2, (by simp only [Pat.n] at hn; omega), fun c H4 sm4 hc => ?_⟩
        have ha4 := sm4 _ _ ha
        walk_at "r"
        refine ⟨u, o, rfl, Same.im sm4 hu, hp.2.1, (by simp only [Pat.n] at hn; omega), fun c5 H5 sm5 hc5 => ?_⟩
        walk_at "r"
        intro z hz
        exact q z _ (sm4.trans (sm5.trans (Same.new hz))) (Im.mkbi upd_same (Same.im (sm5.trans (Same.new hz)) hc) (Same.im (Same.new hz) hc5))
      · skip
        walk_at "r"
        intro p1 hp1
        refine ⟨_, _, rfl, .inl (.inl (.inl upd_same)), rfl, rfl, ?_⟩
        have ha1 := Same.new (o := .lst [.str "or", .str "and"]) hp1 _ _ ha
        have sm1 := Same.new (o := .lst [.str "or", .str "and"]) hp1
        walk_at "r"
        refine ⟨u, o, rfl, Same.im sm1 hu, hp.2.1, (by simp only [Pat.n] at hn; omega), fun c H4 sm4 hc => ?_⟩
        have ha4 := sm4 _ _ ha1
        walk_at "r"
        refine ⟨w, r, rfl, Same.im (sm1.trans sm4) hw, hp.2.2, (by simp only [Pat.n] at hn; omega), fun c5 H5 sm5 hc5 => ?_⟩
        walk_at "r"
        intro z hz
        exact q z _ (sm1.trans (sm4.trans (sm5.trans (Same.new hz)))) (Im.mkbi upd_same (Same.im (sm5.trans (Same.new hz)) hc) (Same.im (Same.new hz) hc5))
      · skip
        walk_at "r"
        intro p1 hp1
        refine ⟨_, _, rfl, .inl (.inl (.inl upd_same)), rfl, rfl, ?_⟩
        have ha1 := Same.new (o := .lst [.str "or", .str "and"]) hp1 _ _ ha
        have sm1 := Same.new (o := .lst [.str "or", .str "and"]) hp1
        walk_at "r"
        refine ⟨u, o, rfl, Same.im sm1 hu, hp.2.1, (by simp only [Pat.n] at hn; omega), fun c H4 sm4 hc => ?_⟩
        have ha4 := sm4 _ _ ha1
        walk_at "r"
        refine ⟨w, r, rfl, Same.im (sm1.trans sm4) hw, hp.2.2, (by simp only [Pat.n] at hn; omega), fun c5 H5 sm5 hc5 => ?_⟩
        walk_at "r"
        intro z hz
        exact q z _ (sm1.trans (sm4.trans (sm5.trans (Same.new hz)))) (Im.mkbi upd_same (Same.im (sm5.trans (Same.new hz)) hc) (Same.im (Same.new hz) hc5))
theorem ok_lawmirrored (D : Df K mg "_law_mirrored" s_lawmirrored ["tree"]) (B : Bn mg)   : Cal P w K mg base 21 "_law_mirrored" ["tree"] (sp_lawmirrored K) := okm_lawmirrored D B 20
abbrev s_law : Stmt := topS 17
abbrev N_law : List Str := ["script", "tape", "letters", "owners", "trees", "tree", "due", "turned", "k"]
theorem sc_law : FnScope N_law ["script"] (defScope s_law) := ⟨rfl, rfl, rfl, by decide +kernel, rfl, by decide +kernel, by decide +kernel⟩

theorem cutV_memP {v : V} {xs : List V} {lo hi : Option Int} (h : v ∈ cutV xs lo hi) : v ∈ xs := List.mem_of_mem_drop (List.mem_of_mem_take h)
def Tre (H : Hp) (v : V) : Prop := ∃ (a : Addr) (p : Pat), v = .ref a ∧ Im H v p.d ∧ p.Ok ∧ p.n ≤ 16
theorem Tre.kt {H H' : Hp} {v : V} (h : Tre H v) (k : KT H H') : Tre H' v := by
  obtain ⟨a, p, e, hi, r⟩ := h
  exact ⟨a, p, e, hi.kt k, r⟩
def Rep (K : PySem.W.Frag) (H : Hp) (x : V) (d : PyData) : Prop := Dp K H x d ∧ d.showable = true ∧ d.hasDict = false ∧ d.depth ≤ 40 ∧ d.shown.length ≤ sizeLine
theorem Rep.of {K : PySem.W.Frag} {H : Hp} {x : V} {d : PyData} {dp bk : Nat} (h : Dp K H x d) (s : Sh d dp bk) (h1 : dp ≤ 40) (h2 : bk ≤ 1000000) : Rep K H x d := ⟨h, s.s, s.n, Nat.le_trans s.p h1, s.fits h2⟩
theorem rep_int {K : PySem.W.Frag} {H : Hp} {i : Int} (h : i.natAbs < 10 ^ 12) : Rep K H (.int i) (.int i) := .of (.int i) (Sh.int h) (by decide) (by decide)
theorem rep_pat {K : PySem.W.Frag} {H : Hp} {v : V} {p : Pat} (h : Im H v p.d) (o : p.Ok) (n : p.n ≤ 16) : Rep K H v p.d := .of h.dp (sh_pat o) (by omega) (by omega)
theorem rep_parts {K : PySem.W.Frag} {H : Hp} {a : Addr} {us : List V} {p : Pat} (h : SqT K H a us) (hu : ImAll H us (p.parts.map Pat.d)) (o : p.Ok) (n : p.n ≤ 16) : Rep K H (.ref a) (PyData.tuple (p.parts.map Pat.d)) :=
  .of (Dp.tup h hu.dp) (sh_parts o n) (by decide) (by decide)

set_option maxHeartbeats 1000000 in
theorem ok_law {e : Addr} {ed : FuncData} (F : Fun K "law" "law" s_law e ed) (B : Bn mg) (C_lawtape : Cal P w K mg base 1 "_law_tape" ["script"] (spTape K)) (C_lawletters : Cal P w K mg base 3 "_law_letters" ["tape"] (sp_lawletters K)) (C_lawowners : Cal P w K mg base 3 "_law_owners" ["tape"] (sp_lawowners K)) (C_lawpattern : Cal P w K mg base 25 "_law_pattern" ["tape", "letters", "owners", "nodes"] (sp_lawpattern K)) (C_lawdraw : Cal P w K mg base 1 "_law_draw" ["tape", "many"] (spDraw K)) (C_lawparts : Cal P w K mg base 21 "_law_parts" ["tree"] (sp_lawparts K)) (C_partsof : Cal P w K mg base 22 "parts_of" ["tree"] (sp_partsof K)) (C_nodecount : Cal P w K mg base 22 "node_count" ["tree"] (sp_nodecount K)) (C_mirrored : Cal P w K mg base 22 "mirrored" ["tree"] (sp_mirrored K)) (C_lawmirrored : Cal P w K mg base 21 "_law_mirrored" ["tree"] (sp_lawmirrored K))  : FnG P w K mg base CX0 26 e ed ["script"] (spLaw K) := by
  refine okG0 F sc_law ?_ ?_
  · intro vs H Q E h; obtain ⟨a, ns, rfl, _⟩ := h; rfl
  intro f cdv A o s H vs Q E hr gd h
  obtain ⟨a, ns, rfl, hS, hl, q⟩ := h
  have nd := sc_law.nd
  have hrep : A.units + 3 + 64 < cLine := hr.units
  refine ⟨_, (pss_cons (ps_set (i := 1) nd rfl (Or.inr rfl) (pe_cal C_lawtape (by first | exact hr | exact hr.mono (by decide)) rfl (pa_cons (pv 0) pa_nil)))
    (pss_cons (ps_set (i := 2) nd rfl (Or.inr rfl) (pe_cal C_lawletters (by first | exact hr | exact hr.mono (by decide)) rfl (pa_cons (pv 1) pa_nil)))
    (pss_cons (ps_set (i := 3) nd rfl (Or.inr rfl) (pe_cal C_lawowners (by first | exact hr | exact hr.mono (by decide)) rfl (pa_cons (pv 1) pa_nil)))
    (pss_cons (ps_setLc (i := 4) (own := [("k", 8)]) rfl nd rfl rfl (sw_true rfl rfl rfl (by decide +kernel)) (pi_range1 rfl B.range_ (pa_cons pe_int pa_nil)) (blkOk_by (N := N_law) (sc := defScope s_law) (by decide +kernel)) (fun _ _ _ _ _ => (pg_name (i := 8) nd rfl (Or.inl rfl))) (fun _ _ _ _ _ => pts_nil) (fun _ _ _ _ _ => (pe_cal C_lawpattern (by first | exact hr | exact hr.mono (by decide)) rfl (pa_cons (pv 1) (pa_cons (pv 2) (pa_cons (pv 3) (pa_cons (pe_ix (r := rIxL K) ix_list (pe_lst (pa_cons pe_int (pa_cons pe_int (pa_cons pe_int (pa_cons pe_int pa_nil))))) (pe_cal C_lawdraw (by first | exact hr | exact hr.mono (by decide)) rfl (pa_cons (pv 1) (pa_cons pe_int pa_nil))) (fun _ _ => rfl)) pa_nil)))))))
    (pss_cons (ps_for PassesOwn.never rfl (show PI _ _ _ (iList K _) from pi_list (pe_op op_cat (pv 4) (pe_slice (r := rSlL K) sl_list (pv 4) po_none (po_some pe_int)))) (pg_name (i := 5) nd rfl (Or.inl rfl))
      (pss_cons (ps_set (i := 6) nd rfl (Or.inl rfl) (pe_cal C_lawparts (by first | exact hr | exact hr.mono (by decide)) rfl (pa_cons (pv 5) pa_nil)))
      (pss_cons (ps_if (PW.pt (pw_or (pt_cmpR op_ne (pe_callB (id := "repr") (r := rRep K) (call_rep gd hrep) rfl B.repr_ (by decide +kernel) (pa_cons (pe_cal C_nodecount (by first | exact hr | exact hr.mono (by decide)) rfl (pa_cons (pv 5) pa_nil)) pa_nil)) (pe_callB (id := "repr") (r := rRep K) (call_rep gd hrep) rfl B.repr_ (by decide +kernel) (pa_cons (pe_callB (id := "len") (r := rLenS K) call_lenK rfl B.len_ PySem.boot_len (pa_cons (pv 6) pa_nil)) pa_nil)) (nomark _)) (pw_or1 (pt_cmpR op_ne (pe_callB (id := "repr") (r := rRep K) (call_rep gd hrep) rfl B.repr_ (by decide +kernel) (pa_cons (pe_cal C_partsof (by first | exact hr | exact hr.mono (by decide)) rfl (pa_cons (pv 5) pa_nil)) pa_nil)) (pe_callB (id := "repr") (r := rRep K) (call_rep gd hrep) rfl B.repr_ (by decide +kernel) (pa_cons (pe_callTy (T := "tuple") (r := rTupOf K) call_tupK rfl B.tuple_ (by decide +kernel) (pa_cons (pv 6) pa_nil)) pa_nil)) (nomark _)))))
        (pss_one (ps_ret pe_bl))
        pss_nil)
      (pss_cons (ps_set (i := 7) nd rfl (Or.inl rfl) (pe_cal C_mirrored (by first | exact hr | exact hr.mono (by decide)) rfl (pa_cons (pv 5) pa_nil)))
      (pss_one (ps_if (PW.pt (pw_or (pt_cmpR op_ne (pe_callB (id := "repr") (r := rRep K) (call_rep gd hrep) rfl B.repr_ (by decide +kernel) (pa_cons (pv 7) pa_nil)) (pe_callB (id := "repr") (r := rRep K) (call_rep gd hrep) rfl B.repr_ (by decide +kernel) (pa_cons (pe_cal C_lawmirrored (by first | exact hr | exact hr.mono (by decide)) rfl (pa_cons (pv 5) pa_nil)) pa_nil)) (nomark _)) (pw_or1 (pt_cmpR op_ne (pe_callB (id := "repr") (r := rRep K) (call_rep gd hrep) rfl B.repr_ (by decide +kernel) (pa_cons (pe_cal C_mirrored (by first | exact hr | exact hr.mono (by decide)) rfl (pa_cons (pv 7) pa_nil)) pa_nil)) (pe_callB (id := "repr") (r := rRep K) (call_rep gd hrep) rfl B.repr_ (by decide +kernel) (pa_cons (pv 5) pa_nil)) (nomark _)))))
        (pss_one (ps_ret pe_bl))
        pss_nil))))))
    (pss_one (ps_ret pe_bl))))))), ?_⟩
  refine ⟨_, rfl, a, ns, rfl, hS, hl, fun t H1 _ _ T1 => ?_⟩
  refine ⟨_, rfl, t, rfl, T1, fun y H2 hy y1 y3 kp2 T2 => ?_⟩
  refine ⟨_, rfl, t, rfl, T2, fun z H3 hz z1 z3 kp3 T3 => ?_⟩
  have ay := al_lows hy y1 y3
  have az := al_caps hz z1 z3
  walk_at "r"
  refine ⟨by decide, by decide, ?_⟩
  intro dp hdp
  have dt := T3.ne hdp
  have dt2 := T3.ne2 hdp
  refine it_any walk_range (fun i H' => ∃ xs : List V, H' dp = some (.lst xs) ∧ xs.length = i ∧ (∀ x ∈ xs, Tre H' x) ∧ Tape K H' t) ⟨[], upd_same, rfl, (fun _ h => nomatch h), T3.new hdp⟩ (fun _ _ _ _ => trivial) ?_ ?_
  · rintro i x H4 H5 hi ⟨xs, h1, h2, h3, T5⟩ ⟨rfl, rfl⟩
    have hi2 : i < 2 := hi
    refine ⟨rfl, yes_ite ?_⟩
    walk_at "r"
    intro c hc
    walk_at "r"
    refine ⟨t, _, rfl, T5.new hc, by decide, fun v H6 v0 v1 kp6 _ T6 => ?_⟩
    obtain ⟨m, hm, em⟩ := pickI (ns := [16, 16, 9, 4]) (v := v) v0 (by show v < 4; omega)
    have m1 : 1 ≤ m ∧ m ≤ 16 := by simp at hm; omega
    refine ⟨c, _, _, _, rfl, rfl, .inl (.inl (kp6 c _ (T5.ne hc) upd_same)), em, ?_⟩
    refine ⟨t, y, z, m, rfl, T6, ay, az, m1.1, m1.2, fun b p H7 hI hO hn kp7 T7 => ?_⟩
    have k7 : Kp t H5 H7 := (Kp.new hc).trans (kp6.trans kp7)
    have h17 := k7 dp _ dt h1
    refine ⟨_, h17, small1000 (by omega), xs ++ [.ref b], upd_same, by rw [List.length_append, h2]; rfl, fun u hu => ?_, T7.put dt dt2⟩
    have kz := KT.lput (ys := xs ++ [V.ref b]) h17
    rcases List.mem_append.mp hu with h | h
    · exact (h3 u h).kt ((k7.kt T5).trans kz)
    · obtain rfl : u = .ref b := by simpa using h
      exact ⟨b, p, rfl, hI.kt kz, hO, hn⟩
  rintro H4 ⟨xs, h1, h2, h3, T4⟩
  have h2 : xs.length = 2 := h2
  walk_at "r"
  refine ⟨dp, xs, rfl, .inl (.inl h1), fun c hc => ?_⟩
  have hpc : dp ≠ c := ne_of_none h1 hc
  have cl := cutV_length xs none (some 1)
  refine ⟨dp, c, xs, _, rfl, rfl, by rw [upd_ne hpc]; exact h1, upd_same, le_size (by omega), fun d hd => ?_⟩
  have sm0 : Same H4 (upd (upd H4 c (.lst (cutV xs none (some 1)))) d (.lst (xs ++ cutV xs none (some 1)))) := (Same.new hc).trans (Same.new hd)
  have hA2 : ∀ v ∈ xs ++ cutV xs none (some 1), Tre H4 v := fun v hv => by
    rcases List.mem_append.mp hv with h | h
    · exact h3 v h
    · exact h3 v (cutV_memP h)
  refine ⟨d, rfl, ⟨_, .inl (.inl upd_same)⟩, ?_⟩
  refine for_it (walk_list (xs := xs ++ cutV xs none (some 1))) (fun i σ H' => ∃ (w1 w2 w3 w4 : Option V), σ = [some (.ref a), some (.ref t.1), some (.str y), some (.str z), some (.ref dp), w1, w2, w3, w4] ∧ Same H4 H' ∧
    H' d = some (.lst (xs ++ cutV xs none (some 1)))) ⟨_, _, _, _, rfl, sm0, upd_same⟩ (fun i σ H' hi h => ?_) ?_ ?_
  · obtain ⟨_, _, _, _, _, _, h⟩ := h
    exact .inl (.inl h)
  · rintro i v σ H5 H6 hi ⟨w1, w2, w3, w4, rfl, sm, hd2⟩ ⟨rfl, hx⟩
    obtain ⟨b, p, rfl, hI0, hO, hn⟩ := hA2 v (List.mem_of_getElem? hx)
    have hI := Same.im sm hI0
    walk_at "r"
    refine ⟨.ref b, p, rfl, hI, hO, ⟨by omega, by decide⟩, fun l us H7 sm7 hl7 hu7 => ?_⟩
    walk_at "r"
    refine ⟨.ref b, p, rfl, Same.im sm7 hI, hO, (by omega), fun H8 sm8 => ?_⟩
    have g1 := rep_int (K := K) (H := H8) (i := (p.n : Nat)) (by omega)
    refine ⟨_, _, rfl, g1.1, g1.2.1, g1.2.2.1, g1.2.2.2.1, g1.2.2.2.2, ?_⟩
    walk_at "r"
    refine ⟨l, _, rfl, .inl (.inl (.inl (sm8 _ _ hl7))), ?_⟩
    rw [hu7.lenP, Pat.parts_len]
    refine ⟨_, _, rfl, g1.1, g1.2.1, g1.2.2.1, g1.2.2.2.1, g1.2.2.2.2, ?_⟩
    refine ⟨rfl, _, rfl, iteNS rfl ?_⟩
    walk_at "r"
    have s8 := sm7.trans sm8
    refine ⟨.ref b, p, rfl, Same.im s8 hI, hO, ⟨by omega, by decide⟩, fun c9 u9 H9 sm9 hc9 hu9 => ?_⟩
    have g2 := rep_parts (K := K) hc9.sq hu9 hO hn
    refine ⟨_, _, rfl, g2.1, g2.2.1, g2.2.2.1, g2.2.2.2.1, g2.2.2.2.2, ?_⟩
    walk_at "r"
    have s9 := s8.trans sm9
    refine ⟨l, us, rfl, .inl ⟨.inl (.inl ((sm8.trans sm9) _ _ hl7)), fun c10 hc10 => ?_⟩⟩
    have s10 := s9.trans (Same.new (o := .tup us) hc10)
    have g3 := rep_parts (K := K) (H := upd H9 c10 (.tup us)) (a := c10) (.inl (.inl upd_same)) (Same.imAll ((sm8.trans sm9).trans (Same.new hc10)) hu7) hO hn
    refine ⟨_, _, rfl, g3.1, g3.2.1, g3.2.2.1, g3.2.2.2.1, g3.2.2.2.2, ?_⟩
    refine ⟨rfl, _, rfl, iteNS rfl ?_⟩
    walk_at "r"
    refine ⟨.ref b, p, rfl, Same.im s10 hI, hO, (by omega), fun c11 H11 sm11 h11 => ?_⟩
    have s11 := s10.trans sm11
    have mo := Pat.mir_ok hO
    have mn : p.mir.n ≤ 16 := by rw [Pat.mir_n]; exact hn
    walk_at "r"
    have g4 := rep_pat (K := K) h11 mo mn
    refine ⟨_, _, rfl, g4.1, g4.2.1, g4.2.2.1, g4.2.2.2.1, g4.2.2.2.2, ?_⟩
    walk_at "r"
    refine ⟨.ref b, p, rfl, Same.im s11 hI, hO, (by omega), fun c12 H12 sm12 h12 => ?_⟩
    have g5 := rep_pat (K := K) h12 mo mn
    refine ⟨_, _, rfl, g5.1, g5.2.1, g5.2.2.1, g5.2.2.2.1, g5.2.2.2.2, ?_⟩
    refine ⟨rfl, _, rfl, iteNS rfl ?_⟩
    walk_at "r"
    refine ⟨.ref c11, p.mir, rfl, Same.im sm12 h11, mo, (by omega), fun c13 H13 sm13 h13 => ?_⟩
    rw [Pat.mir_mir] at h13
    have g6 := rep_pat (K := K) h13 hO hn
    refine ⟨_, _, rfl, g6.1, g6.2.1, g6.2.2.1, g6.2.2.2.1, g6.2.2.2.2, ?_⟩
    walk_at "r"
    have s13 := s11.trans (sm12.trans sm13)
    have g7 := rep_pat (K := K) (Same.im s13 hI) hO hn
    refine ⟨_, _, rfl, g7.1, g7.2.1, g7.2.2.1, g7.2.2.2.1, g7.2.2.2.2, ?_⟩
    refine ⟨rfl, _, rfl, iteNS rfl ?_⟩
    exact ⟨_, _, _, _, rfl, sm.trans s13, s13 _ _ hd2⟩
  · rintro σ H5 ⟨w1, w2, w3, w4, rfl, sm, hd2⟩
    exact q H5
end
theorem all_mk {l : PySem.W.OpenLaw} {w : World} {K : PySem.W.Frag} {h : Heap} {mg : Str → Option Value} {fa : Addr} (X : K.In h) (G : h.Ns mainGlobals mg) (hfa : mg "law" = some (.ref fa))
    {f1 : Addr} {od1 an1 : Option Addr} {sl1 : Array (Option Value)} {oc1 kV1 dc1 pm1 cd1 ct1 : Value}
    (a1 : PySem.W.nsIn K mainGlobals "_law_tape" = some (some (.ref f1)))
    (l1 : K.lookup f1 = some ⟨oc1, od1, .func (PySem.W.fnOf "_law_tape" "_law_tape" (defArgs s_lawtape) (defBody s_lawtape) (defScope s_lawtape) .none kV1 dc1 pm1 an1 cd1 ct1), sl1⟩)
    (c1 : PySem.W.codeIn K cd1 "_law_tape" = true) (k1 : PySem.W.keepIn K (.ref f1) = true)
    {f2 : Addr} {od2 an2 : Option Addr} {sl2 : Array (Option Value)} {oc2 kV2 dc2 pm2 cd2 ct2 : Value}
    (a2 : PySem.W.nsIn K mainGlobals "_law_draw" = some (some (.ref f2)))
    (l2 : K.lookup f2 = some ⟨oc2, od2, .func (PySem.W.fnOf "_law_draw" "_law_draw" (defArgs s_lawdraw) (defBody s_lawdraw) (defScope s_lawdraw) .none kV2 dc2 pm2 an2 cd2 ct2), sl2⟩)
    (c2 : PySem.W.codeIn K cd2 "_law_draw" = true) (k2 : PySem.W.keepIn K (.ref f2) = true)
    {f3 : Addr} {od3 an3 : Option Addr} {sl3 : Array (Option Value)} {oc3 kV3 dc3 pm3 cd3 ct3 : Value}
    (a3 : PySem.W.nsIn K mainGlobals "_law_rising" = some (some (.ref f3)))
    (l3 : K.lookup f3 = some ⟨oc3, od3, .func (PySem.W.fnOf "_law_rising" "_law_rising" (defArgs s_lawrising) (defBody s_lawrising) (defScope s_lawrising) .none kV3 dc3 pm3 an3 cd3 ct3), sl3⟩)
    (c3 : PySem.W.codeIn K cd3 "_law_rising" = true) (k3 : PySem.W.keepIn K (.ref f3) = true)
    {f4 : Addr} {od4 an4 : Option Addr} {sl4 : Array (Option Value)} {oc4 kV4 dc4 pm4 cd4 ct4 : Value}
    (a4 : PySem.W.nsIn K mainGlobals "_law_letters" = some (some (.ref f4)))
    (l4 : K.lookup f4 = some ⟨oc4, od4, .func (PySem.W.fnOf "_law_letters" "_law_letters" (defArgs s_lawletters) (defBody s_lawletters) (defScope s_lawletters) .none kV4 dc4 pm4 an4 cd4 ct4), sl4⟩)
    (c4 : PySem.W.codeIn K cd4 "_law_letters" = true) (k4 : PySem.W.keepIn K (.ref f4) = true)
    {f5 : Addr} {od5 an5 : Option Addr} {sl5 : Array (Option Value)} {oc5 kV5 dc5 pm5 cd5 ct5 : Value}
    (a5 : PySem.W.nsIn K mainGlobals "_law_owners" = some (some (.ref f5)))
    (l5 : K.lookup f5 = some ⟨oc5, od5, .func (PySem.W.fnOf "_law_owners" "_law_owners" (defArgs s_lawowners) (defBody s_lawowners) (defScope s_lawowners) .none kV5 dc5 pm5 an5 cd5 ct5), sl5⟩)
    (c5 : PySem.W.codeIn K cd5 "_law_owners" = true) (k5 : PySem.W.keepIn K (.ref f5) = true)
    {f6 : Addr} {od6 an6 : Option Addr} {sl6 : Array (Option Value)} {oc6 kV6 dc6 pm6 cd6 ct6 : Value}
    (a6 : PySem.W.nsIn K mainGlobals "_law_leaf" = some (some (.ref f6)))
    (l6 : K.lookup f6 = some ⟨oc6, od6, .func (PySem.W.fnOf "_law_leaf" "_law_leaf" (defArgs s_lawleaf) (defBody s_lawleaf) (defScope s_lawleaf) .none kV6 dc6 pm6 an6 cd6 ct6), sl6⟩)
    (c6 : PySem.W.codeIn K cd6 "_law_leaf" = true) (k6 : PySem.W.keepIn K (.ref f6) = true)
    {f7 : Addr} {od7 an7 : Option Addr} {sl7 : Array (Option Value)} {oc7 kV7 dc7 pm7 cd7 ct7 : Value}
    (a7 : PySem.W.nsIn K mainGlobals "_law_node" = some (some (.ref f7)))
    (l7 : K.lookup f7 = some ⟨oc7, od7, .func (PySem.W.fnOf "_law_node" "_law_node" (defArgs s_lawnode) (defBody s_lawnode) (defScope s_lawnode) .none kV7 dc7 pm7 an7 cd7 ct7), sl7⟩)
    (c7 : PySem.W.codeIn K cd7 "_law_node" = true) (k7 : PySem.W.keepIn K (.ref f7) = true)
    {f8 : Addr} {od8 an8 : Option Addr} {sl8 : Array (Option Value)} {oc8 kV8 dc8 pm8 cd8 ct8 : Value}
    (a8 : PySem.W.nsIn K mainGlobals "_law_wild" = some (some (.ref f8)))
    (l8 : K.lookup f8 = some ⟨oc8, od8, .func (PySem.W.fnOf "_law_wild" "_law_wild" (defArgs s_lawwild) (defBody s_lawwild) (defScope s_lawwild) .none kV8 dc8 pm8 an8 cd8 ct8), sl8⟩)
    (c8 : PySem.W.codeIn K cd8 "_law_wild" = true) (k8 : PySem.W.keepIn K (.ref f8) = true)
    {f9 : Addr} {od9 an9 : Option Addr} {sl9 : Array (Option Value)} {oc9 kV9 dc9 pm9 cd9 ct9 : Value}
    (a9 : PySem.W.nsIn K mainGlobals "_law_pattern" = some (some (.ref f9)))
    (l9 : K.lookup f9 = some ⟨oc9, od9, .func (PySem.W.fnOf "_law_pattern" "_law_pattern" (defArgs s_lawpattern) (defBody s_lawpattern) (defScope s_lawpattern) .none kV9 dc9 pm9 an9 cd9 ct9), sl9⟩)
    (c9 : PySem.W.codeIn K cd9 "_law_pattern" = true) (k9 : PySem.W.keepIn K (.ref f9) = true)
    {f10 : Addr} {od10 an10 : Option Addr} {sl10 : Array (Option Value)} {oc10 kV10 dc10 pm10 cd10 ct10 : Value}
    (a10 : PySem.W.nsIn K mainGlobals "_law_parts" = some (some (.ref f10)))
    (l10 : K.lookup f10 = some ⟨oc10, od10, .func (PySem.W.fnOf "_law_parts" "_law_parts" (defArgs s_lawparts) (defBody s_lawparts) (defScope s_lawparts) .none kV10 dc10 pm10 an10 cd10 ct10), sl10⟩)
    (c10 : PySem.W.codeIn K cd10 "_law_parts" = true) (k10 : PySem.W.keepIn K (.ref f10) = true)
    {f11 : Addr} {od11 an11 : Option Addr} {sl11 : Array (Option Value)} {oc11 kV11 dc11 pm11 cd11 ct11 : Value}
    (a11 : PySem.W.nsIn K mainGlobals "operands_of" = some (some (.ref f11)))
    (l11 : K.lookup f11 = some ⟨oc11, od11, .func (PySem.W.fnOf "operands_of" "operands_of" (defArgs s_operandsof) (defBody s_operandsof) (defScope s_operandsof) .none kV11 dc11 pm11 an11 cd11 ct11), sl11⟩)
    (c11 : PySem.W.codeIn K cd11 "operands_of" = true) (k11 : PySem.W.keepIn K (.ref f11) = true)
    {f12 : Addr} {od12 an12 : Option Addr} {sl12 : Array (Option Value)} {oc12 kV12 dc12 pm12 cd12 ct12 : Value}
    (a12 : PySem.W.nsIn K mainGlobals "mirrored" = some (some (.ref f12)))
    (l12 : K.lookup f12 = some ⟨oc12, od12, .func (PySem.W.fnOf "mirrored" "mirrored" (defArgs s_mirrored) (defBody s_mirrored) (defScope s_mirrored) .none kV12 dc12 pm12 an12 cd12 ct12), sl12⟩)
    (c12 : PySem.W.codeIn K cd12 "mirrored" = true) (k12 : PySem.W.keepIn K (.ref f12) = true)
    {f13 : Addr} {od13 an13 : Option Addr} {sl13 : Array (Option Value)} {oc13 kV13 dc13 pm13 cd13 ct13 : Value}
    (a13 : PySem.W.nsIn K mainGlobals "node_count" = some (some (.ref f13)))
    (l13 : K.lookup f13 = some ⟨oc13, od13, .func (PySem.W.fnOf "node_count" "node_count" (defArgs s_nodecount) (defBody s_nodecount) (defScope s_nodecount) .none kV13 dc13 pm13 an13 cd13 ct13), sl13⟩)
    (c13 : PySem.W.codeIn K cd13 "node_count" = true) (k13 : PySem.W.keepIn K (.ref f13) = true)
    {f14 : Addr} {od14 an14 : Option Addr} {sl14 : Array (Option Value)} {oc14 kV14 dc14 pm14 cd14 ct14 : Value}
    (a14 : PySem.W.nsIn K mainGlobals "parts_of" = some (some (.ref f14)))
    (l14 : K.lookup f14 = some ⟨oc14, od14, .func (PySem.W.fnOf "parts_of" "parts_of" (defArgs s_partsof) (defBody s_partsof) (defScope s_partsof) .none kV14 dc14 pm14 an14 cd14 ct14), sl14⟩)
    (c14 : PySem.W.codeIn K cd14 "parts_of" = true) (k14 : PySem.W.keepIn K (.ref f14) = true)
    {f15 : Addr} {od15 an15 : Option Addr} {sl15 : Array (Option Value)} {oc15 kV15 dc15 pm15 cd15 ct15 : Value}
    (a15 : PySem.W.nsIn K mainGlobals "_law_mirrored" = some (some (.ref f15)))
    (l15 : K.lookup f15 = some ⟨oc15, od15, .func (PySem.W.fnOf "_law_mirrored" "_law_mirrored" (defArgs s_lawmirrored) (defBody s_lawmirrored) (defScope s_lawmirrored) .none kV15 dc15 pm15 an15 cd15 ct15), sl15⟩)
    (c15 : PySem.W.codeIn K cd15 "_law_mirrored" = true) (k15 : PySem.W.keepIn K (.ref f15) = true)
    {f16 : Addr} {od16 an16 : Option Addr} {sl16 : Array (Option Value)} {oc16 kV16 dc16 pm16 cd16 ct16 : Value}
    (a16 : PySem.W.nsIn K mainGlobals "law" = some (some (.ref f16)))
    (l16 : K.lookup f16 = some ⟨oc16, od16, .func (PySem.W.fnOf "law" "law" (defArgs s_law) (defBody s_law) (defScope s_law) .none kV16 dc16 pm16 an16 cd16 ct16), sl16⟩)
    (c16 : PySem.W.codeIn K cd16 "law" = true) (k16 : PySem.W.keepIn K (.ref f16) = true)
    (z_len : PySem.W.nsIn K mainGlobals "len" = some none)
    (z_max : PySem.W.nsIn K mainGlobals "max" = some none)
    (z_abs : PySem.W.nsIn K mainGlobals "abs" = some none)
    (z_int : PySem.W.nsIn K mainGlobals "int" = some none)
    (z_list : PySem.W.nsIn K mainGlobals "list" = some none)
    (z_tuple : PySem.W.nsIn K mainGlobals "tuple" = some none)
    (z_range : PySem.W.nsIn K mainGlobals "range" = some none)
    (z_repr : PySem.W.nsIn K mainGlobals "repr" = some none)
    (z_isinstance : PySem.W.nsIn K mainGlobals "isinstance" = some none)
    (z_sum : PySem.W.nsIn K mainGlobals "sum" = some none)
    : ∃ fd : FuncData, (∀ (s : Shared) (v : Value), BindsTo s fd ⟨[v], []⟩ [("script", v)]) ∧ ∀ base : Heap, K.In base → base.Ns mainGlobals mg → FnG l.prog w K mg base CX0 26 fa fd ["script"] (spLaw K) := by
  have e := hfa.symm.trans (PySem.W.mg_of X G a16)
  cases e
  have B : Bn mg := ⟨PySem.W.mg_none_of X G z_len, PySem.W.mg_none_of X G z_max, PySem.W.mg_none_of X G z_abs, PySem.W.mg_none_of X G z_int, PySem.W.mg_none_of X G z_list, PySem.W.mg_none_of X G z_tuple, PySem.W.mg_none_of X G z_range, PySem.W.mg_none_of X G z_repr, PySem.W.mg_none_of X G z_isinstance, PySem.W.mg_none_of X G z_sum⟩
  have D1 : Df K mg "_law_tape" s_lawtape ["script"] := df_mk X G a1 l1 c1 k1 fun _ _ _ _ _ _ us hl => match us, hl with | [_], _ => rfl
  have D2 : Df K mg "_law_draw" s_lawdraw ["tape", "many"] := df_mk X G a2 l2 c2 k2 fun _ _ _ _ _ _ us hl => match us, hl with | [_, _], _ => rfl
  have D3 : Df K mg "_law_rising" s_lawrising ["tape", "signs", "many"] := df_mk X G a3 l3 c3 k3 fun _ _ _ _ _ _ us hl => match us, hl with | [_, _, _], _ => rfl
  have D4 : Df K mg "_law_letters" s_lawletters ["tape"] := df_mk X G a4 l4 c4 k4 fun _ _ _ _ _ _ us hl => match us, hl with | [_], _ => rfl
  have D5 : Df K mg "_law_owners" s_lawowners ["tape"] := df_mk X G a5 l5 c5 k5 fun _ _ _ _ _ _ us hl => match us, hl with | [_], _ => rfl
  have D6 : Df K mg "_law_leaf" s_lawleaf ["tape", "letters", "owners"] := df_mk X G a6 l6 c6 k6 fun _ _ _ _ _ _ us hl => match us, hl with | [_, _, _], _ => rfl
  have D7 : Df K mg "_law_node" s_lawnode ["tape", "letters", "owners"] := df_mk X G a7 l7 c7 k7 fun _ _ _ _ _ _ us hl => match us, hl with | [_, _, _], _ => rfl
  have D8 : Df K mg "_law_wild" s_lawwild ["tape", "letters", "owners", "nodes"] := df_mk X G a8 l8 c8 k8 fun _ _ _ _ _ _ us hl => match us, hl with | [_, _, _, _], _ => rfl
  have D9 : Df K mg "_law_pattern" s_lawpattern ["tape", "letters", "owners", "nodes"] := df_mk X G a9 l9 c9 k9 fun _ _ _ _ _ _ us hl => match us, hl with | [_, _, _, _], _ => rfl
  have D10 : Df K mg "_law_parts" s_lawparts ["tree"] := df_mk X G a10 l10 c10 k10 fun _ _ _ _ _ _ us hl => match us, hl with | [_], _ => rfl
  have D11 : Df K mg "operands_of" s_operandsof ["tree"] := df_mk X G a11 l11 c11 k11 fun _ _ _ _ _ _ us hl => match us, hl with | [_], _ => rfl
  have D12 : Df K mg "mirrored" s_mirrored ["tree"] := df_mk X G a12 l12 c12 k12 fun _ _ _ _ _ _ us hl => match us, hl with | [_], _ => rfl
  have D13 : Df K mg "node_count" s_nodecount ["tree"] := df_mk X G a13 l13 c13 k13 fun _ _ _ _ _ _ us hl => match us, hl with | [_], _ => rfl
  have D14 : Df K mg "parts_of" s_partsof ["tree"] := df_mk X G a14 l14 c14 k14 fun _ _ _ _ _ _ us hl => match us, hl with | [_], _ => rfl
  have D15 : Df K mg "_law_mirrored" s_lawmirrored ["tree"] := df_mk X G a15 l15 c15 k15 fun _ _ _ _ _ _ us hl => match us, hl with | [_], _ => rfl
  refine ⟨PySem.W.fnOf "law" "law" (defArgs s_law) (defBody s_law) (defScope s_law) .none kV16 dc16 pm16 an16 cd16 ct16, fun s v => .of_eq rfl, fun base _ _ => ?_⟩
  have K1 := ok_lawtape (P := l.prog) (w := w) (base := base) D1 B  
  have K2 := ok_lawdraw (P := l.prog) (w := w) (base := base) D2 B  
  have K3 := ok_lawrising (P := l.prog) (w := w) (base := base) D3 B K2 
  have K4 := ok_lawletters (P := l.prog) (w := w) (base := base) D4 B K3 K2 
  have K5 := ok_lawowners (P := l.prog) (w := w) (base := base) D5 B K3 K2 
  have K6 := ok_lawleaf (P := l.prog) (w := w) (base := base) D6 B K2 
  have K7 := ok_lawnode (P := l.prog) (w := w) (base := base) D7 B K2 K6 K3 
  have K8 := ok_lawwild (P := l.prog) (w := w) (base := base) D8 B K2 K7 
  have K9 := ok_lawpattern (P := l.prog) (w := w) (base := base) D9 B K2 K8 K7 
  have K10 := ok_lawparts (P := l.prog) (w := w) (base := base) D10 B  
  have K11 := ok_operandsof (P := l.prog) (w := w) (base := base) D11 B  
  have K12 := ok_mirrored (P := l.prog) (w := w) (base := base) D12 B K11 
  have K13 := ok_nodecount (P := l.prog) (w := w) (base := base) D13 B K11 
  have K14 := ok_partsof (P := l.prog) (w := w) (base := base) D14 B K11 
  have K15 := ok_lawmirrored (P := l.prog) (w := w) (base := base) D15 B  
  exact ok_law (P := l.prog) (w := w) (base := base) (fun_mk l16 c16 k16) B K1 K4 K5 K9 K2 K10 K14 K13 K12 K15 
end My
open PySem PySem.W PyProof.Rows
set_option maxRecDepth 100000 in
set_option maxHeartbeats 0 in
theorem PySem.Challenge.cw_excerptcheck_k04_nodes_parts_and_mirrors_holds : PySem.Challenge.rw_excerptcheck_k04_nodes_parts_and_mirrors.Holds := by
  w_on; o_law; k_head; (case hw => w_witness2)
  k_fill
  refine My.walkG (l := PySem.Challenge.rw_excerptcheck_k04_nodes_parts_and_mirrors) (n := 63) (k := 26) (x := "script") (sp := My.spLaw) rfl (by decide) rfl ⟨rfl, by decide, by decide⟩ (fun w h Y => PySem.W.kIn_of Y) ?F (fun K H a ns hl hS => ⟨a, ns, rfl, hS, hl, fun _ => rfl⟩)
  case F =>
    intro w mg fa h KX G hmg
    refine' My.all_mk KX G hmg ?a1 ?l1 ?c1 ?k1 ?a2 ?l2 ?c2 ?k2 ?a3 ?l3 ?c3 ?k3 ?a4 ?l4 ?c4 ?k4 ?a5 ?l5 ?c5 ?k5 ?a6 ?l6 ?c6 ?k6 ?a7 ?l7 ?c7 ?k7 ?a8 ?l8 ?c8 ?k8 ?a9 ?l9 ?c9 ?k9 ?a10 ?l10 ?c10 ?k10 ?a11 ?l11 ?c11 ?k11 ?a12 ?l12 ?c12 ?k12 ?a13 ?l13 ?c13 ?k13 ?a14 ?l14 ?c14 ?k14 ?a15 ?l15 ?c15 ?k15 ?a16 ?l16 ?c16 ?k16 ?z_len ?z_max ?z_abs ?z_int ?z_list ?z_tuple ?z_range ?z_repr ?z_isinstance ?z_sum
    (case a1 => k_is); (case l1 => k_is); (case c1 => k_is); (case k1 => k_is); (case a2 => k_is); (case l2 => k_is); (case c2 => k_is); (case k2 => k_is); (case a3 => k_is); (case l3 => k_is); (case c3 => k_is); (case k3 => k_is); (case a4 => k_is); (case l4 => k_is); (case c4 => k_is); (case k4 => k_is); (case a5 => k_is); (case l5 => k_is); (case c5 => k_is); (case k5 => k_is); (case a6 => k_is); (case l6 => k_is); (case c6 => k_is); (case k6 => k_is); (case a7 => k_is); (case l7 => k_is); (case c7 => k_is); (case k7 => k_is); (case a8 => k_is); (case l8 => k_is); (case c8 => k_is); (case k8 => k_is); (case a9 => k_is); (case l9 => k_is); (case c9 => k_is); (case k9 => k_is); (case a10 => k_is); (case l10 => k_is); (case c10 => k_is); (case k10 => k_is); (case a11 => k_is); (case l11 => k_is); (case c11 => k_is); (case k11 => k_is); (case a12 => k_is); (case l12 => k_is); (case c12 => k_is); (case k12 => k_is); (case a13 => k_is); (case l13 => k_is); (case c13 => k_is); (case k13 => k_is); (case a14 => k_is); (case l14 => k_is); (case c14 => k_is); (case k14 => k_is); (case a15 => k_is); (case l15 => k_is); (case c15 => k_is); (case k15 => k_is); (case a16 => k_is); (case l16 => k_is); (case c16 => k_is); (case k16 => k_is); (case z_len => k_is); (case z_max => k_is); (case z_abs => k_is); (case z_int => k_is); (case z_list => k_is); (case z_tuple => k_is); (case z_range => k_is); (case z_repr => k_is); (case z_isinstance => k_is); (case z_sum => k_is)
