import PyProof.Rows.All
import Wide.All
import OpenK.AllK
import Wide.FinOn
import HandS.Base
import HandS.Call
import HandS.List
import HandS.Comp
import HandS.Text
import HandS.Words
import HandS.Ends
import PyProof.ReprRoads
import HandS.ForMost
import HandS.Walk
import HandS.Conv
import HandS.Codes
import HandS.Strs
import HandS.Style
import HandS.Defaults
import KE.DataCmp
import HandS.Star
import HandS.IsInst
import HandS.TupAny
import KE.GoesEnum
import HandS.TupMul
import HandS.WideBits
import HandS.Dict
import HandS.SetBool
import KE.KeyNested
import KE.KDictCopyH
import HandS.TupLen
import HandS.Nested
import HandS.Flow
import HandS.Wide
import HandS.Deep
import HandS.Rev
import HandS.Zip
import HandS.RevRange
import KE.KDictPairs
import HandS.DictComp
import PySem.Challenge.RW_excerptcheck_k51_useful_points
set_option Elab.async false
set_option linter.all false
set_option maxRecDepth 100000
set_option pp.deepTerms false
namespace My
open PySem PySem.Spec PyProof.Rows L2

/-- as the layer's promise, where besides no repr is under way -/
structure FnG (P : Program) (w : World) (K : PySem.W.Frag) (mg : Str → Option Value) (base : Heap) (X : CXT)
    (k : Nat) (f : Addr) (fd : FuncData) (ps : List Str) (sp : Sp) : Prop where
  ln : ∀ vs H Q E, sp vs H Q E → vs.length = ps.length
  go : ∀ (A : Around) (outer : List Env) (s : Shared) (H : Hp) (args : Args) (us : List Value) (vs : List V) (Q : VK) (E : XK),
    Room k A → A.guards = some [] → Env0 P w K mg base A outer s H → BindsTo s fd args (ps.zip us) → Vals vs us →
    sp vs H Q E → codeAny (model P w) A (.call (.ref f) args) (CR X outer P w H s Q E) s

theorem FnG.of {P : Program} {w : World} {K : PySem.W.Frag} {mg : Str → Option Value} {base : Heap} {X : CXT}
    {k : Nat} {f : Addr} {fd : FuncData} {ps : List Str} {sp : Sp} (F : FnOk P w K mg base X k f fd ps sp) :
    FnG P w K mg base X k f fd ps sp :=
  ⟨F.len, fun A o s H ar us vs Q E h1 _ h2 h3 h4 h5 => F.run A o s H ar us vs Q E h1 h2 h3 h4 h5⟩

theorem deeper_guards {A : Around} {e : Env} (h : A.guards = some []) : (A.deeper e).guards = some [] := h

theorem okG {P : Program} {w : World} {K : PySem.W.Frag} {mg : Str → Option Value} {base : Heap} {CX : CXT}
    {x qual : Str} {st : Stmt} {f : Addr} {fd : FuncData} {N ps : List Str} {k : Nat} {sp : Sp}
    (F : Fun K x qual st f fd) (S : FnScope N ps (defScope st))
    (ln : ∀ vs H Q E, sp vs H Q E → vs.length = ps.length)
    (hbd : ∀ (cdv : Value) (A : Around) (o : List Env) (s : Shared) (H : Hp) (vs : List V) (Q : VK) (E : XK),
      Room k (A.deeper (envOfC qual (defScope st) s.heap.objs.size f cdv)) → A.guards = some [] → sp vs H Q E →
      ∃ t, PSs (cxOf CX P w K mg base N qual (defScope st) f cdv A o s H E) (defBody st) t ∧
        t { nx := fun _ h => Q .non h, rt := Q } (start N vs) H) :
    FnG P w K mg base CX (k + 1) f fd ps sp := by
  obtain ⟨oc, od, kV, doc, pm, an, cdv, ct, osl, rfl, lk, hcd⟩ := F.ex
  refine ⟨ln, fun A o s H ar us vs Q E hr hgd e0 hb r hs => ?_⟩
  have hl := ln _ _ _ _ hs
  have KX : K.In s.heap := e0.mod.kin.keeps fun b ob e => (e0.bs b ob e).1
  have lim : s.heap.NoLimit := e0.mod.nolimit.keeps fun b ob e => (e0.bs b ob e).1
  have hkd : ∀ y ∈ ps.zip us, (defScope st).names.lookup y.1 = some .local ∨
      ((defScope st).names.lookup y.1 = some .cell ∧
        ((cellsFrom (s.heap.objs.size + 1) (defScope st).names []).lookup y.1).isSome = true) := by
    rintro ⟨n, v⟩ hy
    have hp := S.par n (List.of_mem_zip hy).1
    rcases hp with q | q
    · left; exact q
    · right; exact ⟨q, PySem.W.cellsFrom_some _ _ _ (.inl q)⟩
  refine codeAny_call_function hr.depth (KX _ _ lk) rfl S.co S.gen rfl
    (PySem.W.codeRec_of KX hcd) (hb _ _ _ _ ?_)
  refine wpAny_newFunctionEnv_cells S.kind hkd
    fun env he s1 x => ?_
  subst he
  refine ⟨lim.keeps x.toInCall.keep, codeAny_func ?_⟩
  obtain ⟨t, ht, hq⟩ := hbd cdv A o s H vs Q E (hr.deeper _) hgd hs
  have I := inv_start (CX := CX) (E := E) S hr.hd e0 hl r x
  refine wpAny_mono (ht.run [] s1 (start N vs) H _ I hq)
    (fun fl s2 h2 => ?_) fun e s2 h2 => h2
  cases fl with
  | ret u =>
    obtain ⟨v, σ2, H2, J, rv, q⟩ := h2
    exact ⟨v, H2, J.os, J.bare, J.base, J.hok, rv, q⟩
  | next =>
    obtain ⟨σ2, H2, J, q⟩ := h2
    exact ⟨.non, H2, J.os, J.bare, J.base, J.hok, rfl, q⟩
  | brk =>
    obtain ⟨_, _, _, q⟩ := h2
    exact q.elim
  | cont =>
    obtain ⟨_, _, _, q⟩ := h2
    exact q.elim

section
variable {X : Cx} {CX : CXT} {k : Nat} {f : Addr} {fd : FuncData} {ps : List Str} {sp : Sp} {dvs : List V} {ds : List Value}
  {E : XK} {x : Str} {p pos : Pos} {e : Expr} {es : List Expr} {t : TA}
/-- the call of such a def -/
theorem pe_callG (gd : X.A.guards = some []) (F : FnG X.prog X.w X.K X.mg X.base CX k f fd ps sp) (hr : Room k X.A) (hg : Gl X x)
    (hm : X.mg x = some (.ref f)) (hk : PySem.W.keepIn X.K (.ref f) = true) (hb : Binds X.K fd ps ds) (hd : Vals dvs ds)
    (hx : Passes CX X E) (ha : PA X (e :: es) t) (hdb : (x == ("__debug__" : Str)) = false := by decide)
    (he : starEach (e :: es) X.env = (false, eval e X.env) :: starEach es X.env := by rfl)
    (hpl : (backTo pos (starEach es X.env)).any (·.1) = false := by rfl) :
    PE X (.Call (.Name x p) (e :: es) [] pos) (tCall sp dvs E t) := by
  constructor
  intro pins s σ H Q I h
  refine wpAny_Call_Name_kw (ld_glob I hg hm ?_ hdb)
  refine PySem.W.callWith_K (h₀ := X.base) I.ok.mod.kin hk
    (thn (ha.run pos pins s σ H _ I h) ?_) he hpl
  rintro us s1 ⟨vs, H1, I1, r, q⟩
  refine ⟨I1.kIn, ?_⟩
  have r2 : Vals (vs ++ dvs) (us ++ ds) := r.append hd
  have hl : (us ++ ds).length = ps.length := by
    rw [← r2.length]
    exact F.ln _ _ _ _ q
  refine wpAny_call (codeAny_mono (F.go X.A X.stack s1 H1 ⟨us, []⟩ (us ++ ds) (vs ++ dvs) Q E hr gd
    I1.env0 (hb s1 us I1.kIn hl) r2 q) fun rr s2 hq => ?_)
  cases rr with
  | error e => exact hx pins σ H1 s1 e s2 I1 hq
  | ok fl =>
    cases fl with
    | ret u => exact I1.after hq
    | next => exact False.elim hq
    | brk => exact False.elim hq
    | cont => exact False.elim hq

/-- repr of data -/
def rRep (K : PySem.W.Frag) : List V → Hp → VK → Prop := fun xs H Q => ∃ x d, xs = [x] ∧ Dp K H x d ∧ d.showable = true ∧
  d.hasDict = false ∧ d.depth ≤ 40 ∧ d.shown.length ≤ sizeLine ∧ Q (.str d.shown) H
theorem call_rep (gd : X.A.guards = some []) (hu : X.A.units + 64 < cLine) : CallR X (.builtin "repr") (rRep X.K) := by
  intro pins s σ H xs us Q I r h
  obtain ⟨x, d, rfl, hd, hs, hn, hp, hz, q⟩ := h
  obtain ⟨u, rfl, ru⟩ := vals1 r
  cases hd with
  | non =>
    cases ru
    exact PySem.P.repr_of_none ⟨.str _, H, I.tok _, ⟨_, rfl⟩, by simpa [PyData.shown_none] using q⟩
  | bl b =>
    cases ru
    exact PySem.P.repr_of_bool ⟨.str _, H, I.tok _, ⟨_, rfl⟩, by simpa [PyData.shown_bool] using q⟩
  | int i =>
    obtain ⟨t, rfl⟩ := ru
    have hi : i.natAbs.log2 < 1920 := by simpa [PyData.showable] using hs
    exact PySem.P.repr_of_int hi ⟨.str _, H, I.tok _, ⟨_, rfl⟩, by simpa [PyData.shown_int] using q⟩
  | str z =>
    obtain ⟨t, rfl⟩ := ru
    rw [PyData.shown_str] at hz q
    exact PySem.P.repr_of_str (hsz := hz) ⟨.str _, H, I.tok _, ⟨_, rfl⟩, q⟩
  | lst hS hA =>
    obtain ⟨as, rd⟩ := Dp.reads I _ _ _ (Dp.lst hS hA) ru
    cases ru
    exact repr_of_reads' rd hs (PyData.noDict_hsm hn) gd (by omega) (fun _ _ z => z)
      (fun h' u tk hk => ⟨.str _, H, I.kept hk, ⟨_, rfl⟩, q⟩) hz
  | tup hS hA =>
    obtain ⟨as, rd⟩ := Dp.reads I _ _ _ (Dp.tup hS hA) ru
    cases ru
    exact repr_of_reads' rd hs (PyData.noDict_hsm hn) gd (by omega) (fun _ _ z => z)
      (fun h' u tk hk => ⟨.str _, H, I.kept hk, ⟨_, rfl⟩, q⟩) hz
end
end My
namespace My
open PySem PySem.Spec PyProof.Rows L2

theorem callG {P : Program} {w : World} {K : PySem.W.Frag} {mg mb : Str → Option Value} {k : Nat} {fa a : Addr}
    {fd : FuncData} {x : Str} {sp : Sp} {s1 : Shared} {vs : List Value} {ns : List Int}
    (KX : K.In s1.heap) (hns : s1.heap.Ns mainGlobals mg) (hb : s1.heap.Ns builtinsNs mb)
    (hbb : ∀ y : Str, y ≠ "__name__" → mb y = bootBuiltins y) (hlim : s1.heap.NoLimit) (hg : s1.gens = #[])
    (ha : s1.heap.get? a = some { cls := .type "list", data := .seq vs.toArray }) (hi : IntsAre vs ns)
    (hl : ns.length ≤ sizeLine) (hr : Room k callerA)
    (F : ∀ base : Heap, K.In base → base.Ns mainGlobals mg → FnG P w K mg base CX0 k fa fd [x] sp)
    (hbind : ∀ (s : Shared) (u : Value), BindsTo s fd ⟨[u], []⟩ [(x, u)])
    (hsp : ∀ H : Hp, SqL K H a (ns.map V.int) → sp [.ref a] H (fun v _ => v = .bl true) fun _ _ _ => False) :
    codeAny (model P w) callerA (.call (.ref fa) ⟨[.ref a], []⟩)
      (fun r t => r = .ok (.ret (.bool true)) ∧ OldK s1.heap t.heap ∧ t.os = s1.os ∧ AllBare t.gens) s1 := by
  have rv := vals_ints hi
  have lv := hi.length
  have core : ∀ H : Hp, Only H → SqL K H a (ns.map V.int) → HOk P w H s1.heap → (∀ b, H b ≠ none → b = a) →
      (H a ≠ none → K.lookup a = none) → codeAny (model P w) callerA (.call (.ref fa) ⟨[.ref a], []⟩)
      (fun r t => r = .ok (.ret (.bool true)) ∧ OldK s1.heap t.heap ∧ t.os = s1.os ∧ AllBare t.gens) s1 := by
    intro H hO hS hok hA hK
    have bo : ∀ {b : Addr} {o : Obj}, s1.heap.get? b = some o → H b = none → (hidT s1.heap H).get? b = some o :=
      fun e n => hidT_get e n
    have noA : ∀ {b : Addr} {o : Obj} {es : Array DictEntry} {ep : Nat}, s1.heap.get? b = some o →
        o.data = .dict es ep → H b = none := by
      intro b o es ep e d
      by_cases q : H b = none
      · exact q
      · have z := hA b q
        rw [z, ha] at e
        cases e
        cases (show Data.seq vs.toArray _ = Data.dict es ep from d)
    have nsK : ∀ {b : Addr} {m : Str → Option Value}, s1.heap.Ns b m → (hidT s1.heap H).Ns b m := by
      rintro b m ⟨o, es, ep, e, d, r⟩
      exact ⟨o, es, ep, bo e (noA e d), d, r⟩
    have kb : K.In (hidT s1.heap H) := by
      intro b o e
      refine bo (KX b o e) ?_
      by_cases q : H b = none
      · exact q
      · have z := hA b q
        rw [z] at e q
        rw [hK q] at e
        cases e
    have hM : Mod K mg (hidT s1.heap H) := by
      obtain ⟨mc, h1, h2⟩ := hlim
      exact ⟨kb, nsK hns, ⟨mb, nsK hb, hbb⟩, ⟨mc, nsK h1, h2⟩⟩
    have e0 : Env0 P w K mg (hidT s1.heap H) callerA [] s1 H :=
      ⟨rfl, hM, fun b o e => of_hidT e, Nat.le_of_eq (hidT_size _ _), trivial,
        fun b z => absurd (show b ∈ ([] : List Addr) from z) (by simp), hok, .of_eq hg⟩
    refine codeAny_mono ((F _ kb (nsK hns)).go callerA [] s1 H ⟨[.ref a], []⟩ [.ref a] [.ref a] _ _ hr rfl e0
      (hbind s1 (.ref a)) (.cons rfl .nil) (hsp H hS)) fun r t h => ?_
    cases r with
    | error e => exact h.elim
    | ok fl =>
      cases fl with
      | next => exact h.elim
      | brk => exact h.elim
      | cont => exact h.elim
      | ret u =>
        obtain ⟨v, H2, os, bare, un, hok2, r2, q⟩ := h
        have q2 : v = .bl true := q
        subst q2
        obtain rfl : u = Value.bool true := r2
        refine ⟨rfl, OldK.of_keep fun b o e => ?_, os, bare⟩
        rcases hO b with z | ⟨ob, xs, z⟩
        · exact un.keep b o e z (fun y => absurd (show b ∈ ([] : List Addr) from y) (by simp)) (by simp)
        · have e1 := (hok b _ z).1
          have e2 := (hok2 b _ (un.frzs b ob _ z)).1
          rw [e] at e1
          cases e1
          exact e2
  by_cases hk : K.lookup a = none
  · have hon : (fun b => if b = a then some (HO.frz { cls := .type "list", data := .seq vs.toArray }
        (.lst (ns.map V.int))) else none : Hp) a = _ := if_pos rfl
    refine core (fun b => if b = a then some (.frz { cls := .type "list", data := .seq vs.toArray }
      (.lst (ns.map V.int))) else none) (fun b => ?_) (.inl (.inr ⟨_, hon⟩)) (fun b u z => ?_) (fun b z => ?_) fun _ => hk
    · by_cases h : b = a
      · exact .inr ⟨_, _, if_pos h⟩
      · exact .inl (if_neg h)
    · by_cases h : b = a
      · have z2 := (if_pos h).symm.trans z
        cases z2
        subst h
        exact ⟨ha, by rw [List.length_map]; exact hl, vs, _, rv, ha⟩
      · cases (if_neg h).symm.trans z
    · by_cases h : b = a
      · exact h
      · exact absurd (if_neg h) z
  · obtain ⟨o, ho⟩ := Option.ne_none_iff_exists'.mp hk
    have e := KX a o ho
    rw [ha] at e
    cases e
    refine core (fun _ => none) (fun _ => .inl rfl) (.inr ⟨_, vs.toArray, _, ho, rfl, rfl, rfl, ?_, ?_⟩)
      (fun b u z => nomatch (show (none : Option HO) = some u from z)) (fun b z => absurd rfl z) fun z => absurd rfl z
    · rw [List.size_toArray, lv]; exact hl
    · simpa using rv

/-- the end, where the law's def is shown with no repr under way -/
theorem walkG {l : PySem.W.OpenLaw} {n k : Nat} {q : Program} {loose : List Str} {XP : (Str → Option Value) → Heap → Prop}
    {YP : World → Heap → Prop} {d : DefRec} {K : Params → PySem.W.Frag} {sp : PySem.W.Frag → Sp} {x : Str}
    (hn : l.most = some n) (hn2 : n ≤ sizeLine) (hdf : d.params.defaults = []) (hr : Room k callerA)
    (hY : ∀ (w : World) (h : Heap), YP w h → (K w.params).In h)
    (F : ∀ (w : World) (mg : Str → Option Value) (fa : Addr) (h : Heap), (K w.params).In h → h.Ns mainGlobals mg →
      mg d.name = some (.ref fa) → ∃ fd : FuncData,
        (∀ (s : Shared) (u : Value), BindsTo s fd ⟨[u], []⟩ [(x, u)]) ∧ ∀ base : Heap, (K w.params).In base →
          base.Ns mainGlobals mg → FnG l.prog w (K w.params) mg base CX0 k fa fd [x] (sp (K w.params)))
    (hsp : ∀ (K : PySem.W.Frag) (H : Hp) (a : Addr) (ns : List Int), ns.length ≤ n → SqL K H a (ns.map V.int) →
      sp K [.ref a] H (fun v _ => v = .bl true) fun _ _ _ => False) :
    PySem.W.WalkO q loose XP YP l.row.toRowW d [] (fun f vs => PySem.call f vs) := by
  refine Att.attach_call hn hdf ?_
  intro w s0 s1 mg mb fa o pm cd doc a vs ns G Y ho hd hcd hmg hobj hints hlen hg
  have KX := hY w _ Y
  obtain ⟨fd, hb, hF⟩ := F w mg fa _ KX G.T.g hmg
  exact callG KX G.T.g G.T.b G.T.builtins G.T.nolimit hg hobj hints (Nat.le_trans hlen hn2) hr hF hb
    fun H hS => hsp _ H a ns hlen hS
end My
namespace My
open PySem PySem.Spec PyProof.Rows L2

/-- a def of the text as it stands behind the top -/
structure Df (K : PySem.W.Frag) (mg : Str → Option Value) (x : Str) (st : Stmt) (ps : List Str) : Prop where
  ex : ∃ (f : Addr) (fd : FuncData), Fun K x x st f fd ∧ mg x = some (.ref f) ∧ Binds K fd ps []
/-- .. with what it promises -/
structure Cal (P : Program) (w : World) (K : PySem.W.Frag) (mg : Str → Option Value) (base : Heap) (k : Nat) (x : Str) (ps : List Str) (sp : Sp) : Prop where
  ex : ∃ (f : Addr) (fd : FuncData), FnOk P w K mg base CX0 k f fd ps sp ∧ mg x = some (.ref f) ∧ PySem.W.keepIn K (.ref f) = true ∧ Binds K fd ps []
structure CalG (P : Program) (w : World) (K : PySem.W.Frag) (mg : Str → Option Value) (base : Heap) (k : Nat) (x : Str) (ps : List Str) (sp : Sp) : Prop where
  ex : ∃ (f : Addr) (fd : FuncData), FnG P w K mg base CX0 k f fd ps sp ∧ mg x = some (.ref f) ∧ PySem.W.keepIn K (.ref f) = true ∧ Binds K fd ps []
section
variable {P : Program} {w : World} {K : PySem.W.Frag} {mg : Str → Option Value} {base : Heap}
theorem Df.cal {x : Str} {st : Stmt} {N ps : List Str} {k : Nat} {sp : Sp} (D : Df K mg x st ps) (S : FnScope N ps (defScope st))
    (ln : ∀ vs H Q E, sp vs H Q E → vs.length = ps.length)
    (hb : ∀ (f : Addr) (cdv : Value) (A : Around) (o : List Env) (s : Shared) (H : Hp) (vs : List V) (Q : VK) (E : XK),
      Room k (A.deeper (envOfC x (defScope st) s.heap.objs.size f cdv)) → sp vs H Q E →
      ∃ t, PSs (cxOf CX0 P w K mg base N x (defScope st) f cdv A o s H E).nox (defBody st) t ∧
        t { nx := fun _ h => Q .non h, rt := Q } (start N vs) H) :
    Cal P w K mg base (k + 1) x ps sp := by
  obtain ⟨f, fd, F, m, b⟩ := D.ex
  exact ⟨f, fd, F.ok S ln (fun cdv A o s H vs Q E => hb f cdv A o s H vs Q E), m, F.kp, b⟩
theorem Df.calG {x : Str} {st : Stmt} {N ps : List Str} {k : Nat} {sp : Sp} (D : Df K mg x st ps) (S : FnScope N ps (defScope st))
    (ln : ∀ vs H Q E, sp vs H Q E → vs.length = ps.length)
    (hb : ∀ (f : Addr) (cdv : Value) (A : Around) (o : List Env) (s : Shared) (H : Hp) (vs : List V) (Q : VK) (E : XK),
      Room k (A.deeper (envOfC x (defScope st) s.heap.objs.size f cdv)) → A.guards = some [] → sp vs H Q E →
      ∃ t, PSs (cxOf CX0 P w K mg base N x (defScope st) f cdv A o s H E).nox (defBody st) t ∧
        t { nx := fun _ h => Q .non h, rt := Q } (start N vs) H) :
    CalG P w K mg base (k + 1) x ps sp := by
  obtain ⟨f, fd, F, m, b⟩ := D.ex
  refine ⟨f, fd, okG F S ln (fun cdv A o s H vs Q E hr hg h => ?_), m, F.kp, b⟩
  obtain ⟨t, h1, h2⟩ := hb f cdv A o s H vs Q E hr hg h
  exact ⟨t, h1.nox, h2⟩
end
section
variable {X : Cx} {k j : Nat} {ps : List Str} {sp : Sp} {x : Str} {p pos : Pos} {e : Expr} {es : List Expr} {t : TA}
theorem pe_cal (C : Cal X.prog X.w X.K X.mg X.base k x ps sp) (hr : Room k X.A) (hg : Gl X x)
    (ha : PA X (e :: es) t) (hdb : (x == ("__debug__" : Str)) = false := by decide)
    (he : starEach (e :: es) X.env = (false, eval e X.env) :: starEach es X.env := by rfl)
    (hpl : (backTo pos (starEach es X.env)).any (·.1) = false := by rfl) :
    PE X (.Call (.Name x p) (e :: es) [] pos) (tCall sp [] E0 t) := by
  obtain ⟨f, fd, F, m, kp, b⟩ := C.ex
  exact pe_call F hr hg m kp b .nil pass0 ha hdb he hpl
theorem pe_calG (gd : X.A.guards = some []) (C : CalG X.prog X.w X.K X.mg X.base k x ps sp) (hr : Room k X.A) (hg : Gl X x)
    (ha : PA X (e :: es) t) (hdb : (x == ("__debug__" : Str)) = false := by decide)
    (he : starEach (e :: es) X.env = (false, eval e X.env) :: starEach es X.env := by rfl)
    (hpl : (backTo pos (starEach es X.env)).any (·.1) = false := by rfl) :
    PE X (.Call (.Name x p) (e :: es) [] pos) (tCall sp [] E0 t) := by
  obtain ⟨f, fd, F, m, kp, b⟩ := C.ex
  exact pe_callG gd F hr hg m kp b .nil pass0 ha hdb he hpl
end

/-! ### heaps: all stands but the tape; t.1 is the tape's own list, t.2 that of its cells -/
abbrev TA2 := Addr × Addr
def Kp (t : TA2) (H H' : Hp) : Prop := ∀ b o, b ≠ t.1 → H b = some o → H' b = some o
theorem Kp.refl (t : TA2) (H : Hp) : Kp t H H := fun _ _ _ h => h
theorem Kp.trans {t : TA2} {H H1 H2 : Hp} (a : Kp t H H1) (b : Kp t H1 H2) : Kp t H H2 := fun c o n h => b c o n (a c o n h)
theorem Kp.new {t : TA2} {p : Addr} {H : Hp} {o : HO} (h : H p = none) : Kp t H (upd H p o) := fun b u _ e => by
  rw [upd_ne (ne_of_none e h)]; exact e
theorem Kp.self {t : TA2} {H : Hp} {o : HO} : Kp t H (upd H t.1 o) := fun b u n e => by rw [upd_ne n]; exact e
theorem Kp.free {t : TA2} {p : Addr} {H H' : Hp} (a : Kp t H H') (n : p ≠ t.1) (h : H' p = none) : H p = none := by
  cases q : H p with
  | none => rfl
  | some o => rw [a p o n q] at h; cases h
theorem Kp.tup {t : TA2} {p : Addr} {H H' : Hp} {xs ys : List V} (a : Kp t H H') (ht : H t.1 = some (.lst ys)) (h : H p = some (.tup xs)) : H' p = some (.tup xs) :=
  a p _ (ne_of h ht (fun z => nomatch z)) h
/-- the numbers that a script gives -/
structure Tape (K : PySem.W.Frag) (H : Hp) (t : TA2) : Prop where
  ex : ∃ (ns : List Int) (p n s : Int), H t.1 = some (.lst [.ref t.2, .int p, .int n, .int s]) ∧ t.2 ≠ t.1 ∧
    H t.2 = some (.lst (ns.map V.int)) ∧ 0 ≤ p ∧ 0 ≤ n ∧ 0 ≤ s
theorem Tape.lst {K : PySem.W.Frag} {H : Hp} {t : TA2} (T : Tape K H t) : ∃ ys, H t.1 = some (.lst ys) := by
  obtain ⟨ns, p, n, s, h, _⟩ := T.ex
  exact ⟨_, h⟩
theorem Tape.new {K : PySem.W.Frag} {H : Hp} {t : TA2} {a : Addr} {o : HO} (T : Tape K H t) (h : H a = none) : Tape K (upd H a o) t := by
  obtain ⟨ns, p, n, s, h1, h2, h3, h4⟩ := T.ex
  exact ⟨ns, p, n, s, by rw [upd_ne (ne_of_none h1 h)]; exact h1, h2, by rw [upd_ne (ne_of_none h3 h)]; exact h3, h4⟩
theorem Tape.ne {K : PySem.W.Frag} {H : Hp} {t : TA2} {a : Addr} (T : Tape K H t) (h : H a = none) : a ≠ t.1 := by
  obtain ⟨ys, e⟩ := T.lst
  exact (ne_of_none e h).symm
theorem Tape.ne2 {K : PySem.W.Frag} {H : Hp} {t : TA2} {a : Addr} (T : Tape K H t) (h : H a = none) : a ≠ t.2 := by
  obtain ⟨ns, p, n, s, h1, h2, h3, h4⟩ := T.ex
  exact (ne_of_none h3 h).symm
/-- another object is changed -/
theorem Tape.put {K : PySem.W.Frag} {H : Hp} {t : TA2} {a : Addr} {o : HO} (T : Tape K H t) (h1 : a ≠ t.1) (h2 : a ≠ t.2) : Tape K (upd H a o) t := by
  obtain ⟨ns, p, n, s, g1, g2, g3, g4⟩ := T.ex
  exact ⟨ns, p, n, s, by rw [upd_ne h1.symm]; exact g1, g2, by rw [upd_ne h2.symm]; exact g3, g4⟩

def spTape (K : PySem.W.Frag) : Sp := fun vs H Q _ => ∃ (a : Addr) (ns : List Int), vs = [.ref a] ∧ SqL K H a (ns.map V.int) ∧ ns.length ≤ 63 ∧
  ∀ (t : TA2) H', Same H H' → H t.1 = none → Tape K H' t → Q (.ref t.1) H'
def spDraw (K : PySem.W.Frag) : Sp := fun vs H Q _ => ∃ (t : TA2) (m : Int), vs = [.ref t.1, .int m] ∧ Tape K H t ∧ m < 100000000 ∧
  ∀ v H', 0 ≤ v → v < max m 1 → Kp t H H' → (∀ b, H b = none → H' b = none) → Tape K H' t → Q (.int v) H'
end My
namespace My
open PySem PySem.Spec PyProof.Rows L2
theorem le_size {n : Nat} (h : n ≤ 1000) : n ≤ sizeLine := Nat.le_of_lt (small1000 h)
theorem le_size0 {n : Nat} (h : n.ble 1000 = true) : n ≤ sizeLine := le_size (Nat.le_of_ble_eq_true h)
end My
namespace My
open PySem PySem.Spec PyProof.Rows L2
theorem okG0 {P : Program} {w : World} {K : PySem.W.Frag} {mg : Str → Option Value} {base : Heap}
    {x : Str} {st : Stmt} {f : Addr} {fd : FuncData} {N ps : List Str} {k : Nat} {sp : Sp}
    (F : Fun K x x st f fd) (S : FnScope N ps (defScope st))
    (ln : ∀ vs H Q E, sp vs H Q E → vs.length = ps.length)
    (hb : ∀ (f : Addr) (cdv : Value) (A : Around) (o : List Env) (s : Shared) (H : Hp) (vs : List V) (Q : VK) (E : XK),
      Room k (A.deeper (envOfC x (defScope st) s.heap.objs.size f cdv)) → A.guards = some [] → sp vs H Q E →
      ∃ t, PSs (cxOf CX0 P w K mg base N x (defScope st) f cdv A o s H E).nox (defBody st) t ∧
        t { nx := fun _ h => Q .non h, rt := Q } (start N vs) H) :
    FnG P w K mg base CX0 (k + 1) f fd ps sp := by
  refine okG F S ln (fun cdv A o s H vs Q E hr hg h => ?_)
  obtain ⟨t, h1, h2⟩ := hb f cdv A o s H vs Q E hr hg h
  exact ⟨t, h1.nox, h2⟩
theorem df_mk {K : PySem.W.Frag} {h : Heap} {mg : Str → Option Value} {x : Str} {st : Stmt} {ps : List Str} {f : Addr}
    {od an : Option Addr} {sl : Array (Option Value)} {oc kV dc pm cd ct : Value} (X : K.In h) (G : h.Ns mainGlobals mg)
    (a : PySem.W.nsIn K mainGlobals x = some (some (.ref f)))
    (l : K.lookup f = some ⟨oc, od, .func (PySem.W.fnOf x x (defArgs st) (defBody st) (defScope st) .none kV dc pm an cd ct), sl⟩)
    (c : PySem.W.codeIn K cd x = true) (k : PySem.W.keepIn K (.ref f) = true)
    (hb : ∀ (kV doc pm : Value) (an : Option Addr) (cdv ct : Value) (us : List Value), us.length = ps.length →
      bindArgs (PySem.W.fnOf x x (defArgs st) (defBody st) (defScope st) .none kV doc pm an cdv ct) ⟨us, []⟩ = pure (ps.zip us)) :
    Df K mg x st ps := ⟨f, _, fun_mk l c k, PySem.W.mg_of X G a, (fun_mk l c k).binds hb⟩
/-- what a script's law promises -/
def spLaw (K : PySem.W.Frag) : Sp := fun vs H Q _ => ∃ (a : Addr) (ns : List Int), vs = [.ref a] ∧ SqL K H a (ns.map V.int) ∧ ns.length ≤ 63 ∧ ∀ H', Q (.bl true) H'
end My
namespace My
open PySem PySem.Spec PyProof.Rows L2
section
variable {X : Cx}
def rTupOf (K : PySem.W.Frag) : List V → Hp → VK → Prop := fun xs H Q => ∃ p ys, xs = [.ref p] ∧
  ((SqL K H p ys ∧ ∀ l, H l = none → Q (.ref l) (upd H l (.tup ys))) ∨ (SqT K H p ys ∧ Q (.ref p) H))
theorem call_tupK : CallR X (.type "tuple") (rTupOf X.K) := call_tuple_of
def rLisOf (K : PySem.W.Frag) : List V → Hp → VK → Prop := fun xs H Q => ∃ p ys, xs = [.ref p] ∧ (SqL K H p ys ∨ SqT K H p ys) ∧
  ∀ l, H l = none → Q (.ref l) (upd H l (.lst ys))
theorem call_lisK : CallR X (.type "list") (rLisOf X.K) := call_list_of
def rLenS (K : PySem.W.Frag) : List V → Hp → VK → Prop := fun xs H Q => ∃ p ys, xs = [.ref p] ∧ (SqL K H p ys ∨ SqT K H p ys) ∧ Q (.int ys.length) H
theorem call_lenK : CallR X (.builtin "len") (rLenS X.K) := call_len_seq
def tTru (K : PySem.W.Frag) (ta : TE) : TT := fun σ H Q => ta σ H fun x h => ∃ k, TruV K x h k ∧ Q k h
theorem pt_truK {a : Expr} {ta : TE} (ha : PE X a ta) (he : ∀ whole, isTrue a X.env whole = (do let v ← whole; standAt a.pos; holding [v] (truthy v))) :
    PT X a (tTru X.K ta) := pt_truth ha he
end
end My
namespace My
open PySem PySem.Spec PyProof.Rows L2

theorem it_any {J : It} {n : Nat} {G : Hp → Prop} {Y : Nat → Hp → V → Hp → Prop} (w : Walk J n G Y)
    {Bd : V → Hp → (Hp → Prop) → Prop} {Qd : Hp → Prop} {H0 : Hp} (Pv : Nat → Hp → Prop) (h0 : Pv 0 H0)
    (hG : ∀ i H, i ≤ n → Pv i H → G H) (hs : ∀ i x H H', i < n → Pv i H → Y i H x H' → Bd x H' (Pv (i + 1)))
    (hd : ∀ H, Pv n H → Qd H) :
    ∃ W : Nat → Nat → Hp → Prop, (∃ m, W 0 m H0) ∧ ∀ i m H, W i m H → (J.stop i H ∧ Qd H) ∨ (J.go i H ∧
      ∃ Nx : Hp → Prop, (∀ H', Nx H' → ∃ m', m' < m ∧ W (i + 1) m' H') ∧ ∀ x H', J.yld i H x H' → Bd x H' Nx) := by
  refine ⟨fun i m H => m = n - i ∧ i ≤ n ∧ Pv i H, ⟨n, by simp, Nat.zero_le _, h0⟩, ?_⟩
  rintro i m H ⟨rfl, hi, p⟩
  by_cases h : i < n
  · exact .inr ⟨w.goes i H h (hG i H hi p), Pv (i + 1), fun H' p' => ⟨n - (i + 1), by omega, rfl, h, p'⟩,
      fun x H' y => hs i x H H' h p (w.yields i H x H' h (hG i H hi p) y)⟩
  · have e : i = n := by omega
    subst e
    exact .inl ⟨w.stops H (hG i H hi p), hd H p⟩

/-! ### data that repr shows -/
structure Sh (d : PyData) (dp bk : Nat) : Prop where
  s : d.showable = true
  n : d.hasDict = false
  p : d.depth ≤ dp
  l : d.leavesShort 13 = true
  b : d.bulk ≤ bk
theorem Sh.mono {d : PyData} {a b a' b' : Nat} (h : Sh d a b) (ha : a ≤ a') (hb : b ≤ b') : Sh d a' b' :=
  ⟨h.s, h.n, Nat.le_trans h.p ha, h.l, Nat.le_trans h.b hb⟩
theorem Sh.fits {d : PyData} {dp bk : Nat} (h : Sh d dp bk) (hb : bk ≤ 1000000) : d.shown.length ≤ sizeLine :=
  PyData.shown_fits_bulk (B := 13) (by decide) (by decide) h.l (Nat.le_trans h.b (Nat.le_trans hb (by decide)))
theorem Sh.none : Sh .none 0 0 := ⟨by simp [PyData.showable], by simp [PyData.hasDict], by simp [PyData.depth], by simp [PyData.leavesShort], by simp [PyData.bulk]⟩
theorem Sh.bool (b : Bool) : Sh (.bool b) 0 0 := ⟨by simp [PyData.showable], by simp [PyData.hasDict], by simp [PyData.depth], by simp [PyData.leavesShort], by simp [PyData.bulk]⟩
theorem Sh.int {i : Int} (h : i.natAbs < 10 ^ 12) : Sh (.int i) 0 0 := by
  refine ⟨?_, by simp [PyData.hasDict], by simp [PyData.depth], ?_, by simp [PyData.bulk]⟩
  · simp only [PyData.showable, decide_eq_true_eq]
    exact log2_small (Nat.lt_trans h (by decide +kernel))
  · simp only [PyData.leavesShort, decide_eq_true_eq]
    exact PyData.shown_int_le h
/-- all signs are small -/
def Sg (x : Str) : Prop := ∀ c ∈ x.cps.toList, c < 128
theorem Sh.str {x : Str} (h : Sg x) : Sh (.str x) 0 x.length := by
  refine ⟨by simp [PyData.showable], by simp [PyData.hasDict], by simp [PyData.depth], ?_, by simp only [PyData.bulk]; exact Nat.le_refl _⟩
  simp only [PyData.leavesShort, List.all_eq_true, decide_eq_true_eq]
  intro c hc
  exact Nat.lt_trans (h c hc) (by decide)
theorem shAll {dp bk : Nat} : ∀ {ds : List PyData}, (∀ d ∈ ds, Sh d dp bk) → PyData.showableAll ds = true ∧ PyData.hasDictAll ds = false ∧
    PyData.depthAll ds ≤ dp ∧ PyData.leavesShortAll 13 ds = true ∧ PyData.bulkAll ds ≤ ds.length * (bk + 1)
  | [], _ => by simp [PyData.showableAll, PyData.hasDictAll, PyData.depthAll, PyData.leavesShortAll, PyData.bulkAll]
  | d :: ds, h => by
    obtain ⟨h1, h2, h3, h4, h5⟩ := shAll (ds := ds) fun e he => h e (List.mem_cons_of_mem _ he)
    have g := h d (List.mem_cons_self)
    refine ⟨by simp [PyData.showableAll, g.s, h1], by simp [PyData.hasDictAll, g.n, h2], ?_, by simp [PyData.leavesShortAll, g.l, h4], ?_⟩
    · simp only [PyData.depthAll]
      have := g.p
      omega
    · simp only [PyData.bulkAll, List.length_cons, Nat.succ_mul]
      have := g.b
      omega
theorem Sh.tup {dp bk : Nat} {ds : List PyData} (h : ∀ d ∈ ds, Sh d dp bk) : Sh (.tuple ds) (dp + 1) (ds.length * (bk + 1)) := by
  obtain ⟨h1, h2, h3, h4, h5⟩ := shAll h
  refine ⟨by simpa [PyData.showable] using h1, by simpa [PyData.hasDict] using h2, ?_, by simpa [PyData.leavesShort] using h4, by simpa [PyData.bulk] using h5⟩
  simp only [PyData.depth]
  omega
theorem Sh.list {dp bk : Nat} {ds : List PyData} (h : ∀ d ∈ ds, Sh d dp bk) : Sh (.list ds) (dp + 1) (ds.length * (bk + 1)) := by
  obtain ⟨h1, h2, h3, h4, h5⟩ := shAll h
  refine ⟨by simpa [PyData.showable] using h1, by simpa [PyData.hasDict] using h2, ?_, by simpa [PyData.leavesShort] using h4, by simpa [PyData.bulk] using h5⟩
  simp only [PyData.depth]
  omega
/-- repr answers with the shown text -/
theorem rep_ok {K : PySem.W.Frag} {H : Hp} {Q : VK} {x : V} {d : PyData} {dp bk : Nat} (h : Dp K H x d) (s : Sh d dp bk) (h1 : dp ≤ 40) (h2 : bk ≤ 1000000)
    (q : Q (.str d.shown) H) : rRep K [x] H Q := ⟨x, d, rfl, h, s.s, s.n, Nat.le_trans s.p h1, s.fits h2, q⟩
theorem dp_strs {K : PySem.W.Frag} {H : Hp} : ∀ xs : List Str, DpAll K H (xs.map V.str) (xs.map PyData.str)
  | [] => .nil
  | x :: xs => .cons (.str x) (dp_strs xs)
theorem dp_ints {K : PySem.W.Frag} {H : Hp} : ∀ xs : List Int, DpAll K H (xs.map V.int) (xs.map PyData.int)
  | [] => .nil
  | x :: xs => .cons (.int x) (dp_ints xs)
theorem sh_strs {n : Nat} {xs : List Str} (h : ∀ x ∈ xs, Sg x ∧ x.length ≤ n) : Sh (.tuple (xs.map PyData.str)) 1 (xs.length * (n + 1)) := by
  have := Sh.tup (dp := 0) (bk := n) (ds := xs.map PyData.str) (fun d hd => by
    obtain ⟨x, hx, rfl⟩ := List.mem_map.mp hd
    exact (Sh.str (h x hx).1).mono (Nat.le_refl _) (h x hx).2)
  rwa [List.length_map] at this

theorem Same.kp {t : TA2} {H H' : Hp} (h : Same H H') : Kp t H H' := fun b o _ e => h b o e
theorem Same.new {p : Addr} {H : Hp} {o : HO} (h : H p = Option.none) : Same H (upd H p o) := fun b u e => by
  rw [upd_ne (ne_of_none e h)]; exact e
theorem Tape.same {K : PySem.W.Frag} {H H' : Hp} {t : TA2} (T : Tape K H t) (h : Same H H') : Tape K H' t := by
  obtain ⟨ns, p, n, s, h1, h2, h3, h4⟩ := T.ex
  exact ⟨ns, p, n, s, h _ _ h1, h2, h _ _ h3, h4⟩
/-- a place in a list of numbers -/
theorem pickI {ns : List Int} {v : Int} (h0 : 0 ≤ v) (h1 : v < ns.length) : ∃ w, w ∈ ns ∧ atI (ns.map V.int) v = some (.int w) := by
  have h : v.toNat < ns.length := by omega
  refine ⟨ns[v.toNat], List.getElem_mem h, ?_⟩
  have z := atI_nat (xs := ns.map V.int) (j := v.toNat) (v := .int ns[v.toNat]) (by rw [List.getElem?_map, List.getElem?_eq_getElem h]; rfl)
  rw [Int.toNat_of_nonneg h0] at z
  exact z
theorem pickV {xs : List V} {v : Int} (h0 : 0 ≤ v) (h1 : v < xs.length) : ∃ w, w ∈ xs ∧ atI xs v = some w := by
  have h : v.toNat < xs.length := by omega
  refine ⟨xs[v.toNat], List.getElem_mem h, ?_⟩
  have z := atI_nat (xs := xs) (List.getElem?_eq_getElem h)
  rw [Int.toNat_of_nonneg h0] at z
  exact z
theorem pickS {ss : List Str} {v : Int} (h0 : 0 ≤ v) (h1 : v < ss.length) : ∃ w, w ∈ ss ∧ atI (ss.map V.str) v = some (.str w) := by
  have h : v.toNat < ss.length := by omega
  refine ⟨ss[v.toNat], List.getElem_mem h, ?_⟩
  have z := atI_nat (xs := ss.map V.str) (j := v.toNat) (v := .str ss[v.toNat]) (by rw [List.getElem?_map, List.getElem?_eq_getElem h]; rfl)
  rw [Int.toNat_of_nonneg h0] at z
  exact z

/-! ### symbols -/
abbrev sy (h l : Nat) : Str := ⟨#[h, l]⟩
theorem sy_cat (h l : Nat) : (⟨#[h]⟩ : Str) ++ (⟨#[l]⟩ : Str) = sy h l := rfl
def comb (hs ls : List Nat) : List Str := hs.flatMap fun h => ls.map fun l => sy h l
theorem comb_nil (ls : List Nat) : comb [] ls = [] := rfl
theorem comb_cons (h : Nat) (hs ls : List Nat) : comb (h :: hs) ls = (ls.map fun l => sy h l) ++ comb hs ls := List.flatMap_cons
theorem comb_snoc (h : Nat) (hs ls : List Nat) : comb (hs ++ [h]) ls = comb hs ls ++ (ls.map fun l => sy h l) := by
  unfold comb
  rw [List.flatMap_append]
  simp
theorem comb_len (ls : List Nat) : ∀ hs : List Nat, (comb hs ls).length = hs.length * ls.length
  | [] => by simp [comb_nil]
  | h :: hs => by
    rw [comb_cons, List.length_append, List.length_map, comb_len ls hs, List.length_cons, Nat.succ_mul, Nat.add_comm]
theorem mem_comb {x : Str} {hs ls : List Nat} (h : x ∈ comb hs ls) : ∃ a ∈ hs, ∃ b ∈ ls, x = sy a b := by
  unfold comb at h
  obtain ⟨a, ha, hx⟩ := List.mem_flatMap.mp h
  obtain ⟨b, hb, rfl⟩ := List.mem_map.mp hx
  exact ⟨a, ha, b, hb, rfl⟩
abbrev lows : List Nat := [97,98,99,100,101,102,103,104,105,106,107,108,109,110,111,112,113,114,115,116,117,118,119,120,121,122]
abbrev caps : List Nat := [65,66,67,68,69,70,71,72,73,74,75,76,77,78,79,80,81,82,83,84,85,86,87,88,89,90]
theorem lows_eq : ("abcdefghijklmnopqrstuvwxyz" : Str).cps.toList = lows := by decide +kernel
theorem caps_eq : ("ABCDEFGHIJKLMNOPQRSTUVWXYZ" : Str).cps.toList = caps := by decide +kernel
theorem lows_small : ∀ c ∈ lows, c < 128 := by decide
theorem caps_small : ∀ c ∈ caps, c < 128 := by decide
end My
namespace My
open PySem PySem.Spec PyProof.Rows L2
theorem le_of1000 : (26 : Nat) ≤ 1000 := by decide
end My
namespace My
open PySem PySem.Spec PyProof.Rows L2
theorem yes_ite {σ : L2.St} {H : Hp} {A B : Hp → Prop} (h : A H) : tYes σ H (fun b H3 => if b = true then A H3 else B H3) := by
  show (if true = true then A H else B H)
  rw [if_pos rfl]
  exact h
end My
namespace My
open PySem PySem.Spec PyProof.Rows L2
theorem cutV_from (xs : List V) (n : Nat) (h : n ≤ xs.length) : cutV xs (some (n : Int)) Option.none = xs.drop n := by
  unfold cutV
  rw [show HT.sIx xs.length 0 (some (n : Int)) = min n xs.length from HT.sIx_nat xs.length 0 n, HT.sIx_none, Nat.min_eq_left h]
  exact List.take_of_length_le (by rw [List.length_drop]; exact Nat.le_refl _)
theorem sIx_from (L n : Nat) (h : n ≤ L) : HT.sIx L 0 (some (n : Int)) = n := by
  rw [show HT.sIx L 0 (some (n : Int)) = min n L from HT.sIx_nat L 0 n, Nat.min_eq_left h]
end My
namespace My
open PySem PySem.Spec PyProof.Rows L2

/-! ### data that never changes -/
mutual
inductive Im (H : Hp) : V → PyData → Prop
  | non : Im H .non .none
  | bl (b : Bool) : Im H (.bl b) (.bool b)
  | int (i : Int) : Im H (.int i) (.int i)
  | str (x : Str) : Im H (.str x) (.str x)
  | tup {a : Addr} {xs : List V} {ds : List PyData} : H a = some (.tup xs) → ImAll H xs ds → Im H (.ref a) (.tuple ds)
inductive ImAll (H : Hp) : List V → List PyData → Prop
  | nil : ImAll H [] []
  | cons {v : V} {vs : List V} {d : PyData} {ds : List PyData} : Im H v d → ImAll H vs ds → ImAll H (v :: vs) (d :: ds)
end
def KT (H H' : Hp) : Prop := ∀ a xs, H a = some (.tup xs) → H' a = some (.tup xs)
theorem KT.refl (H : Hp) : KT H H := fun _ _ h => h
theorem KT.trans {H H1 H2 : Hp} (a : KT H H1) (b : KT H1 H2) : KT H H2 := fun c o h => b c o (a c o h)
theorem KT.new {H : Hp} {p : Addr} {o : HO} (h : H p = none) : KT H (upd H p o) := fun a xs e => by
  rw [upd_ne (ne_of_none e h)]; exact e
theorem KT.put {H : Hp} {p : Addr} {xs ys : List V} (h : H p = some (.lst xs)) : KT H (upd H p (.lst ys)) := fun a zs e => by
  rw [upd_ne (ne_of e h (fun z => nomatch z))]; exact e
theorem Same.kt {H H' : Hp} (h : Same H H') : KT H H' := fun a xs e => h _ _ e
theorem Kp.kt {K : PySem.W.Frag} {t : TA2} {H H' : Hp} (k : Kp t H H') (T : Tape K H t) : KT H H' := fun a xs e => by
  obtain ⟨ys, h⟩ := T.lst
  exact k.tup h e
mutual
theorem Im.dp {K : PySem.W.Frag} {H : Hp} : ∀ {v : V} {d : PyData}, Im H v d → Dp K H v d
  | _, _, .non => .non
  | _, _, .bl b => .bl b
  | _, _, .int i => .int i
  | _, _, .str x => .str x
  | _, _, .tup h ha => .tup (.inl (.inl h)) (ImAll.dp ha)
theorem ImAll.dp {K : PySem.W.Frag} {H : Hp} : ∀ {vs : List V} {ds : List PyData}, ImAll H vs ds → DpAll K H vs ds
  | _, _, .nil => .nil
  | _, _, .cons h t => .cons (Im.dp h) (ImAll.dp t)
end
mutual
theorem Im.kt {H H' : Hp} (k : KT H H') : ∀ {v : V} {d : PyData}, Im H v d → Im H' v d
  | _, _, .non => .non
  | _, _, .bl b => .bl b
  | _, _, .int i => .int i
  | _, _, .str x => .str x
  | _, _, .tup h ha => .tup (k _ _ h) (ImAll.kt k ha)
theorem ImAll.kt {H H' : Hp} (k : KT H H') : ∀ {vs : List V} {ds : List PyData}, ImAll H vs ds → ImAll H' vs ds
  | _, _, .nil => .nil
  | _, _, .cons h t => .cons (Im.kt k h) (ImAll.kt k t)
end
theorem ImAll.length {H : Hp} : ∀ {vs : List V} {ds : List PyData}, ImAll H vs ds → vs.length = ds.length
  | _, _, .nil => rfl
  | _, _, .cons _ t => congrArg (· + 1) (ImAll.length t)
theorem ImAll.get {H : Hp} : ∀ {vs : List V} {ds : List PyData} {i : Nat} {v : V}, ImAll H vs ds → vs[i]? = some v → ∃ d, ds[i]? = some d ∧ Im H v d
  | _, _, _, _, .nil, e => by simp at e
  | _, _, 0, _, .cons h _, e => by simp at e; subst e; exact ⟨_, rfl, h⟩
  | _, _, i + 1, _, .cons _ t, e => by
    obtain ⟨d, h1, h2⟩ := ImAll.get (i := i) t (by simpa using e)
    exact ⟨d, by simpa using h1, h2⟩
theorem ImAll.of {H : Hp} : ∀ {vs : List V} {ds : List PyData} {i : Nat} {d : PyData}, ImAll H vs ds → ds[i]? = some d → ∃ v, vs[i]? = some v ∧ Im H v d
  | _, _, _, _, .nil, e => by simp at e
  | _, _, 0, _, .cons h _, e => by simp at e; subst e; exact ⟨_, rfl, h⟩
  | _, _, i + 1, _, .cons _ t, e => by
    obtain ⟨d, h1, h2⟩ := ImAll.of (i := i) t (by simpa using e)
    exact ⟨d, by simpa using h1, h2⟩
theorem ImAll.snoc {H : Hp} : ∀ {vs : List V} {ds : List PyData} {v : V} {d : PyData}, ImAll H vs ds → Im H v d → ImAll H (vs ++ [v]) (ds ++ [d])
  | _, _, _, _, .nil, h => .cons h .nil
  | _, _, _, _, .cons g t, h => .cons g (ImAll.snoc t h)
theorem ImAll.append {H : Hp} : ∀ {vs ws : List V} {ds es : List PyData}, ImAll H vs ds → ImAll H ws es → ImAll H (vs ++ ws) (ds ++ es)
  | _, _, _, _, .nil, h => h
  | _, _, _, _, .cons g t, h => .cons g (ImAll.append t h)
theorem ImAll.strs {H : Hp} : ∀ xs : List Str, ImAll H (xs.map V.str) (xs.map PyData.str)
  | [] => .nil
  | x :: xs => .cons (.str x) (ImAll.strs xs)
theorem ImAll.ints {H : Hp} : ∀ xs : List Int, ImAll H (xs.map V.int) (xs.map PyData.int)
  | [] => .nil
  | x :: xs => .cons (.int x) (ImAll.ints xs)
theorem ImAll.strs_inv {H : Hp} : ∀ {vs : List V} {xs : List Str}, ImAll H vs (xs.map PyData.str) → vs = xs.map V.str
  | vs, [], h => by cases h; rfl
  | vs, x :: xs, h => by
    cases h with
    | cons h1 h2 =>
      cases h1
      rw [ImAll.strs_inv h2]
      rfl
theorem ImAll.ints_inv {H : Hp} : ∀ {vs : List V} {xs : List Int}, ImAll H vs (xs.map PyData.int) → vs = xs.map V.int
  | vs, [], h => by cases h; rfl
  | vs, x :: xs, h => by
    cases h with
    | cons h1 h2 =>
      cases h1
      rw [ImAll.ints_inv h2]
      rfl
theorem Im.inv {H : Hp} {v : V} {ds : List PyData} (h : Im H v (.tuple ds)) : ∃ p xs, v = .ref p ∧ H p = some (.tup xs) ∧ ImAll H xs ds := by
  cases h with
  | tup a b => exact ⟨_, _, rfl, a, b⟩

/-! ### texts -/
theorem flat1 : ∀ xs : List Nat, ((xs.map fun c => (⟨#[c]⟩ : Str)).map TL.tl).flatten = xs
  | [] => rfl
  | x :: xs => by
    rw [List.map_cons, List.map_cons, List.flatten_cons, flat1 xs]
    rfl
theorem joinL_nil : ∀ xs : List (List Nat), TL.joinL [] xs = xs.flatten
  | [] => rfl
  | [p] => by simp [TL.joinL]
  | p :: q :: r => by
    show p ++ ([] ++ TL.joinL [] (q :: r)) = _
    rw [joinL_nil (q :: r)]
    simp
theorem join_empty (ys : List Str) : (Txt.join "" ys).cps.toList = (ys.map TL.tl).flatten := by
  have h := TL.tl_join "" ys
  rw [← TL.join_eq] at h
  exact h.trans (joinL_nil _)
theorem join_signs (cs : List Nat) : (Txt.join "" (cs.map fun c => (⟨#[c]⟩ : Str))).cps.toList = cs := by
  rw [join_empty, flat1]
theorem sum_signs : ∀ cs : List Nat, ((cs.map fun c => (⟨#[c]⟩ : Str)).map (·.length)).sum = cs.length
  | [] => rfl
  | c :: cs => by
    rw [List.map_cons, List.map_cons, List.sum_cons, sum_signs cs, List.length_cons]
    show 1 + cs.length = _
    omega
theorem str_ext {x y : Str} (h : x.cps.toList = y.cps.toList) : x = y := by
  obtain ⟨⟨a⟩⟩ := x
  obtain ⟨⟨b⟩⟩ := y
  have h : a = b := h
  rw [h]
theorem str_len (x : Str) : x.cps.toList.length = x.length := Array.length_toList
theorem str_cat (x y : Str) : (x ++ y).cps.toList = x.cps.toList ++ y.cps.toList := by
  show (x.cps ++ y.cps).toList = _
  rw [Array.toList_append]
/-- a sign of a text, drawn -/
theorem pickC {z : Str} {v : Int} (h0 : 0 ≤ v) (h1 : v < z.length) : ∃ c, c ∈ z.cps.toList ∧ atI z.cps.toList v = some c := by
  have h : v.toNat < z.cps.toList.length := by rw [str_len]; omega
  refine ⟨z.cps.toList[v.toNat], List.getElem_mem h, ?_⟩
  have e := atI_nat (List.getElem?_eq_getElem h)
  rw [Int.toNat_of_nonneg h0] at e
  exact e

/-! ### class nodes -/
def clsD (b : Bool) (hs ls : Str) : PyData := .tuple [.str "class", .bool b, .str hs, .str ls]
structure Cl (hs ls : Str) : Prop where
  h1 : hs.length ≤ 27
  h2 : ls.length ≤ 26
  h3 : Sg hs
  h4 : Sg ls
theorem Cl.none : Cl "" "" := ⟨by decide, by decide, fun _ h => (nomatch h), fun _ h => (nomatch h)⟩
theorem Im.cls {H : Hp} {v : V} {b : Bool} {hs ls : Str} (h : Im H v (clsD b hs ls)) : ∃ p, v = .ref p ∧ H p = some (.tup [.str "class", .bl b, .str hs, .str ls]) := by
  obtain ⟨p, xs, rfl, hp, ha⟩ := h.inv
  cases ha with
  | cons a1 a2 => cases a1; cases a2 with
    | cons b1 b2 => cases b1; cases b2 with
      | cons c1 c2 => cases c1; cases c2 with
        | cons d1 d2 => cases d1; cases d2; exact ⟨p, rfl, hp⟩
theorem Im.mkcls {H : Hp} {p : Addr} {b : Bool} {hs ls : Str} (h : H p = some (.tup [.str "class", .bl b, .str hs, .str ls])) : Im H (.ref p) (clsD b hs ls) :=
  .tup h (.cons (.str _) (.cons (.bl _) (.cons (.str _) (.cons (.str _) .nil))))
/-- belongs -/
def bel (b : Bool) (hs ls : Str) (c d : Nat) : Bool :=
  !decide (V.bl ((decide (V.str hs = V.str (Str.ofString "")) || decide (c ∈ hs.cps.toList)) && (decide (V.str ls = V.str (Str.ofString "")) || decide (d ∈ ls.cps.toList))) = V.bl b)
/-- and, or of values -/
theorem or_val {Q : VK} {H : Hp} {c d : Bool} (h : Q (.bl (c || d)) H) : if c = true then Q (.bl true) H else Q (.bl d) H := by
  cases c <;> exact h
theorem or_cps {Q : VK} {H : Hp} {P : Prop} {c d : Bool} (hp : c = false → Q (.bl d) H → P) (h : Q (.bl (c || d)) H) : if c = true then Q (.bl true) H else P := by
  cases c
  · exact hp rfl h
  · exact h
theorem and_cps {Q : VK} {H : Hp} {P : Prop} {c d : Bool} (hp : c = true → Q (.bl d) H → P) (h : Q (.bl (c && d)) H) : if c = true then P else Q (.bl false) H := by
  cases c
  · exact h
  · exact hp rfl h
end My
namespace My
open PySem PySem.Spec PyProof.Rows L2
/-- letters, owners -/
structure Al (x : Str) : Prop where
  n1 : 1 ≤ x.length
  n3 : x.length ≤ 3
  sg : Sg x
theorem le_cat {z : Str} (h : z.length ≤ 900) : (Str.ofString "@").length + z.length ≤ sizeLine := le_size (by show 1 + z.length ≤ 1000; omega)
end My
namespace My
open PySem PySem.Spec PyProof.Rows L2
theorem join_fits (l : List Nat) (h : l.length ≤ 1000) : ((l.map fun c => (⟨#[c]⟩ : Str)).map (·.length)).sum + (l.map fun c => (⟨#[c]⟩ : Str)).length * (Str.ofString "").length ≤ 16777216 := by
  rw [sum_signs, show (Str.ofString "").length = 0 from rfl]
  omega
theorem join_cl (l : List Nat) : (Txt.join (Str.ofString "") (l.map fun c => (⟨#[c]⟩ : Str))).cps.toList = l := join_signs l
theorem join_len (l : List Nat) : (Txt.join (Str.ofString "") (l.map fun c => (⟨#[c]⟩ : Str))).length = l.length := by
  rw [← str_len, join_cl]
theorem sg_one {c : Nat} (h : c < 128) : Sg ⟨#[c]⟩ := fun d hd => by rw [show d = c by simpa using hd]; exact h
theorem sg_cat {x y : Str} (h : Sg x) (g : Sg y) : Sg (x ++ y) := fun c hc => by
  rw [str_cat] at hc
  rcases List.mem_append.mp hc with z | z
  · exact h c z
  · exact g c z
theorem sg_at : Sg (Str.ofString "@") := by
  intro c hc
  have h : c ∈ ([64] : List Nat) := hc
  have h2 : c = 64 := by simpa using h
  omega
end My
namespace My
open PySem PySem.Spec PyProof.Rows L2
theorem atcaps_eq : ("@ABCDEFGHIJKLMNOPQRSTUVWXYZ" : Str).cps.toList = 64 :: caps := by decide +kernel
theorem sg_sub {x : Str} {l : List Nat} (h : x.cps.toList.Sublist l) (g : ∀ c ∈ l, c < 128) : Sg x := fun c hc => g c (h.subset hc)
theorem atcaps_small : ∀ c ∈ 64 :: caps, c < 128 := by decide
theorem lows_sg : Sg "abcdefghijklmnopqrstuvwxyz" := fun c hc => by rw [lows_eq] at hc; exact lows_small c hc
theorem caps_sg : Sg "ABCDEFGHIJKLMNOPQRSTUVWXYZ" := fun c hc => by rw [caps_eq] at hc; exact caps_small c hc
theorem al_lows {x : Str} (h : x.cps.toList.Sublist lows) (h1 : 1 ≤ x.length) (h3 : x.length ≤ 3) : Al x := ⟨h1, h3, sg_sub h lows_small⟩
theorem al_caps {x : Str} (h : x.cps.toList.Sublist caps) (h1 : 1 ≤ x.length) (h3 : x.length ≤ 3) : Al x := ⟨h1, h3, sg_sub h caps_small⟩
end My
namespace My
open PySem PySem.Spec PyProof.Rows L2
theorem rep_bl (K : PySem.W.Frag) (H : Hp) (b : Bool) : Dp K H (.bl b) (.bool b) ∧ (PyData.bool b).showable = true ∧ (PyData.bool b).hasDict = false ∧ (PyData.bool b).depth ≤ 40 ∧ (PyData.bool b).shown.length ≤ sizeLine :=
  ⟨.bl b, (Sh.bool b).s, (Sh.bool b).n, Nat.le_trans (Sh.bool b).p (by decide), (Sh.bool b).fits (by decide)⟩
end My
namespace My
open PySem PySem.Spec PyProof.Rows L2

theorem atI_lastV {xs : List V} (h : xs ≠ []) : ∃ v, v ∈ xs ∧ atI xs (-1) = some v := by
  refine ⟨xs.getLast h, List.getLast_mem h, ?_⟩
  have e : xs = xs.dropLast ++ [xs.getLast h] := (List.dropLast_concat_getLast h).symm
  rw [show atI xs (-1) = atI (xs.dropLast ++ [xs.getLast h]) (-1) by rw [← e]]
  exact atI_last _ _
/-- the first place of a text -/
def at1 : List Str → Str → Nat
  | [], _ => 0
  | y :: ys, z => if y = z then 0 else at1 ys z + 1
theorem at1_get : ∀ {ys : List Str} {z : Str}, z ∈ ys → ys[at1 ys z]? = some z ∧ ∀ m, m < at1 ys z → ys[m]? ≠ some z
  | y :: ys, z, h => by
    unfold at1
    by_cases e : y = z
    · rw [if_pos e]
      exact ⟨by rw [e]; rfl, fun m hm => absurd hm (Nat.not_lt_zero _)⟩
    · rw [if_neg e]
      have h2 : z ∈ ys := by
        rcases List.mem_cons.mp h with q | q
        · exact absurd q.symm e
        · exact q
      obtain ⟨h3, h4⟩ := at1_get h2
      refine ⟨by simpa using h3, fun m hm => ?_⟩
      cases m with
      | zero => simpa using e
      | succ m => simpa using h4 m (by omega)
theorem at1_lt {ys : List Str} {z : Str} (h : z ∈ ys) : at1 ys z < ys.length := (List.getElem?_eq_some_iff.mp (at1_get h).1).1
/-- a sequence of symbols as a value -/
def Sq (H : Hp) (v : V) (xs : List Str) : Prop := Im H v (.tuple (xs.map PyData.str))
theorem Sq.get {H : Hp} {v : V} {xs : List Str} (h : Sq H v xs) : ∃ p, v = .ref p ∧ H p = some (.tup (xs.map V.str)) := by
  obtain ⟨p, vs, rfl, hp, ha⟩ := Im.inv h
  exact ⟨p, rfl, by rw [hp, ha.strs_inv]⟩
theorem Sq.mk {H : Hp} {p : Addr} {xs : List Str} (h : H p = some (.tup (xs.map V.str))) : Sq H (.ref p) xs := .tup h (ImAll.strs xs)
/-- a symbol -/
def Sym (x : Str) : Prop := ∃ a b, x = sy a b ∧ a < 128 ∧ b < 128
theorem Sym.sg {x : Str} (h : Sym x) : Sg x ∧ x.length ≤ 2 := by
  obtain ⟨a, b, rfl, ha, hb⟩ := h
  refine ⟨fun c hc => ?_, Nat.le_refl _⟩
  have hc' : c = a ∨ c = b := by simpa using hc
  rcases hc' with rfl | rfl <;> assumption
theorem sym_comb {hs ls : List Nat} (h1 : ∀ c ∈ hs, c < 128) (h2 : ∀ c ∈ ls, c < 128) : ∀ x ∈ comb hs ls, Sym x := fun x hx => by
  obtain ⟨a, ha, b, hb, rfl⟩ := mem_comb hx
  exact ⟨a, b, rfl, h1 a ha, h2 b hb⟩
theorem strs_in {ss : List Str} {w : V} (h : w ∈ ss.map V.str) : ∃ x, x ∈ ss ∧ w = .str x := by
  obtain ⟨x, hx, rfl⟩ := List.mem_map.mp h
  exact ⟨x, hx, rfl⟩
end My
namespace My
open PySem PySem.Spec PyProof.Rows L2

/-! ### acceptors -/
def rowD (r : List Int) : PyData := .tuple (r.map PyData.int)
def rowsD (rows : List (List Int)) : PyData := .tuple (rows.map rowD)
structure RowsOk (rows : List (List Int)) (n m : Nat) : Prop where
  ln : rows.length = n
  w : ∀ r ∈ rows, r.length = m ∧ ∀ x ∈ r, 0 ≤ x ∧ x < (n : Int)
structure AccOk (rs : List Str) (rows : List (List Int)) (ac : List Int) : Prop where
  r1 : 1 ≤ rs.length
  r12 : rs.length ≤ 12
  n1 : 1 ≤ rows.length
  n2 : rows.length ≤ 200
  w : ∀ r ∈ rows, r.length = rs.length ∧ ∀ x ∈ r, 0 ≤ x ∧ x < (rows.length : Int)
  a : ∀ x ∈ ac, 0 ≤ x ∧ x < (rows.length : Int)
  a2 : ac.length ≤ 200
/-- a tuple of texts whose object is known -/
def Rds (H : Hp) (p : Addr) (rs : List Str) : Prop := ∃ o : Obj, H p = some (.frz o (.tup (rs.map V.str))) ∧ o.cls = .type "tuple" ∧ o.dict = Option.none
theorem Rds.sq {K : PySem.W.Frag} {H : Hp} {p : Addr} {rs : List Str} (h : Rds H p rs) : SqT K H p (rs.map V.str) := by
  obtain ⟨o, e, _⟩ := h
  exact .inl (.inr ⟨o, e⟩)
theorem Rds.kp {t : TA2} {K : PySem.W.Frag} {H H' : Hp} {p : Addr} {rs : List Str} (h : Rds H p rs) (k : Kp t H H') (T : Tape K H t) : Rds H' p rs := by
  obtain ⟨o, e, r⟩ := h
  obtain ⟨ys, g⟩ := T.lst
  exact ⟨o, k _ _ (ne_of e g (fun z => nomatch z)) e, r⟩
theorem Rds.same {H H' : Hp} {p : Addr} {rs : List Str} (h : Rds H p rs) (k : Same H H') : Rds H' p rs := by
  obtain ⟨o, e, r⟩ := h
  exact ⟨o, k _ _ e, r⟩
theorem Rds.new {H : Hp} {p q : Addr} {u : HO} {rs : List Str} (h : Rds H p rs) (n : H q = Option.none) : Rds (upd H q u) p rs := h.same (Same.new n)
theorem Rds.put {H : Hp} {p q : Addr} {xs ys : List V} {rs : List Str} (h : Rds H p rs) (n : H q = some (.lst xs)) : Rds (upd H q (.lst ys)) p rs := by
  obtain ⟨o, e, r⟩ := h
  exact ⟨o, by rw [upd_ne (ne_of e n (fun z => nomatch z))]; exact e, r⟩
theorem Rds.ne {K : PySem.W.Frag} {t : TA2} {H : Hp} {p : Addr} {rs : List Str} (h : Rds H p rs) (T : Tape K H t) : p ≠ t.1 := by
  obtain ⟨o, e, r⟩ := h
  obtain ⟨ys, g⟩ := T.lst
  exact ne_of e g (fun z => nomatch z)
section
variable {X : Cx}
def rTupF (K : PySem.W.Frag) : List V → Hp → VK → Prop := fun xs H Q => ∃ p ys, xs = [.ref p] ∧ SqL K H p ys ∧
  ∀ (l : Addr) (o : Obj), H l = Option.none → o.cls = .type "tuple" → o.dict = Option.none → Q (.ref l) (upd H l (.frz o (.tup ys)))
theorem call_tupF : CallR X (.type "tuple") (rTupF X.K) := by
  intro pins s σ H xs us Q I r h
  obtain ⟨p, ys, rfl, hq, q⟩ := h
  obtain ⟨u, rfl, rx⟩ := vals1 r
  cases rx
  obtain ⟨its, r2, pl, hz⟩ := I.list hq
  have hlen := r2.length
  refine call_tuple_list pl.isList (fun h2 kp => ?_) (by simp only [List.size_toArray] <;> omega)
  have J : Inv X pins σ H { s with heap := h2 } := I.kept (t' := s.toks) kp
  have L : Inv X pins σ (upd H h2.objs.size (.frz { cls := .type "tuple", data := .seq its.toArray } (.tup ys)))
      { s with heap := h2.push { cls := .type "tuple", data := .seq its.toArray } } :=
    J.laid (t' := s.toks) (fun b o e => Heap.get?_push_of_some _ e) (Nat.le_refl _) ⟨Heap.get?_push_size _ rfl, hz, its, r2, IsTup.new _ _⟩
  exact ⟨.ref h2.objs.size, _, L, rfl, q _ _ (J.hok.fresh (Nat.le_refl _)) rfl rfl⟩
/-- a method of such a tuple -/
def tyF (T : String) (x : V) (H : Hp) : Prop := ∃ (p : Addr) (o : Obj) (u : HO), x = .ref p ∧ H p = some (.frz o u) ∧ o.cls = .type T ∧ o.dict = Option.none
def tBF (T : String) (r : V → List V → Hp → VK → Prop) (to : TE) (t : TA) : TE := fun σ H Q => to σ H fun x H1 => tyF T x H1 ∧ t σ H1 fun xs H2 => r x xs H2 Q
variable {o e : Expr} {es : List Expr} {to : TE} {t : TA} {name : Str} {apos cpos : Pos} {T id : String} {r : V → List V → Hp → VK → Prop}
theorem pe_bf (pa : PlainAttrs T) (slot : Slot T name id) (hty : typeOf (.builtin id) = pure (.type "method_descriptor")) (hm : MtR X id r)
    (ho : PE X o to) (ha : PA X (e :: es) t) (hbase : attributeBase o name X.env (eval o X.env) = eval o X.env := by rfl)
    (hfw : ((backTo cpos (starEach (e :: es) X.env)).all (fun x => !x.1) && (backToKw cpos (keywordEach [] X.env)).all (fun x => x.1.isSome) && decide
      ((e :: es).length + ([] : List Keyword).length + (if ([] : List Keyword).isEmpty then 0 else 1) < 30)) = true := by rfl)
    (hln : (apos.endLine == cpos.line) = true := by rfl) (hs : starEach (e :: es) X.env = (false, eval e X.env) :: starEach es X.env := by rfl)
    (hpl : (backTo cpos (starEach es X.env)).any (·.1) = false := by rfl) :
    PE X (.Call (.Attribute o name apos) (e :: es) [] cpos) (tBF T r to t) := by
  constructor
  intro pins s σ H Q I h
  refine wpAny_Call_method_late hbase hfw hln rfl
    (thn (ho.run pins s σ H _ I h) ?_)
  rintro v s1 ⟨x, H1, I1, r1, ⟨p, ob, u, rfl, hp, hc, hd⟩, q1⟩
  cases r1
  have hk := (I1.hok p _ hp).1
  refine ⟨T, id, pa, slot, hty, ⟨ob, hk, hc⟩, fun a ea => by cases ea; exact ⟨ob, hk, hd⟩, ?_⟩
  have hA := ha.run cpos pins s1 σ H1 _ I1 q1
  rw [hs] at hA ⊢
  refine Calls.callWith_builtin (by show (false || (backTo cpos (starEach es X.env)).any (·.1)) = false; rw [hpl]; rfl)
    (Calls.evalArgs_plain (thn hA ?_))
  rintro us s2 ⟨vs, H2, I2, r2, q2⟩
  exact hm pins s2 σ H2 (.ref p) vs (.ref p) us Q I2 rfl r2 q2
def rIdx (K : PySem.W.Frag) : V → List V → Hp → VK → Prop := fun x xs H Q => ∃ p, ∃ ys : List Str, ∃ z j, x = .ref p ∧ xs = [.str z] ∧ SqT K H p (ys.map V.str) ∧ ys[j]? = some z ∧ (∀ m, m < j → ys[m]? ≠ some z) ∧ Q (.int (j : Nat)) H
theorem mt_idx : MtR X "tuple.index" (rIdx X.K) := mt_tup_index
end
def AccAt (H : Hp) (v : V) (rs : List Str) (rows : List (List Int)) (ac : List Int) : Prop :=
  ∃ p a b c, v = .ref p ∧ H p = some (.tup [.ref a, .ref b, .ref c]) ∧ Rds H a rs ∧ Im H (.ref b) (rowsD rows) ∧ H c = some (.tup (ac.map V.int))
theorem Im.row {H : Hp} {v : V} {r : List Int} (h : Im H v (rowD r)) : ∃ p, v = .ref p ∧ H p = some (.tup (r.map V.int)) := by
  obtain ⟨p, vs, rfl, hp, ha⟩ := Im.inv h
  exact ⟨p, rfl, by rw [hp, ha.ints_inv]⟩
theorem Im.mkrow {H : Hp} {p : Addr} {r : List Int} (h : H p = some (.tup (r.map V.int))) : Im H (.ref p) (rowD r) := .tup h (ImAll.ints r)
theorem AccAt.same {H H' : Hp} {v : V} {rs : List Str} {rows : List (List Int)} {ac : List Int} (h : AccAt H v rs rows ac) (k : Same H H') : AccAt H' v rs rows ac := by
  obtain ⟨p, a, b, c, e, hp, ha, hb, hc⟩ := h
  exact ⟨p, a, b, c, e, k _ _ hp, ha.same k, hb.kt (Same.kt k), k _ _ hc⟩
theorem AccAt.kp {t : TA2} {K : PySem.W.Frag} {H H' : Hp} {v : V} {rs : List Str} {rows : List (List Int)} {ac : List Int} (h : AccAt H v rs rows ac) (k : Kp t H H') (T : Tape K H t) : AccAt H' v rs rows ac := by
  obtain ⟨p, a, b, c, e, hp, ha, hb, hc⟩ := h
  exact ⟨p, a, b, c, e, k.kt T _ _ hp, ha.kp k T, hb.kt (k.kt T), k.kt T _ _ hc⟩
theorem AccAt.inv {H : Hp} {v : V} {rs : List Str} {rows : List (List Int)} {ac : List Int} (h : AccAt H v rs rows ac) :
    ∃ p a b c us, v = .ref p ∧ H p = some (.tup [.ref a, .ref b, .ref c]) ∧ Rds H a rs ∧ H b = some (.tup us) ∧
      ImAll H us (rows.map rowD) ∧ H c = some (.tup (ac.map V.int)) := by
  obtain ⟨p, a, b, c, e, hp, ha, hb, hc⟩ := h
  obtain ⟨b2, vb, e2, hb2, ib⟩ := Im.inv hb
  cases e2
  exact ⟨p, a, b, c, vb, e, hp, ha, hb2, ib, hc⟩
/-- one step -/
def stp (rs : List Str) (rows : List (List Int)) (a : Int) (x : Str) : Int := (rows.getD a.toNat []).getD (at1 rs x) 0
def st (rs : List Str) (rows : List (List Int)) (xs : List Str) : Int := xs.foldl (stp rs rows) 0
theorem st_snoc (rs : List Str) (rows : List (List Int)) (xs : List Str) (x : Str) : st rs rows (xs ++ [x]) = stp rs rows (st rs rows xs) x := by
  unfold st
  rw [List.foldl_append]
  rfl
theorem stp_get {rs : List Str} {rows : List (List Int)} {ac : List Int} (O : AccOk rs rows ac) {a : Int} (h0 : 0 ≤ a) (h1 : a < rows.length) {x : Str} (hx : x ∈ rs) :
    ∃ r, rows[a.toNat]? = some r ∧ r[at1 rs x]? = some (stp rs rows a x) ∧ 0 ≤ stp rs rows a x ∧ stp rs rows a x < rows.length := by
  have ha : a.toNat < rows.length := by omega
  have hr := O.w _ (List.getElem_mem ha)
  have hi : at1 rs x < rows[a.toNat].length := by rw [hr.1]; exact at1_lt hx
  have e1 : rows.getD a.toNat [] = rows[a.toNat] := by simp [ha]
  have e : stp rs rows a x = rows[a.toNat][at1 rs x] := by
    unfold stp
    rw [e1]
    simp [hi]
  refine ⟨rows[a.toNat], List.getElem?_eq_getElem ha, ?_, ?_⟩
  · rw [e]
    exact List.getElem?_eq_getElem hi
  · rw [e]
    exact hr.2 _ (List.getElem_mem hi)
theorem st_in {rs : List Str} {rows : List (List Int)} {ac : List Int} (O : AccOk rs rows ac) (xs : List Str) (h : ∀ x ∈ xs, x ∈ rs) : ∀ i, 0 ≤ st rs rows (xs.take i) ∧ st rs rows (xs.take i) < rows.length := by
  intro i
  induction i with
  | zero => exact ⟨Int.le_refl 0, by have := O.n1; show (0 : Int) < _; omega⟩
  | succ i ih =>
    rw [List.take_add_one]
    cases e : xs[i]? with
    | none => simpa using ih
    | some x =>
      show 0 ≤ st rs rows (_ ++ [x]) ∧ st rs rows (_ ++ [x]) < _
      rw [st_snoc]
      obtain ⟨r, _, _, h1, h2⟩ := stp_get O ih.1 ih.2 (h x (List.mem_of_getElem? e))
      exact ⟨h1, h2⟩
def alg (rs : List Str) (rows : List (List Int)) (xs : List Str) (i : Nat) : List Int := (List.range (i + 1)).map fun j => st rs rows (xs.take j)
theorem alg_succ (rs : List Str) (rows : List (List Int)) (xs : List Str) (i : Nat) : alg rs rows xs (i + 1) = alg rs rows xs i ++ [st rs rows (xs.take (i + 1))] := by
  unfold alg
  rw [List.range_succ, List.map_append]
  rfl
theorem alg_len (rs : List Str) (rows : List (List Int)) (xs : List Str) (i : Nat) : (alg rs rows xs i).length = i + 1 := by
  unfold alg
  rw [List.length_map, List.length_range]
theorem alg_last (rs : List Str) (rows : List (List Int)) (xs : List Str) (i : Nat) : atI ((alg rs rows xs i).map V.int) (-1) = some (.int (st rs rows (xs.take i))) := by
  cases i with
  | zero => rfl
  | succ i =>
    rw [alg_succ, List.map_append]
    exact atI_last _ _
theorem flat_ints : ∀ xs : List Int, (xs.map V.int).all flatV = true
  | [] => rfl
  | x :: xs => by
    rw [List.map_cons, List.all_cons, flat_ints xs]
    rfl
theorem sh_ints {xs : List Int} (h : ∀ x ∈ xs, 0 ≤ x ∧ x < 1000000) : Sh (.tuple (xs.map PyData.int)) 1 xs.length := by
  have := Sh.tup (dp := 0) (bk := 0) (ds := xs.map PyData.int) (fun d hd => by
    obtain ⟨x, hx, rfl⟩ := List.mem_map.mp hd
    have := h x hx
    exact Sh.int (by omega))
  rwa [List.length_map, Nat.zero_add, Nat.mul_one] at this
theorem atI_int {xs : List V} {a : Int} {v : V} (h0 : 0 ≤ a) (h : xs[a.toNat]? = some v) : atI xs a = some v := by
  have e := atI_nat h
  rw [Int.toNat_of_nonneg h0] at e
  exact e
end My
namespace My
open PySem PySem.Spec PyProof.Rows L2
section
variable {X : Cx}
/-- < of data -/
def rLtD (K : PySem.W.Frag) : R2 := fun x y H Q => ∃ d e, Dp K H x d ∧ Dp K H y e ∧ PySem.W.alike d e = true ∧ d ≠ .none ∧ d.depth ≤ 30 ∧ Q (.bl (PySem.W.dataLt d e)) H
theorem op_ltD (hu : X.A.units + 64 < cLine) : OpR X (compareOp .Lt) (rLtD X.K) := by
  intro pins s σ H x y v u Q I rx ry h
  obtain ⟨d, e, hd, he, ha, hn, hp, q⟩ := h
  obtain ⟨as, r1⟩ := Dp.reads I d x v hd rx
  obtain ⟨bs, r2⟩ := Dp.reads I e y u he ry
  exact PySem.W.lt_data r1 r2 ha hn (by omega) ⟨.bl _, H, I, rfl, q⟩
end
section
variable {prog : Program} {w : World} {A : Around} {E : Value → Shared → Prop} {s : Shared}
theorem rev_places (n : Nat) : Builtin.Slice.slicePlaces ((n : Int) - 1) (-1) (-1) = n := by
  unfold Builtin.Slice.slicePlaces
  rw [if_neg (by decide)]
  by_cases h : (n : Int) - 1 > -1
  · rw [if_pos h, show (-(-1) : Int) = 1 by decide, Int.ediv_one]
    omega
  · rw [if_neg h]
    omega
theorem rev_applied {sl : Addr} {vl vu vs : Value} {n : Nat} {Q : Int × Int × Nat → Shared → Prop} (hs : s.heap.IsSliceOf sl vl vu vs)
    (pl : IsPart vl none) (pu : IsPart vu none) (ps : IsPart vs (some (-1))) (h : Q ((n : Int) - 1, -1, n) s) :
    wpAny (model prog w) A (Builtin.Slice.sliceApplied (.ref sl) (pure (n : Int))) Q E s := by
  obtain ⟨os, hos, hcs, hds⟩ := id hs
  unfold Builtin.Slice.sliceApplied Builtin.Slice.sliceFields
  refine wpAny_bind (wpAny_bind (wpAny_field hos hds (x := vl) rfl (wpAny_bind (wpAny_field hos hds (x := vu) rfl
    (wpAny_bind (wpAny_field hos hds (x := vs) rfl (wpAny_pure ?_)))))))
  refine wpAny_bind (HT.slicePart_ ps ?_)
  show wpAny _ _ (if ((-1 : Int) == 0) = true then _ else _) _ _ s
  rw [if_neg (by decide)]
  refine wpAny_bind (HT.slicePart_ pl (wpAny_bind (HT.slicePart_ pu
    (wpAny_bind (wpAny_pure ?_)))))
  have e : Builtin.Slice.sliceAdjust none none (-1) (n : Int) = ((n : Int) - 1, -1) := rfl
  show wpAny _ _ (match Builtin.Slice.sliceAdjust none none (-1) (n : Int) with | (lo, hi) => pure (lo, (-1 : Int), Builtin.Slice.slicePlaces lo hi (-1))) _ _ s
  rw [e]
  show wpAny _ _ (pure ((n : Int) - 1, (-1 : Int), Builtin.Slice.slicePlaces ((n : Int) - 1) (-1) (-1))) _ _ s
  rw [rev_places]
  exact wpAny_pure h
theorem rev_pick (xs : Array Value) : ((List.range xs.size).filterMap fun (m : Nat) => xs[(((xs.size : Int) - 1) + (m : Int) * (-1)).toNat]?).toArray = xs.toList.reverse.toArray := by
  have h := PySem.W.krv_range xs.size
  have e : (List.range xs.size).filterMap (fun (m : Nat) => xs[(((xs.size : Int) - 1) + (m : Int) * (-1)).toNat]?) = ((List.range xs.size).map fun k => xs.size - 1 - k).filterMap (xs[·]?) := by
    rw [List.filterMap_map]
    have go : ∀ l : List Nat, (∀ m ∈ l, m < xs.size) → l.filterMap (fun (m : Nat) => xs[(((xs.size : Int) - 1) + (m : Int) * (-1)).toNat]?) = l.filterMap ((xs[·]?) ∘ fun k => xs.size - 1 - k) := by
      intro l
      induction l with
      | nil => intro _; rfl
      | cons m l ih =>
        intro hl
        have hm := hl m List.mem_cons_self
        have e1 : (((xs.size : Int) - 1) + (m : Int) * (-1)).toNat = xs.size - 1 - m := by omega
        rw [List.filterMap_cons, List.filterMap_cons, ih fun k hk => hl k (List.mem_cons_of_mem _ hk), e1]
        rfl
    exact go _ fun m hm => List.mem_range.mp hm
  rw [e, h, List.filterMap_reverse, PySem.W.krv_all]
theorem getItem_rev {t sl : Addr} {items : Array Value} {vl vu vs : Value} {Q : Value → Shared → Prop} (ht : IsTup s.heap t items)
    (hs : s.heap.IsSliceOf sl vl vu vs) (pl : IsPart vl none) (pu : IsPart vu none) (ps : IsPart vs (some (-1)))
    (h : Q (.ref s.heap.objs.size) { s with heap := s.heap.push { cls := .type "tuple", data := .seq items.toList.reverse.toArray } })
    (hsz : items.size ≤ sizeLine) : wpAny (model prog w) A (getItem (.ref t) (.ref sl)) Q E s := by
  have hok : sizeOk (.seq items.toList.reverse.toArray) := by
    show items.toList.reverse.toArray.size ≤ sizeLine
    rw [List.size_toArray, List.length_reverse, Array.length_toList]
    exact hsz
  obtain ⟨os, hos, hcs, hds⟩ := id hs
  have hTs : s.TypeIs (.ref sl) "slice" := ⟨os, hos, hcs⟩
  unfold getItem
  try with_reducible refine wpAny_holding ?_
  first | refine wpAny_bind (wpAny_pure ?_) | skip
  refine wpAny_bind (wpAny_sequenceKey ht.typeIs (by decide) ?_)
  refine wpAny_bind (wpAny_callSpecial?_slot (name := Str.ofString "__getitem__") ht.typeIs PyProof.Rows.slot_tuple_getitem
    (wpAny_call_entry PyProof.Rows.slot_tuple_getitem ht.typeIs PyProof.Rows.entry_tuple_getitem ?_ (PyProof.Rows.args_tuple_getitem _ _)))
  show wpAny _ _ (Builtin.Tuple.tupleItemsOf (.ref t) >>= _) _ _ s
  refine wpAny_bind (PyProof.Rows.tupleItemsOf_ ht ?_)
  refine wpAny_bind (wpAny_typeOf hTs ?_)
  rw [if_pos (by decide)]
  refine wpAny_bind (rev_applied hs pl pu ps ?_)
  have hno : ¬ ((((items.size : Int) - 1) == 0 && (-1 : Int) == 1 && items.size == items.size) = true) := by
    intro q
    rw [Bool.and_eq_true, Bool.and_eq_true] at q
    exact absurd q.1.2 (by decide)
  show wpAny _ _ (if (((items.size : Int) - 1) == 0 && (-1 : Int) == 1 && items.size == items.size) = true then _ else _) _ _ s
  rw [if_neg hno, rev_pick]
  first
    | exact wpAny_bind (m := Builtin.Tuple.tupleExact _) (wpAny_newObj_type (wpAny_pure ⟨_, rfl, wpAny_pure h⟩) hok)
    | exact wpAny_bind (m := Builtin.Tuple.tupleExact _) (wpAny_newObj_type (wpAny_bind (wpAny_pure (wpAny_pure ⟨_, rfl, wpAny_pure h⟩))) hok)
    | exact wpAny_bind (wpAny_bind (m := Builtin.Tuple.tupleExact _) (wpAny_newObj_type (wpAny_pure (wpAny_pure ⟨_, rfl, wpAny_pure h⟩)) hok))
    | exact wpAny_bind (wpAny_bind (m := Builtin.Tuple.tupleExact _) (wpAny_newObj_type (wpAny_pure ⟨_, rfl, wpAny_pure h⟩) hok))
end
section
variable {X : Cx}
/-- t[::-1] -/
def tRevT (K : PySem.W.Frag) (te : TE) : TE := fun σ H Q => te σ H fun x H1 => ∃ a xs, x = .ref a ∧ SqT K H1 a xs ∧ ∀ p, H1 p = none → Q (.ref p) (upd H1 p (.tup xs.reverse))
theorem pe_revT {e : Expr} {te : TE} {k : Nat} {p1 p2 p3 pos : Pos} (he : PE X e te) :
    PE X (.Subscript e (.Slice none none (some (.UnaryOp .USub (.Constant (.int 1) k p1) p2)) p3) pos) (tRevT X.K te) := by
  constructor
  intro pins s σ H Q I h
  refine Subscript_ (thn (he.run pins s σ H _ I h) ?_)
  rintro v s1 ⟨x, H1, I1, r1, a, xs, rfl, hx, q⟩
  cases r1
  have hst : PO X (some (.UnaryOp .USub (.Constant (.int 1) k p1) p2)) (tPart (tUn (rU fun i => .int (-i)) (tC (.int 1)))) :=
    po_some (pe_un un_neg pe_int)
  refine wpAny_Slice (thn (po_none.run pins s1 σ H1 (fun o h2 => o = none ∧ h2 = H1) I1 ⟨rfl, rfl⟩) ?_)
  rintro vl s2 ⟨l, H2, I2, pl, rfl, rfl⟩
  refine thn (po_none.run pins s2 σ H2 (fun o h3 => o = none ∧ h3 = H2) I2 ⟨rfl, rfl⟩) ?_
  rintro vu s3 ⟨u, H3, I3, pu, rfl, rfl⟩
  refine thn (hst.run pins s3 σ H3 (fun o h4 => o = some (-1) ∧ h4 = H3) I3 ⟨1, rfl, -1, rfl, rfl, rfl⟩) ?_
  rintro vs s4 ⟨o, H4, I4, ps, rfl, rfl⟩
  have I5 : Inv X pins σ H4 { s4 with heap := s4.heap.push { cls := .type "slice", data := .fields #[vl, vu, vs] } } :=
    I4.kept (t' := s4.toks) fun b ob q => Heap.get?_push_of_some _ q
  obtain ⟨its, r, ht, hz⟩ := I5.tuple hx
  have hlen := r.length
  show wpAny (model X.prog X.w) X.A (subscriptTail e (.Slice none none (some (.UnaryOp .USub (.Constant (.int 1) k p1) p2)) p3) (.ref a)
    (.ref s4.heap.objs.size)) (EP X pins σ Q) X.xe { s4 with heap := s4.heap.push { cls := .type "slice", data := .fields #[vl, vu, vs] } }
  refine tail_any (ops := [.ref a, .ref s4.heap.objs.size]) ht.typeIs (PyProof.Rows.slot_tuple_getitem.lookup) ?_ (by with_unfolding_all rfl)
  refine getItem_rev ht (Heap.IsSliceOf.new _ vl vu vs) pl pu ps ?_ (by rw [List.size_toArray]; omega)
  refine ⟨.ref _, _, I5.laid (t' := s4.toks) (o := .tup xs.reverse) (fun b ob q => Heap.get?_push_of_some _ q) (Nat.le_refl _) ?_, rfl, q _ (I5.hok.fresh (Nat.le_refl _))⟩
  exact ⟨by rw [List.length_reverse]; exact hz, _, r.reverse, IsTup.new _ _⟩
end
end My
namespace My
open PySem PySem.Spec PyProof.Rows L2
section
variable {X : Cx}
/-- tuple(list): the object is known -/
def rTupG (K : PySem.W.Frag) : List V → Hp → VK → Prop := fun xs H Q => ∃ p ys, xs = [.ref p] ∧ SqL K H p ys ∧
  ∀ (l : Addr) (o : Obj), H l = Option.none → (o.cls = .type "tuple" ∧ o.dict = Option.none ∧ o.slots = #[]) → Q (.ref l) (upd H l (.frz o (.tup ys)))
theorem call_tupG : CallR X (.type "tuple") (rTupG X.K) := by
  intro pins s σ H xs us Q I r h
  obtain ⟨p, ys, rfl, hq, q⟩ := h
  obtain ⟨u, rfl, rx⟩ := vals1 r
  cases rx
  obtain ⟨its, r2, pl, hz⟩ := I.list hq
  have hlen := r2.length
  refine call_tuple_list pl.isList (fun h2 kp => ?_) (by simp only [List.size_toArray] <;> omega)
  have J : Inv X pins σ H { s with heap := h2 } := I.kept (t' := s.toks) kp
  have L : Inv X pins σ (upd H h2.objs.size (.frz { cls := .type "tuple", data := .seq its.toArray } (.tup ys)))
      { s with heap := h2.push { cls := .type "tuple", data := .seq its.toArray } } :=
    J.laid (t' := s.toks) (fun b o e => Heap.get?_push_of_some _ e) (Nat.le_refl _) ⟨Heap.get?_push_size _ rfl, hz, its, r2, IsTup.new _ _⟩
  exact ⟨.ref h2.objs.size, _, L, rfl, q _ _ (J.hok.fresh (Nat.le_refl _)) ⟨rfl, rfl, rfl⟩⟩
/-- such a tuple -/
def TupG (H : Hp) (p : Addr) (xs : List V) : Prop := ∃ o : Obj, H p = some (.frz o (.tup xs)) ∧ o.cls = .type "tuple" ∧ o.dict = Option.none ∧ o.slots = #[]
/-- l.extend(tuple) -/
def rExtG : V → List V → Hp → VK → Prop := fun x vs H Q => ∃ l b xs zs, x = .ref l ∧ vs = [.ref b] ∧ H l = some (.lst xs) ∧ TupG H b zs ∧ xs.length + zs.length ≤ sizeLine ∧ Q .non (upd H l (.lst (xs ++ zs)))
theorem mt_extG : MtM X "list.extend" rExtG := by
  intro pins s σ H x vs v us Q I rx rv h
  obtain ⟨l, b, xs, zs, rfl, rfl, hH, ⟨ob, hB, hc, hd, hsl⟩, hz, q⟩ := h
  cases rx
  obtain ⟨u, rfl, ru⟩ := rv.one
  cases ru
  obtain ⟨z, its, n, r, hl, e⟩ := I.lstM hH
  obtain ⟨e2, z2, its2, r2, o2, e2', c2, n2, d2⟩ := I.hok b _ hB
  have eo : o2 = ob := Option.some.inj (e2'.symm.trans e2)
  subst eo
  obtain ⟨oc, od, odt, osl⟩ := o2
  simp only at hc hd hsl c2 d2
  subst hc hd hsl d2
  have hl2 := r2.length
  have hsz : its.toArray.size + its2.toArray.size ≤ sizeLine := by rw [List.size_toArray, List.size_toArray]; omega
  have hlong : ¬ (!its.toArray.isEmpty && Builtin.List.listTooLong (its.toArray.size + its2.toArray.size)) = true := by
    rw [notLongL hsz, Bool.and_false]
    exact Bool.false_ne_true
  refine call_meets F.slot_list_extend ⟨_, e, rfl⟩ F.entry_list_extend (F.args_list_extend_2 _ _)
    (AutoSeq1.list_extend_list_tuple_0 l its.toArray n b its2.toArray n2 hlong (by rw [List.size_toArray]; omega) (by omega)) ⟨e, e2, ?_⟩
  refine ⟨.non, _, I.lset (its' := its ++ its2) hH e (by simp) (r.append r2) ?_, rfl, q⟩
  rw [List.length_append]
  omega
end
theorem Same.putNew {H H' : Hp} {l : Addr} {o : HO} (k : Same H H') (h : H l = Option.none) : Same H (upd H' l o) := fun b u e => by
  rw [upd_ne (ne_of_none e h)]
  exact k b u e

/-! ### patterns -/
inductive Pat
  | emp
  | cls (b : Bool) (hs ls : Str)
  | un (k : Str) (p : Pat)
  | bi (k : Str) (p q : Pat)
namespace Pat
def d : Pat → PyData
  | emp => .tuple [.str "empty"]
  | cls b hs ls => clsD b hs ls
  | un k p => .tuple [.str k, p.d]
  | bi k p q => .tuple [.str k, p.d, q.d]
def n : Pat → Nat
  | emp => 1
  | cls _ _ _ => 1
  | un _ p => p.n + 1
  | bi _ p q => p.n + q.n + 1
def ops : Pat → List Pat
  | emp => []
  | cls _ _ _ => []
  | un _ p => [p]
  | bi _ p q => [p, q]
def parts : Pat → List Pat
  | emp => [emp]
  | cls b hs ls => [cls b hs ls]
  | un k p => p.parts ++ [un k p]
  | bi k p q => p.parts ++ q.parts ++ [bi k p q]
def mir : Pat → Pat
  | emp => emp
  | cls b hs ls => cls b hs ls
  | un k p => un k p.mir
  | bi k p q => if k = "then" then bi k q.mir p.mir else bi k p.mir q.mir
def Ok : Pat → Prop
  | emp => True
  | cls _ hs ls => Cl hs ls
  | un k p => (k = "star" ∨ k = "not") ∧ p.Ok
  | bi k p q => (k = "then" ∨ k = "or" ∨ k = "and") ∧ p.Ok ∧ q.Ok
theorem n_pos : ∀ p : Pat, 1 ≤ p.n
  | emp => Nat.le_refl _
  | cls _ _ _ => Nat.le_refl _
  | un _ _ => Nat.succ_le_succ (Nat.zero_le _)
  | bi _ _ _ => Nat.succ_le_succ (Nat.zero_le _)
theorem ops_ok : ∀ {p : Pat}, p.Ok → ∀ o ∈ p.ops, o.Ok
  | emp, _, o, h => nomatch h
  | cls _ _ _, _, o, h => nomatch h
  | un k p, h, o, ho => by
    obtain rfl : o = p := by simpa [ops] using ho
    exact h.2
  | bi k p q, h, o, ho => by
    have ho : o = p ∨ o = q := by simpa [ops] using ho
    rcases ho with rfl | rfl
    · exact h.2.1
    · exact h.2.2
theorem n_ops : ∀ p : Pat, p.n = (p.ops.map n).sum + 1
  | emp => rfl
  | cls _ _ _ => rfl
  | un _ p => by simp [n, ops]
  | bi _ p q => by simp [n, ops]
theorem ops_lt {p o : Pat} (h : o ∈ p.ops) : o.n < p.n := by
  cases p with
  | emp => cases h
  | cls => cases h
  | un k p =>
    obtain rfl : o = p := by simpa [ops] using h
    simp [n]
  | bi k p q =>
    have ho : o = p ∨ o = q := by simpa [ops] using h
    rcases ho with rfl | rfl <;> simp only [n] <;> omega
theorem parts_ops : ∀ p : Pat, p.parts = (p.ops.map parts).flatten ++ [p]
  | emp => rfl
  | cls _ _ _ => rfl
  | un _ p => by simp [parts, ops]
  | bi _ p q => by simp [parts, ops]
theorem parts_len : ∀ p : Pat, p.parts.length = p.n
  | emp => rfl
  | cls _ _ _ => rfl
  | un _ p => by rw [parts, List.length_append, parts_len p]; rfl
  | bi _ p q => by rw [parts, List.length_append, List.length_append, parts_len p, parts_len q]; rfl
theorem parts_n : ∀ {p o : Pat}, o ∈ p.parts → o.n ≤ p.n
  | emp, o, h => by obtain rfl : o = emp := by simpa [parts] using h
                    exact Nat.le_refl _
  | cls b x y, o, h => by obtain rfl : o = cls b x y := by simpa [parts] using h
                          exact Nat.le_refl _
  | un k p, o, h => by
    have h : o ∈ p.parts ∨ o = un k p := by simpa [parts] using h
    rcases h with h | rfl
    · have := parts_n h
      simp only [n]; omega
    · exact Nat.le_refl _
  | bi k p q, o, h => by
    have h : o ∈ p.parts ∨ o ∈ q.parts ∨ o = bi k p q := by simpa [parts] using h
    rcases h with h | h | rfl
    · have := parts_n h
      simp only [n]; omega
    · have := parts_n h
      simp only [n]; omega
    · exact Nat.le_refl _
theorem parts_ok : ∀ {p o : Pat}, p.Ok → o ∈ p.parts → o.Ok
  | emp, o, g, h => by obtain rfl : o = emp := by simpa [parts] using h
                       exact g
  | cls b x y, o, g, h => by obtain rfl : o = cls b x y := by simpa [parts] using h
                             exact g
  | un k p, o, g, h => by
    have h : o ∈ p.parts ∨ o = un k p := by simpa [parts] using h
    rcases h with h | rfl
    · exact parts_ok g.2 h
    · exact g
  | bi k p q, o, g, h => by
    have h : o ∈ p.parts ∨ o ∈ q.parts ∨ o = bi k p q := by simpa [parts] using h
    rcases h with h | h | rfl
    · exact parts_ok g.2.1 h
    · exact parts_ok g.2.2 h
    · exact g
theorem mir_n : ∀ p : Pat, p.mir.n = p.n
  | emp => rfl
  | cls _ _ _ => rfl
  | un _ p => by rw [mir, n, mir_n p]; rfl
  | bi k p q => by
    rw [mir]
    split
    · rw [n, mir_n p, mir_n q, n]; omega
    · rw [n, mir_n p, mir_n q, n]
theorem mir_ok : ∀ {p : Pat}, p.Ok → p.mir.Ok
  | emp, h => h
  | cls _ _ _, h => h
  | un _ p, h => ⟨h.1, mir_ok h.2⟩
  | bi k p q, h => by
    rw [mir]
    split
    · exact ⟨h.1, mir_ok h.2.2, mir_ok h.2.1⟩
    · exact ⟨h.1, mir_ok h.2.1, mir_ok h.2.2⟩
theorem mir_mir : ∀ p : Pat, p.mir.mir = p
  | emp => rfl
  | cls _ _ _ => rfl
  | un _ p => by rw [mir, mir, mir_mir p]
  | bi k p q => by
    by_cases h : k = "then"
    · rw [mir, if_pos h, mir, if_pos h, mir_mir p, mir_mir q]
    · rw [mir, if_neg h, mir, if_neg h, mir_mir p, mir_mir q]
end Pat
theorem Sh.two {x y : PyData} {a b a' b' c : Nat} (h : Sh x a b) (g : Sh y a' b') (h1 : a ≤ c) (h2 : a' ≤ c) : Sh (.tuple [x, y]) (c + 1) (b + b' + 2) := by
  refine ⟨by simp [PyData.showable, PyData.showableAll, h.s, g.s], by simp [PyData.hasDict, PyData.hasDictAll, h.n, g.n], ?_, by simp [PyData.leavesShort, PyData.leavesShortAll, h.l, g.l], ?_⟩
  · have := h.p
    have := g.p
    simp only [PyData.depth, PyData.depthAll]
    omega
  · have := h.b
    have := g.b
    simp only [PyData.bulk, PyData.bulkAll]
    omega
theorem Sh.three {x y z : PyData} {a b a' b' a2 b2 c : Nat} (h : Sh x a b) (g : Sh y a' b') (k : Sh z a2 b2) (h1 : a ≤ c) (h2 : a' ≤ c) (h3 : a2 ≤ c) : Sh (.tuple [x, y, z]) (c + 1) (b + b' + b2 + 3) := by
  refine ⟨by simp [PyData.showable, PyData.showableAll, h.s, g.s, k.s], by simp [PyData.hasDict, PyData.hasDictAll, h.n, g.n, k.n], ?_, by simp [PyData.leavesShort, PyData.leavesShortAll, h.l, g.l, k.l], ?_⟩
  · have := h.p
    have := g.p
    have := k.p
    simp only [PyData.depth, PyData.depthAll]
    omega
  · have := h.b
    have := g.b
    have := k.b
    simp only [PyData.bulk, PyData.bulkAll]
    omega
theorem sh_cls {b : Bool} {hs ls : Str} (h : Cl hs ls) : Sh (clsD b hs ls) 1 112 := by
  have h1 := h.h1
  have h2 := h.h2
  have := Sh.tup (dp := 0) (bk := 27) (ds := [.str "class", .bool b, .str hs, .str ls]) (fun d hd => by
    simp only [List.mem_cons, List.not_mem_nil, or_false] at hd
    rcases hd with rfl | rfl | rfl | rfl
    · exact (Sh.str (x := "class") (by intro c hc; revert c; decide)).mono (by decide) (by decide)
    · exact (Sh.bool b).mono (by decide) (by decide)
    · exact (Sh.str h.h3).mono (by decide) (by omega)
    · exact (Sh.str h.h4).mono (by decide) (by omega))
  exact this
theorem sg_dec {x : Str} (h : x.cps.toList.all (fun c => c < 128) = true) : Sg x := fun c hc => by simpa using List.all_eq_true.mp h c hc
theorem sh_pat : ∀ {p : Pat}, p.Ok → Sh p.d p.n (120 * p.n)
  | .emp, _ => by
    have := Sh.tup (dp := 0) (bk := 5) (ds := [.str "empty"]) (fun d hd => by
      obtain rfl : d = .str "empty" := by simpa using hd
      exact (Sh.str (x := "empty") (sg_dec (by decide))).mono (by decide) (by decide))
    exact this.mono (by decide) (by decide)
  | .cls b hs ls, h => (sh_cls h).mono (Nat.le_refl 1) (by show 112 ≤ 120 * 1; decide)
  | .un k p, h => by
    have hk : Sh (.str k) 0 5 := by
      rcases h.1 with rfl | rfl
      · exact (Sh.str (sg_dec (by decide))).mono (by decide) (by decide)
      · exact (Sh.str (sg_dec (by decide))).mono (by decide) (by decide)
    refine (Sh.two hk (sh_pat h.2) (Nat.zero_le _) (Nat.le_refl p.n)).mono (Nat.le_refl _) ?_
    simp only [Pat.n]
    omega
  | .bi k p q, h => by
    have hk : Sh (.str k) 0 5 := by
      rcases h.1 with rfl | rfl | rfl
      · exact (Sh.str (sg_dec (by decide))).mono (by decide) (by decide)
      · exact (Sh.str (sg_dec (by decide))).mono (by decide) (by decide)
      · exact (Sh.str (sg_dec (by decide))).mono (by decide) (by decide)
    refine (Sh.three (c := p.n + q.n) hk (sh_pat h.2.1) (sh_pat h.2.2) (Nat.zero_le _) (by omega) (by omega)).mono (Nat.le_refl _) ?_
    simp only [Pat.n]
    omega
theorem sh_parts {p : Pat} (h : p.Ok) (h16 : p.n ≤ 16) : Sh (.tuple (p.parts.map Pat.d)) 17 (16 * 1921) := by
  have := Sh.tup (dp := 16) (bk := 1920) (ds := p.parts.map Pat.d) (fun d hd => by
    obtain ⟨o, ho, rfl⟩ := List.mem_map.mp hd
    have h1 := Pat.parts_n ho
    exact (sh_pat (Pat.parts_ok h ho)).mono (by omega) (by omega))
  refine this.mono (Nat.le_refl _) ?_
  rw [List.length_map, Pat.parts_len]
  exact Nat.mul_le_mul_right _ h16
/-- how a pattern's tuple stands -/
theorem Im.emp {H : Hp} {v : V} (h : Im H v Pat.emp.d) : ∃ a, v = .ref a ∧ H a = some (.tup [.str "empty"]) := by
  obtain ⟨a, us, rfl, ha, hi⟩ := Im.inv h
  cases hi with
  | cons a1 a2 => cases a1; cases a2; exact ⟨a, rfl, ha⟩
theorem Im.un {H : Hp} {v : V} {k : Str} {p : Pat} (h : Im H v (Pat.un k p).d) : ∃ a u, v = .ref a ∧ H a = some (.tup [.str k, u]) ∧ Im H u p.d := by
  obtain ⟨a, us, rfl, ha, hi⟩ := Im.inv h
  cases hi with
  | cons a1 a2 => cases a1; cases a2 with
    | cons b1 b2 => cases b2; exact ⟨a, _, rfl, ha, b1⟩
theorem Im.bi {H : Hp} {v : V} {k : Str} {p q : Pat} (h : Im H v (Pat.bi k p q).d) : ∃ a u w, v = .ref a ∧ H a = some (.tup [.str k, u, w]) ∧ Im H u p.d ∧ Im H w q.d := by
  obtain ⟨a, us, rfl, ha, hi⟩ := Im.inv h
  cases hi with
  | cons a1 a2 => cases a1; cases a2 with
    | cons b1 b2 => cases b2 with
      | cons c1 c2 => cases c2; exact ⟨a, _, _, rfl, ha, b1, c1⟩
theorem Im.mkemp {H : Hp} {a : Addr} (h : H a = some (.tup [.str "empty"])) : Im H (.ref a) Pat.emp.d := .tup h (.cons (.str _) .nil)
theorem Im.mkun {H : Hp} {a : Addr} {k : Str} {u : V} {p : Pat} (h : H a = some (.tup [.str k, u])) (hp : Im H u p.d) : Im H (.ref a) (Pat.un k p).d := .tup h (.cons (.str _) (.cons hp .nil))
theorem Im.mkbi {H : Hp} {a : Addr} {k : Str} {u w : V} {p q : Pat} (h : H a = some (.tup [.str k, u, w])) (hp : Im H u p.d) (hq : Im H w q.d) : Im H (.ref a) (Pat.bi k p q).d := .tup h (.cons (.str _) (.cons hp (.cons hq .nil)))
theorem Im.ref {H : Hp} {v : V} {p : Pat} (h : Im H v p.d) : ∃ a us, v = .ref a ∧ H a = some (.tup us) ∧ us.length ≤ 4 := by
  cases p with
  | emp => obtain ⟨a, e, h⟩ := h.emp; exact ⟨a, _, e, h, by decide⟩
  | cls b hs ls => obtain ⟨a, e, h⟩ := Im.cls h; exact ⟨a, _, e, h, by show 4 ≤ 4; decide⟩
  | un k p => obtain ⟨a, u, e, h, _⟩ := h.un; exact ⟨a, _, e, h, by show 2 ≤ 4; decide⟩
  | bi k p q => obtain ⟨a, u, w, e, h, _⟩ := h.bi; exact ⟨a, _, e, h, by show 3 ≤ 4; decide⟩
theorem Same.im {H H' : Hp} (k : Same H H') {v : V} {d : PyData} (h : Im H v d) : Im H' v d := h.kt (Same.kt k)
theorem iteFe {c : Bool} {A B : Prop} (hc : c = false) (h : B) : if c = true then A else B := by
  rw [hc]
  exact h
theorem iteTe {c : Bool} {A B : Prop} (hc : c = true) (h : A) : if c = true then A else B := by
  rw [hc]
  exact h
theorem ImAll.op {H : Hp} {us : List V} {ps : List Pat} {i : Nat} {x : V} (h : ImAll H us (ps.map Pat.d)) (e : us[i]? = some x) : ∃ o, ps[i]? = some o ∧ Im H x o.d := by
  obtain ⟨d, hd, hi⟩ := ImAll.get h e
  rw [List.getElem?_map] at hd
  cases g : ps[i]? with
  | none => rw [g] at hd; cases hd
  | some o =>
    rw [g] at hd
    obtain rfl := Option.some.inj hd
    exact ⟨o, rfl, hi⟩
theorem ImAll.lenP {H : Hp} {us : List V} {ps : List Pat} (h : ImAll H us (ps.map Pat.d)) : us.length = ps.length := by
  rw [ImAll.length h, List.length_map]
theorem Same.imAll {H H' : Hp} (k : Same H H') {vs : List V} {ds : List PyData} (h : ImAll H vs ds) : ImAll H' vs ds := ImAll.kt (Same.kt k) h
theorem Pat.ops_len : ∀ p : Pat, p.ops.length ≤ 2
  | .emp => by decide
  | .cls _ _ _ => by show 0 ≤ 2; decide
  | .un _ _ => by show 1 ≤ 2; decide
  | .bi _ _ _ => by show 2 ≤ 2; decide
theorem TupG.sq {K : PySem.W.Frag} {H : Hp} {p : Addr} {xs : List V} (h : TupG H p xs) : SqT K H p xs := by
  obtain ⟨o, e, _⟩ := h
  exact .inl (.inr ⟨o, e⟩)
theorem TupG.same {H H' : Hp} {p : Addr} {xs : List V} (h : TupG H p xs) (k : Same H H') : TupG H' p xs := by
  obtain ⟨o, e, r⟩ := h
  exact ⟨o, k _ _ e, r⟩
theorem Pat.parts_take (p : Pat) (i : Nat) : ((p.ops.take i).map Pat.parts).flatten.length ≤ p.n := by
  have h := congrArg List.length (Pat.parts_ops p)
  rw [Pat.parts_len] at h
  conv at h => rhs; rw [← List.take_append_drop i p.ops]
  simp only [List.map_append, List.flatten_append, List.length_append] at h
  omega
theorem Pat.mir_leaf {p : Pat} (h : p.ops = []) : p.mir = p := by
  cases p with
  | emp => rfl
  | cls => rfl
  | un => cases h
  | bi => cases h
theorem Pat.inner {p : Pat} (h : p.ops ≠ []) : (∃ k o, p = .un k o) ∨ ∃ k o r, p = .bi k o r := by
  cases p with
  | emp => exact absurd rfl h
  | cls => exact absurd rfl h
  | un k o => exact .inl ⟨k, o, rfl⟩
  | bi k o r => exact .inr ⟨k, o, r, rfl⟩
theorem Pat.n_sum (p : Pat) : (1 : Int) + (p.ops.map fun o => (o.n : Int)).sum = (p.n : Nat) := by
  cases p <;> simp [Pat.ops, Pat.n] <;> omega
theorem KT.lput {H : Hp} {p : Addr} {xs ys : List V} (h : H p = some (.lst xs)) : KT H (upd H p (.lst ys)) := KT.put h
theorem Im.top {H : Hp} {v : V} {p : Pat} (h : Im H v p.d) : ∃ a k us, v = .ref a ∧ H a = some (.tup (.str k :: us)) ∧ us.length ≤ 3 ∧
    ((p.ops ≠ [] ∧ ImAll H us (p.ops.map Pat.d)) ∨ (p.ops = [] ∧ ∀ u ∈ us, (∃ b, u = .bl b) ∨ ∃ x, u = .str x)) := by
  cases p with
  | emp =>
    obtain ⟨a, e, h⟩ := h.emp
    exact ⟨a, _, [], e, h, by decide, .inr ⟨rfl, fun _ h => nomatch h⟩⟩
  | cls b hs ls =>
    obtain ⟨a, e, h⟩ := Im.cls h
    refine ⟨a, _, _, e, h, by show 3 ≤ 3; decide, .inr ⟨rfl, fun u hu => ?_⟩⟩
    simp only [List.mem_cons, List.not_mem_nil, or_false] at hu
    rcases hu with rfl | rfl | rfl
    · exact .inl ⟨_, rfl⟩
    · exact .inr ⟨_, rfl⟩
    · exact .inr ⟨_, rfl⟩
  | un k p =>
    obtain ⟨a, u, e, h, g⟩ := h.un
    exact ⟨a, _, _, e, h, by show 1 ≤ 3; decide, .inl ⟨(fun z => nomatch z), .cons g .nil⟩⟩
  | bi k p q =>
    obtain ⟨a, u, w, e, h, g1, g2⟩ := h.bi
    exact ⟨a, _, _, e, h, by show 2 ≤ 3; decide, .inl ⟨(fun z => nomatch z), .cons g1 (.cons g2 .nil)⟩⟩
theorem cut1 (x : V) (us : List V) : cutV (x :: us) (some (1 : Int)) Option.none = us := by
  have := cutV_from (x :: us) 1 (by simp)
  exact this
theorem cut1_no (x : V) (us : List V) : ¬ (HT.sIx (x :: us).length 0 (some (1 : Int)) = 0 ∧ HT.sIx (x :: us).length (x :: us).length Option.none = (x :: us).length) := fun hh => by
  have := sIx_from (x :: us).length 1 (by simp)
  have h2 := hh.1
  have h3 : HT.sIx (x :: us).length 0 (some ((1 : Nat) : Int)) = 0 := h2
  omega
theorem isi_tt : kitB "tuple" "tuple" = some true := by decide +kernel
theorem isi_bt : kitB "bool" "tuple" = some false := by decide +kernel
theorem isi_st : kitB "str" "tuple" = some false := by decide +kernel
end My
namespace My
open PySem PySem.Spec PyProof.Rows L2
/-- enumerate(text) -/
def IteS (x : Str) : It :=
  ⟨fun i _ => i < x.cps.size, fun i H v h => ∃ T c, v = .ref T ∧ H T = none ∧ h = upd H T (.tup [.int (i : Nat), .str ⟨#[c]⟩]) ∧ x.cps[i]? = some c,
    fun i _ => x.cps.size ≤ i⟩
theorem turn_enS {P : Program} {w : World} {K : PySem.W.Frag} {elts : List Expr} {kk : Nat} {tpos : Pos} (x : Str) (t : Tok) (e it : Addr) :
    Turn P w K (.Tuple elts kk tpos) (IteS x) [e, it] e
      (fun i h => i ≤ x.cps.size ∧ (∃ old, IsEnum h e it ((i : Nat) : Int) old) ∧ h.IsStrIter it (strIterType x) x t i ∧ e ≠ it) where
  mem := by simp
  obj := fun i h st b hb => by
    obtain ⟨_, ⟨old, he⟩, ⟨o, ho, hc, hd⟩, _⟩ := st
    have hz : b = e ∨ b = it := by simpa using hb
    rcases hz with z | z
    · rw [z]; exact ⟨_, he, fun v q => nomatch q⟩
    · rw [z]; exact ⟨o, ho, fun v q => by rw [hd] at q; cases q⟩
  keep := fun i h g st k => by
    obtain ⟨hi, ⟨old, he⟩, ⟨o, ho, r⟩, hne⟩ := st
    exact ⟨hi, ⟨old, k e (by simp) _ he⟩, ⟨o, k it (by simp) o ho, r⟩, hne⟩
  item := by
    intro X hP hw hK hc i pins s σ H E I hf st hg
    subst hP hw hK
    obtain ⟨hi, ⟨old, he⟩, hit, hne⟩ := st
    have hel : e < s.heap.objs.size := Heap.lt_size he
    have hil : it < s.heap.objs.size := by
      obtain ⟨_, q, _⟩ := hit
      exact Heap.lt_size q
    have D : Draws X.prog X.w X.A.in1 it [it] x.cps.size _ _ := Draws.text (show X.A.in1.handled = none from I.ok.hd hc) it x t
    refine wpAny_pyNext_enum_itemC D he hit hg hne (by simpa using hne) ?_
    rintro u h1 tk ⟨c, tc, hcx, rfl⟩ ho hit1 hT hsz hk
    refine ⟨_, rfl, wpAny_letOwnedTupleGo_enum (s := { s with heap := h1, toks := tk + 1 }) ho ?_⟩
    intro h2 he2 sb
    have hT2 : h2.get? s.heap.objs.size = some { cls := .type "tuple", data := .seq #[.int i tk, .str ⟨#[c]⟩ tc] } :=
      (sb.2 _ (Nat.ne_of_gt hel)).trans hT
    have new : ObjOk X.prog X.w (upd H s.heap.objs.size (.tup [.int (i : Nat), .str ⟨#[c]⟩])) h2 s.heap.objs.size (.tup [.int (i : Nat), .str ⟨#[c]⟩]) :=
      ⟨le_size0 rfl, [.int i tk, .str ⟨#[c]⟩ tc], .cons ⟨_, rfl⟩ (.cons ⟨_, rfl⟩ .nil), ⟨_, hT2, rfl, _, rfl⟩⟩
    have J : Inv X pins σ (upd H s.heap.objs.size (.tup [.int (i : Nat), .str ⟨#[c]⟩])) { s with heap := h2, toks := tk + 1 } :=
      I.turnedNew (ch := [e, it]) (fun b ob hb q => (sb.2 b (fun z => hb (by simp [z]))).trans
        (hk b ob (fun z => hb (by simp [z])) (fun z => hb (by simp [z])) q)) hf (Nat.le_refl _) new
    have hit2 : h2.IsStrIter it (strIterType x) x t (i + 1) := by
      obtain ⟨o, q, r⟩ := hit1
      exact ⟨o, (sb.2 it hne.symm).trans q, r⟩
    refine ⟨.ref s.heap.objs.size, _, J, rfl, ⟨_, c, rfl, I.hok.fresh (Nat.le_refl _), rfl, hcx⟩, ⟨hg, ⟨.str ⟨#[c]⟩ tc, ?_⟩, hit2, hne⟩, fun b hb => ?_⟩
    · rw [show ((i + 1 : Nat) : Int) = (i : Int) + 1 by omega]
      exact he2
    · have hz : b = e ∨ b = it := by simpa using hb
      have hlt : b < s.heap.objs.size := by
        rcases hz with z | z
        · rw [z]; exact hel
        · rw [z]; exact hil
      rw [upd_ne (Nat.ne_of_lt hlt)]
      exact (hf b hb).1
  done := by
    intro X hP hw hK hc i pins s σ H E I hf st hg
    subst hP hw hK
    obtain ⟨hi, ⟨old, he⟩, hit, hne⟩ := st
    have ei : i = x.cps.size := Nat.le_antisymm hi hg
    subst ei
    obtain ⟨f0, f1, f2, f3, f4, f5⟩ := hf it (by simp)
    have D : Draws X.prog X.w X.A.in1 it [it] x.cps.size _ _ := Draws.text (show X.A.in1.handled = none from I.ok.hd hc) it x t
    exact wpAny_pyNext_enum_endD D he hit fun h1 eb => ⟨rfl, I.turned (t' := s.toks) (fun b o hb q => eb b o hb q) f0 f1 f3 f4 f5⟩
  self := fun A i s Q E st h => by
    obtain ⟨_, ⟨_, he⟩, _⟩ := st
    exact wpAny_pyIter_enum he h
def iEnS (ta : TA) : TI := fun σ H R => ta σ H fun vs h => ∃ x, vs = [.str x] ∧ R (IteS x) h
theorem pi_enS {X : Cx} {e : Expr} {ta : TA} {p pos tpos : Pos} {elts : List Expr} {kk : Nat} (hg : Gl X "enumerate") (hm : X.mg "enumerate" = none)
    (ha : PA X [e] ta) (hs : starEach [e] X.env = [(false, eval e X.env)] := by rfl) :
    PI X (.Tuple elts kk tpos) (.Call (.Name "enumerate" p) [e] [] pos) (iEnS ta) := by
  constructor
  intro pins s σ H R I h
  refine Call_ (ld_blt I hg hm boot_enumerate (PyProof.Rows.callWith_type1
    (thn (ha.run pos pins s σ H _ I h) ?_) hs rfl))
  rintro us s1 ⟨vs, H1, I1, r1, x, rfl, q⟩
  cases r1 with
  | cons r rr =>
    cases rr
    obtain ⟨t, rfl⟩ := r
    refine call_enumerate_str ?_
    intro h1 he hit hsz hk
    refine wpAny_pyIter_enum he ?_
    have J : Inv X pins σ H1 { s1 with heap := h1 } := I1.kept (t' := s1.toks) hk
    refine ⟨s1.heap.objs.size + 1, [s1.heap.objs.size + 1, s1.heap.objs.size], _, _, H1, rfl, J, turn_enS x t (s1.heap.objs.size + 1) s1.heap.objs.size,
      ⟨Nat.zero_le _, ⟨.none, he⟩, hit, Nat.succ_ne_self _⟩, fun b hb => ?_, q⟩
    have hz : b = s1.heap.objs.size + 1 ∨ b = s1.heap.objs.size := by simpa using hb
    have hle : s1.heap.objs.size ≤ b := by
      rcases hz with z | z
      · rw [z]; exact Nat.le_add_right _ _
      · rw [z]; exact Nat.le_refl _
    exact I1.fpOk hle (I1.hok.fresh hle)
theorem walk_enS {x : Str} : Walk (IteS x) x.cps.size (fun _ => True) (fun i H v h => ∃ T c, v = .ref T ∧ H T = none ∧ h = upd H T (.tup [.int (i : Nat), .str ⟨#[c]⟩]) ∧ x.cps[i]? = some c) :=
  ⟨fun _ _ hi _ => hi, fun _ _ => Nat.le_refl _, fun _ _ _ _ _ _ y => y⟩
end My
set_option maxHeartbeats 4000000
namespace My
open PySem PySem.Spec PyProof.Rows L2
theorem mul_empty (l : Addr) (n : Nat) (dd : Option Addr) (sl : Array (Option Value)) (x : Int) (u : Tok)
    (c0 : (decide (x < -(2 ^ 63)) || decide (x ≥ 2 ^ 63)) = false) (hx : 2 ≤ x) :
    Meets (Builtin.«tuple.__mul__» ⟨[.ref l, .int x u], []⟩) (fun _ R s =>
      s.heap.get? l = some { cls := .type "tuple", dict := dd, data := .seq #[] n, slots := sl } ∧ R (.ok (.ret (Value.ref l))) s) :=
  .of_wp fun prog w A R s h => by
    obtain ⟨hp, g, d, tk, os⟩ := s
    obtain ⟨hl, h⟩ := h
    have f1 := AutoSeq1.idx_int
    wp_walk using wpAny_loadPart' hl
    repeat (first
      | (refine wpAny_ite_false (decide_eq_false (by rw [c0]; exact Bool.false_ne_true)) ?_; wp_walk using wpAny_loadPart' hl)
      | (refine wpAny_ite_true (by simp) ?_; wp_walk using wpAny_loadPart' hl))
    exact ⟨_, rfl, h⟩
/-- tuple * int, the empty one too -/
def rRepE (K : PySem.W.Frag) : R2 := fun x y H Q => ∃ l k xs, x = .ref l ∧ y = .int k ∧ SqT K H l xs ∧ 2 ≤ k ∧ k ≤ 1000 ∧ xs.length ≤ 1000 ∧
  (xs = [] → Q (.ref l) H) ∧ (xs ≠ [] → ∀ p, H p = none → Q (.ref p) (upd H p (.tup (List.replicate k.toNat xs).flatten)))
theorem op_repE {X : Cx} : OpR X (binaryOp .Mult) (rRepE X.K) := by
  intro pins s σ H x y v u Q I rx ry h
  obtain ⟨l, k, xs, rfl, rfl, hT, h1, h2, hz, q1, q2⟩ := h
  by_cases hne : xs = []
  · subst hne
    cases rx
    obtain ⟨t, rfl⟩ := ry
    obtain ⟨its, r, ⟨⟨cls, dd, data, sl⟩, ho, hc, n, hd⟩, hs⟩ := I.tuple hT
    simp only at hc hd
    subst hc hd
    have hn : its = [] := by
      cases r
      rfl
    subst hn
    have c0 : (decide (k < -(2 ^ 63)) || decide (k ≥ 2 ^ 63)) = false := by
      rw [decide_eq_false (by omega), decide_eq_false (by omega)] <;> rfl
    refine wpAny_binaryOp_repeat_ref (T := "tuple") (U := "int") (by decide) ⟨_, ho, rfl⟩ (fun s2 => typeIs_int s2 k t) noFill_tuple_mul
      F.fills_int_mul F.slot_int_rmul repeat_tuple F.slot_int_index.lookup ?_
    refine call_meets F.slot_int_rmul (typeIs_int s k t) F.entry_int_rmul (F.args_int_rmul_2 _ _) (int_rmul_tuple k t l #[] n dd sl) ⟨ho, rfl, ⟨_, ho, rfl⟩, ?_⟩
    refine call_meets F.slot_tuple_mul ⟨_, ho, rfl⟩ F.entry_tuple_mul (F.args_tuple_mul_2 _ _) (mul_empty l n dd sl k t c0 h1) ⟨ho, ?_⟩
    exact ⟨.ref l, H, I, rfl, q1 rfl⟩
  · exact op_repT pins s σ H (.ref l) (.int k) v u Q I rx ry ⟨l, k, xs, rfl, rfl, hT, hne, h1, h2, hz, q2 hne⟩
/-- slices of tuples -/
theorem cut_to (xs : List V) (n : Nat) : cutV xs none (some (n : Int)) = xs.take n := by
  unfold cutV
  rw [HT.sIx_none, show HT.sIx xs.length xs.length (some (n : Int)) = min n xs.length from HT.sIx_nat xs.length xs.length n, List.drop_zero, Nat.sub_zero]
  by_cases h : n ≤ xs.length
  · rw [Nat.min_eq_left h]
  · rw [Nat.min_eq_right (by omega), List.take_of_length_le (Nat.le_refl _), List.take_of_length_le (by omega)]
/-! ### texts of sequences -/
/-- a symbol of an alphabet -/
def Sy (p : Nat × Nat) : Prop := (p.1 = 64 ∨ (65 ≤ p.1 ∧ p.1 ≤ 90)) ∧ 97 ≤ p.2 ∧ p.2 ≤ 122
abbrev syp (p : Nat × Nat) : Str := sy p.1 p.2
/-- a text that stands for a sequence, behind a holder -/
inductive Wr : Option Nat → List (Nat × Nat) → List Nat → Prop
  | nil (c : Option Nat) : Wr c [] []
  | new {c : Option Nat} {h l : Nat} {ps : List (Nat × Nat)} {t : List Nat} : Wr (some h) ps t → Wr c ((h, l) :: ps) (h :: l :: t)
  | old {h l : Nat} {ps : List (Nat × Nat)} {t : List Nat} : Wr (some h) ps t → Wr (some h) ((h, l) :: ps) (l :: t)
def lastH : Option Nat → List (Nat × Nat) → Option Nat
  | c, [] => c
  | _, p :: ps => lastH (some p.1) ps
theorem lastH_snoc (p : Nat × Nat) : ∀ (c : Option Nat) (ps : List (Nat × Nat)), lastH c (ps ++ [p]) = some p.1
  | _, [] => rfl
  | _, q :: ps => lastH_snoc p (some q.1) ps
theorem Wr.snoc {c : Option Nat} {ps : List (Nat × Nat)} {t : List Nat} (w : Wr c ps t) (h l : Nat) : Wr c (ps ++ [(h, l)]) (t ++ [h, l]) := by
  induction w with
  | nil c => exact .new (.nil _)
  | new _ ih => exact .new ih
  | old _ ih => exact .old ih
theorem Wr.snoc1 {c : Option Nat} {ps : List (Nat × Nat)} {t : List Nat} (w : Wr c ps t) {h : Nat} (l : Nat) (e : lastH c ps = some h) : Wr c (ps ++ [(h, l)]) (t ++ [l]) := by
  induction w with
  | nil c =>
    have e : c = some h := e
    subst e
    exact .old (.nil _)
  | new _ ih => exact .new (ih e)
  | old _ ih => exact .old (ih e)
/-- the least text -/
def enc : Option Nat → List (Nat × Nat) → List Nat
  | _, [] => []
  | c, p :: ps => if c = some p.1 then p.2 :: enc (some p.1) ps else p.1 :: p.2 :: enc (some p.1) ps
theorem enc_cons (c : Option Nat) (p : Nat × Nat) (ps : List (Nat × Nat)) : enc c (p :: ps) = if c = some p.1 then p.2 :: enc (some p.1) ps else p.1 :: p.2 :: enc (some p.1) ps := rfl
theorem enc_wr : ∀ (c : Option Nat) (ps : List (Nat × Nat)), Wr c ps (enc c ps)
  | c, [] => .nil c
  | c, (h, l) :: ps => by
    rw [enc_cons]
    by_cases e : c = some h
    · rw [if_pos e, e]
      exact .old (enc_wr _ ps)
    · rw [if_neg e]
      exact .new (enc_wr _ ps)
theorem enc_snoc (p : Nat × Nat) : ∀ (c : Option Nat) (ps : List (Nat × Nat)), enc c (ps ++ [p]) = enc c ps ++ (if lastH c ps = some p.1 then [p.2] else [p.1, p.2])
  | c, [] => by
    show enc c [p] = [] ++ (if c = some p.1 then [p.2] else [p.1, p.2])
    rw [enc_cons, List.nil_append]
    by_cases e : c = some p.1
    · rw [if_pos e, if_pos e]
      rfl
    · rw [if_neg e, if_neg e]
      rfl
  | c, q :: ps => by
    have ih := enc_snoc p (some q.1) ps
    show enc c (q :: (ps ++ [p])) = enc c (q :: ps) ++ (if lastH (some q.1) ps = some p.1 then [p.2] else [p.1, p.2])
    rw [enc_cons, enc_cons, ih]
    by_cases e : c = some q.1
    · rw [if_pos e, if_pos e]
      rfl
    · rw [if_neg e, if_neg e]
      rfl
theorem enc_le {c : Option Nat} {ps : List (Nat × Nat)} {t : List Nat} (w : Wr c ps t) : (enc c ps).length ≤ t.length := by
  induction w with
  | nil c => exact Nat.le_refl _
  | @new c h l ps t _ ih =>
    rw [enc_cons]
    split <;> (simp only [List.length_cons] at *; omega)
  | @old h l ps t _ ih =>
    rw [enc_cons, if_pos rfl]
    simp only [List.length_cons] at *
    omega
theorem Wr.len {c : Option Nat} {ps : List (Nat × Nat)} {t : List Nat} (w : Wr c ps t) : t.length ≤ 2 * ps.length := by
  induction w with
  | nil c => exact Nat.le_refl _
  | new _ ih => simp only [List.length_cons] at *; omega
  | old _ ih => simp only [List.length_cons] at *; omega
theorem Wr.sg {c : Option Nat} {ps : List (Nat × Nat)} {t : List Nat} (w : Wr c ps t) (h : ∀ p ∈ ps, Sy p) : ∀ d ∈ t, d < 128 := by
  induction w with
  | nil c => exact fun d hd => nomatch hd
  | @new c a l ps t _ ih =>
    intro d hd
    have s := h (a, l) List.mem_cons_self
    unfold Sy at s
    rcases List.mem_cons.mp hd with rfl | hd
    · have s1 := s.1
      simp only at s1
      omega
    · rcases List.mem_cons.mp hd with rfl | hd
      · have s1 := s.2
        simp only at s1
        omega
      · exact ih (fun p hp => h p (List.mem_cons_of_mem _ hp)) d hd
  | @old a l ps t _ ih =>
    intro d hd
    have s := h (a, l) List.mem_cons_self
    unfold Sy at s
    rcases List.mem_cons.mp hd with rfl | hd
    · have s1 := s.2
      simp only at s1
      omega
    · exact ih (fun p hp => h p (List.mem_cons_of_mem _ hp)) d hd
theorem one_lt (a b : Nat) : decide (([a] : List Nat) < [b]) = decide (a < b) := by
  by_cases h : a < b
  · rw [decide_eq_true h]
    exact decide_eq_true (List.Lex.rel h)
  · rw [decide_eq_false h]
    refine decide_eq_false fun q => ?_
    cases q with
    | rel r => exact h r
    | cons r => cases r
def Lt (c : Nat) : Bool := decide (97 ≤ c) && decide (c ≤ 122)
def Hd (c : Nat) : Bool := decide (c = 64) || (decide (65 ≤ c) && decide (c ≤ 90))
/-- how decoding stands: what is found, the holder, what is still due of the text -/
inductive Dc (ps : List (Nat × Nat)) : List (Nat × Nat) → Str → Bool → List Nat → Prop
  | start {t : List Nat} : Wr none ps t → Dc ps [] "" true t
  | whole {a b : List (Nat × Nat)} {h : Nat} {t : List Nat} : ps = a ++ b → (h = 64 ∨ (65 ≤ h ∧ h ≤ 90)) → Wr (some h) b t → Dc ps a ⟨#[h]⟩ true t
  | half {a b : List (Nat × Nat)} {h l : Nat} {t : List Nat} : ps = a ++ (h, l) :: b → Wr (some h) b t → Dc ps a ⟨#[h]⟩ false (l :: t)
end My
namespace My
open PySem PySem.Spec PyProof.Rows L2
def hst : Option Nat → Str
  | none => Str.ofString ""
  | some h => ⟨#[h]⟩
theorem hst_eq (h : Nat) (o : Option Nat) : (V.str ⟨#[h]⟩ = V.str (hst o)) ↔ o = some h := by
  cases o with
  | none =>
    refine ⟨fun q => ?_, fun q => nomatch q⟩
    have e : (⟨#[h]⟩ : Str) = Str.ofString "" := V.str.inj q
    have e2 := congrArg Str.length e
    cases (show (1 : Nat) = 0 from e2)
  | some k =>
    refine ⟨fun q => ?_, fun q => ?_⟩
    · have e : (⟨#[h]⟩ : Str) = ⟨#[k]⟩ := V.str.inj q
      have e2 : [h] = [k] := congrArg (fun x : Str => x.cps.toList) e
      have e3 : h = k := by simpa using e2
      rw [e3]
    · rw [Option.some.inj q]
      rfl
abbrev one1 (c : Nat) : Str := ⟨#[c]⟩
theorem pairs_of {hs ls : List Nat} (h1 : ∀ c ∈ hs, c = 64 ∨ (65 ≤ c ∧ c ≤ 90)) (h2 : ∀ c ∈ ls, 97 ≤ c ∧ c ≤ 122) : ∀ xs : List Str, (∀ x ∈ xs, x ∈ comb hs ls) →
    ∃ ps : List (Nat × Nat), xs = ps.map syp ∧ ∀ p ∈ ps, Sy p
  | [], _ => ⟨[], rfl, fun _ h => nomatch h⟩
  | x :: xs, h => by
    obtain ⟨ps, e, hp⟩ := pairs_of h1 h2 xs fun y hy => h y (List.mem_cons_of_mem _ hy)
    obtain ⟨a, ha, b, hb, rfl⟩ := mem_comb (h x List.mem_cons_self)
    refine ⟨(a, b) :: ps, by rw [e]; rfl, fun p hp2 => ?_⟩
    rcases List.mem_cons.mp hp2 with rfl | hp2
    · exact ⟨h1 a ha, h2 b hb⟩
    · exact hp p hp2
theorem lows_rng : ∀ c ∈ lows, 97 ≤ c ∧ c ≤ 122 := by decide
theorem caps_rng : ∀ c ∈ caps, 65 ≤ c ∧ c ≤ 90 := by decide
theorem sy_sym {p : Nat × Nat} (h : Sy p) : Sg (syp p) ∧ (syp p).length ≤ 2 := by
  unfold Sy at h
  refine Sym.sg ⟨p.1, p.2, rfl, ?_, ?_⟩
  · have := h.1
    omega
  · have := h.2
    omega
theorem sh_ps {ps : List (Nat × Nat)} (h : ∀ p ∈ ps, Sy p) : Sh (.tuple ((ps.map syp).map PyData.str)) 1 ((ps.map syp).length * 3) :=
  sh_strs (n := 2) fun x hx => by
    obtain ⟨p, hp, rfl⟩ := List.mem_map.mp hx
    exact sy_sym (h p hp)
end My
namespace My
open PySem PySem.Spec PyProof.Rows L2
/-- steps ahead, one behind the other -/
inductive Clo (R : Nat → Nat → Prop) (n : Nat) : Nat → Nat → Prop
  | nil {i : Nat} : i ≤ n → Clo R n i i
  | cons {i k j : Nat} : R i k → i < k → Clo R n k j → Clo R n i j
theorem Clo.snoc {R : Nat → Nat → Prop} {n i k j : Nat} (h : Clo R n i k) (r : R k j) (l : k < j) (hj : j ≤ n) : Clo R n i j := by
  induction h with
  | nil _ => exact .cons r l (.nil hj)
  | cons a b _ ih => exact .cons a b (ih r l)
theorem Clo.bound {R : Nat → Nat → Prop} {n : Nat} : ∀ {i j : Nat}, Clo R n i j → i ≤ j ∧ j ≤ n
  | _, _, .nil h => ⟨Nat.le_refl _, h⟩
  | _, _, .cons _ l t => by have := Clo.bound t; omega
theorem Clo.iff {R : Nat → Nat → Prop} {n i j : Nat} : Clo R n i j ↔ (i = j ∧ j ≤ n) ∨ ∃ k, R i k ∧ i < k ∧ Clo R n k j := by
  constructor
  · intro h
    cases h with
    | nil h => exact .inl ⟨rfl, h⟩
    | cons a b c => exact .inr ⟨_, a, b, c⟩
  · rintro (⟨rfl, h⟩ | ⟨k, a, b, c⟩)
    · exact .nil h
    · exact .cons a b c
/-- the stretch from i to j matches the pattern -/
def rel (qs : List (Nat × Nat)) : Pat → Nat → Nat → Prop
  | .emp, i, j => i = j ∧ j ≤ qs.length
  | .cls b hs ls, i, j => j = i + 1 ∧ ∃ q, qs[i]? = some q ∧ bel b hs ls q.1 q.2 = true
  | .un k p, i, j => if k = "not" then i ≤ j ∧ j ≤ qs.length ∧ ¬ rel qs p i j else Clo (rel qs p) qs.length i j
  | .bi k p q, i, j => if k = "then" then ∃ m, rel qs p i m ∧ rel qs q m j else if k = "or" then rel qs p i j ∨ rel qs q i j else rel qs p i j ∧ rel qs q i j
theorem rel_bound {qs : List (Nat × Nat)} : ∀ {p : Pat} {i j : Nat}, rel qs p i j → i ≤ j ∧ j ≤ qs.length
  | .emp, i, j, h => by
    obtain ⟨rfl, h⟩ := h
    exact ⟨Nat.le_refl _, h⟩
  | .cls b hs ls, i, j, h => by
    obtain ⟨rfl, q, hq, _⟩ := h
    have := (List.getElem?_eq_some_iff.mp hq).1
    omega
  | .un k p, i, j, h => by
    by_cases e : k = "not"
    · simp only [rel, if_pos e] at h
      exact ⟨h.1, h.2.1⟩
    · simp only [rel, if_neg e] at h
      exact h.bound
  | .bi k p q, i, j, h => by
    by_cases e : k = "then"
    · simp only [rel, if_pos e] at h
      obtain ⟨m, h1, h2⟩ := h
      have := rel_bound h1
      have := rel_bound h2
      omega
    · by_cases e2 : k = "or"
      · simp only [rel, if_neg e, if_pos e2] at h
        rcases h with h | h
        · exact rel_bound h
        · exact rel_bound h
      · simp only [rel, if_neg e, if_neg e2] at h
        exact rel_bound h.1
theorem Clo.map {R S : Nat → Nat → Prop} {n m a : Nat} (f : ∀ i j, R i j → j ≤ n → S (a + i) (a + j)) (ha : a + n ≤ m) : ∀ {i j : Nat}, Clo R n i j → Clo S m (a + i) (a + j)
  | _, _, .nil h => .nil (by omega)
  | _, _, .cons r l t => by
    have := Clo.bound t
    exact .cons (f _ _ r (by omega)) (by omega) (Clo.map f ha t)
theorem Clo.unmap {R S : Nat → Nat → Prop} {n m a : Nat} (f : ∀ i j, S (a + i) (a + j) → j ≤ n → R i j) {x y : Nat} (h : Clo S m x y) : ∀ {i j : Nat}, x = a + i → y = a + j → j ≤ n → Clo R n i j := by
  induction h with
  | nil h =>
    intro i j hx hy hj
    obtain rfl : i = j := by omega
    exact .nil hj
  | @cons x k y r l t ih =>
    intro i j hx hy hj
    have := Clo.bound t
    obtain ⟨k', rfl⟩ : ∃ k', k = a + k' := ⟨k - a, by omega⟩
    subst hx
    exact .cons (f _ _ r (by omega)) (by omega) (ih rfl hy hj)
/-- a stretch of a stretch -/
theorem rel_slice {qs : List (Nat × Nat)} {a b : Nat} (hab : a ≤ b) (hb : b ≤ qs.length) : ∀ {p : Pat} {i j : Nat}, j ≤ b - a → (rel ((qs.drop a).take (b - a)) p i j ↔ rel qs p (a + i) (a + j))
  | .emp, i, j, hj => by
    simp only [rel, List.length_take, List.length_drop]
    omega
  | .cls x y z, i, j, hj => by
    simp only [rel]
    constructor
    · rintro ⟨rfl, q, h, g⟩
      refine ⟨by omega, q, ?_, g⟩
      rw [List.getElem?_take] at h
      split at h
      · rw [List.getElem?_drop] at h
        exact h
      · cases h
    · rintro ⟨e, q, h, g⟩
      refine ⟨by omega, q, ?_, g⟩
      rw [List.getElem?_take, if_pos (by omega), List.getElem?_drop]
      exact h
  | .un k p, i, j, hj => by
    have L : ((qs.drop a).take (b - a)).length = b - a := by rw [List.length_take, List.length_drop]; omega
    by_cases e : k = "not"
    · simp only [rel, if_pos e, L]
      rw [rel_slice hab hb hj]
      constructor
      · rintro ⟨h1, h2, h3⟩
        exact ⟨by omega, by omega, h3⟩
      · rintro ⟨h1, h2, h3⟩
        exact ⟨by omega, by omega, h3⟩
    · simp only [rel, if_neg e, L]
      constructor
      · exact Clo.map (fun x y h hy => (rel_slice hab hb hy).mp h) (by omega)
      · intro h
        exact Clo.unmap (n := b - a) (fun x y h hy => (rel_slice hab hb hy).mpr h) h rfl rfl hj
  | .bi k p q, i, j, hj => by
    by_cases e : k = "then"
    · simp only [rel, if_pos e]
      constructor
      · rintro ⟨m, h1, h2⟩
        have hm := (rel_bound h2).1
        exact ⟨a + m, (rel_slice hab hb (by omega)).mp h1, (rel_slice hab hb hj).mp h2⟩
      · rintro ⟨m, h1, h2⟩
        have h3 := rel_bound h1
        have h4 := rel_bound h2
        obtain ⟨m', rfl⟩ : ∃ m', m = a + m' := ⟨m - a, by omega⟩
        exact ⟨m', (rel_slice hab hb (by omega)).mpr h1, (rel_slice hab hb hj).mpr h2⟩
    · by_cases e2 : k = "or"
      · simp only [rel, if_neg e, if_pos e2]
        rw [rel_slice hab hb hj, rel_slice hab hb hj]
      · simp only [rel, if_neg e, if_neg e2]
        rw [rel_slice hab hb hj, rel_slice hab hb hj]
theorem Clo.rev {R S : Nat → Nat → Prop} {n : Nat} (f : ∀ i j, R i j → i ≤ j → j ≤ n → S (n - j) (n - i)) : ∀ {i j : Nat}, Clo R n i j → Clo S n (n - j) (n - i)
  | _, _, .nil h => .nil (by omega)
  | _, _, .cons r l t => by
    have := Clo.bound t
    exact (Clo.rev f t).snoc (f _ _ r (by omega) (by omega)) (by omega) (by omega)
/-- read from behind -/
theorem rel_mir {qs : List (Nat × Nat)} : ∀ {p : Pat} {i j : Nat}, i ≤ j → j ≤ qs.length → rel qs p i j → rel qs.reverse p.mir (qs.length - j) (qs.length - i)
  | .emp, i, j, hi, hj, h => by
    simp only [rel, Pat.mir, List.length_reverse] at h ⊢
    omega
  | .cls x y z, i, j, hi, hj, h => by
    obtain ⟨rfl, q, h, g⟩ := h
    refine ⟨by omega, q, ?_, g⟩
    rw [List.getElem?_reverse (by omega)]
    rw [← h]
    congr 1
    omega
  | .un k p, i, j, hi, hj, h => by
    by_cases e : k = "not"
    · simp only [rel, if_pos e, Pat.mir, List.length_reverse] at h ⊢
      refine ⟨by omega, by omega, fun g => h.2.2 ?_⟩
      have := rel_mir (qs := qs.reverse) (p := p.mir) (i := qs.length - j) (j := qs.length - i) (by omega) (by rw [List.length_reverse]; omega) g
      rw [List.reverse_reverse, List.length_reverse, Pat.mir_mir, show qs.length - (qs.length - i) = i by omega, show qs.length - (qs.length - j) = j by omega] at this
      exact this
    · simp only [rel, if_neg e, Pat.mir, List.length_reverse] at h ⊢
      exact Clo.rev (fun x y h hx hy => rel_mir hx hy h) h
  | .bi k p q, i, j, hi, hj, h => by
    by_cases e : k = "then"
    · simp only [rel, if_pos e, Pat.mir] at h ⊢
      obtain ⟨m, h1, h2⟩ := h
      have b1 := rel_bound h1
      have b2 := rel_bound h2
      exact ⟨qs.length - m, rel_mir b2.1 b2.2 h2, rel_mir b1.1 b1.2 h1⟩
    · by_cases e2 : k = "or"
      · simp only [rel, if_neg e, if_pos e2, Pat.mir] at h ⊢
        exact h.imp (rel_mir hi hj) (rel_mir hi hj)
      · simp only [rel, if_neg e, if_neg e2, Pat.mir] at h ⊢
        exact ⟨rel_mir hi hj h.1, rel_mir hi hj h.2⟩
termination_by p => p.n
decreasing_by
  all_goals simp_wf
  all_goals (try simp only [Pat.n, Pat.mir_n])
  all_goals omega
theorem rel_mir_iff {qs : List (Nat × Nat)} {p : Pat} : rel qs.reverse p.mir 0 qs.length ↔ rel qs p 0 qs.length := by
  constructor
  · intro h
    have := rel_mir (qs := qs.reverse) (p := p.mir) (i := 0) (j := qs.length) (Nat.zero_le _) (by rw [List.length_reverse]; exact Nat.le_refl _) h
    rw [List.reverse_reverse, List.length_reverse, Pat.mir_mir, Nat.sub_self, Nat.sub_zero] at this
    exact this
  · intro h
    have := rel_mir (qs := qs) (p := p) (i := 0) (j := qs.length) (Nat.zero_le _) (Nat.le_refl _) h
    rw [Nat.sub_self, Nat.sub_zero] at this
    exact this
end My
namespace My
open PySem PySem.Spec PyProof.Rows L2
set_option maxHeartbeats 1000000 in
theorem meets_enum1 {v : Value} {o : Obj} {Hh : Heap → Prop} (B : Begins v o Hh) :
    Meets (Builtin.«enumerate.__new__» ⟨[.type "enumerate", v], []⟩) (fun _ R s => Hh s.heap ∧
      R (.ok (.ret (.ref (s.heap.push o).objs.size))) { s with heap := (s.heap.push o).push { cls := .type "enumerate", data := .fields #[.none, .bool false, .ref s.heap.objs.size, rawInt 0, .none, .none] } }) :=
  .of_wp fun prog w A R s h => by
    obtain ⟨hp, g, d, tk, os⟩ := s; obtain ⟨h1, h⟩ := h
    have hsub := sub_enumerate
    have q1 : ∀ {A' : Around} {E : Value → Shared → Prop} {Q : Value → Shared → Prop}, Q (.ref hp.objs.size) ⟨hp.push o, g, d, tk, os⟩ → wpAny (model prog w) A' (pyIter v) Q E ⟨hp, g, d, tk, os⟩ :=
      fun q => B.iter prog w _ _ ⟨hp, g, d, tk, os⟩ _ h1 q
    wp_walk using q1
    refine wpAny_stack_any fun st => wpAny_pure ?_
    split
    · rename_i c _ _ _ _ _
      cases (c == Value.type "enumerate")
      · wp_walk using q1
        exact ⟨_, rfl, h⟩
      · wp_walk using q1
        exact ⟨_, rfl, h⟩
    · wp_walk using q1
      exact ⟨_, rfl, h⟩
theorem call_enum1 {prog : Program} {w : World} {A : Around} {E : Value → Shared → Prop} {s : Shared} {v : Value} {o : Obj} {Hh : Heap → Prop} {Q : Value → Shared → Prop} (B : Begins v o Hh) (h1 : Hh s.heap)
    (h : ∀ h', IsEnum h' (s.heap.objs.size + 1) s.heap.objs.size 0 .none → h'.get? s.heap.objs.size = some o → h'.objs.size = s.heap.objs.size + 2 →
      (∀ b o, s.heap.get? b = some o → h'.get? b = some o) → Q (.ref (s.heap.objs.size + 1)) { s with heap := h' }) :
    wpAny (model prog w) A (call (.type "enumerate") [v]) Q E s := by
  refine callType_new F.called_enumerate (by decide) (F.typeCall_enumerate_1 _) (F.newCall_enumerate_1 _) (fun obj => F.args_object_init_2 obj _) F.entry_enumerate_new
    (meets_enum1 B) ⟨h1, ?_⟩
  have hz : (s.heap.push o).objs.size = s.heap.objs.size + 1 := Heap.size_push ..
  show _ ∧ _
  rw [hz]
  have he : IsEnum ((s.heap.push o).push { cls := .type "enumerate", data := .fields #[.none, .bool false, .ref s.heap.objs.size, rawInt 0, .none, .none] }) (s.heap.objs.size + 1) s.heap.objs.size 0 .none := by
    have := Heap.get?_push_size (s.heap.push o) (o := { cls := .type "enumerate", data := .fields #[.none, .bool false, .ref s.heap.objs.size, rawInt 0, .none, .none] }) rfl
    rw [hz] at this; exact this
  refine ⟨⟨_, he, rfl⟩, h _ he (Heap.get?_push_of_some _ (Heap.get?_push_size _ B.free)) (by rw [Heap.size_push, hz]) fun b o x => Heap.get?_push_of_some _ (Heap.get?_push_of_some _ x)⟩
/-- enumerate(tuple) -/
def IteT (K : PySem.W.Frag) (a : Addr) (xs : List V) : It :=
  ⟨fun i H => SqT K H a xs ∧ i < xs.length, fun i H v H' => ∃ T x, v = .ref T ∧ H T = none ∧ H' = upd H T (.tup [.int (i : Nat), x]) ∧ xs[i]? = some x,
    fun i H => SqT K H a xs ∧ xs.length ≤ i⟩
theorem turn_enT {P : Program} {w : World} {K : PySem.W.Frag} {elts : List Expr} {kk : Nat} {tpos : Pos} (a e it : Addr) (xs : List V) :
    Turn P w K (.Tuple elts kk tpos) (IteT K a xs) [e, it] e (fun i h => i ≤ xs.length ∧ (∃ old, IsEnum h e it ((i : Nat) : Int) old) ∧ h.IsTupleIter it a i ∧ e ≠ it) where
  mem := by simp
  obj := fun i h st b hb => by
    obtain ⟨_, ⟨old, he⟩, ⟨o, ho, hc, hd⟩, _⟩ := st
    have e' : b = e ∨ b = it := by simpa using hb
    rcases e' with z | z
    · rw [z]; exact ⟨_, he, fun v q => nomatch q⟩
    · rw [z]; exact ⟨o, ho, fun v q => by rw [hd] at q; cases q⟩
  keep := fun i h h' st k => let ⟨hl, ⟨old, he⟩, hi, hne⟩ := st; ⟨hl, ⟨old, k e (by simp) _ he⟩, hi.at fun o q => k it (by simp) o q, hne⟩
  item := by
    intro X hP hw hK hc i pins s σ H E I hf st hg
    subst hP hw hK
    obtain ⟨hil0, ⟨old, he⟩, hit, hne⟩ := st
    obtain ⟨hq, hlt⟩ := hg
    obtain ⟨x, hx⟩ : ∃ x, xs[i]? = some x := ⟨xs[i], List.getElem?_eq_getElem hlt⟩
    obtain ⟨its, rv, p, hz⟩ := I.tuple hq
    obtain ⟨u, hu, ru⟩ := rv.get hx
    have hel : e < s.heap.objs.size := Heap.lt_size he
    have hil : it < s.heap.objs.size := by obtain ⟨_, q, _⟩ := hit; exact Heap.lt_size q
    have hea : e ≠ a := fun z => by
      obtain ⟨o, ho, hc2, _⟩ := p
      rw [← z] at ho
      have ho2 := he.symm.trans ho
      rw [← Option.some.inj ho2] at hc2
      have h4 : Value.type "enumerate" = Value.type "tuple" := hc2
      exact absurd h4 (by decide)
    have hia : a ≠ it := fun z => by
      obtain ⟨o, ho, hc2, _⟩ := p
      obtain ⟨o2, ho2, hc3, _⟩ := hit
      rw [z] at ho
      have h3 := Option.some.inj (ho.symm.trans ho2)
      rw [h3, hc3] at hc2
      exact absurd hc2 (by decide)
    have D := Draws.tuple (prog := X.prog) (w := X.w) (A := X.A.in1) (show X.A.in1.handled = none from I.ok.hd hc) it a hia its.toArray
    refine wpAny_pyNext_enum_itemC D he ⟨hit, p⟩ (by rw [List.size_toArray]; exact (List.getElem?_eq_some_iff.mp hu).1) hne (by simp [hne, hea]) ?_
    rintro u2 h1 tk hu2 ho hit1 hT hsz hk
    have eu : u2 = u := by
      have : its.toArray[i]? = some u := by simpa using hu
      exact Option.some.inj (hu2.symm.trans this)
    subst eu
    refine ⟨_, rfl, wpAny_letOwnedTupleGo_enum (s := { s with heap := h1, toks := tk + 1 }) ho fun h'' he' sb => ?_⟩
    have hT2 : h''.get? s.heap.objs.size = some { cls := .type "tuple", data := .seq #[.int i tk, u2] } := (sb.2 _ (Nat.ne_of_gt hel)).trans hT
    have new : ObjOk X.prog X.w (upd H s.heap.objs.size (.tup [.int (i : Nat), x])) h'' s.heap.objs.size (.tup [.int (i : Nat), x]) :=
      ⟨le_size0 rfl, [.int i tk, u2], .cons ⟨_, rfl⟩ (.cons ru .nil), ⟨_, hT2, rfl, _, rfl⟩⟩
    have I1 : Inv X pins σ (upd H s.heap.objs.size (.tup [.int (i : Nat), x])) { s with heap := h'', toks := tk + 1 } :=
      I.turnedNew (ch := [e, it]) (fun b ob hb q => (sb.2 b (fun z => hb (by simp [z]))).trans (hk b ob (fun z => hb (by simp [z])) (fun z => hb (by simp [z])) q)) hf (Nat.le_refl _) new
    refine ⟨.ref s.heap.objs.size, _, I1, rfl, ⟨_, x, rfl, I.hok.fresh (Nat.le_refl _), rfl, hx⟩, ⟨hlt, ⟨u2, ?_⟩, hit1.1.at fun o q => (sb.2 it (Ne.symm hne)).trans q, hne⟩, fun b hb => ?_⟩
    · have e1 : ((i + 1 : Nat) : Int) = (i : Int) + 1 := by omega
      rw [e1]; exact he'
    · have hb' : b < s.heap.objs.size := by
        have e' : b = e ∨ b = it := by simpa using hb
        rcases e' with z | z
        · rw [z]; exact hel
        · rw [z]; exact hil
      rw [upd_ne (Nat.ne_of_lt hb')]
      exact (hf b hb).1
  done := by
    intro X hP hw hK hc i pins s σ H E I hf st hg
    subst hP hw hK
    obtain ⟨hil0, ⟨old, he⟩, hit, hne⟩ := st
    obtain ⟨hq, hlt⟩ := hg
    obtain ⟨its, rv, p, hz⟩ := I.tuple hq
    obtain ⟨f0, f1, f2, f3, f4, f5⟩ := hf it (by simp)
    have hl := rv.length
    have ei : i = its.toArray.size := by rw [List.size_toArray]; omega
    have hia : a ≠ it := fun z => by
      obtain ⟨o, ho, hc2, _⟩ := p
      obtain ⟨o2, ho2, hc3, _⟩ := hit
      rw [z] at ho
      have h3 := Option.some.inj (ho.symm.trans ho2)
      rw [h3, hc3] at hc2
      exact absurd hc2 (by decide)
    have D := Draws.tuple (prog := X.prog) (w := X.w) (A := X.A.in1) (show X.A.in1.handled = none from I.ok.hd hc) it a hia its.toArray
    exact wpAny_pyNext_enum_endD D he ⟨by rw [← ei]; exact hit, p⟩ fun h1 eb => ⟨rfl, I.turned (t' := s.toks) (fun b o hb q => eb b o hb q) f0 f1 f3 f4 f5⟩
  self := fun A i s Q E st h => let ⟨_, ⟨_, he⟩, _⟩ := st; wpAny_pyIter_enum he h
def iEnT (K : PySem.W.Frag) (ta : TA) : TI := fun σ H R => ta σ H fun vs H1 => ∃ a xs, vs = [.ref a] ∧ SqT K H1 a xs ∧ R (IteT K a xs) H1
theorem pi_enT {X : Cx} {e : Expr} {ta : TA} {p pos tpos : Pos} {elts : List Expr} {kk : Nat} (hg : Gl X "enumerate") (hm : X.mg "enumerate" = none) (ha : PA X [e] ta) (hs : starEach [e] X.env = [(false, eval e X.env)] := by rfl) :
    PI X (.Tuple elts kk tpos) (.Call (.Name "enumerate" p) [e] [] pos) (iEnT X.K ta) := by
  refine ⟨fun pins s σ H R I h => ?_⟩
  refine Call_ (ld_blt I hg hm boot_enumerate (PyProof.Rows.callWith_type1 (thn (ha.run pos pins s σ H _ I h) fun us s1 ⟨vs, H1, I1, r1, q1⟩ => ?_) hs rfl))
  obtain ⟨a, xs, ex, hq, q⟩ := q1
  subst ex
  cases r1 with
  | cons r rr =>
    cases rr
    cases r
    obtain ⟨its, rv, p', hz⟩ := I1.tuple hq
    refine call_enum1 (begins_tuple a its.toArray) p' fun h' he hit hsz hk => wpAny_pyIter_enum he ?_
    have I2 : Inv X pins σ H1 { s1 with heap := h' } := I1.kept (t' := s1.toks) hk
    refine ⟨s1.heap.objs.size + 1, [s1.heap.objs.size + 1, s1.heap.objs.size], _, _, H1, rfl, I2, turn_enT a (s1.heap.objs.size + 1) s1.heap.objs.size xs, ⟨Nat.zero_le _, ⟨.none, he⟩, ⟨_, hit, rfl, rfl⟩, Nat.succ_ne_self _⟩, fun b hb => ?_, q⟩
    have e' : b = s1.heap.objs.size + 1 ∨ b = s1.heap.objs.size := by simpa using hb
    have hle : s1.heap.objs.size ≤ b := by
      rcases e' with z | z
      · rw [z]; exact Nat.le_add_right _ _
      · rw [z]; exact Nat.le_refl _
    exact I1.fpOk hle (I1.hok.fresh hle)
theorem walk_enT {K : PySem.W.Frag} {a : Addr} {xs : List V} : Walk (IteT K a xs) xs.length (fun H => SqT K H a xs) (YPair (fun i => some (.int (i : Nat))) (fun i => xs[i]?)) := by
  refine ⟨fun i _ hi q => ⟨q, hi⟩, fun _ q => ⟨q, Nat.le_refl _⟩, fun i H v H' _ q y => ?_⟩
  obtain ⟨T, x, h1, h2, h3, h4⟩ := y
  exact ⟨T, .int (i : Nat), x, h1, h2, h3, rfl, h4⟩
end My
namespace My
open PySem PySem.Spec PyProof.Rows L2
/-! ### masks -/
theorem add_or : ∀ (c d : Nat), c &&& d = 0 → c + d = c ||| d := by
  intro c
  induction c using Nat.strongRecOn with
  | ind c ih =>
    intro d h
    by_cases h0 : c = 0
    · subst h0
      simp
    have h2 : c / 2 &&& d / 2 = 0 := by rw [← Nat.and_div_two, h]
    have e := ih (c / 2) (by omega) (d / 2) h2
    have e1 : (c ||| d) / 2 = c / 2 ||| d / 2 := Nat.or_div_two
    have e2 : (c ||| d) % 2 = 1 ↔ c % 2 = 1 ∨ d % 2 = 1 := by
      have := Nat.testBit_or c d 0
      simp only [Nat.testBit_zero] at this
      by_cases x : c % 2 = 1 <;> by_cases y : d % 2 = 1 <;> simp_all
    have e3 : ¬ (c % 2 = 1 ∧ d % 2 = 1) := by
      rintro ⟨x, y⟩
      have := Nat.testBit_and c d 0
      rw [h] at this
      simp only [Nat.testBit_zero] at this
      simp_all
    by_cases x : c % 2 = 1 <;> by_cases y : d % 2 = 1
    · exact absurd ⟨x, y⟩ e3
    · have := e2.mpr (.inl x)
      omega
    · have := e2.mpr (.inr y)
      omega
    · have : ¬ (c ||| d) % 2 = 1 := fun z => (e2.mp z).elim x y
      omega
theorem sub_and (a b : Nat) : a - (a &&& b) = a ^^^ (a &&& b) := by
  have h1 : (a ^^^ (a &&& b)) &&& (a &&& b) = 0 := by
    apply Nat.eq_of_testBit_eq
    intro j
    simp only [Nat.testBit_and, Nat.testBit_xor, Nat.zero_testBit]
    cases a.testBit j <;> cases b.testBit j <;> rfl
  have h2 : (a ^^^ (a &&& b)) ||| (a &&& b) = a := by
    apply Nat.eq_of_testBit_eq
    intro j
    simp only [Nat.testBit_and, Nat.testBit_xor, Nat.testBit_or]
    cases a.testBit j <;> cases b.testBit j <;> rfl
  have h3 := add_or _ _ h1
  rw [h2] at h3
  omega
theorem sub_and_bit (a b j : Nat) : (a - (a &&& b)).testBit j = (a.testBit j && !b.testBit j) := by
  rw [sub_and, Nat.testBit_xor, Nat.testBit_and]
  cases a.testBit j <;> cases b.testBit j <;> rfl
theorem and_le (a b : Nat) : a &&& b ≤ a := Nat.and_le_left
theorem bitAnd_nn (a b : Nat) : Builtin.bitAnd (a : Int) (b : Int) = ((a &&& b : Nat) : Int) := by
  unfold Builtin.bitAnd
  rw [decide_eq_true (Int.natCast_nonneg a), decide_eq_true (Int.natCast_nonneg b)]
  rfl
theorem bitAnd_not (a b : Nat) : Builtin.bitAnd (a : Int) (Builtin.bitNot (b : Int)) = ((a - (a &&& b) : Nat) : Int) := by
  unfold Builtin.bitAnd
  have h : decide (0 ≤ Builtin.bitNot (b : Int)) = false := decide_eq_false (by unfold Builtin.bitNot; omega)
  rw [decide_eq_true (Int.natCast_nonneg a), h]
  have e : Builtin.bitNot (Builtin.bitNot (b : Int)) = b := by unfold Builtin.bitNot; omega
  show (a : Int) - (((a : Int).toNat &&& (Builtin.bitNot (Builtin.bitNot (b : Int))).toNat : Nat) : Int) = _
  rw [e, Int.toNat_natCast, Int.toNat_natCast]
  have := and_le a b
  omega
theorem bitOr_n (a b : Nat) : Builtin.bitOr (a : Int) (b : Int) = ((a ||| b : Nat) : Int) := by
  rw [bitOr_nn (Int.natCast_nonneg a) (Int.natCast_nonneg b), Int.toNat_natCast, Int.toNat_natCast]
theorem or_xor_and (a b : Nat) : (a ||| b) = (a ^^^ b) + (a &&& b) := by
  have h1 : (a ^^^ b) &&& (a &&& b) = 0 := by
    apply Nat.eq_of_testBit_eq
    intro j
    simp only [Nat.testBit_and, Nat.testBit_xor, Nat.zero_testBit]
    cases a.testBit j <;> cases b.testBit j <;> rfl
  rw [add_or _ _ h1]
  apply Nat.eq_of_testBit_eq
  intro j
  simp only [Nat.testBit_and, Nat.testBit_xor, Nat.testBit_or]
  cases a.testBit j <;> cases b.testBit j <;> rfl
theorem bitXor_n (a b : Nat) : Builtin.bitXor (a : Int) (b : Int) = ((a ^^^ b : Nat) : Int) := by
  unfold Builtin.bitXor
  rw [bitOr_n, bitAnd_nn]
  have := or_xor_and a b
  omega
/-- the lowest bit -/
theorem lowest {x : Nat} (h : x ≠ 0) : ∃ k, x.testBit k = true ∧ x - (x &&& (x - 1)) = 2 ^ k := by
  have hex := Nat.exists_testBit_of_ne_zero h
  obtain ⟨k, hk, hm⟩ : ∃ k, x.testBit k = true ∧ ∀ j, j < k → x.testBit j = false := by
    obtain ⟨i, hi⟩ := hex
    induction i using Nat.strongRecOn with
    | ind i ih =>
      by_cases z : ∃ j, j < i ∧ x.testBit j = true
      · obtain ⟨j, hj, h2⟩ := z
        exact ih j hj h2
      · refine ⟨i, hi, fun j hj => ?_⟩
        cases e : x.testBit j with
        | false => rfl
        | true => exact absurd ⟨j, hj, e⟩ z
  refine ⟨k, hk, ?_⟩
  have hmod : x % 2 ^ k = 0 := by
    apply Nat.eq_of_testBit_eq
    intro j
    rw [Nat.testBit_mod_two_pow, Nat.zero_testBit]
    by_cases hj : j < k
    · rw [hm j hj, Bool.and_false]
    · rw [decide_eq_false hj, Bool.false_and]
  obtain ⟨q, hq⟩ : ∃ q, x = 2 ^ k * q := ⟨x / 2 ^ k, by have := Nat.div_add_mod x (2 ^ k); omega⟩
  have hodd : q % 2 = 1 := by
    rw [hq, Nat.testBit_two_pow_mul] at hk
    simp only [Nat.le_refl, decide_true, Bool.true_and, Nat.sub_self, Nat.testBit_zero, decide_eq_true_eq, ge_iff_le] at hk
    exact hk
  have hp : 0 < 2 ^ k := Nat.two_pow_pos k
  have hx1 : x - 1 = 2 ^ k * (q - 1) + (2 ^ k - 1) := by
    obtain ⟨r, rfl⟩ : ∃ r, q = r + 1 := ⟨q - 1, by omega⟩
    rw [hq, Nat.mul_add, Nat.mul_one, Nat.add_sub_cancel]
    omega
  apply Nat.eq_of_testBit_eq
  intro j
  rw [sub_and_bit, Nat.testBit_two_pow, hx1, Nat.testBit_two_pow_mul_add (q - 1) (by omega : 2 ^ k - 1 < 2 ^ k)]
  by_cases hj : j < k
  · rw [hm j hj, Bool.false_and]
    exact (decide_eq_false (by omega)).symm
  · rw [if_neg hj, hq, Nat.testBit_two_pow_mul, decide_eq_true (by omega : j ≥ k), Bool.true_and]
    rcases Nat.lt_or_ge k j with hl | hl
    · obtain ⟨i, hi⟩ : ∃ i, j - k = i + 1 := ⟨j - k - 1, by omega⟩
      rw [hi, Nat.testBit_add_one, Nat.testBit_add_one, show (q - 1) / 2 = q / 2 by omega]
      rw [decide_eq_false (by omega : ¬ k = j)]
      cases (q / 2).testBit i <;> rfl
    · obtain rfl : j = k := by omega
      rw [Nat.sub_self, Nat.testBit_zero, Nat.testBit_zero, decide_eq_true hodd, decide_eq_false (by omega : ¬ (q - 1) % 2 = 1)]
      simp
theorem bitAnd_neg {x : Nat} (h : x ≠ 0) : Builtin.bitAnd (x : Int) (-(x : Int)) = ((x - (x &&& (x - 1)) : Nat) : Int) := by
  have := bitAnd_not x (x - 1)
  rw [show Builtin.bitNot ((x - 1 : Nat) : Int) = -(x : Int) by unfold Builtin.bitNot; omega] at this
  exact this
theorem bits_pow (k : Nat) : (Builtin.Int.intBits (((2 ^ k : Nat)) : Int) : Int) - 1 = (k : Nat) := by
  unfold Builtin.Int.intBits
  have hp : 0 < 2 ^ k := Nat.two_pow_pos k
  have h : ((((2 ^ k : Nat)) : Int) == 0) = false := by
    apply beq_eq_false_iff_ne.mpr
    omega
  rw [h]
  show ((((((2 ^ k : Nat)) : Int).natAbs.log2 + 1 : Nat)) : Int) - 1 = _
  rw [Int.natAbs_natCast, Nat.log2_two_pow]
  omega
abbrev mv (m : Nat) : V := .int (m : Int)
/-- for each place the ends, as a mask -/
def Msk (R : Nat → Nat → Prop) (n : Nat) (ms : List Nat) : Prop := ms.length = n + 1 ∧ ∀ i, i ≤ n → ∃ m, ms[i]? = some m ∧ ∀ j, (m.testBit j = true ↔ R i j)
theorem mv_at {ms : List Nat} {i : Nat} {m : Nat} (h : ms[i]? = some m) : atI (ms.map mv) ((i : Nat) : Int) = some (mv m) := by
  refine atI_nat ?_
  rw [List.getElem?_map, h]
  rfl
theorem shr_cast (e k : Nat) : (e : Int) / 2 ^ k = ((e / 2 ^ k : Nat) : Int) := by
  have : (2 : Int) ^ k = ((2 ^ k : Nat) : Int) := by simp
  rw [this]
  rfl
theorem shl_cast (e k : Nat) : (e : Int) * 2 ^ k = ((e * 2 ^ k : Nat) : Int) := by
  have : (2 : Int) ^ k = ((2 ^ k : Nat) : Int) := by simp
  rw [this, Int.natCast_mul]
theorem pow_cast (k : Nat) : (2 : Int) ^ k = ((2 ^ k : Nat) : Int) := by simp
theorem hi_bits (n i j : Nat) : ((2 ^ (n + 1) - 1) / 2 ^ i * 2 ^ i).testBit j = (decide (i ≤ j) && decide (j ≤ n)) := by
  rw [Nat.mul_comm, Nat.testBit_two_pow_mul, Nat.testBit_div_two_pow, Nat.testBit_two_pow_sub_one]
  by_cases h : i ≤ j
  · rw [decide_eq_true (by omega : j ≥ i), Bool.true_and, Bool.true_and]
    congr 1
    apply propext
    omega
  · rw [decide_eq_false (by omega : ¬ j ≥ i)]
    rfl
theorem hi_cast (n i : Nat) : ((2 : Int) ^ (n + 1) - 1) / 2 ^ i = (((2 ^ (n + 1) - 1) / 2 ^ i : Nat) : Int) := by
  rw [← shr_cast, pow_cast (n + 1)]
  congr 1
  have := Nat.two_pow_pos (n + 1)
  omega
theorem hi_val (n i f : Nat) : Builtin.bitAnd (((2 : Int) ^ (n + 1) - 1) / 2 ^ i * 2 ^ i) (Builtin.bitNot (f : Int)) =
    (((2 ^ (n + 1) - 1) / 2 ^ i * 2 ^ i - ((2 ^ (n + 1) - 1) / 2 ^ i * 2 ^ i &&& f) : Nat) : Int) := by
  rw [hi_cast, shl_cast, bitAnd_not]
theorem hi_shl {n i : Nat} (hn : n ≤ 100) (hi : i ≤ n) : CShl (((2 : Int) ^ (n + 1) - 1) / 2 ^ i) ((i : Nat) : Int) := by
  refine shl_ok (n := n + 1) ?_ (by omega)
  rw [hi_cast, Int.natAbs_natCast]
  have h1 := Nat.two_pow_pos (n + 1)
  have h2 := Nat.div_le_self (2 ^ (n + 1) - 1) (2 ^ i)
  omega
theorem odd_bit (m k : Nat) : decide (V.int ((m / 2 ^ k % 2 : Nat) : Int) = V.int 1) = m.testBit k := by
  rw [Nat.testBit_eq_decide_div_mod_eq]
  by_cases h : m / 2 ^ k % 2 = 1
  · rw [h]
    rfl
  · rw [decide_eq_false h]
    refine decide_eq_false fun e => h ?_
    injection e with e
    omega
theorem rep_zero (k : Nat) : (List.replicate k [V.int 0]).flatten = (List.replicate k 0).map mv := by
  rw [List.flatten_replicate_singleton, List.map_replicate]
  rfl
theorem ixN_nat {n j : Nat} (h : j < n) : ixN n ((j : Nat) : Int) = some j := by
  unfold ixN
  rw [if_pos (by omega), if_pos (by omega), Int.toNat_natCast]
/-- one more place of the star -/
theorem clo_step {R : Nat → Nat → Prop} {n pl e r m : Nat} {rs : List Nat} (hpl : pl ≤ n) (hR : ∀ i j, R i j → i ≤ j ∧ j ≤ n) (he : e = m - (m &&& 2 ^ pl)) (hm : ∀ j, (m.testBit j = true ↔ R pl j))
    (hrs : ∀ k, k ≤ n → pl < k → ∃ m, rs[k]? = some m ∧ ∀ j, (m.testBit j = true ↔ Clo R n k j))
    (hr : ∀ j, (r.testBit j = true ↔ ∃ m f, e.testBit m = true ∧ rs[m]? = some f ∧ f.testBit j = true)) (j : Nat) : (2 ^ pl ||| r).testBit j = true ↔ Clo R n pl j := by
  have eb : ∀ i, (e.testBit i = true ↔ R pl i ∧ pl < i) := fun i => by
    rw [he, sub_and_bit, Nat.testBit_two_pow]
    have := hm i
    simp only [Bool.and_eq_true, Bool.not_eq_true', decide_eq_false_iff_not, this]
    constructor
    · rintro ⟨h1, h2⟩
      have := hR _ _ h1
      exact ⟨h1, by omega⟩
    · rintro ⟨h1, h2⟩
      exact ⟨h1, by omega⟩
  rw [Nat.testBit_or, Nat.testBit_two_pow, Bool.or_eq_true, decide_eq_true_eq, hr, Clo.iff]
  constructor
  · rintro (rfl | ⟨k, f, h1, h2, h3⟩)
    · exact .inl ⟨rfl, hpl⟩
    · have h4 := (eb k).mp h1
      have h5 := hR _ _ h4.1
      obtain ⟨f2, h6, h7⟩ := hrs k (by omega) h4.2
      rw [h2] at h6
      obtain rfl := Option.some.inj h6
      exact .inr ⟨k, h4.1, h4.2, (h7 j).mp h3⟩
  · rintro (⟨rfl, _⟩ | ⟨k, h1, h2, h3⟩)
    · exact .inl rfl
    · have h5 := hR _ _ h1
      obtain ⟨f2, h6, h7⟩ := hrs k (by omega) h2
      exact .inr ⟨k, f2, (eb k).mpr ⟨h1, h2⟩, h6, (h7 j).mpr h3⟩
/-- the masks of the first places -/
def Pre (R : Nat → Nat → Prop) (i : Nat) (ns : List Nat) : Prop := ns.length = i ∧ ∀ k, k < i → ∃ m, ns[k]? = some m ∧ ∀ j, (m.testBit j = true ↔ R k j)
theorem Pre.nil {R : Nat → Nat → Prop} : Pre R 0 [] := ⟨rfl, fun _ h => absurd h (Nat.not_lt_zero _)⟩
theorem Pre.snoc {R : Nat → Nat → Prop} {i z : Nat} {ns : List Nat} (h : Pre R i ns) (hz : ∀ j, (z.testBit j = true ↔ R i j)) : Pre R (i + 1) (ns ++ [z]) := by
  have hlen := h.1
  refine ⟨by rw [List.length_append, hlen]; rfl, fun k hk => ?_⟩
  by_cases e : k = i
  · subst e
    exact ⟨z, by rw [List.getElem?_append_right (by omega), hlen, Nat.sub_self]; rfl, hz⟩
  · obtain ⟨m, h1, h2⟩ := h.2 k (by omega)
    exact ⟨m, by rw [List.getElem?_append_left (by omega)]; exact h1, h2⟩
theorem Pre.msk {R : Nat → Nat → Prop} {n : Nat} {ns : List Nat} (h : Pre R (n + 1) ns) : Msk R n ns := ⟨h.1, fun i hi => h.2 i (by omega)⟩
theorem Msk.congr {R S : Nat → Nat → Prop} {n : Nat} {ns : List Nat} (h : Msk R n ns) (e : ∀ i j, R i j ↔ S i j) : Msk S n ns :=
  ⟨h.1, fun i hi => by obtain ⟨m, a, b⟩ := h.2 i hi; exact ⟨m, a, fun j => (b j).trans (e i j)⟩⟩
/-! ### tables of bools -/
open Classical in
/-- a row: whether R holds at each place -/
noncomputable def rowB (P : Nat → Prop) (n : Nat) : List V := (List.range n).map fun e => V.bl (decide (P e))
theorem rowB_len (P : Nat → Prop) (n : Nat) : (rowB P n).length = n := by
  unfold rowB
  rw [List.length_map, List.length_range]
open Classical in
theorem rowB_get {P : Nat → Prop} {n e : Nat} (h : e < n) : (rowB P n)[e]? = some (V.bl (decide (P e))) := by
  unfold rowB
  rw [List.getElem?_map, List.getElem?_range h]
  rfl
theorem rowB_zero (P : Nat → Prop) : rowB P 0 = [] := rfl
open Classical in
theorem rowB_succ (P : Nat → Prop) (n : Nat) : rowB P (n + 1) = rowB P n ++ [V.bl (decide (P n))] := by
  unfold rowB
  rw [List.range_succ, List.map_append]
  rfl
theorem rowB_congr {P S : Nat → Prop} {n : Nat} (h : ∀ e, e < n → (P e ↔ S e)) : rowB P n = rowB S n := by
  unfold rowB
  refine List.map_congr_left fun e he => ?_
  have := h e (List.mem_range.mp he)
  congr 1
  exact decide_eq_decide.mpr this
/-- rows one by one -/
def Tabs (H : Hp) (ls : List V) (R : Nat → Nat → Prop) (n : Nat) : Prop := ∀ i, i < ls.length → ∃ a, ls[i]? = some (.ref a) ∧ H a = some (.lst (rowB (R i) (n + 1)))
def Tab (H : Hp) (l : Addr) (R : Nat → Nat → Prop) (n : Nat) : Prop := ∃ ls : List V, H l = some (.lst ls) ∧ ls.length = n + 1 ∧ Tabs H ls R n
theorem Tabs.same {H H' : Hp} {ls : List V} {R : Nat → Nat → Prop} {n : Nat} (h : Tabs H ls R n) (k : Same H H') : Tabs H' ls R n := fun i hi => by
  obtain ⟨a, e, g⟩ := h i hi
  exact ⟨a, e, k _ _ g⟩
theorem Tab.same {H H' : Hp} {l : Addr} {R : Nat → Nat → Prop} {n : Nat} (h : Tab H l R n) (k : Same H H') : Tab H' l R n := by
  obtain ⟨ls, a, b, c⟩ := h
  exact ⟨ls, k _ _ a, b, c.same k⟩
theorem Tabs.snoc {H : Hp} {ls : List V} {R : Nat → Nat → Prop} {n i : Nat} {a : Addr} (h : Tabs H ls R n) (hl : ls.length = i) (ha : H a = some (.lst (rowB (R i) (n + 1)))) : Tabs H (ls ++ [.ref a]) R n := fun k hk => by
  rw [List.length_append] at hk
  by_cases e : k = i
  · subst e
    exact ⟨a, by rw [List.getElem?_append_right (by omega), hl, Nat.sub_self]; rfl, ha⟩
  · obtain ⟨b, h1, h2⟩ := h k (by simp at hk; omega)
    exact ⟨b, by rw [List.getElem?_append_left (by simp at hk; omega)]; exact h1, h2⟩
theorem Tabs.put {H : Hp} {ls : List V} {R : Nat → Nat → Prop} {n : Nat} {d : Addr} {o : HO} (h : Tabs H ls R n) (hd : H d = some (.lst ls)) (hl : ls.length < n + 1) : Tabs (upd H d o) ls R n := fun i hi => by
  obtain ⟨a, e, g⟩ := h i hi
  refine ⟨a, e, ?_⟩
  rw [upd_ne]
  · exact g
  · rintro rfl
    rw [hd] at g
    have h1 : ls = rowB (R i) (n + 1) := by injection (Option.some.inj g)
    rw [h1, rowB_len] at hl
    omega
/-- one row more -/
theorem Tabs.step {H : Hp} {ls : List V} {R : Nat → Nat → Prop} {n i : Nat} {d a : Addr} (h : Tabs H ls R n) (hd : H d = some (.lst ls)) (hl : ls.length = i) (hi : i < n + 1) (ha : H a = some (.lst (rowB (R i) (n + 1)))) :
    Tabs (upd H d (.lst (ls ++ [.ref a]))) (ls ++ [.ref a]) R n := by
  refine (h.put hd (by omega)).snoc hl ?_
  rw [upd_ne]
  · exact ha
  · rintro rfl
    rw [hd] at ha
    have h1 : ls = rowB (R i) (n + 1) := by injection (Option.some.inj ha)
    rw [h1, rowB_len] at hl
    omega
theorem rowB_bit {P : Nat → Prop} {e : Nat} {c : Bool} (h : c = true ↔ P e) : rowB P (e + 1) = rowB P e ++ [V.bl c] := by
  have e1 : @decide (P e) (Classical.propDecidable _) = c := by
    cases c with
    | false => exact @decide_eq_false _ (Classical.propDecidable _) (fun hp => Bool.noConfusion (h.mpr hp))
    | true => exact @decide_eq_true _ (Classical.propDecidable _) (h.mp rfl)
  rw [rowB_succ, e1]
theorem int_eq {i j : Int} : decide (V.int i = V.int j) = true ↔ i = j := by
  rw [decide_eq_true_eq]
  constructor
  · intro h
    injection h
  · rintro rfl
    rfl
/-- what stands in a table -/
theorem Tab.row {H : Hp} {l : Addr} {R : Nat → Nat → Prop} {n i : Nat} (h : Tab H l R n) (hi : i ≤ n) : ∃ ls a, H l = some (.lst ls) ∧ ls[i]? = some (.ref a) ∧ H a = some (.lst (rowB (R i) (n + 1))) := by
  obtain ⟨ls, h1, h2, h3⟩ := h
  obtain ⟨a, h4, h5⟩ := h3 i (by omega)
  exact ⟨ls, a, h1, h4, h5⟩
theorem rowB_at {P : Nat → Prop} {n e : Nat} (h : e < n) : ∃ c : Bool, atI (rowB P n) ((e : Nat) : Int) = some (V.bl c) ∧ (c = true ↔ P e) := by
  classical
  exact ⟨_, atI_nat (rowB_get h), decide_eq_true_iff⟩
theorem at0 {xs : List V} {i : Nat} {v : V} (h : atI xs ((i : Nat) : Int) = some v) : atI xs (0 + (i : Int)) = some v := by
  rw [Int.zero_add]
  exact h
theorem rep_false (k : Nat) : (List.replicate k [V.bl false]).flatten = rowB (fun _ => False) k := by
  rw [List.flatten_replicate_singleton]
  induction k with
  | zero => rfl
  | succ k ih =>
    rw [List.replicate_succ', ih, rowB_bit (c := false) ⟨fun h => Bool.noConfusion h, fun h => h.elim⟩]
theorem cut9 (xs : List V) : cutV xs Option.none (some (9 : Int)) = xs.take 9 := by
  unfold cutV
  rw [show HT.sIx xs.length xs.length (some (9 : Int)) = min 9 xs.length from HT.sIx_nat xs.length xs.length 9, HT.sIx_none, List.drop_zero, Nat.sub_zero]
  exact List.take_eq_take_min.symm
end My
namespace My
open PySem PySem.Spec PyProof.Rows L2
/-! ### tuples whose object is known -/
theorem TupG.mk {H : Hp} {l : Addr} {o : Obj} {xs : List V} (h : o.cls = .type "tuple" ∧ o.dict = Option.none ∧ o.slots = #[]) : TupG (upd H l (.frz o (.tup xs))) l xs :=
  ⟨o, upd_same, h⟩
theorem TupG.kt {H H' : Hp} {p : Addr} {xs : List V} (h : TupG H p xs) (k : ∀ o, H p = some (.frz o (.tup xs)) → H' p = some (.frz o (.tup xs))) : TupG H' p xs := by
  obtain ⟨o, h, r⟩ := h
  exact ⟨o, k o h, r⟩
/-- a new tuple of these -/
def NewG (H : Hp) (Q : VK) (xs : List V) : Prop := ∀ (l : Addr) (o : Obj), H l = Option.none → (o.cls = .type "tuple" ∧ o.dict = Option.none ∧ o.slots = #[]) → Q (.ref l) (upd H l (.frz o (.tup xs)))
section
variable {X : Cx}
theorem layG {pins : List (Addr × Obj)} {σ : L2.St} {H : Hp} {s : Shared} {Q : VK} {xs : List V} {us : List Value} (I : Inv X pins σ H s) (r : Vals xs us) (hz : xs.length ≤ sizeLine) (q : NewG H Q xs) :
    EP X pins σ Q (.ref s.heap.objs.size) { s with heap := s.heap.push { cls := .type "tuple", data := .seq us.toArray } } := by
  have L : Inv X pins σ (upd H s.heap.objs.size (.frz { cls := .type "tuple", data := .seq us.toArray } (.tup xs)))
      { s with heap := s.heap.push { cls := .type "tuple", data := .seq us.toArray } } :=
    I.laid (t' := s.toks) (fun b o e => Heap.get?_push_of_some _ e) (Nat.le_refl _) ⟨Heap.get?_push_size _ rfl, hz, us, r, IsTup.new _ _⟩
  exact ⟨.ref s.heap.objs.size, _, L, rfl, q _ _ (I.hok.fresh (Nat.le_refl _)) ⟨rfl, rfl, rfl⟩⟩
def tTupG (t : TA) : TE := fun σ H Q => t σ H fun xs H1 => xs.length ≤ sizeLine ∧ NewG H1 Q xs
theorem pe_tupG {es : List Expr} {t : TA} {x1} {pos : Pos} (h : PA X es t) : PE X (.Tuple es x1 pos) (tTupG t) := by
  refine ⟨fun pins s σ H Q I hq => ?_⟩
  refine wpAny_Tuple_spliced (thn (h.run pos pins s σ H _ I hq) fun us s1 ⟨xs, H1, I1, r, z, q⟩ => ⟨by rw [← r.length]; exact z, ?_⟩)
  exact layG I1 r z q
def rSlG (K : PySem.W.Frag) : V → Option Int → Option Int → Hp → VK → Prop := fun x lo hi H Q => ∃ a xs, x = .ref a ∧ SqT K H a xs ∧
  (HT.sIx xs.length 0 lo = 0 ∧ HT.sIx xs.length xs.length hi = xs.length → Q (.ref a) H) ∧ (¬ (HT.sIx xs.length 0 lo = 0 ∧ HT.sIx xs.length xs.length hi = xs.length) → NewG H Q (cutV xs lo hi))
theorem sl_tupG : SlR X (rSlG X.K) := by
  intro pins s σ H x v vl vu lo hi sl Q I rx hs pl pu h
  obtain ⟨a, xs, rfl, hx, q1, q2⟩ := h
  by_cases hw : HT.sIx xs.length 0 lo = 0 ∧ HT.sIx xs.length xs.length hi = xs.length
  · cases rx
    obtain ⟨its, r, ht, hz⟩ := I.tuple hx
    have hlen : its.toArray.size = xs.length := by rw [List.size_toArray]; exact r.length.symm
    refine ⟨"tuple", _, PyProof.Rows.slot_tuple_getitem.lookup, ht.typeIs, ?_⟩
    exact getItem_tuple_whole ht hs pl pu (by rw [hlen]; exact hw) ⟨.ref a, H, I, rfl, q1 hw⟩
  · cases rx
    obtain ⟨its, r, ht, hz⟩ := I.tuple hx
    have hlen : its.toArray.size = xs.length := by rw [List.size_toArray]; exact r.length.symm
    refine ⟨"tuple", _, PyProof.Rows.slot_tuple_getitem.lookup, ht.typeIs, ?_⟩
    refine HT.getItem_tuple_cut ht hs pl pu (by rw [hlen]; exact hw) ?_ (by rw [hlen]; exact hz)
    rw [hlen]
    exact layG I ((r.drop (HT.sIx xs.length 0 lo)).take (HT.sIx xs.length xs.length hi - HT.sIx xs.length 0 lo)) (Nat.le_trans (cutV_length xs lo hi) hz) (q2 hw)
def rCatG (K : PySem.W.Frag) : R2 := fun x y H Q => ∃ a b xs ys, x = .ref a ∧ y = .ref b ∧ SqT K H a xs ∧ SqT K H b ys ∧ xs.length + ys.length ≤ sizeLine ∧
  (xs = [] → Q (.ref b) H) ∧ (xs ≠ [] → ys = [] → Q (.ref a) H) ∧ (xs ≠ [] → ys ≠ [] → NewG H Q (xs ++ ys))
theorem op_catG : OpR X (binaryOp .Add) (rCatG X.K) := by
  intro pins s σ H x y v u Q I rx ry h
  obtain ⟨a, b, xs, ys, rfl, rfl, ha, hb, hz, q0, q1, q2⟩ := h
  cases rx
  cases ry
  obtain ⟨its, r1, p1, _⟩ := I.tuple ha
  obtain ⟨its2, r2, p2, _⟩ := I.tuple hb
  by_cases hx : xs = []
  · subst hx
    cases r1
    exact cat_tup0 p1 p2 ⟨.ref b, H, I, rfl, q0 rfl⟩
  · refine HT.cat_tup p1 p2 (fun z => hx (r1.nil_iff.mp z)) (fun z => ⟨.ref a, H, I, rfl, q1 hx (r2.nil_iff.mp z)⟩) (fun z => ?_) (by rw [← r1.length, ← r2.length]; exact hz)
    exact layG I (r1.append r2) (by rw [List.length_append]; exact hz) (q2 hx fun w => z (r2.nil_iff.mpr w))
def tRevG (K : PySem.W.Frag) (te : TE) : TE := fun σ H Q => te σ H fun x H1 => ∃ a xs, x = .ref a ∧ SqT K H1 a xs ∧ NewG H1 Q xs.reverse
theorem pe_revG {e : Expr} {te : TE} {k : Nat} {p1 p2 p3 pos : Pos} (he : PE X e te) :
    PE X (.Subscript e (.Slice none none (some (.UnaryOp .USub (.Constant (.int 1) k p1) p2)) p3) pos) (tRevG X.K te) := by
  constructor
  intro pins s σ H Q I h
  refine Subscript_ (thn (he.run pins s σ H _ I h) ?_)
  rintro v s1 ⟨x, H1, I1, r1, a, xs, rfl, hx, q⟩
  cases r1
  have hst : PO X (some (.UnaryOp .USub (.Constant (.int 1) k p1) p2)) (tPart (tUn (rU fun i => .int (-i)) (tC (.int 1)))) :=
    po_some (pe_un un_neg pe_int)
  refine wpAny_Slice (thn (po_none.run pins s1 σ H1 (fun o h2 => o = none ∧ h2 = H1) I1 ⟨rfl, rfl⟩) ?_)
  rintro vl s2 ⟨l, H2, I2, pl, rfl, rfl⟩
  refine thn (po_none.run pins s2 σ H2 (fun o h3 => o = none ∧ h3 = H2) I2 ⟨rfl, rfl⟩) ?_
  rintro vu s3 ⟨u, H3, I3, pu, rfl, rfl⟩
  refine thn (hst.run pins s3 σ H3 (fun o h4 => o = some (-1) ∧ h4 = H3) I3 ⟨1, rfl, -1, rfl, rfl, rfl⟩) ?_
  rintro vs s4 ⟨o, H4, I4, ps, rfl, rfl⟩
  have I5 : Inv X pins σ H4 { s4 with heap := s4.heap.push { cls := .type "slice", data := .fields #[vl, vu, vs] } } :=
    I4.kept (t' := s4.toks) fun b ob q => Heap.get?_push_of_some _ q
  obtain ⟨its, r, ht, hz⟩ := I5.tuple hx
  have hlen := r.length
  show wpAny (model X.prog X.w) X.A (subscriptTail e (.Slice none none (some (.UnaryOp .USub (.Constant (.int 1) k p1) p2)) p3) (.ref a)
    (.ref s4.heap.objs.size)) (EP X pins σ Q) X.xe { s4 with heap := s4.heap.push { cls := .type "slice", data := .fields #[vl, vu, vs] } }
  refine tail_any (ops := [.ref a, .ref s4.heap.objs.size]) ht.typeIs (PyProof.Rows.slot_tuple_getitem.lookup) ?_ (by with_unfolding_all rfl)
  refine getItem_rev ht (Heap.IsSliceOf.new _ vl vu vs) pl pu ps ?_ (by rw [List.size_toArray]; omega)
  exact layG I5 r.reverse (by rw [List.length_reverse]; exact hz) q
end
end My
namespace My
open PySem PySem.Spec PyProof.Rows L2
/-! ### dicts: what a tracked one is, whatever its keys -/
abbrev KVs := List (NestedKey × V × V)
def EntR (w : World) (p : NestedKey × V × V) (e : DictEntry) : Prop := e.hash = p.1.hash w ∧ RelV p.2.1 e.key ∧ RelV p.2.2 e.val
structure RawD (w : World) (h : Heap) (a : Addr) (kvs : KVs) : Prop where
  z : kvs.length ≤ sizeLine
  s : (a == sysModules) = false
  n : (kvs.map (·.1)).Nodup
  ex : ∃ o es ep, h.get? a = some o ∧ o.ExactDict ∧ o.data = .dict es ep ∧ Paired (EntR w) kvs es.toList
def DicO (w : World) (a : Addr) (kvs : KVs) : HO := .ext fun h => RawD w h a kvs
theorem RawD.at {w : World} {h h' : Heap} {a : Addr} {kvs : KVs} (R : RawD w h a kvs) (e : ∀ o, h.get? a = some o → h'.get? a = some o) : RawD w h' a kvs :=
  ⟨R.z, R.s, R.n, let ⟨o, es, ep, h1, r⟩ := R.ex; ⟨o, es, ep, e o h1, r⟩⟩
theorem RawD.ok {P : Program} {w w' : World} {H : Hp} {h : Heap} {a : Addr} {kvs : KVs} (R : RawD w h a kvs) : ObjOk P w' H h a (DicO w a kvs) :=
  ⟨R, let ⟨o, _, _, h1, _⟩ := R.ex; ⟨o, h1⟩, fun _ _ r e => r.at e⟩
theorem dic_at {P : Program} {w w' : World} {H : Hp} {h : Heap} {a : Addr} {kvs : KVs} (ok : HOk P w' H h) (e : H a = some (DicO w a kvs)) : RawD w h a kvs := (ok a _ e).1
def fnd (kvs : KVs) (k : NestedKey) : Option V := (kvs.find? fun p => decide (p.1 = k)).map (·.2.2)
def putD (kvs : KVs) (k : NestedKey) (y v : V) : KVs := if kvs.any (fun p => decide (p.1 = k)) then kvs.map (fun p => if p.1 = k then (p.1, p.2.1, v) else p) else kvs ++ [(k, y, v)]
theorem putD_len (kvs : KVs) (k : NestedKey) (y v : V) : (putD kvs k y v).length ≤ kvs.length + 1 := by
  unfold putD
  split
  · rw [List.length_map]; omega
  · rw [List.length_append]; simp
/-! keys carried by value -/
/-- how the keys of a kind are seen -/
structure Emb {P : Program} {w : World} {K : Type} [DecidableEq K] (knd : KeyKind P w K) where
  f : K → NestedKey × V
  inj : ∀ a b, (f a).1 = (f b).1 → a = b
  is : ∀ k u, knd.is k u = true ↔ RelV (f k).2 u
  hash : ∀ k, knd.hash k = (f k).1.hash w
section
variable {P : Program} {w : World} {K : Type} [DecidableEq K] {knd : KeyKind P w K} (m : Emb knd)
def Emb.Rel (p : NestedKey × V × V) (q : K × Value) : Prop := p.1 = (m.f q.1).1 ∧ p.2.1 = (m.f q.1).2 ∧ RelV p.2.2 q.2
variable {m}
theorem Emb.to {kvs : KVs} {es : List DictEntry} (r : Paired (EntR w) kvs es) (u : ∀ p ∈ kvs, ∃ k, p.1 = (m.f k).1 ∧ p.2.1 = (m.f k).2) :
    ∃ vs, Paired m.Rel kvs vs ∧ Pairs knd es vs ∧ ∀ e ∈ es, ∃ k, knd.is k e.key = true ∧ e.hash = knd.hash k := by
  induction r with
  | nil => exact ⟨[], .nil, .nil, fun e he => by cases he⟩
  | @cons p e ps es h t ih =>
    obtain ⟨k, k1, k2⟩ := u p List.mem_cons_self
    obtain ⟨vs, r1, r2, r3⟩ := ih fun q hq => u q (List.mem_cons_of_mem _ hq)
    have is1 : knd.is k e.key = true := (m.is k _).mpr (by rw [← k2]; exact h.2.1)
    refine ⟨(k, e.val) :: vs, .cons ⟨k1, k2, h.2.2⟩ r1, .cons is1 rfl r2, fun e' he => ?_⟩
    rcases List.mem_cons.mp he with rfl | he
    · exact ⟨k, is1, by rw [h.1, m.hash, k1]⟩
    · exact r3 e' he
theorem Emb.from {kvs : KVs} {vs : List (K × Value)} {es : List DictEntry} (r : Paired m.Rel kvs vs) (p : Pairs knd es vs) (hk : ∀ e ∈ es, ∃ k, knd.is k e.key = true ∧ e.hash = knd.hash k) : Paired (EntR w) kvs es := by
  induction r generalizing es with
  | nil => cases p; exact .nil
  | @cons p q ps qs h t ih =>
    cases p with
    | @cons e _ es _ i1 i2 i3 =>
      obtain ⟨k, j1, j2⟩ := hk e List.mem_cons_self
      obtain rfl := knd.inj _ _ _ i1 j1
      refine .cons ⟨by rw [j2, m.hash, h.1], by rw [h.2.1]; exact (m.is _ _).mp i1, by rw [i2]; exact h.2.2⟩ (ih i3 fun e' he => hk e' (List.mem_cons_of_mem _ he))
theorem Emb.keys {kvs : KVs} {vs : List (K × Value)} (r : Paired m.Rel kvs vs) : kvs.map (·.1) = (vs.map (·.1)).map fun k => (m.f k).1 := by
  induction r with
  | nil => rfl
  | cons h t ih => rw [List.map_cons, List.map_cons, List.map_cons, h.1, ih]
theorem nodup_of_map {α β : Type} {f : α → β} : ∀ {l : List α}, (l.map f).Nodup → l.Nodup
  | [], _ => List.nodup_nil
  | a :: l, h => by
    rw [List.map_cons, List.nodup_cons] at h
    exact List.nodup_cons.mpr ⟨fun z => h.1 (List.mem_map.mpr ⟨a, z, rfl⟩), nodup_of_map h.2⟩
theorem nodup_map {α β : Type} {f : α → β} (hf : ∀ a b, f a = f b → a = b) : ∀ {l : List α}, l.Nodup → (l.map f).Nodup
  | [], _ => List.nodup_nil
  | a :: l, h => by
    have h := List.nodup_cons.mp h
    refine List.nodup_cons.mpr ⟨fun z => ?_, nodup_map hf h.2⟩
    obtain ⟨b, hb, e⟩ := List.mem_map.mp z
    exact h.1 (hf _ _ e ▸ hb)
theorem Emb.dict {h : Heap} {a : Addr} {kvs : KVs} (R : RawD w h a kvs) (u : ∀ p ∈ kvs, ∃ k, p.1 = (m.f k).1 ∧ p.2.1 = (m.f k).2) : ∃ vs, Paired m.Rel kvs vs ∧ h.DictOf knd a vs := by
  obtain ⟨o, es, ep, h1, h2, h3, h4⟩ := R.ex
  obtain ⟨vs, r1, r2, r3⟩ := m.to h4 u
  have n := R.n
  rw [m.keys r1] at n
  exact ⟨vs, r1, o, es, ep, h1, h2, h3, fun e he => r3 e (by simpa using he), r2, nodup_of_map n⟩
theorem Emb.raw {h : Heap} {a : Addr} {kvs : KVs} {vs : List (K × Value)} (r : Paired m.Rel kvs vs) (d : h.DictOf knd a vs) (z : kvs.length ≤ sizeLine) (s : (a == sysModules) = false) : RawD w h a kvs := by
  obtain ⟨o, es, ep, h1, h2, h3, h4, h5, h6⟩ := d
  refine ⟨z, s, ?_, o, es, ep, h1, h2, h3, m.from r h5 fun e he => h4 e (by simpa using he)⟩
  rw [m.keys r]
  exact nodup_map (fun a b e => m.inj a b e) h6
theorem Emb.find {kvs : KVs} {vs : List (K × Value)} (r : Paired m.Rel kvs vs) (k : K) : RelO (fnd kvs (m.f k).1) (valueAt vs k) := by
  induction r with
  | nil => exact True.intro
  | @cons p q ps qs h t ih =>
    unfold fnd valueAt at ih ⊢
    rw [List.find?_cons, List.find?_cons]
    by_cases e : q.1 = k
    · rw [decide_eq_true (show p.1 = (m.f k).1 by rw [h.1, e]), decide_eq_true e]
      exact h.2.2
    · rw [decide_eq_false (fun z : p.1 = (m.f k).1 => e (m.inj _ _ (h.1.symm.trans z))), decide_eq_false e]
      exact ih
theorem Emb.any {kvs : KVs} {vs : List (K × Value)} (r : Paired m.Rel kvs vs) (k : K) : (kvs.any fun p => decide (p.1 = (m.f k).1)) = vs.any fun q => decide (q.1 = k) := by
  induction r with
  | nil => rfl
  | @cons p q ps qs h t ih =>
    rw [List.any_cons, List.any_cons, ih]
    congr 1
    by_cases e : q.1 = k
    · rw [decide_eq_true (show p.1 = (m.f k).1 by rw [h.1, e]), decide_eq_true e]
    · rw [decide_eq_false (fun z : p.1 = (m.f k).1 => e (m.inj _ _ (h.1.symm.trans z))), decide_eq_false e]
theorem Emb.put {kvs : KVs} {vs : List (K × Value)} (r : Paired m.Rel kvs vs) (k : K) {v : V} {u : Value} (rv : RelV v u) : Paired m.Rel (putD kvs (m.f k).1 (m.f k).2 v) (stored vs k u) := by
  unfold putD stored
  rw [m.any r k]
  split
  · rename_i hq
    clear hq
    induction r with
    | nil => exact .nil
    | @cons p q ps qs h t ih =>
      rw [List.map_cons, List.map_cons]
      refine .cons ?_ ih
      by_cases e : q.1 = k
      · rw [if_pos (show p.1 = (m.f k).1 by rw [h.1, e]), if_pos e]
        exact ⟨h.1, h.2.1, rv⟩
      · rw [if_neg (fun z : p.1 = (m.f k).1 => e (m.inj _ _ (h.1.symm.trans z))), if_neg e]
        exact h
  · exact Paired.snoc r ⟨rfl, rfl, rv⟩
end
def mixE (P : Program) (w : World) : Emb (mixKind P w) where
  f := fun k => match k with | .inl i => (.num i, .int i) | .inr x => (.text x, .str x)
  inj := fun a b e => by
    cases a <;> cases b <;> first | (injection e with e; rw [e]) | exact nomatch e
  is := fun k u => by
    cases k with
    | inl i =>
      show keyIs (.inl i) u = true ↔ RelV (.int i) u
      constructor
      · intro h
        rcases keyIs_shape h with ⟨j, t, e, rfl⟩ | ⟨x, t, e, _⟩
        · cases e; exact ⟨t, rfl⟩
        · cases e
      · rintro ⟨t, rfl⟩; exact keyIs_int i t
    | inr x =>
      show keyIs (.inr x) u = true ↔ RelV (.str x) u
      constructor
      · intro h
        rcases keyIs_shape h with ⟨j, t, e, _⟩ | ⟨y, t, e, rfl⟩
        · cases e
        · cases e; exact ⟨t, rfl⟩
      · rintro ⟨t, rfl⟩; exact keyIs_str x t
  hash := fun k => by cases k <;> rfl
def booE (P : Program) (w : World) : Emb (PpSet.boolK P w) where
  f := fun b => (.num (PpSet.b2 b), .bl b)
  inj := fun a b e => by
    injection e with e
    cases a <;> cases b <;> first | rfl | exact absurd e (by decide)
  is := fun k u => ⟨fun h => PpSet.isB_shape h, fun h => by obtain rfl : u = Value.bool k := h; exact PpSet.boolK_is P w k⟩
  hash := fun k => rfl
/-! keys that are tuples -/
mutual
inductive KeyAt (H : Hp) : V → NestedKey → Prop
  | non : KeyAt H .non .none
  | bl (b : Bool) : KeyAt H (.bl b) (.num (if b = true then 1 else 0))
  | int (i : Int) : KeyAt H (.int i) (.num i)
  | str (x : Str) : KeyAt H (.str x) (.text x)
  | tup {a : Addr} {xs : List V} {ks : List NestedKey} : TupG H a xs → KeysAt H xs ks → KeyAt H (.ref a) (.tup ks)
inductive KeysAt (H : Hp) : List V → List NestedKey → Prop
  | nil : KeysAt H [] []
  | cons {v : V} {vs : List V} {k : NestedKey} {ks : List NestedKey} : KeyAt H v k → KeysAt H vs ks → KeysAt H (v :: vs) (k :: ks)
end
mutual
theorem KeyAt.nested {P : Program} {w : World} {H : Hp} {h : Heap} (ok : HOk P w H h) : ∀ {v : V} {k : NestedKey} {u : Value}, KeyAt H v k → RelV v u → NestedIs h k u
  | _, _, u, .non, r => by obtain rfl : u = .none := r; exact .none
  | _, _, u, .bl b, r => by obtain rfl : u = .bool b := r; exact .bool rfl
  | _, _, u, .int i, r => by obtain ⟨t, rfl⟩ := r; exact .int i t
  | _, _, u, .str x, r => by obtain ⟨t, rfl⟩ := r; exact .text x t
  | _, _, u, .tup ht hk, r => by
    obtain rfl : u = .ref _ := r
    obtain ⟨o, e, hc, hd, hs⟩ := ht
    obtain ⟨e1, z, its, rv, o', e2, c2, n, d2⟩ := ok _ _ e
    have : o = o' := Option.some.inj (e1.symm.trans e2)
    subst this
    exact .tup e1 hc d2 (KeysAt.nested ok hk rv)
theorem KeysAt.nested {P : Program} {w : World} {H : Hp} {h : Heap} (ok : HOk P w H h) : ∀ {vs : List V} {ks : List NestedKey} {us : List Value}, KeysAt H vs ks → Vals vs us → NestedAll h ks us
  | _, _, _, .nil, r => by cases r; exact .nil
  | _, _, _, .cons hk ht, r => by
    cases r with
    | cons r1 r2 => exact .cons (KeyAt.nested ok hk r1) (KeysAt.nested ok ht r2)
end
mutual
theorem KeyAt.mono {H H' : Hp} (k : ∀ a o xs, H a = some (.frz o (.tup xs)) → H' a = some (.frz o (.tup xs))) : ∀ {v : V} {n : NestedKey}, KeyAt H v n → KeyAt H' v n
  | _, _, .non => .non
  | _, _, .bl b => .bl b
  | _, _, .int i => .int i
  | _, _, .str x => .str x
  | _, _, .tup ht hk => .tup (ht.kt fun o e => k _ o _ e) (KeysAt.mono k hk)
theorem KeysAt.mono {H H' : Hp} (k : ∀ a o xs, H a = some (.frz o (.tup xs)) → H' a = some (.frz o (.tup xs))) : ∀ {vs : List V} {ns : List NestedKey}, KeysAt H vs ns → KeysAt H' vs ns
  | _, _, .nil => .nil
  | _, _, .cons h t => .cons (KeyAt.mono k h) (KeysAt.mono k t)
end
end My
namespace My
open PySem PySem.Spec PyProof.Rows L2
/-! ### which keys stand together -/
def mixF : Key → NestedKey × V := fun k => match k with | .inl i => (.num i, .int i) | .inr x => (.text x, .str x)
def booF : Bool → NestedKey × V := fun b => (.num (PpSet.b2 b), .bl b)
inductive Uni (H : Hp) (kvs : KVs) : Prop
  | mix : (∀ p ∈ kvs, ∃ k, p.1 = (mixF k).1 ∧ p.2.1 = (mixF k).2) → Uni H kvs
  | boo : (∀ p ∈ kvs, ∃ k, p.1 = (booF k).1 ∧ p.2.1 = (booF k).2) → Uni H kvs
  | tup : (∀ p ∈ kvs, (∃ b, p.2.1 = .ref b) ∧ KeyAt H p.2.1 p.1 ∧ p.1.depth ≤ 8) → Uni H kvs
/-- .. with this one -/
inductive UniK (H : Hp) (kvs : KVs) : V → NestedKey → Prop
  | mix (k : Key) : (∀ p ∈ kvs, ∃ k, p.1 = (mixF k).1 ∧ p.2.1 = (mixF k).2) → UniK H kvs (mixF k).2 (mixF k).1
  | boo (k : Bool) : (∀ p ∈ kvs, ∃ k, p.1 = (booF k).1 ∧ p.2.1 = (booF k).2) → UniK H kvs (booF k).2 (booF k).1
  | tup {b : Addr} {k : NestedKey} : KeyAt H (.ref b) k → k.depth ≤ 8 → (∀ p ∈ kvs, (∃ b, p.2.1 = .ref b) ∧ KeyAt H p.2.1 p.1 ∧ p.1.depth ≤ 8) → UniK H kvs (.ref b) k
def RelT (p : NestedKey × V × V) (x : NestedKey × Addr × Value) : Prop := p.1 = x.1 ∧ p.2.1 = .ref x.2.1 ∧ RelV p.2.2 x.2.2
section
variable {P : Program} {w : World} {H : Hp} {h : Heap} {a : Addr} {kvs : KVs}
theorem tup_to (ok : HOk P w H h) {es : List DictEntry} (r : Paired (EntR w) kvs es) (u : ∀ p ∈ kvs, (∃ b, p.2.1 = .ref b) ∧ KeyAt H p.2.1 p.1 ∧ p.1.depth ≤ 8) :
    ∃ xs : List (NestedKey × Addr × Value), Paired RelT kvs xs ∧ es = xs.map (entryOfKey (nestedKind P w)) ∧ ∀ x ∈ xs, (nestedKind P w).is h x.1 x.2.1 := by
  induction r with
  | nil => exact ⟨[], .nil, rfl, fun x hx => by cases hx⟩
  | @cons p e ps es h1 t ih =>
    obtain ⟨⟨b, hb⟩, u2, u3⟩ := u p List.mem_cons_self
    obtain ⟨xs, r1, r2, r3⟩ := ih fun q hq => u q (List.mem_cons_of_mem _ hq)
    obtain ⟨h1, h2, h3⟩ := h1
    rw [hb] at h2 u2
    have h2 : e.key = .ref b := h2
    refine ⟨(p.1, b, e.val) :: xs, .cons ⟨rfl, hb, h3⟩ r1, ?_, fun x hx => ?_⟩
    · rw [List.map_cons, r2]
      congr 1
      show e = ⟨(nestedKind P w).hash p.1, .ref b, e.val⟩
      rw [show (nestedKind P w).hash p.1 = e.hash from h1.symm, ← h2]
    · rcases List.mem_cons.mp hx with rfl | hx
      · exact ⟨u2.nested ok rfl, u3⟩
      · exact r3 x hx
theorem tup_keys {xs : List (NestedKey × Addr × Value)} (r : Paired RelT kvs xs) : kvs.map (·.1) = xs.map (·.1) := by
  induction r with
  | nil => rfl
  | cons h t ih => rw [List.map_cons, List.map_cons, h.1, ih]
theorem tup_dict (ok : HOk P w H h) (R : RawD w h a kvs) (u : ∀ p ∈ kvs, (∃ b, p.2.1 = .ref b) ∧ KeyAt H p.2.1 p.1 ∧ p.1.depth ≤ 8) : ∃ xs, Paired RelT kvs xs ∧ h.DictOfH (nestedKind P w) a xs := by
  obtain ⟨o, es, ep, h1, h2, h3, h4⟩ := R.ex
  obtain ⟨xs, r1, r2, r3⟩ := tup_to ok h4 u
  exact ⟨xs, r1, o, es, ep, h1, h2, h3, r2, r3, by rw [← tup_keys r1]; exact R.n⟩
theorem tup_raw {xs : List (NestedKey × Addr × Value)} (r : Paired RelT kvs xs) (d : h.DictOfH (nestedKind P w) a xs) (z : kvs.length ≤ sizeLine) (s : (a == sysModules) = false) : RawD w h a kvs := by
  obtain ⟨o, es, ep, h1, h2, h3, h4, h5, h6⟩ := d
  refine ⟨z, s, by rw [tup_keys r]; exact h6, o, es, ep, h1, h2, h3, ?_⟩
  rw [h4]
  clear h4 h5 h6 z
  induction r with
  | nil => exact .nil
  | cons h t ih => exact .cons ⟨by rw [h.1]; rfl, by rw [h.2.1]; rfl, h.2.2⟩ ih
theorem tup_find {xs : List (NestedKey × Addr × Value)} (r : Paired RelT kvs xs) (k : NestedKey) : RelO (fnd kvs k) ((atKey xs k).map (·.2)) := by
  induction r with
  | nil => exact True.intro
  | @cons p x ps xs h t ih =>
    unfold fnd atKey at ih ⊢
    rw [List.find?_cons, List.find?_cons, h.1]
    by_cases e : x.1 = k
    · rw [decide_eq_true e]; exact h.2.2
    · rw [decide_eq_false e]; exact ih
theorem fnd_any (kvs : KVs) (k : NestedKey) : (kvs.any fun p => decide (p.1 = k)) = (fnd kvs k).isSome := by
  unfold fnd
  induction kvs with
  | nil => rfl
  | cons p ps ih =>
    rw [List.any_cons, List.find?_cons, ih]
    by_cases e : p.1 = k
    · rw [decide_eq_true e]; rfl
    · rw [decide_eq_false e]; rfl
theorem tup_put {xs : List (NestedKey × Addr × Value)} (r : Paired RelT kvs xs) (k : NestedKey) {b : Addr} {v : V} {u : Value} (rv : RelV v u) : Paired RelT (putD kvs k (.ref b) v) (storedH xs k b u) := by
  have e : (kvs.any fun p => decide (p.1 = k)) = (atKey xs k).isSome := by
    rw [fnd_any, (tup_find r k).isSome_eq, Option.isSome_map]
  unfold putD storedH
  rw [e]
  split
  · rename_i hq
    clear hq e
    induction r with
    | nil => exact .nil
    | @cons p x ps xs h t ih =>
      rw [List.map_cons, List.map_cons]
      refine .cons ?_ ih
      unfold putAt
      by_cases e : x.1 = k
      · rw [if_pos (h.1.trans e), if_pos e]; exact ⟨h.1, h.2.1, rv⟩
      · rw [if_neg (fun z => e (h.1.symm.trans z)), if_neg e]; exact h
  · exact Paired.snoc r ⟨rfl, rfl, rv⟩
end
section
variable {X : Cx} {pins : List (Addr × Obj)} {σ : L2.St} {H : Hp} {s : Shared} {a : Addr} {y v d : V} {k : NestedKey} {kvs : KVs} {u r : Value} {A : Around} {E : Value → Shared → Prop}
theorem room9 (hu : A.units + 9 < cLine) : (nestedKind X.prog X.w).room A.in1 := by
  show A.in1.units + 8 < cLine
  have : A.in1.units = A.units + 1 := rfl
  omega
theorem dc_raw (I : Inv X pins σ H s) (e : H a = some (DicO X.w a kvs)) : RawD X.w s.heap a kvs := dic_at I.hok e
theorem RawD.typeIs {w : World} {s : Shared} (R : RawD w s.heap a kvs) : s.TypeIs (.ref a) "dict" := let ⟨o, _, _, h1, h2, _⟩ := R.ex; ⟨o, h1, h2.1⟩
theorem RawD.noDict {w : World} {s : Shared} (R : RawD w s.heap a kvs) : ∀ b, Value.ref a = .ref b → ∃ ob, s.heap.get? b = some ob ∧ ob.dict = none := fun b q => by
  cases q
  obtain ⟨o, _, _, h1, h2, _⟩ := R.ex
  exact ⟨o, h1, h2.2.1⟩
/-- d[y] -/
theorem dc_get {Q : Value → Shared → Prop} (hu : A.units + 9 < cLine) (I : Inv X pins σ H s) (e : H a = some (DicO X.w a kvs)) (U : UniK H kvs y k) (g : fnd kvs k = some v) (ry : RelV y u)
    (h : ∀ w' s', Inv X pins σ H s' → RelV v w' → Q w' s') : wpAny (model X.prog X.w) A (getItem (.ref a) u) Q E s := by
  have R := dc_raw I e
  cases U with
  | mix k hk =>
    obtain ⟨vs, r1, dd⟩ := Emb.dict (m := mixE X.prog X.w) R hk
    obtain ⟨w', hw, rw'⟩ := RelO.some_of (v := v) (o := valueAt vs k) (by rw [← g]; exact Emb.find (m := mixE X.prog X.w) r1 k)
    exact wpAny_getItem_of (((mixE X.prog X.w).is k u).mpr ry) dd.mapOf hw (h w' _ (I.tok _) rw')
  | boo k hk =>
    obtain ⟨vs, r1, dd⟩ := Emb.dict (m := booE X.prog X.w) R hk
    obtain ⟨w', hw, rw'⟩ := RelO.some_of (v := v) (o := valueAt vs k) (by rw [← g]; exact Emb.find (m := booE X.prog X.w) r1 k)
    exact wpAny_getItem_of (((booE X.prog X.w).is k u).mpr ry) dd.mapOf hw (h w' _ (I.tok _) rw')
  | tup hk hd hks =>
    obtain ⟨xs, r1, dd⟩ := tup_dict I.hok R hks
    obtain ⟨w', hw, rw'⟩ := RelO.some_of (v := v) (o := (atKey xs k).map (·.2)) (by rw [← g]; exact tup_find r1 k)
    obtain ⟨p, hp, hp2⟩ := Option.map_eq_some_iff.mp hw
    cases (show u = Value.ref _ from ry)
    refine wpAny_getItem_heap (knd := nestedKind X.prog X.w) (room9 hu) ⟨hk.nested I.hok rfl, hd⟩ dd hp ?_
    rw [hp2]
    exact h w' _ (I.tok _) rw'
/-- y in d -/
theorem dc_in {Q : Value → Shared → Prop} (hu : A.units + 9 < cLine) (I : Inv X pins σ H s) (e : H a = some (DicO X.w a kvs)) (U : UniK H kvs y k) (ry : RelV y u)
    (h : ∀ s', Inv X pins σ H s' → Q (.bool (fnd kvs k).isSome) s') : wpAny (model X.prog X.w) A (compareOp .In u (.ref a)) Q E s := by
  have R := dc_raw I e
  cases U with
  | mix k hk =>
    obtain ⟨vs, r1, dd⟩ := Emb.dict (m := mixE X.prog X.w) R hk
    refine wpAny_in_of (((mixE X.prog X.w).is k u).mpr ry) R.s dd.mapOf ?_
    rw [← (Emb.find (m := mixE X.prog X.w) r1 k).isSome_eq]
    exact h _ (I.tok _)
  | boo k hk =>
    obtain ⟨vs, r1, dd⟩ := Emb.dict (m := booE X.prog X.w) R hk
    refine wpAny_in_of (((booE X.prog X.w).is k u).mpr ry) R.s dd.mapOf ?_
    rw [← (Emb.find (m := booE X.prog X.w) r1 k).isSome_eq]
    exact h _ (I.tok _)
  | tup hk hd hks =>
    obtain ⟨xs, r1, dd⟩ := tup_dict I.hok R hks
    cases (show u = Value.ref _ from ry)
    refine wpAny_in_heap (knd := nestedKind X.prog X.w) (room9 hu) ⟨hk.nested I.hok rfl, hd⟩ R.s dd ?_
    have q := (tup_find r1 k).isSome_eq
    rw [Option.isSome_map] at q
    rw [← q]
    exact h _ (I.tok _)
theorem dc_notIn {Q : Value → Shared → Prop} (hu : A.units + 9 < cLine) (I : Inv X pins σ H s) (e : H a = some (DicO X.w a kvs)) (U : UniK H kvs y k) (ry : RelV y u)
    (h : ∀ s', Inv X pins σ H s' → Q (.bool (!(fnd kvs k).isSome)) s') : wpAny (model X.prog X.w) A (compareOp .NotIn u (.ref a)) Q E s := by
  have R := dc_raw I e
  cases U with
  | mix k hk =>
    obtain ⟨vs, r1, dd⟩ := Emb.dict (m := mixE X.prog X.w) R hk
    refine wpAny_notIn_of (((mixE X.prog X.w).is k u).mpr ry) R.s dd.mapOf ?_
    rw [← (Emb.find (m := mixE X.prog X.w) r1 k).isSome_eq]
    exact h _ (I.tok _)
  | boo k hk =>
    obtain ⟨vs, r1, dd⟩ := Emb.dict (m := booE X.prog X.w) R hk
    refine wpAny_notIn_of (((booE X.prog X.w).is k u).mpr ry) R.s dd.mapOf ?_
    rw [← (Emb.find (m := booE X.prog X.w) r1 k).isSome_eq]
    exact h _ (I.tok _)
  | tup hk hd hks =>
    obtain ⟨xs, r1, dd⟩ := tup_dict I.hok R hks
    cases (show u = Value.ref _ from ry)
    refine wpAny_notIn_heap (knd := nestedKind X.prog X.w) (room9 hu) ⟨hk.nested I.hok rfl, hd⟩ R.s dd ?_
    have q := (tup_find r1 k).isSome_eq
    rw [Option.isSome_map] at q
    rw [← q]
    exact h _ (I.tok _)
/-- d[y] = v -/
theorem dc_set {Q : Unit → Shared → Prop} (hu : A.units + 9 < cLine) (I : Inv X pins σ H s) (e : H a = some (DicO X.w a kvs)) (U : UniK H kvs y k) (hl : kvs.length < sizeLine) (ry : RelV y u) (rv : RelV v r)
    (h : ∀ s', Inv X pins σ (upd H a (DicO X.w a (putD kvs k y v))) s' → Q () s') : wpAny (model X.prog X.w) A (setItem (.ref a) u r) Q E s := by
  have R := dc_raw I e
  have hz : (putD kvs k y v).length ≤ sizeLine := by have := putD_len kvs k y v; omega
  have fin : ∀ (h' : Heap) (t' : Nat), RawD X.w h' a (putD kvs k y v) → Heap.SameBut a s.heap h' → Inv X pins σ (upd H a (DicO X.w a (putD kvs k y v))) { s with heap := h', toks := t' } := fun h' t' R' hs =>
    d_write I (by rw [e]; exact True.intro) hs (let ⟨o, _, _, h1, _⟩ := R'.ex; ⟨o, h1⟩) R'.ok
  cases U with
  | mix k hk =>
    obtain ⟨vs, r1, dd⟩ := Emb.dict (m := mixE X.prog X.w) R hk
    exact wpAny_setItem_pairs (hsz := by rw [← Paired.length r1]; exact R.z) (((mixE X.prog X.w).is k u).mpr ry) dd fun h' dd' hs => h _ (fin _ _ (Emb.raw (m := mixE X.prog X.w) (Emb.put r1 k rv) dd' hz R.s) hs)
  | boo k hk =>
    obtain ⟨vs, r1, dd⟩ := Emb.dict (m := booE X.prog X.w) R hk
    exact wpAny_setItem_pairs (hsz := by rw [← Paired.length r1]; exact R.z) (((booE X.prog X.w).is k u).mpr ry) dd fun h' dd' hs => h _ (fin _ _ (Emb.raw (m := booE X.prog X.w) (Emb.put r1 k rv) dd' hz R.s) hs)
  | tup hk hd hks =>
    obtain ⟨xs, r1, dd⟩ := tup_dict I.hok R hks
    cases (show u = Value.ref _ from ry)
    exact wpAny_setItem_heap (knd := nestedKind X.prog X.w) (hsz := by rw [← Paired.length r1]; exact R.z) (room9 hu) ⟨hk.nested I.hok rfl, hd⟩ dd fun h' dd' hs => h _ (fin _ _ (tup_raw (tup_put r1 k rv) dd' hz R.s) hs)
/-- d.get(y) -/
theorem dc_get1 {Q : Value → Shared → Prop} (hu : A.units + 9 < cLine) (I : Inv X pins σ H s) (e : H a = some (DicO X.w a kvs)) (U : UniK H kvs y k) (ry : RelV y u)
    (h : ∀ w' s', Inv X pins σ H s' → RelV ((fnd kvs k).getD .non) w' → Q w' s') : wpAny (model X.prog X.w) A (call (.builtin "dict.get") [.ref a, u]) Q E s := by
  have R := dc_raw I e
  cases U with
  | mix k hk =>
    obtain ⟨vs, r1, dd⟩ := Emb.dict (m := mixE X.prog X.w) R hk
    exact call_meetsIn PySem.F.slot_dict_get dd.typeIs PySem.F.entry_dict_get (PySem.F.args_dict_get_2 _ _) (meets_dict_get (mixKind X.prog X.w) a (((mixE X.prog X.w).is k u).mpr ry) R.s) ⟨_, dd.mapOf, h _ _ (I.tok _) ((Emb.find (m := mixE X.prog X.w) r1 k).getD rfl)⟩
  | boo k hk =>
    obtain ⟨vs, r1, dd⟩ := Emb.dict (m := booE X.prog X.w) R hk
    exact call_meetsIn PySem.F.slot_dict_get dd.typeIs PySem.F.entry_dict_get (PySem.F.args_dict_get_2 _ _) (meets_dict_get (PpSet.boolK X.prog X.w) a (((booE X.prog X.w).is k u).mpr ry) R.s) ⟨_, dd.mapOf, h _ _ (I.tok _) ((Emb.find (m := booE X.prog X.w) r1 k).getD rfl)⟩
  | tup hk hd hks =>
    obtain ⟨xs, r1, dd⟩ := tup_dict I.hok R hks
    cases (show u = Value.ref _ from ry)
    exact call_meetsIn PySem.F.slot_dict_get dd.typeIs PySem.F.entry_dict_get (PySem.F.args_dict_get_2 _ _) (meetsH_dict_get (nestedKind X.prog X.w) a _ R.s) ⟨room9 (A := A) hu, k, xs, ⟨hk.nested I.hok rfl, hd⟩, dd, h _ _ (I.tok _) ((tup_find r1 k).getD rfl)⟩
/-- d.get(y, x) -/
theorem dc_get2 {Q : Value → Shared → Prop} (hu : A.units + 9 < cLine) (I : Inv X pins σ H s) (e : H a = some (DicO X.w a kvs)) (U : UniK H kvs y k) (ry : RelV y u) (rd : RelV d r)
    (h : ∀ w' s', Inv X pins σ H s' → RelV ((fnd kvs k).getD d) w' → Q w' s') : wpAny (model X.prog X.w) A (call (.builtin "dict.get") [.ref a, u, r]) Q E s := by
  have R := dc_raw I e
  cases U with
  | mix k hk =>
    obtain ⟨vs, r1, dd⟩ := Emb.dict (m := mixE X.prog X.w) R hk
    exact call_meetsIn PySem.F.slot_dict_get dd.typeIs PySem.F.entry_dict_get (PySem.F.args_dict_get_3 _ _ _) (meets_dict_get_default (mixKind X.prog X.w) a (((mixE X.prog X.w).is k u).mpr ry) R.s r) ⟨_, dd.mapOf, h _ _ (I.tok _) ((Emb.find (m := mixE X.prog X.w) r1 k).getD rd)⟩
  | boo k hk =>
    obtain ⟨vs, r1, dd⟩ := Emb.dict (m := booE X.prog X.w) R hk
    exact call_meetsIn PySem.F.slot_dict_get dd.typeIs PySem.F.entry_dict_get (PySem.F.args_dict_get_3 _ _ _) (meets_dict_get_default (PpSet.boolK X.prog X.w) a (((booE X.prog X.w).is k u).mpr ry) R.s r) ⟨_, dd.mapOf, h _ _ (I.tok _) ((Emb.find (m := booE X.prog X.w) r1 k).getD rd)⟩
  | tup hk hd hks =>
    obtain ⟨xs, r1, dd⟩ := tup_dict I.hok R hks
    cases (show u = Value.ref _ from ry)
    exact call_meetsIn PySem.F.slot_dict_get dd.typeIs PySem.F.entry_dict_get (PySem.F.args_dict_get_3 _ _ _) (meetsH_dict_get_default (nestedKind X.prog X.w) a _ R.s r) ⟨room9 (A := A) hu, k, xs, ⟨hk.nested I.hok rfl, hd⟩, dd, h _ _ (I.tok _) ((tup_find r1 k).getD rd)⟩
/-- len(d) -/
theorem dc_len {Q : Value → Shared → Prop} (I : Inv X pins σ H s) (e : H a = some (DicO X.w a kvs)) (U : Uni H kvs) (h : ∀ t s', Inv X pins σ H s' → Q (.int kvs.length t) s') : wpAny (model X.prog X.w) A (call (.builtin "len") [.ref a]) Q E s := by
  have R := dc_raw I e
  have z := R.z
  rw [sizeLine_eq] at z
  cases U with
  | mix hk =>
    obtain ⟨vs, r1, dd⟩ := Emb.dict (m := mixE X.prog X.w) R hk
    have l := Paired.length r1
    exact call_len_dict R.s dd (by omega) (by rw [← l]; exact h _ _ (I.tok _))
  | boo hk =>
    obtain ⟨vs, r1, dd⟩ := Emb.dict (m := booE X.prog X.w) R hk
    have l := Paired.length r1
    exact call_len_dict R.s dd (by omega) (by rw [← l]; exact h _ _ (I.tok _))
  | tup hk =>
    obtain ⟨xs, r1, dd⟩ := tup_dict I.hok R hk
    have l := Paired.length r1
    exact call_len_dictH R.s dd (by omega) (by rw [← l]; exact h _ _ (I.tok _))
end
end My
namespace My
open PySem PySem.Spec PyProof.Rows L2

/-- what a law's run leans on: the tables of code objects, the world -/
class TB where
  T : List NdefX.NTab
  w : World
mutual
/-- a value as a key: True is 1 -/
def canon : PyData → Option NestedKey
  | .none => some .none
  | .bool b => some (.num (if b = true then 1 else 0))
  | .int i => some (.num i)
  | .str x => some (.text x)
  | .tuple ds => (canons ds).map .tup
  | .list _ => Option.none
  | .dict _ => Option.none
def canons : List PyData → Option (List NestedKey)
  | [] => some []
  | d :: ds => match canon d, canons ds with
    | some k, some ks => some (k :: ks)
    | _, _ => Option.none
end
section
variable [TB]
/-! ### deep data over the tracked heap -/
mutual
inductive Dt (H : Hp) : V → PyData → Prop
  | non : Dt H .non .none
  | bl (b : Bool) : Dt H (.bl b) (.bool b)
  | int (i : Int) : Dt H (.int i) (.int i)
  | str (x : Str) : Dt H (.str x) (.str x)
  | tup {a : Addr} {xs : List V} {ds : List PyData} : TupG H a xs → DtAll H xs ds → Dt H (.ref a) (.tuple ds)
  | lst {a : Addr} {xs : List V} {ds : List PyData} : H a = some (.lst xs) → DtAll H xs ds → Dt H (.ref a) (.list ds)
  | dic {a : Addr} {kvs : KVs} {ds : List (PyData × PyData)} : H a = some (DicO TB.w a kvs) → DtAll H (kvs.map (·.2.1)) (ds.map (·.1)) → DtAll H (kvs.map (·.2.2)) (ds.map (·.2)) → ds.map (fun q => canon q.1) = kvs.map (fun p => some p.1) → Dt H (.ref a) (.dict ds)
inductive DtAll (H : Hp) : List V → List PyData → Prop
  | nil : DtAll H [] []
  | cons {v : V} {vs : List V} {d : PyData} {ds : List PyData} : Dt H v d → DtAll H vs ds → DtAll H (v :: vs) (d :: ds)
end
mutual
theorem Dt.mono {H H' : Hp} (k : Same H H') : ∀ {v : V} {d : PyData}, Dt H v d → Dt H' v d
  | _, _, .non => .non
  | _, _, .bl b => .bl b
  | _, _, .int i => .int i
  | _, _, .str x => .str x
  | _, _, .tup h ha => .tup (h.kt fun o e => k _ _ e) (DtAll.mono k ha)
  | _, _, .lst h ha => .lst (k _ _ h) (DtAll.mono k ha)
  | _, _, .dic h h1 h2 h3 => .dic (k _ _ h) (DtAll.mono k h1) (DtAll.mono k h2) h3
theorem DtAll.mono {H H' : Hp} (k : Same H H') : ∀ {vs : List V} {ds : List PyData}, DtAll H vs ds → DtAll H' vs ds
  | _, _, .nil => .nil
  | _, _, .cons h t => .cons (Dt.mono k h) (DtAll.mono k t)
end
mutual
theorem Dt.dp {K : PySem.W.Frag} {H : Hp} : ∀ {v : V} {d : PyData}, Dt H v d → d.hasDict = false → Dp K H v d
  | _, _, .non, _ => .non
  | _, _, .bl b, _ => .bl b
  | _, _, .int i, _ => .int i
  | _, _, .str x, _ => .str x
  | _, _, .tup h ha, e => .tup h.sq (DtAll.dp ha (by simpa [PyData.hasDict] using e))
  | _, _, .lst h ha, e => .lst (SqL.of h) (DtAll.dp ha (by simpa [PyData.hasDict] using e))
  | _, _, .dic _ _ _ _, e => by simp [PyData.hasDict] at e
theorem DtAll.dp {K : PySem.W.Frag} {H : Hp} : ∀ {vs : List V} {ds : List PyData}, DtAll H vs ds → PyData.hasDictAll ds = false → DpAll K H vs ds
  | _, _, .nil, _ => .nil
  | _, _, .cons h t, e => by
    simp only [PyData.hasDictAll, Bool.or_eq_false_iff] at e
    exact .cons (Dt.dp h e.1) (DtAll.dp t e.2)
end
theorem DtAll.length {H : Hp} : ∀ {vs : List V} {ds : List PyData}, DtAll H vs ds → vs.length = ds.length
  | _, _, .nil => rfl
  | _, _, .cons _ t => congrArg (· + 1) (DtAll.length t)
theorem DtAll.of {H : Hp} : ∀ {vs : List V} {ds : List PyData} {i : Nat} {d : PyData}, DtAll H vs ds → ds[i]? = some d → ∃ v, vs[i]? = some v ∧ Dt H v d
  | _, _, _, _, .nil, e => by simp at e
  | _, _, 0, _, .cons h _, e => by simp at e; subst e; exact ⟨_, rfl, h⟩
  | _, _, i + 1, _, .cons _ t, e => by
    obtain ⟨d, h1, h2⟩ := DtAll.of (i := i) t (by simpa using e)
    exact ⟨d, by simpa using h1, h2⟩
theorem DtAll.get {H : Hp} : ∀ {vs : List V} {ds : List PyData} {i : Nat} {v : V}, DtAll H vs ds → vs[i]? = some v → ∃ d, ds[i]? = some d ∧ Dt H v d
  | _, _, _, _, .nil, e => by simp at e
  | _, _, 0, _, .cons h _, e => by simp at e; subst e; exact ⟨_, rfl, h⟩
  | _, _, i + 1, _, .cons _ t, e => by
    obtain ⟨d, h1, h2⟩ := DtAll.get (i := i) t (by simpa using e)
    exact ⟨d, by simpa using h1, h2⟩
theorem DtAll.append {H : Hp} : ∀ {vs ws : List V} {ds es : List PyData}, DtAll H vs ds → DtAll H ws es → DtAll H (vs ++ ws) (ds ++ es)
  | _, _, _, _, .nil, h => h
  | _, _, _, _, .cons g t, h => .cons g (DtAll.append t h)
theorem DtAll.snoc {H : Hp} {vs : List V} {ds : List PyData} {v : V} {d : PyData} (a : DtAll H vs ds) (b : Dt H v d) : DtAll H (vs ++ [v]) (ds ++ [d]) :=
  a.append (.cons b .nil)
theorem DtAll.take {H : Hp} : ∀ {vs : List V} {ds : List PyData} (n : Nat), DtAll H vs ds → DtAll H (vs.take n) (ds.take n)
  | _, _, 0, _ => .nil
  | _, _, _ + 1, .nil => .nil
  | _, _, n + 1, .cons g t => .cons g (DtAll.take n t)
theorem DtAll.drop {H : Hp} : ∀ {vs : List V} {ds : List PyData} (n : Nat), DtAll H vs ds → DtAll H (vs.drop n) (ds.drop n)
  | _, _, 0, h => h
  | _, _, _ + 1, .nil => .nil
  | _, _, n + 1, .cons _ t => DtAll.drop n t
theorem DtAll.set {H : Hp} {v : V} {d : PyData} (h : Dt H v d) : ∀ {vs : List V} {ds : List PyData} (n : Nat), DtAll H vs ds → DtAll H (vs.set n v) (ds.set n d)
  | _, _, _, .nil => .nil
  | _, _, 0, .cons _ t => .cons h t
  | _, _, n + 1, .cons g t => .cons g (DtAll.set h n t)
theorem DtAll.rev {H : Hp} : ∀ {vs : List V} {ds : List PyData}, DtAll H vs ds → DtAll H vs.reverse ds.reverse
  | _, _, .nil => .nil
  | _, _, .cons g t => by rw [List.reverse_cons, List.reverse_cons]; exact (DtAll.rev t).snoc g
def KF (H H' : Hp) : Prop := ∀ a o u, H a = some (.frz o u) → H' a = some (.frz o u)
/-- no list within -/
def tpo : PyData → Bool
  | .none => true | .bool _ => true | .int _ => true | .str _ => true
  | .list _ => false | .dict _ => false
  | .tuple xs => tpoAll xs
where tpoAll : List PyData → Bool
  | [] => true
  | d :: ds => tpo d && tpoAll ds
mutual
theorem Dt.tpo {H H' : Hp} (k : KF H H') : ∀ {v : V} {d : PyData}, Dt H v d → tpo d = true → Dt H' v d
  | _, _, .non, _ => .non
  | _, _, .bl b, _ => .bl b
  | _, _, .int i, _ => .int i
  | _, _, .str x, _ => .str x
  | _, _, .tup h ha, e => .tup (h.kt fun o e => k _ _ _ e) (DtAll.tpo k ha (by simpa [My.tpo] using e))
  | _, _, .lst h ha, e => by simp [My.tpo] at e
  | _, _, .dic _ _ _ _, e => by simp [My.tpo] at e
theorem DtAll.tpo {H H' : Hp} (k : KF H H') : ∀ {vs : List V} {ds : List PyData}, DtAll H vs ds → tpo.tpoAll ds = true → DtAll H' vs ds
  | _, _, .nil, _ => .nil
  | _, _, .cons h t, e => by
    simp [My.tpo.tpoAll] at e
    exact .cons (Dt.tpo k h e.1) (DtAll.tpo k t e.2)
end

/-- the heap without some places -/
noncomputable def wo (S : Addr → Prop) (H : Hp) : Hp := fun a => open Classical in if S a then none else H a
theorem wo_of {S : Addr → Prop} {H : Hp} {a : Addr} {o : HO} (h : wo S H a = some o) : ¬ S a ∧ H a = some o := by
  unfold wo at h
  split at h
  · cases h
  · exact ⟨by assumption, h⟩
theorem wo_mk {S : Addr → Prop} {H : Hp} {a : Addr} {o : HO} (n : ¬ S a) (h : H a = some o) : wo S H a = some o := by
  unfold wo; rw [if_neg n]; exact h
theorem wo_same {S : Addr → Prop} {H : Hp} : Same (wo S H) H := fun _ _ h => (wo_of h).2
theorem wo_mono {S S' : Addr → Prop} {H H' : Hp} (hs : ∀ a, S' a → S a) (hh : ∀ a o, ¬ S a → H a = some o → H' a = some o) : Same (wo S H) (wo S' H') := fun a o h =>
  wo_mk (fun z => (wo_of h).1 (hs a z)) (hh a o (wo_of h).1 (wo_of h).2)

/-! ### data of one's own: lists and dicts that may be changed, one within another -/
inductive M where
  | leaf (d : PyData)
  | lst (ms : List M)
  | dic (ks : List PyData) (ms : List M)
mutual
/-- given away -/
def M.dat : M → PyData
  | .leaf d => d
  | .lst ms => .list (M.dats ms)
  | .dic ks ms => .dict (ks.zip (M.dats ms))
def M.dats : List M → List PyData
  | [] => []
  | m :: ms => m.dat :: M.dats ms
end
mutual
/-- the value v is this; the places of its lists and dicts -/
inductive RelM (H : Hp) (B : Addr → Prop) : V → M → List Addr → Prop
  | leaf {v : V} {d : PyData} : Dt (wo B H) v d → RelM H B v (.leaf d) []
  | lst {p : Addr} {vs : List V} {ms : List M} {f : List Addr} : H p = some (.lst vs) → RelMs H B vs ms f → p ∉ f → RelM H B (.ref p) (.lst ms) (p :: f)
  | dic {p : Addr} {kvs : KVs} {ks : List PyData} {ms : List M} {f : List Addr} : H p = some (DicO TB.w p kvs) → DtAll (wo B H) (kvs.map (·.2.1)) ks → ks.map canon = kvs.map (fun q => some q.1) →
      RelMs H B (kvs.map (·.2.2)) ms f → p ∉ f → RelM H B (.ref p) (.dic ks ms) (p :: f)
inductive RelMs (H : Hp) (B : Addr → Prop) : List V → List M → List Addr → Prop
  | nil : RelMs H B [] [] []
  | cons {v : V} {vs : List V} {m : M} {ms : List M} {f g : List Addr} : RelM H B v m f → RelMs H B vs ms g → (∀ b ∈ f, b ∉ g) → RelMs H B (v :: vs) (m :: ms) (f ++ g)
end
mutual
theorem RelM.mono {H H' : Hp} {B B' : Addr → Prop} (s : Same (wo B H) (wo B' H')) : ∀ {v : V} {m : M} {f : List Addr}, RelM H B v m f → (∀ b ∈ f, ∀ o, H b = some o → H' b = some o) → RelM H' B' v m f
  | _, _, _, .leaf h, _ => .leaf (Dt.mono s h)
  | _, _, _, .lst h hs n, k => .lst (k _ List.mem_cons_self _ h) (RelMs.mono s hs fun b hb => k b (List.mem_cons_of_mem _ hb)) n
  | _, _, _, .dic h h1 h2 hs n, k => .dic (k _ List.mem_cons_self _ h) (DtAll.mono s h1) h2 (RelMs.mono s hs fun b hb => k b (List.mem_cons_of_mem _ hb)) n
theorem RelMs.mono {H H' : Hp} {B B' : Addr → Prop} (s : Same (wo B H) (wo B' H')) : ∀ {vs : List V} {ms : List M} {f : List Addr}, RelMs H B vs ms f → (∀ b ∈ f, ∀ o, H b = some o → H' b = some o) → RelMs H' B' vs ms f
  | _, _, _, .nil, _ => .nil
  | _, _, _, .cons h t n, k => .cons (RelM.mono s h fun b hb => k b (List.mem_append_left _ hb)) (RelMs.mono s t fun b hb => k b (List.mem_append_right _ hb)) n
end
mutual
theorem RelM.some {H : Hp} {B : Addr → Prop} : ∀ {v : V} {m : M} {f : List Addr}, RelM H B v m f → ∀ b ∈ f, ∃ o, H b = some o
  | _, _, _, .leaf h, _, hb => by cases hb
  | _, _, _, .lst h hs n, b, hb => (List.mem_cons.mp hb).elim (fun e => e ▸ ⟨_, h⟩) (RelMs.some hs b)
  | _, _, _, .dic h h1 h2 hs n, b, hb => (List.mem_cons.mp hb).elim (fun e => e ▸ ⟨_, h⟩) (RelMs.some hs b)
theorem RelMs.some {H : Hp} {B : Addr → Prop} : ∀ {vs : List V} {ms : List M} {f : List Addr}, RelMs H B vs ms f → ∀ b ∈ f, ∃ o, H b = some o
  | _, _, _, .nil, _, hb => by cases hb
  | _, _, _, .cons h t n, b, hb => (List.mem_append.mp hb).elim (RelM.some h b) (RelMs.some t b)
end
theorem dats_len : ∀ ms : List M, (M.dats ms).length = ms.length
  | [] => rfl
  | m :: ms => by rw [M.dats, List.length_cons, List.length_cons, dats_len ms]
theorem RelMs.len {H : Hp} {B : Addr → Prop} : ∀ {vs : List V} {ms : List M} {f : List Addr}, RelMs H B vs ms f → vs.length = ms.length
  | _, _, _, .nil => rfl
  | _, _, _, .cons h t n => congrArg (· + 1) (RelMs.len t)
theorem zip_fst {α β : Type} : ∀ {l : List α} {m : List β}, l.length = m.length → (l.zip m).map (·.1) = l
  | [], [], _ => rfl
  | a :: l, b :: m, h => by rw [List.zip_cons_cons, List.map_cons, zip_fst (by simpa using h)]
theorem zip_snd {α β : Type} : ∀ {l : List α} {m : List β}, l.length = m.length → (l.zip m).map (·.2) = m
  | [], [], _ => rfl
  | a :: l, b :: m, h => by rw [List.zip_cons_cons, List.map_cons, zip_snd (by simpa using h)]
mutual
/-- given away, it is data that stays -/
theorem RelM.dt {H : Hp} {B B' : Addr → Prop} (hB : ∀ b, B' b → B b) : ∀ {v : V} {m : M} {f : List Addr}, RelM H B v m f → (∀ b ∈ f, ¬ B' b) → Dt (wo B' H) v m.dat
  | _, _, _, .leaf h, _ => Dt.mono (wo_mono hB fun _ _ _ e => e) h
  | _, _, _, .lst h hs n, k => by
    rw [M.dat]
    exact .lst (wo_mk (k _ List.mem_cons_self) h) (RelMs.dt hB hs fun b hb => k b (List.mem_cons_of_mem _ hb))
  | _, _, _, .dic (kvs := kvs) (ks := ks) (ms := ms) h h1 h2 hs n, k => by
    rw [M.dat]
    have l1 : ks.length = (M.dats ms).length := by
      rw [dats_len, ← RelMs.len hs, ← h1.length, List.length_map, List.length_map]
    refine .dic (wo_mk (k _ List.mem_cons_self) h) ?_ ?_ ?_
    · rw [zip_fst l1]; exact DtAll.mono (wo_mono hB fun _ _ _ e => e) h1
    · rw [zip_snd l1]; exact RelMs.dt hB hs fun b hb => k b (List.mem_cons_of_mem _ hb)
    · rw [← h2]
      rw [show (fun q : PyData × PyData => canon q.1) = canon ∘ (fun q => q.1) from rfl, ← List.map_map, zip_fst l1]
theorem RelMs.dt {H : Hp} {B B' : Addr → Prop} (hB : ∀ b, B' b → B b) : ∀ {vs : List V} {ms : List M} {f : List Addr}, RelMs H B vs ms f → (∀ b ∈ f, ¬ B' b) → DtAll (wo B' H) vs (M.dats ms)
  | _, _, _, .nil, _ => .nil
  | _, _, _, .cons h t n, k => by
    rw [M.dats]
    exact .cons (RelM.dt hB h fun b hb => k b (List.mem_append_left _ hb)) (RelMs.dt hB t fun b hb => k b (List.mem_append_right _ hb))
end
/-! ### values by their data -/
inductive D where
  /-- data that stays -/
  | p (d : PyData)
  /-- a list of one's own, at a slot -/
  | own (ds : List PyData)
  /-- a new list -/
  | nw (ds : List PyData)
  | tape
  /-- lists and dicts of one's own, at a slot -/
  | ot (m : M)
  /-- .. new ones -/
  | nt (m : M)
  /-- a def made here -/
  | fv (f : Addr) (F : NdefX.NF)
abbrev Ro := List (Option D)
/-- the items of a list -/
def D.ls : D → Option (List PyData)
  | .p (.list ds) => some ds | .own ds => some ds | .nw ds => some ds | _ => none
/-- the items of a list or tuple -/
def D.sq : D → Option (List PyData)
  | .p (.list ds) => some ds | .p (.tuple ds) => some ds | .own ds => some ds | .nw ds => some ds | _ => none
/-- as data, now -/
def D.dat : D → Option PyData
  | .p d => some d | .own ds => some (.list ds) | .nw ds => some (.list ds) | .ot (.lst ms) => some (.list (M.dats ms)) | .ot (.dic ks ms) => some (.dict (ks.zip (M.dats ms))) | .nt (.lst ms) => some (.list (M.dats ms)) | .nt (.dic ks ms) => some (.dict (ks.zip (M.dats ms))) | _ => none
theorem D.dat_ot {m : M} {d : PyData} (h : D.dat (.ot m) = some d) : d = m.dat := by
  cases m with
  | leaf d => cases h
  | lst ms => cases h; rw [M.dat]
  | dic ks ms => cases h; rw [M.dat]
theorem D.dat_nt {m : M} {d : PyData} (h : D.dat (.nt m) = some d) : d = m.dat := by
  cases m with
  | leaf d => cases h
  | lst ms => cases h; rw [M.dat]
  | dic ks ms => cases h; rw [M.dat]
/-- as data that stays -/
def D.st : D → Option PyData
  | .p d => some d | .nw ds => some (.list ds) | .nt m => some m.dat | _ => none
structure Cd where
  t : TA2
  S0 : Addr → Prop
  F : Addr → Prop
  H0 : Hp
  pins : List (V × PyData)
  tups : List (Addr × List V)
  /-- the places of trees of one's own -/
  G : Addr → Prop
abbrev Pn := List (V × PyData) × List (Addr × List V)
abbrev Cd.add (C : Cd) (w : Pn) : Cd := { C with pins := w.1 ++ C.pins, tups := w.2 ++ C.tups }
abbrev Cd.gg (C : Cd) (G : Addr → Prop) : Cd := { C with G := G }
def ownAt (ρ : Ro) (σ : L2.St) (b : Addr) : Prop := ∃ (i : Nat) (ds : List PyData), ρ[i]? = some (some (.own ds)) ∧ σ[i]? = some (some (.ref b))
def bad (C : Cd) (ρ : Ro) (σ : L2.St) (b : Addr) : Prop := C.S0 b ∨ C.F b ∨ ownAt ρ σ b ∨ C.G b
/-- no tape, no table -/
def nx (t : TA2) (b : Addr) : Prop := b ≠ t.1 ∧ ∀ p ∈ TB.T, p.1 ≠ b
def Kq (t : TA2) (H H' : Hp) : Prop := ∀ b o, nx t b → H b = some o → H' b = some o
theorem Kq.refl (t : TA2) (H : Hp) : Kq t H H := fun _ _ _ h => h
theorem Kq.trans {t : TA2} {H H1 H2 : Hp} (a : Kq t H H1) (b : Kq t H1 H2) : Kq t H H2 := fun c o n h => b c o n (a c o n h)
theorem Kq.new {t : TA2} {p : Addr} {H : Hp} {o : HO} (h : H p = none) : Kq t H (upd H p o) := fun b u _ e => by
  rw [upd_ne (ne_of_none e h)]; exact e
theorem Kq.free {t : TA2} {p : Addr} {H H' : Hp} (a : Kq t H H') (n : nx t p) (h : H' p = none) : H p = none := by
  cases q : H p with
  | none => rfl
  | some o => rw [a p o n q] at h; cases h
theorem Kq.of {t : TA2} {H H' : Hp} (k : Kp t H H') : Kq t H H' := fun b o n e => k b o n.1 e
/-- the tables stand -/
abbrev Tbs (H : Hp) : Prop := NdefX.TabsN TB.T H
theorem Tbs.at {H : Hp} (T : Tbs H) {p : NdefX.NTab} (h : p ∈ TB.T) : ∃ ps, H p.1 = some (.tbl ps) := let ⟨ps, e, _⟩ := T p h; ⟨ps, e⟩
theorem Tbs.new {H : Hp} {a : Addr} {o : HO} (T : Tbs H) (h : H a = none) : Tbs (upd H a o) := T.ext fun b u e => by rw [upd_ne (ne_of_none e h)]; exact e
theorem Tbs.nx {K : PySem.W.Frag} {H : Hp} {t : TA2} {a : Addr} (T : Tbs H) (Tp : Tape K H t) (h : H a = none) : nx t a :=
  ⟨Tp.ne h, fun p hp e => by obtain ⟨ps, q⟩ := T.at hp; rw [e, h] at q; cases q⟩
/-- another thing is changed -/
theorem Tbs.put {H : Hp} {a : Addr} {o : HO} (T : Tbs H) (n : ∀ p ∈ TB.T, p.1 ≠ a) (hc : ∀ c q, H a ≠ some (LamX.CodeO c q)) : Tbs (upd H a o) := fun p hp => by
  obtain ⟨ps, h1, h2, h3⟩ := T p hp
  refine ⟨ps, by rw [upd_ne (n p hp)]; exact h1, h2, fun pos cv hcv => ?_⟩
  obtain ⟨c, e1, e2⟩ := h3 pos cv hcv
  exact ⟨c, e1, by rw [upd_ne (fun z => by subst z; exact hc _ _ e2)]; exact e2⟩
theorem lst_code {xs : List V} {c : Addr} {q : Str} : HO.lst xs ≠ LamX.CodeO c q := fun z => by unfold LamX.CodeO at z; cases z
def RelS (C : Cd) (ρ : Ro) (σ : L2.St) (H : Hp) (v : V) : D → Prop
  | .p d => Dt (wo (bad C ρ σ) H) v d
  | .own ds => ∃ p vs, v = .ref p ∧ H p = some (.lst vs) ∧ DtAll (wo (bad C ρ σ) H) vs ds ∧ (C.H0 p = none ∧ ¬ C.F p) ∧ ds.length ≤ sizeLine
  | .nw _ => False
  | .tape => v = .ref C.t.1
  | .ot _ => True
  | .nt _ => False
  | .fv f F => v = .ref f ∧ wo (bad C ρ σ) H f = some (NdefX.FnO f F) ∧ wo (bad C ρ σ) H F.c = some (LamX.CodeO F.c F.qual)
/-- the trees stand apart -/
structure Trees (C : Cd) (ρ : Ro) (σ : L2.St) (H : Hp) (φ : Nat → List Addr) : Prop where
  rel : ∀ i m, ρ[i]? = some (some (.ot m)) → ∃ v, σ[i]? = some (some v) ∧ RelM H (bad C ρ σ) v m (φ i) ∧ ∀ b ∈ φ i, C.G b
  dis : ∀ i j m n b, ρ[i]? = some (some (.ot m)) → ρ[j]? = some (some (.ot n)) → i ≠ j → b ∈ φ i → b ∉ φ j
structure Rep (K : PySem.W.Frag) (C : Cd) (ρ : Ro) (σ : L2.St) (H : Hp) : Prop where
  len : ρ.length = σ.length
  val : ∀ (i : Nat) x, ρ[i]? = some (some x) → ∃ v, σ[i]? = some (some v) ∧ RelS C ρ σ H v x
  dis : ∀ (i j : Nat) b ds es, ρ[i]? = some (some (.own ds)) → ρ[j]? = some (some (.own es)) → σ[i]? = some (some (.ref b)) → σ[j]? = some (some (.ref b)) → i = j
  tp : Tape K H C.t
  ext : Kq C.t C.H0 H
  s1 : C.S0 C.t.1
  s2 : C.S0 C.t.2
  s0 : ∀ b, C.S0 b → ∃ o, H b = some o
  f0 : ∀ b, C.F b → ∃ o, H b = some o
  s00 : ∀ b, C.S0 b → ∃ o, C.H0 b = some o
  pin : ∀ q ∈ C.pins, Dt (wo (bad C ρ σ) H) q.1 q.2
  tin : ∀ q ∈ C.tups, TupG H q.1 q.2
  s3 : ∀ p ∈ TB.T, C.S0 p.1
  tab : Tbs H
  tre : ∃ φ, Trees C ρ σ H φ
  g0 : ∀ b, C.G b → (∃ o, H b = some o) ∧ C.H0 b = none ∧ ¬ C.F b ∧ ¬ ownAt ρ σ b
def RelE (C : Cd) (ρ : Ro) (σ : L2.St) (H H' : Hp) (v : V) : D → Prop
  | .p d => Dt (wo (bad C ρ σ) H') v d
  | .own ds => ∃ i : Nat, ρ[i]? = some (some (.own ds)) ∧ σ[i]? = some (some v)
  | .nw ds => ∃ p vs, v = .ref p ∧ H p = none ∧ H' p = some (.lst vs) ∧ DtAll (wo (fun b => bad C ρ σ b ∨ b = p) H') vs ds ∧ ds.length ≤ sizeLine
  | .tape => v = .ref C.t.1
  | .ot m => ∃ i : Nat, ρ[i]? = some (some (.ot m)) ∧ σ[i]? = some (some v)
  | .nt m => ∃ f, (∀ b ∈ f, H b = none) ∧ RelM H' (fun b => bad C ρ σ b ∨ b ∈ f) v m f
  | .fv f F => v = .ref f ∧ wo (bad C ρ σ) H' f = some (NdefX.FnO f F) ∧ wo (bad C ρ σ) H' F.c = some (LamX.CodeO F.c F.qual)
section
variable {K : PySem.W.Frag} {C : Cd} {ρ : Ro} {σ : L2.St} {H H1 H2 H' : Hp} {v : V} {x : D}
theorem Rep.t1 (R : Rep K C ρ σ H) {a : Addr} (h : H a = none) : nx C.t a := R.tab.nx R.tp h
theorem Rep.badT (R : Rep K C ρ σ H) : bad C ρ σ C.t.1 := .inl R.s1
theorem Rep.nxb (R : Rep K C ρ σ H) {b : Addr} (n : ¬ bad C ρ σ b) : nx C.t b := ⟨fun z => n (z ▸ R.badT), fun p hp z => n (z ▸ .inl (R.s3 p hp))⟩
/-- bad places hold something -/
theorem Rep.badL (R : Rep K C ρ σ H) {b : Addr} (h : bad C ρ σ b) : ∃ o, H b = some o := by
  rcases h with h | h | ⟨i, ds, h1, h2⟩ | h
  · exact R.s0 b h
  · exact R.f0 b h
  · obtain ⟨v, e, p, vs, rfl, hp, _⟩ := R.val i _ h1
    rw [h2] at e; cases e
    exact ⟨_, hp⟩
  · exact (R.g0 b h).1
theorem Rep.badN (R : Rep K C ρ σ H) {b : Addr} (h : H b = none) : ¬ bad C ρ σ b := fun z => by
  obtain ⟨xs, e⟩ := R.badL z
  rw [h] at e; cases e
theorem Rep.kp (R : Rep K C ρ σ H) (k : Kq C.t H H') : Same (wo (bad C ρ σ) H) (wo (bad C ρ σ) H') :=
  wo_mono (fun _ z => z) fun a o n h => k a o (R.nxb n) h
theorem RelE.mono (R : Rep K C ρ σ H) (k1 : Kq C.t H H1) (k : Kq C.t H1 H2) (h : RelE C ρ σ H H1 v x) : RelE C ρ σ H H2 v x := by
  have s : Same (wo (bad C ρ σ) H1) (wo (bad C ρ σ) H2) := wo_mono (fun _ z => z) fun a o n e => k a o (R.nxb n) e
  cases x with
  | p d => exact Dt.mono s h
  | own ds => exact h
  | nw ds =>
    obtain ⟨p, vs, rfl, h1, h2, h3, h4⟩ := h
    exact ⟨p, vs, rfl, h1, k p _ (R.t1 h1) h2, DtAll.mono (wo_mono (fun _ z => z) fun a o n e => k a o (R.nxb fun z => n (.inl z)) e) h3, h4⟩
  | tape => exact h
  | ot m => exact h
  | nt m =>
    obtain ⟨f, h1, h2⟩ := h
    exact ⟨f, h1, h2.mono (wo_mono (fun _ z => z) fun a o n e => k a o (R.nxb fun z => n (.inl z)) e) fun b hb o e => k b o (R.t1 (h1 b hb)) e⟩
  | fv f F => exact ⟨h.1, s _ _ h.2.1, s _ _ h.2.2⟩
theorem RelE.back (k : Kq C.t H H1) (R1 : Rep K C ρ σ H1) (h : RelE C ρ σ H1 H2 v x) : RelE C ρ σ H H2 v x := by
  have fr : ∀ p, H1 p = none → H p = none := fun p h1 => by
    cases q : H p with
    | none => rfl
    | some o => rw [k p o (R1.t1 h1) q] at h1; cases h1
  cases x with
  | p d => exact h
  | own ds => exact h
  | nw ds =>
    obtain ⟨p, vs, rfl, h1, h2⟩ := h
    exact ⟨p, vs, rfl, fr p h1, h2⟩
  | tape => exact h
  | ot m => exact h
  | nt m =>
    obtain ⟨f, h1, h2⟩ := h
    exact ⟨f, fun b hb => fr b (h1 b hb), h2⟩
  | fv f F => exact h
end
end
end My
namespace My
open PySem PySem.Spec PyProof.Rows L2
variable [TB]

/-! ### readings over data -/
abbrev TED := Ro → (D → Prop) → Prop
abbrev TTD := Ro → (Bool → Prop) → Prop
abbrev TAD := Ro → (List D → Prop) → Prop
def up (K : PySem.W.Frag) (t : TED) : TE := fun σ H Q => ∃ C ρ Qd, Rep K C ρ σ H ∧ t ρ Qd ∧ ∀ v H' x, Rep K C ρ σ H' → Kq C.t H H' → RelE C ρ σ H H' v x → Qd x → Q v H'
def upT (K : PySem.W.Frag) (t : TTD) : TT := fun σ H Q => ∃ C ρ Qd, Rep K C ρ σ H ∧ t ρ Qd ∧ ∀ b H', Rep K C ρ σ H' → Kq C.t H H' → Qd b → Q b H'
def upA (K : PySem.W.Frag) (t : TAD) : TA := fun σ H Q => ∃ C ρ Qd, Rep K C ρ σ H ∧ t ρ Qd ∧ ∀ vs H' xs, Rep K C ρ σ H' → Kq C.t H H' → Paired (RelE C ρ σ H H') vs xs → Qd xs → Q vs H'
abbrev FE (X : Cx) (e : Expr) (t : TED) : Prop := PE X e (up X.K t)
abbrev FT (X : Cx) (e : Expr) (t : TTD) : Prop := PT X e (upT X.K t)
abbrev FW (X : Cx) (e : Expr) (t : TTD) : Prop := PW X e (upT X.K t)
abbrev FA (X : Cx) (es : List Expr) (t : TAD) : Prop := PA X es (upA X.K t)
section
variable {X : Cx}
theorem _root_.L2.PE.mo {e : Expr} {t t' : TE} (h : PE X e t) (m : ∀ σ H Q, t' σ H Q → t σ H Q) : PE X e t' := ⟨fun pins s σ H Q I hw => h.run pins s σ H Q I (m σ H Q hw)⟩
theorem _root_.L2.PT.mo {e : Expr} {t t' : TT} (h : PT X e t) (m : ∀ σ H Q, t' σ H Q → t σ H Q) : PT X e t' := ⟨fun pins s σ H Q I hw => h.run pins s σ H Q I (m σ H Q hw)⟩
theorem _root_.L2.PW.mo {e : Expr} {t t' : TT} (h : PW X e t) (m : ∀ σ H Q, t' σ H Q → t σ H Q) : PW X e t' := ⟨fun wh pins s σ H Q I hw => h.run wh pins s σ H Q I (m σ H Q hw)⟩
theorem _root_.L2.PA.mo {es : List Expr} {t t' : TA} (h : PA X es t) (m : ∀ σ H Q, t' σ H Q → t σ H Q) : PA X es t' := ⟨fun po pins s σ H Q I hw => h.run po pins s σ H Q I (m σ H Q hw)⟩
theorem _root_.L2.PS.mo {st : Stmt} {t t' : TS} (h : PS X st t) (m : ∀ D σ H, t' D σ H → t D σ H) : PS X st t' := ⟨fun pins s σ H D I hw => h.run pins s σ H D I (m D σ H hw)⟩
theorem _root_.L2.PSs.mo {st : List Stmt} {t t' : TS} (h : PSs X st t) (m : ∀ D σ H, t' D σ H → t D σ H) : PSs X st t' := ⟨fun pins s σ H D I hw => h.run pins s σ H D I (m D σ H hw)⟩
end
section
variable {K : PySem.W.Frag} {C : Cd} {ρ : Ro} {σ : L2.St} {H H1 H2 H' : Hp} {v : V} {x : D}
theorem RelS.toE (h : RelS C ρ σ H v x) (H0 : Hp) {i : Nat} (e1 : ρ[i]? = some (some x)) (e2 : σ[i]? = some (some v)) : RelE C ρ σ H0 H v x := by
  cases x with
  | p d => exact h
  | own ds => exact ⟨i, e1, e2⟩
  | nw ds => exact h.elim
  | tape => exact h
  | ot m => exact ⟨i, e1, e2⟩
  | nt m => exact h.elim
  | fv f F => exact h
/-- what is at the slots goes on -/
theorem RelS.mono {C' : Cd} {ρ' : Ro} {σ' : L2.St} {w : V} {y : D} (h : RelS C ρ σ H w y) (ht : C'.t = C.t) (hF : ∀ p, C.H0 p = none → ¬ C.F p → C'.H0 p = none ∧ ¬ C'.F p ∨ ∀ ds, y ≠ .own ds) (s : Same (wo (bad C ρ σ) H) (wo (bad C' ρ' σ') H')) (k : ∀ p vs ds, y = .own ds → w = .ref p → H p = some (.lst vs) → H' p = some (.lst vs)) : RelS C' ρ' σ' H' w y := by
  cases y with
  | p d => exact Dt.mono s h
  | own ds =>
    obtain ⟨q, vs, rfl, h3, h4, h5, h6⟩ := h
    rcases hF q h5.1 h5.2 with z | z
    · exact ⟨q, vs, rfl, k q vs ds rfl rfl h3, DtAll.mono s h4, z, h6⟩
    · exact (z ds rfl).elim
  | nw ds => exact h
  | tape => exact h.trans (by rw [ht])
  | ot m => trivial
  | nt m => exact h
  | fv f F => exact ⟨h.1, s _ _ h.2.1, s _ _ h.2.2⟩
theorem Trees.mono {C' : Cd} {H' : Hp} {φ : Nat → List Addr} (T : Trees C ρ σ H φ) (s : Same (wo (bad C ρ σ) H) (wo (bad C' ρ σ) H')) (k : ∀ b o, C.G b → H b = some o → H' b = some o) (g : ∀ b, C.G b → C'.G b) : Trees C' ρ σ H' φ :=
  ⟨fun i m e => let ⟨v, h1, h2, h3⟩ := T.rel i m e; ⟨v, h1, h2.mono s fun b hb o q => k b o (h3 b hb) q, fun b hb => g b (h3 b hb)⟩, T.dis⟩
/-- a new object -/
theorem Rep.lay (R : Rep K C ρ σ H) {p : Addr} {o : HO} (hp : H p = none) : Rep K C ρ σ (upd H p o) where
  len := R.len
  val := fun i y e => by
    obtain ⟨v, h1, h2⟩ := R.val i y e
    exact ⟨v, h1, h2.mono rfl (fun _ a b => .inl ⟨a, b⟩) (R.kp (Kq.new hp)) fun q vs ds _ _ h => by rw [upd_ne (ne_of_none h hp)]; exact h⟩
  dis := R.dis
  tp := R.tp.new hp
  ext := R.ext.trans (Kq.new hp)
  s1 := R.s1
  s2 := R.s2
  s0 := fun b hb => by
    obtain ⟨xs, e⟩ := R.s0 b hb
    exact ⟨xs, by rw [upd_ne (ne_of_none e hp)]; exact e⟩
  f0 := fun b hb => by
    obtain ⟨xs, e⟩ := R.f0 b hb
    exact ⟨xs, by rw [upd_ne (ne_of_none e hp)]; exact e⟩
  s00 := R.s00
  pin := fun q hq => Dt.mono (R.kp (Kq.new hp)) (R.pin q hq)
  tin := fun q hq => (R.tin q hq).kt fun o e => by rw [upd_ne (ne_of_none e hp)]; exact e
  s3 := R.s3
  tab := R.tab.new hp
  tre := let ⟨φ, T⟩ := R.tre; ⟨φ, T.mono (R.kp (Kq.new hp)) (fun b o _ e => by rw [upd_ne (ne_of_none e hp)]; exact e) fun _ z => z⟩
  g0 := fun b hb => let ⟨⟨o, e⟩, r⟩ := R.g0 b hb; ⟨⟨o, by rw [upd_ne (ne_of_none e hp)]; exact e⟩, r⟩
/-- a list's place, its items -/
theorem Rep.ofOwn (R : Rep K C ρ σ H') {ds : List PyData} (h : RelE C ρ σ H H' v (.own ds)) : ∃ p vs, v = .ref p ∧ H' p = some (.lst vs) ∧ DtAll (wo (bad C ρ σ) H') vs ds ∧ ownAt ρ σ p ∧ ds.length ≤ sizeLine := by
  obtain ⟨i, h1, h2⟩ := h
  obtain ⟨w, h3, p, vs, rfl, h4, h5, h6, h7⟩ := R.val i _ h1
  rw [h2] at h3
  cases h3
  exact ⟨p, vs, rfl, h4, h5, ⟨i, ds, h1, h2⟩, h7⟩
/-- a tree at a slot -/
theorem Rep.ofTree (R : Rep K C ρ σ H') {m : M} (h : RelE C ρ σ H H' v (.ot m)) : ∃ f, RelM H' (bad C ρ σ) v m f ∧ ∀ b ∈ f, C.G b := by
  obtain ⟨i, h1, h2⟩ := h
  obtain ⟨φ, T⟩ := R.tre
  obtain ⟨w, h3, h4, h5⟩ := T.rel i m h1
  rw [h2] at h3
  cases h3
  exact ⟨φ i, h4, h5⟩
theorem nw_dt {vs : List V} {ds : List PyData} {p : Addr} (h : DtAll (wo (fun b => bad C ρ σ b ∨ b = p) H') vs ds) : DtAll (wo (bad C ρ σ) H') vs ds :=
  DtAll.mono (wo_mono (fun _ z => .inl z) fun _ _ _ e => e) h
theorem Rep.lstOf (R : Rep K C ρ σ H') {ds : List PyData} (h : RelE C ρ σ H H' v x) (e : x.ls = some ds) : ∃ p vs, v = .ref p ∧ H' p = some (.lst vs) ∧ DtAll (wo (bad C ρ σ) H') vs ds := by
  cases x with
  | p d =>
    cases d with
    | list es =>
      cases e
      cases h with
      | lst h1 h2 => exact ⟨_, _, rfl, (wo_of h1).2, h2⟩
    | _ => cases e
  | own es =>
    cases e
    obtain ⟨p, vs, h1, h2, h3, _⟩ := R.ofOwn h
    exact ⟨p, vs, h1, h2, h3⟩
  | nw es =>
    cases e
    obtain ⟨p, vs, h1, _, h2, h3, _⟩ := h
    exact ⟨p, vs, h1, h2, nw_dt h3⟩
  | _ => cases e
theorem TupG.mo {S : Addr → Prop} {a : Addr} {xs : List V} (h : TupG (wo S H) a xs) : TupG H a xs := h.kt fun _ e => (wo_of e).2
theorem Rep.sqOf (R : Rep K C ρ σ H') {ds : List PyData} (h : RelE C ρ σ H H' v x) (e : x.sq = some ds) : ∃ p vs, v = .ref p ∧ (SqL K H' p vs ∨ SqT K H' p vs) ∧ DtAll (wo (bad C ρ σ) H') vs ds := by
  cases q : x.ls with
  | some es =>
    have e2 : es = ds := by
      cases x with
      | p d => cases d <;> simp [D.ls, D.sq] at q e <;> rw [← q, ← e]
      | own fs => simp [D.ls, D.sq] at q e; rw [← q, ← e]
      | nw fs => simp [D.ls, D.sq] at q e; rw [← q, ← e]
      | _ => simp [D.sq] at e
    subst e2
    obtain ⟨p, vs, h1, h2, h3⟩ := R.lstOf h q
    exact ⟨p, vs, h1, .inl (SqL.of h2), h3⟩
  | none =>
    cases x with
    | p d =>
      cases d <;> simp [D.ls, D.sq] at q e
      subst e
      cases h with
      | tup h1 h2 => exact ⟨_, _, rfl, .inr h1.mo.sq, h2⟩
    | own fs => simp [D.ls] at q
    | nw fs => simp [D.ls] at q
    | _ => simp [D.sq] at e
theorem Rep.tupOf (R : Rep K C ρ σ H') {ds : List PyData} (h : RelE C ρ σ H H' v (.p (.tuple ds))) : ∃ p vs, v = .ref p ∧ TupG H' p vs ∧ DtAll (wo (bad C ρ σ) H') vs ds := by
  cases h with
  | tup h1 h2 => exact ⟨_, _, rfl, h1.mo, h2⟩
theorem Rep.ntDt (R : Rep K C ρ σ H) {m : M} (h : RelE C ρ σ H H' v (.nt m)) : Dt (wo (bad C ρ σ) H') v m.dat := by
  obtain ⟨f, h1, h2⟩ := h
  exact h2.dt (fun _ z => .inl z) fun b hb => R.badN (h1 b hb)
/-- as data, now -/
theorem Rep.datOf (R : Rep K C ρ σ H') {d : PyData} (h : RelE C ρ σ H H' v x) (e : x.dat = some d) : Dt H' v d := by
  cases x with
  | p d => cases e; exact Dt.mono wo_same h
  | own ds =>
    cases e
    obtain ⟨p, vs, rfl, h2, h3, _⟩ := R.ofOwn h
    exact .lst h2 (DtAll.mono wo_same h3)
  | nw ds =>
    cases e
    obtain ⟨p, vs, rfl, _, h2, h3, _⟩ := h
    exact .lst h2 (DtAll.mono wo_same h3)
  | tape => cases e
  | ot m =>
    obtain rfl := D.dat_ot e
    obtain ⟨f, h1, _⟩ := R.ofTree h
    exact Dt.mono wo_same (h1.dt (B' := fun _ => False) (fun _ z => z.elim) fun _ _ z => z)
  | nt m =>
    obtain rfl := D.dat_nt e
    obtain ⟨f, _, h2⟩ := h
    exact Dt.mono wo_same (h2.dt (B' := fun _ => False) (fun _ z => z.elim) fun _ _ z => z)
  | fv f F => cases e
/-- as data that stays -/
theorem Rep.stOf (R : Rep K C ρ σ H) {d : PyData} (h : RelE C ρ σ H H' v x) (e : x.st = some d) : Dt (wo (bad C ρ σ) H') v d := by
  cases x with
  | p d => cases e; exact h
  | own ds => cases e
  | nw ds =>
    cases e
    obtain ⟨p, vs, rfl, h1, h2, h3, _⟩ := h
    exact .lst (wo_mk (R.badN h1) h2) (nw_dt h3)
  | tape => cases e
  | ot m => cases e
  | nt m => cases e; exact R.ntDt h
  | fv f F => cases e
theorem rel_int {i : Int} (h : RelE C ρ σ H H' v (.p (.int i))) : v = .int i := by cases h; rfl
theorem rel_str {i : Str} (h : RelE C ρ σ H H' v (.p (.str i))) : v = .str i := by cases h; rfl
theorem rel_bl {i : Bool} (h : RelE C ρ σ H H' v (.p (.bool i))) : v = .bl i := by cases h; rfl
theorem rel_non (h : RelE C ρ σ H H' v (.p .none)) : v = .non := by cases h; rfl
end

/-! ### names and constants -/
section
variable {X : Cx} {pos : Pos}
def dVar (i : Nat) : TED := fun ρ Q => ∃ x, ρ[i]? = some (some x) ∧ Q x
def dC (d : PyData) : TED := fun _ Q => Q (.p d)
theorem fe_var {e : Expr} {i : Nat} (h : PE X e (tVar i)) : FE X e (dVar i) := by
  refine h.mo ?_
  rintro σ H Q ⟨C, ρ, Qd, R, ⟨x, e, q⟩, post⟩
  obtain ⟨v, h1, h2⟩ := R.val i x e
  exact ⟨v, h1, post v H x R (Kq.refl _ _) (h2.toE H e h1) q⟩
theorem fe_c {e : Expr} {v : V} {d : PyData} (h : PE X e (tC v)) (hd : ∀ H, Dt H v d) : FE X e (dC d) := by
  refine h.mo ?_
  rintro σ H Q ⟨C, ρ, Qd, R, q, post⟩
  exact post v H (.p d) R (Kq.refl _ _) (hd _) q
theorem fe_int {i j pos} : FE X (.Constant (.int i) j pos) (dC (.int i)) := fe_c pe_int fun _ => .int _
theorem fe_bl {i j pos} : FE X (.Constant (.bool i) j pos) (dC (.bool i)) := fe_c pe_bl fun _ => .bl _
theorem fe_non {j pos} : FE X (.Constant .none j pos) (dC .none) := fe_c pe_non fun _ => .non
theorem fe_str {i j pos} : FE X (.Constant (.str i) j pos) (dC (.str i)) := fe_c pe_str fun _ => .str _

/-! ### rules by values, over data -/
/-- what a rule by values does over data -/
def Li1 (K : PySem.W.Frag) (r : V → Hp → VK → Prop) (rd : D → (D → Prop) → Prop) : Prop := ∀ C ρ σ H0 H v x Qd Q, Rep K C ρ σ H → Kq C.t H0 H → RelE C ρ σ H0 H v x → rd x Qd →
  (∀ v' H' z, Rep K C ρ σ H' → Kq C.t H H' → RelE C ρ σ H H' v' z → Qd z → Q v' H') → r v H Q
def Li2 (K : PySem.W.Frag) (r : R2) (rd : D → D → (D → Prop) → Prop) : Prop := ∀ C ρ σ H0 H v u x y Qd Q, Rep K C ρ σ H → Kq C.t H0 H → RelE C ρ σ H0 H v x → RelE C ρ σ H0 H u y → rd x y Qd →
  (∀ v' H' z, Rep K C ρ σ H' → Kq C.t H H' → RelE C ρ σ H H' v' z → Qd z → Q v' H') → r v u H Q
def LiL (K : PySem.W.Frag) (r : List V → Hp → VK → Prop) (rd : List D → (D → Prop) → Prop) : Prop := ∀ C ρ σ H0 H vs xs Qd Q, Rep K C ρ σ H → Kq C.t H0 H → Paired (RelE C ρ σ H0 H) vs xs → rd xs Qd →
  (∀ v' H' z, Rep K C ρ σ H' → Kq C.t H H' → RelE C ρ σ H H' v' z → Qd z → Q v' H') → r vs H Q
def dOp (rd : D → D → (D → Prop) → Prop) (ta tb : TED) : TED := fun ρ Q => ta ρ fun x => tb ρ fun y => rd x y Q
def dUn (rd : D → (D → Prop) → Prop) (ta : TED) : TED := fun ρ Q => ta ρ fun x => rd x Q
theorem up_op {K : PySem.W.Frag} {r : R2} {rd : D → D → (D → Prop) → Prop} {ta tb : TED} (l : Li2 K r rd) : ∀ σ H Q, up K (dOp rd ta tb) σ H Q → tOp r (up K ta) (up K tb) σ H Q := by
  rintro σ H Q ⟨C, ρ, Qd, R, h, post⟩
  refine ⟨C, ρ, _, R, h, fun v H1 x R1 k1 e1 h1 => ⟨C, ρ, _, R1, h1, fun u H2 y R2 k2 e2 h2 => ?_⟩⟩
  exact l C ρ σ H H2 v u x y Qd Q R2 (k1.trans k2) (e1.mono R k1 k2) (e2.back k1 R1) h2 fun v' H3 z R3 k3 e3 q => post v' H3 z R3 ((k1.trans k2).trans k3) (e3.back (k1.trans k2) R2) q
theorem up_un {K : PySem.W.Frag} {r : V → Hp → VK → Prop} {rd : D → (D → Prop) → Prop} {ta : TED} (l : Li1 K r rd) : ∀ σ H Q, up K (dUn rd ta) σ H Q → tUn r (up K ta) σ H Q := by
  rintro σ H Q ⟨C, ρ, Qd, R, h, post⟩
  refine ⟨C, ρ, _, R, h, fun v H1 x R1 k1 e1 h1 => ?_⟩
  exact l C ρ σ H H1 v x Qd Q R1 k1 e1 h1 fun v' H3 z R3 k3 e3 q => post v' H3 z R3 (k1.trans k3) (e3.back k1 R1) q
variable {a b : Expr} {ta tb : TED}
theorem fe_op {op : Operator} {r : R2} {rd : D → D → (D → Prop) → Prop} (ho : OpR X (binaryOp op) r) (l : Li2 X.K r rd) (ha : FE X a ta) (hb : FE X b tb) : FE X (.BinOp a op b pos) (dOp rd ta tb) :=
  (pe_op ho ha hb).mo (up_op l)
theorem fe_un {op : UnaryOp} {r : V → Hp → VK → Prop} {rd : D → (D → Prop) → Prop} (ho : UnR X (unaryOp op) r) (l : Li1 X.K r rd) (ha : FE X a ta) : FE X (.UnaryOp op a pos) (dUn rd ta) :=
  (pe_un ho ha).mo (up_un l)
theorem fe_cmp {op : CmpOp} {r : R2} {rd : D → D → (D → Prop) → Prop} (ho : OpR X (compareOp op) r) (l : Li2 X.K r rd) (ha : FE X a ta) (hb : FE X b tb) (hm : behindInMarks op b = false) : FE X (.Compare a [op] [b] pos) (dOp rd ta tb) :=
  (pe_cmpR ho ha hb hm).mo (up_op l)
def dTest (t : TED) : TTD := fun ρ Q => t ρ fun x => ∃ k, x = .p (.bool k) ∧ Q k
theorem up_test {K : PySem.W.Frag} {t : TED} : ∀ σ H Q, upT K (dTest t) σ H Q → up K t σ H fun x H' => ∃ k, x = .bl k ∧ Q k H' := by
  rintro σ H Q ⟨C, ρ, Qd, R, h, post⟩
  refine ⟨C, ρ, _, R, h, ?_⟩
  rintro v H' x R' k e ⟨c, rfl, q⟩
  exact ⟨c, rel_bl e, post c H' R' k q⟩
theorem ft_cmp {op : CmpOp} {r : R2} {rd : D → D → (D → Prop) → Prop} (ho : OpR X (compareOp op) r) (l : Li2 X.K r rd) (ha : FE X a ta) (hb : FE X b tb) (hm : behindInMarks op b = false) : FT X (.Compare a [op] [b] pos) (dTest (dOp rd ta tb)) := by
  refine (pt_cmpR ho ha hb hm).mo fun σ H Q h => ?_
  exact up_op l σ H _ (up_test σ H Q h)
theorem ft_val (h : FE X a ta) (he : ∀ whole, isTrue a X.env whole = (do let v ← whole; standAt a.pos; holding [v] (truthy v)) := by intro _; rfl) : FT X a (dTest ta) :=
  (pt_val h he).mo fun σ H Q h => up_test σ H Q h
/-- truth by what it is -/
def D.tru : D → Option Bool
  | .p .none => some false | .p (.bool b) => some b | .p (.int i) => some (i != 0)
  | .p (.str z) => some (((z.length : Nat) : Int) != 0) | .p (.list ds) => some (!ds.isEmpty) | .p (.tuple ds) => some (!ds.isEmpty) | .own ds => some (!ds.isEmpty) | .nw ds => some (!ds.isEmpty) | _ => none
def D.tok : D → Prop
  | .p (.str z) => z.length ≤ sizeLine | _ => True
def dTru (t : TED) : TTD := fun ρ Q => t ρ fun x => ∃ k, x.tru = some k ∧ x.tok ∧ Q k
theorem DtAll.emp {H : Hp} {vs : List V} {ds : List PyData} (h : DtAll H vs ds) : vs.isEmpty = ds.isEmpty := by cases h <;> rfl
theorem ft_tru (h : FE X a ta) (he : ∀ whole, isTrue a X.env whole = (do let v ← whole; standAt a.pos; holding [v] (truthy v)) := by intro _; rfl) : FT X a (dTru ta) := by
  refine (pt_truth h he).mo ?_
  rintro σ H Q ⟨C, ρ, Qd, R, h, post⟩
  refine ⟨C, ρ, _, R, h, ?_⟩
  rintro v H' x R' k e ⟨c, ht, hk, q⟩
  refine ⟨c, ?_, post c H' R' k q⟩
  cases x with
  | p d =>
    cases e with
    | non => cases ht; rfl
    | bl b => cases ht; rfl
    | int i => cases ht; rfl
    | str z => cases ht; exact ⟨hk, rfl⟩
    | tup h1 h2 => cases ht; exact .inr (.inl ⟨_, h1.mo.sq, by rw [h2.emp]⟩)
    | lst h1 h2 => cases ht; exact .inl ⟨_, SqL.of (wo_of h1).2, by rw [h2.emp]⟩
    | dic h1 h2 h3 h4 => cases ht
  | own ds =>
    obtain ⟨p, vs, rfl, h2, h3, _⟩ := R'.ofOwn e
    cases ht
    exact .inl ⟨_, SqL.of h2, by rw [h3.emp]⟩
  | nw ds =>
    obtain ⟨p, vs, rfl, _, h2, h3, _⟩ := e
    cases ht
    exact .inl ⟨_, SqL.of h2, by rw [h3.emp]⟩
  | tape => cases ht
  | ot m => cases ht
  | nt m => cases ht
  | fv f F => cases ht
def dNotT (t : TTD) : TTD := fun ρ Q => t ρ fun c => Q (!c)
def dAndT (t u : TTD) : TTD := fun ρ Q => t ρ fun c => if c = true then u ρ Q else Q false
def dOrT (t u : TTD) : TTD := fun ρ Q => t ρ fun c => if c = true then Q true else u ρ Q
variable {tA tB' : TTD} {rest : List Expr}
theorem ft_not (ha : FT X a tA) : FT X (.UnaryOp .Not a pos) (dNotT tA) := by
  refine (pt_not ha).mo ?_
  rintro σ H Q ⟨C, ρ, Qd, R, h, post⟩
  exact ⟨C, ρ, _, R, h, fun b H' R' k q => post _ H' R' k q⟩
theorem FW.ft (h : FW X a tA) : FT X a tA := PW.pt h
theorem fw_and1 (ha : FT X a tA) : FW X (.BoolOp .And [a] pos) tA := pw_and1 ha
theorem fw_or1 (ha : FT X a tA) : FW X (.BoolOp .Or [a] pos) tA := pw_or1 ha
theorem fw_and (ha : FT X a tA) (hb : FW X (.BoolOp .And (b :: rest) pos) tB') : FW X (.BoolOp .And (a :: b :: rest) pos) (dAndT tA tB') := by
  refine (pw_and ha hb).mo ?_
  rintro σ H Q ⟨C, ρ, Qd, R, h, post⟩
  refine ⟨C, ρ, _, R, h, fun c H1 R1 k1 q => ?_⟩
  cases c with
  | true => exact ⟨C, ρ, _, R1, by simpa using q, fun d H2 R2 k2 q2 => post d H2 R2 (k1.trans k2) q2⟩
  | false => exact post false H1 R1 k1 (by simpa using q)
theorem fw_or (ha : FT X a tA) (hb : FW X (.BoolOp .Or (b :: rest) pos) tB') : FW X (.BoolOp .Or (a :: b :: rest) pos) (dOrT tA tB') := by
  refine (pw_or ha hb).mo ?_
  rintro σ H Q ⟨C, ρ, Qd, R, h, post⟩
  refine ⟨C, ρ, _, R, h, fun c H1 R1 k1 q => ?_⟩
  cases c with
  | false => exact ⟨C, ρ, _, R1, by simpa using q, fun d H2 R2 k2 q2 => post d H2 R2 (k1.trans k2) q2⟩
  | true => exact post true H1 R1 k1 (by simpa using q)
/-- and, or, not, if as values -/
def dNotV (ta : TED) : TED := fun ρ Q => ta ρ fun x => ∃ c, x = .p (.bool c) ∧ Q (.p (.bool (!c)))
def dAndV (ta tb : TED) : TED := fun ρ Q => ta ρ fun x => ∃ c, x = .p (.bool c) ∧ if c = true then tb ρ Q else Q (.p (.bool false))
def dOrV (ta tb : TED) : TED := fun ρ Q => ta ρ fun x => ∃ c, x = .p (.bool c) ∧ if c = true then Q (.p (.bool true)) else tb ρ Q
def dIfE (t : TTD) (ta tb : TED) : TED := fun ρ Q => t ρ fun c => if c = true then ta ρ Q else tb ρ Q
theorem fe_not (ha : FE X a ta) : FE X (.UnaryOp .Not a pos) (dNotV ta) := by
  refine (pe_not ha).mo ?_
  rintro σ H Q ⟨C, ρ, Qd, R, h, post⟩
  refine ⟨C, ρ, _, R, h, ?_⟩
  rintro v H' x R' k e ⟨c, rfl, q⟩
  exact ⟨c, rel_bl e, post _ H' (.p (.bool (!c))) R' k (.bl _) q⟩
theorem fe_one {op} (ha : FE X a ta) : FE X (.BoolOp op [a] pos) ta := pe_one ha
theorem fe_and (ha : FE X a ta) (hb : FE X (.BoolOp .And (b :: rest) pos) tb) : FE X (.BoolOp .And (a :: b :: rest) pos) (dAndV ta tb) := by
  refine (pe_and ha hb).mo ?_
  rintro σ H Q ⟨C, ρ, Qd, R, h, post⟩
  refine ⟨C, ρ, _, R, h, ?_⟩
  rintro v H1 x R1 k1 e ⟨c, rfl, q⟩
  refine ⟨c, rel_bl e, ?_⟩
  cases c with
  | true => exact ⟨C, ρ, _, R1, by simpa using q, fun d H2 x R2 k2 e2 q2 => post d H2 x R2 (k1.trans k2) (e2.back k1 R1) q2⟩
  | false => exact post _ H1 (.p (.bool false)) R1 k1 (.bl _) (by simpa using q)
theorem fe_or (ha : FE X a ta) (hb : FE X (.BoolOp .Or (b :: rest) pos) tb) : FE X (.BoolOp .Or (a :: b :: rest) pos) (dOrV ta tb) := by
  refine (pe_or ha hb).mo ?_
  rintro σ H Q ⟨C, ρ, Qd, R, h, post⟩
  refine ⟨C, ρ, _, R, h, ?_⟩
  rintro v H1 x R1 k1 e ⟨c, rfl, q⟩
  refine ⟨c, rel_bl e, ?_⟩
  cases c with
  | false => exact ⟨C, ρ, _, R1, by simpa using q, fun d H2 x R2 k2 e2 q2 => post d H2 x R2 (k1.trans k2) (e2.back k1 R1) q2⟩
  | true => exact post _ H1 (.p (.bool true)) R1 k1 (.bl _) (by simpa using q)
theorem fe_ifE {c : Expr} (hc : FT X c tA) (ha : FE X a ta) (hb : FE X b tb) : FE X (.IfExp c a b pos) (dIfE tA ta tb) := by
  refine (pe_ifExp hc ha hb).mo ?_
  rintro σ H Q ⟨C, ρ, Qd, R, h, post⟩
  refine ⟨C, ρ, _, R, h, fun k H1 R1 k1 q => ?_⟩
  cases k with
  | true => exact ⟨C, ρ, _, R1, by simpa using q, fun d H2 x R2 k2 e2 q2 => post d H2 x R2 (k1.trans k2) (e2.back k1 R1) q2⟩
  | false => exact ⟨C, ρ, _, R1, by simpa using q, fun d H2 x R2 k2 e2 q2 => post d H2 x R2 (k1.trans k2) (e2.back k1 R1) q2⟩
/-! ### arguments, displays -/
def dNil : TAD := fun _ Q => Q []
def dCons (ta : TED) (tr : TAD) : TAD := fun ρ Q => ta ρ fun x => tr ρ fun xs => Q (x :: xs)
theorem pmap2 {α β : Type} {F G : α → β → Prop} (f : ∀ a b, F a b → G a b) : ∀ {xs : List α} {ys : List β}, Paired F xs ys → Paired G xs ys
  | _, _, .nil => .nil
  | _, _, .cons h t => .cons (f _ _ h) (pmap2 f t)
theorem fa_nil : FA X [] dNil := by
  refine pa_nil.mo ?_
  rintro σ H Q ⟨C, ρ, Qd, R, h, post⟩
  exact post [] H [] R (Kq.refl _ _) .nil h
theorem fa_cons {es : List Expr} {t : TAD} (ha : FE X a ta) (hr : FA X es t) (hs : starEach (a :: es) X.env = (false, eval a X.env) :: starEach es X.env := by rfl) : FA X (a :: es) (dCons ta t) := by
  refine (pa_cons ha hr hs).mo ?_
  rintro σ H Q ⟨C, ρ, Qd, R, h, post⟩
  refine ⟨C, ρ, _, R, h, fun v H1 x R1 k1 e1 h1 => ⟨C, ρ, _, R1, h1, fun vs H2 xs R2 k2 e2 h2 => ?_⟩⟩
  exact post _ H2 _ R2 (k1.trans k2) (.cons (e1.mono R k1 k2) (pmap2 (fun _ _ h => h.back k1 R1) e2)) h2
/-- all of them as data that stays -/
def stAll : List D → Option (List PyData)
  | [] => some []
  | x :: xs => match x.st, stAll xs with | some d, some ds => some (d :: ds) | _, _ => none
theorem stAll_ok {K : PySem.W.Frag} {C : Cd} {ρ : Ro} {σ : L2.St} {H H' : Hp} (R : Rep K C ρ σ H) : ∀ {vs : List V} {xs : List D} {ds : List PyData}, Paired (RelE C ρ σ H H') vs xs → stAll xs = some ds → DtAll (wo (bad C ρ σ) H') vs ds
  | _, _, _, .nil, e => by cases e; exact .nil
  | _, _, _, .cons (b := x) (l₂ := xs) h t, e => by
    unfold stAll at e
    cases e1 : x.st with
    | none => simp [e1] at e
    | some d =>
      cases e2 : stAll xs with
      | none => simp [e1, e2] at e
      | some ds =>
        simp [e1, e2] at e
        subst e
        exact .cons (R.stOf h e1) (stAll_ok R t e2)
theorem Rep.newG {K : PySem.W.Frag} {C : Cd} {ρ : Ro} {σ : L2.St} {H0 H : Hp} (R : Rep K C ρ σ H) {Q : VK} {Qd : D → Prop} {vs : List V} {ds : List PyData} (h : DtAll (wo (bad C ρ σ) H) vs ds) (q : Qd (.p (.tuple ds)))
    (post : ∀ v' H' z, Rep K C ρ σ H' → Kq C.t H H' → RelE C ρ σ H H' v' z → Qd z → Q v' H') : NewG H Q vs := fun l o hl ho => by
  refine post _ _ (.p (.tuple ds)) (R.lay hl) (Kq.new hl) ?_ q
  have k := R.kp (Kq.new (o := .frz o (.tup vs)) hl)
  refine .tup ⟨o, wo_mk (R.badN hl) upd_same, ho⟩ (DtAll.mono k h)
theorem Rep.newL {K : PySem.W.Frag} {C : Cd} {ρ : Ro} {σ : L2.St} {H0 H : Hp} (R : Rep K C ρ σ H) {Q : VK} {Qd : D → Prop} {vs : List V} {ds : List PyData} (h : DtAll (wo (bad C ρ σ) H) vs ds) (hz : ds.length ≤ sizeLine) (q : Qd (.nw ds))
    (post : ∀ v' H' z, Rep K C ρ σ H' → Kq C.t H H' → RelE C ρ σ H H' v' z → Qd z → Q v' H') (p : Addr) (hp : H p = none) : Q (.ref p) (upd H p (.lst vs)) := by
  refine post _ _ (.nw ds) (R.lay hp) (Kq.new hp) ⟨p, vs, rfl, hp, upd_same, ?_, hz⟩ q
  refine DtAll.mono (fun a o e => wo_mk (fun z => ?_) (by rw [upd_ne (ne_of_none (wo_of e).2 hp)]; exact (wo_of e).2)) h
  rcases z with z | z
  · exact (wo_of e).1 z
  · exact ne_of_none (wo_of e).2 hp z
def dTup (t : TAD) : TED := fun ρ Q => t ρ fun xs => ∃ ds, stAll xs = some ds ∧ ds.length ≤ sizeLine ∧ Q (.p (.tuple ds))
def dLst (t : TAD) : TED := fun ρ Q => t ρ fun xs => ∃ ds, stAll xs = some ds ∧ ds.length ≤ sizeLine ∧ Q (.nw ds)
theorem fe_tup {es : List Expr} {t : TAD} {x1} (h : FA X es t) : FE X (.Tuple es x1 pos) (dTup t) := by
  refine (pe_tupG h).mo ?_
  rintro σ H Q ⟨C, ρ, Qd, R, h, post⟩
  refine ⟨C, ρ, _, R, h, ?_⟩
  rintro vs H1 xs R1 k1 e ⟨ds, h1, h2, q⟩
  have g := stAll_ok R e h1
  exact ⟨by rw [g.length]; exact h2, R1.newG (H0 := H) g q fun v' H' z R' k' e' q' => post v' H' z R' (k1.trans k') (e'.back k1 R1) q'⟩
theorem fe_lst {es : List Expr} {t : TAD} (h : FA X es t) : FE X (.List es pos) (dLst t) := by
  refine (pe_lst h).mo ?_
  rintro σ H Q ⟨C, ρ, Qd, R, h, post⟩
  refine ⟨C, ρ, _, R, h, ?_⟩
  rintro vs H1 xs R1 k1 e ⟨ds, h1, h2, q⟩
  have g := stAll_ok R e h1
  exact ⟨by rw [g.length]; exact h2, R1.newL (H0 := H) g h2 q fun v' H' z R' k' e' q' => post v' H' z R' (k1.trans k') (e'.back k1 R1) q'⟩
end
end My
namespace My
open PySem PySem.Spec PyProof.Rows L2
variable [TB]

/-! ### operators -/
theorem nod_shaped {d : PyData} (h : SeqAt.shaped d = true) : d.hasDict = false := PyData.hasDict_of_canLay d (SeqAt.canLay_of_shaped h)
section
variable {K : PySem.W.Frag}
def rdI (c : Int → Int → Prop) (g : Int → Int → PyData) : D → D → (D → Prop) → Prop := fun x y Q => ∃ i j, x = .p (.int i) ∧ y = .p (.int j) ∧ c i j ∧ Q (.p (g i j))
def rdI0 (g : Int → Int → PyData) : D → D → (D → Prop) → Prop := fun x y Q => ∃ i j, x = .p (.int i) ∧ y = .p (.int j) ∧ Q (.p (g i j))
theorem li_I {c : Int → Int → Prop} {g : Int → Int → Int} : Li2 K (rI c fun i j => .int (g i j)) (rdI c fun i j => .int (g i j)) := by
  rintro C ρ σ H0 H v u x y Qd Q R k e1 e2 ⟨i, j, rfl, rfl, h, q⟩ post
  exact ⟨i, j, rel_int e1, rel_int e2, h, post _ H (.p (.int _)) R (Kq.refl _ _) (.int _) q⟩
theorem li_I0 {g : Int → Int → Int} : Li2 K (rI0 fun i j => .int (g i j)) (rdI0 fun i j => .int (g i j)) := by
  rintro C ρ σ H0 H v u x y Qd Q R k e1 e2 ⟨i, j, rfl, rfl, q⟩ post
  exact ⟨i, j, rel_int e1, rel_int e2, post _ H (.p (.int _)) R (Kq.refl _ _) (.int _) q⟩
theorem li_B0 {g : Int → Int → Bool} : Li2 K (rI0 fun i j => .bl (g i j)) (rdI0 fun i j => .bool (g i j)) := by
  rintro C ρ σ H0 H v u x y Qd Q R k e1 e2 ⟨i, j, rfl, rfl, q⟩ post
  exact ⟨i, j, rel_int e1, rel_int e2, post _ H (.p (.bool _)) R (Kq.refl _ _) (.bl _) q⟩
def rdU (g : Int → Int) : D → (D → Prop) → Prop := fun x Q => ∃ i, x = .p (.int i) ∧ Q (.p (.int (g i)))
theorem li_U {g : Int → Int} : Li1 K (rU fun i => .int (g i)) (rdU g) := by
  rintro C ρ σ H0 H v x Qd Q R k e1 ⟨i, rfl, q⟩ post
  exact ⟨i, rel_int e1, post _ H (.p (.int _)) R (Kq.refl _ _) (.int _) q⟩
/-- == of flat things of one kind -/
def sc2 : PyData → PyData → Bool
  | .int _, .int _ => true | .str _, .str _ => true | .bool _, .bool _ => true | .none, .none => true | .none, .int _ => true | .int _, .none => true
  | .none, .str _ => true | .str _, .none => true | _, _ => false
def sceq : PyData → PyData → Bool
  | .int i, .int j => decide (i = j) | .str i, .str j => decide (i = j) | .bool i, .bool j => decide (i = j) | .none, .none => true | _, _ => false
def rdEq : D → D → (D → Prop) → Prop := fun x y Q => ∃ d e, x = .p d ∧ y = .p e ∧ sc2 d e = true ∧ Q (.p (.bool (sceq d e)))
def rdNe : D → D → (D → Prop) → Prop := fun x y Q => ∃ d e, x = .p d ∧ y = .p e ∧ sc2 d e = true ∧ Q (.p (.bool (!sceq d e)))
theorem sc2_ok {H : Hp} {v u : V} {d e : PyData} (h1 : Dt H v d) (h2 : Dt H u e) (s : sc2 d e = true) : scal v u = true ∧ decide (v = u) = sceq d e := by
  cases h1 <;> cases h2 <;> simp [sc2] at s <;> exact ⟨rfl, by simp [sceq]⟩
theorem li_eq : Li2 K rEq rdEq := by
  rintro C ρ σ H0 H v u x y Qd Q R k e1 e2 ⟨d, e, rfl, rfl, h, q⟩ post
  obtain ⟨h1, h2⟩ := sc2_ok e1 e2 h
  exact ⟨h1, by rw [h2]; exact post _ H (.p (.bool _)) R (Kq.refl _ _) (.bl _) q⟩
theorem li_ne : Li2 K rNe rdNe := by
  rintro C ρ σ H0 H v u x y Qd Q R k e1 e2 ⟨d, e, rfl, rfl, h, q⟩ post
  obtain ⟨h1, h2⟩ := sc2_ok e1 e2 h
  exact ⟨h1, by rw [h2]; exact post _ H (.p (.bool _)) R (Kq.refl _ _) (.bl _) q⟩
/-- == of deep data -/
def rdEqD : D → D → (D → Prop) → Prop := fun x y Q => ∃ d e, x.dat = some d ∧ y.dat = some e ∧ SeqAt.shaped d = true ∧ SeqAt.shaped e = true ∧ Q (.p (.bool (PyData.eqv d e)))
def rdNeD : D → D → (D → Prop) → Prop := fun x y Q => ∃ d e, x.dat = some d ∧ y.dat = some e ∧ SeqAt.shaped d = true ∧ SeqAt.shaped e = true ∧ Q (.p (.bool (!PyData.eqv d e)))
theorem li_eqD : Li2 K (rEqD K) rdEqD := by
  rintro C ρ σ H0 H v u x y Qd Q R k e1 e2 ⟨d, e, h1, h2, h3, h4, q⟩ post
  exact ⟨d, e, (R.datOf e1 h1).dp (nod_shaped h3), (R.datOf e2 h2).dp (nod_shaped h4), h3, h4, post _ H (.p (.bool _)) R (Kq.refl _ _) (.bl _) q⟩
theorem li_neD : Li2 K (rNeD K) rdNeD := by
  rintro C ρ σ H0 H v u x y Qd Q R k e1 e2 ⟨d, e, h1, h2, h3, h4, q⟩ post
  exact ⟨d, e, (R.datOf e1 h1).dp (nod_shaped h3), (R.datOf e2 h2).dp (nod_shaped h4), h3, h4, post _ H (.p (.bool _)) R (Kq.refl _ _) (.bl _) q⟩
def rdLtD : D → D → (D → Prop) → Prop := fun x y Q => ∃ d e, x.dat = some d ∧ y.dat = some e ∧ PySem.W.alike d e = true ∧ d ≠ .none ∧ d.depth ≤ 30 ∧ (d.hasDict = false ∧ e.hasDict = false) ∧ Q (.p (.bool (PySem.W.dataLt d e)))
theorem li_ltD : Li2 K (rLtD K) rdLtD := by
  rintro C ρ σ H0 H v u x y Qd Q R k e1 e2 ⟨d, e, h1, h2, h3, h4, h5, h6, q⟩ post
  exact ⟨d, e, (R.datOf e1 h1).dp h6.1, (R.datOf e2 h2).dp h6.2, h3, h4, h5, post _ H (.p (.bool _)) R (Kq.refl _ _) (.bl _) q⟩
/-- is None -/
def D.isNone : D → Bool
  | .p .none => true | .ot (.leaf .none) => true | .nt (.leaf .none) => true | _ => false
theorem isNone_m {H : Hp} {B : Addr → Prop} {v : V} {m : M} {f : List Addr} (h : RelM H B v m f) : decide (v = .non) = (D.ot m).isNone ∧ decide (v = .non) = (D.nt m).isNone := by
  cases h with
  | leaf h => cases h <;> simp [D.isNone]
  | lst _ _ _ => simp [D.isNone]
  | dic _ _ _ _ _ => simp [D.isNone]
theorem isNone_ok {C : Cd} {ρ : Ro} {σ : L2.St} {H0 H : Hp} {v : V} {x : D} (R : Rep K C ρ σ H) (h : RelE C ρ σ H0 H v x) : decide (v = .non) = x.isNone := by
  cases x with
  | p d => cases h <;> simp [D.isNone]
  | own ds =>
    obtain ⟨p, vs, rfl, _⟩ := R.ofOwn h
    simp [D.isNone]
  | nw ds =>
    obtain ⟨p, vs, rfl, _⟩ := h
    simp [D.isNone]
  | tape =>
    have h : v = _ := h
    rw [h]
    simp [D.isNone]
  | ot m =>
    obtain ⟨f, h1, _⟩ := R.ofTree h
    exact (isNone_m h1).1
  | nt m =>
    obtain ⟨f, _, h1⟩ := h
    exact (isNone_m h1).2
  | fv f F => rw [h.1]; simp [D.isNone]
def rdIsN : D → D → (D → Prop) → Prop := fun x y Q => y = .p .none ∧ Q (.p (.bool x.isNone))
def rdNotN : D → D → (D → Prop) → Prop := fun x y Q => y = .p .none ∧ Q (.p (.bool (!x.isNone)))
theorem li_isN : Li2 K (fun x y H Q => y = .non ∧ Q (.bl (decide (x = .non))) H) rdIsN := by
  rintro C ρ σ H0 H v u x y Qd Q R k e1 e2 ⟨rfl, q⟩ post
  exact ⟨rel_non e2, by rw [isNone_ok R e1]; exact post _ H (.p (.bool _)) R (Kq.refl _ _) (.bl _) q⟩
theorem li_notN : Li2 K (fun x y H Q => y = .non ∧ Q (.bl (!decide (x = .non))) H) rdNotN := by
  rintro C ρ σ H0 H v u x y Qd Q R k e1 e2 ⟨rfl, q⟩ post
  exact ⟨rel_non e2, by rw [isNone_ok R e1]; exact post _ H (.p (.bool _)) R (Kq.refl _ _) (.bl _) q⟩
/-- texts -/
def rdS (c : Str → Str → Prop) (g : Str → Str → PyData) : D → D → (D → Prop) → Prop := fun x y Q => ∃ i j, x = .p (.str i) ∧ y = .p (.str j) ∧ c i j ∧ Q (.p (g i j))
theorem li_catS : Li2 K (fun x y H Q => ∃ i j, x = .str i ∧ y = .str j ∧ i.length + j.length ≤ sizeLine ∧ Q (.str (i ++ j)) H) (rdS (fun i j => i.length + j.length ≤ sizeLine) fun i j => .str (i ++ j)) := by
  rintro C ρ σ H0 H v u x y Qd Q R k e1 e2 ⟨i, j, rfl, rfl, h, q⟩ post
  exact ⟨i, j, rel_str e1, rel_str e2, h, post _ H (.p (.str _)) R (Kq.refl _ _) (.str _) q⟩
theorem li_ltS : Li2 K (fun x y H Q => ∃ i j, x = .str i ∧ y = .str j ∧ Q (.bl (decide (i.cps.toList < j.cps.toList))) H) (rdS (fun _ _ => True) fun i j => .bool (decide (i.cps.toList < j.cps.toList))) := by
  rintro C ρ σ H0 H v u x y Qd Q R k e1 e2 ⟨i, j, rfl, rfl, h, q⟩ post
  exact ⟨i, j, rel_str e1, rel_str e2, post _ H (.p (.bool _)) R (Kq.refl _ _) (.bl _) q⟩
/-- tuples, lists -/
def rdCat : D → D → (D → Prop) → Prop := fun x y Q => ∃ ds es, x = .p (.tuple ds) ∧ y = .p (.tuple es) ∧ ds.length + es.length ≤ sizeLine ∧ Q (.p (.tuple (ds ++ es)))
theorem li_cat : Li2 K (rCatG K) rdCat := by
  rintro C ρ σ H0 H v u x y Qd Q R k e1 e2 ⟨ds, es, rfl, rfl, h, q⟩ post
  obtain ⟨a, vs, rfl, t1, d1⟩ := R.tupOf e1
  obtain ⟨b, us, rfl, t2, d2⟩ := R.tupOf e2
  refine ⟨a, b, vs, us, rfl, rfl, t1.sq, t2.sq, by rw [d1.length, d2.length]; exact h, fun z => ?_, fun _ z => ?_, fun _ _ => R.newG (H0 := H0) (d1.append d2) q post⟩
  · subst z
    cases d1
    exact post _ H (.p (.tuple es)) R (Kq.refl _ _) e2 q
  · subst z
    cases d2
    rw [List.append_nil] at q
    exact post _ H (.p (.tuple ds)) R (Kq.refl _ _) e1 q
def rdCatL : D → D → (D → Prop) → Prop := fun x y Q => ∃ ds es, x.ls = some ds ∧ y.ls = some es ∧ ds.length + es.length ≤ sizeLine ∧ Q (.nw (ds ++ es))
theorem li_catL : Li2 K rCat rdCatL := by
  rintro C ρ σ H0 H v u x y Qd Q R k e1 e2 ⟨ds, es, h1, h2, h, q⟩ post
  obtain ⟨a, vs, rfl, t1, d1⟩ := R.lstOf e1 h1
  obtain ⟨b, us, rfl, t2, d2⟩ := R.lstOf e2 h2
  exact ⟨a, b, vs, us, rfl, rfl, t1, t2, by rw [d1.length, d2.length]; exact h, R.newL (H0 := H0) (d1.append d2) (by rw [List.length_append]; exact h) q post⟩
/-- x in a list or tuple of flat items -/
def fl : PyData → Bool
  | .none => true | .bool _ => true | .int _ => true | .str _ => true | _ => false
theorem fl_ok {H : Hp} {v : V} {d : PyData} (h : Dt H v d) (f : fl d = true) : flatV v = true := by cases h <;> first | rfl | simp [fl] at f
theorem fl_all {H : Hp} : ∀ {vs : List V} {ds : List PyData}, DtAll H vs ds → ds.all fl = true → vs.all flatV = true
  | _, _, .nil, _ => rfl
  | _, _, .cons h t, f => by
    simp at f ⊢
    exact ⟨fl_ok h f.1, by simpa using fl_all t (by simpa using f.2)⟩
theorem eqV_ok {H : Hp} {v u : V} {d e : PyData} (h1 : Dt H v d) (h2 : Dt H u e) (f1 : fl d = true) (f2 : fl e = true) : eqV v u = PyData.eqv d e := by
  cases h1 <;> cases h2 <;> first | (simp [fl] at f1; done) | (simp [fl] at f2; done) | (simp [eqV, PyData.eqv]; done) | skip
  all_goals (simp only [eqV, PyData.eqv])
theorem inV_ok {H : Hp} {v : V} {d : PyData} (h : Dt H v d) (f : fl d = true) : ∀ {vs : List V} {ds : List PyData}, DtAll H vs ds → ds.all fl = true → inV v vs = ds.any fun z => PyData.eqv z d
  | _, _, .nil, _ => rfl
  | _, _, .cons g t, q => by
    simp at q
    have ih := inV_ok h f t (by simpa using q.2)
    unfold inV at ih ⊢
    rw [List.any_cons, List.any_cons, ih, eqV_ok g h q.1 f]
def rdIn (neg : Bool) : D → D → (D → Prop) → Prop := fun x y Q => ∃ d ds, x = .p d ∧ y.sq = some ds ∧ fl d = true ∧ ds.all fl = true ∧ Q (.p (.bool (if neg then !(ds.any fun z => PyData.eqv z d) else ds.any fun z => PyData.eqv z d)))
theorem li_in (neg : Bool) : Li2 K (rIn K neg) (rdIn neg) := by
  rintro C ρ σ H0 H v u x y Qd Q R k e1 e2 ⟨d, ds, rfl, h2, f1, f2, q⟩ post
  obtain ⟨a, vs, rfl, t1, d1⟩ := R.sqOf e2 h2
  refine ⟨a, vs, rfl, t1, fl_ok e1 f1, fl_all d1 f2, ?_⟩
  rw [inV_ok (Dt.mono wo_same e1) f1 (DtAll.mono wo_same d1) f2]
  exact post _ H (.p (.bool _)) R (Kq.refl _ _) (.bl _) q
/-- x in a list of deep items -/
def rdInD : D → D → (D → Prop) → Prop := fun x y Q => ∃ d ds, x.dat = some d ∧ y.ls = some ds ∧ SeqAt.shaped d = true ∧ SeqAt.shaped (.list ds) = true ∧ Q (.p (.bool (ds.any fun z => PyData.eqv z d)))
def rdNinD : D → D → (D → Prop) → Prop := fun x y Q => ∃ d ds, x.dat = some d ∧ y.ls = some ds ∧ SeqAt.shaped d = true ∧ SeqAt.shaped (.list ds) = true ∧ Q (.p (.bool (!ds.any fun z => PyData.eqv z d)))
theorem li_inD : Li2 K (rInD K) rdInD := by
  rintro C ρ σ H0 H v u x y Qd Q R k e1 e2 ⟨d, ds, h1, h2, h3, h4, q⟩ post
  obtain ⟨a, vs, rfl, t1, d1⟩ := R.lstOf e2 h2
  exact ⟨d, ds, (R.datOf e1 h1).dp (nod_shaped h3), .lst (SqL.of t1) ((DtAll.mono wo_same d1).dp (by have := nod_shaped h4; simpa [PyData.hasDict] using this)), h3, h4, post _ H (.p (.bool _)) R (Kq.refl _ _) (.bl _) q⟩
theorem li_ninD : Li2 K (rNotInD K) rdNinD := by
  rintro C ρ σ H0 H v u x y Qd Q R k e1 e2 ⟨d, ds, h1, h2, h3, h4, q⟩ post
  obtain ⟨a, vs, rfl, t1, d1⟩ := R.lstOf e2 h2
  exact ⟨d, ds, (R.datOf e1 h1).dp (nod_shaped h3), .lst (SqL.of t1) ((DtAll.mono wo_same d1).dp (by have := nod_shaped h4; simpa [PyData.hasDict] using this)), h3, h4, post _ H (.p (.bool _)) R (Kq.refl _ _) (.bl _) q⟩
/-- one sign in a text -/
def rdInS (neg : Bool) : D → D → (D → Prop) → Prop := fun x y Q => ∃ (c : Nat) (z : Str), x = .p (.str ⟨#[c]⟩) ∧ y = .p (.str z) ∧ Q (.p (.bool (if neg then !decide (c ∈ z.cps.toList) else decide (c ∈ z.cps.toList))))
/-! ### subscripts -/
def rdIx : D → D → (D → Prop) → Prop := fun x y Q => ∃ ds i d, x.sq = some ds ∧ y = .p (.int i) ∧ atI ds i = some d ∧ Q (.p d)
theorem atI_dt {H : Hp} {vs : List V} {ds : List PyData} {i : Int} {d : PyData} (h : DtAll H vs ds) (e : atI ds i = some d) : ∃ v, atI vs i = some v ∧ Dt H v d := by
  unfold atI at e ⊢
  rw [h.length]
  cases q : ixN ds.length i with
  | none => rw [q] at e; cases e
  | some j =>
    rw [q] at e
    exact h.of (show ds[j]? = some d from e)
def rIxSq (K : PySem.W.Frag) : R2 := fun x y H Q => rIxL K x y H Q ∨ rIxT K x y H Q
theorem ix_sq {X : Cx} : IxR X (rIxSq X.K) := ix_list.or ix_tup
theorem li_ix : Li2 K (rIxSq K) rdIx := by
  rintro C ρ σ H0 H v u x y Qd Q R k e1 e2 ⟨ds, i, d, h1, rfl, h3, q⟩ post
  obtain ⟨a, vs, rfl, t1, d1⟩ := R.sqOf e1 h1
  obtain ⟨w, h4, h5⟩ := atI_dt d1 h3
  have z := post w H (.p d) R (Kq.refl _ _) h5 q
  rcases t1 with t1 | t1
  · exact .inl ⟨a, vs, i, w, rfl, rel_int e2, t1, h4, z⟩
  · exact .inr ⟨a, vs, i, w, rfl, rel_int e2, t1, h4, z⟩
def rdIxS : D → D → (D → Prop) → Prop := fun x y Q => ∃ (z : Str) (i : Int) (c : Nat), x = .p (.str z) ∧ y = .p (.int i) ∧ z.length ≤ sizeLine ∧ atI z.cps.toList i = some c ∧ Q (.p (.str ⟨#[c]⟩))
theorem li_ixS : Li2 K rIxS rdIxS := by
  rintro C ρ σ H0 H v u x y Qd Q R k e1 e2 ⟨z, i, c, rfl, rfl, h3, h4, q⟩ post
  exact ⟨z, i, c, rel_str e1, rel_int e2, h3, h4, post _ H (.p (.str _)) R (Kq.refl _ _) (.str _) q⟩
end
section
variable {X : Cx} {a b : Expr} {ta tb : TED} {pos : Pos}
theorem fe_ix {r : R2} {rd : D → D → (D → Prop) → Prop} (hr : IxR X r) (l : Li2 X.K r rd) (ha : FE X a ta) (hb : FE X b tb) (hs : PlainIx b) : FE X (.Subscript a b pos) (dOp rd ta tb) :=
  (pe_ix hr ha hb hs).mo (up_op l)
/-! ### slices -/
abbrev TOD := Ro → (Option Int → Prop) → Prop
def upO (K : PySem.W.Frag) (t : TOD) : TO := fun σ H Q => ∃ C ρ Qd, Rep K C ρ σ H ∧ t ρ Qd ∧ ∀ o H', Rep K C ρ σ H' → Kq C.t H H' → Qd o → Q o H'
abbrev FO (X : Cx) (e : Option Expr) (t : TOD) : Prop := PO X e (upO X.K t)
theorem _root_.L2.PO.mo {e : Option Expr} {t t' : TO} (h : PO X e t) (m : ∀ σ H Q, t' σ H Q → t σ H Q) : PO X e t' := ⟨fun pins s σ H Q I hw => h.run pins s σ H Q I (m σ H Q hw)⟩
def dNoPart : TOD := fun _ Q => Q none
def dPart (t : TED) : TOD := fun ρ Q => t ρ fun x => ∃ i, x = .p (.int i) ∧ Q (some i)
theorem fo_none : FO X none dNoPart := by
  refine po_none.mo ?_
  rintro σ H Q ⟨C, ρ, Qd, R, h, post⟩
  exact post _ H R (Kq.refl _ _) h
theorem fo_some (h : FE X a ta) : FO X (some a) (dPart ta) := by
  refine (po_some h).mo ?_
  rintro σ H Q ⟨C, ρ, Qd, R, h, post⟩
  refine ⟨C, ρ, _, R, h, ?_⟩
  rintro v H' x R' k e ⟨i, rfl, q⟩
  exact ⟨i, rel_int e, post _ H' R' k q⟩
def cutD (xs : List PyData) (lo hi : Option Int) : List PyData := (xs.drop (HT.sIx xs.length 0 lo)).take (HT.sIx xs.length xs.length hi - HT.sIx xs.length 0 lo)
theorem cut_dt {H : Hp} {vs : List V} {ds : List PyData} (h : DtAll H vs ds) (lo hi : Option Int) : DtAll H (cutV vs lo hi) (cutD ds lo hi) := by
  unfold cutV cutD
  rw [h.length]
  exact (h.drop _).take _
theorem cutD_len (xs : List PyData) (lo hi : Option Int) : (cutD xs lo hi).length ≤ xs.length := by
  unfold cutD
  rw [List.length_take, List.length_drop]
  omega
theorem cutD_to (xs : List PyData) (n : Nat) : cutD xs none (some (n : Int)) = xs.take n := by
  unfold cutD
  rw [show HT.sIx xs.length xs.length (some (n : Int)) = min n xs.length from HT.sIx_nat xs.length _ n, HT.sIx_none, List.drop_zero, Nat.sub_zero]
  rcases Nat.le_total n xs.length with h | h
  · rw [Nat.min_eq_left h]
  · rw [Nat.min_eq_right h, List.take_of_length_le h, List.take_length]
theorem cutD_from (xs : List PyData) (n : Nat) : cutD xs (some (n : Int)) none = xs.drop n := by
  unfold cutD
  rw [show HT.sIx xs.length 0 (some (n : Int)) = min n xs.length from HT.sIx_nat xs.length 0 n, HT.sIx_none]
  rcases Nat.le_total n xs.length with h | h
  · rw [Nat.min_eq_left h]
    exact List.take_of_length_le (by rw [List.length_drop]; exact Nat.le_refl _)
  · rw [Nat.min_eq_right h, List.drop_of_length_le h, List.drop_of_length_le (Nat.le_refl _), List.take_nil]
theorem cutD_mid (xs : List PyData) (m n : Nat) (h : m ≤ xs.length) (hn : n ≤ xs.length) : cutD xs (some (m : Int)) (some (n : Int)) = (xs.drop m).take (n - m) := by
  unfold cutD
  rw [show HT.sIx xs.length 0 (some (m : Int)) = min m xs.length from HT.sIx_nat xs.length 0 m, show HT.sIx xs.length xs.length (some (n : Int)) = min n xs.length from HT.sIx_nat xs.length _ n, Nat.min_eq_left h, Nat.min_eq_left hn]
def Li3 (K : PySem.W.Frag) (r : V → Option Int → Option Int → Hp → VK → Prop) (rd : D → Option Int → Option Int → (D → Prop) → Prop) : Prop := ∀ C ρ σ H0 H v x lo hi Qd Q, Rep K C ρ σ H → Kq C.t H0 H → RelE C ρ σ H0 H v x → rd x lo hi Qd →
  (∀ v' H' z, Rep K C ρ σ H' → Kq C.t H H' → RelE C ρ σ H H' v' z → Qd z → Q v' H') → r v lo hi H Q
def dSl (rd : D → Option Int → Option Int → (D → Prop) → Prop) (ta : TED) (tl th : TOD) : TED := fun ρ Q => ta ρ fun x => tl ρ fun l => th ρ fun u => rd x l u Q
theorem fe_slice {lo hi : Option Expr} {p2 : Pos} {tl th : TOD} {r : V → Option Int → Option Int → Hp → VK → Prop} {rd : D → Option Int → Option Int → (D → Prop) → Prop} (hr : SlR X r) (l : Li3 X.K r rd) (he : FE X a ta) (hl : FO X lo tl) (hu : FO X hi th) :
    FE X (.Subscript a (.Slice lo hi none p2) pos) (dSl rd ta tl th) := by
  refine (pe_slice hr he hl hu).mo ?_
  rintro σ H Q ⟨C, ρ, Qd, R, h, post⟩
  refine ⟨C, ρ, _, R, h, fun v H1 x R1 k1 e1 h1 => ⟨C, ρ, _, R1, h1, fun o H2 R2 k2 h2 => ⟨C, ρ, _, R2, h2, fun o2 H3 R3 k3 h3 => ?_⟩⟩⟩
  exact l C ρ σ H H3 v x o o2 Qd Q R3 ((k1.trans k2).trans k3) ((e1.mono R k1 k2).mono R (k1.trans k2) k3) h3 fun v' H4 z R4 k4 e4 q => post v' H4 z R4 (((k1.trans k2).trans k3).trans k4) (e4.back ((k1.trans k2).trans k3) R3) q
def rdSlT : D → Option Int → Option Int → (D → Prop) → Prop := fun x lo hi Q => ∃ ds, x = .p (.tuple ds) ∧ Q (.p (.tuple (cutD ds lo hi)))
theorem li_slT {K : PySem.W.Frag} : Li3 K (rSlG K) rdSlT := by
  rintro C ρ σ H0 H v x lo hi Qd Q R k e1 ⟨ds, rfl, q⟩ post
  obtain ⟨a, vs, rfl, t1, d1⟩ := R.tupOf e1
  refine ⟨a, vs, rfl, t1.sq, fun z => ?_, fun _ => R.newG (H0 := H0) (cut_dt d1 lo hi) q post⟩
  have e : cutD ds lo hi = ds := by
    unfold cutD
    rw [← d1.length, z.1, z.2, List.drop_zero, Nat.sub_zero, d1.length, List.take_length]
  rw [e] at q
  exact post _ H (.p (.tuple ds)) R (Kq.refl _ _) e1 q
def rdSlL : D → Option Int → Option Int → (D → Prop) → Prop := fun x lo hi Q => ∃ ds, x.ls = some ds ∧ ds.length ≤ sizeLine ∧ Q (.nw (cutD ds lo hi))
theorem li_slL {K : PySem.W.Frag} : Li3 K (rSlL K) rdSlL := by
  rintro C ρ σ H0 H v x lo hi Qd Q R k e1 ⟨ds, h1, hz, q⟩ post
  obtain ⟨a, vs, rfl, t1, d1⟩ := R.lstOf e1 h1
  exact ⟨a, vs, rfl, SqL.of t1, R.newL (H0 := H0) (cut_dt d1 lo hi) (Nat.le_trans (cutD_len _ _ _) hz) q post⟩
def dRevG (ta : TED) : TED := fun ρ Q => ta ρ fun x => ∃ ds, x = .p (.tuple ds) ∧ Q (.p (.tuple ds.reverse))
theorem fe_revT {k : Nat} {p1 p2 p3 : Pos} (ha : FE X a ta) : FE X (.Subscript a (.Slice none none (some (.UnaryOp .USub (.Constant (.int 1) k p1) p2)) p3) pos) (dRevG ta) := by
  refine (pe_revG ha).mo ?_
  rintro σ H Q ⟨C, ρ, Qd, R, h, post⟩
  refine ⟨C, ρ, _, R, h, ?_⟩
  rintro v H1 x R1 k1 e1 ⟨ds, rfl, q⟩
  obtain ⟨a, vs, rfl, t1, d1⟩ := R1.tupOf e1
  exact ⟨a, vs, rfl, t1.sq, R1.newG (H0 := H) d1.rev q fun v' H4 z R4 k4 e4 q => post v' H4 z R4 (k1.trans k4) (e4.back k1 R1) q⟩
/-! ### calls of built-ins -/
def dCB (rd : List D → (D → Prop) → Prop) (t : TAD) : TED := fun ρ Q => t ρ fun xs => rd xs Q
theorem up_cb {K : PySem.W.Frag} {r : List V → Hp → VK → Prop} {rd : List D → (D → Prop) → Prop} {t : TAD} (l : LiL K r rd) : ∀ σ H Q, up K (dCB rd t) σ H Q → tCB r (upA K t) σ H Q := by
  rintro σ H Q ⟨C, ρ, Qd, R, h, post⟩
  refine ⟨C, ρ, _, R, h, fun vs H1 xs R1 k1 e1 h1 => ?_⟩
  exact l C ρ σ H H1 vs xs Qd Q R1 k1 e1 h1 fun v' H3 z R3 k3 e3 q => post v' H3 z R3 (k1.trans k3) (e3.back k1 R1) q
variable {es : List Expr} {t : TAD} {x : Str} {p : Pos} {id T : String} {r : List V → Hp → VK → Prop} {rd : List D → (D → Prop) → Prop}
theorem fe_cb (hc : CallR X (.builtin id) r) (l : LiL X.K r rd) (hg : Gl X x) (hm : X.mg x = none) (hv : bootBuiltins x = some (.builtin id)) (ha : FA X (a :: es) t) (hn : x ≠ "__name__" := by decide) (hdb : (x == ("__debug__" : Str)) = false := by decide)
    (he : starEach (a :: es) X.env = (false, eval a X.env) :: starEach es X.env := by rfl) (hpl : (backTo pos (starEach es X.env)).any (·.1) = false := by rfl) : FE X (.Call (.Name x p) (a :: es) [] pos) (dCB rd t) :=
  (pe_callB hc hg hm hv ha hn hdb he hpl).mo (up_cb l)
theorem fe_ct (hc : CallR X (.type T) r) (l : LiL X.K r rd) (hg : Gl X x) (hm : X.mg x = none) (hv : bootBuiltins x = some (.type T)) (ha : FA X (a :: es) t) (hn : x ≠ "__name__" := by decide) (hdb : (x == ("__debug__" : Str)) = false := by decide)
    (he : starEach (a :: es) X.env = (false, eval a X.env) :: starEach es X.env := by rfl) (hpl : (backTo pos (starEach es X.env)).any (·.1) = false := by rfl) : FE X (.Call (.Name x p) (a :: es) [] pos) (dCB rd t) :=
  (pe_callTy hc hg hm hv ha hn hdb he hpl).mo (up_cb l)
end
section
variable {K : PySem.W.Frag}
theorem p1 {C : Cd} {ρ : Ro} {σ : L2.St} {H0 H : Hp} {vs : List V} {x : D} (h : Paired (RelE C ρ σ H0 H) vs [x]) : ∃ v, vs = [v] ∧ RelE C ρ σ H0 H v x := by
  cases h with
  | cons h t => cases t; exact ⟨_, rfl, h⟩
theorem p2 {C : Cd} {ρ : Ro} {σ : L2.St} {H0 H : Hp} {vs : List V} {x y : D} (h : Paired (RelE C ρ σ H0 H) vs [x, y]) : ∃ v u, vs = [v, u] ∧ RelE C ρ σ H0 H v x ∧ RelE C ρ σ H0 H u y := by
  cases h with
  | cons h t =>
    obtain ⟨u, rfl, h2⟩ := p1 t
    exact ⟨_, u, rfl, h, h2⟩
def rdLen : List D → (D → Prop) → Prop := fun xs Q => ∃ x ds, xs = [x] ∧ x.sq = some ds ∧ Q (.p (.int ds.length))
theorem li_len : LiL K (rLenS K) rdLen := by
  rintro C ρ σ H0 H vs xs Qd Q R k e0 ⟨x, ds, rfl, h, q⟩ post
  obtain ⟨v, rfl, e⟩ := p1 e0
  obtain ⟨a, us, rfl, t1, d1⟩ := R.sqOf e h
  exact ⟨a, us, rfl, t1, by rw [d1.length]; exact post _ H (.p (.int _)) R (Kq.refl _ _) (.int _) q⟩
def rdLenS : List D → (D → Prop) → Prop := fun xs Q => ∃ z : Str, xs = [.p (.str z)] ∧ z.length ≤ sizeLine ∧ Q (.p (.int z.length))
def rdMax : List D → (D → Prop) → Prop := fun xs Q => ∃ i j, xs = [.p (.int i), .p (.int j)] ∧ Q (.p (.int (max i j)))
def rdMin : List D → (D → Prop) → Prop := fun xs Q => ∃ i j, xs = [.p (.int i), .p (.int j)] ∧ Q (.p (.int (min i j)))
theorem li_max : LiL K (fun xs H Q => ∃ i j, xs = [.int i, .int j] ∧ Q (.int (if j > i then j else i)) H) rdMax := by
  rintro C ρ σ H0 H vs xs Qd Q R k e ⟨i, j, rfl, q⟩ post
  obtain ⟨v, u, rfl, e1, e2⟩ := p2 e
  refine ⟨i, j, by rw [rel_int e1, rel_int e2], post _ H (.p (.int _)) R (Kq.refl _ _) (.int _) ?_⟩
  rw [show (if j > i then j else i) = max i j by split <;> omega]
  exact q
theorem li_min : LiL K (fun xs H Q => ∃ i j, xs = [.int i, .int j] ∧ Q (.int (if j < i then j else i)) H) rdMin := by
  rintro C ρ σ H0 H vs xs Qd Q R k e ⟨i, j, rfl, q⟩ post
  obtain ⟨v, u, rfl, e1, e2⟩ := p2 e
  refine ⟨i, j, by rw [rel_int e1, rel_int e2], post _ H (.p (.int _)) R (Kq.refl _ _) (.int _) ?_⟩
  rw [show (if j < i then j else i) = min i j by split <;> omega]
  exact q
def rdAbs : List D → (D → Prop) → Prop := fun xs Q => ∃ i : Int, xs = [.p (.int i)] ∧ Q (.p (.int i.natAbs))
theorem li_abs : LiL K (fun xs H Q => ∃ i, xs = [.int i] ∧ Q (.int (if i < 0 then -i else i)) H) rdAbs := by
  rintro C ρ σ H0 H vs xs Qd Q R k e ⟨i, rfl, q⟩ post
  obtain ⟨v, rfl, e1⟩ := p1 e
  refine ⟨i, by rw [rel_int e1], post _ H (.p (.int _)) R (Kq.refl _ _) (.int _) ?_⟩
  rw [show (if i < 0 then -i else i) = (i.natAbs : Int) by split <;> omega]
  exact q
def b2d : Bool → Int | true => 1 | false => 0
def rdInt : List D → (D → Prop) → Prop := fun xs Q => (∃ i : Int, xs = [.p (.int i)] ∧ Q (.p (.int i))) ∨ ∃ b : Bool, xs = [.p (.bool b)] ∧ Q (.p (.int (b2d b)))
theorem li_int : LiL K (fun xs H Q => (∃ i, xs = [.int i] ∧ Q (.int i) H) ∨ ∃ k, xs = [.bl k] ∧ Q (.int (if k then 1 else 0)) H) rdInt := by
  rintro C ρ σ H0 H vs xs Qd Q R k e (⟨i, rfl, q⟩ | ⟨b, rfl, q⟩) post
  · obtain ⟨v, rfl, e1⟩ := p1 e
    exact .inl ⟨i, by rw [rel_int e1], post _ H (.p (.int _)) R (Kq.refl _ _) (.int _) q⟩
  · obtain ⟨v, rfl, e1⟩ := p1 e
    refine .inr ⟨b, by rw [rel_bl e1], post _ H (.p (.int _)) R (Kq.refl _ _) (.int _) ?_⟩
    cases b <;> exact q
def rdTupL : List D → (D → Prop) → Prop := fun xs Q => ∃ x ds, xs = [x] ∧ x.ls = some ds ∧ Q (.p (.tuple ds))
theorem li_tupL : LiL K (rTupG K) rdTupL := by
  rintro C ρ σ H0 H vs xs Qd Q R k e0 ⟨x, ds, rfl, h, q⟩ post
  obtain ⟨v, rfl, e⟩ := p1 e0
  obtain ⟨a, us, rfl, t1, d1⟩ := R.lstOf e h
  exact ⟨a, us, rfl, SqL.of t1, R.newG (H0 := H0) d1 q post⟩
def rdLis : List D → (D → Prop) → Prop := fun xs Q => ∃ x ds, xs = [x] ∧ x.sq = some ds ∧ ds.length ≤ sizeLine ∧ Q (.nw ds)
theorem li_lis : LiL K (rLisOf K) rdLis := by
  rintro C ρ σ H0 H vs xs Qd Q R k e0 ⟨x, ds, rfl, h, hz, q⟩ post
  obtain ⟨v, rfl, e⟩ := p1 e0
  obtain ⟨a, us, rfl, t1, d1⟩ := R.sqOf e h
  exact ⟨a, us, rfl, t1, R.newL (H0 := H0) d1 hz q post⟩
def rdRep : List D → (D → Prop) → Prop := fun xs Q => ∃ x d, xs = [x] ∧ x.dat = some d ∧ d.showable = true ∧ d.hasDict = false ∧ d.depth ≤ 40 ∧ d.shown.length ≤ sizeLine ∧ Q (.p (.str d.shown))
theorem li_rep : LiL K (rRep K) rdRep := by
  rintro C ρ σ H0 H vs xs Qd Q R k e0 ⟨x, d, rfl, h, h1, h2, h3, h4, q⟩ post
  obtain ⟨v, rfl, e⟩ := p1 e0
  exact ⟨v, d, rfl, (R.datOf e h).dp h2, h1, h2, h3, h4, post _ H (.p (.str _)) R (Kq.refl _ _) (.str _) q⟩
theorem ints_dt {H : Hp} : ∀ {vs : List V} {ns : List Int}, DtAll H vs (ns.map PyData.int) → vs = ns.map V.int
  | vs, [], h => by cases h; rfl
  | vs, n :: ns, h => by
    cases h with
    | cons h t => cases h; rw [ints_dt t]; rfl
theorem strs_dt {H : Hp} : ∀ {vs : List V} {ns : List Str}, DtAll H vs (ns.map PyData.str) → vs = ns.map V.str
  | vs, [], h => by cases h; rfl
  | vs, n :: ns, h => by
    cases h with
    | cons h t => cases h; rw [strs_dt t]; rfl
theorem bools_dt {H : Hp} : ∀ {vs : List V} {ns : List Bool}, DtAll H vs (ns.map PyData.bool) → vs = ns.map V.bl
  | vs, [], h => by cases h; rfl
  | vs, n :: ns, h => by
    cases h with
    | cons h t => cases h; rw [bools_dt t]; rfl
def rdSum : List D → (D → Prop) → Prop := fun xs Q => ∃ x, ∃ ns : List Int, xs = [x] ∧ x.ls = some (ns.map PyData.int) ∧ Q (.p (.int ns.sum))
theorem li_sum : LiL K (rSum K) rdSum := by
  rintro C ρ σ H0 H vs xs Qd Q R k e0 ⟨x, ns, rfl, h, q⟩ post
  obtain ⟨v, rfl, e⟩ := p1 e0
  obtain ⟨a, us, rfl, t1, d1⟩ := R.lstOf e h
  rw [ints_dt d1] at t1
  exact ⟨a, ns, rfl, SqL.of t1, post _ H (.p (.int _)) R (Kq.refl _ _) (.int _) q⟩
def rdAny : List D → (D → Prop) → Prop := fun xs Q => ∃ x, ∃ bs : List Bool, xs = [x] ∧ x.ls = some (bs.map PyData.bool) ∧ Q (.p (.bool (bs.any id)))
def rdAll : List D → (D → Prop) → Prop := fun xs Q => ∃ x, ∃ bs : List Bool, xs = [x] ∧ x.ls = some (bs.map PyData.bool) ∧ Q (.p (.bool (bs.all id)))
theorem li_any : LiL K (rAny K) rdAny := by
  rintro C ρ σ H0 H vs xs Qd Q R k e0 ⟨x, ns, rfl, h, q⟩ post
  obtain ⟨v, rfl, e⟩ := p1 e0
  obtain ⟨a, us, rfl, t1, d1⟩ := R.lstOf e h
  rw [bools_dt d1] at t1
  exact ⟨a, ns, rfl, SqL.of t1, post _ H (.p (.bool _)) R (Kq.refl _ _) (.bl _) q⟩
theorem li_all : LiL K (rAll K) rdAll := by
  rintro C ρ σ H0 H vs xs Qd Q R k e0 ⟨x, ns, rfl, h, q⟩ post
  obtain ⟨v, rfl, e⟩ := p1 e0
  obtain ⟨a, us, rfl, t1, d1⟩ := R.lstOf e h
  rw [bools_dt d1] at t1
  exact ⟨a, ns, rfl, SqL.of t1, post _ H (.p (.bool _)) R (Kq.refl _ _) (.bl _) q⟩
end
end My
namespace My
open PySem PySem.Spec PyProof.Rows L2
variable [TB]

/-! ### the state goes on -/
section
variable {K : PySem.W.Frag} {C : Cd} {ρ : Ro} {σ : L2.St} {H H1 H2 H' : Hp} {v : V} {x : D}
theorem Rep.ownX (R : Rep K C ρ σ H) {p : Addr} (h : C.H0 p = none) : nx C.t p ∧ p ≠ C.t.2 := by
  have n : ∀ b, C.S0 b → p ≠ b := fun b hb e => by
    obtain ⟨o, q⟩ := R.s00 _ hb
    rw [← e, h] at q; cases q
  exact ⟨⟨n _ R.s1, fun q hq e => n _ (R.s3 q hq) e.symm⟩, n _ R.s2⟩
theorem Rep.ownT (R : Rep K C ρ σ H) {p : Addr} (h : C.H0 p = none) : p ≠ C.t.1 ∧ p ≠ C.t.2 := ⟨(R.ownX h).1.1, (R.ownX h).2⟩
theorem Rep.step (R : Rep K C ρ σ H) (k : Kq C.t H H') (T : Tape K H' C.t) (tb : Tbs H') : Rep K C ρ σ H' where
  len := R.len
  val := fun i y e => by
    obtain ⟨v, h1, h2⟩ := R.val i y e
    refine ⟨v, h1, h2.mono rfl (fun _ a b => .inl ⟨a, b⟩) (R.kp k) fun q vs ds e1 e2 h => ?_⟩
    subst e1 e2
    obtain ⟨q', vs', e3, _, _, h5, _⟩ := h2
    cases e3
    exact k q _ (R.ownX h5.1).1 h
  dis := R.dis
  tp := T
  ext := R.ext.trans k
  s1 := R.s1
  s2 := R.s2
  s0 := fun b hb => by
    by_cases e : nx C.t b
    · obtain ⟨xs, q⟩ := R.s0 b hb
      exact ⟨xs, k b _ e q⟩
    · by_cases e1 : b = C.t.1
      · obtain ⟨ys, q⟩ := T.lst
        exact ⟨_, e1 ▸ q⟩
      · have : ∃ p ∈ TB.T, p.1 = b := by
          refine Classical.byContradiction fun z => e ⟨e1, fun p hp e2 => z ⟨p, hp, e2⟩⟩
        obtain ⟨p, hp, rfl⟩ := this
        obtain ⟨ps, q⟩ := tb.at hp
        exact ⟨_, q⟩
  f0 := fun b hb => by
    by_cases e : nx C.t b
    · obtain ⟨xs, q⟩ := R.f0 b hb
      exact ⟨xs, k b _ e q⟩
    · by_cases e1 : b = C.t.1
      · obtain ⟨ys, q⟩ := T.lst
        exact ⟨_, e1 ▸ q⟩
      · have : ∃ p ∈ TB.T, p.1 = b := by
          refine Classical.byContradiction fun z => e ⟨e1, fun p hp e2 => z ⟨p, hp, e2⟩⟩
        obtain ⟨p, hp, rfl⟩ := this
        obtain ⟨ps, q⟩ := tb.at hp
        exact ⟨_, q⟩
  s00 := R.s00
  pin := fun q hq => Dt.mono (R.kp k) (R.pin q hq)
  tin := fun q hq => (R.tin q hq).kt fun o e => by
    refine k _ _ ⟨fun z => ?_, fun p hp z => ?_⟩ e
    · obtain ⟨ys, g⟩ := R.tp.lst
      rw [z, g] at e; cases e
    · obtain ⟨ps, g⟩ := R.tab.at hp
      rw [z, e] at g; cases g
  s3 := R.s3
  tab := tb
  tre := let ⟨φ, T⟩ := R.tre; ⟨φ, T.mono (R.kp k) (fun b o hb e => k b o (R.ownX (R.g0 b hb).2.1).1 e) fun _ z => z⟩
  g0 := fun b hb => let ⟨⟨o, e⟩, r⟩ := R.g0 b hb; ⟨⟨o, k b o (R.ownX r.1).1 e⟩, r⟩
/-- a slot takes what is no list of one's own -/
theorem ownAt_set {i : Nat} {y : D} (hy : ∀ ds, y ≠ .own ds) {b : Addr} (h : ownAt (ρ.set i (some y)) (σ.set i (some v)) b) : ownAt ρ σ b := by
  obtain ⟨j, ds, h1, h2⟩ := h
  by_cases e : i = j
  · subst e
    rw [List.getElem?_set] at h1
    split at h1
    · split at h1
      · injection h1 with h1; injection h1 with h1; exact (hy ds h1).elim
      · cases h1
    · exact absurd rfl (by assumption)
  · rw [List.getElem?_set_ne e] at h1 h2
    exact ⟨j, ds, h1, h2⟩
theorem bad_setY {i : Nat} {y : D} (hy : ∀ ds, y ≠ .own ds) {b : Addr} (h : bad C (ρ.set i (some y)) (σ.set i (some v)) b) : bad C ρ σ b := by
  rcases h with h | h | h | h
  · exact .inl h
  · exact .inr (.inl h)
  · exact .inr (.inr (.inl (ownAt_set hy h)))
  · exact .inr (.inr (.inr h))
theorem bad_set {i : Nat} {d : PyData} {b : Addr} (h : bad C (ρ.set i (some (.p d))) (σ.set i (some v)) b) : bad C ρ σ b := bad_setY (fun _ z => by cases z) h
/-- a slot takes data that stays, or a def -/
theorem Rep.setY (R : Rep K C ρ σ H) (i : Nat) {y : D} (hy : ∀ ds, y ≠ .own ds) (ht : ∀ m, y ≠ .ot m) (h : RelS C (ρ.set i (some y)) (σ.set i (some v)) H v y) : Rep K C (ρ.set i (some y)) (σ.set i (some v)) H := by
  have s : Same (wo (bad C ρ σ) H) (wo (bad C (ρ.set i (some y)) (σ.set i (some v))) H) := wo_mono (fun _ z => bad_setY hy z) fun _ _ _ e => e
  have old : ∀ {j : Nat} {z : D}, (ρ.set i (some y))[j]? = some (some z) → (i = j ∧ z = y ∧ i < ρ.length) ∨ (i ≠ j ∧ ρ[j]? = some (some z)) := fun {j z} e => by
    by_cases ij : i = j
    · subst ij
      have hl : i < ρ.length := by
        rw [List.getElem?_set] at e
        simp only [if_true] at e
        split at e
        · assumption
        · cases e
      rw [List.getElem?_set_self hl] at e
      cases e
      exact .inl ⟨rfl, rfl, hl⟩
    · rw [List.getElem?_set_ne ij] at e
      exact .inr ⟨ij, e⟩
  refine ⟨by rw [List.length_set, List.length_set]; exact R.len, fun j z e => ?_, fun a b q ds es h1 h2 h3 h4 => ?_, R.tp, R.ext, R.s1, R.s2, R.s0, R.f0, R.s00, fun q hq => Dt.mono s (R.pin q hq), R.tin, R.s3, R.tab, ?_, fun b hb => ?_⟩
  · rcases old e with ⟨rfl, rfl, hl⟩ | ⟨ij, e⟩
    · exact ⟨v, by rw [List.getElem?_set_self (by rw [← R.len]; exact hl)], h⟩
    · obtain ⟨w, h1, h2⟩ := R.val j z e
      exact ⟨w, by rw [List.getElem?_set_ne ij]; exact h1, h2.mono rfl (fun _ a b => .inl ⟨a, b⟩) s fun _ _ _ _ _ e => e⟩
  · rcases old h1 with ⟨rfl, z, _⟩ | ⟨n1, h1⟩
    · exact (hy _ z.symm).elim
    rcases old h2 with ⟨rfl, z, _⟩ | ⟨n2, h2⟩
    · exact (hy _ z.symm).elim
    rw [List.getElem?_set_ne n1] at h3
    rw [List.getElem?_set_ne n2] at h4
    exact R.dis a b q ds es h1 h2 h3 h4
  · obtain ⟨φ, T⟩ := R.tre
    refine ⟨φ, fun j m e => ?_, fun a b m n c h1 h2 => ?_⟩
    · rcases old e with ⟨rfl, z, _⟩ | ⟨n1, e⟩
      · exact (ht _ z.symm).elim
      · obtain ⟨w, h1, h2, h3⟩ := T.rel j m e
        exact ⟨w, by rw [List.getElem?_set_ne n1]; exact h1, h2.mono s fun _ _ _ e => e, h3⟩
    · rcases old h1 with ⟨rfl, z, _⟩ | ⟨n1, h1⟩
      · exact (ht _ z.symm).elim
      rcases old h2 with ⟨rfl, z, _⟩ | ⟨n2, h2⟩
      · exact (ht _ z.symm).elim
      exact T.dis a b m n c h1 h2
  · obtain ⟨h1, h2, h3, h4⟩ := R.g0 b hb
    exact ⟨h1, h2, h3, fun z => h4 (ownAt_set hy z)⟩
theorem Rep.setP (R : Rep K C ρ σ H) (i : Nat) {d : PyData} (h : Dt (wo (bad C ρ σ) H) v d) : Rep K C (ρ.set i (some (.p d))) (σ.set i (some v)) H :=
  R.setY i (fun _ z => by cases z) (fun _ z => by cases z) (Dt.mono (wo_mono (fun _ z => bad_set z) fun _ _ _ e => e) h)
theorem ownAt_new {i : Nat} {ds : List PyData} {p b : Addr} (h : ownAt (ρ.set i (some (.own ds))) (σ.set i (some (.ref p))) b) : ownAt ρ σ b ∨ b = p := by
  obtain ⟨j, es, h1, h2⟩ := h
  by_cases e : i = j
  · subst e
    rw [List.getElem?_set] at h2
    simp only [if_true] at h2
    split at h2
    · cases h2; exact .inr rfl
    · cases h2
  · rw [List.getElem?_set_ne e] at h1 h2
    exact .inl ⟨j, es, h1, h2⟩
/-- a slot takes a new list -/
theorem Rep.setN (R : Rep K C ρ σ H) (R1 : Rep K C ρ σ H1) (k : Kq C.t H H1) (i : Nat) {p : Addr} {vs : List V} {ds : List PyData} (hp : H p = none) (hp1 : H1 p = some (.lst vs)) (h : DtAll (wo (fun b => bad C ρ σ b ∨ b = p) H1) vs ds) (hz : ds.length ≤ sizeLine) :
    Rep K C (ρ.set i (some (.own ds))) (σ.set i (some (.ref p))) H1 := by
  have bn : ∀ b, bad C (ρ.set i (some (.own ds))) (σ.set i (some (.ref p))) b → bad C ρ σ b ∨ b = p := fun b z => by
    rcases z with z | z | z | z
    · exact .inl (.inl z)
    · exact .inl (.inr (.inl z))
    · rcases ownAt_new z with z | z
      · exact .inl (.inr (.inr (.inl z)))
      · exact .inr z
    · exact .inl (.inr (.inr (.inr z)))
  have s : Same (wo (bad C ρ σ) H) (wo (bad C (ρ.set i (some (.own ds))) (σ.set i (some (.ref p)))) H1) := fun a o e => by
    obtain ⟨e1, e2⟩ := wo_of e
    refine wo_mk (fun z => ?_) (k a o (R.nxb e1) e2)
    rcases bn a z with z | z
    · exact e1 z
    · rw [z, hp] at e2; cases e2
  have h0 : C.H0 p = none := by
    cases q : C.H0 p with
    | none => rfl
    | some o =>
      have := R.ext p o (R.t1 hp) q
      rw [hp] at this; cases this
  have ng : ¬ C.G p := fun z => by
    obtain ⟨⟨o, e⟩, _⟩ := R.g0 p z
    rw [hp] at e; cases e
  refine ⟨by rw [List.length_set, List.length_set]; exact R.len, fun j y e => ?_, fun a b q es fs h1 h2 h3 h4 => ?_, R1.tp, R1.ext, R1.s1, R1.s2, R1.s0, R1.f0, R1.s00, fun q hq => Dt.mono s (R.pin q hq), R1.tin, R1.s3, R1.tab, ?_, fun b hb => ?_⟩
  · by_cases ij : i = j
    · subst ij
      have hl : i < ρ.length := by
        rw [List.getElem?_set] at e
        simp only [if_true] at e
        split at e
        · assumption
        · cases e
      rw [List.getElem?_set_self hl] at e
      cases e
      refine ⟨.ref p, by rw [List.getElem?_set_self (by rw [← R.len]; exact hl)], p, vs, rfl, hp1, DtAll.mono (wo_mono bn fun _ _ _ e => e) h, ⟨h0, fun z => ?_⟩, hz⟩
      obtain ⟨xs, e⟩ := R.f0 p z
      rw [hp] at e; cases e
    · rw [List.getElem?_set_ne ij] at e
      obtain ⟨w, h1, h2⟩ := R.val j y e
      refine ⟨w, by rw [List.getElem?_set_ne ij]; exact h1, h2.mono rfl (fun _ a b => .inl ⟨a, b⟩) s fun q us es e1 e2 e3 => ?_⟩
      subst e1 e2
      obtain ⟨_, _, e4, _, _, h5, _⟩ := h2
      cases e4
      exact k q _ (R.ownX h5.1).1 e3
  · by_cases ia : i = a
    · by_cases ib : i = b
      · rw [← ia, ← ib]
      · exfalso
        subst ia
        rw [List.getElem?_set] at h3
        simp only [if_true] at h3
        split at h3
        · cases h3
          rw [List.getElem?_set_ne ib] at h2 h4
          obtain ⟨w, e1, q, us, e2, e3, _⟩ := R.val b _ h2
          rw [h4] at e1; cases e1; cases e2
          rw [hp] at e3; cases e3
        · cases h3
    · by_cases ib : i = b
      · exfalso
        subst ib
        rw [List.getElem?_set] at h4
        simp only [if_true] at h4
        split at h4
        · cases h4
          rw [List.getElem?_set_ne ia] at h1 h3
          obtain ⟨w, e1, q, us, e2, e3, _⟩ := R.val a _ h1
          rw [h3] at e1; cases e1; cases e2
          rw [hp] at e3; cases e3
        · cases h4
      · rw [List.getElem?_set_ne ia] at h1 h3
        rw [List.getElem?_set_ne ib] at h2 h4
        exact R.dis a b q es fs h1 h2 h3 h4
  · obtain ⟨φ, T⟩ := R.tre
    have old : ∀ {j : Nat} {m : M}, (ρ.set i (some (.own ds)))[j]? = some (some (.ot m)) → i ≠ j ∧ ρ[j]? = some (some (.ot m)) := fun {j m} e => by
      by_cases ij : i = j
      · subst ij
        rw [List.getElem?_set] at e
        simp only [if_true] at e
        split at e <;> cases e
      · rw [List.getElem?_set_ne ij] at e
        exact ⟨ij, e⟩
    refine ⟨φ, fun j m e => ?_, fun a b m n c h1 h2 => T.dis a b m n c (old h1).2 (old h2).2⟩
    obtain ⟨n1, e⟩ := old e
    obtain ⟨w, h1, h2, h3⟩ := T.rel j m e
    exact ⟨w, by rw [List.getElem?_set_ne n1]; exact h1, h2.mono s fun b hb o e => k b o (R.ownX (R.g0 b (h3 b hb)).2.1).1 e, h3⟩
  · obtain ⟨h1, h2, h3, h4⟩ := R1.g0 b hb
    exact ⟨h1, h2, h3, fun z => (ownAt_new z).elim h4 fun e => ng (e ▸ hb)⟩
/-- an own list is changed -/
theorem Rep.put (R : Rep K C ρ σ H) {i : Nat} {p : Addr} {ds es : List PyData} {vs us : List V} (h1 : ρ[i]? = some (some (.own ds))) (h2 : σ[i]? = some (some (.ref p))) (hp : H p = some (.lst us)) (h : DtAll (wo (bad C ρ σ) H) vs es) (hz : es.length ≤ sizeLine) :
    Rep K C (ρ.set i (some (.own es))) σ (upd H p (.lst vs)) := by
  have ho : ∀ b, ownAt (ρ.set i (some (.own es))) σ b ↔ ownAt ρ σ b := fun b => by
    constructor
    · rintro ⟨j, fs, e1, e2⟩
      by_cases ij : i = j
      · subst ij; exact ⟨i, ds, h1, e2⟩
      · rw [List.getElem?_set_ne ij] at e1; exact ⟨j, fs, e1, e2⟩
    · rintro ⟨j, fs, e1, e2⟩
      by_cases ij : i = j
      · subst ij; exact ⟨i, es, by rw [List.getElem?_set_self (List.getElem?_eq_some_iff.mp h1).1], e2⟩
      · exact ⟨j, fs, by rw [List.getElem?_set_ne ij]; exact e1, e2⟩
  have hb : ∀ b, bad C (ρ.set i (some (.own es))) σ b ↔ bad C ρ σ b := fun b => by
    unfold bad
    rw [ho]
  have pw : ownAt ρ σ p := ⟨i, ds, h1, h2⟩
  have pb : bad C ρ σ p := .inr (.inr (.inl pw))
  obtain ⟨w, e1, q, us', e2, e3, e4, e5, e6⟩ := R.val i _ h1
  rw [h2] at e1; cases e1; cases e2
  have s : Same (wo (bad C ρ σ) H) (wo (bad C (ρ.set i (some (.own es))) σ) (upd H p (.lst vs))) := fun a o e => by
    obtain ⟨f1, f2⟩ := wo_of e
    exact wo_mk (fun z => f1 ((hb a).mp z)) (by rw [upd_ne (fun (z : a = p) => f1 (by rw [z]; exact pb))]; exact f2)
  have nt := R.ownX e5.1
  have gp : ∀ b, C.G b → b ≠ p := fun b hb z => (R.g0 b hb).2.2.2 (z ▸ pw)
  have se : ∀ b o, H b = some o → ∃ o', upd H p (.lst vs) b = some o' := fun b o e => by
    by_cases z : b = p
    · exact ⟨_, by rw [z]; exact upd_same⟩
    · exact ⟨o, by rw [upd_ne z]; exact e⟩
  have ot : ∀ {j : Nat} {m : M}, (ρ.set i (some (.own es)))[j]? = some (some (.ot m)) → ρ[j]? = some (some (.ot m)) := fun {j m} e => by
    by_cases ij : i = j
    · subst ij
      rw [List.getElem?_set_self (List.getElem?_eq_some_iff.mp h1).1] at e; cases e
    · rw [List.getElem?_set_ne ij] at e; exact e
  refine ⟨by rw [List.length_set]; exact R.len, fun j y e => ?_, fun a b q gs fs f1 f2 f3 f4 => ?_, R.tp.put nt.1.1 nt.2, fun b o n e => ?_, R.s1, R.s2, fun b hb' => ?_, fun b hb' => ?_, R.s00, fun q hq => Dt.mono s (R.pin q hq), fun q hq => (R.tin q hq).kt fun o e => by rw [upd_ne (fun z => by rw [z, hp] at e; cases e)]; exact e,
    R.s3, R.tab.put nt.1.2 (fun c q => by rw [hp]; exact fun z => lst_code (Option.some.inj z)), ?_, fun b hb' => ?_⟩
  · by_cases ij : i = j
    · subst ij
      rw [List.getElem?_set_self (List.getElem?_eq_some_iff.mp h1).1] at e
      cases e
      exact ⟨.ref p, h2, p, vs, rfl, upd_same, DtAll.mono s h, e5, hz⟩
    · rw [List.getElem?_set_ne ij] at e
      obtain ⟨w, g1, g2⟩ := R.val j y e
      refine ⟨w, g1, g2.mono rfl (fun _ a b => .inl ⟨a, b⟩) s fun q us es' f1 f2 f3 => ?_⟩
      subst f1 f2
      rw [upd_ne (fun z => ij ?_)]
      · exact f3
      · subst z
        exact R.dis i j q ds es' h1 e h2 g1
  · have old : ∀ {j : Nat} {gs : List PyData}, (ρ.set i (some (.own es)))[j]? = some (some (.own gs)) → ∃ gs', ρ[j]? = some (some (.own gs')) := fun {j gs} f => by
      by_cases ij : i = j
      · subst ij; exact ⟨ds, h1⟩
      · rw [List.getElem?_set_ne ij] at f; exact ⟨gs, f⟩
    obtain ⟨_, g1⟩ := old f1
    obtain ⟨_, g2⟩ := old f2
    exact R.dis a b q _ _ g1 g2 f3 f4
  · rw [upd_ne (fun z => by rw [z, e5.1] at e; cases e)]
    exact R.ext b o n e
  · obtain ⟨o, e⟩ := R.s0 b hb'
    exact se b o e
  · obtain ⟨o, e⟩ := R.f0 b hb'
    exact se b o e
  · obtain ⟨φ, T⟩ := R.tre
    refine ⟨φ, fun j m e => ?_, fun a b m n c f1 f2 => T.dis a b m n c (ot f1) (ot f2)⟩
    obtain ⟨w, g1, g2, g3⟩ := T.rel j m (ot e)
    exact ⟨w, g1, g2.mono s fun b hb' o e => by rw [upd_ne (gp b (g3 b hb'))]; exact e, g3⟩
  · obtain ⟨⟨o, e⟩, g2, g3, g4⟩ := R.g0 b hb'
    exact ⟨se b o e, g2, g3, fun z => g4 ((ho b).mp z)⟩
/-- an own list is given away -/
theorem Rep.frz (R : Rep K C ρ σ H) {i : Nat} {ds : List PyData} (h1 : ρ[i]? = some (some (.own ds))) : Rep K C (ρ.set i (some (.p (.list ds)))) σ H := by
  obtain ⟨w, h2, p, us, rfl, e3, e4, e5, e6⟩ := R.val i _ h1
  have hs : σ.set i (some (.ref p)) = σ := by
    apply List.ext_getElem?
    intro j
    by_cases ij : i = j
    · subst ij
      rw [List.getElem?_set_self (List.getElem?_eq_some_iff.mp h2).1, h2]
    · rw [List.getElem?_set_ne ij]
  have pw : ownAt ρ σ p := ⟨i, ds, h1, h2⟩
  have hb : ∀ b, bad C (ρ.set i (some (.p (.list ds)))) σ b → bad C ρ σ b := fun b z => bad_set (v := .ref p) (by rw [hs]; exact z)
  have np : ¬ bad C (ρ.set i (some (.p (.list ds)))) σ p := fun z => by
    rcases z with z | z | ⟨j, es, f1, f2⟩ | z
    · obtain ⟨o, q⟩ := R.s00 p z
      rw [e5.1] at q; cases q
    · exact e5.2 z
    · by_cases ij : i = j
      · subst ij
        rw [List.getElem?_set_self (List.getElem?_eq_some_iff.mp h1).1] at f1
        cases f1
      · rw [List.getElem?_set_ne ij] at f1
        exact ij (R.dis i j p ds es h1 f1 h2 f2)
    · exact (R.g0 p z).2.2.2 pw
  have s : Same (wo (bad C ρ σ) H) (wo (bad C (ρ.set i (some (.p (.list ds)))) σ) H) := wo_mono hb fun _ _ _ e => e
  have z := R.setY (v := .ref p) i (y := .p (.list ds)) (fun _ z => by cases z) (fun _ z => by cases z) (by rw [hs]; exact .lst (wo_mk np e3) (DtAll.mono s e4))
  rw [hs] at z
  exact z
/-- a slot takes new lists and dicts of one's own -/
theorem Rep.setT (R : Rep K C ρ σ H) (R1 : Rep K C ρ σ H1) (k : Kq C.t H H1) (i : Nat) {m : M} {f : List Addr} (hf : ∀ b ∈ f, H b = none) (h : RelM H1 (fun b => bad C ρ σ b ∨ b ∈ f) v m f) :
    Rep K (C.gg fun b => C.G b ∨ b ∈ f) (ρ.set i (some (.ot m))) (σ.set i (some v)) H1 := by
  have hy : ∀ ds, D.ot m ≠ .own ds := fun _ z => by cases z
  have bn : ∀ b, bad (C.gg fun b => C.G b ∨ b ∈ f) (ρ.set i (some (.ot m))) (σ.set i (some v)) b → bad C ρ σ b ∨ b ∈ f := fun b z => by
    rcases z with z | z | z | z | z
    · exact .inl (.inl z)
    · exact .inl (.inr (.inl z))
    · exact .inl (.inr (.inr (.inl (ownAt_set hy z))))
    · exact .inl (.inr (.inr (.inr z)))
    · exact .inr z
  have h0 : ∀ p ∈ f, C.H0 p = none := fun p hp => by
    cases q : C.H0 p with
    | none => rfl
    | some o =>
      have := R.ext p o (R.t1 (hf p hp)) q
      rw [hf p hp] at this; cases this
  have s : Same (wo (bad C ρ σ) H) (wo (bad (C.gg fun b => C.G b ∨ b ∈ f) (ρ.set i (some (.ot m))) (σ.set i (some v))) H1) := fun a o e => by
    obtain ⟨e1, e2⟩ := wo_of e
    refine wo_mk (fun z => ?_) (k a o (R.nxb e1) e2)
    rcases bn a z with z | z
    · exact e1 z
    · rw [hf a z] at e2; cases e2
  have s1 : Same (wo (fun b => bad C ρ σ b ∨ b ∈ f) H1) (wo (bad (C.gg fun b => C.G b ∨ b ∈ f) (ρ.set i (some (.ot m))) (σ.set i (some v))) H1) := wo_mono bn fun _ _ _ e => e
  have old : ∀ {j : Nat} {z : D}, (ρ.set i (some (.ot m)))[j]? = some (some z) → (i = j ∧ z = .ot m ∧ i < ρ.length) ∨ (i ≠ j ∧ ρ[j]? = some (some z)) := fun {j z} e => by
    by_cases ij : i = j
    · subst ij
      have hl : i < ρ.length := by
        rw [List.getElem?_set] at e
        simp only [if_true] at e
        split at e
        · assumption
        · cases e
      rw [List.getElem?_set_self hl] at e
      cases e
      exact .inl ⟨rfl, rfl, hl⟩
    · rw [List.getElem?_set_ne ij] at e
      exact .inr ⟨ij, e⟩
  refine ⟨by rw [List.length_set, List.length_set]; exact R.len, fun j y e => ?_, fun a b q ds es h1 h2 h3 h4 => ?_, R1.tp, R1.ext, R1.s1, R1.s2, R1.s0, R1.f0, R1.s00, fun q hq => Dt.mono s (R.pin q hq), R1.tin, R1.s3, R1.tab, ?_, fun b hb => ?_⟩
  · rcases old e with ⟨rfl, rfl, hl⟩ | ⟨ij, e⟩
    · exact ⟨v, by rw [List.getElem?_set_self (by rw [← R.len]; exact hl)], trivial⟩
    · obtain ⟨w, h1, h2⟩ := R.val j y e
      refine ⟨w, by rw [List.getElem?_set_ne ij]; exact h1, h2.mono rfl (fun _ a b => .inl ⟨a, b⟩) s fun q us es e1 e2 e3 => ?_⟩
      subst e1 e2
      obtain ⟨_, _, e4, _, _, h5, _⟩ := h2
      cases e4
      exact k q _ (R.ownX h5.1).1 e3
  · rcases old h1 with ⟨rfl, z, _⟩ | ⟨n1, h1⟩
    · cases z
    rcases old h2 with ⟨rfl, z, _⟩ | ⟨n2, h2⟩
    · cases z
    rw [List.getElem?_set_ne n1] at h3
    rw [List.getElem?_set_ne n2] at h4
    exact R.dis a b q ds es h1 h2 h3 h4
  · obtain ⟨φ, T⟩ := R.tre
    have gf : ∀ b, C.G b → b ∉ f := fun b hb z => by
      obtain ⟨⟨o, e⟩, _⟩ := R.g0 b hb
      rw [hf b z] at e; cases e
    refine ⟨fun j => if j = i then f else φ j, fun j n e => ?_, fun a b n1 n2 c h1 h2 ne hc => ?_⟩
    · rcases old e with ⟨rfl, z, hl⟩ | ⟨ij, e⟩
      · cases z
        exact ⟨v, by rw [List.getElem?_set_self (by rw [← R.len]; exact hl)], by rw [if_pos rfl]; exact h.mono s1 fun _ _ _ e => e, fun b hb => .inr (by rw [if_pos rfl] at hb; exact hb)⟩
      · obtain ⟨w, h1, h2, h3⟩ := T.rel j n e
        rw [if_neg (fun z => ij z.symm)]
        exact ⟨w, by rw [List.getElem?_set_ne ij]; exact h1, h2.mono s fun b hb o e => k b o (R.ownX (R.g0 b (h3 b hb)).2.1).1 e, fun b hb => .inl (h3 b hb)⟩
    · have cl : ∀ {a : Nat} {n : M}, (ρ.set i (some (.ot m)))[a]? = some (some (.ot n)) → ∀ c, c ∈ (if a = i then f else φ a) → (a = i ∧ c ∈ f) ∨ (a ≠ i ∧ ρ[a]? = some (some (.ot n)) ∧ c ∈ φ a ∧ C.G c) := fun {a n} h c hc => by
        by_cases z : a = i
        · rw [if_pos z] at hc; exact .inl ⟨z, hc⟩
        · rw [if_neg z] at hc
          rcases old h with ⟨y, _⟩ | ⟨_, h⟩
          · exact (z y.symm).elim
          · obtain ⟨w, _, _, h3⟩ := T.rel a n h
            exact .inr ⟨z, h, hc, h3 c hc⟩
      intro hd
      rcases cl h1 c hc with ⟨x1, x2⟩ | ⟨x1, x2, x3, x4⟩
      · rcases cl h2 c hd with ⟨y1, y2⟩ | ⟨y1, y2, y3, y4⟩
        · exact ne (x1.trans y1.symm)
        · exact gf c y4 x2
      · rcases cl h2 c hd with ⟨y1, y2⟩ | ⟨y1, y2, y3, y4⟩
        · exact gf c x4 y2
        · exact T.dis a b n1 n2 c x2 y2 ne x3 y3
  · rcases hb with hb | hb
    · obtain ⟨h1, h2, h3, h4⟩ := R1.g0 b hb
      exact ⟨h1, h2, h3, fun z => h4 (ownAt_set hy z)⟩
    · refine ⟨h.some b hb, h0 b hb, fun z => ?_, fun z => ?_⟩
      · obtain ⟨o, e⟩ := R.f0 b z
        rw [hf b hb] at e; cases e
      · obtain ⟨o, e⟩ := R.badL (.inr (.inr (.inl (ownAt_set hy z))))
        rw [hf b hb] at e; cases e
/-- lists and dicts of one's own are given away -/
theorem Rep.frzT (R : Rep K C ρ σ H) {i : Nat} {m : M} (h1 : ρ[i]? = some (some (.ot m))) : ∃ G, Rep K (C.gg G) (ρ.set i (some (.p m.dat))) σ H := by
  obtain ⟨φ, T⟩ := R.tre
  obtain ⟨w, h2, h3, h4⟩ := T.rel i m h1
  have hs : σ.set i (some w) = σ := by
    apply List.ext_getElem?
    intro j
    by_cases ij : i = j
    · subst ij
      rw [List.getElem?_set_self (List.getElem?_eq_some_iff.mp h2).1, h2]
    · rw [List.getElem?_set_ne ij]
  have hl := (List.getElem?_eq_some_iff.mp h1).1
  refine ⟨fun b => C.G b ∧ b ∉ φ i, ?_⟩
  have hy : ∀ ds, D.p m.dat ≠ .own ds := fun _ z => by cases z
  have ow : ∀ b, ownAt (ρ.set i (some (.p m.dat))) σ b → ownAt ρ σ b := fun b z => ownAt_set (v := w) hy (by rw [hs]; exact z)
  have hb : ∀ b, bad (C.gg fun b => C.G b ∧ b ∉ φ i) (ρ.set i (some (.p m.dat))) σ b → bad C ρ σ b := fun b z => by
    rcases z with z | z | z | z
    · exact .inl z
    · exact .inr (.inl z)
    · exact .inr (.inr (.inl (ow b z)))
    · exact .inr (.inr (.inr z.1))
  have np : ∀ b ∈ φ i, ¬ bad (C.gg fun b => C.G b ∧ b ∉ φ i) (ρ.set i (some (.p m.dat))) σ b := fun b hbi z => by
    obtain ⟨g1, g2, g3, g4⟩ := R.g0 b (h4 b hbi)
    rcases z with z | z | z | z
    · obtain ⟨o, q⟩ := R.s00 b z
      rw [g2] at q; cases q
    · exact g3 z
    · exact g4 (ow b z)
    · exact z.2 hbi
  have s : Same (wo (bad C ρ σ) H) (wo (bad (C.gg fun b => C.G b ∧ b ∉ φ i) (ρ.set i (some (.p m.dat))) σ) H) := wo_mono hb fun _ _ _ e => e
  have old : ∀ {j : Nat} {z : D}, (ρ.set i (some (.p m.dat)))[j]? = some (some z) → (i = j ∧ z = .p m.dat) ∨ (i ≠ j ∧ ρ[j]? = some (some z)) := fun {j z} e => by
    by_cases ij : i = j
    · subst ij
      rw [List.getElem?_set_self hl] at e
      cases e
      exact .inl ⟨rfl, rfl⟩
    · rw [List.getElem?_set_ne ij] at e
      exact .inr ⟨ij, e⟩
  refine ⟨by rw [List.length_set]; exact R.len, fun j y e => ?_, fun a b q gs fs f1 f2 f3 f4 => ?_, R.tp, R.ext, R.s1, R.s2, R.s0, R.f0, R.s00, fun q hq => Dt.mono s (R.pin q hq), R.tin, R.s3, R.tab, ⟨φ, fun j n e => ?_, fun a b n1 n2 c f1 f2 => ?_⟩, fun b hb' => ?_⟩
  · rcases old e with ⟨rfl, rfl⟩ | ⟨ij, e⟩
    · exact ⟨w, h2, h3.dt hb np⟩
    · obtain ⟨w, g1, g2⟩ := R.val j y e
      exact ⟨w, g1, g2.mono rfl (fun _ a b => .inl ⟨a, b⟩) s fun _ _ _ _ _ e => e⟩
  · rcases old f1 with ⟨_, z⟩ | ⟨_, f1⟩
    · cases z
    rcases old f2 with ⟨_, z⟩ | ⟨_, f2⟩
    · cases z
    exact R.dis a b q gs fs f1 f2 f3 f4
  · rcases old e with ⟨_, z⟩ | ⟨ij, e⟩
    · cases z
    obtain ⟨u, g1, g2, g3⟩ := T.rel j n e
    exact ⟨u, g1, g2.mono s fun _ _ _ e => e, fun b hb => ⟨g3 b hb, fun z => T.dis i j m n b h1 e ij z hb⟩⟩
  · rcases old f1 with ⟨_, z⟩ | ⟨_, f1⟩
    · cases z
    rcases old f2 with ⟨_, z⟩ | ⟨_, f2⟩
    · cases z
    exact T.dis a b n1 n2 c f1 f2
  · obtain ⟨g1, g2, g3, g4⟩ := R.g0 b hb'.1
    exact ⟨g1, g2, g3, fun z => g4 (ow b z)⟩
/-- lists and dicts of one's own are changed: what is written stands among them -/
theorem Rep.putT0 (R : Rep K C ρ σ H) {φ : Nat → List Addr} (T : Trees C ρ σ H φ) {i : Nat} {m n : M} {o : HO} {p : Addr} (h1 : ρ[i]? = some (some (.ot m))) (h2 : σ[i]? = some (some v)) (hc : ∀ c q, H p ≠ some (LamX.CodeO c q)) (hf : ∀ u xs, H p ≠ some (.frz u (.tup xs)))
    (pf : p ∈ φ i) (g4 : RelM (upd H p o) (bad C ρ σ) v n (φ i)) : Rep K C (ρ.set i (some (.ot n))) σ (upd H p o) := by
  obtain ⟨w', g1, g2, g3⟩ := T.rel i m h1
  rw [h2] at g1; cases g1
  have pg := g3 p pf
  obtain ⟨⟨o0, hp⟩, p0, pF, pO⟩ := R.g0 p pg
  have hl := (List.getElem?_eq_some_iff.mp h1).1
  have ho : ∀ b, ownAt (ρ.set i (some (.ot n))) σ b ↔ ownAt ρ σ b := fun b => by
    constructor
    · rintro ⟨j, fs, e1, e2⟩
      by_cases ij : i = j
      · subst ij; rw [List.getElem?_set_self hl] at e1; cases e1
      · rw [List.getElem?_set_ne ij] at e1; exact ⟨j, fs, e1, e2⟩
    · rintro ⟨j, fs, e1, e2⟩
      by_cases ij : i = j
      · subst ij; rw [h1] at e1; cases e1
      · exact ⟨j, fs, by rw [List.getElem?_set_ne ij]; exact e1, e2⟩
  have hb : ∀ b, bad C (ρ.set i (some (.ot n))) σ b ↔ bad C ρ σ b := fun b => by
    unfold bad
    rw [ho]
  have pb : bad C ρ σ p := .inr (.inr (.inr pg))
  have s : Same (wo (bad C ρ σ) H) (wo (bad C (ρ.set i (some (.ot n))) σ) (upd H p o)) := fun a u e => by
    obtain ⟨f1, f2⟩ := wo_of e
    exact wo_mk (fun z => f1 ((hb a).mp z)) (by rw [upd_ne (fun (z : a = p) => f1 (by rw [z]; exact pb))]; exact f2)
  have nt := R.ownX p0
  have se : ∀ b u, H b = some u → ∃ o', upd H p o b = some o' := fun b u e => by
    by_cases z : b = p
    · exact ⟨_, by rw [z]; exact upd_same⟩
    · exact ⟨u, by rw [upd_ne z]; exact e⟩
  have old : ∀ {j : Nat} {z : D}, (ρ.set i (some (.ot n)))[j]? = some (some z) → (i = j ∧ z = .ot n) ∨ (i ≠ j ∧ ρ[j]? = some (some z)) := fun {j z} e => by
    by_cases ij : i = j
    · subst ij
      rw [List.getElem?_set_self hl] at e
      cases e
      exact .inl ⟨rfl, rfl⟩
    · rw [List.getElem?_set_ne ij] at e
      exact .inr ⟨ij, e⟩
  refine ⟨by rw [List.length_set]; exact R.len, fun j y e => ?_, fun a b q gs fs f1 f2 f3 f4 => ?_, R.tp.put nt.1.1 nt.2, fun b u n e => ?_, R.s1, R.s2, fun b hb' => ?_, fun b hb' => ?_, R.s00, fun q hq => Dt.mono s (R.pin q hq), fun q hq => (R.tin q hq).kt fun o e => by rw [upd_ne (fun z => hf _ _ (by rw [← z]; exact e))]; exact e,
    R.s3, R.tab.put nt.1.2 hc, ⟨φ, fun j k e => ?_, fun a b n1 n2 c f1 f2 => ?_⟩, fun b hb' => ?_⟩
  · rcases old e with ⟨rfl, rfl⟩ | ⟨ij, e⟩
    · exact ⟨v, h2, trivial⟩
    · obtain ⟨w, g1, g2⟩ := R.val j y e
      refine ⟨w, g1, g2.mono rfl (fun _ a b => .inl ⟨a, b⟩) s fun q us es' f1 f2 f3 => ?_⟩
      subst f1 f2
      rw [upd_ne (fun z => pO (by subst z; exact ⟨j, es', e, g1⟩))]
      exact f3
  · rcases old f1 with ⟨_, z⟩ | ⟨_, f1⟩
    · cases z
    rcases old f2 with ⟨_, z⟩ | ⟨_, f2⟩
    · cases z
    exact R.dis a b q gs fs f1 f2 f3 f4
  · rw [upd_ne (fun z => by rw [z, p0] at e; cases e)]
    exact R.ext b u n e
  · obtain ⟨o, e⟩ := R.s0 b hb'
    exact se b o e
  · obtain ⟨o, e⟩ := R.f0 b hb'
    exact se b o e
  · rcases old e with ⟨rfl, z⟩ | ⟨ij, e⟩
    · cases z
      exact ⟨v, h2, g4.mono (wo_mono (fun b z => (hb b).mp z) fun _ _ _ e => e) fun _ _ _ e => e, g3⟩
    · obtain ⟨u, f1, f2, f3⟩ := T.rel j k e
      exact ⟨u, f1, f2.mono s fun b hb' o e' => by rw [upd_ne (fun z => T.dis i j m k p h1 e ij pf (by subst z; exact hb'))]; exact e', f3⟩
  · have up : ∀ {a : Nat} {k : M}, (ρ.set i (some (.ot n)))[a]? = some (some (.ot k)) → ∃ k', ρ[a]? = some (some (.ot k')) := fun {a k} f => by
      rcases old f with ⟨rfl, _⟩ | ⟨_, f⟩
      · exact ⟨m, h1⟩
      · exact ⟨k, f⟩
    obtain ⟨_, e1⟩ := up f1
    obtain ⟨_, e2⟩ := up f2
    exact T.dis a b _ _ c e1 e2
  · obtain ⟨⟨u, e⟩, g2, g3, g4⟩ := R.g0 b hb'
    exact ⟨se b u e, g2, g3, fun z => g4 ((ho b).mp z)⟩
theorem Rep.putT (R : Rep K C ρ σ H) {i : Nat} {m n : M} {o : HO} {p : Addr} (h1 : ρ[i]? = some (some (.ot m))) (h2 : σ[i]? = some (some v)) (hc : ∀ c q, H p ≠ some (LamX.CodeO c q)) (hf : ∀ u xs, H p ≠ some (.frz u (.tup xs)))
    (w : ∀ f, RelM H (bad C ρ σ) v m f → (∀ b ∈ f, C.G b) → p ∈ f ∧ RelM (upd H p o) (bad C ρ σ) v n f) : Rep K C (ρ.set i (some (.ot n))) σ (upd H p o) := by
  obtain ⟨φ, T⟩ := R.tre
  obtain ⟨w', g1, g2, g3⟩ := T.rel i m h1
  rw [h2] at g1; cases g1
  obtain ⟨pf, g4⟩ := w (φ i) g2 g3
  exact R.putT0 T h1 h2 hc hf pf g4
/-- a list is being made at a new place -/
abbrev Cd.at (C : Cd) (p : Addr) : Cd := { C with F := fun b => C.F b ∨ b = p }
theorem bad_at {p b : Addr} : bad (C.at p) ρ σ b ↔ bad C ρ σ b ∨ b = p := by
  constructor
  · rintro (z | (z | z) | z | z)
    · exact .inl (.inl z)
    · exact .inl (.inr (.inl z))
    · exact .inr z
    · exact .inl (.inr (.inr (.inl z)))
    · exact .inl (.inr (.inr (.inr z)))
  · rintro ((z | z | z | z) | z)
    · exact .inl z
    · exact .inr (.inl (.inl z))
    · exact .inr (.inr (.inl z))
    · exact .inr (.inr (.inr z))
    · exact .inr (.inl (.inr z))
theorem Rep.open (R : Rep K C ρ σ H) {p : Addr} {o : HO} (hp : H p = none) : Rep K (C.at p) ρ σ (upd H p o) := by
  have s : Same (wo (bad C ρ σ) H) (wo (bad (C.at p) ρ σ) (upd H p o)) := fun a u e => by
    obtain ⟨f1, f2⟩ := wo_of e
    have n := ne_of_none f2 hp
    exact wo_mk (fun z => (bad_at.mp z).elim f1 n) (by rw [upd_ne n]; exact f2)
  have kp : ∀ b u, H b = some u → upd H p o b = some u := fun b u e => by rw [upd_ne (ne_of_none e hp)]; exact e
  refine ⟨R.len, fun j y e => ?_, R.dis, R.tp.new hp, R.ext.trans (Kq.new hp), R.s1, R.s2, fun b hb => ?_, fun b hb => ?_, R.s00, fun q hq => Dt.mono s (R.pin q hq), fun q hq => (R.tin q hq).kt fun o e => kp _ _ e, R.s3, R.tab.new hp, ?_, fun b hb => ?_⟩
  · obtain ⟨w, g1, g2⟩ := R.val j y e
    refine ⟨w, g1, ?_⟩
    cases y with
    | own ds =>
      obtain ⟨q, us, rfl, h3, h4, h5, h6⟩ := g2
      have n := ne_of_none h3 hp
      exact ⟨q, us, rfl, kp _ _ h3, DtAll.mono s h4, ⟨h5.1, fun z => z.elim h5.2 n⟩, h6⟩
    | p d => exact Dt.mono s g2
    | nw ds => exact g2
    | tape => exact g2
    | ot m => exact g2
    | nt m => exact g2
    | fv f F => exact ⟨g2.1, s _ _ g2.2.1, s _ _ g2.2.2⟩
  · obtain ⟨xs, e⟩ := R.s0 b hb
    exact ⟨xs, kp _ _ e⟩
  · rcases hb with hb | hb
    · obtain ⟨xs, e⟩ := R.f0 b hb
      exact ⟨xs, kp _ _ e⟩
    · exact ⟨o, by rw [hb]; exact upd_same⟩
  · obtain ⟨φ, T⟩ := R.tre
    exact ⟨φ, T.mono s (fun b o _ e => kp _ _ e) fun _ z => z⟩
  · obtain ⟨⟨u, e⟩, g2, g3, g4⟩ := R.g0 b hb
    exact ⟨⟨u, kp _ _ e⟩, g2, fun z => z.elim g3 (ne_of_none e hp), g4⟩
theorem Rep.shut {p : Addr} (R : Rep K (C.at p) ρ σ H) : Rep K C ρ σ H := by
  have s : Same (wo (bad (C.at p) ρ σ) H) (wo (bad C ρ σ) H) := wo_mono (fun _ z => bad_at.mpr (.inl z)) fun _ _ _ e => e
  refine ⟨R.len, fun j y e => ?_, R.dis, R.tp, R.ext, R.s1, R.s2, R.s0, fun b hb => R.f0 b (.inl hb), R.s00, fun q hq => Dt.mono s (R.pin q hq), R.tin, R.s3, R.tab, ?_, fun b hb => ?_⟩
  · obtain ⟨w, g1, g2⟩ := R.val j y e
    refine ⟨w, g1, ?_⟩
    cases y with
    | own ds =>
      obtain ⟨q, us, rfl, h3, h4, h5, h6⟩ := g2
      exact ⟨q, us, rfl, h3, DtAll.mono s h4, ⟨h5.1, fun z => h5.2 (.inl z)⟩, h6⟩
    | p d => exact Dt.mono s g2
    | nw ds => exact g2
    | tape => exact g2
    | ot m => exact g2
    | nt m => exact g2
    | fv f F => exact ⟨g2.1, s _ _ g2.2.1, s _ _ g2.2.2⟩
  · obtain ⟨φ, T⟩ := R.tre
    exact ⟨φ, T.mono s (fun b o _ e => e) fun _ z => z⟩
  · obtain ⟨g1, g2, g3, g4⟩ := R.g0 b hb
    exact ⟨g1, g2, fun z => g3 (.inl z), g4⟩
/-- what is made at the new place so far is written -/
theorem Rep.grow {p : Addr} {u o : HO} (R : Rep K (C.at p) ρ σ H) (hp : H p = some u) (hu : ∀ o t, u ≠ .frz o t) (hc : ∀ c q, H p ≠ some (LamX.CodeO c q)) (n0 : ¬ C.S0 p) (n1 : ¬ ownAt ρ σ p) (n2 : nx C.t p) (n3 : p ≠ C.t.2) (n4 : C.H0 p = none) : Rep K (C.at p) ρ σ (upd H p o) := by
  have s : Same (wo (bad (C.at p) ρ σ) H) (wo (bad (C.at p) ρ σ) (upd H p o)) := wo_mono (fun _ z => z) fun a o n e => by
    rw [upd_ne (fun z => n (bad_at.mpr (.inr z)))]; exact e
  have gp : ∀ b, C.G b → b ≠ p := fun b hb z => (R.g0 b hb).2.2.1 (.inr z)
  have ti : ∀ q ∈ C.tups, TupG (upd H p o) q.1 q.2 := fun q hq => (R.tin q hq).kt fun o e => by
    rw [upd_ne (fun z => ?_)]
    · exact e
    · rw [z, hp] at e
      exact (hu _ _ (Option.some.inj e)).elim
  refine ⟨R.len, fun j y e => ?_, R.dis, R.tp.put n2.1 n3, fun b o n e => ?_, R.s1, R.s2, fun b hb => ?_, fun b hb => ?_, R.s00, fun q hq => Dt.mono s (R.pin q hq), ti, R.s3, R.tab.put n2.2 hc, ?_, fun b hb => ?_⟩
  · obtain ⟨w, g1, g2⟩ := R.val j y e
    exact ⟨w, g1, g2.mono rfl (fun _ a b => .inl ⟨a, b⟩) s fun q us es e1 e2 e3 => by subst e1 e2; rw [upd_ne (fun z => n1 (by subst z; exact ⟨j, es, e, g1⟩))]; exact e3⟩
  · rw [upd_ne (fun z => by rw [z, n4] at e; cases e)]
    exact R.ext b o n e
  · obtain ⟨xs, e⟩ := R.s0 b hb
    exact ⟨xs, by rw [upd_ne (fun (z : b = p) => n0 (by rw [← z]; exact hb))]; exact e⟩
  · by_cases z : b = p
    · exact ⟨o, by rw [z]; exact upd_same⟩
    · obtain ⟨xs, e⟩ := R.f0 b hb
      exact ⟨xs, by rw [upd_ne z]; exact e⟩
  · obtain ⟨φ, T⟩ := R.tre
    exact ⟨φ, T.mono s (fun b o hb e => by rw [upd_ne (gp b hb)]; exact e) fun _ z => z⟩
  · obtain ⟨⟨u, e⟩, g2, g3, g4⟩ := R.g0 b hb
    exact ⟨⟨u, by rw [upd_ne (gp b hb)]; exact e⟩, g2, g3, g4⟩
end
end My
namespace My
open PySem PySem.Spec PyProof.Rows L2
variable [TB]

/-! ### statements -/
structure EndsD where
  nx : Ro → Prop
  rt : D → Prop
  bk : Ro → Prop := fun _ => False
  ct : Ro → Prop := fun _ => False
abbrev TSD := EndsD → Ro → Prop
def RelR (C : Cd) (H : Hp) (v : V) : D → Prop
  | .p d => Dt (wo C.S0 H) v d
  | .nw ds => ∃ p vs, v = .ref p ∧ C.H0 p = none ∧ H p = some (.lst vs) ∧ DtAll (wo (fun b => C.S0 b ∨ b = p) H) vs ds ∧ ds.length ≤ sizeLine
  | _ => False
structure RetOk (K : PySem.W.Frag) (C : Cd) (v : V) (H : Hp) (x : D) : Prop where
  tp : Tape K H C.t
  ext : Kq C.t C.H0 H
  tab : Tbs H
  rel : RelR C H v x
structure Link (K : PySem.W.Frag) (C : Cd) (Dd : EndsD) (D : Ends) : Prop where
  nx' : ∀ G ρ σ H, Rep K (C.gg G) ρ σ H → Dd.nx ρ → D.nx σ H
  rt : ∀ v H x, RetOk K C v H x → Dd.rt x → D.rt v H
  bk' : ∀ G ρ σ H, Rep K (C.gg G) ρ σ H → Dd.bk ρ → D.bk σ H
  ct' : ∀ G ρ σ H, Rep K (C.gg G) ρ σ H → Dd.ct ρ → D.ct σ H
section
variable {K : PySem.W.Frag} {C : Cd} {Dd : EndsD} {De : Ends}
theorem Link.nx (L : Link K C Dd De) : ∀ ρ σ H, Rep K C ρ σ H → Dd.nx ρ → De.nx σ H := fun ρ σ H R q => L.nx' C.G ρ σ H R q
theorem Link.bk (L : Link K C Dd De) : ∀ ρ σ H, Rep K C ρ σ H → Dd.bk ρ → De.bk σ H := fun ρ σ H R q => L.bk' C.G ρ σ H R q
theorem Link.ct (L : Link K C Dd De) : ∀ ρ σ H, Rep K C ρ σ H → Dd.ct ρ → De.ct σ H := fun ρ σ H R q => L.ct' C.G ρ σ H R q
theorem RetOk.gg {v : V} {H : Hp} {x : D} {G : Addr → Prop} (r : RetOk K (C.gg G) v H x) : RetOk K C v H x := ⟨r.tp, r.ext, r.tab, r.rel⟩
/-- .. with other places of trees -/
theorem Link.gg (L : Link K C Dd De) (G : Addr → Prop) : Link K (C.gg G) Dd De := ⟨fun G' ρ σ H R q => L.nx' G' ρ σ H R q, fun v H x r q => L.rt v H x r.gg q, fun G' ρ σ H R q => L.bk' G' ρ σ H R q, fun G' ρ σ H R q => L.ct' G' ρ σ H R q⟩
end
def upS (K : PySem.W.Frag) (t : TSD) : TS := fun D σ H => ∃ C ρ Dd, Rep K C ρ σ H ∧ t Dd ρ ∧ Link K C Dd D
abbrev FS (X : Cx) (st : Stmt) (t : TSD) : Prop := PS X st (upS X.K t)
abbrev FSs (X : Cx) (st : List Stmt) (t : TSD) : Prop := PSs X st (upS X.K t)
section
variable {X : Cx} {st : Stmt} {sts : List Stmt} {t u : TSD}
def dNext : TSD := fun Dd ρ => Dd.nx ρ
def dSeq (t u : TSD) : TSD := fun Dd ρ => t { Dd with nx := u Dd } ρ
theorem fss_nil : FSs X [] dNext := by
  refine pss_nil.mo ?_
  rintro D σ H ⟨C, ρ, Dd, R, h, L⟩
  exact L.nx ρ σ H R h
theorem fss_cons (h1 : FS X st t) (h2 : FSs X sts u) : FSs X (st :: sts) (dSeq t u) := by
  refine (pss_cons h1 h2).mo ?_
  rintro D σ H ⟨C, ρ, Dd, R, h, L⟩
  exact ⟨C, ρ, _, R, h, fun G ρ' σ' H' R' q => ⟨C.gg G, ρ', Dd, R', q, L.gg G⟩, L.rt, L.bk', L.ct'⟩
theorem fss_one (h1 : FS X st t) : FSs X [st] t := pss_one h1
def dFz (i : Nat) (t : TSD) : TSD := fun Dd ρ => ∃ ds, ρ[i]? = some (some (.own ds)) ∧ t Dd (ρ.set i (some (.p (.list ds))))
theorem fss_fz (i : Nat) (h : FSs X sts t) : FSs X sts (dFz i t) := by
  refine PSs.mo h ?_
  rintro D σ H ⟨C, ρ, Dd, R, ⟨ds, e, h⟩, L⟩
  exact ⟨C, _, Dd, R.frz e, h, L⟩
def dPass : TSD := fun Dd ρ => Dd.nx ρ
def dBreak : TSD := fun Dd ρ => Dd.bk ρ
def dCont : TSD := fun Dd ρ => Dd.ct ρ
theorem fs_pass {pos} : FS X (.Pass pos) dPass := by
  refine ps_pass.mo ?_
  rintro D σ H ⟨C, ρ, Dd, R, h, L⟩
  exact L.nx ρ σ H R h
theorem fs_break {pos} : FS X (.Break pos) dBreak := by
  refine ps_break.mo ?_
  rintro D σ H ⟨C, ρ, Dd, R, h, L⟩
  exact L.bk ρ σ H R h
theorem fs_cont {pos} : FS X (.Continue pos) dCont := by
  refine ps_continue.mo ?_
  rintro D σ H ⟨C, ρ, Dd, R, h, L⟩
  exact L.ct ρ σ H R h
def dNever : TSD := fun _ _ => False
theorem fs_never : FS X st dNever := by
  refine ps_never.mo ?_
  rintro D σ H ⟨C, ρ, Dd, R, h, L⟩
  exact h
/-- names -/
def dSet (i : Nat) (te : TED) : TSD := fun Dd ρ => te ρ fun x => ∃ d, x.st = some d ∧ Dd.nx (ρ.set i (some (.p d)))
def dSetN (i : Nat) (te : TED) : TSD := fun Dd ρ => te ρ fun x => ∃ ds, x = .nw ds ∧ Dd.nx (ρ.set i (some (.own ds)))
theorem fs_setM {i : Nat} {te : TED} {t0 : TE} (h : PS X st (tAsg t0 (gName i))) (m : ∀ σ H Q, up X.K te σ H Q → t0 σ H Q) : FS X st (dSet i te) := by
  refine h.mo ?_
  rintro D σ H ⟨C, ρ, Dd, R, h, L⟩
  refine m _ _ _ ⟨C, ρ, _, R, h, ?_⟩
  rintro v H1 x R1 k e ⟨d, hs, q⟩
  exact L.nx _ _ _ (R1.setP i (R.stOf e hs)) q
theorem fs_setNM {i : Nat} {te : TED} {t0 : TE} (h : PS X st (tAsg t0 (gName i))) (m : ∀ σ H Q, up X.K te σ H Q → t0 σ H Q) : FS X st (dSetN i te) := by
  refine h.mo ?_
  rintro D σ H ⟨C, ρ, Dd, R, h, L⟩
  refine m _ _ _ ⟨C, ρ, _, R, h, ?_⟩
  rintro v H1 x R1 k e ⟨ds, rfl, q⟩
  obtain ⟨p, vs, rfl, h1, h2, h3, h4⟩ := e
  exact L.nx _ _ _ (R.setN R1 k i h1 h2 h3 h4) q
theorem fs_set {i : Nat} {te : TED} (h : PS X st (tAsg (up X.K te) (gName i))) : FS X st (dSet i te) := fs_setM h fun _ _ _ q => q
theorem fs_setN {i : Nat} {te : TED} (h : PS X st (tAsg (up X.K te) (gName i))) : FS X st (dSetN i te) := fs_setNM h fun _ _ _ q => q
def dAug (i : Nat) (te : TED) (rd : D → D → (D → Prop) → Prop) : TSD := fun Dd ρ => ∃ x, ρ[i]? = some (some x) ∧ te ρ fun y => rd x y fun z => ∃ d, z = .p d ∧ Dd.nx (ρ.set i (some (.p d)))
theorem fs_aug {i : Nat} {te : TED} {ti : TIp} {rd : D → D → (D → Prop) → Prop} (h : PS X st (tAug i (up X.K te) ti)) (l : Li2 X.K ti rd) : FS X st (dAug i te rd) := by
  refine h.mo ?_
  rintro D σ H ⟨C, ρ, Dd, R, ⟨x, e, h⟩, L⟩
  obtain ⟨v, h1, h2⟩ := R.val i x e
  refine ⟨v, h1, C, ρ, _, R, h, fun u H1 y R1 k1 e1 h3 => ?_⟩
  refine l C ρ σ H H1 v u x y _ _ R1 k1 ((h2.toE H e h1).mono R (Kq.refl _ _) k1) e1 h3 ?_
  rintro v' H2 z R2 k2 e2 ⟨d, rfl, q⟩
  exact L.nx _ _ _ (R2.setP i e2) q
/-- an own list changed -/
def dApp (i : Nat) (ta : TAD) : TSD := fun Dd ρ => ∃ ds, ρ[i]? = some (some (.own ds)) ∧ ta ρ fun xs => ∃ x d, xs = [x] ∧ x.st = some d ∧ ds.length < sizeLine ∧ Dd.nx (ρ.set i (some (.own (ds ++ [d]))))
theorem fs_app {i : Nat} {ta : TAD} (h : PS X st (tDrop (tBM X.K "list" rAppend (tVar i) (upA X.K ta)))) : FS X st (dApp i ta) := by
  refine h.mo ?_
  rintro D σ H ⟨C, ρ, Dd, R, ⟨ds, e, h⟩, L⟩
  obtain ⟨v, h1, p, us, rfl, h2, _⟩ := R.val i _ e
  refine ⟨.ref p, h1, .inl ⟨rfl, us, SqL.of h2⟩, C, ρ, _, R, h, ?_⟩
  rintro vs H1 xs R1 k ea ⟨x, d, rfl, hs, hz, q⟩
  obtain ⟨v, rfl, e1⟩ := p1 ea
  obtain ⟨w, g1, q', us', e2, g2, g3, _⟩ := R1.val i _ e
  rw [h1] at g1; cases g1; cases e2
  refine ⟨p, us', v, rfl, rfl, g2, by rw [g3.length]; exact hz, ?_⟩
  exact L.nx _ _ _ (R1.put e h1 g2 (g3.snoc (R.stOf e1 hs)) (by simp; omega)) q
def dSetIx (i : Nat) (ti te : TED) : TSD := fun Dd ρ => ∃ ds, ρ[i]? = some (some (.own ds)) ∧ te ρ fun x => ∃ d, x.st = some d ∧ ti ρ fun y => ∃ k j, y = .p (.int k) ∧ ixN ds.length k = some j ∧ Dd.nx (ρ.set i (some (.own (ds.set j d))))
theorem fs_setIx {i : Nat} {ti te : TED} (h : PS X st (tAsg (up X.K te) (gSub (tVar i) (up X.K ti) rSetL))) : FS X st (dSetIx i ti te) := by
  refine h.mo ?_
  rintro D σ H ⟨C, ρ, Dd, R, ⟨ds, e, h⟩, L⟩
  refine ⟨C, ρ, _, R, h, ?_⟩
  rintro v H1 x R1 k1 e1 ⟨d, hs, h2⟩
  have g := R.stOf e1 hs
  obtain ⟨_, h1, p, us, rfl, _⟩ := R.val i _ e
  refine ⟨.ref p, h1, C, ρ, _, R1, h2, ?_⟩
  rintro u H2 y R2 k2 e2 ⟨k, j, rfl, h4, q⟩
  obtain ⟨w, g1, q', us', e3, g2, g3, g4, g5⟩ := R2.val i _ e
  rw [h1] at g1; cases g1; cases e3
  refine ⟨p, us', k, j, rfl, rel_int e2, g2, by rw [g3.length]; exact h4, ?_⟩
  exact L.nx _ _ _ (R2.put e h1 g2 (DtAll.set (Dt.mono (R1.kp k2) g) j g3) (by simpa using g5)) q
/-- return -/
def dRet (te : TED) : TSD := fun Dd ρ => te ρ fun x => ∃ d, x.dat = some d ∧ Dd.rt (.p d)
theorem Rep.s0n {K : PySem.W.Frag} {C : Cd} {ρ : Ro} {σ : L2.St} {H : Hp} (R : Rep K C ρ σ H) {p : Addr} (h : C.H0 p = none) : ¬ C.S0 p := fun z => by
  obtain ⟨o, q⟩ := R.s00 p z
  rw [h] at q; cases q
theorem Rep.h0n {K : PySem.W.Frag} {C : Cd} {ρ : Ro} {σ : L2.St} {H : Hp} (R : Rep K C ρ σ H) {p : Addr} (h : H p = none) : C.H0 p = none := by
  cases q : C.H0 p with
  | none => rfl
  | some o =>
    have := R.ext p o (R.t1 h) q
    rw [h] at this; cases this
theorem fs_ret {te : TED} (h : PS X st (tRet (up X.K te))) : FS X st (dRet te) := by
  refine h.mo ?_
  rintro D σ H ⟨C, ρ, Dd, R, h, L⟩
  refine ⟨C, ρ, _, R, h, ?_⟩
  rintro v H1 x R1 k1 e1 ⟨d, hd, q⟩
  refine L.rt v H1 (.p d) ⟨R1.tp, R1.ext, R1.tab, ?_⟩ q
  have s : Same (wo (bad C ρ σ) H1) (wo C.S0 H1) := wo_mono (fun _ z => .inl z) fun _ _ _ e => e
  cases x with
  | p e => cases hd; exact Dt.mono s e1
  | own ds =>
    cases hd
    obtain ⟨i, f1, f2⟩ := e1
    obtain ⟨w, g1, q', us', e3, g2, g3, g4, g5⟩ := R1.val i _ f1
    rw [f2] at g1; cases g1; cases e3
    exact .lst (wo_mk (R1.s0n g4.1) g2) (DtAll.mono s g3)
  | nw ds =>
    cases hd
    obtain ⟨p, vs, rfl, h1, h2, h3, h4⟩ := e1
    exact .lst (wo_mk (R.s0n (R.h0n h1)) h2) (DtAll.mono s (nw_dt h3))
  | tape => cases hd
  | ot m =>
    obtain rfl := My.D.dat_ot hd
    obtain ⟨f, h1, h2⟩ := R1.ofTree e1
    exact h1.dt (fun _ z => .inl z) fun b hb => R1.s0n (R1.g0 b (h2 b hb)).2.1
  | nt m =>
    obtain rfl := My.D.dat_nt hd
    obtain ⟨f, h1, h2⟩ := e1
    exact h2.dt (fun _ z => .inl (.inl z)) fun b hb => R.s0n (R.h0n (h1 b hb))
  | fv f F => cases hd
/-- return of a list of one's own -/
def dRetL (te : TED) : TSD := fun Dd ρ => te ρ fun x => ∃ ds, (x = .own ds ∨ x = .nw ds) ∧ Dd.rt (.nw ds)
theorem fs_retL {te : TED} (h : PS X st (tRet (up X.K te))) : FS X st (dRetL te) := by
  refine h.mo ?_
  rintro D σ H ⟨C, ρ, Dd, R, h, L⟩
  refine ⟨C, ρ, _, R, h, ?_⟩
  rintro v H1 x R1 k1 e1 ⟨ds, rfl | rfl, q⟩
  · refine L.rt v H1 (.nw ds) ⟨R1.tp, R1.ext, R1.tab, ?_⟩ q
    obtain ⟨i, f1, f2⟩ := e1
    obtain ⟨w, g1, q', us', e3, g2, g3, g4, g5⟩ := R1.val i _ f1
    rw [f2] at g1; cases g1; cases e3
    refine ⟨q', us', rfl, g4.1, g2, DtAll.mono (wo_mono (fun b z => ?_) fun _ _ _ e => e) g3, g5⟩
    rcases z with z | z
    · exact .inl z
    · exact .inr (.inr (.inl ⟨i, ds, f1, by rw [z]; exact f2⟩))
  · refine L.rt v H1 (.nw ds) ⟨R1.tp, R1.ext, R1.tab, ?_⟩ q
    obtain ⟨p, vs, rfl, h1, h2, h3, h4⟩ := e1
    exact ⟨p, vs, rfl, R.h0n h1, h2, DtAll.mono (wo_mono (fun b z => z.elim (fun z => .inl (.inl z)) .inr) fun _ _ _ e => e) h3, h4⟩
def dRetN : TSD := fun Dd _ => Dd.rt (.p .none)
theorem fs_retN {pos} : FS X (.Return none pos) dRetN := by
  refine ps_retN.mo ?_
  rintro D σ H ⟨C, ρ, Dd, R, h, L⟩
  exact L.rt .non H (.p .none) ⟨R.tp, R.ext, R.tab, .non⟩ h
def dIf (c : TTD) (t u : TSD) : TSD := fun Dd ρ => c ρ fun b => if b = true then t Dd ρ else u Dd ρ
theorem fs_if {c : Expr} {a b : List Stmt} {tc : TTD} {pos} (hc : FT X c tc) (ha : FSs X a t) (hb : FSs X b u) : FS X (.If c a b pos) (dIf tc t u) := by
  refine (ps_if hc ha hb).mo ?_
  rintro D σ H ⟨C, ρ, Dd, R, h, L⟩
  refine ⟨C, ρ, _, R, h, fun k H1 R1 k1 q => ?_⟩
  cases k with
  | true => exact ⟨C, ρ, Dd, R1, by simpa using q, L⟩
  | false => exact ⟨C, ρ, Dd, R1, by simpa using q, L⟩
def dWhile (c : TTD) (tb : TSD) : TSD := fun Dd ρ => ∃ (W : Ro → Prop) (μ : Ro → Nat), W ρ ∧ ∀ ρ, W ρ → c ρ fun b => if b = true then tb { Dd with nx := fun ρ' => W ρ' ∧ μ ρ' < μ ρ, ct := fun ρ' => W ρ' ∧ μ ρ' < μ ρ, bk := Dd.nx } ρ else Dd.nx ρ
theorem fs_while {tc : TTD} (h : PS X st (tWhile (upT X.K tc) (upS X.K t))) : FS X st (dWhile tc t) := by
  refine h.mo ?_
  rintro D σ H ⟨C, ρ, Dd, R, ⟨W, μ, w0, hw⟩, L⟩
  refine ⟨fun m σ H => ∃ G ρ, Rep X.K (C.gg G) ρ σ H ∧ W ρ ∧ μ ρ = m, ⟨_, C.G, ρ, R, w0, rfl⟩, ?_⟩
  rintro m σ H ⟨G, ρ, R, w, rfl⟩
  refine ⟨C.gg G, ρ, _, R, hw ρ w, fun k H1 R1 k1 q => ?_⟩
  cases k with
  | true =>
    rw [if_pos rfl] at q ⊢
    refine ⟨fun σ' H' => ∃ G ρ', Rep X.K (C.gg G) ρ' σ' H' ∧ W ρ' ∧ μ ρ' < μ ρ, fun σ' H' ⟨G', ρ', R', w', l⟩ => ⟨_, l, G', ρ', R', w', rfl⟩, C.gg G, ρ, _, R1, q, ?_⟩
    exact ⟨fun G' ρ' σ' H' R' q => ⟨G', ρ', R', q.1, q.2⟩, fun v H x r q => L.rt v H x r.gg q, fun G' ρ' σ' H' R' q => L.nx' G' ρ' σ' H' R' q, fun G' ρ' σ' H' R' q => ⟨G', ρ', R', q.1, q.2⟩⟩
  | false =>
    rw [if_neg Bool.false_ne_true] at q ⊢
    exact L.nx' _ _ _ _ R1 q
end

/-! ### targets -/
inductive ItD where
  | one (d : PyData) | two (d e : PyData)
def RelI (K : PySem.W.Frag) (C : Cd) (ρ : Ro) (σ : L2.St) (H : Hp) (v : V) : ItD → Prop
  | .one d => Dt (wo (bad C ρ σ) H) v d
  | .two d e => ∃ T v1 v2, v = .ref T ∧ SqT K H T [v1, v2] ∧ Dt (wo (bad C ρ σ) H) v1 d ∧ Dt (wo (bad C ρ σ) H) v2 e
abbrev TGD := ItD → Ro → (Ro → Prop) → Prop
abbrev TGsD := List PyData → Ro → (Ro → Prop) → Prop
def Agr (l : List Nat) (σ σ' : L2.St) : Prop := σ'.length = σ.length ∧ ∀ j, j ∉ l → σ'[j]? = σ[j]?
def AgrD (l : List Nat) (σ σ' : Ro) : Prop := σ'.length = σ.length ∧ ∀ j, j ∉ l → σ'[j]? = σ[j]?
def upG (K : PySem.W.Frag) (l : List Nat) (g : TGD) : TG := fun v σ H Q => ∃ C ρ x Qd, Rep K C ρ σ H ∧ RelI K C ρ σ H v x ∧ g x ρ Qd ∧
  ∀ ρ' σ', Rep K C ρ' σ' H → Agr l σ σ' ∧ AgrD l ρ ρ' → Same (wo (bad C ρ σ) H) (wo (bad C ρ' σ') H) → Qd ρ' → Q σ' H
def upGs (K : PySem.W.Frag) (l : List Nat) (g : TGsD) : TGs := fun vs σ H Q => ∃ C ρ ds Qd, Rep K C ρ σ H ∧ DtAll (wo (bad C ρ σ) H) vs ds ∧ g ds ρ Qd ∧
  ∀ ρ' σ', Rep K C ρ' σ' H → Agr l σ σ' ∧ AgrD l ρ ρ' → Same (wo (bad C ρ σ) H) (wo (bad C ρ' σ') H) → Qd ρ' → Q σ' H
abbrev FG (X : Cx) (tg : Expr) (l : List Nat) (g : TGD) : Prop := PG X tg (upG X.K l g)
abbrev FGs (X : Cx) (tg : List Expr) (l : List Nat) (g : TGsD) : Prop := PGs X tg (upGs X.K l g)
theorem _root_.L2.PG.mo {X : Cx} {e : Expr} {t t' : TG} (h : PG X e t) (m : ∀ v σ H Q, t' v σ H Q → t v σ H Q) : PG X e t' := ⟨fun pins s σ H v u Q I r hw => h.run pins s σ H v u Q I r (m v σ H Q hw)⟩
theorem _root_.L2.PGs.mo {X : Cx} {e : List Expr} {t t' : TGs} (h : PGs X e t) (m : ∀ v σ H Q, t' v σ H Q → t v σ H Q) : PGs X e t' := ⟨fun pins s σ H v u Q I r hw => h.run pins s σ H v u Q I r (m v σ H Q hw)⟩
section
variable {X : Cx}
def gN (i : Nat) : TGD := fun x ρ Q => ∃ d, x = .one d ∧ Q (ρ.set i (some (.p d)))
theorem fg_name {e : Expr} {i : Nat} (h : PG X e (gName i)) : FG X e [i] (gN i) := by
  refine h.mo ?_
  rintro v σ H Q ⟨C, ρ, x, Qd, R, r, ⟨d, rfl, q⟩, post⟩
  refine post _ _ (R.setP i r) ⟨⟨by rw [List.length_set], fun j hj => ?_⟩, ⟨by rw [List.length_set], fun j hj => ?_⟩⟩ (wo_mono (fun _ z => bad_set z) fun _ _ _ e => e) q
  · rw [List.getElem?_set_ne (fun z => hj (by simp [z]))]
  · rw [List.getElem?_set_ne (fun z => hj (by simp [z]))]
def gsNil : TGsD := fun ds ρ Q => ds = [] ∧ Q ρ
def gsCons (g : TGD) (gs : TGsD) : TGsD := fun ds ρ Q => ∃ d r, ds = d :: r ∧ g (.one d) ρ fun ρ' => gs r ρ' Q
theorem fgs_nil : FGs X [] [] gsNil := by
  refine pgs_nil.mo ?_
  rintro vs σ H Q ⟨C, ρ, ds, Qd, R, r, ⟨rfl, q⟩, post⟩
  cases r
  exact ⟨rfl, post _ _ R ⟨⟨rfl, fun _ _ => rfl⟩, ⟨rfl, fun _ _ => rfl⟩⟩ (fun _ _ e => e) q⟩
theorem fgs_cons {e : Expr} {es : List Expr} {l l' : List Nat} {g : TGD} {gs : TGsD} (h : PGs X (e :: es) (gCons (upG X.K l g) (upGs X.K l' gs))) : FGs X (e :: es) (l ++ l') (gsCons g gs) := by
  refine h.mo ?_
  rintro vs σ H Q ⟨C, ρ, ds, Qd, R, r, ⟨d, rs, rfl, q⟩, post⟩
  cases r with
  | cons r1 r2 =>
    refine ⟨_, _, rfl, C, ρ, .one d, _, R, r1, q, fun ρ1 σ1 R1 a1 s1 q1 => ⟨C, ρ1, rs, _, R1, DtAll.mono s1 r2, q1, fun ρ2 σ2 R2 a2 s2 q2 => ?_⟩⟩
    refine post ρ2 σ2 R2 ⟨⟨a2.1.1.trans a1.1.1, fun j hj => ?_⟩, ⟨a2.2.1.trans a1.2.1, fun j hj => ?_⟩⟩ (fun a o e => s2 a o (s1 a o e)) q2
    · rw [List.mem_append] at hj
      rw [a2.1.2 j (fun z => hj (.inr z)), a1.1.2 j (fun z => hj (.inl z))]
    · rw [List.mem_append] at hj
      rw [a2.2.2 j (fun z => hj (.inr z)), a1.2.2 j (fun z => hj (.inl z))]
def gTp (n : Nat) (gs : TGsD) : TGD := fun x ρ Q => match x with
  | .one d => ∃ ds, d = .tuple ds ∧ ds.length = n ∧ gs ds ρ Q
  | .two d e => n = 2 ∧ gs [d, e] ρ Q
theorem fg_tup {e : Expr} {l : List Nat} {gs : TGsD} {n : Nat} (h : PG X e (gTup X.K n (upGs X.K l gs))) : FG X e l (gTp n gs) := by
  refine h.mo ?_
  rintro v σ H Q ⟨C, ρ, x, Qd, R, r, hg, post⟩
  cases x with
  | one d =>
    obtain ⟨ds, rfl, hl, hg⟩ := hg
    cases r with
    | tup t1 d1 =>
      exact ⟨_, _, rfl, t1.mo.sq, by rw [d1.length]; exact hl, C, ρ, ds, Qd, R, d1, hg, post⟩
  | two d e =>
    obtain ⟨rfl, hg⟩ := hg
    obtain ⟨T, v1, v2, rfl, h1, h2, h3⟩ := r
    exact ⟨T, _, rfl, h1, rfl, C, ρ, [d, e], Qd, R, .cons h2 (.cons h3 .nil), hg, post⟩
def dAsg (te : TED) (g : TGD) : TSD := fun Dd ρ => te ρ fun x => ∃ d, x.st = some d ∧ g (.one d) ρ Dd.nx
theorem fs_asg {st : Stmt} {te : TED} {l : List Nat} {g : TGD} (h : PS X st (tAsg (up X.K te) (upG X.K l g))) : FS X st (dAsg te g) := by
  refine h.mo ?_
  rintro D σ H ⟨C, ρ, Dd, R, h, L⟩
  refine ⟨C, ρ, _, R, h, ?_⟩
  rintro v H1 x R1 k1 e1 ⟨d, hd, q⟩
  exact ⟨C, ρ, .one d, _, R1, R.stOf e1 hd, q, fun ρ' σ' R' _ _ q => L.nx ρ' σ' H1 R' q⟩
def dPar (i j : Nat) (ta : TAD) : TSD := fun Dd ρ => ta ρ fun xs => ∃ x y d e, xs = [x, y] ∧ x.st = some d ∧ y.st = some e ∧ Dd.nx ((ρ.set i (some (.p d))).set j (some (.p e)))
theorem fs_par {st : Stmt} {i j : Nat} {ta : TAD} (h : PS X st (tPar i j (upA X.K ta))) : FS X st (dPar i j ta) := by
  refine h.mo ?_
  rintro D σ H ⟨C, ρ, Dd, R, h, L⟩
  refine ⟨C, ρ, _, R, h, ?_⟩
  rintro vs H1 xs R1 k1 e1 ⟨x, y, d, e, rfl, h1, h2, q⟩
  obtain ⟨v, u, rfl, g1, g2⟩ := p2 e1
  have R2 := R1.setP i (R.stOf g1 h1)
  exact ⟨v, u, rfl, L.nx _ _ _ (R2.setP j (Dt.mono (wo_mono (fun _ z => bad_set z) fun _ _ _ e => e) (R.stOf g2 h2))) q⟩
end

/-! ### what is walked -/
abbrev TID := Ro → (List ItD → Prop) → Prop
def Has (C : Cd) (w : Pn) : Prop := (∀ q ∈ w.1, q ∈ C.pins) ∧ ∀ q ∈ w.2, q ∈ C.tups
structure WalkD (K : PySem.W.Frag) (C : Cd) (pins : Pn) (J : It) (items : List ItD) : Prop where
  go : ∀ C' ρ σ H (i : Nat) x, C'.t = C.t → Has C' pins → Rep K C' ρ σ H → items[i]? = some x → J.go i H ∧ ∀ v H', J.yld i H v H' → Kq C'.t H H' ∧ Rep K C' ρ σ H' ∧ RelI K C' ρ σ H' v x
  stop : ∀ C' ρ σ H, C'.t = C.t → Has C' pins → Rep K C' ρ σ H → J.stop items.length H
def upI (K : PySem.W.Frag) (ti : TID) : TI := fun σ H R => ∃ C ρ Qd, Rep K C ρ σ H ∧ ti ρ Qd ∧ ∀ J H' items pins, Rep K (C.add pins) ρ σ H' → Kq C.t H H' → WalkD K C pins J items → Qd items → R J H'
abbrev FI (X : Cx) (tg it : Expr) (ti : TID) : Prop := PI X tg it (upI X.K ti)
theorem _root_.L2.PI.mo {X : Cx} {tg e : Expr} {t t' : TI} (h : PI X tg e t) (m : ∀ σ H Q, t' σ H Q → t σ H Q) : PI X tg e t' := ⟨fun pins s σ H Q I hw => h.run pins s σ H Q I (m σ H Q hw)⟩
section
variable {K : PySem.W.Frag} {C : Cd} {ρ : Ro} {σ : L2.St} {H : Hp}
theorem Rep.pinned (R : Rep K C ρ σ H) (w : Pn) (h : ∀ q ∈ w.1, Dt (wo (bad C ρ σ) H) q.1 q.2) (h2 : ∀ q ∈ w.2, TupG H q.1 q.2 := by intro _ h; cases h) : Rep K (C.add w) ρ σ H :=
  ⟨R.len, R.val, R.dis, R.tp, R.ext, R.s1, R.s2, R.s0, R.f0, R.s00, fun q hq => (List.mem_append.mp hq).elim (h q) (R.pin q), fun q hq => (List.mem_append.mp hq).elim (h2 q) (R.tin q), R.s3, R.tab, let ⟨φ, T⟩ := R.tre; ⟨φ, T.rel, T.dis⟩, R.g0⟩
theorem Rep.unpin {w : Pn} (R : Rep K (C.add w) ρ σ H) : Rep K C ρ σ H :=
  ⟨R.len, R.val, R.dis, R.tp, R.ext, R.s1, R.s2, R.s0, R.f0, R.s00, fun q hq => R.pin q (List.mem_append_right _ hq), fun q hq => R.tin q (List.mem_append_right _ hq), R.s3, R.tab, let ⟨φ, T⟩ := R.tre; ⟨φ, T.rel, T.dis⟩, R.g0⟩
theorem has_add (w : Pn) : Has (C.add w) w := ⟨fun _ h => List.mem_append_left _ h, fun _ h => List.mem_append_left _ h⟩
theorem ones_get {ds : List PyData} {i : Nat} {x : ItD} (h : (ds.map ItD.one)[i]? = some x) : ∃ d, ds[i]? = some d ∧ x = .one d := by
  rw [List.getElem?_map] at h
  cases e : ds[i]? with
  | none => rw [e] at h; cases h
  | some d => rw [e] at h; exact ⟨d, rfl, (Option.some.inj h).symm⟩
end
section
variable {X : Cx} {tg it : Expr}
def dIt (te : TED) : TID := fun ρ Q => te ρ fun x => ∃ ds, x.st = some (.list ds) ∧ Q (ds.map ItD.one)
theorem fi_list {te : TED} (h : PI X tg it (iList X.K (up X.K te))) : FI X tg it (dIt te) := by
  refine h.mo ?_
  rintro σ H R' ⟨C, ρ, Qd, R, h, post⟩
  refine ⟨C, ρ, _, R, h, ?_⟩
  rintro v H1 x R1 k1 e1 ⟨ds, hd, q⟩
  have g := R.stOf e1 hd
  cases g with
  | lst t1 d1 =>
    rename_i a vs
    refine ⟨a, rfl, ⟨vs, SqL.of (wo_of t1).2⟩, post _ H1 (ds.map ItD.one) ([(.ref a, .list ds)], []) (R1.pinned _ (fun q hq => ?_)) k1 ?_ q⟩
    · rw [List.mem_singleton.mp hq]; exact .lst t1 d1
    · have key : ∀ C' ρ σ H, Has C' ([(V.ref a, PyData.list ds)], []) → Rep X.K C' ρ σ H → ∃ us, SqL X.K H a us ∧ DtAll (wo (bad C' ρ σ) H) us ds := fun C' ρ σ H hp R => by
        have z := R.pin _ (hp.1 _ (List.mem_singleton.mpr rfl))
        cases z with
        | lst t2 d2 => exact ⟨_, SqL.of (wo_of t2).2, d2⟩
      refine ⟨fun C' ρ' σ' H' i x ht hp R' hx => ?_, fun C' ρ' σ' H' ht hp R' => ?_⟩
      · obtain ⟨us, s1, s2⟩ := key _ _ _ _ hp R'
        obtain ⟨d, hd, rfl⟩ := ones_get hx
        obtain ⟨w, hw, s3⟩ := s2.of hd
        refine ⟨⟨us, w, s1, hw⟩, ?_⟩
        rintro v H2 ⟨rfl, y⟩
        have := y us s1
        rw [hw] at this; cases this
        exact ⟨Kq.refl _ _, R', s3⟩
      · obtain ⟨us, s1, s2⟩ := key _ _ _ _ hp R'
        exact ⟨us, s1, by rw [List.length_map, s2.length]; exact Nat.le_refl _⟩
def dItT (te : TED) : TID := fun ρ Q => te ρ fun x => ∃ ds, x = .p (.tuple ds) ∧ Q (ds.map ItD.one)
theorem fi_tup {te : TED} (h : PI X tg it (iTup X.K (up X.K te))) : FI X tg it (dItT te) := by
  refine h.mo ?_
  rintro σ H R' ⟨C, ρ, Qd, R, h, post⟩
  refine ⟨C, ρ, _, R, h, ?_⟩
  rintro v H1 x R1 k1 e1 ⟨ds, rfl, q⟩
  cases e1 with
  | tup t1 d1 =>
    rename_i a vs
    refine ⟨a, rfl, ⟨vs, t1.mo.sq⟩, post _ H1 (ds.map ItD.one) ([(.ref a, .tuple ds)], []) (R1.pinned _ (fun q hq => ?_)) k1 ?_ q⟩
    · rw [List.mem_singleton.mp hq]; exact .tup t1 d1
    · have key : ∀ C' ρ σ H, Has C' ([(V.ref a, PyData.tuple ds)], []) → Rep X.K C' ρ σ H → ∃ us, SqT X.K H a us ∧ DtAll (wo (bad C' ρ σ) H) us ds := fun C' ρ σ H hp R => by
        have z := R.pin _ (hp.1 _ (List.mem_singleton.mpr rfl))
        cases z with
        | tup t2 d2 => exact ⟨_, t2.mo.sq, d2⟩
      refine ⟨fun C' ρ' σ' H' i x ht hp R' hx => ?_, fun C' ρ' σ' H' ht hp R' => ?_⟩
      · obtain ⟨us, s1, s2⟩ := key _ _ _ _ hp R'
        obtain ⟨d, hd, rfl⟩ := ones_get hx
        obtain ⟨w, hw, s3⟩ := s2.of hd
        refine ⟨⟨us, w, s1, hw⟩, ?_⟩
        rintro v H2 ⟨rfl, y⟩
        have := y us s1
        rw [hw] at this; cases this
        exact ⟨Kq.refl _ _, R', s3⟩
      · obtain ⟨us, s1, s2⟩ := key _ _ _ _ hp R'
        exact ⟨us, s1, by rw [List.length_map, s2.length]; exact Nat.le_refl _⟩
/-- range -/
def rngD (lo : Int) (n : Nat) : List ItD := (List.range n).map fun i => .one (.int (lo + (i : Nat)))
theorem rngD_len (lo : Int) (n : Nat) : (rngD lo n).length = n := by simp [rngD]
theorem rngD_get {lo : Int} {n i : Nat} {x : ItD} (h : (rngD lo n)[i]? = some x) : i < n ∧ x = .one (.int (lo + (i : Nat))) := by
  unfold rngD at h
  rw [List.getElem?_map] at h
  by_cases hi : i < n
  · rw [List.getElem?_range hi] at h
    exact ⟨hi, (Option.some.inj h).symm⟩
  · rw [List.getElem?_eq_none (by simpa using hi)] at h; cases h
theorem walk_rngD {K : PySem.W.Frag} {C : Cd} (lo : Int) (n : Nat) : WalkD K C ([], []) (Itr lo n) (rngD lo n) := by
  refine ⟨fun C' ρ σ H i x ht hp R hx => ?_, fun C' ρ σ H ht hp R => by rw [rngD_len]; exact Nat.le_refl n⟩
  obtain ⟨hi, rfl⟩ := rngD_get hx
  refine ⟨hi, ?_⟩
  rintro v H' ⟨rfl, rfl⟩
  exact ⟨Kq.refl _ _, R, .int _⟩
def dRng1 (ta : TAD) : TID := fun ρ Q => ta ρ fun xs => ∃ j : Int, xs = [.p (.int j)] ∧ -(2 ^ 62) ≤ j ∧ j < 2 ^ 62 ∧ Q (rngD 0 j.toNat)
def dRng2 (ta : TAD) : TID := fun ρ Q => ta ρ fun xs => ∃ i j : Int, xs = [.p (.int i), .p (.int j)] ∧ (-(2 ^ 62) ≤ i ∧ i < 2 ^ 62 ∧ -(2 ^ 62) ≤ j ∧ j < 2 ^ 62) ∧ Q (rngD i (j - i).toNat)
theorem fi_rng1 {ta : TAD} (h : PI X tg it (iRng1 (upA X.K ta))) : FI X tg it (dRng1 ta) := by
  refine h.mo ?_
  rintro σ H R' ⟨C, ρ, Qd, R, h, post⟩
  refine ⟨C, ρ, _, R, h, ?_⟩
  rintro vs H1 xs R1 k1 e1 ⟨j, rfl, h1, h2, q⟩
  obtain ⟨v, rfl, e⟩ := p1 e1
  exact ⟨j, by rw [rel_int e], h1, h2, post _ H1 _ ([], []) R1 k1 (walk_rngD _ _) q⟩
theorem fi_rng2 {ta : TAD} (h : PI X tg it (iRng2 (upA X.K ta))) : FI X tg it (dRng2 ta) := by
  refine h.mo ?_
  rintro σ H R' ⟨C, ρ, Qd, R, h, post⟩
  refine ⟨C, ρ, _, R, h, ?_⟩
  rintro vs H1 xs R1 k1 e1 ⟨i, j, rfl, h1, q⟩
  obtain ⟨v, u, rfl, e, f⟩ := p2 e1
  exact ⟨i, j, by rw [rel_int e, rel_int f], h1, post _ H1 _ ([], []) R1 k1 (walk_rngD _ _) q⟩
/-- signs of a text -/
def chD (z : Str) : List ItD := z.cps.toList.map fun c => .one (.str ⟨#[c]⟩)
def dItS (te : TED) : TID := fun ρ Q => te ρ fun x => ∃ z : Str, x = .p (.str z) ∧ Q (chD z)
theorem fi_str {te : TED} (h : PI X tg it (iStr (up X.K te))) : FI X tg it (dItS te) := by
  refine h.mo ?_
  rintro σ H R' ⟨C, ρ, Qd, R, h, post⟩
  refine ⟨C, ρ, _, R, h, ?_⟩
  rintro v H1 x R1 k1 e1 ⟨z, rfl, q⟩
  refine ⟨z, rel_str e1, post _ H1 _ ([], []) R1 k1 ⟨fun C' ρ' σ' H' i x ht hp R' hx => ?_, fun C' ρ' σ' H' ht hp R' => ?_⟩ q⟩
  · unfold chD at hx
    rw [List.getElem?_map] at hx
    cases e : z.cps.toList[i]? with
    | none => rw [e] at hx; cases hx
    | some c =>
      rw [e] at hx
      cases hx
      obtain ⟨hi, _⟩ := List.getElem?_eq_some_iff.mp e
      refine ⟨show i < z.cps.size by simpa using hi, ?_⟩
      rintro v H2 ⟨rfl, c', h1, rfl⟩
      rw [← Array.getElem?_toList, e] at h1
      cases h1
      exact ⟨Kq.refl _ _, R', .str _⟩
  · show z.cps.size ≤ _
    unfold chD
    rw [List.length_map, Array.length_toList]
    exact Nat.le_refl _
/-- enumerate -/
def enD (ds : List PyData) : List ItD := (List.range ds.length).map fun i => .two (.int (i : Nat)) (ds.getD i .none)
theorem enD_len (ds : List PyData) : (enD ds).length = ds.length := by simp [enD]
theorem enD_get {ds : List PyData} {i : Nat} {x : ItD} (h : (enD ds)[i]? = some x) : ∃ d, ds[i]? = some d ∧ x = .two (.int (i : Nat)) d := by
  unfold enD at h
  rw [List.getElem?_map] at h
  by_cases hi : i < ds.length
  · rw [List.getElem?_range hi] at h
    refine ⟨ds[i], List.getElem?_eq_getElem hi, ?_⟩
    have := (Option.some.inj h).symm
    rw [this]
    show ItD.two _ (ds.getD i .none) = _
    rw [List.getD_eq_getElem?_getD, List.getElem?_eq_getElem hi]
    rfl
  · rw [List.getElem?_eq_none (by simpa using hi)] at h; cases h
def dEn (te : TAD) : TID := fun ρ Q => te ρ fun xs => ∃ x ds, xs = [x] ∧ x.st = some (.list ds) ∧ Q (enD ds)
theorem pairI {K : PySem.W.Frag} {C : Cd} {ρ : Ro} {σ : L2.St} {H : Hp} (R : Rep K C ρ σ H) {T : Addr} {v1 v2 : V} {d e : PyData} (hT : H T = none) (h1 : Dt (wo (bad C ρ σ) H) v1 d) (h2 : Dt (wo (bad C ρ σ) H) v2 e) :
    Kq C.t H (upd H T (.tup [v1, v2])) ∧ Rep K C ρ σ (upd H T (.tup [v1, v2])) ∧ RelI K C ρ σ (upd H T (.tup [v1, v2])) (.ref T) (.two d e) :=
  ⟨Kq.new hT, R.lay hT, T, v1, v2, rfl, SqT.of upd_same, Dt.mono (R.kp (Kq.new hT)) h1, Dt.mono (R.kp (Kq.new hT)) h2⟩
theorem fi_en {ta : TAD} (h : PI X tg it (iEnum X.K (upA X.K ta))) : FI X tg it (dEn ta) := by
  refine h.mo ?_
  rintro σ H R' ⟨C, ρ, Qd, R, h, post⟩
  refine ⟨C, ρ, _, R, h, ?_⟩
  rintro vs H1 xs R1 k1 e1 ⟨x, ds, rfl, hd, q⟩
  obtain ⟨v, rfl, e⟩ := p1 e1
  have g := R.stOf e hd
  cases g with
  | lst t1 d1 =>
    rename_i a vs
    refine ⟨a, vs, rfl, SqL.of (wo_of t1).2, post _ H1 (enD ds) ([(.ref a, .list ds)], []) (R1.pinned _ (fun q hq => ?_)) k1 ?_ q⟩
    · rw [List.mem_singleton.mp hq]; exact .lst t1 d1
    · have key : ∀ C' ρ σ H, Has C' ([(V.ref a, PyData.list ds)], []) → Rep X.K C' ρ σ H → ∃ us, SqL X.K H a us ∧ DtAll (wo (bad C' ρ σ) H) us ds := fun C' ρ σ H hp R => by
        have z := R.pin _ (hp.1 _ (List.mem_singleton.mpr rfl))
        cases z with
        | lst t2 d2 => exact ⟨_, SqL.of (wo_of t2).2, d2⟩
      refine ⟨fun C' ρ' σ' H' i x ht hp R' hx => ?_, fun C' ρ' σ' H' ht hp R' => ?_⟩
      · obtain ⟨us, s1, s2⟩ := key _ _ _ _ hp R'
        obtain ⟨d, hd, rfl⟩ := enD_get hx
        obtain ⟨w, hw, s3⟩ := s2.of hd
        refine ⟨⟨us, w, s1, hw⟩, ?_⟩
        rintro v H2 ⟨T, y, rfl, hT, rfl, hy⟩
        have := hy us s1
        rw [hw] at this; cases this
        exact pairI R' hT (.int _) s3
      · obtain ⟨us, s1, s2⟩ := key _ _ _ _ hp R'
        exact ⟨us, s1, by rw [enD_len, s2.length]; exact Nat.le_refl _⟩
def dEnT (te : TAD) : TID := fun ρ Q => te ρ fun xs => ∃ ds, xs = [.p (.tuple ds)] ∧ Q (enD ds)
theorem fi_enT {ta : TAD} (h : PI X tg it (iEnT X.K (upA X.K ta))) : FI X tg it (dEnT ta) := by
  refine h.mo ?_
  rintro σ H R' ⟨C, ρ, Qd, R, h, post⟩
  refine ⟨C, ρ, _, R, h, ?_⟩
  rintro vs H1 xs R1 k1 e1 ⟨ds, rfl, q⟩
  obtain ⟨v, rfl, e⟩ := p1 e1
  cases e with
  | tup t1 d1 =>
    rename_i a vs
    have pq : ∀ {C' : Cd} {ρ : Ro} {σ : L2.St} {H : Hp}, Has C' ((vs.zip ds), [(a, vs)]) → Rep X.K C' ρ σ H → TupG H a vs ∧ ∀ (i : Nat) w d, vs[i]? = some w → ds[i]? = some d → Dt (wo (bad C' ρ σ) H) w d := fun {C' ρ σ H} hp R => by
      refine ⟨R.tin _ (hp.2 _ (List.mem_singleton.mpr rfl)), fun i w d h1 h2 => R.pin (w, d) (hp.1 _ ?_)⟩
      exact List.mem_of_getElem? (i := i) (by rw [List.getElem?_zip_eq_some]; exact ⟨h1, h2⟩)
    refine ⟨a, vs, rfl, t1.mo.sq, post _ H1 (enD ds) ((vs.zip ds), [(a, vs)]) (R1.pinned _ (fun q hq => ?_) (fun q hq => ?_)) k1 ?_ q⟩
    · obtain ⟨i, hi⟩ := List.mem_iff_getElem?.mp hq
      obtain ⟨w, d⟩ := q
      rw [List.getElem?_zip_eq_some] at hi
      obtain ⟨d', h1, h2⟩ := d1.get hi.1
      have : d' = d := Option.some.inj (h1.symm.trans hi.2)
      rw [← this]; exact h2
    · rw [List.mem_singleton.mp hq]; exact t1.mo
    · refine ⟨fun C' ρ' σ' H' i x ht hp R' hx => ?_, fun C' ρ' σ' H' ht hp R' => ?_⟩
      · obtain ⟨d, hd, rfl⟩ := enD_get hx
        obtain ⟨w, hw, _⟩ := d1.of hd
        obtain ⟨g1, g2⟩ := pq hp R'
        refine ⟨⟨g1.sq, (List.getElem?_eq_some_iff.mp hw).1⟩, ?_⟩
        rintro v H2 ⟨T, y, rfl, hT, rfl, hy⟩
        rw [hw] at hy; cases hy
        exact pairI R' hT (.int _) (g2 i w d hw hd)
      · obtain ⟨g1, _⟩ := pq hp R'
        exact ⟨g1.sq, by rw [enD_len, d1.length]; exact Nat.le_refl _⟩
end
end My
namespace My
open PySem PySem.Spec PyProof.Rows L2
variable [TB]

/-! ### for -/
def forW (g : TGD) (tb : TSD) (Dd : EndsD) : List ItD → Ro → Prop
  | [], ρ => Dd.nx ρ
  | x :: xs, ρ => g x ρ fun ρ2 => tb { Dd with nx := forW g tb Dd xs, ct := forW g tb Dd xs, bk := Dd.nx } ρ2
def dFor (ti : TID) (g : TGD) (tb : TSD) : TSD := fun Dd ρ => ti ρ fun items => forW g tb Dd items ρ
theorem Link.add {K : PySem.W.Frag} {C : Cd} {Dd : EndsD} {D : Ends} (w : Pn) (L : Link K C Dd D) : Link K (C.add w) Dd D :=
  ⟨fun G ρ σ H R q => L.nx' G ρ σ H (Rep.unpin (C := C.gg G) (w := w) R) q, fun v H x r q => L.rt v H x ⟨r.tp, r.ext, r.tab, r.rel⟩ q, fun G ρ σ H R q => L.bk' G ρ σ H (Rep.unpin (C := C.gg G) (w := w) R) q, fun G ρ σ H R q => L.ct' G ρ σ H (Rep.unpin (C := C.gg G) (w := w) R) q⟩
section
variable {X : Cx} {st : Stmt}
theorem fs_for {ti : TID} {l : List Nat} {g : TGD} {tb : TSD} (h : PS X st (tFor (upI X.K ti) (upG X.K l g) (upS X.K tb))) : FS X st (dFor ti g tb) := by
  refine h.mo ?_
  rintro D σ H ⟨C, ρ, Dd, R, h, L⟩
  refine ⟨C, ρ, _, R, h, ?_⟩
  rintro J H1 items pins R1 k1 wk q
  have LA := L.add pins
  refine ⟨fun i m σ H => m = items.length - i ∧ i ≤ items.length ∧ ∃ G ρ, Rep X.K ((C.add pins).gg G) ρ σ H ∧ forW g tb Dd (items.drop i) ρ, ⟨_, rfl, Nat.zero_le _, _, ρ, R1, by simpa using q⟩, ?_⟩
  rintro i m σ H ⟨rfl, hi, G, ρ, R, q⟩
  by_cases hlt : i < items.length
  · right
    rw [List.drop_eq_getElem_cons hlt] at q
    obtain ⟨go, hy⟩ := wk.go ((C.add pins).gg G) ρ σ H i _ rfl (has_add pins) R (List.getElem?_eq_getElem hlt)
    refine ⟨go, fun σ' H' => ∃ G ρ', Rep X.K ((C.add pins).gg G) ρ' σ' H' ∧ forW g tb Dd (items.drop (i + 1)) ρ', ?_, ?_⟩
    · rintro σ' H' ⟨G', ρ', R', q'⟩
      exact ⟨items.length - (i + 1), by omega, rfl, hlt, G', ρ', R', q'⟩
    · intro x H' y
      obtain ⟨k2, R2, r2⟩ := hy x H' y
      refine ⟨(C.add pins).gg G, ρ, items[i], _, R2, r2, q, fun ρ3 σ3 R3 _ _ q3 => ⟨(C.add pins).gg G, ρ3, _, R3, q3, ?_⟩⟩
      exact ⟨fun G' ρ4 σ4 H4 R4 q4 => ⟨G', ρ4, R4, q4⟩, fun v H x r q => LA.rt v H x r.gg q, fun G' ρ4 σ4 H4 R4 q4 => LA.nx' G' ρ4 σ4 H4 R4 q4, fun G' ρ4 σ4 H4 R4 q4 => ⟨G', ρ4, R4, q4⟩⟩
  · left
    have e : i = items.length := by omega
    subst e
    rw [List.drop_length] at q
    exact ⟨wk.stop ((C.add pins).gg G) ρ σ H rfl (has_add pins) R, LA.nx' G ρ σ H R q⟩
end
/-- by an invariant -/
theorem forW_inv {g : TGD} {tb : TSD} {Dd : EndsD} {items : List ItD} {ρ : Ro} (P : Nat → Ro → Prop) (h0 : P 0 ρ)
    (hs : ∀ i x ρ (K : Ro → Prop), items[i]? = some x → P i ρ → (∀ ρ', P (i + 1) ρ' → K ρ') → g x ρ fun ρ2 => tb { Dd with nx := K, ct := K, bk := Dd.nx } ρ2)
    (hd : ∀ ρ, P items.length ρ → Dd.nx ρ) : forW g tb Dd items ρ := by
  have go : ∀ (n i : Nat) (ρ : Ro), items.length - i = n → i ≤ items.length → P i ρ → forW g tb Dd (items.drop i) ρ := by
    intro n
    induction n with
    | zero =>
      intro i ρ e hi p
      have e : i = items.length := by omega
      subst e
      rw [List.drop_length]
      exact hd ρ p
    | succ n ih =>
      intro i ρ e hi p
      have hlt : i < items.length := by omega
      rw [List.drop_eq_getElem_cons hlt]
      exact hs i _ ρ _ (List.getElem?_eq_getElem hlt) p fun ρ' p' => ih (i + 1) ρ' (by omega) hlt p'
  exact go _ 0 ρ rfl (Nat.zero_le _) h0
/-- by an invariant that speaks of what was walked and what is left -/
theorem forW_pre {g : TGD} {tb : TSD} {Dd : EndsD} {items : List ItD} {ρ : Ro} (P : List ItD → List ItD → Ro → Prop) (h0 : P [] items ρ)
    (hs : ∀ pre x post ρ (K : Ro → Prop), items = pre ++ x :: post → P pre (x :: post) ρ → (∀ ρ', P (pre ++ [x]) post ρ' → K ρ') → g x ρ fun ρ2 => tb { Dd with nx := K, ct := K, bk := Dd.nx } ρ2)
    (hd : ∀ ρ, P items [] ρ → Dd.nx ρ) : forW g tb Dd items ρ := by
  have go : ∀ (post pre : List ItD) (ρ : Ro), items = pre ++ post → P pre post ρ → forW g tb Dd post ρ := by
    intro post
    induction post with
    | nil =>
      intro pre ρ e p
      rw [List.append_nil] at e
      subst e
      exact hd ρ p
    | cons x post ih =>
      intro pre ρ e p
      exact hs pre x post ρ _ e p fun ρ' p' => ih (pre ++ [x]) ρ' (by rw [e]; simp) p'
  exact go items [] ρ rfl h0

/-! ### comprehensions -/
def elW (g : TGD) (tt : TTD) (te : TED) (x : ItD) (ρ0 : Ro) (K : Option PyData → Prop) : Prop :=
  g x ρ0 fun ρ2 => tt ρ2 fun b => if b = true then te ρ2 fun y => ∃ d, y.st = some d ∧ K (some d) else K none
def lcW (el : ItD → (Option PyData → Prop) → Prop) : List ItD → List PyData → (List PyData → Prop) → Prop
  | [], acc, Q => Q acc
  | x :: xs, acc, Q => el x fun o => match o with
    | none => lcW el xs acc Q
    | some d => acc.length < sizeLine ∧ lcW el xs (acc ++ [d]) Q
def dWipe (ρ : Ro) : List Nat → Ro
  | [] => ρ
  | v :: vs => (dWipe ρ vs).set v none
def dLc (ti : TID) (g : TGD) (tt : TTD) (te : TED) (vs : List Nat) : TED := fun ρ Q => ti ρ fun items => lcW (fun x K => elW g tt te x (dWipe ρ vs) K) items [] fun acc => Q (.nw acc)
def dYes : TTD := fun _ Q => Q true
/-- one for each item, some left out -/
theorem lcW_det {el : ItD → (Option PyData → Prop) → Prop} {Q : List PyData → Prop} (f : ItD → Option PyData) : ∀ {items : List ItD} {acc : List PyData},
    (∀ x ∈ items, ∀ K, K (f x) → el x K) → acc.length + items.length ≤ sizeLine → Q (acc ++ items.filterMap f) → lcW el items acc Q
  | [], acc, _, _, q => by simp at q; exact q
  | x :: xs, acc, h, hz, q => by
    refine h x List.mem_cons_self _ ?_
    simp only [List.length_cons] at hz
    have h' : ∀ y ∈ xs, ∀ K, K (f y) → el y K := fun y hy => h y (List.mem_cons_of_mem _ hy)
    cases e : f x with
    | none =>
      refine lcW_det f h' (by omega) ?_
      rw [List.filterMap_cons, e] at q
      exact q
    | some d =>
      refine ⟨by omega, lcW_det f h' (by simp; omega) ?_⟩
      rw [List.filterMap_cons, e] at q
      simpa using q
theorem lcW_map {el : ItD → (Option PyData → Prop) → Prop} {Q : List PyData → Prop} (f : ItD → PyData) {items : List ItD} (h : ∀ x ∈ items, ∀ K, K (some (f x)) → el x K) (hz : items.length ≤ sizeLine) (q : Q (items.map f)) : lcW el items [] Q := by
  refine lcW_det (fun x => some (f x)) h (by simpa using hz) ?_
  simpa using q
/-- by an invariant -/
theorem lcW_inv {el : ItD → (Option PyData → Prop) → Prop} {Q : List PyData → Prop} {items : List ItD} (P : Nat → List PyData → Prop) (h0 : P 0 [])
    (hs : ∀ i x acc (K : Option PyData → Prop), items[i]? = some x → P i acc → (P (i + 1) acc → K none) → (∀ d, P (i + 1) (acc ++ [d]) → K (some d)) → el x K) (hz : items.length ≤ sizeLine)
    (hd : ∀ acc, P items.length acc → Q acc) : lcW el items [] Q := by
  have go : ∀ (n i : Nat) (acc : List PyData), items.length - i = n → i ≤ items.length → acc.length ≤ i → P i acc → lcW el (items.drop i) acc Q := by
    intro n
    induction n with
    | zero =>
      intro i acc e hi _ p
      have e : i = items.length := by omega
      subst e
      rw [List.drop_length]
      exact hd acc p
    | succ n ih =>
      intro i acc e hi ha p
      have hlt : i < items.length := by omega
      rw [List.drop_eq_getElem_cons hlt]
      refine hs i _ acc _ (List.getElem?_eq_getElem hlt) p (fun p' => ih (i + 1) acc (by omega) hlt (by omega) p') (fun d p' => ⟨by omega, ih (i + 1) _ (by omega) hlt (by simp; omega) p'⟩)
  exact go _ 0 [] rfl (Nat.zero_le _) (Nat.le_refl _) h0

section
variable {K : PySem.W.Frag} {C : Cd} {ρ : Ro} {σ : L2.St} {H H1 H2 H' : Hp}
theorem dWipe_len : ∀ {vs : List Nat}, (dWipe ρ vs).length = ρ.length
  | [] => rfl
  | v :: vs => by unfold dWipe; rw [List.length_set, dWipe_len]
theorem dWipe_some {i : Nat} {x : D} : ∀ {vs : List Nat}, (dWipe ρ vs)[i]? = some (some x) → ρ[i]? = some (some x) ∧ i ∉ vs
  | [], h => ⟨h, by simp⟩
  | v :: vs, h => by
    unfold dWipe at h
    by_cases hi : v = i
    · subst hi
      rw [List.getElem?_set] at h
      simp only [if_true] at h
      split at h <;> cases h
    · rw [List.getElem?_set_ne hi] at h
      obtain ⟨a, b⟩ := dWipe_some h
      exact ⟨a, by simp [b]; exact fun z => hi z.symm⟩
theorem wipe_ne {i : Nat} : ∀ {vs : List Nat}, i ∉ vs → (wipe σ vs)[i]? = σ[i]?
  | [], _ => rfl
  | v :: vs, h => by
    simp at h
    unfold wipe
    rw [List.getElem?_set_ne (fun z => h.1 z.symm), wipe_ne h.2]
theorem dWipe_ne {i : Nat} : ∀ {vs : List Nat}, i ∉ vs → (dWipe ρ vs)[i]? = ρ[i]?
  | [], _ => rfl
  | v :: vs, h => by
    simp at h
    unfold dWipe
    rw [List.getElem?_set_ne (fun z => h.1 z.symm), dWipe_ne h.2]
/-- a block's own names are wiped -/
abbrev Cd.wp (C : Cd) (ρ : Ro) (σ : L2.St) (vs : List Nat) : Cd := { C with F := fun b => C.F b ∨ ∃ i ∈ vs, ∃ ds, ρ[i]? = some (some (.own ds)) ∧ σ[i]? = some (some (.ref b)) }
theorem bad_wp {vs : List Nat} {b : Addr} : bad (C.wp ρ σ vs) (dWipe ρ vs) (wipe σ vs) b ↔ bad C ρ σ b := by
  constructor
  · rintro (z | (z | ⟨i, _, ds, h1, h2⟩) | ⟨i, ds, h1, h2⟩ | z)
    · exact .inl z
    · exact .inr (.inl z)
    · exact .inr (.inr (.inl ⟨i, ds, h1, h2⟩))
    · obtain ⟨h3, h4⟩ := dWipe_some h1
      rw [wipe_ne h4] at h2
      exact .inr (.inr (.inl ⟨i, ds, h3, h2⟩))
    · exact .inr (.inr (.inr z))
  · rintro (z | z | ⟨i, ds, h1, h2⟩ | z)
    · exact .inl z
    · exact .inr (.inl (.inl z))
    · by_cases hi : i ∈ vs
      · exact .inr (.inl (.inr ⟨i, hi, ds, h1, h2⟩))
      · exact .inr (.inr (.inl ⟨i, ds, by rw [dWipe_ne hi]; exact h1, by rw [wipe_ne hi]; exact h2⟩))
    · exact .inr (.inr (.inr z))
theorem own_wp {vs : List Nat} {b : Addr} (h : ownAt (dWipe ρ vs) (wipe σ vs) b) : ownAt ρ σ b := by
  obtain ⟨i, ds, h1, h2⟩ := h
  obtain ⟨h3, h4⟩ := dWipe_some h1
  rw [wipe_ne h4] at h2
  exact ⟨i, ds, h3, h2⟩
theorem Rep.wiped (R : Rep K C ρ σ H) (vs : List Nat) : Rep K (C.wp ρ σ vs) (dWipe ρ vs) (wipe σ vs) H := by
  have s : Same (wo (bad C ρ σ) H) (wo (bad (C.wp ρ σ vs) (dWipe ρ vs) (wipe σ vs)) H) := wo_mono (fun _ z => bad_wp.mp z) fun _ _ _ e => e
  refine ⟨by rw [dWipe_len, wipe_length]; exact R.len, fun i y e => ?_, fun i j b ds es h1 h2 h3 h4 => ?_, R.tp, R.ext, R.s1, R.s2, R.s0, fun b hb => ?_, R.s00, fun q hq => Dt.mono s (R.pin q hq), R.tin, R.s3, R.tab, ?_, fun b hb => ?_⟩
  · obtain ⟨e1, e2⟩ := dWipe_some e
    obtain ⟨w, g1, g2⟩ := R.val i y e1
    refine ⟨w, by rw [wipe_ne e2]; exact g1, ?_⟩
    cases y with
    | p d => exact Dt.mono s g2
    | own ds =>
      obtain ⟨q, us, rfl, h3, h4, h5, h6⟩ := g2
      refine ⟨q, us, rfl, h3, DtAll.mono s h4, ⟨h5.1, ?_⟩, h6⟩
      rintro (z | ⟨j, hj, es, f1, f2⟩)
      · exact h5.2 z
      · have := R.dis i j q ds es e1 f1 g1 f2
        subst this
        exact e2 hj
    | nw ds => exact g2
    | tape => exact g2
    | ot m => exact g2
    | nt m => exact g2
    | fv f F => exact ⟨g2.1, s _ _ g2.2.1, s _ _ g2.2.2⟩
  · obtain ⟨e1, n1⟩ := dWipe_some h1
    obtain ⟨e2, n2⟩ := dWipe_some h2
    rw [wipe_ne n1] at h3
    rw [wipe_ne n2] at h4
    exact R.dis i j b ds es e1 e2 h3 h4
  · rcases hb with z | ⟨j, hj, es, f1, f2⟩
    · exact R.f0 b z
    · exact R.badL (.inr (.inr (.inl ⟨j, es, f1, f2⟩)))
  · obtain ⟨φ, T⟩ := R.tre
    refine ⟨φ, fun i m e => ?_, fun a b m n c h1 h2 => T.dis a b m n c (dWipe_some h1).1 (dWipe_some h2).1⟩
    obtain ⟨e1, e2⟩ := dWipe_some e
    obtain ⟨w, g1, g2, g3⟩ := T.rel i m e1
    exact ⟨w, by rw [wipe_ne e2]; exact g1, g2.mono s fun _ _ _ e => e, g3⟩
  · obtain ⟨h1, h2, h3, h4⟩ := R.g0 b hb
    refine ⟨h1, h2, ?_, fun z => h4 (own_wp z)⟩
    rintro (z | ⟨j, hj, es, f1, f2⟩)
    · exact h3 z
    · exact h4 ⟨j, es, f1, f2⟩
theorem wipe_agr {l vs : List Nat} {σ2 : L2.St} (a : Agr l (wipe σ vs) σ2) (hl : ∀ j ∈ l, j ∈ vs) : wipe σ2 vs = wipe σ vs := by
  apply List.ext_getElem?
  intro i
  by_cases hi : i ∈ vs
  · have none_at : ∀ (τ : L2.St) (ws : List Nat), i ∈ ws → (wipe τ ws)[i]? = if i < τ.length then some none else none := by
      intro τ ws
      induction ws with
      | nil => intro h; cases h
      | cons v ws ih =>
        intro h
        unfold wipe
        by_cases e : v = i
        · subst e
          rw [List.getElem?_set]
          simp [wipe_length]
        · rw [List.getElem?_set_ne e]
          exact ih ((List.mem_cons.mp h).resolve_left fun z => e z.symm)
    rw [none_at σ2 vs hi, none_at σ vs hi]
    have := a.1
    rw [wipe_length] at this
    rw [this]
  · rw [wipe_ne hi, a.2 i (fun z => hi (hl i z)), wipe_ne hi]
theorem up_lc {ti : TID} {l : List Nat} {g : TGD} {tt : TTD} {te : TED} {vs : List Nat} (hl : ∀ j ∈ l, j ∈ vs) : ∀ σ H Q, up K (dLc ti g tt te vs) σ H Q → tLc (upI K ti) (upG K l g) (upT K tt) (up K te) vs σ H Q := by
  rintro σ H Q ⟨C, ρ, Qd, R, h, post⟩
  refine ⟨C, ρ, _, R, h, ?_⟩
  rintro J H1 items pins R1 k1 wk q D hD
  refine ⟨fun i m Hc => m = items.length - i ∧ i ≤ items.length ∧ Kq C.t H1 Hc ∧ ∃ acc us, Rep K ((C.add pins).at D) ρ σ Hc ∧ Hc D = some (.lst us) ∧ DtAll (wo (bad ((C.add pins).at D) ρ σ) Hc) us acc ∧
      acc.length ≤ sizeLine ∧ lcW (fun x K => elW g tt te x (dWipe ρ vs) K) (items.drop i) acc fun acc => Qd (.nw acc),
    ⟨_, rfl, Nat.zero_le _, Kq.new hD, [], [], R1.open hD, upd_same, .nil, Nat.zero_le _, by simpa using q⟩, ?_⟩
  rintro i m Hc ⟨rfl, hi, kc, acc, us, RD, hDc, hacc, hz, q⟩
  have hD0 : H D = none := k1.free (R1.t1 hD) hD
  have hH0 : C.H0 D = none := R.h0n hD0
  by_cases hlt : i < items.length
  · right
    rw [List.drop_eq_getElem_cons hlt] at q
    obtain ⟨go, hy⟩ := wk.go ((C.add pins).at D) ρ σ Hc i _ rfl (has_add pins) RD (List.getElem?_eq_getElem hlt)
    refine ⟨go, fun H' => i < items.length ∧ Kq C.t H1 H' ∧ ∃ acc us, Rep K ((C.add pins).at D) ρ σ H' ∧ H' D = some (.lst us) ∧ DtAll (wo (bad ((C.add pins).at D) ρ σ) H') us acc ∧
      acc.length ≤ sizeLine ∧ lcW (fun x K => elW g tt te x (dWipe ρ vs) K) (items.drop (i + 1)) acc fun acc => Qd (.nw acc), ?_, ?_⟩
    · rintro H' ⟨h1, h2, h3⟩
      exact ⟨items.length - (i + 1), by omega, rfl, h1, h2, h3⟩
    · intro x H' y
      obtain ⟨k2, R2, r2⟩ := hy x H' y
      have k2 : Kq C.t Hc H' := k2
      have R2w := R2.wiped vs
      have s0 : Same (wo (bad ((C.add pins).at D) ρ σ) H') (wo (bad (((C.add pins).at D).wp ρ σ vs) (dWipe ρ vs) (wipe σ vs)) H') := wo_mono (fun _ z => bad_wp.mp z) fun _ _ _ e => e
      have rI : RelI K (((C.add pins).at D).wp ρ σ vs) (dWipe ρ vs) (wipe σ vs) H' x items[i] := by
        revert r2
        generalize items[i] = z
        intro r2
        cases z with
        | one d => exact Dt.mono s0 r2
        | two d e =>
          obtain ⟨T, v1, v2, e1, e2, e3, e4⟩ := r2
          exact ⟨T, v1, v2, e1, e2, Dt.mono s0 e3, Dt.mono s0 e4⟩
      refine ⟨((C.add pins).at D).wp ρ σ vs, dWipe ρ vs, items[i], _, R2w, rI, q, fun ρ2 σ2 R3 a3 s3 q3 => ⟨wipe_agr a3.1 hl, ?_⟩⟩
      refine ⟨((C.add pins).at D).wp ρ σ vs, ρ2, _, R3, q3, fun b H3 R4 k4 q4 => ?_⟩
      have k4 : Kq C.t H' H3 := k4
      have nDt : nx C.t D := R1.t1 hD
      cases b with
      | false =>
        rw [if_neg Bool.false_ne_true] at q4
        show (if false = true then _ else _)
        rw [if_neg Bool.false_ne_true]
        have k : Kq C.t Hc H3 := k2.trans k4
        have RD' := RD.step (C := (C.add pins).at D) k R4.tp R4.tab
        exact ⟨hlt, kc.trans k, acc, us, RD', k D _ nDt hDc, DtAll.mono (RD.kp (C := (C.add pins).at D) k) hacc, hz, q4⟩
      | true =>
        rw [if_pos rfl] at q4
        show (if true = true then _ else _)
        rw [if_pos rfl]
        refine ⟨((C.add pins).at D).wp ρ σ vs, ρ2, _, R4, q4, ?_⟩
        rintro v H4 y R5 k5 e5 ⟨d, hd, hz', q5⟩
        have k5 : Kq C.t H3 H4 := k5
        have k : Kq C.t Hc H4 := (k2.trans k4).trans k5
        have RD' := RD.step (C := (C.add pins).at D) k R5.tp R5.tab
        have hD4 : H4 D = some (.lst us) := k D _ nDt hDc
        have n1 : ¬ ownAt ρ σ D := by
          rintro ⟨j, ds, f1, f2⟩
          obtain ⟨w, g1, p, ws, rfl, g3, g4, g5, g6⟩ := RD'.val j _ f1
          rw [f2] at g1
          cases g1
          exact g5.2 (.inr rfl)
        have n0 : ¬ C.S0 D := R.s0n hH0
        have n3 : D ≠ C.t.2 := fun z => n0 (z ▸ R.s2)
        have hR : Rep K ((C.add pins).at D) ρ σ (upd H4 D (.lst (us ++ [v]))) := Rep.grow (C := C.add pins) RD' hD4 (fun _ _ z => by cases z) (fun c q => by rw [hD4]; exact fun z => lst_code (Option.some.inj z)) n0 n1 nDt n3 hH0
        have bd : bad ((C.add pins).at D) ρ σ D := .inr (.inl (.inr rfl))
        have s1 : Same (wo (bad ((C.add pins).at D) ρ σ) H4) (wo (bad ((C.add pins).at D) ρ σ) (upd H4 D (.lst (us ++ [v])))) := fun a o e => by
          obtain ⟨f1, f2⟩ := wo_of e
          exact wo_mk f1 (by rw [upd_ne (fun z => f1 (by rw [z]; exact bd))]; exact f2)
        have s2 : Same (wo (bad (((C.add pins).at D).wp ρ σ vs) ρ2 σ2) H4) (wo (bad ((C.add pins).at D) ρ σ) H4) := wo_mono (fun b z => by
          rcases bad_wp.mpr z with z | z | ⟨j, ds, f1, f2⟩ | z
          · exact .inl z
          · exact .inr (.inl z)
          rotate_left
          · exact .inr (.inr (.inr z))
          · have nj := (dWipe_some f1).2
            exact .inr (.inr (.inl ⟨j, ds, by rw [a3.2.2 j (fun z => nj (hl j z))]; exact f1, by rw [a3.1.2 j (fun z => nj (hl j z))]; exact f2⟩))) fun _ _ _ e => e
        have gd := Dt.mono s1 (Dt.mono s2 (R4.stOf e5 hd))
        have ga := DtAll.mono s1 (DtAll.mono (RD.kp (C := (C.add pins).at D) k) hacc)
        refine ⟨us, hD4, by rw [ga.length]; exact hz', hlt, fun b o nb e => ?_, acc ++ [d], us ++ [v], hR, upd_same, ga.snoc gd, by simp; omega, q5⟩
        rw [upd_ne (ne_of_none e hD)]
        exact (kc.trans k) b o nb e
  · left
    have e : i = items.length := by omega
    subst e
    rw [List.drop_length] at q
    refine ⟨wk.stop ((C.add pins).at D) ρ σ Hc rfl (has_add pins) RD, post (.ref D) Hc (.nw acc) RD.shut.unpin (k1.trans kc) ⟨D, us, rfl, hD0, hDc, DtAll.mono (wo_mono (fun b z => ?_) fun _ _ _ e => e) hacc, hz⟩ q⟩
    exact bad_at.mpr (z.elim (fun z => .inl z) .inr)
end
end My
namespace My
open PySem PySem.Spec PyProof.Rows L2
variable [TB]

section
variable {X : Cx} {pos : Pos}
abbrev FTs (X : Cx) (ifs : List Expr) (t : TTD) : Prop := PTs X ifs (upT X.K t)
theorem fts_nil : FTs X [] dYes := by
  refine ⟨fun pins s σ H Q I h => pts_nil.run pins s σ H Q I ?_⟩
  obtain ⟨C, ρ, Qd, R, h, post⟩ := h
  exact post true H R (Kq.refl _ _) h
theorem fts_one {c : Expr} {t : TTD} (h : FT X c t) : FTs X [c] t := pts_one h
theorem fe_lc {elt tg iter : Expr} {ifs : List Expr} {scope : Scope} {own : List (Str × Nat)} {ti : TID} {l : List Nat} {g : TGD} {tt : TTD} {te : TED} (hc : X.calm = true) (hN : X.N.Nodup) (hi : FI X tg iter ti) (ok : BlkOk X.N X.env.scope scope own)
    (hg : ∀ (s : Shared) (H : Hp) (C : Addr) (cl : List (Str × Addr)) (fp : List Addr), FG (X.blk s H scope (compEnvC scope cl C X.env) fp) tg l g) (ht : ∀ (s : Shared) (H : Hp) (C : Addr) (cl : List (Str × Addr)) (fp : List Addr), FTs (X.blk s H scope (compEnvC scope cl C X.env) fp) ifs tt)
    (he : ∀ (s : Shared) (H : Hp) (C : Addr) (cl : List (Str × Addr)) (fp : List Addr), FE (X.blk s H scope (compEnvC scope cl C X.env) fp) elt te) (hl : ∀ j ∈ l, j ∈ own.map (·.2)) (hs : ∀ x, foldedSetIterable iter X.env x = pure x := by intro _; rfl) :
    FE X (.ListComp elt [⟨tg, iter, ifs, 0⟩] scope pos) (dLc ti g tt te (own.map (·.2))) :=
  (pe_lc hc hN hi ok hg ht he hs).mo (up_lc hl)
theorem fs_setLc {i : Nat} {y : Str} {py : Pos} {elt tg iter : Expr} {ifs : List Expr} {scope : Scope} {own : List (Str × Nat)} {spos : Pos} {ti : TID} {l : List Nat} {g : TGD} {tt : TTD} {te : TED} (hc : X.calm = true) (hN : X.N.Nodup) (hy : X.N[i]? = some y) (hyl : X.env.scope.names.lookup y = some .local)
    (hsw : swapsWith (.ListComp elt [⟨tg, iter, ifs, 0⟩] scope pos) (some (.Name y py)) spos.line X.env = pure true) (hi : FI X tg iter ti) (ok : BlkOk X.N X.env.scope scope own)
    (hg : ∀ (s : Shared) (H : Hp) (C : Addr) (cl : List (Str × Addr)) (fp : List Addr), FG (X.blk s H scope (compEnvC scope cl C X.env) fp) tg l g) (ht : ∀ (s : Shared) (H : Hp) (C : Addr) (cl : List (Str × Addr)) (fp : List Addr), FTs (X.blk s H scope (compEnvC scope cl C X.env) fp) ifs tt)
    (he : ∀ (s : Shared) (H : Hp) (C : Addr) (cl : List (Str × Addr)) (fp : List Addr), FE (X.blk s H scope (compEnvC scope cl C X.env) fp) elt te) (hl : ∀ j ∈ l, j ∈ own.map (·.2)) (hs : ∀ x, foldedSetIterable iter X.env x = pure x := by intro _; rfl) :
    FS X (.Assign [.Name y py] (.ListComp elt [⟨tg, iter, ifs, 0⟩] scope pos) spos) (dSet i (dLc ti g tt te (own.map (·.2)))) :=
  fs_setM (ps_setLc hc hN hy hyl hsw hi ok hg ht he hs) (up_lc hl)
theorem fs_setLcN {i : Nat} {y : Str} {py : Pos} {elt tg iter : Expr} {ifs : List Expr} {scope : Scope} {own : List (Str × Nat)} {spos : Pos} {ti : TID} {l : List Nat} {g : TGD} {tt : TTD} {te : TED} (hc : X.calm = true) (hN : X.N.Nodup) (hy : X.N[i]? = some y) (hyl : X.env.scope.names.lookup y = some .local)
    (hsw : swapsWith (.ListComp elt [⟨tg, iter, ifs, 0⟩] scope pos) (some (.Name y py)) spos.line X.env = pure true) (hi : FI X tg iter ti) (ok : BlkOk X.N X.env.scope scope own)
    (hg : ∀ (s : Shared) (H : Hp) (C : Addr) (cl : List (Str × Addr)) (fp : List Addr), FG (X.blk s H scope (compEnvC scope cl C X.env) fp) tg l g) (ht : ∀ (s : Shared) (H : Hp) (C : Addr) (cl : List (Str × Addr)) (fp : List Addr), FTs (X.blk s H scope (compEnvC scope cl C X.env) fp) ifs tt)
    (he : ∀ (s : Shared) (H : Hp) (C : Addr) (cl : List (Str × Addr)) (fp : List Addr), FE (X.blk s H scope (compEnvC scope cl C X.env) fp) elt te) (hl : ∀ j ∈ l, j ∈ own.map (·.2)) (hs : ∀ x, foldedSetIterable iter X.env x = pure x := by intro _; rfl) :
    FS X (.Assign [.Name y py] (.ListComp elt [⟨tg, iter, ifs, 0⟩] scope pos) spos) (dSetN i (dLc ti g tt te (own.map (·.2)))) :=
  fs_setNM (ps_setLc hc hN hy hyl hsw hi ok hg ht he hs) (up_lc hl)
end

/-! ### calls of own defs -/
abbrev SpD := List D → (D → Prop) → Prop
/-- as an argument -/
def D.arg : D → Option D
  | .p d => some (.p d) | .nw ds => some (.p (.list ds)) | .tape => some .tape | .nt m => some (.p m.dat) | _ => none
def argAll : List D → Option (List D)
  | [] => some []
  | x :: xs => match x.arg, argAll xs with
    | some d, some ds => some (d :: ds)
    | _, _ => none
def RelA (t : TA2) (S0 : Addr → Prop) (H : Hp) (v : V) : D → Prop
  | .p d => Dt (wo S0 H) v d | .tape => v = .ref t.1 | _ => False
def RelB (S0 : Addr → Prop) (H H' : Hp) (v : V) : D → Prop
  | .p d => Dt (wo S0 H') v d
  | .nw ds => ∃ p vs, v = .ref p ∧ H p = none ∧ H' p = some (.lst vs) ∧ DtAll (wo (fun b => S0 b ∨ b = p) H') vs ds ∧ ds.length ≤ sizeLine
  | _ => False
def spU (K : PySem.W.Frag) (n : Nat) (S : SpD) : Sp := fun vs H Q _ => ∃ (t : TA2) (S0 : Addr → Prop) (xs : List D) (Qd : D → Prop), Tape K H t ∧ Tbs H ∧ S0 t.1 ∧ S0 t.2 ∧ (∀ p ∈ TB.T, S0 p.1) ∧ (∀ b, S0 b → ∃ o, H b = some o) ∧
  Paired (RelA t S0 H) vs xs ∧ xs.length = n ∧ S xs Qd ∧ ∀ v H' x, Tape K H' t → Tbs H' → Kq t H H' → RelB S0 H H' v x → Qd x → Q v H'
theorem spU_len {K : PySem.W.Frag} {n : Nat} {S : SpD} {ps : List Str} (hn : ps.length = n) : ∀ vs H Q E, spU K n S vs H Q E → vs.length = ps.length := by
  rintro vs H Q E ⟨t, S0, xs, Qd, _, _, _, _, _, _, h, hl, _⟩
  rw [h.length, hl, hn]
def dCall (n : Nat) (S : SpD) (t : TAD) : TED := fun ρ Q => t ρ fun xs => ∃ ys, argAll xs = some ys ∧ ys.length = n ∧ S ys Q
section
variable {K : PySem.W.Frag} {C : Cd} {ρ : Ro} {σ : L2.St} {H H1 H2 H' : Hp}
theorem up_call {n : Nat} {S : SpD} {t : TAD} : ∀ σ H Q, up K (dCall n S t) σ H Q → tCall (spU K n S) [] E0 (upA K t) σ H Q := by
  rintro σ H Q ⟨C, ρ, Qd, R, h, post⟩
  refine ⟨C, ρ, _, R, h, fun vs H1 xs R1 k1 e => ?_⟩
  rintro ⟨ys, ha, hn, hs⟩
  show spU K n S (vs ++ []) H1 Q E0
  rw [List.append_nil]
  refine ⟨C.t, bad C ρ σ, ys, _, R1.tp, R1.tab, R1.badT, .inl R1.s2, fun p hp => .inl (R1.s3 p hp), fun b hb => R1.badL hb, ?_, hn, hs, fun v H2 x T tb k r q => post v H2 x (R1.step k T tb) (k1.trans k) ?_ q⟩
  · have go : ∀ {vs : List V} {xs ys : List D}, Paired (RelE C ρ σ H H1) vs xs → argAll xs = some ys → Paired (RelA C.t (bad C ρ σ) H1) vs ys := by
      intro vs xs
      induction xs generalizing vs with
      | nil => intro ys h e; cases h; cases e; exact .nil
      | cons x xs ih =>
        intro ys h e
        cases h with
        | cons h t =>
          unfold argAll at e
          cases e1 : x.arg with
          | none => simp [e1] at e
          | some d =>
            cases e2 : argAll xs with
            | none => simp [e1, e2] at e
            | some ds =>
              simp [e1, e2] at e
              subst e
              refine .cons ?_ (ih t e2)
              cases x with
              | p d => cases e1; exact h
              | own ds => cases e1
              | nw ds => cases e1; exact R.stOf h rfl
              | tape => cases e1; exact h
              | ot m => cases e1
              | nt m => cases e1; exact R.stOf h rfl
              | fv f F => cases e1
    exact go e ha
  · cases x with
    | p d => exact r
    | own ds => exact r.elim
    | nw ds =>
      obtain ⟨p, us, rfl, h1, h2, h3, h4⟩ := r
      exact ⟨p, us, rfl, k1.free (R1.t1 h1) h1, h2, h3, h4⟩
    | _ => exact r.elim
end
section
variable {X : Cx} {n k : Nat} {ps : List Str} {S : SpD} {x : Str} {p pos : Pos} {e : Expr} {es : List Expr} {t : TAD}
theorem fe_call (gd : X.A.guards = some []) (C : CalG X.prog X.w X.K X.mg X.base k x ps (spU X.K n S)) (hr : Room k X.A) (hg : Gl X x)
    (ha : FA X (e :: es) t) (hdb : (x == ("__debug__" : Str)) = false := by decide)
    (he : starEach (e :: es) X.env = (false, eval e X.env) :: starEach es X.env := by rfl)
    (hpl : (backTo pos (starEach es X.env)).any (·.1) = false := by rfl) :
    FE X (.Call (.Name x p) (e :: es) [] pos) (dCall n S t) := (pe_calG gd C hr hg ha hdb he hpl).mo up_call
end

/-! ### a def's body -/
def iniR : List D → Nat → Ro
  | [], m => List.replicate m none
  | x :: xs, m => some x :: iniR xs m
theorem iniR_eq : ∀ (xs : List D) (m : Nat), iniR xs m = xs.map some ++ List.replicate m none
  | [], m => rfl
  | x :: xs, m => by unfold iniR; rw [iniR_eq xs m]; rfl
/-- what is wanted of a body -/
def endsOf (Q : D → Prop) : EndsD := { nx := fun _ => Q (.p .none), rt := Q }
theorem fn_body {X : Cx} {body : List Stmt} {t : TSD} {n m : Nat} {S : SpD} {N : List Str} {vs : List V} {H : Hp} {Q : VK} {E : XK}
    (hb : FSs X body t) (hN : N.length = n + m) (hs : ∀ xs Qd, S xs Qd → t (endsOf Qd) (iniR xs m)) (h : spU X.K n S vs H Q E) :
    ∃ t, PSs X body t ∧ t { nx := fun _ h => Q .non h, rt := Q } (L2.start N vs) H := by
  obtain ⟨t0, S0, xs, Qd, T, tb, s1, s2, s3, s0, hv, hl, hS, post⟩ := h
  have hvl : vs.length = n := by rw [hv.length, hl]
  refine ⟨_, hb, ⟨t0, S0, fun _ => False, H, [], [], fun _ => False⟩, iniR xs m, endsOf Qd, ?_, hs xs Qd hS, ?_⟩
  · have nown : ∀ (i : Nat) (ds : List PyData), (iniR xs m)[i]? ≠ some (some (.own ds)) := by
      intro i ds e
      rw [iniR_eq] at e
      by_cases hi : i < xs.length
      · rw [List.getElem?_append_left (by simpa using hi), List.getElem?_map] at e
        cases e1 : xs[i]? with
        | none => rw [e1] at e; cases e
        | some x =>
          rw [e1] at e
          simp at e
          subst e
          obtain ⟨v, e2, r⟩ := paired_get hv e1
          exact r
      · rw [List.getElem?_append_right (by simpa using hi), List.getElem?_replicate] at e
        split at e <;> cases e
    have ntree : ∀ (i : Nat) (tm : M), (iniR xs m)[i]? ≠ some (some (.ot tm)) := by
      intro i tm e
      rw [iniR_eq] at e
      by_cases hi : i < xs.length
      · rw [List.getElem?_append_left (by simpa using hi), List.getElem?_map] at e
        cases e1 : xs[i]? with
        | none => rw [e1] at e; cases e
        | some x =>
          rw [e1] at e
          simp at e
          subst e
          obtain ⟨v, e2, r⟩ := paired_get hv e1
          exact r
      · rw [List.getElem?_append_right (by simpa using hi), List.getElem?_replicate] at e
        split at e <;> cases e
    have hbad : ∀ b, bad ⟨t0, S0, fun _ => False, H, [], [], fun _ => False⟩ (iniR xs m) (L2.start N vs) b ↔ S0 b := fun b => by
      constructor
      · rintro (z | z | ⟨i, ds, h1, _⟩ | z)
        · exact z
        · exact z.elim
        · exact (nown i ds h1).elim
        · exact z.elim
      · exact .inl
    refine ⟨?_, fun i x e => ?_, fun i j b ds es h1 => (nown i ds h1).elim, T, Kq.refl _ _, s1, s2, s0, fun b z => z.elim, fun b z => ?_, (by intro q hq; cases hq), (by intro q hq; cases hq), s3, tb, ⟨fun _ => [], fun i m e => (ntree i m e).elim, fun i j m n b h1 => (ntree i m h1).elim⟩, fun b z => z.elim⟩
    · rw [iniR_eq, List.length_append, List.length_map, List.length_replicate]
      unfold L2.start
      rw [List.length_append, List.length_map, List.length_replicate]
      omega
    · rw [iniR_eq] at e
      by_cases hi : i < xs.length
      · rw [List.getElem?_append_left (by simpa using hi), List.getElem?_map] at e
        cases e1 : xs[i]? with
        | none => rw [e1] at e; cases e
        | some y =>
          rw [e1] at e
          simp at e
          subst e
          obtain ⟨v, e2, r⟩ := paired_get hv e1
          refine ⟨v, ?_, ?_⟩
          · unfold L2.start
            rw [List.getElem?_append_left (by rw [List.length_map]; omega), List.getElem?_map, e2]
            rfl
          · cases y with
            | p d => exact Dt.mono (wo_mono (fun b z => (hbad b).mp z) fun _ _ _ e => e) r
            | tape => exact r
            | _ => exact r.elim
      · rw [List.getElem?_append_right (by simpa using hi), List.getElem?_replicate] at e
        split at e <;> cases e
    · obtain ⟨ys, e⟩ := s0 b z
      exact ⟨_, e⟩
  · refine ⟨fun G ρ σ H' R q => ?_, fun v H' x r q => ?_, fun _ _ _ _ _ q => q.elim, fun _ _ _ _ _ q => q.elim⟩
    · exact post .non H' (.p .none) R.tp R.tab R.ext .non q
    · refine post v H' x r.tp r.tab r.ext ?_ q
      have rr := r.rel
      cases x with
      | p d => exact rr
      | nw ds => exact rr
      | _ => exact rr.elim
where
  paired_get : ∀ {F : V → D → Prop} {vs : List V} {xs : List D} {i : Nat} {x : D}, Paired F vs xs → xs[i]? = some x → ∃ v, vs[i]? = some v ∧ F v x
    | _, _, _, _, _, .nil, e => by simp at e
    | _, _, _, 0, _, .cons h _, e => by simp at e; subst e; exact ⟨_, rfl, h⟩
    | _, _, _, i + 1, _, .cons _ t, e => by
      obtain ⟨d, h1, h2⟩ := paired_get (i := i) t (by simpa using e)
      exact ⟨d, by simpa using h1, h2⟩
/-- a def keeps its promise -/
theorem Df.calU {P : Program} {w : World} {K : PySem.W.Frag} {mg : Str → Option Value} {base : Heap} {x : Str} {st : Stmt} {N ps : List Str} {k n m : Nat} {S : SpD} {t : TSD} (D : Df K mg x st ps) (sc : FnScope N ps (defScope st))
    (hn : ps.length = n) (hN : N.length = n + m) (hs : ∀ xs Qd, S xs Qd → t (endsOf Qd) (iniR xs m))
    (hb : ∀ (f : Addr) (cdv : Value) (A : Around) (o : List Env) (s : Shared) (H : Hp) (E : XK),
      Room k (A.deeper (envOfC x (defScope st) s.heap.objs.size f cdv)) → A.guards = some [] →
      FSs (cxOf CX0 P w K mg base N x (defScope st) f cdv A o s H E).nox (defBody st) t) :
    CalG P w K mg base (k + 1) x ps (spU K n S) := by
  refine D.calG sc (spU_len hn) (fun f cdv A o s H vs Q E hr hg h => ?_)
  exact fn_body (hb f cdv A o s H E hr hg) hN hs h
end My
namespace My
open PySem PySem.Spec PyProof.Rows L2
variable [TB]

/-! ### one rule for an operator, whatever the kinds -/
abbrev RD2 := D → D → (D → Prop) → Prop
theorem orOp {X : Cx} {f : Value → Value → Sem Value} {r1 r2 : R2} (h1 : OpR X f r1) (h2 : OpR X f r2) : OpR X f (fun x y H Q => r1 x y H Q ∨ r2 x y H Q) := by
  intro pins s σ H x y v u Q I rx ry h
  rcases h with h | h
  · exact h1 pins s σ H x y v u Q I rx ry h
  · exact h2 pins s σ H x y v u Q I rx ry h
theorem orLi {K : PySem.W.Frag} {r1 r2 : R2} {d1 d2 : RD2} (h1 : Li2 K r1 d1) (h2 : Li2 K r2 d2) : Li2 K (fun x y H Q => r1 x y H Q ∨ r2 x y H Q) (fun x y Q => d1 x y Q ∨ d2 x y Q) := by
  intro C ρ σ H0 H v u x y Qd Q R k e1 e2 h post
  rcases h with h | h
  · exact .inl (h1 C ρ σ H0 H v u x y Qd Q R k e1 e2 h post)
  · exact .inr (h2 C ρ σ H0 H v u x y Qd Q R k e1 e2 h post)
theorem Li2.mo {K : PySem.W.Frag} {r : R2} {d d' : RD2} (h : Li2 K r d) (m : ∀ x y Q, d' x y Q → d x y Q) : Li2 K r d' := by
  intro C ρ σ H0 H v u x y Qd Q R k e1 e2 q post
  exact h C ρ σ H0 H v u x y Qd Q R k e1 e2 (m _ _ _ q) post
theorem orCa {X : Cx} {f : Value} {r1 r2 : List V → Hp → VK → Prop} (h1 : CallR X f r1) (h2 : CallR X f r2) : CallR X f (fun xs H Q => r1 xs H Q ∨ r2 xs H Q) := by
  intro pins s σ H xs us Q I r h
  rcases h with h | h
  · exact h1 pins s σ H xs us Q I r h
  · exact h2 pins s σ H xs us Q I r h
theorem orLL {K : PySem.W.Frag} {r1 r2 : List V → Hp → VK → Prop} {d1 d2 : List D → (D → Prop) → Prop} (h1 : LiL K r1 d1) (h2 : LiL K r2 d2) : LiL K (fun x H Q => r1 x H Q ∨ r2 x H Q) (fun x Q => d1 x Q ∨ d2 x Q) := by
  intro C ρ σ H0 H vs xs Qd Q R k e h post
  rcases h with h | h
  · exact .inl (h1 C ρ σ H0 H vs xs Qd Q R k e h post)
  · exact .inr (h2 C ρ σ H0 H vs xs Qd Q R k e h post)
theorem LiL.mo {K : PySem.W.Frag} {r : List V → Hp → VK → Prop} {d d' : List D → (D → Prop) → Prop} (h : LiL K r d) (m : ∀ x Q, d' x Q → d x Q) : LiL K r d' := by
  intro C ρ σ H0 H vs xs Qd Q R k e q post
  exact h C ρ σ H0 H vs xs Qd Q R k e (m _ _ q) post
theorem orSl {K : PySem.W.Frag} {r1 r2 : V → Option Int → Option Int → Hp → VK → Prop} {d1 d2 : D → Option Int → Option Int → (D → Prop) → Prop} (h1 : Li3 K r1 d1) (h2 : Li3 K r2 d2) : Li3 K (fun x l u H Q => r1 x l u H Q ∨ r2 x l u H Q) (fun x l u Q => d1 x l u Q ∨ d2 x l u Q) := by
  intro C ρ σ H0 H v x lo hi Qd Q R k e h post
  rcases h with h | h
  · exact .inl (h1 C ρ σ H0 H v x lo hi Qd Q R k e h post)
  · exact .inr (h2 C ρ σ H0 H v x lo hi Qd Q R k e h post)
theorem Li3.mo {K : PySem.W.Frag} {r : V → Option Int → Option Int → Hp → VK → Prop} {d d' : D → Option Int → Option Int → (D → Prop) → Prop} (h : Li3 K r d) (m : ∀ x l u Q, d' x l u Q → d x l u Q) : Li3 K r d' := by
  intro C ρ σ H0 H v x lo hi Qd Q R k e q post
  exact h C ρ σ H0 H v x lo hi Qd Q R k e (m _ _ _ _ q) post

/-! ### + -/
def bAdd (x y : D) (Q : D → Prop) : Prop := match x.ls, y.ls with
  | some ds, some es => ds.length + es.length ≤ sizeLine ∧ Q (.nw (ds ++ es))
  | _, _ => match x, y with
    | .p (.int i), .p (.int j) => Q (.p (.int (i + j)))
    | .p (.str i), .p (.str j) => i.length + j.length ≤ sizeLine ∧ Q (.p (.str (i ++ j)))
    | .p (.tuple ds), .p (.tuple es) => ds.length + es.length ≤ sizeLine ∧ Q (.p (.tuple (ds ++ es)))
    | _, _ => False
section
variable {X : Cx} {a b : Expr} {ta tb : TED} {pos : Pos}
theorem fe_add (ha : FE X a ta) (hb : FE X b tb) : FE X (.BinOp a .Add b pos) (dOp bAdd ta tb) := by
  refine fe_op (orOp op_add (orOp op_add_str (orOp op_catG op_cat))) ((orLi li_I0 (orLi li_catS (orLi li_cat li_catL))).mo ?_) ha hb
  intro x y Q h
  unfold bAdd at h
  split at h
  · exact .inr (.inr (.inr ⟨_, _, by assumption, by assumption, h.1, h.2⟩))
  · split at h
    · exact .inl ⟨_, _, rfl, rfl, h⟩
    · exact .inr (.inl ⟨_, _, rfl, rfl, h.1, h.2⟩)
    · exact .inr (.inr (.inl ⟨_, _, rfl, rfl, h.1, h.2⟩))
    · exact h.elim
/-! ### * -/
def rRepG (K : PySem.W.Frag) : R2 := fun x y H Q => ∃ l k xs, x = .ref l ∧ y = .int k ∧ SqT K H l xs ∧ 2 ≤ k ∧ k ≤ 1000 ∧ xs.length ≤ 1000 ∧
  (xs = [] → Q (.ref l) H) ∧ (xs ≠ [] → NewG H Q (List.replicate k.toNat xs).flatten)
theorem op_repG {X : Cx} : OpR X (binaryOp .Mult) (rRepG X.K) := by
  intro pins s σ H x y v u Q I rx ry h
  obtain ⟨l, k, xs, rfl, rfl, hT, h1, h2, hz, q1, q2⟩ := h
  by_cases hne : xs = []
  · exact op_repE pins s σ H (.ref l) (.int k) v u Q I rx ry ⟨l, k, xs, rfl, rfl, hT, h1, h2, hz, q1, fun z => (z hne).elim⟩
  · cases rx
    obtain ⟨tk, rfl⟩ := ry
    obtain ⟨us, r, ⟨⟨cl, dd, dt, sl⟩, hob, hcl, n, hdt⟩, hs⟩ := I.tuple hT
    simp only at hcl hdt
    subst hcl hdt
    have hl : us.length = xs.length := r.length.symm
    have emp : us.toArray.isEmpty = false := by
      cases us with
      | nil => cases r; exact absurd rfl hne
      | cons _ _ => rfl
    have sz : us.toArray.size = xs.length := by rw [List.size_toArray, hl]
    have pr : ((us.toArray.size : Nat) : Int) * k ≤ 1000000 := by
      rw [sz]
      have := Int.mul_le_mul_of_nonneg_right (show ((xs.length : Nat) : Int) ≤ 1000 by omega) (show (0 : Int) ≤ k by omega)
      omega
    have ml : k.toNat * xs.length ≤ 1000 * 1000 := Nat.mul_le_mul (by omega) hz
    have fl : (List.replicate k.toNat us).flatten.length ≤ sizeLine := by
      rw [PyProof.Rows.lm_len_rep_flat, hl]
      exact Nat.le_trans ml (by decide)
    have fx : (List.replicate k.toNat xs).flatten.length ≤ sizeLine := by
      rw [PyProof.Rows.lm_len_rep_flat]
      exact Nat.le_trans ml (by decide)
    have b0 : (decide (k < -(2 ^ 63)) || decide (k ≥ 2 ^ 63)) = false := by
      rw [decide_eq_false (by omega), decide_eq_false (by omega)]; rfl
    have b1 : (us.toArray.isEmpty || k == 1) = false := by
      rw [emp]
      exact beq_eq_false_iff_ne.mpr (by omega)
    have b2 : (decide (k ≤ 0) || us.toArray.isEmpty) = false := by
      rw [emp, decide_eq_false (by omega)]; rfl
    have b4 : Builtin.Tuple.tupleTooMany (((us.toArray.size : Nat) : Int) * k) = false :=
      decide_eq_false (by rw [sizeLine_eq]; omega)
    have mul := tuple_mulW l us.toArray n dd sl k tk b0 b1 b2 (by omega) b4 (by rw [size_rep, List.size_toArray]; exact fl)
    have rml := int_rmul_tuple k tk l us.toArray n dd sl
    have isT := typeIs_int s k tk
    refine wpAny_binaryOp_repeat_ref (T := "tuple") (U := "int") (by decide) ⟨_, hob, rfl⟩ (fun s2 => typeIs_int s2 k tk) noFill_tuple_mul
      F.fills_int_mul F.slot_int_rmul repeat_tuple F.slot_int_index.lookup ?_
    refine call_meets F.slot_int_rmul isT F.entry_int_rmul (F.args_int_rmul_2 _ _) rml ⟨hob, rfl, ⟨_, hob, rfl⟩, ?_⟩
    refine call_meets F.slot_tuple_mul ⟨_, hob, rfl⟩ F.entry_tuple_mul (F.args_tuple_mul_2 _ _) mul ⟨hob, ?_⟩
    rw [size_rep]
    exact layG I (r.rep k.toNat) fx (q2 hne)
def rdRepG : RD2 := fun x y Q => ∃ ds k, x = .p (.tuple ds) ∧ y = .p (.int k) ∧ 2 ≤ k ∧ k ≤ 1000 ∧ ds.length ≤ 1000 ∧ Q (.p (.tuple (List.replicate k.toNat ds).flatten))
theorem DtAll.flat {H : Hp} {vs : List V} {ds : List PyData} (h : DtAll H vs ds) : ∀ n : Nat, DtAll H (List.replicate n vs).flatten (List.replicate n ds).flatten
  | 0 => .nil
  | n + 1 => by
    rw [List.replicate_succ, List.replicate_succ, List.flatten_cons, List.flatten_cons]
    exact h.append (DtAll.flat h n)
theorem li_repG {K : PySem.W.Frag} : Li2 K (rRepG K) rdRepG := by
  rintro C ρ σ H0 H v u x y Qd Q R k e1 e2 ⟨ds, n, rfl, rfl, h1, h2, hz, q⟩ post
  obtain ⟨a, vs, rfl, t1, d1⟩ := R.tupOf e1
  refine ⟨a, n, vs, rfl, rel_int e2, t1.sq, h1, h2, by rw [d1.length]; exact hz, fun z => ?_, fun z => R.newG (H0 := H0) (d1.flat n.toNat) q post⟩
  subst z
  cases d1
  have e : (List.replicate n.toNat ([] : List PyData)).flatten = [] := by simp
  rw [e] at q
  exact post _ H (.p (.tuple [])) R (Kq.refl _ _) e1 q
def rdRepL : RD2 := fun x y Q => ∃ ds k, x.ls = some ds ∧ y = .p (.int k) ∧ -(2 ^ 63) ≤ k ∧ k < 2 ^ 63 ∧ ds.length * k.toNat ≤ sizeLine ∧ Q (.nw (List.replicate k.toNat ds).flatten)
theorem li_repL {K : PySem.W.Frag} : Li2 K L2.rRep rdRepL := by
  rintro C ρ σ H0 H v u x y Qd Q R k e1 e2 ⟨ds, n, h1, rfl, h2, h3, hz, q⟩ post
  obtain ⟨a, vs, rfl, t1, d1⟩ := R.lstOf e1 h1
  refine ⟨a, n, vs, rfl, rel_int e2, t1, h2, h3, by rw [d1.length]; exact hz, R.newL (H0 := H0) (d1.flat n.toNat) (by rw [PyProof.Rows.lm_len_rep_flat, Nat.mul_comm]; exact hz) q post⟩
def bMul (x y : D) (Q : D → Prop) : Prop := match x.ls, y with
  | some ds, .p (.int k) => (-(2 ^ 63) ≤ k ∧ k < 2 ^ 63 ∧ ds.length * k.toNat ≤ sizeLine) ∧ Q (.nw (List.replicate k.toNat ds).flatten)
  | _, _ => match x, y with
    | .p (.int i), .p (.int j) => CMul i j ∧ Q (.p (.int (i * j)))
    | .p (.tuple ds), .p (.int k) => (2 ≤ k ∧ k ≤ 1000 ∧ ds.length ≤ 1000) ∧ Q (.p (.tuple (List.replicate k.toNat ds).flatten))
    | _, _ => False
theorem fe_mul (ha : FE X a ta) (hb : FE X b tb) : FE X (.BinOp a .Mult b pos) (dOp bMul ta tb) := by
  refine fe_op (orOp op_mul (orOp op_repG op_rep)) ((orLi li_I (orLi li_repG li_repL)).mo ?_) ha hb
  intro x y Q h
  unfold bMul at h
  split at h
  · exact .inr (.inr ⟨_, _, by assumption, rfl, h.1.1, h.1.2.1, h.1.2.2, h.2⟩)
  · split at h
    · exact .inl ⟨_, _, rfl, rfl, h.1, h.2⟩
    · exact .inr (.inl ⟨_, _, rfl, rfl, h.1.1, h.1.2.1, h.1.2.2, h.2⟩)
    · exact h.elim
/-! ### ints -/
def bI (c : Int → Int → Prop) (g : Int → Int → Int) (x y : D) (Q : D → Prop) : Prop := match x, y with
  | .p (.int i), .p (.int j) => c i j ∧ Q (.p (.int (g i j)))
  | _, _ => False
def bI0 (g : Int → Int → Int) (x y : D) (Q : D → Prop) : Prop := match x, y with
  | .p (.int i), .p (.int j) => Q (.p (.int (g i j)))
  | _, _ => False
theorem bI_of {c : Int → Int → Prop} {g : Int → Int → Int} : ∀ x y Q, bI c g x y Q → rdI c (fun i j => .int (g i j)) x y Q := by
  intro x y Q h
  unfold bI at h
  split at h
  · exact ⟨_, _, rfl, rfl, h.1, h.2⟩
  · exact h.elim
theorem bI0_of {g : Int → Int → Int} : ∀ x y Q, bI0 g x y Q → rdI0 (fun i j => .int (g i j)) x y Q := by
  intro x y Q h
  unfold bI0 at h
  split at h
  · exact ⟨_, _, rfl, rfl, h⟩
  · exact h.elim
def bSub := bI0 fun i j => i - j
def bMod := bI (fun _ j => 0 < j) fun i j => i % j
def bDiv := bI CDiv fun i j => i / j
def bPow := bI CPow fun i j => i ^ j.toNat
def bShl := bI CShl fun i j => i * 2 ^ j.toNat
def bShr := bI (fun _ j => 0 ≤ j) fun i j => i / 2 ^ j.toNat
def bAnd := bI0 Builtin.bitAnd
def bOr := bI0 Builtin.bitOr
def bXor := bI0 Builtin.bitXor
theorem fe_sub (ha : FE X a ta) (hb : FE X b tb) : FE X (.BinOp a .Sub b pos) (dOp bSub ta tb) := fe_op op_sub (li_I0.mo bI0_of) ha hb
theorem fe_mod (ha : FE X a ta) (hb : FE X b tb) : FE X (.BinOp a .Mod b pos) (dOp bMod ta tb) := fe_op op_mod (li_I.mo bI_of) ha hb
theorem fe_div (ha : FE X a ta) (hb : FE X b tb) : FE X (.BinOp a .FloorDiv b pos) (dOp bDiv ta tb) := fe_op op_fdiv (li_I.mo bI_of) ha hb
theorem fe_pow (ha : FE X a ta) (hb : FE X b tb) : FE X (.BinOp a .Pow b pos) (dOp bPow ta tb) := fe_op op_pow (li_I.mo bI_of) ha hb
theorem fe_shl (ha : FE X a ta) (hb : FE X b tb) : FE X (.BinOp a .LShift b pos) (dOp bShl ta tb) := fe_op op_shlW (li_I.mo bI_of) ha hb
theorem fe_shr (ha : FE X a ta) (hb : FE X b tb) : FE X (.BinOp a .RShift b pos) (dOp bShr ta tb) := fe_op op_shr (li_I.mo bI_of) ha hb
theorem fe_band (ha : FE X a ta) (hb : FE X b tb) : FE X (.BinOp a .BitAnd b pos) (dOp bAnd ta tb) := fe_op op_and (li_I0.mo bI0_of) ha hb
theorem fe_bor (ha : FE X a ta) (hb : FE X b tb) : FE X (.BinOp a .BitOr b pos) (dOp bOr ta tb) := fe_op op_or (li_I0.mo bI0_of) ha hb
theorem fe_bxor (ha : FE X a ta) (hb : FE X b tb) : FE X (.BinOp a .BitXor b pos) (dOp bXor ta tb) := fe_op op_xor (li_I0.mo bI0_of) ha hb
def uI (g : Int → Int) (x : D) (Q : D → Prop) : Prop := match x with
  | .p (.int i) => Q (.p (.int (g i)))
  | _ => False
theorem Li1.mo {K : PySem.W.Frag} {r : V → Hp → VK → Prop} {d d' : D → (D → Prop) → Prop} (h : Li1 K r d) (m : ∀ x Q, d' x Q → d x Q) : Li1 K r d' := by
  intro C ρ σ H0 H v x Qd Q R k e1 q post
  exact h C ρ σ H0 H v x Qd Q R k e1 (m _ _ q) post
theorem uI_of {g : Int → Int} : ∀ x Q, uI g x Q → rdU g x Q := by
  intro x Q h
  unfold uI at h
  split at h
  · exact ⟨_, rfl, h⟩
  · exact h.elim
def uNeg := uI fun i => -i
def uInv := uI Builtin.bitNot
theorem fe_neg (ha : FE X a ta) : FE X (.UnaryOp .USub a pos) (dUn uNeg ta) := fe_un un_neg (li_U.mo uI_of) ha
theorem fe_inv (ha : FE X a ta) : FE X (.UnaryOp .Invert a pos) (dUn uInv ta) := fe_un un_inv (li_U.mo uI_of) ha

/-! ### comparisons -/
def eqOk (d e : PyData) : Bool := sc2 d e || (SeqAt.shaped d && SeqAt.shaped e)
theorem sceq_eqv {d e : PyData} (h : sc2 d e = true) : sceq d e = PyData.eqv d e := by
  cases d <;> cases e <;> first | (simp [sc2] at h; done) | (simp only [sceq, PyData.eqv]; done) | (simp only [sceq, PyData.eqv]; rw [Bool.eq_iff_iff]; simp)
def bEqN (neg : Bool) (x y : D) (Q : D → Prop) : Prop := match x.dat, y.dat with
  | some d, some e => eqOk d e = true ∧ Q (.p (.bool (if neg = true then !PyData.eqv d e else PyData.eqv d e)))
  | _, _ => False
theorem sc2_p {x y : D} {d e : PyData} (hx : x.dat = some d) (hy : y.dat = some e) (h : sc2 d e = true) : x = .p d ∧ y = .p e := by
  constructor
  · cases x with
    | p d' => cases hx; rfl
    | own ds => cases hx; cases e <;> simp [sc2] at h
    | nw ds => cases hx; cases e <;> simp [sc2] at h
    | tape => cases hx
    | ot m => cases m <;> cases hx <;> cases e <;> simp [sc2] at h
    | nt m => cases m <;> cases hx <;> cases e <;> simp [sc2] at h
    | fv f F => cases hx
  · cases y with
    | p d' => cases hy; rfl
    | own ds => cases hy; cases d <;> simp [sc2] at h
    | nw ds => cases hy; cases d <;> simp [sc2] at h
    | tape => cases hy
    | ot m => cases m <;> cases hy <;> cases d <;> simp [sc2] at h
    | nt m => cases m <;> cases hy <;> cases d <;> simp [sc2] at h
    | fv f F => cases hy
theorem bEq_of : ∀ x y Q, bEqN false x y Q → rdEq x y Q ∨ rdEqD x y Q := by
  intro x y Q h
  unfold bEqN at h
  split at h
  · rename_i d e hd he
    obtain ⟨h1, q⟩ := h
    rw [if_neg Bool.false_ne_true] at q
    unfold eqOk at h1
    cases s : sc2 d e with
    | true =>
      obtain ⟨rfl, rfl⟩ := sc2_p hd he s
      exact .inl ⟨d, e, rfl, rfl, s, by rw [sceq_eqv s]; exact q⟩
    | false =>
      rw [s] at h1
      simp at h1
      exact .inr ⟨d, e, hd, he, h1.1, h1.2, q⟩
  · exact h.elim
theorem bNe_of : ∀ x y Q, bEqN true x y Q → rdNe x y Q ∨ rdNeD x y Q := by
  intro x y Q h
  unfold bEqN at h
  split at h
  · rename_i d e hd he
    obtain ⟨h1, q⟩ := h
    rw [if_pos rfl] at q
    unfold eqOk at h1
    cases s : sc2 d e with
    | true =>
      obtain ⟨rfl, rfl⟩ := sc2_p hd he s
      exact .inl ⟨d, e, rfl, rfl, s, by rw [sceq_eqv s]; exact q⟩
    | false =>
      rw [s] at h1
      simp at h1
      exact .inr ⟨d, e, hd, he, h1.1, h1.2, q⟩
  · exact h.elim
abbrev bEq := bEqN false
abbrev bNe := bEqN true
/-- the rule of a comparison, by its values -/
structure CmpU (X : Cx) (op : CmpOp) (rd : RD2) : Prop where
  ex : ∃ r, OpR X (compareOp op) r ∧ Li2 X.K r rd
theorem cu_eq (hu : X.A.units + 64 < cLine) : CmpU X .Eq bEq := ⟨_, orOp op_eq (op_eqD hu), (orLi li_eq li_eqD).mo bEq_of⟩
theorem cu_ne (hu : X.A.units + 64 < cLine) : CmpU X .NotEq bNe := ⟨_, orOp op_ne (op_neD hu), (orLi li_ne li_neD).mo bNe_of⟩
theorem fe_cu {op : CmpOp} {rd : RD2} (c : CmpU X op rd) (ha : FE X a ta) (hb : FE X b tb) (hm : behindInMarks op b = false) : FE X (.Compare a [op] [b] pos) (dOp rd ta tb) := by
  obtain ⟨r, h1, h2⟩ := c.ex
  exact fe_cmp h1 h2 ha hb hm
theorem ft_cu {op : CmpOp} {rd : RD2} (c : CmpU X op rd) (ha : FE X a ta) (hb : FE X b tb) (hm : behindInMarks op b = false) : FT X (.Compare a [op] [b] pos) (dTest (dOp rd ta tb)) := by
  obtain ⟨r, h1, h2⟩ := c.ex
  exact ft_cmp h1 h2 ha hb hm
def bLt (x y : D) (Q : D → Prop) : Prop := match x, y with
  | .p (.int i), .p (.int j) => Q (.p (.bool (decide (i < j))))
  | .p (.str i), .p (.str j) => Q (.p (.bool (decide (i.cps.toList < j.cps.toList))))
  | .p (.tuple d), .p (.tuple e) => (PySem.W.alike (.tuple d) (.tuple e) = true ∧ (PyData.tuple d).depth ≤ 30 ∧ (PyData.tuple d).hasDict = false ∧ (PyData.tuple e).hasDict = false) ∧ Q (.p (.bool (PySem.W.dataLt (.tuple d) (.tuple e))))
  | _, _ => False
theorem cu_lt (hu : X.A.units + 64 < cLine) : CmpU X .Lt bLt := by
  refine ⟨_, orOp op_lt (orOp op_lt_str (op_ltD hu)), (orLi li_B0 (orLi li_ltS li_ltD)).mo ?_⟩
  intro x y Q h
  unfold bLt at h
  split at h
  · exact .inl ⟨_, _, rfl, rfl, h⟩
  · exact .inr (.inl ⟨_, _, rfl, rfl, trivial, h⟩)
  · exact .inr (.inr ⟨_, _, rfl, rfl, h.1.1, (fun z => nomatch z), h.1.2.1, h.1.2.2, h.2⟩)
  · exact h.elim
theorem li_S {K : PySem.W.Frag} {g : Str → Str → Bool} : Li2 K (fun x y H Q => ∃ i j, x = .str i ∧ y = .str j ∧ Q (.bl (g i j)) H) (rdS (fun _ _ => True) fun i j => .bool (g i j)) := by
  rintro C ρ σ H0 H v u x y Qd Q R k e1 e2 ⟨i, j, rfl, rfl, _, q⟩ post
  exact ⟨i, j, rel_str e1, rel_str e2, post _ H (.p (.bool _)) R (Kq.refl _ _) (.bl _) q⟩
def bIS (g : Int → Int → Bool) (s : Str → Str → Bool) (x y : D) (Q : D → Prop) : Prop := match x, y with
  | .p (.int i), .p (.int j) => Q (.p (.bool (g i j)))
  | .p (.str i), .p (.str j) => Q (.p (.bool (s i j)))
  | _, _ => False
theorem bIS_of {g : Int → Int → Bool} {s : Str → Str → Bool} : ∀ x y Q, bIS g s x y Q → rdI0 (fun i j => .bool (g i j)) x y Q ∨ rdS (fun _ _ => True) (fun i j => .bool (s i j)) x y Q := by
  intro x y Q h
  unfold bIS at h
  split at h
  · exact .inl ⟨_, _, rfl, rfl, h⟩
  · exact .inr ⟨_, _, rfl, rfl, trivial, h⟩
  · exact h.elim
def bLe := bIS (fun i j => decide (i ≤ j)) fun i j => !decide (j.cps.toList < i.cps.toList)
def bGt := bIS (fun i j => decide (j < i)) fun i j => decide (j.cps.toList < i.cps.toList)
def bGe := bIS (fun i j => decide (j ≤ i)) fun i j => !decide (i.cps.toList < j.cps.toList)
theorem cu_le : CmpU X .LtE bLe := ⟨_, orOp op_le op_le_str, (orLi li_B0 li_S).mo bIS_of⟩
theorem cu_gt : CmpU X .Gt bGt := ⟨_, orOp op_gt op_gt_str, (orLi li_B0 li_S).mo bIS_of⟩
theorem cu_ge : CmpU X .GtE bGe := ⟨_, orOp op_ge op_ge_str, (orLi li_B0 li_S).mo bIS_of⟩
def bIs (x y : D) (Q : D → Prop) : Prop := match y with
  | .p .none => Q (.p (.bool x.isNone))
  | _ => False
def bIsnt (x y : D) (Q : D → Prop) : Prop := match y with
  | .p .none => Q (.p (.bool (!x.isNone)))
  | _ => False
theorem cu_is : CmpU X .Is bIs := by
  refine ⟨_, op_isN, li_isN.mo ?_⟩
  intro x y Q h
  unfold bIs at h
  split at h
  · exact ⟨rfl, h⟩
  · exact h.elim
theorem cu_isnt : CmpU X .IsNot bIsnt := by
  refine ⟨_, op_notN, li_notN.mo ?_⟩
  intro x y Q h
  unfold bIsnt at h
  split at h
  · exact ⟨rfl, h⟩
  · exact h.elim
theorem li_inS {K : PySem.W.Frag} : Li2 K (fun x y H Q => ∃ (c : Nat) (z : Str), x = .str ⟨#[c]⟩ ∧ y = .str z ∧ Q (.bl (decide (c ∈ z.cps.toList))) H) (rdInS false) := by
  rintro C ρ σ H0 H v u x y Qd Q R k e1 e2 ⟨c, z, rfl, rfl, q⟩ post
  exact ⟨c, z, rel_str e1, rel_str e2, post _ H (.p (.bool _)) R (Kq.refl _ _) (.bl _) q⟩
theorem li_ninS {K : PySem.W.Frag} : Li2 K (fun x y H Q => ∃ (c : Nat) (z : Str), x = .str ⟨#[c]⟩ ∧ y = .str z ∧ Q (.bl (!decide (c ∈ z.cps.toList))) H) (rdInS true) := by
  rintro C ρ σ H0 H v u x y Qd Q R k e1 e2 ⟨c, z, rfl, rfl, q⟩ post
  exact ⟨c, z, rel_str e1, rel_str e2, post _ H (.p (.bool _)) R (Kq.refl _ _) (.bl _) q⟩
/-- x in y: a sign in a text; flat things; things of any depth in a list -/
def inOk (x y : D) (d : PyData) (ds : List PyData) : Prop := (x = .p d ∧ fl d = true ∧ ds.all fl = true) ∨ (y.ls = some ds ∧ SeqAt.shaped d = true ∧ SeqAt.shaped (.list ds) = true)
def bInN (neg : Bool) (x y : D) (Q : D → Prop) : Prop := match y with
  | .p (.str z) => match x with
    | .p (.str a) => match a.cps.toList with
      | [c] => Q (.p (.bool (if neg = true then !decide (c ∈ z.cps.toList) else decide (c ∈ z.cps.toList))))
      | _ => False
    | _ => False
  | y => match x.dat, y.sq with
    | some d, some ds => inOk x y d ds ∧ Q (.p (.bool (if neg = true then !(ds.any fun z => PyData.eqv z d) else ds.any fun z => PyData.eqv z d)))
    | _, _ => False
theorem one_sign {a : Str} {c : Nat} (h : a.cps.toList = [c]) : a = ⟨#[c]⟩ := by
  cases a with
  | mk arr =>
    have : arr = #[c] := by
      apply Array.ext'
      simpa using h
    rw [this]
theorem cu_in (hu : X.A.units + 65 < cLine) : CmpU X .In (bInN false) := by
  refine ⟨_, orOp op_in_sign (orOp op_in_seq (op_inD hu)), (orLi li_inS (orLi (li_in false) li_inD)).mo ?_⟩
  intro x y Q h
  unfold bInN at h
  split at h
  · split at h
    · split at h
      · rename_i c e
        exact .inl ⟨c, _, by rw [one_sign e], rfl, h⟩
      · exact h.elim
    · exact h.elim
  · split at h
    · obtain ⟨(⟨h1, h2, h3⟩ | ⟨h1, h2, h3⟩), q⟩ := h
      · exact .inr (.inl ⟨_, _, h1, by assumption, h2, h3, q⟩)
      · exact .inr (.inr ⟨_, _, by assumption, h1, h2, h3, q⟩)
    · exact h.elim
theorem cu_notIn (hu : X.A.units + 65 < cLine) : CmpU X .NotIn (bInN true) := by
  refine ⟨_, orOp op_notIn_sign (orOp op_notIn_seq (op_notInD hu)), (orLi li_ninS (orLi (li_in true) li_ninD)).mo ?_⟩
  intro x y Q h
  unfold bInN at h
  split at h
  · split at h
    · split at h
      · rename_i c e
        exact .inl ⟨c, _, by rw [one_sign e], rfl, h⟩
      · exact h.elim
    · exact h.elim
  · split at h
    · obtain ⟨(⟨h1, h2, h3⟩ | ⟨h1, h2, h3⟩), q⟩ := h
      · exact .inr (.inl ⟨_, _, h1, by assumption, h2, h3, q⟩)
      · exact .inr (.inr ⟨_, _, by assumption, h1, h2, h3, q⟩)
    · exact h.elim
end
end My
namespace My
open PySem PySem.Spec PyProof.Rows L2
variable [TB]

/-! ### subscripts, slices -/
def bIx (x y : D) (Q : D → Prop) : Prop := match x, y with
  | .p (.str z), .p (.int i) => z.length ≤ sizeLine ∧ ∃ c, atI z.cps.toList i = some c ∧ Q (.p (.str ⟨#[c]⟩))
  | x, .p (.int i) => match x.sq with
    | some ds => ∃ d, atI ds i = some d ∧ Q (.p d)
    | _ => False
  | _, _ => False
section
variable {X : Cx} {a b : Expr} {ta tb : TED} {pos : Pos}
theorem fe_bix (ha : FE X a ta) (hb : FE X b tb) (hs : PlainIx b) : FE X (.Subscript a b pos) (dOp bIx ta tb) := by
  refine fe_ix (IxR.or ix_sq ix_str) ((orLi li_ix li_ixS).mo ?_) ha hb hs
  intro x y Q h
  unfold bIx at h
  split at h
  · obtain ⟨h1, c, h2, q⟩ := h
    exact .inr ⟨_, _, c, rfl, rfl, h1, h2, q⟩
  · split at h
    · obtain ⟨d, h2, q⟩ := h
      exact .inl ⟨_, _, d, by assumption, rfl, h2, q⟩
    · exact h.elim
  · exact h.elim
def bSl (x : D) (lo hi : Option Int) (Q : D → Prop) : Prop := match x with
  | .p (.str z) => z.length ≤ sizeLine ∧ Q (.p (.str (cutS z lo hi)))
  | .p (.tuple ds) => Q (.p (.tuple (cutD ds lo hi)))
  | x => match x.ls with
    | some ds => ds.length ≤ sizeLine ∧ Q (.nw (cutD ds lo hi))
    | _ => False
def rdSlS : D → Option Int → Option Int → (D → Prop) → Prop := fun x lo hi Q => ∃ z : Str, x = .p (.str z) ∧ z.length ≤ sizeLine ∧ Q (.p (.str (cutS z lo hi)))
theorem li_slS {K : PySem.W.Frag} : Li3 K rSlS rdSlS := by
  rintro C ρ σ H0 H v x lo hi Qd Q R k e1 ⟨z, rfl, h1, q⟩ post
  exact ⟨z, rel_str e1, h1, post _ H (.p (.str _)) R (Kq.refl _ _) (.str _) q⟩
theorem fe_bsl {lo hi : Option Expr} {p2 : Pos} {tl th : TOD} (he : FE X a ta) (hl : FO X lo tl) (hu : FO X hi th) : FE X (.Subscript a (.Slice lo hi none p2) pos) (dSl bSl ta tl th) := by
  refine fe_slice (SlR.or sl_str (SlR.or sl_tupG sl_list)) ((orSl li_slS (orSl li_slT li_slL)).mo ?_) he hl hu
  intro x lo hi Q h
  unfold bSl at h
  split at h
  · exact .inl ⟨_, rfl, h.1, h.2⟩
  · exact .inr (.inl ⟨_, rfl, h⟩)
  · split at h
    · exact .inr (.inr ⟨_, by assumption, h.1, h.2⟩)
    · exact h.elim
end

/-! ### calls of built-ins -/
def c1 (f : D → (D → Prop) → Prop) (xs : List D) (Q : D → Prop) : Prop := match xs with
  | [x] => f x Q
  | _ => False
def c2 (f : D → D → (D → Prop) → Prop) (xs : List D) (Q : D → Prop) : Prop := match xs with
  | [x, y] => f x y Q
  | _ => False
theorem c1_of {f : D → (D → Prop) → Prop} {g : List D → (D → Prop) → Prop} (h : ∀ x Q, f x Q → g [x] Q) : ∀ xs Q, c1 f xs Q → g xs Q := by
  intro xs Q q
  unfold c1 at q
  split at q
  · exact h _ _ q
  · exact q.elim
theorem c2_of {f : D → D → (D → Prop) → Prop} {g : List D → (D → Prop) → Prop} (h : ∀ x y Q, f x y Q → g [x, y] Q) : ∀ xs Q, c2 f xs Q → g xs Q := by
  intro xs Q q
  unfold c2 at q
  split at q
  · exact h _ _ _ q
  · exact q.elim
def kLen (x : D) (Q : D → Prop) : Prop := match x with
  | .p (.str z) => z.length ≤ sizeLine ∧ Q (.p (.int z.length))
  | x => match x.sq with
    | some ds => Q (.p (.int ds.length))
    | _ => False
section
variable {X : Cx} {a : Expr} {es : List Expr} {t : TAD} {p pos : Pos}
theorem li_lenS {K : PySem.W.Frag} : LiL K (fun xs H Q => ∃ z, xs = [.str z] ∧ z.length ≤ sizeLine ∧ Q (.int z.length) H) rdLenS := by
  rintro C ρ σ H0 H vs xs Qd Q R k e0 ⟨z, rfl, h1, q⟩ post
  obtain ⟨v, rfl, e⟩ := p1 e0
  exact ⟨z, by rw [rel_str e], h1, post _ H (.p (.int _)) R (Kq.refl _ _) (.int _) q⟩
/-- the rule of a built-in function, of a built-in type -/
structure BuU (X : Cx) (f : Value) (rd : List D → (D → Prop) → Prop) : Prop where
  ex : ∃ r, CallR X f r ∧ LiL X.K r rd
theorem bu_len : BuU X (.builtin "len") (c1 kLen) := by
  refine ⟨_, orCa call_lenK call_len_str, (orLL li_len li_lenS).mo (c1_of ?_)⟩
  intro x Q h
  unfold kLen at h
  split at h
  · exact .inr ⟨_, rfl, h.1, h.2⟩
  · split at h
    · exact .inl ⟨_, _, rfl, by assumption, h⟩
    · exact h.elim
def kTup (x : D) (Q : D → Prop) : Prop := match x with
  | .p (.tuple ds) => Q (.p (.tuple ds))
  | x => match x.ls with
    | some ds => Q (.p (.tuple ds))
    | _ => False
def rTupSame (K : PySem.W.Frag) : List V → Hp → VK → Prop := fun xs H Q => ∃ p ys, xs = [.ref p] ∧ SqT K H p ys ∧ Q (.ref p) H
theorem call_tupSame : CallR X (.type "tuple") (rTupSame X.K) := by
  intro pins s σ H xs us Q I r h
  obtain ⟨p, ys, h1, h2, q⟩ := h
  exact call_tupK pins s σ H xs us Q I r ⟨p, ys, h1, .inr ⟨h2, q⟩⟩
theorem li_tupSame {K : PySem.W.Frag} : LiL K (rTupSame K) (fun xs Q => ∃ ds, xs = [.p (.tuple ds)] ∧ Q (.p (.tuple ds))) := by
  rintro C ρ σ H0 H vs xs Qd Q R k e0 ⟨ds, rfl, q⟩ post
  obtain ⟨v, rfl, e⟩ := p1 e0
  obtain ⟨a, vs, rfl, t1, d1⟩ := R.tupOf e
  exact ⟨a, vs, rfl, t1.sq, post _ H (.p (.tuple ds)) R (Kq.refl _ _) e q⟩
theorem bu_tup : BuU X (.type "tuple") (c1 kTup) := by
  refine ⟨_, orCa call_tupG call_tupSame, (orLL li_tupL li_tupSame).mo (c1_of ?_)⟩
  intro x Q h
  unfold kTup at h
  split at h
  · exact .inr ⟨_, rfl, h⟩
  · split at h
    · exact .inl ⟨_, _, rfl, by assumption, h⟩
    · exact h.elim
def kLis (x : D) (Q : D → Prop) : Prop := match x.sq with
  | some ds => ds.length ≤ sizeLine ∧ Q (.nw ds)
  | _ => False
theorem bu_lis : BuU X (.type "list") (c1 kLis) := by
  refine ⟨_, call_lisK, li_lis.mo (c1_of ?_)⟩
  intro x Q h
  unfold kLis at h
  split at h
  · exact ⟨_, _, rfl, by assumption, h.1, h.2⟩
  · exact h.elim
def kInt (x : D) (Q : D → Prop) : Prop := match x with
  | .p (.int i) => Q (.p (.int i))
  | .p (.bool b) => Q (.p (.int (b2d b)))
  | _ => False
theorem bu_int : BuU X (.type "int") (c1 kInt) := by
  refine ⟨_, call_int1, li_int.mo (c1_of ?_)⟩
  intro x Q h
  unfold kInt at h
  split at h
  · exact .inl ⟨_, rfl, h⟩
  · exact .inr ⟨_, rfl, h⟩
  · exact h.elim
def kAbs (x : D) (Q : D → Prop) : Prop := match x with
  | .p (.int i) => Q (.p (.int i.natAbs))
  | _ => False
theorem bu_abs : BuU X (.builtin "abs") (c1 kAbs) := by
  refine ⟨_, call_abs, li_abs.mo (c1_of ?_)⟩
  intro x Q h
  unfold kAbs at h
  split at h
  · exact ⟨_, rfl, h⟩
  · exact h.elim
def kMax (x y : D) (Q : D → Prop) : Prop := match x, y with
  | .p (.int i), .p (.int j) => Q (.p (.int (max i j)))
  | _, _ => False
def kMin (x y : D) (Q : D → Prop) : Prop := match x, y with
  | .p (.int i), .p (.int j) => Q (.p (.int (min i j)))
  | _, _ => False
theorem bu_max (hc : X.calm = true) : BuU X (.builtin "max") (c2 kMax) := by
  refine ⟨_, call_max2 hc, li_max.mo (c2_of ?_)⟩
  intro x y Q h
  unfold kMax at h
  split at h
  · exact ⟨_, _, rfl, h⟩
  · exact h.elim
theorem bu_min (hc : X.calm = true) : BuU X (.builtin "min") (c2 kMin) := by
  refine ⟨_, call_min2 hc, li_min.mo (c2_of ?_)⟩
  intro x y Q h
  unfold kMin at h
  split at h
  · exact ⟨_, _, rfl, h⟩
  · exact h.elim
def repOk (d : PyData) : Prop := d.showable = true ∧ d.hasDict = false ∧ d.depth ≤ 40 ∧ d.shown.length ≤ sizeLine
def kRep (x : D) (Q : D → Prop) : Prop := match x.dat with
  | some d => repOk d ∧ Q (.p (.str d.shown))
  | _ => False
theorem bu_rep (gd : X.A.guards = some []) (hu : X.A.units + 64 < cLine) : BuU X (.builtin "repr") (c1 kRep) := by
  refine ⟨_, call_rep gd hu, li_rep.mo (c1_of ?_)⟩
  intro x Q h
  unfold kRep at h
  split at h
  · exact ⟨_, _, rfl, by assumption, h.1.1, h.1.2.1, h.1.2.2.1, h.1.2.2.2, h.2⟩
  · exact h.elim
def intsOf : List PyData → Option (List Int)
  | [] => some []
  | .int i :: r => (intsOf r).map (i :: ·)
  | _ => none
def boolsOf : List PyData → Option (List Bool)
  | [] => some []
  | .bool i :: r => (boolsOf r).map (i :: ·)
  | _ => none
def strsOf : List PyData → Option (List Str)
  | [] => some []
  | .str i :: r => (strsOf r).map (i :: ·)
  | _ => none
theorem intsOf_eq : ∀ {ds : List PyData} {ns : List Int}, intsOf ds = some ns → ds = ns.map PyData.int
  | [], ns, h => by cases h; rfl
  | d :: ds, ns, h => by
    cases d <;> simp [intsOf] at h
    obtain ⟨r, h1, rfl⟩ := h
    rw [intsOf_eq h1]; rfl
theorem boolsOf_eq : ∀ {ds : List PyData} {ns : List Bool}, boolsOf ds = some ns → ds = ns.map PyData.bool
  | [], ns, h => by cases h; rfl
  | d :: ds, ns, h => by
    cases d <;> simp [boolsOf] at h
    obtain ⟨r, h1, rfl⟩ := h
    rw [boolsOf_eq h1]; rfl
theorem strsOf_eq : ∀ {ds : List PyData} {ns : List Str}, strsOf ds = some ns → ds = ns.map PyData.str
  | [], ns, h => by cases h; rfl
  | d :: ds, ns, h => by
    cases d <;> simp [strsOf] at h
    obtain ⟨r, h1, rfl⟩ := h
    rw [strsOf_eq h1]; rfl
theorem intsOf_map : ∀ ns : List Int, intsOf (ns.map PyData.int) = some ns
  | [] => rfl
  | n :: ns => by simp [intsOf, intsOf_map ns]
theorem boolsOf_map : ∀ ns : List Bool, boolsOf (ns.map PyData.bool) = some ns
  | [] => rfl
  | n :: ns => by simp [boolsOf, boolsOf_map ns]
theorem strsOf_map : ∀ ns : List Str, strsOf (ns.map PyData.str) = some ns
  | [] => rfl
  | n :: ns => by simp [strsOf, strsOf_map ns]
def kSum (x : D) (Q : D → Prop) : Prop := match x.ls with
  | some ds => match intsOf ds with
    | some ns => Q (.p (.int ns.sum))
    | _ => False
  | _ => False
def kAny (x : D) (Q : D → Prop) : Prop := match x.ls with
  | some ds => match boolsOf ds with
    | some ns => Q (.p (.bool (ns.any id)))
    | _ => False
  | _ => False
def kAll (x : D) (Q : D → Prop) : Prop := match x.ls with
  | some ds => match boolsOf ds with
    | some ns => Q (.p (.bool (ns.all id)))
    | _ => False
  | _ => False
theorem bu_sum (hc : X.calm = true) : BuU X (.builtin "sum") (c1 kSum) := by
  refine ⟨_, cr_sum hc, li_sum.mo (c1_of ?_)⟩
  intro x Q h
  unfold kSum at h
  split at h
  · split at h
    · rename_i ds e1 _ ns e2
      exact ⟨_, ns, rfl, by rw [← intsOf_eq e2]; exact e1, h⟩
    · exact h.elim
  · exact h.elim
theorem fe_bu {x : Str} {rd : List D → (D → Prop) → Prop} {id : String} (hc : BuU X (.builtin id) rd) (hg : Gl X x) (hm : X.mg x = none) (hv : bootBuiltins x = some (.builtin id)) (ha : FA X (a :: es) t) (hn : x ≠ "__name__" := by decide) (hdb : (x == ("__debug__" : Str)) = false := by decide)
    (he : starEach (a :: es) X.env = (false, eval a X.env) :: starEach es X.env := by rfl) (hpl : (backTo pos (starEach es X.env)).any (·.1) = false := by rfl) : FE X (.Call (.Name x p) (a :: es) [] pos) (dCB rd t) := by
  obtain ⟨r, h1, h2⟩ := hc.ex
  exact fe_cb h1 h2 hg hm hv ha hn hdb he hpl
theorem fe_but {x : Str} {rd : List D → (D → Prop) → Prop} {T : String} (hc : BuU X (.type T) rd) (hg : Gl X x) (hm : X.mg x = none) (hv : bootBuiltins x = some (.type T)) (ha : FA X (a :: es) t) (hn : x ≠ "__name__" := by decide) (hdb : (x == ("__debug__" : Str)) = false := by decide)
    (he : starEach (a :: es) X.env = (false, eval a X.env) :: starEach es X.env := by rfl) (hpl : (backTo pos (starEach es X.env)).any (·.1) = false := by rfl) : FE X (.Call (.Name x p) (a :: es) [] pos) (dCB rd t) := by
  obtain ⟨r, h1, h2⟩ := hc.ex
  exact fe_ct h1 h2 hg hm hv ha hn hdb he hpl
end
end My
namespace My
open PySem PySem.Spec PyProof.Rows L2
variable [TB]

/-! ### isinstance -/
def isiB (T : String) : D → Option Bool
  | .p (.tuple _) => kitB "tuple" T
  | .p (.list _) => kitB "list" T
  | .p (.str _) => kitB "str" T
  | .p (.int _) => kitB "int" T
  | .p (.bool _) => kitB "bool" T
  | .p .none => kitB "NoneType" T
  | .own _ => kitB "list" T
  | .nw _ => kitB "list" T
  | _ => none
def dIsi (T : String) (ta : TED) : TED := fun ρ Q => ta ρ fun x => ∃ b, isiB T x = some b ∧ Q (.p (.bool b))
section
variable {X : Cx} {pos : Pos}
theorem tyX_of {K : PySem.W.Frag} {C : Cd} {ρ : Ro} {σ : L2.St} {H0 H : Hp} {v : V} {x : D} {T : String} {b : Bool} (R : Rep K C ρ σ H) (e : RelE C ρ σ H0 H v x) (h : isiB T x = some b) : ∃ t, TyX K H v t ∧ PySem.W.kitOne K t (.type T) = some b := by
  have lst : ∀ (p : Addr) (us : List V), H p = some (.lst us) → kitB "list" T = some b → ∃ t, TyX K H (.ref p) t ∧ PySem.W.kitOne K t (.type T) = some b := fun p us hp hk =>
    ⟨_, .base (.lst hp), kit_ty hk⟩
  cases x with
  | p d =>
    cases e with
    | non => exact ⟨_, .base .non, kit_ty h⟩
    | bl c => exact ⟨_, .base (.bl c), kit_ty h⟩
    | int i => exact ⟨_, .base (.int i), kit_ty h⟩
    | str z => exact ⟨_, .base (.str z), kit_ty h⟩
    | tup h1 h2 =>
      obtain ⟨o, h3, _⟩ := h1.mo
      exact ⟨_, .fTuple h3, kit_ty h⟩
    | lst h1 h2 => exact lst _ _ (wo_of h1).2 h
    | dic h1 h2 h3 h4 => cases h
  | own ds =>
    obtain ⟨p, us, rfl, h2, _⟩ := R.ofOwn e
    exact lst _ _ h2 h
  | nw ds =>
    obtain ⟨p, us, rfl, _, h2, _⟩ := e
    exact lst _ _ h2 h
  | _ => cases h
theorem fe_isi {a : Expr} {ta : TED} {T : Str} {Ts : String} {p p2 : Pos} (hg : Gl X "isinstance") (hm : X.mg "isinstance" = none) (ha : FE X a ta) (hT : PE X (.Name T p2) (tC (.ty Ts)))
    (he : starEach [a, .Name T p2] X.env = (false, eval a X.env) :: starEach [.Name T p2] X.env := by rfl) (hpl : (backTo pos (starEach [.Name T p2] X.env)).any (·.1) = false := by rfl)
    (he2 : starEach [.Name T p2] X.env = (false, eval (.Name T p2) X.env) :: starEach [] X.env := by rfl) :
    FE X (.Call (.Name "isinstance" p) [a, .Name T p2] [] pos) (dIsi Ts ta) := by
  refine (pe_callB (id := "isinstance") (r := rIsi X.K) call_isi hg hm (by decide +kernel) (pa_cons ha (pa_cons hT pa_nil he2) he) (by decide) (by decide) he hpl).mo ?_
  rintro σ H Q ⟨C, ρ, Qd, R, h, post⟩
  refine ⟨C, ρ, _, R, h, ?_⟩
  rintro v H1 x R1 k1 e ⟨b, hb, q⟩
  obtain ⟨t, h1, h2⟩ := tyX_of R1 e hb
  exact ⟨v, .ty Ts, t, .type Ts, b, rfl, .ty Ts, h1, h2, post _ H1 (.p (.bool b)) R1 k1 (.bl _) q⟩

/-! ### join, bit_length -/
def kJoin (s : Str) (y : D) (Q : D → Prop) : Prop := match y.sq with
  | some ds => match strsOf ds with
    | some ys => (ys.map (·.length)).sum + ys.length * s.length ≤ 16777216 ∧ Q (.p (.str (Txt.join s ys)))
    | _ => False
  | _ => False
def dJoin (ta tb : TED) : TED := fun ρ Q => ta ρ fun x => match x with
  | .p (.str s) => tb ρ fun y => kJoin s y Q
  | _ => False
theorem fe_join {o e : Expr} {ta tb : TED} {apos : Pos} (ho : FE X o ta) (he : FE X e tb) (hs : starEach [e] X.env = [(false, eval e X.env)] := by rfl) (hbase : attributeBase o "join" X.env (eval o X.env) = eval o X.env := by rfl) (hline : (apos.endLine == pos.line) = true := by rfl) :
    FE X (.Call (.Attribute o "join" apos) [e] [] pos) (dJoin ta tb) := by
  refine (pe_join ho he hs hbase hline).mo ?_
  rintro σ H Q ⟨C, ρ, Qd, R, h, post⟩
  refine ⟨C, ρ, _, R, h, fun v H1 x R1 k1 e1 h1 => ?_⟩
  split at h1
  · rename_i s
    obtain rfl := rel_str e1
    refine ⟨⟨s, rfl⟩, C, ρ, _, R1, h1, fun u H2 y R2 k2 e2 h2 => ?_⟩
    unfold kJoin at h2
    split at h2
    · split at h2
      · rename_i ds hy _ ys hys
        obtain ⟨hz, q⟩ := h2
        obtain ⟨a, us, rfl, t1, d1⟩ := R2.sqOf e2 hy
        rw [strsOf_eq hys] at d1
        rw [strs_dt d1] at t1
        exact ⟨s, a, ys, rfl, rfl, t1, hz, post _ H2 (.p (.str _)) R2 (k1.trans k2) (.str _) q⟩
      · exact h2.elim
    · exact h2.elim
  · exact h1.elim
def dBits (ta : TED) : TED := fun ρ Q => ta ρ fun x => match x with
  | .p (.int i) => Q (.p (.int (Builtin.Int.intBits i : Nat)))
  | _ => False
theorem fe_bits {o : Expr} {ta : TED} {apos : Pos} (ho : FE X o ta) (hbase : attributeBase o "bit_length" X.env (eval o X.env) = eval o X.env := by rfl) (hline : (apos.endLine == pos.line) = true := by rfl) :
    FE X (.Call (.Attribute o "bit_length" apos) [] [] pos) (dBits ta) := by
  refine (pe_bits ho hbase hline).mo ?_
  rintro σ H Q ⟨C, ρ, Qd, R, h, post⟩
  refine ⟨C, ρ, _, R, h, fun v H1 x R1 k1 e1 h1 => ?_⟩
  split at h1
  · exact ⟨_, rel_int e1, post _ H1 (.p (.int _)) R1 k1 (.int _) h1⟩
  · exact h1.elim
/-! ### l.index(x), flat things -/
def ixOf (d : PyData) : List PyData → Option Nat
  | [] => none
  | e :: r => if PyData.eqv e d = true then some 0 else (ixOf d r).map (· + 1)
theorem ixOf_some {d : PyData} : ∀ {ds : List PyData} {j : Nat}, ixOf d ds = some j → (∃ z, ds[j]? = some z ∧ PyData.eqv z d = true) ∧ ∀ m z, m < j → ds[m]? = some z → PyData.eqv z d = false
  | [], j, h => by cases h
  | e :: r, j, h => by
    unfold ixOf at h
    by_cases he : PyData.eqv e d = true
    · rw [if_pos he] at h
      cases h
      exact ⟨⟨e, rfl, he⟩, fun m z hm => absurd hm (Nat.not_lt_zero _)⟩
    · rw [if_neg he] at h
      cases q : ixOf d r with
      | none => rw [q] at h; cases h
      | some i =>
        rw [q] at h
        obtain rfl : i + 1 = j := Option.some.inj h
        obtain ⟨⟨z, h1, h2⟩, h3⟩ := ixOf_some q
        refine ⟨⟨z, by simpa using h1, h2⟩, fun m z hm hz => ?_⟩
        cases m with
        | zero => simp at hz; subst hz; exact Bool.not_eq_true _ ▸ he
        | succ m => exact h3 m z (by omega) (by simpa using hz)
def kIndex (x y : D) (Q : D → Prop) : Prop := match x, y with
  | .p (.tuple ds), .p (.str z) => (strsOf ds).isSome = true ∧ ∃ j, ixOf (.str z) ds = some j ∧ Q (.p (.int (j : Nat)))
  | x, .p d => match x.ls with
    | some ds => (fl d = true ∧ ds.all fl = true) ∧ ∃ j, ixOf d ds = some j ∧ Q (.p (.int (j : Nat)))
    | _ => False
  | _, _ => False
def dIndex (ta tb : TED) : TED := fun ρ Q => ta ρ fun x => x.sq.isSome = true ∧ tb ρ fun y => kIndex x y Q
def rIx2 (K : PySem.W.Frag) : V → List V → Hp → VK → Prop := fun x xs H Q => rIndex K x xs H Q ∨ rIdx K x xs H Q
def tIx2 (K : PySem.W.Frag) (to : TE) (t : TA) : TE := fun σ H Q => to σ H fun x H1 => (tyV K "list" x H1 ∧ t σ H1 fun xs H2 => rIndex K x xs H2 Q) ∨ (tyF "tuple" x H1 ∧ t σ H1 fun xs H2 => rIdx K x xs H2 Q)
theorem pe_ix2 {o e : Expr} {es : List Expr} {to : TE} {t : TA} {apos cpos : Pos} (ho : PE X o to) (ha : PA X (e :: es) t) (hbase : attributeBase o "index" X.env (eval o X.env) = eval o X.env := by rfl)
    (hfw : ((backTo cpos (starEach (e :: es) X.env)).all (fun x => !x.1) && (backToKw cpos (keywordEach [] X.env)).all (fun x => x.1.isSome) && decide
      ((e :: es).length + ([] : List Keyword).length + (if ([] : List Keyword).isEmpty then 0 else 1) < 30)) = true := by rfl)
    (hln : (apos.endLine == cpos.line) = true := by rfl) (hs : starEach (e :: es) X.env = (false, eval e X.env) :: starEach es X.env := by rfl)
    (hpl : (backTo cpos (starEach es X.env)).any (·.1) = false := by rfl) :
    PE X (.Call (.Attribute o "index" apos) (e :: es) [] cpos) (tIx2 X.K to t) := by
  constructor
  intro pins s σ H Q I h
  refine wpAny_Call_method_late hbase hfw hln rfl (thn (ho.run pins s σ H _ I h) ?_)
  rintro v s1 ⟨x, H1, I1, r1, (⟨ty, q1⟩ | ⟨⟨p, ob, u, rfl, hp, hc, hd⟩, q1⟩)⟩
  · obtain ⟨h1, h2⟩ := tyV_is I1 r1 ty
    refine ⟨"list", "list.index", PySem.F.plainAttrs_list, PySem.F.slot_list_index, PySem.F.type_list_index, h1, h2, ?_⟩
    have hA := ha.run cpos pins s1 σ H1 _ I1 q1
    rw [hs] at hA ⊢
    refine Calls.callWith_builtin (by show (false || (backTo cpos (starEach es X.env)).any (·.1)) = false; rw [hpl]; rfl) (Calls.evalArgs_plain (thn hA ?_))
    rintro us s2 ⟨vs, H2, I2, r2, q2⟩
    exact mt_index pins s2 σ H2 x vs v us Q I2 r1 r2 q2
  · cases r1
    have hk := (I1.hok p _ hp).1
    refine ⟨"tuple", "tuple.index", PySem.F.plainAttrs_tuple, PySem.F.slot_tuple_index, PySem.F.type_tuple_index, ⟨ob, hk, hc⟩, fun a ea => by cases ea; exact ⟨ob, hk, hd⟩, ?_⟩
    have hA := ha.run cpos pins s1 σ H1 _ I1 q1
    rw [hs] at hA ⊢
    refine Calls.callWith_builtin (by show (false || (backTo cpos (starEach es X.env)).any (·.1)) = false; rw [hpl]; rfl) (Calls.evalArgs_plain (thn hA ?_))
    rintro us s2 ⟨vs, H2, I2, r2, q2⟩
    exact mt_idx pins s2 σ H2 (.ref p) vs (.ref p) us Q I2 rfl r2 q2
theorem eqv_flV {H : Hp} {v u : V} {d e : PyData} (h1 : Dt H v d) (h2 : Dt H u e) (f1 : fl d = true) (f2 : fl e = true) : eqV v u = PyData.eqv d e := eqV_ok h1 h2 f1 f2
theorem dt_back {H : Hp} : ∀ {vs : List V} {ds : List PyData} {i : Nat} {v : V}, DtAll H vs ds → vs[i]? = some v → ∃ d, ds[i]? = some d ∧ Dt H v d := fun h e => h.get e
theorem fe_index {o e : Expr} {ta tb : TED} {apos : Pos} (ho : FE X o ta) (he : FE X e tb) (hbase : attributeBase o "index" X.env (eval o X.env) = eval o X.env := by rfl)
    (hfw : ((backTo pos (starEach (e :: []) X.env)).all (fun x => !x.1) && (backToKw pos (keywordEach [] X.env)).all (fun x => x.1.isSome) && decide
      ((e :: []).length + ([] : List Keyword).length + (if ([] : List Keyword).isEmpty then 0 else 1) < 30)) = true := by rfl)
    (hln : (apos.endLine == pos.line) = true := by rfl) (hs : starEach (e :: []) X.env = (false, eval e X.env) :: starEach [] X.env := by rfl)
    (hpl : (backTo pos (starEach [] X.env)).any (·.1) = false := by rfl) :
    FE X (.Call (.Attribute o "index" apos) [e] [] pos) (dIndex ta tb) := by
  refine (pe_ix2 ho (pa_cons he pa_nil hs) hbase hfw hln hs hpl).mo ?_
  rintro σ H Q ⟨C, ρ, Qd, R, h, post⟩
  refine ⟨C, ρ, _, R, h, ?_⟩
  rintro v H1 x R1 k1 e1 ⟨hl, h1⟩
  cases hls : x.ls with
  | some ds =>
    obtain ⟨a, us, rfl, t1, d1⟩ := R1.lstOf e1 hls
    refine .inl ⟨.inl ⟨rfl, us, SqL.of t1⟩, C, ρ, _, R1, h1, fun w H2 y R2 k2 e2 h2 => ?_⟩
    obtain ⟨a', us2, ea, t2, d2⟩ := R2.lstOf (e1.mono R k1 k2) hls
    cases ea
    have h2 : ∃ d, y = .p d ∧ (fl d = true ∧ ds.all fl = true) ∧ ∃ j, ixOf d ds = some j ∧ Qd (.p (.int (j : Nat))) := by
      unfold kIndex at h2
      split at h2
      · cases hls
      · rw [hls] at h2
        exact ⟨_, rfl, h2⟩
      · exact h2.elim
    obtain ⟨d, rfl, ⟨f1, f2⟩, j, hj, q⟩ := h2
    obtain ⟨⟨z, hz, hz2⟩, hno⟩ := ixOf_some hj
    obtain ⟨zv, hzv, zd⟩ := d2.of hz
    refine ⟨a, us2, w, j, zv, rfl, rfl, SqL.of t2, fl_ok e2 f1, fl_all d2 f2, hzv, ?_, fun m z' hm hm2 => ?_, post _ H2 (.p (.int _)) R2 (k1.trans k2) (.int _) q⟩
    · rw [eqV_ok (Dt.mono wo_same zd) (Dt.mono wo_same e2) (List.all_eq_true.mp f2 z (List.mem_of_getElem? hz)) f1]
      exact hz2
    · obtain ⟨z2, g1, g2⟩ := d2.get hm2
      rw [eqV_ok (Dt.mono wo_same g2) (Dt.mono wo_same e2) (List.all_eq_true.mp f2 z2 (List.mem_of_getElem? g1)) f1]
      exact hno m z2 hm g1
  | none =>
    have hx : ∃ ds, x = .p (.tuple ds) := by
      cases x with
      | p d => cases d <;> simp [D.ls, D.sq] at hls hl <;> exact ⟨_, rfl⟩
      | own ds => simp [D.ls] at hls
      | nw ds => simp [D.ls] at hls
      | _ => simp [D.sq] at hl
    obtain ⟨ds, rfl⟩ := hx
    obtain ⟨a, us, rfl, t1, d1⟩ := R1.tupOf e1
    obtain ⟨ob, hp, hc, hd, _⟩ := id t1
    refine .inr ⟨⟨a, ob, _, rfl, hp, hc, hd⟩, C, ρ, _, R1, h1, fun w H2 y R2 k2 e2 h2 => ?_⟩
    obtain ⟨a', us2, ea, t2, d2⟩ := R2.tupOf (e1.mono R k1 k2)
    cases ea
    have h2 : ∃ z : Str, y = .p (.str z) ∧ (strsOf ds).isSome = true ∧ ∃ j, ixOf (.str z) ds = some j ∧ Qd (.p (.int (j : Nat))) := by
      unfold kIndex at h2
      split at h2
      · rename_i e3; cases e3; exact ⟨_, rfl, h2⟩
      · rw [hls] at h2; exact h2.elim
      · exact h2.elim
    obtain ⟨z, rfl, hso, j, hj, q⟩ := h2
    obtain ⟨ys, hys⟩ := Option.isSome_iff_exists.mp hso
    have hds := strsOf_eq hys
    subst hds
    obtain ⟨⟨z1, hz, hz2⟩, hno⟩ := ixOf_some hj
    rw [strs_dt d2] at t2
    have eq_of : ∀ (m : Nat) (s : Str), ys[m]? = some s → (ys.map PyData.str)[m]? = some (.str s) := fun m s h => by rw [List.getElem?_map, h]; rfl
    refine ⟨a, ys, z, j, rfl, by rw [rel_str e2], t2.sq, ?_, fun m hm hm2 => ?_, post _ H2 (.p (.int _)) R2 (k1.trans k2) (.int _) q⟩
    · rw [List.getElem?_map] at hz
      cases g : ys[j]? with
      | none => rw [g] at hz; cases hz
      | some s =>
        rw [g] at hz
        cases hz
        simp [PyData.eqv] at hz2
        rw [hz2]
    · have := hno m _ hm (eq_of m z hm2)
      simp [PyData.eqv] at this
end
end My
namespace My
open PySem PySem.Spec PyProof.Rows L2
variable [TB]

/-! ### walks over a value -/
section
variable {X : Cx} {tg it : Expr} {pos : Pos}
theorem keyL {K : PySem.W.Frag} {a : Addr} {ds : List PyData} {w : Pn} (hm : (V.ref a, PyData.list ds) ∈ w.1) {C' : Cd} {ρ : Ro} {σ : L2.St} {H : Hp} (hp : Has C' w) (R : Rep K C' ρ σ H) : ∃ us, SqL K H a us ∧ DtAll (wo (bad C' ρ σ) H) us ds := by
  have z := R.pin _ (hp.1 _ hm)
  cases z with
  | lst t2 d2 => exact ⟨_, SqL.of (wo_of t2).2, d2⟩
theorem keyT {K : PySem.W.Frag} {a : Addr} {ds : List PyData} {w : Pn} (hm : (V.ref a, PyData.tuple ds) ∈ w.1) {C' : Cd} {ρ : Ro} {σ : L2.St} {H : Hp} (hp : Has C' w) (R : Rep K C' ρ σ H) : ∃ us, SqT K H a us ∧ DtAll (wo (bad C' ρ σ) H) us ds := by
  have z := R.pin _ (hp.1 _ hm)
  cases z with
  | tup t2 d2 => exact ⟨_, t2.mo.sq, d2⟩
theorem wdL {K : PySem.W.Frag} {C : Cd} {a : Addr} {ds : List PyData} : WalkD K C ([(V.ref a, PyData.list ds)], []) (Itl K a) (ds.map ItD.one) := by
  refine ⟨fun C' ρ' σ' H' i x ht hp R' hx => ?_, fun C' ρ' σ' H' ht hp R' => ?_⟩
  · obtain ⟨us, s1, s2⟩ := keyL (List.mem_singleton.mpr rfl) hp R'
    obtain ⟨d, hd, rfl⟩ := ones_get hx
    obtain ⟨w, hw, s3⟩ := s2.of hd
    refine ⟨⟨us, w, s1, hw⟩, ?_⟩
    rintro v H2 ⟨rfl, y⟩
    have := y us s1
    rw [hw] at this; cases this
    exact ⟨Kq.refl _ _, R', s3⟩
  · obtain ⟨us, s1, s2⟩ := keyL (List.mem_singleton.mpr rfl) hp R'
    exact ⟨us, s1, by rw [List.length_map, s2.length]; exact Nat.le_refl _⟩
theorem wdT {K : PySem.W.Frag} {C : Cd} {a : Addr} {ds : List PyData} : WalkD K C ([(V.ref a, PyData.tuple ds)], []) (Itt K a) (ds.map ItD.one) := by
  refine ⟨fun C' ρ' σ' H' i x ht hp R' hx => ?_, fun C' ρ' σ' H' ht hp R' => ?_⟩
  · obtain ⟨us, s1, s2⟩ := keyT (List.mem_singleton.mpr rfl) hp R'
    obtain ⟨d, hd, rfl⟩ := ones_get hx
    obtain ⟨w, hw, s3⟩ := s2.of hd
    refine ⟨⟨us, w, s1, hw⟩, ?_⟩
    rintro v H2 ⟨rfl, y⟩
    have := y us s1
    rw [hw] at this; cases this
    exact ⟨Kq.refl _ _, R', s3⟩
  · obtain ⟨us, s1, s2⟩ := keyT (List.mem_singleton.mpr rfl) hp R'
    exact ⟨us, s1, by rw [List.length_map, s2.length]; exact Nat.le_refl _⟩
theorem wdS {K : PySem.W.Frag} {C : Cd} {z : Str} : WalkD K C ([], []) (Its z) (chD z) := by
  refine ⟨fun C' ρ' σ' H' i x ht hp R' hx => ?_, fun C' ρ' σ' H' ht hp R' => ?_⟩
  · unfold chD at hx
    rw [List.getElem?_map] at hx
    cases e : z.cps.toList[i]? with
    | none => rw [e] at hx; cases hx
    | some c =>
      rw [e] at hx
      cases hx
      obtain ⟨hi, _⟩ := List.getElem?_eq_some_iff.mp e
      refine ⟨show i < z.cps.size by simpa using hi, ?_⟩
      rintro v H2 ⟨rfl, c', h1, rfl⟩
      rw [← Array.getElem?_toList, e] at h1
      cases h1
      exact ⟨Kq.refl _ _, R', .str _⟩
  · show z.cps.size ≤ _
    unfold chD
    rw [List.length_map, Array.length_toList]
    exact Nat.le_refl _
def iAny (K : PySem.W.Frag) (tl : TE) : TI := fun σ H R => tl σ H fun x H1 => (∃ a xs, x = .ref a ∧ SqL K H1 a xs ∧ R (Itl K a) H1) ∨ (∃ a xs, x = .ref a ∧ SqT K H1 a xs ∧ R (Itt K a) H1) ∨ ∃ z, x = .str z ∧ R (Its z) H1
theorem pi_any {l : Expr} {tl : TE} (hl : PE X l tl) : PI X tg l (iAny X.K tl) := by
  constructor
  intro pins s σ H R I h
  refine thn (hl.run pins s σ H _ I h) ?_
  rintro v s1 ⟨x, H1, I1, r1, (⟨a, xs, rfl, hq, q⟩ | ⟨a, xs, rfl, hq, q⟩ | ⟨z, rfl, q⟩)⟩
  · cases r1
    obtain ⟨us, rv, p, hz⟩ := I1.list hq
    exact wpAny_pyIter_list p.isList (pi_one (tk := s1.toks) I1 _ (turn_list a _) ⟨_, Heap.get?_push_size _ rfl, rfl, rfl⟩ q)
  · cases r1
    obtain ⟨us, rv, p, hz⟩ := I1.tuple hq
    exact wpAny_pyIter_tuple (show s1.heap.IsTuple a us.toArray from p) (pi_one (tk := s1.toks) I1 _ (turn_tuple a _) ⟨_, Heap.get?_push_size _ rfl, rfl, rfl⟩ q)
  · obtain ⟨t, rfl⟩ := r1
    cases ha : z.cps.all (· < 128)
    · exact wpAny_pyIter_wide ha (pi_one (tk := s1.toks) I1 _ (turn_str _ z t "str_iterator" (.inr rfl)) ⟨_, Heap.get?_push_size _ rfl, rfl, rfl⟩ q)
    · exact wpAny_pyIter_ascii ha (pi_one (tk := s1.toks) I1 _ (turn_str _ z t "str_ascii_iterator" (.inl rfl)) ⟨_, Heap.get?_push_size _ rfl, rfl, rfl⟩ q)
/-- for .. in e -/
def itOf : D → Option (List ItD)
  | .p (.tuple ds) => some (ds.map ItD.one)
  | .p (.list ds) => some (ds.map ItD.one)
  | .nw ds => some (ds.map ItD.one)
  | .p (.str z) => some (chD z)
  | _ => none
def dItV (te : TED) : TID := fun ρ Q => te ρ fun x => match itOf x with
  | some items => Q items
  | _ => False
theorem fi_any {te : TED} (h : FE X it te) : FI X tg it (dItV te) := by
  refine (pi_any h).mo ?_
  rintro σ H R' ⟨C, ρ, Qd, R, h, post⟩
  refine ⟨C, ρ, _, R, h, ?_⟩
  intro v H1 x R1 k1 e1 h1
  have lst : ∀ ds, x.st = some (.list ds) → Qd (ds.map ItD.one) → (∃ a xs, v = .ref a ∧ SqL X.K H1 a xs ∧ R' (Itl X.K a) H1) := fun ds hs q => by
    have g := R.stOf e1 hs
    cases g with
    | lst t1 d1 =>
      rename_i a vs
      refine ⟨a, vs, rfl, SqL.of (wo_of t1).2, post _ H1 _ ([(.ref a, .list ds)], []) (R1.pinned _ fun q hq => ?_) k1 wdL q⟩
      rw [List.mem_singleton.mp hq]; exact .lst t1 d1
  cases x with
  | p d =>
    cases d with
    | tuple ds =>
      cases e1 with
      | tup t1 d1 =>
        rename_i a vs
        refine .inr (.inl ⟨a, vs, rfl, t1.mo.sq, post _ H1 _ ([(.ref a, .tuple ds)], []) (R1.pinned _ fun q hq => ?_) k1 wdT h1⟩)
        rw [List.mem_singleton.mp hq]; exact .tup t1 d1
    | list ds => exact .inl (lst ds rfl h1)
    | str z => exact .inr (.inr ⟨z, rel_str e1, post _ H1 _ ([], []) R1 k1 wdS h1⟩)
    | none => exact h1.elim
    | bool b => exact h1.elim
    | int i => exact h1.elim
    | dict kvs => exact h1.elim
  | own ds => exact h1.elim
  | nw ds => exact .inl (lst ds rfl h1)
  | _ => exact h1.elim
/-! ### reversed -/
def rvOf : D → Option (List PyData)
  | .p (.tuple ds) => some ds
  | .p (.list ds) => some ds
  | .nw ds => some ds
  | _ => none
def dRv (te : TED) : TID := fun ρ Q => te ρ fun x => match rvOf x with
  | some ds => Q (ds.reverse.map ItD.one)
  | _ => False
theorem rev_get {α : Type} {l : List α} {i : Nat} {x : α} (h : l.reverse[i]? = some x) : i < l.length ∧ l[l.length - 1 - i]? = some x := by
  have hi : i < l.reverse.length := (List.getElem?_eq_some_iff.mp h).1
  rw [List.length_reverse] at hi
  exact ⟨hi, by rw [← h, List.getElem?_reverse hi]⟩
theorem fi_rev {e : Expr} {te : TED} {p : Pos} (hg : Gl X "reversed") (hm : X.mg "reversed" = none) (he : FE X e te) (hs : starEach [e] X.env = (false, eval e X.env) :: starEach [] X.env := by rfl) : FI X tg (.Call (.Name "reversed" p) [e] [] pos) (dRv te) := by
  refine (RT.pi_revA hg hm he hs).mo ?_
  rintro σ H R' ⟨C, ρ, Qd, R, h, post⟩
  refine ⟨C, ρ, _, R, h, ?_⟩
  intro v H1 x R1 k1 e1 h1
  have lst : ∀ ds, x.st = some (.list ds) → Qd (ds.reverse.map ItD.one) → (∃ (a : Addr) (xs : List V), v = .ref a ∧ ((SqL X.K H1 a xs ∧ R' (Itv X.K a xs.length) H1) ∨ (SqT X.K H1 a xs ∧ R' (RT.ItvT X.K a xs.length) H1))) := fun ds hs q => by
    have g := R.stOf e1 hs
    cases g with
    | lst t1 d1 =>
      rename_i a vs
      refine ⟨a, vs, rfl, .inl ⟨SqL.of (wo_of t1).2, post _ H1 _ ([(.ref a, .list ds)], []) (R1.pinned _ fun q hq => ?_) k1 ?_ q⟩⟩
      · rw [List.mem_singleton.mp hq]; exact .lst t1 d1
      · refine ⟨fun C' ρ' σ' H' i x ht hp R' hx => ?_, fun C' ρ' σ' H' ht hp R' => ?_⟩
        · obtain ⟨us, s1, s2⟩ := keyL (List.mem_singleton.mpr rfl) hp R'
          obtain ⟨d, hd, rfl⟩ := ones_get hx
          obtain ⟨hi, hd⟩ := rev_get hd
          obtain ⟨w, hw, s3⟩ := s2.of hd
          have el : us.length = vs.length := by rw [s2.length, d1.length]
          rw [← s2.length, el] at hw
          refine ⟨⟨by rw [d1.length]; exact hi, us, w, s1, hw⟩, ?_⟩
          rintro v H2 ⟨rfl, y⟩
          have := y us s1
          rw [hw] at this; cases this
          exact ⟨Kq.refl _ _, R', s3⟩
        · show vs.length ≤ _
          rw [List.length_map, List.length_reverse, d1.length]
          exact Nat.le_refl _
  cases x with
  | p d =>
    cases d with
    | tuple ds =>
      cases e1 with
      | tup t1 d1 =>
        rename_i a vs
        refine ⟨a, vs, rfl, .inr ⟨t1.mo.sq, post _ H1 _ ([(.ref a, .tuple ds)], []) (R1.pinned _ fun q hq => ?_) k1 ?_ h1⟩⟩
        · rw [List.mem_singleton.mp hq]; exact .tup t1 d1
        · refine ⟨fun C' ρ' σ' H' i x ht hp R' hx => ?_, fun C' ρ' σ' H' ht hp R' => ?_⟩
          · obtain ⟨us, s1, s2⟩ := keyT (List.mem_singleton.mpr rfl) hp R'
            obtain ⟨d, hd, rfl⟩ := ones_get hx
            obtain ⟨hi, hd⟩ := rev_get hd
            obtain ⟨w, hw, s3⟩ := s2.of hd
            have el : us.length = vs.length := by rw [s2.length, d1.length]
            rw [← s2.length, el] at hw
            refine ⟨⟨by rw [d1.length]; exact hi, us, w, s1, hw⟩, ?_⟩
            rintro v H2 ⟨rfl, y⟩
            have := y us s1
            rw [hw] at this; cases this
            exact ⟨Kq.refl _ _, R', s3⟩
          · show vs.length ≤ _
            rw [List.length_map, List.length_reverse, d1.length]
            exact Nat.le_refl _
    | list ds => exact lst ds rfl h1
    | str z => exact h1.elim
    | none => exact h1.elim
    | bool b => exact h1.elim
    | int i => exact h1.elim
    | dict kvs => exact h1.elim
  | own ds => exact h1.elim
  | nw ds => exact lst ds rfl h1
  | _ => exact h1.elim
/-! ### zip of two -/
def zipD : List PyData → List PyData → List ItD
  | d :: ds, e :: es => .two d e :: zipD ds es
  | _, _ => []
theorem zipD_get : ∀ {ds es : List PyData} {i : Nat} {x : ItD}, (zipD ds es)[i]? = some x → ∃ d e, ds[i]? = some d ∧ es[i]? = some e ∧ x = .two d e
  | [], es, i, x, h => by simp [zipD] at h
  | _ :: _, [], i, x, h => by simp [zipD] at h
  | d :: ds, e :: es, 0, x, h => by simp [zipD] at h; exact ⟨d, e, rfl, rfl, h.symm⟩
  | d :: ds, e :: es, i + 1, x, h => by
    simp only [zipD, List.getElem?_cons_succ] at h
    obtain ⟨a, b, h1, h2, h3⟩ := zipD_get h
    exact ⟨a, b, by simpa using h1, by simpa using h2, h3⟩
theorem zipD_len : ∀ (ds es : List PyData), (zipD ds es).length = min ds.length es.length
  | [], es => by simp [zipD]
  | _ :: _, [] => by simp [zipD]
  | d :: ds, e :: es => by simp [zipD, zipD_len ds es]
def zipOf : List D → Option (List ItD)
  | [x, y] => match x.st, y.st with
    | some (.list ds), some (.list es) => some (zipD ds es)
    | some (.tuple ds), some (.tuple es) => some (zipD ds es)
    | _, _ => none
  | _ => none
def dZip (ta : TAD) : TID := fun ρ Q => ta ρ fun xs => match zipOf xs with
  | some items => Q items
  | _ => False
theorem zipOf_some {xs : List D} {items : List ItD} (h : zipOf xs = some items) : ∃ x y ds es, xs = [x, y] ∧ items = zipD ds es ∧ ((x.st = some (.list ds) ∧ y.st = some (.list es)) ∨ (x.st = some (.tuple ds) ∧ y.st = some (.tuple es))) := by
  unfold zipOf at h
  split at h
  · split at h
    · cases h; exact ⟨_, _, _, _, rfl, rfl, .inl ⟨by assumption, by assumption⟩⟩
    · cases h; exact ⟨_, _, _, _, rfl, rfl, .inr ⟨by assumption, by assumption⟩⟩
    · cases h
  · cases h
theorem fi_zip {e e2 : Expr} {ta : TAD} {p tpos : Pos} {elts : List Expr} {kk : Nat} (hg : Gl X "zip") (hm : X.mg "zip" = none) (ha : FA X [e, e2] ta)
    (hs : starEach [e, e2] X.env = (false, eval e X.env) :: starEach [e2] X.env := by rfl) (hpl : (backTo pos (starEach [e2] X.env)).any (·.1) = false := by rfl) :
    FI X (.Tuple elts kk tpos) (.Call (.Name "zip" p) [e, e2] [] pos) (dZip ta) := by
  refine (RZ.pi_zipA hg hm ha hs hpl).mo ?_
  rintro σ H R' ⟨C, ρ, Qd, R, h, post⟩
  refine ⟨C, ρ, _, R, h, ?_⟩
  intro vs H1 xs R1 k1 e1 h1
  cases hz : zipOf xs with
  | none => rw [hz] at h1; exact h1.elim
  | some items =>
    rw [hz] at h1
    obtain ⟨x, y, ds, es, rfl, rfl, hc⟩ := zipOf_some hz
    obtain ⟨v, u, rfl, g1, g2⟩ := p2 e1
    have mk : ∀ {C' : Cd} {ρ' : Ro} {σ' : L2.St} {H' : Hp} {i : Nat} {us ws : List V} {d e : PyData}, Rep X.K C' ρ' σ' H' → DtAll (wo (bad C' ρ' σ') H') us ds → DtAll (wo (bad C' ρ' σ') H') ws es → ds[i]? = some d → es[i]? = some e →
        ∃ a b, us[i]? = some a ∧ ws[i]? = some b ∧ ∀ T, H' T = none → Kq C'.t H' (upd H' T (.tup [a, b])) ∧ Rep X.K C' ρ' σ' (upd H' T (.tup [a, b])) ∧ RelI X.K C' ρ' σ' (upd H' T (.tup [a, b])) (.ref T) (.two d e) := by
      intro C' ρ' σ' H' i us ws d e R' h1 h2 h3 h4
      obtain ⟨a, ha, da⟩ := h1.of h3
      obtain ⟨b, hb, db⟩ := h2.of h4
      exact ⟨a, b, ha, hb, fun T hT => pairI R' hT da db⟩
    rcases hc with ⟨c1, c2⟩ | ⟨c1, c2⟩
    · have z1 := R.stOf g1 c1
      have z2 := R.stOf g2 c2
      cases z1 with
      | lst t1 d1 =>
        cases z2 with
        | lst t2 d2 =>
          rename_i a xs' b ys'
          refine ⟨a, b, xs', ys', rfl, .inl ⟨SqL.of (wo_of t1).2, SqL.of (wo_of t2).2, post _ H1 _ ([(.ref a, .list ds), (.ref b, .list es)], []) (R1.pinned _ fun q hq => ?_) k1 ?_ h1⟩⟩
          · rcases List.mem_cons.mp hq with rfl | hq
            · exact .lst t1 d1
            · rw [List.mem_singleton.mp hq]; exact .lst t2 d2
          · refine ⟨fun C' ρ' σ' H' i x ht hp R' hx => ?_, fun C' ρ' σ' H' ht hp R' => ?_⟩
            · obtain ⟨us, s1, s2⟩ := keyL (a := a) (ds := ds) (by simp) hp R'
              obtain ⟨ws, s3, s4⟩ := keyL (a := b) (ds := es) (by simp) hp R'
              obtain ⟨d, e, h3, h4, rfl⟩ := zipD_get hx
              obtain ⟨aa, bb, ha, hb, hT⟩ := mk R' s2 s4 h3 h4
              refine ⟨⟨us, ws, aa, bb, s1, s3, ha, hb⟩, ?_⟩
              rintro v H2 ⟨T, x, y, rfl, hTn, rfl, y1, y2⟩
              have := y1 us s1
              rw [ha] at this; cases this
              have := y2 ws s3
              rw [hb] at this; cases this
              exact hT T hTn
            · obtain ⟨us, s1, s2⟩ := keyL (a := a) (ds := ds) (by simp) hp R'
              obtain ⟨ws, s3, s4⟩ := keyL (a := b) (ds := es) (by simp) hp R'
              refine ⟨us, ws, s1, s3, ?_⟩
              rw [zipD_len, s2.length, s4.length]
              omega
    · have z1 := R.stOf g1 c1
      have z2 := R.stOf g2 c2
      cases z1 with
      | tup t1 d1 =>
        cases z2 with
        | tup t2 d2 =>
          rename_i a xs' b ys'
          refine ⟨a, b, xs', ys', rfl, .inr ⟨t1.mo.sq, t2.mo.sq, post _ H1 _ ([(.ref a, .tuple ds), (.ref b, .tuple es)], []) (R1.pinned _ fun q hq => ?_) k1 ?_ h1⟩⟩
          · rcases List.mem_cons.mp hq with rfl | hq
            · exact .tup t1 d1
            · rw [List.mem_singleton.mp hq]; exact .tup t2 d2
          · refine ⟨fun C' ρ' σ' H' i x ht hp R' hx => ?_, fun C' ρ' σ' H' ht hp R' => ?_⟩
            · obtain ⟨us, s1, s2⟩ := keyT (a := a) (ds := ds) (by simp) hp R'
              obtain ⟨ws, s3, s4⟩ := keyT (a := b) (ds := es) (by simp) hp R'
              obtain ⟨d, e, h3, h4, rfl⟩ := zipD_get hx
              obtain ⟨aa, bb, ha, hb, hT⟩ := mk R' s2 s4 h3 h4
              refine ⟨⟨us, ws, aa, bb, s1, s3, ha, hb⟩, ?_⟩
              rintro v H2 ⟨T, x, y, rfl, hTn, rfl, y1, y2⟩
              have := y1 us s1
              rw [ha] at this; cases this
              have := y2 ws s3
              rw [hb] at this; cases this
              exact hT T hTn
            · obtain ⟨us, s1, s2⟩ := keyT (a := a) (ds := ds) (by simp) hp R'
              obtain ⟨ws, s3, s4⟩ := keyT (a := b) (ds := es) (by simp) hp R'
              refine ⟨us, ws, s1, s3, ?_⟩
              rw [zipD_len, s2.length, s4.length]
              omega
end
end My
namespace My
open PySem PySem.Spec PyProof.Rows L2
variable [TB]

/-! ### enumerate -/
section
variable {X : Cx} {pos : Pos}
def iEnA (K : PySem.W.Frag) (ta : TA) : TI := fun σ H R => ta σ H fun vs H1 => (∃ a xs, vs = [.ref a] ∧ SqL K H1 a xs ∧ R (Ite K a) H1) ∨ (∃ a xs, vs = [.ref a] ∧ SqT K H1 a xs ∧ R (IteT K a xs) H1) ∨ ∃ z, vs = [.str z] ∧ R (IteS z) H1
theorem pi_enA {e : Expr} {ta : TA} {p tpos : Pos} {elts : List Expr} {kk : Nat} (hg : Gl X "enumerate") (hm : X.mg "enumerate" = none) (ha : PA X [e] ta) (hs : starEach [e] X.env = [(false, eval e X.env)] := by rfl) :
    PI X (.Tuple elts kk tpos) (.Call (.Name "enumerate" p) [e] [] pos) (iEnA X.K ta) := by
  constructor
  intro pins s σ H R I h
  refine Call_ (ld_blt I hg hm boot_enumerate (PyProof.Rows.callWith_type1 (thn (ha.run pos pins s σ H _ I h) ?_) hs rfl))
  rintro us s1 ⟨vs, H1, I1, r1, h1⟩
  have two : ∀ {h' : Heap} {b : Addr}, b ∈ [s1.heap.objs.size + 1, s1.heap.objs.size] → FpOk X pins H1 b := fun {h' b} hb => by
    have hle : s1.heap.objs.size ≤ b := by
      rcases List.mem_cons.mp hb with z | z
      · rw [z]; exact Nat.le_add_right _ _
      · rw [List.mem_singleton.mp z]; exact Nat.le_refl _
    exact I1.fpOk hle (I1.hok.fresh hle)
  rcases h1 with ⟨a, xs, rfl, hq, q⟩ | ⟨a, xs, rfl, hq, q⟩ | ⟨z, rfl, q⟩
  · obtain ⟨u, rfl, r⟩ := vals1 r1
    cases r
    obtain ⟨its, rv, p', hz⟩ := I1.list hq
    refine call_enumerate_list p'.isList fun h' he hit hsz hk => wpAny_pyIter_enum he ?_
    have J : Inv X pins σ H1 { s1 with heap := h' } := I1.kept (t' := s1.toks) hk
    exact ⟨s1.heap.objs.size + 1, [s1.heap.objs.size + 1, s1.heap.objs.size], _, _, H1, rfl, J, turn_enum a (s1.heap.objs.size + 1) s1.heap.objs.size,
      ⟨⟨.none, he⟩, hit, Nat.succ_ne_self _⟩, fun b hb => two (h' := h') hb, q⟩
  · obtain ⟨u, rfl, r⟩ := vals1 r1
    cases r
    obtain ⟨its, rv, p', hz⟩ := I1.tuple hq
    refine call_enum1 (begins_tuple a its.toArray) p' fun h' he hit hsz hk => wpAny_pyIter_enum he ?_
    have J : Inv X pins σ H1 { s1 with heap := h' } := I1.kept (t' := s1.toks) hk
    exact ⟨s1.heap.objs.size + 1, [s1.heap.objs.size + 1, s1.heap.objs.size], _, _, H1, rfl, J, turn_enT a (s1.heap.objs.size + 1) s1.heap.objs.size xs,
      ⟨Nat.zero_le _, ⟨.none, he⟩, ⟨_, hit, rfl, rfl⟩, Nat.succ_ne_self _⟩, fun b hb => two (h' := h') hb, q⟩
  · obtain ⟨u, rfl, t, rfl⟩ := vals1 r1
    refine call_enumerate_str ?_
    intro h1 he hit hsz hk
    refine wpAny_pyIter_enum he ?_
    have J : Inv X pins σ H1 { s1 with heap := h1 } := I1.kept (t' := s1.toks) hk
    exact ⟨s1.heap.objs.size + 1, [s1.heap.objs.size + 1, s1.heap.objs.size], _, _, H1, rfl, J, turn_enS z t (s1.heap.objs.size + 1) s1.heap.objs.size,
      ⟨Nat.zero_le _, ⟨.none, he⟩, hit, Nat.succ_ne_self _⟩, fun b hb => two (h' := h1) hb, q⟩
/-- the signs of a text -/
def chs (z : Str) : List PyData := z.cps.toList.map fun c => .str ⟨#[c]⟩
def enOf : List D → Option (List ItD)
  | [.p (.tuple ds)] => some (enD ds)
  | [.p (.list ds)] => some (enD ds)
  | [.nw ds] => some (enD ds)
  | [.p (.str z)] => some (enD (chs z))
  | _ => none
def dEnA (ta : TAD) : TID := fun ρ Q => ta ρ fun xs => match enOf xs with
  | some items => Q items
  | _ => False
theorem fi_enA {e : Expr} {ta : TAD} {p tpos : Pos} {elts : List Expr} {kk : Nat} (hg : Gl X "enumerate") (hm : X.mg "enumerate" = none) (ha : FA X [e] ta) (hs : starEach [e] X.env = [(false, eval e X.env)] := by rfl) :
    FI X (.Tuple elts kk tpos) (.Call (.Name "enumerate" p) [e] [] pos) (dEnA ta) := by
  refine (pi_enA hg hm ha hs).mo ?_
  rintro σ H R' ⟨C, ρ, Qd, R, h, post⟩
  refine ⟨C, ρ, _, R, h, ?_⟩
  intro vs H1 xs R1 k1 e1 h1
  have lst : ∀ x ds, xs = [x] → x.st = some (.list ds) → Qd (enD ds) → (∃ (a : Addr) (xs : List V), vs = [.ref a] ∧ SqL X.K H1 a xs ∧ R' (Ite X.K a) H1) := fun x ds hx hs q => by
    subst hx
    obtain ⟨v, rfl, e⟩ := p1 e1
    have g := R.stOf e hs
    cases g with
    | lst t1 d1 =>
      rename_i a ws
      refine ⟨a, ws, rfl, SqL.of (wo_of t1).2, post _ H1 (enD ds) ([(.ref a, .list ds)], []) (R1.pinned _ (fun q hq => ?_)) k1 ?_ q⟩
      · rw [List.mem_singleton.mp hq]; exact .lst t1 d1
      · refine ⟨fun C' ρ' σ' H' i x ht hp R' hx => ?_, fun C' ρ' σ' H' ht hp R' => ?_⟩
        · obtain ⟨us, s1, s2⟩ := keyL (List.mem_singleton.mpr rfl) hp R'
          obtain ⟨d, hd, rfl⟩ := enD_get hx
          obtain ⟨w, hw, s3⟩ := s2.of hd
          refine ⟨⟨us, w, s1, hw⟩, ?_⟩
          rintro v H2 ⟨T, y, rfl, hT, rfl, hy⟩
          have := hy us s1
          rw [hw] at this; cases this
          exact pairI R' hT (.int _) s3
        · obtain ⟨us, s1, s2⟩ := keyL (List.mem_singleton.mpr rfl) hp R'
          exact ⟨us, s1, by rw [enD_len, s2.length]; exact Nat.le_refl _⟩
  cases ho : enOf xs with
  | none => rw [ho] at h1; exact h1.elim
  | some items =>
    rw [ho] at h1
    unfold enOf at ho
    split at ho
    · rename_i ds
      cases ho
      obtain ⟨v, rfl, e⟩ := p1 e1
      cases e with
      | tup t1 d1 =>
        rename_i a ws
        have pq : ∀ {C' : Cd} {ρ : Ro} {σ : L2.St} {H : Hp}, Has C' ((ws.zip ds), [(a, ws)]) → Rep X.K C' ρ σ H → TupG H a ws ∧ ∀ (i : Nat) w d, ws[i]? = some w → ds[i]? = some d → Dt (wo (bad C' ρ σ) H) w d := fun {C' ρ σ H} hp R => by
          refine ⟨R.tin _ (hp.2 _ (List.mem_singleton.mpr rfl)), fun i w d h1 h2 => R.pin (w, d) (hp.1 _ ?_)⟩
          exact List.mem_of_getElem? (i := i) (by rw [List.getElem?_zip_eq_some]; exact ⟨h1, h2⟩)
        refine .inr (.inl ⟨a, ws, rfl, t1.mo.sq, post _ H1 (enD ds) ((ws.zip ds), [(a, ws)]) (R1.pinned _ (fun q hq => ?_) (fun q hq => ?_)) k1 ?_ h1⟩)
        · obtain ⟨i, hi⟩ := List.mem_iff_getElem?.mp hq
          obtain ⟨w, d⟩ := q
          rw [List.getElem?_zip_eq_some] at hi
          obtain ⟨d', g1, g2⟩ := d1.get hi.1
          have : d' = d := Option.some.inj (g1.symm.trans hi.2)
          rw [← this]; exact g2
        · rw [List.mem_singleton.mp hq]; exact t1.mo
        · refine ⟨fun C' ρ' σ' H' i x ht hp R' hx => ?_, fun C' ρ' σ' H' ht hp R' => ?_⟩
          · obtain ⟨d, hd, rfl⟩ := enD_get hx
            obtain ⟨w, hw, _⟩ := d1.of hd
            obtain ⟨g1, g2⟩ := pq hp R'
            refine ⟨⟨g1.sq, (List.getElem?_eq_some_iff.mp hw).1⟩, ?_⟩
            rintro v H2 ⟨T, y, rfl, hT, rfl, hy⟩
            rw [hw] at hy; cases hy
            exact pairI R' hT (.int _) (g2 i w d hw hd)
          · obtain ⟨g1, _⟩ := pq hp R'
            exact ⟨g1.sq, by rw [enD_len, d1.length]; exact Nat.le_refl _⟩
    · cases ho; exact .inl (lst _ _ rfl rfl h1)
    · cases ho; exact .inl (lst _ _ rfl rfl h1)
    · rename_i z
      cases ho
      obtain ⟨v, rfl, e⟩ := p1 e1
      refine .inr (.inr ⟨z, by rw [rel_str e], post _ H1 _ ([], []) R1 k1 ⟨fun C' ρ' σ' H' i x ht hp R' hx => ?_, fun C' ρ' σ' H' ht hp R' => ?_⟩ h1⟩)
      · obtain ⟨d, hd, rfl⟩ := enD_get hx
        unfold chs at hd
        rw [List.getElem?_map] at hd
        cases ec : z.cps.toList[i]? with
        | none => rw [ec] at hd; cases hd
        | some c =>
          rw [ec] at hd
          cases hd
          obtain ⟨hi, _⟩ := List.getElem?_eq_some_iff.mp ec
          refine ⟨show i < z.cps.size by simpa using hi, ?_⟩
          rintro v H2 ⟨T, c', rfl, hT, rfl, hc⟩
          rw [← Array.getElem?_toList, ec] at hc
          cases hc
          exact pairI R' hT (.int _) (.str _)
      · show z.cps.size ≤ _
        rw [enD_len]
        unfold chs
        rw [List.length_map, Array.length_toList]
        exact Nat.le_refl _
    · cases ho

/-! ### range(a, b, c) -/
def rngC (lo c : Int) (n : Nat) : List ItD := (List.range n).map fun i => .one (.int (lo + (i : Nat) * c))
def dRng3 (ta : TAD) : TID := fun ρ Q => ta ρ fun xs => ∃ (i j c : Int) (n : Nat), xs = [.p (.int i), .p (.int j), .p (.int c)] ∧ RgC i j c n ∧ Q (rngC i c n)
theorem p3 {C : Cd} {ρ : Ro} {σ : L2.St} {H0 H : Hp} {vs : List V} {x y z : D} (h : Paired (RelE C ρ σ H0 H) vs [x, y, z]) : ∃ v u w, vs = [v, u, w] ∧ RelE C ρ σ H0 H v x ∧ RelE C ρ σ H0 H u y ∧ RelE C ρ σ H0 H w z := by
  cases h with
  | cons h t =>
    obtain ⟨u, w, rfl, h2, h3⟩ := p2 t
    exact ⟨_, u, w, rfl, h, h2, h3⟩
theorem fi_rng3 {tg it : Expr} {ta : TAD} (h : PI X tg it (iRng3 (upA X.K ta))) : FI X tg it (dRng3 ta) := by
  refine h.mo ?_
  rintro σ H R' ⟨C, ρ, Qd, R, h, post⟩
  refine ⟨C, ρ, _, R, h, ?_⟩
  rintro vs H1 xs R1 k1 e1 ⟨i, j, c, n, rfl, hr, q⟩
  obtain ⟨v, u, w, rfl, e, f, g⟩ := p3 e1
  refine ⟨i, j, c, n, by rw [rel_int e, rel_int f, rel_int g], hr, post _ H1 _ ([], []) R1 k1 ⟨fun C' ρ σ H k x ht hp R hx => ?_, fun C' ρ σ H ht hp R => ?_⟩ q⟩
  · unfold rngC at hx
    rw [List.getElem?_map] at hx
    by_cases hk : k < n
    · rw [List.getElem?_range hk] at hx
      cases hx
      refine ⟨hk, ?_⟩
      rintro v H' ⟨rfl, rfl⟩
      exact ⟨Kq.refl _ _, R, .int _⟩
    · rw [List.getElem?_eq_none (by simpa using hk)] at hx; cases hx
  · show n ≤ _
    unfold rngC
    simp

/-! ### chains of comparisons -/
def dChain (r r' : RD2) (ta tb tc : TED) : TED := fun ρ Q => ta ρ fun x => tb ρ fun y => r x y fun z => match z with
  | .p (.bool k) => if k = true then tc ρ fun w => r' y w Q else Q (.p (.bool false))
  | _ => False
theorem fe_chain {op op' : CmpOp} {r r' : RD2} {a b c : Expr} {ta tb tc : TED} (ho : CmpU X op r) (ho' : CmpU X op' r') (ha : FE X a ta) (hb : FE X b tb) (hc : FE X c tc)
    (hm : lastMarks [op, op'] [b, c] = false := by with_unfolding_all rfl) : FE X (.Compare a [op, op'] [b, c] pos) (dChain r r' ta tb tc) := by
  obtain ⟨q, h1, h2⟩ := ho.ex
  obtain ⟨q', h3, h4⟩ := ho'.ex
  refine (pe_chain h1 h3 ha hb hc hm).mo ?_
  rintro σ H Q ⟨C, ρ, Qd, R, h, post⟩
  refine ⟨C, ρ, _, R, h, fun v H1 x R1 k1 e1 g1 => ⟨C, ρ, _, R1, g1, fun u H2 y R2 k2 e2 g2 => ?_⟩⟩
  refine h2 C ρ σ H H2 v u x y _ _ R2 (k1.trans k2) (e1.mono R k1 k2) (e2.back k1 R1) g2 fun w H3 z R3 k3 e3 g3 => ?_
  split at g3
  · rename_i k
    refine ⟨k, rel_bl e3, ?_⟩
    cases k with
    | true =>
      rw [if_pos rfl] at g3 ⊢
      refine ⟨C, ρ, _, R3, g3, fun w' H4 z' R4 k4 e4 g4 => ?_⟩
      have e2' := ((e2.back k1 R1).mono R (k1.trans k2) k3).mono R ((k1.trans k2).trans k3) k4
      exact h4 C ρ σ H H4 u w' y z' _ _ R4 (((k1.trans k2).trans k3).trans k4) e2' (e4.back ((k1.trans k2).trans k3) R3) g4 fun v' H5 z5 R5 k5 e5 q5 =>
        post v' H5 z5 R5 ((((k1.trans k2).trans k3).trans k4).trans k5) (e5.back (((k1.trans k2).trans k3).trans k4) R4) q5
    | false =>
      rw [if_neg Bool.false_ne_true] at g3 ⊢
      exact post _ H3 (.p (.bool false)) R3 ((k1.trans k2).trans k3) (.bl _) g3
  · exact g3.elim
theorem ft_chain {op op' : CmpOp} {r r' : RD2} {a b c : Expr} {ta tb tc : TED} (ho : CmpU X op r) (ho' : CmpU X op' r') (ha : FE X a ta) (hb : FE X b tb) (hc : FE X c tc)
    (hm : lastMarks [op, op'] [b, c] = false := by with_unfolding_all rfl) : FT X (.Compare a [op, op'] [b, c] pos) (dTest (dChain r r' ta tb tc)) := by
  obtain ⟨q, h1, h2⟩ := ho.ex
  obtain ⟨q', h3, h4⟩ := ho'.ex
  refine (pt_chain h1 h3 ha hb hc hm).mo ?_
  rintro σ H Q ⟨C, ρ, Qd, R, h, post⟩
  show tChain _ _ _ _ _ σ H _
  refine ⟨C, ρ, _, R, h, fun v H1 x R1 k1 e1 g1 => ⟨C, ρ, _, R1, g1, fun u H2 y R2 k2 e2 g2 => ?_⟩⟩
  refine h2 C ρ σ H H2 v u x y _ _ R2 (k1.trans k2) (e1.mono R k1 k2) (e2.back k1 R1) g2 fun w H3 z R3 k3 e3 g3 => ?_
  split at g3
  · rename_i k
    refine ⟨k, rel_bl e3, ?_⟩
    cases k with
    | true =>
      rw [if_pos rfl] at g3 ⊢
      refine ⟨C, ρ, _, R3, g3, fun w' H4 z' R4 k4 e4 g4 => ?_⟩
      have e2' := ((e2.back k1 R1).mono R (k1.trans k2) k3).mono R ((k1.trans k2).trans k3) k4
      refine h4 C ρ σ H H4 u w' y z' _ _ R4 (((k1.trans k2).trans k3).trans k4) e2' (e4.back ((k1.trans k2).trans k3) R3) g4 fun v' H5 z5 R5 k5 e5 q5 => ?_
      obtain ⟨c, rfl, q⟩ := q5
      exact ⟨c, rel_bl e5, post c H5 R5 ((((k1.trans k2).trans k3).trans k4).trans k5) q⟩
    | false =>
      rw [if_neg Bool.false_ne_true] at g3 ⊢
      obtain ⟨c, hc, q⟩ := g3
      cases hc
      exact ⟨false, rfl, post false H3 R3 ((k1.trans k2).trans k3) q⟩
  · exact g3.elim

/-! ### f(*e, ..), (*e, ..) -/
def dStar (te : TED) (t : TAD) : TAD := fun ρ Q => te ρ fun x => match x.st with
  | some (.tuple ds) => t ρ fun xs => Q (ds.map D.p ++ xs)
  | some (.list ds) => t ρ fun xs => Q (ds.map D.p ++ xs)
  | _ => False
theorem paired_dt {C : Cd} {ρ : Ro} {σ : L2.St} {H0 H : Hp} : ∀ {vs : List V} {ds : List PyData}, DtAll (wo (bad C ρ σ) H) vs ds → Paired (RelE C ρ σ H0 H) vs (ds.map D.p)
  | _, _, .nil => .nil
  | _, _, .cons h t => .cons h (paired_dt t)
theorem paired_app {α β : Type} {F : α → β → Prop} : ∀ {xs xs' : List α} {ys ys' : List β}, Paired F xs ys → Paired F xs' ys' → Paired F (xs ++ xs') (ys ++ ys')
  | _, _, _, _, .nil, h => h
  | _, _, _, _, .cons h t, g => .cons h (paired_app t g)
theorem fa_star {e : Expr} {es : List Expr} {te : TED} {t : TAD} {p : Pos} (he : FE X e te) (hr : FA X es t) (hs : starEach (.Starred e p :: es) X.env = (true, eval e X.env) :: starEach es X.env := by rfl) : FA X (.Starred e p :: es) (dStar te t) := by
  refine (StX.pa_star he hr hs).mo ?_
  rintro σ H Q ⟨C, ρ, Qd, R, h, post⟩
  refine ⟨C, ρ, _, R, h, fun v H1 x R1 k1 e1 g1 => ?_⟩
  split at g1
  · rename_i ds hd
    have g := R.stOf e1 hd
    cases g with
    | tup t1 d1 =>
      refine ⟨_, _, rfl, .inl t1.mo.sq, C, ρ, _, R1, g1, fun vs H2 xs R2 k2 e2 q => post _ H2 _ R2 (k1.trans k2) ?_ q⟩
      exact paired_app (paired_dt (DtAll.mono (R1.kp k2) d1)) (pmap2 (fun _ _ h => h.back k1 R1) e2)
  · rename_i ds hd
    have g := R.stOf e1 hd
    cases g with
    | lst t1 d1 =>
      refine ⟨_, _, rfl, .inr (SqL.of (wo_of t1).2), C, ρ, _, R1, g1, fun vs H2 xs R2 k2 e2 q => post _ H2 _ R2 (k1.trans k2) ?_ q⟩
      exact paired_app (paired_dt (DtAll.mono (R1.kp k2) d1)) (pmap2 (fun _ _ h => h.back k1 R1) e2)
  · exact g1.elim
end
end My
namespace My
open PySem PySem.Spec PyProof.Rows L2
variable [TB]

/-! ### comprehensions of two clauses -/
section
variable {K : PySem.W.Frag} {C : Cd} {ρ : Ro} {σ : L2.St} {H H1 H2 H' : Hp}
theorem Rep.growF {p : Addr} {us vs : List V} (R : Rep K C ρ σ H) (hF : C.F p) (hp : H p = some (.lst us)) (n0 : ¬ C.S0 p) (n2 : nx C.t p) (n3 : p ≠ C.t.2) (n4 : C.H0 p = none) : Rep K C ρ σ (upd H p (.lst vs)) := by
  have bp : bad C ρ σ p := .inr (.inl hF)
  have s : Same (wo (bad C ρ σ) H) (wo (bad C ρ σ) (upd H p (.lst vs))) := wo_mono (fun _ z => z) fun a o n e => by
    rw [upd_ne (fun (z : a = p) => n (by rw [z]; exact bp))]; exact e
  have gp : ∀ b, C.G b → b ≠ p := fun b hb z => (R.g0 b hb).2.2.1 (z ▸ hF)
  refine ⟨R.len, fun j y e => ?_, R.dis, R.tp.put n2.1 n3, fun b o n e => ?_, R.s1, R.s2, fun b hb => ?_, fun b hb => ?_, R.s00, fun q hq => Dt.mono s (R.pin q hq), fun q hq => (R.tin q hq).kt fun o e => by rw [upd_ne (fun z => by rw [z, hp] at e; cases e)]; exact e,
    R.s3, R.tab.put n2.2 (fun c q => by rw [hp]; exact fun z => lst_code (Option.some.inj z)), ?_, fun b hb => ?_⟩
  · obtain ⟨w, g1, g2⟩ := R.val j y e
    refine ⟨w, g1, g2.mono rfl (fun _ a b => .inl ⟨a, b⟩) s fun q us es e1 e2 e3 => ?_⟩
    subst e1 e2
    obtain ⟨_, _, e4, _, _, h5, _⟩ := g2
    cases e4
    rw [upd_ne (fun z => h5.2 (by rw [z]; exact hF))]; exact e3
  · rw [upd_ne (fun z => by rw [z, n4] at e; cases e)]
    exact R.ext b o n e
  · obtain ⟨xs, e⟩ := R.s0 b hb
    exact ⟨xs, by rw [upd_ne (fun (z : b = p) => n0 (by rw [← z]; exact hb))]; exact e⟩
  · by_cases z : b = p
    · exact ⟨_, by rw [z]; exact upd_same⟩
    · obtain ⟨xs, e⟩ := R.f0 b hb
      exact ⟨xs, by rw [upd_ne z]; exact e⟩
  · obtain ⟨φ, T⟩ := R.tre
    exact ⟨φ, T.mono s (fun b o hb e => by rw [upd_ne (gp b hb)]; exact e) fun _ z => z⟩
  · obtain ⟨⟨u, e⟩, g2, g3, g4⟩ := R.g0 b hb
    exact ⟨⟨u, by rw [upd_ne (gp b hb)]; exact e⟩, g2, g3, g4⟩
theorem bad_agr {l vs : List Nat} {ρ2 : Ro} {σ2 : L2.St} (hl : ∀ j ∈ l, j ∈ vs) (a : Agr l (wipe σ vs) σ2) (d : AgrD l (dWipe ρ vs) ρ2) {b : Addr} (h : bad C (dWipe ρ vs) (wipe σ vs) b) : bad C ρ2 σ2 b := by
  rcases h with z | z | ⟨j, ds, f1, f2⟩ | z
  · exact .inl z
  · exact .inr (.inl z)
  · have nj := (dWipe_some f1).2
    exact .inr (.inr (.inl ⟨j, ds, by rw [d.2 j (fun z => nj (hl j z))]; exact f1, by rw [a.2 j (fun z => nj (hl j z))]; exact f2⟩))
  · exact .inr (.inr (.inr z))
def el2W (g : TGD) (tt : TTD) (ti1 : TID) (g1 : TGD) (tt1 : TTD) (te : TED) (vs1 : List Nat) (x : ItD) (ρ0 : Ro) (acc : List PyData) (K : List PyData → Prop) : Prop :=
  g x ρ0 fun ρ2 => tt ρ2 fun b => if b = true then ti1 ρ2 fun items1 => lcW (fun y K => elW g1 tt1 te y (dWipe ρ2 vs1) K) items1 acc K else K acc
def lcF (el : ItD → List PyData → (List PyData → Prop) → Prop) : List ItD → List PyData → (List PyData → Prop) → Prop
  | [], acc, Q => Q acc
  | x :: xs, acc, Q => el x acc fun acc' => lcF el xs acc' Q
def dLc2 (ti : TID) (g : TGD) (tt : TTD) (ti1 : TID) (g1 : TGD) (tt1 : TTD) (te : TED) (vs vs1 : List Nat) : TED := fun ρ Q => ti ρ fun items => lcF (fun x acc K => el2W g tt ti1 g1 tt1 te vs1 x (dWipe ρ vs) acc K) items [] fun acc => Q (.nw acc)
theorem up_lc2 {ti ti1 : TID} {l l1 : List Nat} {g g1 : TGD} {tt tt1 : TTD} {te : TED} {vs vs1 : List Nat} (hl : ∀ j ∈ l, j ∈ vs) (hl1 : ∀ j ∈ l1, j ∈ vs1) : ∀ σ H Q, up K (dLc2 ti g tt ti1 g1 tt1 te vs vs1) σ H Q →
    tLc2 (upI K ti) (upG K l g) (upT K tt) (upI K ti1) (upG K l1 g1) (upT K tt1) (up K te) vs vs1 σ H Q := by
  rintro σ H Q ⟨C, ρ, Qd, R, h, post⟩
  refine ⟨C, ρ, _, R, h, ?_⟩
  rintro J H1 items pins R1 k1 wk q D hD
  have hD0 : H D = none := k1.free (R1.t1 hD) hD
  have hH0 : C.H0 D = none := R.h0n hD0
  have nDt : nx C.t D := R1.t1 hD
  have n0 : ¬ C.S0 D := R.s0n hH0
  have n3 : D ≠ C.t.2 := fun z => n0 (z ▸ R.s2)
  refine ⟨fun i m Hc => m = items.length - i ∧ i ≤ items.length ∧ Kq C.t H1 Hc ∧ ∃ acc us, Rep K ((C.add pins).at D) ρ σ Hc ∧ Hc D = some (.lst us) ∧ DtAll (wo (bad ((C.add pins).at D) ρ σ) Hc) us acc ∧
      acc.length ≤ sizeLine ∧ lcF (fun x acc K => el2W g tt ti1 g1 tt1 te vs1 x (dWipe ρ vs) acc K) (items.drop i) acc fun acc => Qd (.nw acc),
    ⟨_, rfl, Nat.zero_le _, Kq.new hD, [], [], R1.open hD, upd_same, .nil, Nat.zero_le _, by simpa using q⟩, ?_⟩
  rintro i m Hc ⟨rfl, hi, kc, acc, us, RD, hDc, hacc, hz, q⟩
  by_cases hlt : i < items.length
  · right
    rw [List.drop_eq_getElem_cons hlt] at q
    obtain ⟨go, hy⟩ := wk.go ((C.add pins).at D) ρ σ Hc i _ rfl (has_add pins) RD (List.getElem?_eq_getElem hlt)
    let Nx : Hp → Prop := fun H' => i < items.length ∧ Kq C.t H1 H' ∧ ∃ acc us, Rep K ((C.add pins).at D) ρ σ H' ∧ H' D = some (.lst us) ∧ DtAll (wo (bad ((C.add pins).at D) ρ σ) H') us acc ∧
      acc.length ≤ sizeLine ∧ lcF (fun x acc K => el2W g tt ti1 g1 tt1 te vs1 x (dWipe ρ vs) acc K) (items.drop (i + 1)) acc fun acc => Qd (.nw acc)
    refine ⟨go, Nx, ?_, ?_⟩
    · rintro H' ⟨h1, h2, h3⟩
      exact ⟨items.length - (i + 1), by omega, rfl, h1, h2, h3⟩
    · intro x H' y
      obtain ⟨k2, R2, r2⟩ := hy x H' y
      have k2 : Kq C.t Hc H' := k2
      have R2w := R2.wiped vs
      have s0 : Same (wo (bad ((C.add pins).at D) ρ σ) H') (wo (bad (((C.add pins).at D).wp ρ σ vs) (dWipe ρ vs) (wipe σ vs)) H') := wo_mono (fun _ z => bad_wp.mp z) fun _ _ _ e => e
      have rI : RelI K (((C.add pins).at D).wp ρ σ vs) (dWipe ρ vs) (wipe σ vs) H' x items[i] := by
        revert r2
        generalize items[i] = z
        intro r2
        cases z with
        | one d => exact Dt.mono s0 r2
        | two d e =>
          obtain ⟨T, v1, v2, e1, e2, e3, e4⟩ := r2
          exact ⟨T, v1, v2, e1, e2, Dt.mono s0 e3, Dt.mono s0 e4⟩
      refine ⟨((C.add pins).at D).wp ρ σ vs, dWipe ρ vs, items[i], _, R2w, rI, q, fun ρ2 σ2 R3 a3 s3 q3 => ⟨wipe_agr a3.1 hl, ?_⟩⟩
      refine ⟨((C.add pins).at D).wp ρ σ vs, ρ2, _, R3, q3, fun b H3 R4 k4 q4 => ?_⟩
      have k4 : Kq C.t H' H3 := k4
      have k := k2.trans k4
      have RD3 := RD.step (C := (C.add pins).at D) k R4.tp R4.tab
      have ha3 : DtAll (wo (bad ((C.add pins).at D) ρ σ) H3) us acc := DtAll.mono (RD.kp (C := (C.add pins).at D) k) hacc
      cases b with
      | false =>
        rw [if_neg Bool.false_ne_true] at q4
        show (if false = true then _ else _)
        rw [if_neg Bool.false_ne_true]
        exact ⟨hlt, kc.trans k, acc, us, RD3, k D _ nDt hDc, ha3, hz, q4⟩
      | true =>
        rw [if_pos rfl] at q4
        show (if true = true then _ else _)
        rw [if_pos rfl]
        refine ⟨((C.add pins).at D).wp ρ σ vs, ρ2, _, R4, q4, ?_⟩
        rintro J1 H4 items1 pins1 R5 k5 wk1 q5
        have k5 : Kq C.t H3 H4 := k5
        refine ⟨fun j m Hd => m = items1.length - j ∧ j ≤ items1.length ∧ Kq C.t H1 Hd ∧ ∃ acc us, Rep K ((C.add pins).at D) ρ σ Hd ∧ Rep K ((((C.add pins).at D).wp ρ σ vs).add pins1) ρ2 σ2 Hd ∧ Hd D = some (.lst us) ∧
          DtAll (wo (bad ((C.add pins).at D) ρ σ) Hd) us acc ∧ acc.length ≤ sizeLine ∧
          lcW (fun y K => elW g1 tt1 te y (dWipe ρ2 vs1) K) (items1.drop j) acc fun acc' => lcF (fun x acc K => el2W g tt ti1 g1 tt1 te vs1 x (dWipe ρ vs) acc K) (items.drop (i + 1)) acc' fun acc => Qd (.nw acc), ?_, ?_⟩
        · have kk := k.trans k5
          exact ⟨_, rfl, Nat.zero_le _, kc.trans kk, acc, us, RD.step (C := (C.add pins).at D) kk R5.tp R5.tab, R5, kk D _ nDt hDc, DtAll.mono (RD.kp (C := (C.add pins).at D) kk) hacc, hz, by simpa using q5⟩
        · rintro j m Hd ⟨rfl, hj, kd, acc, us, RDd, R2d, hDd, haccd, hzd, qd⟩
          by_cases hjt : j < items1.length
          · right
            rw [List.drop_eq_getElem_cons hjt] at qd
            obtain ⟨go1, hy1⟩ := wk1.go ((((C.add pins).at D).wp ρ σ vs).add pins1) ρ2 σ2 Hd j _ rfl (has_add pins1) R2d (List.getElem?_eq_getElem hjt)
            refine ⟨go1, fun H' => j < items1.length ∧ Kq C.t H1 H' ∧ ∃ acc us, Rep K ((C.add pins).at D) ρ σ H' ∧ Rep K ((((C.add pins).at D).wp ρ σ vs).add pins1) ρ2 σ2 H' ∧ H' D = some (.lst us) ∧
              DtAll (wo (bad ((C.add pins).at D) ρ σ) H') us acc ∧ acc.length ≤ sizeLine ∧
              lcW (fun y K => elW g1 tt1 te y (dWipe ρ2 vs1) K) (items1.drop (j + 1)) acc fun acc' => lcF (fun x acc K => el2W g tt ti1 g1 tt1 te vs1 x (dWipe ρ vs) acc K) (items.drop (i + 1)) acc' fun acc => Qd (.nw acc), ?_, ?_⟩
            · rintro H' ⟨h1, h2⟩
              exact ⟨items1.length - (j + 1), by omega, rfl, h1, h2⟩
            · intro x H5 y
              obtain ⟨k6, R6, r6⟩ := hy1 x H5 y
              have k6 : Kq C.t Hd H5 := k6
              have R6w := R6.wiped vs1
              have s6 : Same (wo (bad ((((C.add pins).at D).wp ρ σ vs).add pins1) ρ2 σ2) H5) (wo (bad (((((C.add pins).at D).wp ρ σ vs).add pins1).wp ρ2 σ2 vs1) (dWipe ρ2 vs1) (wipe σ2 vs1)) H5) := wo_mono (fun _ z => bad_wp.mp z) fun _ _ _ e => e
              have rI6 : RelI K (((((C.add pins).at D).wp ρ σ vs).add pins1).wp ρ2 σ2 vs1) (dWipe ρ2 vs1) (wipe σ2 vs1) H5 x items1[j] := by
                revert r6
                generalize items1[j] = z
                intro r6
                cases z with
                | one d => exact Dt.mono s6 r6
                | two d e =>
                  obtain ⟨T, v1, v2, e1, e2, e3, e4⟩ := r6
                  exact ⟨T, v1, v2, e1, e2, Dt.mono s6 e3, Dt.mono s6 e4⟩
              refine ⟨((((C.add pins).at D).wp ρ σ vs).add pins1).wp ρ2 σ2 vs1, dWipe ρ2 vs1, items1[j], _, R6w, rI6, qd, fun ρ3 σ3 R7 a7 s7 q7 => ⟨wipe_agr a7.1 hl1, ?_⟩⟩
              refine ⟨((((C.add pins).at D).wp ρ σ vs).add pins1).wp ρ2 σ2 vs1, ρ3, _, R7, q7, fun b H6 R8 k8 q8 => ?_⟩
              have k8 : Kq C.t H5 H6 := k8
              cases b with
              | false =>
                rw [if_neg Bool.false_ne_true] at q8
                show (if false = true then _ else _)
                rw [if_neg Bool.false_ne_true]
                have kz := k6.trans k8
                exact ⟨hjt, kd.trans kz, acc, us, RDd.step (C := (C.add pins).at D) kz R8.tp R8.tab, R2d.step (C := (((C.add pins).at D).wp ρ σ vs).add pins1) kz R8.tp R8.tab, kz D _ nDt hDd,
                  DtAll.mono (RDd.kp (C := (C.add pins).at D) kz) haccd, hzd, q8⟩
              | true =>
                rw [if_pos rfl] at q8
                show (if true = true then _ else _)
                rw [if_pos rfl]
                refine ⟨((((C.add pins).at D).wp ρ σ vs).add pins1).wp ρ2 σ2 vs1, ρ3, _, R8, q8, ?_⟩
                rintro v H7 yv R9 k9 e9 ⟨d, hd, hz', q9⟩
                have k9 : Kq C.t H6 H7 := k9
                have kz := (k6.trans k8).trans k9
                have hD7 : H7 D = some (.lst us) := kz D _ nDt hDd
                have RD7 := RDd.step (C := (C.add pins).at D) kz R9.tp R9.tab
                have R27 := R2d.step (C := (((C.add pins).at D).wp ρ σ vs).add pins1) kz R9.tp R9.tab
                have RDn := RD7.growF (C := (C.add pins).at D) (vs := us ++ [v]) (.inr rfl) hD7 n0 nDt n3 hH0
                have R2n := R27.growF (C := (((C.add pins).at D).wp ρ σ vs).add pins1) (vs := us ++ [v]) (.inl (.inr rfl)) hD7 n0 nDt n3 hH0
                have bd : bad ((C.add pins).at D) ρ σ D := .inr (.inl (.inr rfl))
                have s1 : Same (wo (bad ((C.add pins).at D) ρ σ) H7) (wo (bad ((C.add pins).at D) ρ σ) (upd H7 D (.lst (us ++ [v])))) := fun a o e => by
                  obtain ⟨f1, f2⟩ := wo_of e
                  exact wo_mk f1 (by rw [upd_ne (fun z => f1 (by rw [z]; exact bd))]; exact f2)
                have s2 : Same (wo (bad (((((C.add pins).at D).wp ρ σ vs).add pins1).wp ρ2 σ2 vs1) ρ3 σ3) H7) (wo (bad ((C.add pins).at D) ρ σ) H7) := wo_mono (fun b z => by
                  have z2 : bad (((C.add pins).at D).wp ρ σ vs) ρ2 σ2 b := bad_agr hl a3.1 a3.2 (bad_wp.mpr z)
                  have z3 : bad ((((C.add pins).at D).wp ρ σ vs).add pins1) ρ2 σ2 b := z2
                  exact bad_agr hl1 a7.1 a7.2 (bad_wp.mpr z3)) fun _ _ _ e => e
                have gd := Dt.mono s1 (Dt.mono s2 (R8.stOf e9 hd))
                have ga := DtAll.mono s1 (DtAll.mono (RDd.kp (C := (C.add pins).at D) kz) haccd)
                refine ⟨us, hD7, by rw [ga.length]; exact hz', hjt, ?_, acc ++ [d], us ++ [v], RDn, R2n, upd_same, ga.snoc gd, by simp; omega, q9⟩
                intro b o nb e
                rw [upd_ne (ne_of_none e hD)]
                exact (kd.trans kz) b o nb e
          · left
            have e : j = items1.length := by omega
            subst e
            rw [List.drop_length] at qd
            exact ⟨wk1.stop ((((C.add pins).at D).wp ρ σ vs).add pins1) ρ2 σ2 Hd rfl (has_add pins1) R2d, hlt, kd, acc, us, RDd, hDd, haccd, hzd, qd⟩
  · left
    have e : i = items.length := by omega
    subst e
    rw [List.drop_length] at q
    refine ⟨wk.stop ((C.add pins).at D) ρ σ Hc rfl (has_add pins) RD, post (.ref D) Hc (.nw acc) RD.shut.unpin (k1.trans kc) ⟨D, us, rfl, hD0, hDc, DtAll.mono (wo_mono (fun b z => ?_) fun _ _ _ e => e) hacc, hz⟩ q⟩
    exact bad_at.mpr (z.elim (fun z => .inl z) .inr)
end
end My
namespace My
open PySem PySem.Spec PyProof.Rows L2
variable [TB]
section
variable {X : Cx} {pos : Pos}
theorem fe_lc2 {elt tg iter tg1 iter1 : Expr} {ifs ifs1 : List Expr} {scope : Scope} {own : List (Str × Nat)} {vs1 : List Nat} {ti ti1 : TID} {l l1 : List Nat} {g g1 : TGD} {tt tt1 : TTD} {te : TED} (hc : X.calm = true) (hN : X.N.Nodup) (hi : FI X tg iter ti) (ok : BlkOk X.N X.env.scope scope own) (hv : ∀ i ∈ vs1, i ∈ own.map (·.2))
    (hg : ∀ (s : Shared) (H : Hp) (C : Addr) (cl : List (Str × Addr)) (fp : List Addr), FG (X.blk s H scope (compEnvC scope cl C X.env) fp) tg l g) (ht : ∀ (s : Shared) (H : Hp) (C : Addr) (cl : List (Str × Addr)) (fp : List Addr), FTs (X.blk s H scope (compEnvC scope cl C X.env) fp) ifs tt)
    (hi1 : ∀ (s : Shared) (H : Hp) (C : Addr) (cl : List (Str × Addr)) (fp : List Addr), FI (X.blk s H scope (compEnvC scope cl C X.env) fp) tg1 iter1 ti1)
    (hg1 : ∀ (s : Shared) (H : Hp) (C : Addr) (cl : List (Str × Addr)) (fp : List Addr), FG (X.blk s H scope (compEnvC scope cl C X.env) fp) tg1 l1 g1) (ht1 : ∀ (s : Shared) (H : Hp) (C : Addr) (cl : List (Str × Addr)) (fp : List Addr), FTs (X.blk s H scope (compEnvC scope cl C X.env) fp) ifs1 tt1)
    (he : ∀ (s : Shared) (H : Hp) (C : Addr) (cl : List (Str × Addr)) (fp : List Addr), FE (X.blk s H scope (compEnvC scope cl C X.env) fp) elt te) (hl : ∀ j ∈ l, j ∈ own.map (·.2)) (hl1 : ∀ j ∈ l1, j ∈ vs1) (hs : ∀ x, foldedSetIterable iter X.env x = pure x := by intro _; rfl) (hs1 : ∀ env x, foldedSetIterable iter1 env x = pure x := by intro _ _; rfl) :
    FE X (.ListComp elt [⟨tg, iter, ifs, 0⟩, ⟨tg1, iter1, ifs1, 0⟩] scope pos) (dLc2 ti g tt ti1 g1 tt1 te (own.map (·.2)) vs1) :=
  (pe_lc2 hc hN hi ok hv hg ht hi1 hg1 ht1 he hs hs1).mo (up_lc2 hl hl1)
theorem fs_setLc2 {i : Nat} {y : Str} {py : Pos} {elt tg iter tg1 iter1 : Expr} {ifs ifs1 : List Expr} {scope : Scope} {own : List (Str × Nat)} {vs1 : List Nat} {spos : Pos} {ti ti1 : TID} {l l1 : List Nat} {g g1 : TGD} {tt tt1 : TTD} {te : TED} (hc : X.calm = true) (hN : X.N.Nodup) (hy : X.N[i]? = some y) (hyl : X.env.scope.names.lookup y = some .local)
    (hsw : swapsWith (.ListComp elt [⟨tg, iter, ifs, 0⟩, ⟨tg1, iter1, ifs1, 0⟩] scope pos) (some (.Name y py)) spos.line X.env = pure true) (hi : FI X tg iter ti) (ok : BlkOk X.N X.env.scope scope own) (hv : ∀ i ∈ vs1, i ∈ own.map (·.2))
    (hg : ∀ (s : Shared) (H : Hp) (C : Addr) (cl : List (Str × Addr)) (fp : List Addr), FG (X.blk s H scope (compEnvC scope cl C X.env) fp) tg l g) (ht : ∀ (s : Shared) (H : Hp) (C : Addr) (cl : List (Str × Addr)) (fp : List Addr), FTs (X.blk s H scope (compEnvC scope cl C X.env) fp) ifs tt)
    (hi1 : ∀ (s : Shared) (H : Hp) (C : Addr) (cl : List (Str × Addr)) (fp : List Addr), FI (X.blk s H scope (compEnvC scope cl C X.env) fp) tg1 iter1 ti1)
    (hg1 : ∀ (s : Shared) (H : Hp) (C : Addr) (cl : List (Str × Addr)) (fp : List Addr), FG (X.blk s H scope (compEnvC scope cl C X.env) fp) tg1 l1 g1) (ht1 : ∀ (s : Shared) (H : Hp) (C : Addr) (cl : List (Str × Addr)) (fp : List Addr), FTs (X.blk s H scope (compEnvC scope cl C X.env) fp) ifs1 tt1)
    (he : ∀ (s : Shared) (H : Hp) (C : Addr) (cl : List (Str × Addr)) (fp : List Addr), FE (X.blk s H scope (compEnvC scope cl C X.env) fp) elt te) (hl : ∀ j ∈ l, j ∈ own.map (·.2)) (hl1 : ∀ j ∈ l1, j ∈ vs1) (hs : ∀ x, foldedSetIterable iter X.env x = pure x := by intro _; rfl) (hs1 : ∀ env x, foldedSetIterable iter1 env x = pure x := by intro _ _; rfl) :
    FS X (.Assign [.Name y py] (.ListComp elt [⟨tg, iter, ifs, 0⟩, ⟨tg1, iter1, ifs1, 0⟩] scope pos) spos) (dSet i (dLc2 ti g tt ti1 g1 tt1 te (own.map (·.2)) vs1)) :=
  fs_setM (ps_setLc2 hc hN hy hyl hsw hi ok hv hg ht hi1 hg1 ht1 he hs hs1) (up_lc2 hl hl1)

/-! ### statements, whatever the kinds -/
def dRetU (te : TED) : TSD := fun Dd ρ => te ρ fun x => match x with
  | .p d => Dd.rt (.p d)
  | .own ds => Dd.rt (.nw ds)
  | .nw ds => Dd.rt (.nw ds)
  | .ot m => Dd.rt (.p m.dat)
  | .nt m => Dd.rt (.p m.dat)
  | _ => False
theorem fs_retU {st : Stmt} {te : TED} (h : PS X st (tRet (up X.K te))) : FS X st (dRetU te) := by
  refine h.mo ?_
  rintro D σ H ⟨C, ρ, Dd, R, h, L⟩
  refine ⟨C, ρ, _, R, h, fun v H1 x R1 k1 e1 q => ?_⟩
  have s : Same (wo (bad C ρ σ) H1) (wo C.S0 H1) := wo_mono (fun _ z => .inl z) fun _ _ _ e => e
  cases x with
  | p d => exact L.rt v H1 (.p d) ⟨R1.tp, R1.ext, R1.tab, Dt.mono s e1⟩ q
  | own ds =>
    refine L.rt v H1 (.nw ds) ⟨R1.tp, R1.ext, R1.tab, ?_⟩ q
    obtain ⟨i, f1, f2⟩ := e1
    obtain ⟨w, g1, p, us, rfl, g2, g3, g4, g5⟩ := R1.val i _ f1
    rw [f2] at g1; cases g1
    refine ⟨p, us, rfl, g4.1, g2, DtAll.mono (wo_mono (fun b z => ?_) fun _ _ _ e => e) g3, g5⟩
    rcases z with z | z
    · exact .inl z
    · exact .inr (.inr (.inl ⟨i, ds, f1, by rw [z]; exact f2⟩))
  | nw ds =>
    refine L.rt v H1 (.nw ds) ⟨R1.tp, R1.ext, R1.tab, ?_⟩ q
    obtain ⟨p, vs, rfl, h1, h2, h3, h4⟩ := e1
    exact ⟨p, vs, rfl, R.h0n h1, h2, DtAll.mono (wo_mono (fun b z => z.elim (fun z => .inl (.inl z)) .inr) fun _ _ _ e => e) h3, h4⟩
  | tape => exact q.elim
  | ot m =>
    refine L.rt v H1 (.p m.dat) ⟨R1.tp, R1.ext, R1.tab, ?_⟩ q
    obtain ⟨f, h1, h2⟩ := R1.ofTree e1
    exact h1.dt (fun _ z => .inl z) fun b hb => R1.s0n (R1.g0 b (h2 b hb)).2.1
  | nt m =>
    refine L.rt v H1 (.p m.dat) ⟨R1.tp, R1.ext, R1.tab, ?_⟩ q
    obtain ⟨f, h1, h2⟩ := e1
    exact h2.dt (fun _ z => .inl (.inl z)) fun b hb => R.s0n (R.h0n (h1 b hb))
  | fv f F => exact q.elim
/-- l.extend(e) -/
def dExt (i : Nat) (ta : TAD) : TSD := fun Dd ρ => ∃ ds, ρ[i]? = some (some (.own ds)) ∧ ta ρ fun xs => match xs with
  | [x] => match x.st with
    | some (.tuple es) => ds.length + es.length ≤ sizeLine ∧ Dd.nx (ρ.set i (some (.own (ds ++ es))))
    | some (.list es) => ds.length + es.length ≤ sizeLine ∧ Dd.nx (ρ.set i (some (.own (ds ++ es))))
    | _ => False
  | _ => False
def rExt2 : V → List V → Hp → VK → Prop := fun x vs H Q => rExtG x vs H Q ∨ rExtend x vs H Q
theorem mt_ext2 : MtM X "list.extend" rExt2 := by
  intro pins s σ H x vs v us Q I rx rv h
  rcases h with h | h
  · exact mt_extG pins s σ H x vs v us Q I rx rv h
  · exact mt_extend pins s σ H x vs v us Q I rx rv h
theorem fs_ext {st : Stmt} {i : Nat} {ta : TAD} (h : PS X st (tDrop (tBM X.K "list" rExt2 (tVar i) (upA X.K ta)))) : FS X st (dExt i ta) := by
  refine h.mo ?_
  rintro D σ H ⟨C, ρ, Dd, R, ⟨ds, e, h⟩, L⟩
  obtain ⟨v, h1, p, us, rfl, h2, _⟩ := R.val i _ e
  refine ⟨.ref p, h1, .inl ⟨rfl, us, SqL.of h2⟩, C, ρ, _, R, h, ?_⟩
  intro vs H1 xs R1 k ea g
  split at g
  · rename_i x
    obtain ⟨v, rfl, e1⟩ := p1 ea
    obtain ⟨w, g1, q', us', e2, g2, g3, _⟩ := R1.val i _ e
    rw [h1] at g1; cases g1; cases e2
    split at g
    · rename_i es hd
      have z := R.stOf e1 hd
      cases z with
      | tup t1 d1 =>
        refine .inl ⟨p, _, us', _, rfl, rfl, g2, t1.mo, by rw [g3.length, d1.length]; exact g.1, ?_⟩
        exact L.nx _ _ _ (R1.put e h1 g2 (g3.append d1) (by simp; exact g.1)) g.2
    · rename_i es hd
      have z := R.stOf e1 hd
      cases z with
      | lst t1 d1 =>
        refine .inr ⟨p, _, us', _, rfl, rfl, g2, (wo_of t1).2, by rw [g3.length, d1.length]; exact g.1, ?_⟩
        exact L.nx _ _ _ (R1.put e h1 g2 (g3.append d1) (by simp; exact g.1)) g.2
    · exact g.elim
  · exact g.elim
/-- name = l.pop() -/
def dPop (j i : Nat) : TSD := fun Dd ρ => ∃ ds d, ρ[i]? = some (some (.own (ds ++ [d]))) ∧ Dd.nx ((ρ.set i (some (.own ds))).set j (some (.p d)))
theorem fs_pop {st : Stmt} {i j : Nat} (h : PS X st (tAsg (tBM0 X.K "list" rPop (tVar i)) (gName j))) : FS X st (dPop j i) := by
  refine h.mo ?_
  rintro D σ H ⟨C, ρ, Dd, R, ⟨ds, d, e, q⟩, L⟩
  obtain ⟨v, h1, p, us, rfl, h2, h3, h4, h5⟩ := R.val i _ e
  have hl : us.length = ds.length + 1 := by rw [h3.length]; simp
  have hne : us ≠ [] := fun z => by rw [z] at hl; simp at hl
  obtain ⟨w, hw, hd⟩ := h3.of (i := ds.length) (d := d) (by simp)
  have e1 : us[us.length - 1]? = some w := by rw [hl]; exact hw
  refine ⟨.ref p, h1, .inl ⟨rfl, us, SqL.of h2⟩, p, us, w, rfl, rfl, h2, e1, ?_⟩
  have dr : DtAll (wo (bad C ρ σ) H) us.dropLast ds := by
    have := h3.take (us.length - 1)
    rw [List.dropLast_eq_take]
    have e2 : (ds ++ [d]).take (us.length - 1) = ds := by rw [hl]; simp
    rw [e2] at this
    exact this
  have R2 := R.put e h1 h2 dr (by simp at h5; omega)
  have pb : bad C ρ σ p := .inr (.inr (.inl ⟨i, _, e, h1⟩))
  have hd2 : Dt (wo (bad C (ρ.set i (some (.own ds))) σ) (upd H p (.lst us.dropLast))) w d := by
    refine Dt.mono (fun a o ea => ?_) hd
    obtain ⟨f1, f2⟩ := wo_of ea
    refine wo_mk (fun z => f1 ?_) (by rw [upd_ne (fun (z : a = p) => f1 (by rw [z]; exact pb))]; exact f2)
    rcases z with z | z | ⟨m, es, g1, g2⟩ | z
    · exact .inl z
    · exact .inr (.inl z)
    · by_cases im : i = m
      · subst im; exact .inr (.inr (.inl ⟨i, _, e, g2⟩))
      · rw [List.getElem?_set_ne im] at g1; exact .inr (.inr (.inl ⟨m, es, g1, g2⟩))
    · exact .inr (.inr (.inr z))
  exact L.nx _ _ _ (R2.setP j hd2) q
/-- a = b = e -/
def dAsg2 (te : TED) (g1 g2 : TGD) : TSD := fun Dd ρ => te ρ fun x => ∃ d, x.st = some d ∧ g1 (.one d) ρ fun ρ1 => g2 (.one d) ρ1 Dd.nx
theorem fs_asg2 {st : Stmt} {te : TED} {l1 l2 : List Nat} {g1 g2 : TGD} (h : PS X st (tAsg2 (up X.K te) (upG X.K l1 g1) (upG X.K l2 g2))) : FS X st (dAsg2 te g1 g2) := by
  refine h.mo ?_
  rintro D σ H ⟨C, ρ, Dd, R, h, L⟩
  refine ⟨C, ρ, _, R, h, ?_⟩
  rintro v H1 x R1 k1 e1 ⟨d, hd, q⟩
  have z := R.stOf e1 hd
  exact ⟨C, ρ, .one d, _, R1, z, q, fun ρ' σ' R' _ s q => ⟨C, ρ', .one d, _, R', Dt.mono s z, q, fun ρ2 σ2 R2 _ _ q => L.nx ρ2 σ2 H1 R2 q⟩⟩
/-- an expression for nothing -/
def dExpr (te : TED) : TSD := fun Dd ρ => te ρ fun _ => Dd.nx ρ
theorem fs_expr {st : Stmt} {te : TED} (h : PS X st (tDrop (up X.K te))) : FS X st (dExpr te) := by
  refine h.mo ?_
  rintro D σ H ⟨C, ρ, Dd, R, h, L⟩
  exact ⟨C, ρ, _, R, h, fun v H1 x R1 k1 e1 q => L.nx ρ σ H1 R1 q⟩
/-- the ways behind an if joined -/
def dCut (t u : TSD) : TSD := fun Dd ρ => ∃ P : Ro → Prop, t { Dd with nx := P } ρ ∧ ∀ ρ', P ρ' → u Dd ρ'
theorem fss_cut {st : Stmt} {sts : List Stmt} {t u : TSD} (h1 : FS X st t) (h2 : FSs X sts u) : FSs X (st :: sts) (dCut t u) := by
  refine (pss_cons h1 h2).mo ?_
  rintro D σ H ⟨C, ρ, Dd, R, ⟨P, h, hu⟩, L⟩
  exact ⟨C, ρ, _, R, h, fun G ρ' σ' H' R' q => ⟨C.gg G, ρ', Dd, R', hu ρ' q, L.gg G⟩, L.rt, L.bk', L.ct'⟩
/-- a constant of the module -/
theorem fe_gs {x : Str} {u : Str} {t : Tok} (hg : Gl X x) (hm : X.mg x = some (.str u t)) (hd : (x == ("__debug__" : Str)) = false := by decide) : FE X (.Name x pos) (dC (.str u)) := fe_c (pe_glob (v := .str u) hg hm ⟨_, rfl⟩ hd) fun _ => .str _
theorem fe_gi {x : Str} {u : Int} {t : Tok} (hg : Gl X x) (hm : X.mg x = some (.int u t)) (hd : (x == ("__debug__" : Str)) = false := by decide) : FE X (.Name x pos) (dC (.int u)) := fe_c (pe_glob (v := .int u) hg hm ⟨_, rfl⟩ hd) fun _ => .int _
end
end My
namespace My
open PySem PySem.Spec PyProof.Rows L2
variable [TB]
theorem Room.u65 {k : Nat} {A : Around} (r : Room k A) : A.units + 65 < cLine := by have := r.un; omega
section
variable {X : Cx} {pos : Pos}
def tRevU (K : PySem.W.Frag) (te : TE) : TE := fun σ H Q => te σ H fun x H1 => (∃ a xs, x = .ref a ∧ SqT K H1 a xs ∧ NewG H1 Q xs.reverse) ∨ ∃ a xs, x = .ref a ∧ SqL K H1 a xs ∧ ∀ p, H1 p = none → Q (.ref p) (upd H1 p (.lst xs.reverse))
theorem pe_revU {e : Expr} {te : TE} {k : Nat} {p1 p2 p3 : Pos} (he : PE X e te) :
    PE X (.Subscript e (.Slice none none (some (.UnaryOp .USub (.Constant (.int 1) k p1) p2)) p3) pos) (tRevU X.K te) := by
  constructor
  intro pins s σ H Q I h
  refine Subscript_ (thn (he.run pins s σ H _ I h) ?_)
  rintro v s1 ⟨x, H1, I1, r1, h1⟩
  have hst : PO X (some (.UnaryOp .USub (.Constant (.int 1) k p1) p2)) (tPart (tUn (rU fun i => .int (-i)) (tC (.int 1)))) :=
    po_some (pe_un un_neg pe_int)
  refine wpAny_Slice (thn (po_none.run pins s1 σ H1 (fun o h2 => o = none ∧ h2 = H1) I1 ⟨rfl, rfl⟩) ?_)
  rintro vl s2 ⟨l, H2, I2, pl, rfl, rfl⟩
  refine thn (po_none.run pins s2 σ H2 (fun o h3 => o = none ∧ h3 = H2) I2 ⟨rfl, rfl⟩) ?_
  rintro vu s3 ⟨u, H3, I3, pu, rfl, rfl⟩
  refine thn (hst.run pins s3 σ H3 (fun o h4 => o = some (-1) ∧ h4 = H3) I3 ⟨1, rfl, -1, rfl, rfl, rfl⟩) ?_
  rintro vs s4 ⟨o, H4, I4, ps, rfl, rfl⟩
  have I5 : Inv X pins σ H4 { s4 with heap := s4.heap.push { cls := .type "slice", data := .fields #[vl, vu, vs] } } :=
    I4.kept (t' := s4.toks) fun b ob q => Heap.get?_push_of_some _ q
  rcases h1 with ⟨a, xs, rfl, hx, q⟩ | ⟨a, xs, rfl, hx, q⟩
  · cases r1
    obtain ⟨its, r, ht, hz⟩ := I5.tuple hx
    have hlen := r.length
    show wpAny (model X.prog X.w) X.A (subscriptTail e (.Slice none none (some (.UnaryOp .USub (.Constant (.int 1) k p1) p2)) p3) (.ref a)
      (.ref s4.heap.objs.size)) (EP X pins σ Q) X.xe { s4 with heap := s4.heap.push { cls := .type "slice", data := .fields #[vl, vu, vs] } }
    refine tail_any (ops := [.ref a, .ref s4.heap.objs.size]) ht.typeIs (PyProof.Rows.slot_tuple_getitem.lookup) ?_ (by with_unfolding_all rfl)
    refine getItem_rev ht (Heap.IsSliceOf.new _ vl vu vs) pl pu ps ?_ (by rw [List.size_toArray]; omega)
    exact layG I5 r.reverse (by rw [List.length_reverse]; exact hz) q
  · cases r1
    obtain ⟨us, r, ht, hz⟩ := I5.list hx
    have hl := r.length
    show wpAny (model X.prog X.w) X.A (subscriptTail e (.Slice none none (some (.UnaryOp .USub (.Constant (.int 1) k p1) p2)) p3) (.ref a)
      (.ref s4.heap.objs.size)) (EP X pins σ Q) X.xe { s4 with heap := s4.heap.push { cls := .type "slice", data := .fields #[vl, vu, vs] } }
    refine tail_any (ops := [.ref a, .ref s4.heap.objs.size]) ht.isList.typeIs PySem.slot_list_getitem.lookup ?_ (by with_unfolding_all rfl)
    refine wpAny_getItem_list_slice ht.isList (Heap.IsSliceOf.new _ vl vu vs) pl pu ps (by decide) ?_
      (by rw [List.size_toArray]; omega)
    rw [PySem.W.krv_pick]
    have lay := I5.laid (t' := s4.toks) (o := .lst xs.reverse) (fun b ob q => Heap.get?_push_of_some _ q) (Nat.le_refl _)
      ⟨by rw [List.length_reverse]; exact hz, us.reverse, 0, r.reverse, Heap.get?_push_size _ rfl⟩
    exact ⟨.ref _, _, lay, rfl, q _ (I5.hok.fresh (Nat.le_refl _))⟩
/-- [::-1] -/
def dRevU (ta : TED) : TED := fun ρ Q => ta ρ fun x => match x with
  | .p (.tuple ds) => Q (.p (.tuple ds.reverse))
  | x => match x.ls with
    | some ds => ds.length ≤ sizeLine ∧ Q (.nw ds.reverse)
    | _ => False
theorem fe_revU {a : Expr} {ta : TED} {k : Nat} {p1 p2 p3 : Pos} (ha : FE X a ta) : FE X (.Subscript a (.Slice none none (some (.UnaryOp .USub (.Constant (.int 1) k p1) p2)) p3) pos) (dRevU ta) := by
  refine (pe_revU ha).mo ?_
  rintro σ H Q ⟨C, ρ, Qd, R, h, post⟩
  refine ⟨C, ρ, _, R, h, fun v H1 x R1 k1 e1 g => ?_⟩
  split at g
  · obtain ⟨a, vs, rfl, t1, d1⟩ := R1.tupOf e1
    exact .inl ⟨a, vs, rfl, t1.sq, R1.newG (H0 := H) d1.rev g fun v' H4 z R4 k4 e4 q => post v' H4 z R4 (k1.trans k4) (e4.back k1 R1) q⟩
  · split at g
    · rename_i ds hd
      obtain ⟨a, vs, rfl, t1, d1⟩ := R1.lstOf e1 hd
      exact .inr ⟨a, vs, rfl, SqL.of t1, R1.newL (H0 := H) d1.rev (by rw [List.length_reverse]; exact g.1) g.2 fun v' H4 z R4 k4 e4 q => post v' H4 z R4 (k1.trans k4) (e4.back k1 R1) q⟩
    · exact g.elim
theorem fe_gsE {x : Str} {u : Str} (hg : Gl X x) (hm : ∃ t, X.mg x = some (.str u t)) (hd : (x == ("__debug__" : Str)) = false := by decide) : FE X (.Name x pos) (dC (.str u)) := by
  obtain ⟨t, hm⟩ := hm
  exact fe_gs hg hm hd
theorem fe_giE {x : Str} {u : Int} (hg : Gl X x) (hm : ∃ t, X.mg x = some (.int u t)) (hd : (x == ("__debug__" : Str)) = false := by decide) : FE X (.Name x pos) (dC (.int u)) := by
  obtain ⟨t, hm⟩ := hm
  exact fe_gi hg hm hd
end

/-! ### promises by their arguments -/
def s1 (S : D → (D → Prop) → Prop) : SpD := fun xs Q => match xs with
  | [a] => S a Q
  | _ => False
def s2 (S : D → D → (D → Prop) → Prop) : SpD := fun xs Q => match xs with
  | [a, b] => S a b Q
  | _ => False
def s3 (S : D → D → D → (D → Prop) → Prop) : SpD := fun xs Q => match xs with
  | [a, b, c] => S a b c Q
  | _ => False
def s4 (S : D → D → D → D → (D → Prop) → Prop) : SpD := fun xs Q => match xs with
  | [a, b, c, d] => S a b c d Q
  | _ => False
def s5 (S : D → D → D → D → D → (D → Prop) → Prop) : SpD := fun xs Q => match xs with
  | [a, b, c, d, e] => S a b c d e Q
  | _ => False
def s6 (S : D → D → D → D → D → D → (D → Prop) → Prop) : SpD := fun xs Q => match xs with
  | [a, b, c, d, e, f] => S a b c d e f Q
  | _ => False
def s7 (S : D → D → D → D → D → D → D → (D → Prop) → Prop) : SpD := fun xs Q => match xs with
  | [a, b, c, d, e, f, g] => S a b c d e f g Q
  | _ => False
theorem s1_on {S : D → (D → Prop) → Prop} {P : List D → (D → Prop) → Prop} (h : ∀ a Q, S a Q → P [a] Q) : ∀ xs Q, s1 S xs Q → P xs Q := by
  intro xs Q q; unfold s1 at q; split at q
  · exact h _ _ q
  · exact q.elim
theorem s2_on {S : D → D → (D → Prop) → Prop} {P : List D → (D → Prop) → Prop} (h : ∀ a b Q, S a b Q → P [a, b] Q) : ∀ xs Q, s2 S xs Q → P xs Q := by
  intro xs Q q; unfold s2 at q; split at q
  · exact h _ _ _ q
  · exact q.elim
theorem s3_on {S : D → D → D → (D → Prop) → Prop} {P : List D → (D → Prop) → Prop} (h : ∀ a b c Q, S a b c Q → P [a, b, c] Q) : ∀ xs Q, s3 S xs Q → P xs Q := by
  intro xs Q q; unfold s3 at q; split at q
  · exact h _ _ _ _ q
  · exact q.elim
theorem s4_on {S : D → D → D → D → (D → Prop) → Prop} {P : List D → (D → Prop) → Prop} (h : ∀ a b c d Q, S a b c d Q → P [a, b, c, d] Q) : ∀ xs Q, s4 S xs Q → P xs Q := by
  intro xs Q q; unfold s4 at q; split at q
  · exact h _ _ _ _ _ q
  · exact q.elim
theorem s5_on {S : D → D → D → D → D → (D → Prop) → Prop} {P : List D → (D → Prop) → Prop} (h : ∀ a b c d e Q, S a b c d e Q → P [a, b, c, d, e] Q) : ∀ xs Q, s5 S xs Q → P xs Q := by
  intro xs Q q; unfold s5 at q; split at q
  · exact h _ _ _ _ _ _ q
  · exact q.elim
theorem s6_on {S : D → D → D → D → D → D → (D → Prop) → Prop} {P : List D → (D → Prop) → Prop} (h : ∀ a b c d e f Q, S a b c d e f Q → P [a, b, c, d, e, f] Q) : ∀ xs Q, s6 S xs Q → P xs Q := by
  intro xs Q q; unfold s6 at q; split at q
  · exact h _ _ _ _ _ _ _ q
  · exact q.elim
theorem s7_on {S : D → D → D → D → D → D → D → (D → Prop) → Prop} {P : List D → (D → Prop) → Prop} (h : ∀ a b c d e f g Q, S a b c d e f g Q → P [a, b, c, d, e, f, g] Q) : ∀ xs Q, s7 S xs Q → P xs Q := by
  intro xs Q q; unfold s7 at q; split at q
  · exact h _ _ _ _ _ _ _ _ q
  · exact q.elim
end My
namespace My
open PySem PySem.Spec PyProof.Rows L2
variable [TB]

def S_draw (t m : D) (Q : D → Prop) : Prop := t = .tape ∧ ∃ n : Int, m = .p (.int n) ∧ n < 100000000 ∧ ∀ v : Nat, (v : Int) < max n 1 → Q (.p (.int (v : Nat)))
section
variable {P : Program} {w : World} {K : PySem.W.Frag} {mg : Str → Option Value} {base : Heap} {k : Nat} {x : Str} {ps : List Str} {sp sp2 : Sp}
theorem Cal.toG (C : Cal P w K mg base k x ps sp) (ln : ∀ vs H Q E, sp2 vs H Q E → vs.length = ps.length) (m : ∀ vs H Q E, sp2 vs H Q E → sp vs H Q E) : CalG P w K mg base k x ps sp2 := by
  obtain ⟨f, fd, F, h1, h2, h3⟩ := C.ex
  have G := FnG.of F
  exact ⟨f, fd, ⟨ln, fun A o s H ar us vs Q E a b c d e q => G.go A o s H ar us vs Q E a b c d e (m _ _ _ _ q)⟩, h1, h2, h3⟩
theorem draw_up (C : Cal P w K mg base k "_law_draw" ["tape", "many"] (spDraw K)) : CalG P w K mg base k "_law_draw" ["tape", "many"] (spU K 2 (s2 S_draw)) := by
  refine C.toG (spU_len rfl) ?_
  rintro vs H Q E ⟨t, S0, xs, Qd, T, tb, _, _, _, _, hv, hl, hS, post⟩
  unfold s2 at hS
  split at hS
  · obtain ⟨rfl, n, rfl, hn, hq⟩ := hS
    cases hv with
    | cons h1 hv =>
      cases hv with
      | cons h2 hv =>
        cases hv
        have h1 : _ = V.ref t.1 := h1
        subst h1
        cases h2
        refine ⟨t, n, rfl, T, hn, fun v H' h0 hlt hk _ hT => ?_⟩
        have tb' : Tbs H' := fun p hp => by
          obtain ⟨ps, h1, h2, h3⟩ := tb p hp
          obtain ⟨ys, hy⟩ := T.lst
          have ne : ∀ {b : Addr} {u : HO}, H b = some u → (∀ xs, u ≠ .lst xs) → H' b = some u := fun {b u} e n => hk b _ (fun z => by rw [z, hy] at e; cases e; exact n _ rfl) e
          refine ⟨ps, ne h1 (fun _ z => by cases z), h2, fun pos cv hcv => ?_⟩
          obtain ⟨c, e1, e2⟩ := h3 pos cv hcv
          exact ⟨c, e1, ne e2 fun xs z => lst_code z.symm⟩
        have := post (.int v) H' (.p (.int v)) hT tb' (Kq.of hk) (.int v)
        refine this ?_
        have e : ((v.toNat : Nat) : Int) = v := Int.toNat_of_nonneg h0
        rw [← e]
        exact hq v.toNat (by omega)
  · exact hS.elim
end
/-- a def that calls itself -/
theorem Df.calR {P : Program} {w : World} {K : PySem.W.Frag} {mg : Str → Option Value} {base : Heap} {x : Str} {st : Stmt} {N ps : List Str} {k n m : Nat} {SPm : Nat → SpD} {t : SpD → TSD} (D : Df K mg x st ps) (sc : FnScope N ps (defScope st))
    (hn : ps.length = n) (hN : N.length = n + m) (z : ∀ xs Q, ¬ SPm 0 xs Q) (hs : ∀ j xs Qd, SPm (j + 1) xs Qd → t (SPm j) (endsOf Qd) (iniR xs m))
    (hb : ∀ j, CalG P w K mg base (k + 1 + j) x ps (spU K n (SPm j)) → ∀ (f : Addr) (cdv : Value) (A : Around) (o : List Env) (s : Shared) (H : Hp) (E : XK),
      Room (k + 1 + j) (A.deeper (envOfC x (defScope st) s.heap.objs.size f cdv)) → A.guards = some [] →
      FSs (cxOf CX0 P w K mg base N x (defScope st) f cdv A o s H E).nox (defBody st) (t (SPm j))) :
    ∀ j, CalG P w K mg base (k + 1 + j) x ps (spU K n (SPm j))
  | 0 => by
    refine D.calG sc (spU_len hn) (fun f cdv A o s H vs Q E hr hg h => ?_)
    obtain ⟨_, _, xs, Qd, _, _, _, _, _, _, _, _, hS, _⟩ := h
    exact (z xs Qd hS).elim
  | j + 1 => by
    have ih := Df.calR D sc hn hN z hs hb j
    exact D.calU sc hn hN (hs j) (hb j ih)
/-- the law's own text behind its tape -/
def endsLaw : EndsD := { nx := fun _ => False, rt := fun x => x = .p (.bool true) }
def iniLaw (n : Nat) : Ro := none :: some .tape :: List.replicate n none
/-- .. where the tables stand -/
def spLawT (K : PySem.W.Frag) : Sp := fun vs H Q _ => ∃ (a : Addr) (ns : List Int), vs = [.ref a] ∧ SqL K H a (ns.map V.int) ∧ ns.length ≤ 63 ∧ Tbs H ∧ ∀ H', Q (.bl true) H'
theorem law_body {X : Cx} {st : Stmt} {sts : List Stmt} {t : TSD} {N : List Str} {n : Nat} {vs : List V} {H : Hp} {Q : VK} {E : XK}
    (h1 : PS X st (tAsg (tCall (spTape X.K) [] E0 (tCons (tVar 0) tNil)) (gName 1))) (h2 : FSs X sts t) (hN : N.length = n + 2) (pf : t endsLaw (iniLaw n)) (h : spLawT X.K vs H Q E) :
    ∃ t, PSs X (st :: sts) t ∧ t { nx := fun _ h => Q .non h, rt := Q } (L2.start N vs) H := by
  obtain ⟨a, ns, rfl, hS, hl, tb, q⟩ := h
  have es : L2.start N [V.ref a] = some (V.ref a) :: none :: List.replicate n none := by
    unfold L2.start
    rw [hN]
    show some (V.ref a) :: List.replicate (n + 2 - 1) none = _
    rw [show n + 2 - 1 = n + 1 by omega, List.replicate_succ]
  rw [es]
  refine ⟨_, pss_cons h1 h2, .ref a, rfl, a, ns, rfl, hS, hl, fun tt H' hs hn T => ?_⟩
  have hT := T.ex
  obtain ⟨ns', p', n', s', g1, g2, g3, g4, g5, g6⟩ := hT
  have tb' : Tbs H' := tb.ext hs
  refine ⟨⟨tt, fun b => b = tt.1 ∨ b = tt.2 ∨ ∃ p ∈ TB.T, p.1 = b, fun _ => False, H', [], [], fun _ => False⟩, iniLaw n, endsLaw, ?_, pf, ?_⟩
  · have e : (some (V.ref a) :: none :: List.replicate n none).set 1 (some (V.ref tt.1)) = some (V.ref a) :: some (V.ref tt.1) :: List.replicate n none := rfl
    rw [e]
    have none_of : ∀ {j : Nat} {y : D}, (List.replicate n (none : Option D))[j]? ≠ some (some y) := by
      intro j y h
      rw [List.getElem?_replicate] at h
      split at h <;> cases h
    have nt : ∀ (i : Nat) (m : M), (iniLaw n)[i]? ≠ some (some (.ot m)) := by
      intro i m e
      match i with
      | 0 => cases e
      | 1 => cases e
      | j + 2 => exact (none_of e).elim
    refine ⟨by simp [iniLaw], fun i y e => ?_, fun i j b ds es h1 h2 _ _ => ?_, T, Kq.refl _ _, .inl rfl, .inr (.inl rfl), ?_, fun b z => z.elim, ?_, (by intro q hq; cases hq), (by intro q hq; cases hq), fun p hp => .inr (.inr ⟨p, hp, rfl⟩), tb', ⟨fun _ => [], fun i m e => (nt i m e).elim, fun i j m n b h1 => (nt i m h1).elim⟩, fun b z => z.elim⟩
    · match i with
      | 0 => cases e
      | 1 => cases e; exact ⟨_, rfl, rfl⟩
      | j + 2 => exact (none_of e).elim
    · match i with
      | 0 => cases h1
      | 1 => cases h1
      | k + 2 => exact (none_of h1).elim
    · rintro b (rfl | rfl | ⟨p, hp, rfl⟩)
      · exact ⟨_, g1⟩
      · exact ⟨_, g3⟩
      · exact let ⟨ps, e⟩ := tb'.at hp; ⟨_, e⟩
    · rintro b (rfl | rfl | ⟨p, hp, rfl⟩)
      · exact ⟨_, g1⟩
      · exact ⟨_, g3⟩
      · exact let ⟨ps, e⟩ := tb'.at hp; ⟨_, e⟩
  · refine ⟨fun _ _ _ _ _ z => z.elim, fun v H2 x r hx => ?_, fun _ _ _ _ _ z => z.elim, fun _ _ _ _ _ z => z.elim⟩
    have hx : x = .p (.bool true) := hx
    subst hx
    have rr := r.rel
    cases rr
    exact q H2
end My
namespace My
open PySem PySem.Spec PyProof.Rows L2
variable [TB]
/-! ### a call that reads own lists and gives a flat thing -/
def D.view : D → Option D
  | .p d => some (.p d) | .nw ds => some (.p (.list ds)) | .own ds => some (.p (.list ds)) | .tape => some .tape | .ot m => some (.p m.dat) | .nt m => some (.p m.dat) | .fv _ _ => none
def viewAll : List D → Option (List D)
  | [] => some []
  | x :: xs => match x.view, viewAll xs with
    | some d, some ds => some (d :: ds)
    | _, _ => none
def dCallV (n : Nat) (S : SpD) (t : TAD) : TED := fun ρ Q => t ρ fun xs => ∃ ys, viewAll xs = some ys ∧ ys.length = n ∧ S ys fun x => ∃ d, x = .p d ∧ fl d = true ∧ Q (.p d)
theorem dt_flat {H H' : Hp} {v : V} {d : PyData} (h : Dt H v d) (f : fl d = true) : Dt H' v d := by
  cases h with
  | non => exact .non
  | bl b => exact .bl b
  | int i => exact .int i
  | str z => exact .str z
  | tup h1 h2 => cases f
  | lst h1 h2 => cases f
  | dic h1 h2 h3 h4 => cases f
section
variable {K : PySem.W.Frag}
theorem up_callV {n : Nat} {S : SpD} {t : TAD} : ∀ σ H Q, up K (dCallV n S t) σ H Q → tCall (spU K n S) [] E0 (upA K t) σ H Q := by
  rintro σ H Q ⟨C, ρ, Qd, R, h, post⟩
  refine ⟨C, ρ, _, R, h, fun vs H1 xs R1 k1 e => ?_⟩
  rintro ⟨ys, ha, hn, hs⟩
  show spU K n S (vs ++ []) H1 Q E0
  rw [List.append_nil]
  -- what the callee may not touch: all but what it looks at
  have sub : ∀ b, (C.S0 b ∨ C.F b) → bad C ρ σ b := fun b z => z.elim (fun z => .inl z) fun z => .inr (.inl z)
  refine ⟨C.t, fun b => C.S0 b ∨ C.F b, ys, _, R1.tp, R1.tab, .inl R1.s1, .inl R1.s2, fun p hp => .inl (R1.s3 p hp), fun b hb => R1.badL (sub b hb), ?_, hn, hs, ?_⟩
  · have m1 : Same (wo (bad C ρ σ) H1) (wo (fun b => C.S0 b ∨ C.F b) H1) := wo_mono sub fun _ _ _ e => e
    have own_ok : ∀ (v : V) (ds : List PyData), RelE C ρ σ H H1 v (.own ds) → Dt (wo (fun b => C.S0 b ∨ C.F b) H1) v (.list ds) := fun v ds h => by
      obtain ⟨i, f1, f2⟩ := h
      obtain ⟨w, g1, p, us, rfl, g2, g3, g4, g5⟩ := R1.val i _ f1
      rw [f2] at g1; cases g1
      refine .lst (wo_mk (fun z => ?_) g2) (DtAll.mono m1 g3)
      rcases z with z | z
      · exact R1.s0n g4.1 z
      · exact g4.2 z
    have go : ∀ {vs : List V} {xs ys : List D}, Paired (RelE C ρ σ H H1) vs xs → viewAll xs = some ys → Paired (RelA C.t (fun b => C.S0 b ∨ C.F b) H1) vs ys := by
      intro vs xs
      induction xs generalizing vs with
      | nil => intro ys h e; cases h; cases e; exact .nil
      | cons x xs ih =>
        intro ys h e
        cases h with
        | cons h t =>
          unfold viewAll at e
          cases e1 : x.view with
          | none => simp [e1] at e
          | some d =>
            cases e2 : viewAll xs with
            | none => simp [e1, e2] at e
            | some ds =>
              simp [e1, e2] at e
              subst e
              refine .cons ?_ (ih t e2)
              cases x with
              | p d => cases e1; exact Dt.mono m1 h
              | own ds => cases e1; exact own_ok _ _ h
              | nw ds => cases e1; exact Dt.mono m1 (R.stOf h rfl)
              | tape => cases e1; exact h
              | ot m =>
                cases e1
                obtain ⟨f, h1, h2⟩ := R1.ofTree h
                refine h1.dt sub fun b hb z => ?_
                obtain ⟨_, g2, g3, _⟩ := R1.g0 b (h2 b hb)
                exact z.elim (R1.s0n g2) g3
              | nt m => cases e1; exact Dt.mono m1 (R.stOf h rfl)
              | fv f F => cases e1
    exact go e ha
  · rintro v H2 x T tb k r ⟨d, rfl, hf, q⟩
    exact post v H2 (.p d) (R1.step k T tb) (k1.trans k) (dt_flat r hf) q
end
section
variable {X : Cx} {n k : Nat} {ps : List Str} {S : SpD} {x : Str} {p pos : Pos} {e : Expr} {es : List Expr} {t : TAD}
theorem fe_callV (gd : X.A.guards = some []) (C : CalG X.prog X.w X.K X.mg X.base k x ps (spU X.K n S)) (hr : Room k X.A) (hg : Gl X x)
    (ha : FA X (e :: es) t) (hdb : (x == ("__debug__" : Str)) = false := by decide)
    (he : starEach (e :: es) X.env = (false, eval e X.env) :: starEach es X.env := by rfl)
    (hpl : (backTo pos (starEach es X.env)).any (·.1) = false := by rfl) :
    FE X (.Call (.Name x p) (e :: es) [] pos) (dCallV n S t) := (pe_calG gd C hr hg ha hdb he hpl).mo up_callV
end
end My
namespace My
open PySem PySem.Spec PyProof.Rows L2
variable [TB]
/-! ### the greatest, the least of a list of ints -/
def kMaxL (x : D) (Q : D → Prop) : Prop := match x.ls with
  | some ds => match intsOf ds with
    | some ns => 0 < ns.length ∧ ∀ m, m ∈ ns → (∀ y, y ∈ ns → y ≤ m) → Q (.p (.int m))
    | _ => False
  | _ => False
def kMinL (x : D) (Q : D → Prop) : Prop := match x.ls with
  | some ds => match intsOf ds with
    | some ns => 0 < ns.length ∧ ∀ m, m ∈ ns → (∀ y, y ∈ ns → m ≤ y) → Q (.p (.int m))
    | _ => False
  | _ => False
section
variable {X : Cx}
theorem bu_maxL (hc : X.calm = true) : BuU X (.builtin "max") (c1 kMaxL) := by
  refine ⟨_, cr_max hc, ?_⟩
  rintro C ρ σ H0 H vs xs Qd Q R k e0 h post
  cases xs with
  | nil => exact h.elim
  | cons x xs =>
    cases xs with
    | cons _ _ => exact h.elim
    | nil =>
      have h : kMaxL x Qd := h
      obtain ⟨v, rfl, e⟩ := p1 e0
      unfold kMaxL at h
      split at h
      · split at h
        · rename_i ds e1 _ ns e2
          obtain ⟨a, us, rfl, t1, d1⟩ := R.lstOf e e1
          rw [intsOf_eq e2] at d1
          rw [ints_dt d1] at t1
          exact ⟨a, ns, rfl, SqL.of t1, h.1, fun m h1 h2 => post _ H (.p (.int m)) R (Kq.refl _ _) (.int _) (h.2 m h1 h2)⟩
        · exact h.elim
      · exact h.elim
theorem bu_minL (hc : X.calm = true) : BuU X (.builtin "min") (c1 kMinL) := by
  refine ⟨_, cr_min hc, ?_⟩
  rintro C ρ σ H0 H vs xs Qd Q R k e0 h post
  cases xs with
  | nil => exact h.elim
  | cons x xs =>
    cases xs with
    | cons _ _ => exact h.elim
    | nil =>
      have h : kMinL x Qd := h
      obtain ⟨v, rfl, e⟩ := p1 e0
      unfold kMinL at h
      split at h
      · split at h
        · rename_i ds e1 _ ns e2
          obtain ⟨a, us, rfl, t1, d1⟩ := R.lstOf e e1
          rw [intsOf_eq e2] at d1
          rw [ints_dt d1] at t1
          exact ⟨a, ns, rfl, SqL.of t1, h.1, fun m h1 h2 => post _ H (.p (.int m)) R (Kq.refl _ _) (.int _) (h.2 m h1 h2)⟩
        · exact h.elim
      · exact h.elim
end
theorem intsOf_nat (l : List Nat) : intsOf (l.map fun i => PyData.int (i : Nat)) = some (l.map fun i => ((i : Nat) : Int)) := by
  rw [← intsOf_map, List.map_map]; rfl
end My
namespace My
open PySem PySem.Spec PyProof.Rows L2
section
variable {P : Program} {w : World} {K : PySem.W.Frag} {mg : Str → Option Value} {base : Heap} {X : CXT} {k : Nat} {f : Addr} {fd : FuncData} {ps : List Str} {sp sp2 : Sp}
/-- a promise that asks for less, of one that asks for more -/
theorem FnG.to (F : FnG P w K mg base X k f fd ps sp) (m : ∀ vs H Q E, sp2 vs H Q E → sp vs H Q E) : FnG P w K mg base X k f fd ps sp2 :=
  ⟨fun vs H Q E h => F.ln vs H Q E (m _ _ _ _ h), fun A o s H ar us vs Q E a b c d e q => F.go A o s H ar us vs Q E a b c d e (m _ _ _ _ q)⟩
/-- where no table is needed -/
theorem law_plain [T : TB] (hT : T.T = []) (F : FnG P w K mg base X k f fd ps (spLawT K)) : FnG P w K mg base X k f fd ps (spLaw K) :=
  F.to fun vs H Q E h => by
    obtain ⟨a, ns, h1, h2, h3, h4⟩ := h
    exact ⟨a, ns, h1, h2, h3, (fun p hp => by rw [hT] at hp; cases hp), h4⟩
end
end My
namespace My
open PySem PySem.Spec PyProof.Rows L2
variable [TB]

/-! ### lists of lists of one's own are made -/
/-- what is made becomes a tree -/
def D.mt : D → Option M
  | .p d => some (.leaf d) | .nw ds => some (.lst (ds.map .leaf)) | .nt m => some m | _ => none
section
variable {K : PySem.W.Frag} {C : Cd} {ρ : Ro} {σ : L2.St} {H H1 H2 H' : Hp} {v : V} {x : D} {m : M}
theorem RelMs.leaves {B : Addr → Prop} : ∀ {vs : List V} {ds : List PyData}, DtAll (wo B H) vs ds → RelMs H B vs (ds.map .leaf) []
  | _, _, .nil => .nil
  | _, _, .cons h t => by
    have := RelMs.cons (.leaf h) (RelMs.leaves t) (fun b hb => by cases hb)
    exact this
theorem RelE.mT (R : Rep K C ρ σ H) (e : RelE C ρ σ H H' v x) (hm : x.mt = some m) : ∃ f : List Addr, (∀ b ∈ f, H b = none) ∧ RelM H' (fun b => bad C ρ σ b ∨ b ∈ f) v m f := by
  cases x with
  | p d =>
    cases hm
    exact ⟨[], (fun b hb => by cases hb), .leaf (Dt.mono (wo_mono (fun b z => z.elim id fun y => by cases y) fun _ _ _ e => e) e)⟩
  | nw ds =>
    cases hm
    obtain ⟨p, vs, rfl, h1, h2, h3, h4⟩ := e
    refine ⟨[p], fun b hb => by rw [List.mem_singleton.mp hb]; exact h1, .lst h2 (RelMs.leaves (DtAll.mono (wo_mono (fun b z => z.elim .inl fun y => .inr (List.mem_singleton.mp y)) fun _ _ _ e => e) h3)) (by simp)⟩
  | nt m =>
    cases hm
    exact e
  | own ds => cases hm
  | tape => cases hm
  | ot m => cases hm
  | fv f F => cases hm
abbrev Cd.fl (C : Cd) (L : List Addr) : Cd := { C with F := fun b => C.F b ∨ b ∈ L }
theorem fl_nil : C.fl [] = C := by
  have : (fun b => C.F b ∨ b ∈ ([] : List Addr)) = C.F := funext fun b => propext ⟨fun z => z.elim id fun y => (by cases y), .inl⟩
  unfold Cd.fl
  rw [this]
theorem fl_at {p : Addr} {L : List Addr} : (C.fl L).at p = C.fl (p :: L) := by
  unfold Cd.fl Cd.at
  have : (fun b => (C.F b ∨ b ∈ L) ∨ b = p) = (fun b => C.F b ∨ b ∈ p :: L) := funext fun b => propext (by rw [List.mem_cons, or_assoc, or_comm (a := b ∈ L)])
  rw [this]
theorem fl_in {p : Addr} {L : List Addr} (h : p ∈ L) : (C.fl L).at p = C.fl L := by
  unfold Cd.fl Cd.at
  have : (fun b => (C.F b ∨ b ∈ L) ∨ b = p) = (fun b => C.F b ∨ b ∈ L) := funext fun b => propext ⟨fun z => z.elim id fun y => .inr (y ▸ h), .inl⟩
  rw [this]
theorem fl_fl {L N : List Addr} : (C.fl L).fl N = C.fl (L ++ N) := by
  unfold Cd.fl
  have : (fun b => (C.F b ∨ b ∈ L) ∨ b ∈ N) = (fun b => C.F b ∨ b ∈ L ++ N) := funext fun b => propext (by rw [List.mem_append, or_assoc])
  rw [this]
theorem bad_fl {L : List Addr} {b : Addr} : bad (C.fl L) ρ σ b ↔ bad C ρ σ b ∨ b ∈ L := by
  constructor
  · rintro (z | (z | z) | z | z)
    · exact .inl (.inl z)
    · exact .inl (.inr (.inl z))
    · exact .inr z
    · exact .inl (.inr (.inr (.inl z)))
    · exact .inl (.inr (.inr (.inr z)))
  · rintro ((z | z | z | z) | z)
    · exact .inl z
    · exact .inr (.inl (.inl z))
    · exact .inr (.inr (.inl z))
    · exact .inr (.inr (.inr z))
    · exact .inr (.inl (.inr z))
/-- new places are set apart -/
theorem Rep.fadd {L : List Addr} (R0 : Rep K C ρ σ H) (R : Rep K C ρ σ H') (k : Kq C.t H H') (hf : ∀ b ∈ L, H b = none) (hs : ∀ b ∈ L, ∃ o, H' b = some o) : Rep K (C.fl L) ρ σ H' := by
  have s : Same (wo (bad C ρ σ) H) (wo (bad (C.fl L) ρ σ) H') := fun a u e => by
    obtain ⟨f1, f2⟩ := wo_of e
    exact wo_mk (fun z => (bad_fl.mp z).elim f1 fun y => by rw [hf a y] at f2; cases f2) (k a u (R0.nxb f1) f2)
  have nl : ∀ b, b ∈ L → C.H0 b = none := fun b hb => R0.h0n (hf b hb)
  refine ⟨R.len, fun j y e => ?_, R.dis, R.tp, R.ext, R.s1, R.s2, R.s0, fun b hb => hb.elim (R.f0 b) (hs b), R.s00, fun q hq => Dt.mono s (R0.pin q hq), R.tin, R.s3, R.tab, ?_, fun b hb => ?_⟩
  · obtain ⟨w, g1, g2⟩ := R0.val j y e
    refine ⟨w, g1, ?_⟩
    cases y with
    | own ds =>
      obtain ⟨q, us, rfl, h3, h4, h5, h6⟩ := g2
      exact ⟨q, us, rfl, k q _ (R0.ownX h5.1).1 h3, DtAll.mono s h4, ⟨h5.1, fun z => z.elim h5.2 fun y => by rw [hf q y] at h3; cases h3⟩, h6⟩
    | p d => exact Dt.mono s g2
    | nw ds => exact g2
    | tape => exact g2
    | ot m => exact g2
    | nt m => exact g2
    | fv f F => exact ⟨g2.1, s _ _ g2.2.1, s _ _ g2.2.2⟩
  · obtain ⟨φ, T⟩ := R0.tre
    exact ⟨φ, T.mono s (fun b o hb e => k b o (R0.ownX (R0.g0 b hb).2.1).1 e) fun _ z => z⟩
  · obtain ⟨g1, g2, g3, g4⟩ := R.g0 b hb
    refine ⟨g1, g2, fun z => z.elim g3 fun y => ?_, g4⟩
    obtain ⟨o, e⟩ := (R0.g0 b hb).1
    rw [hf b y] at e; cases e
theorem Rep.unfl : ∀ {L : List Addr}, Rep K (C.fl L) ρ σ H → Rep K C ρ σ H
  | [], R => by rw [fl_nil] at R; exact R
  | p :: L, R => by rw [← fl_at] at R; exact Rep.unfl R.shut
theorem RelMs.snoc {B : Addr → Prop} {w : V} {n : M} {g : List Addr} (h2 : RelM H B w n g) : ∀ {vs : List V} {ms : List M} {f : List Addr}, RelMs H B vs ms f → (∀ b ∈ f, b ∉ g) → RelMs H B (vs ++ [w]) (ms ++ [n]) (f ++ g)
  | _, _, _, .nil, _ => by
    have := RelMs.cons h2 .nil (fun b _ hb => by cases hb)
    rw [List.append_nil] at this
    exact this
  | _, _, _, .cons h t d, hd => by
    rw [List.append_assoc]
    exact .cons h (RelMs.snoc h2 t fun b hb => hd b (List.mem_append_right _ hb)) fun b hb hc => by
      rcases List.mem_append.mp hc with hc | hc
      · exact d b hb hc
      · exact hd b (List.mem_append_left _ hb) hc
end
def lcM (el : ItD → (Option M → Prop) → Prop) : List ItD → List M → (List M → Prop) → Prop
  | [], acc, Q => Q acc
  | x :: xs, acc, Q => el x fun o => match o with
    | none => lcM el xs acc Q
    | some d => acc.length < sizeLine ∧ lcM el xs (acc ++ [d]) Q
def elM (g : TGD) (tt : TTD) (te : TED) (x : ItD) (ρ : Ro) (K : Option M → Prop) : Prop := g x ρ fun ρ2 => tt ρ2 fun b => if b = true then te ρ2 fun y => ∃ m, y.mt = some m ∧ K (some m) else K none
/-- a comprehension whose items are new lists -/
def dLcT (ti : TID) (g : TGD) (tt : TTD) (te : TED) (vs : List Nat) : TED := fun ρ Q => ti ρ fun items => lcM (fun x K => elM g tt te x (dWipe ρ vs) K) items [] fun acc => Q (.nt (.lst acc))
section
variable {K : PySem.W.Frag} {C : Cd} {ρ : Ro} {σ : L2.St} {H H1 H2 H' : Hp}
theorem up_lcT {ti : TID} {l : List Nat} {g : TGD} {tt : TTD} {te : TED} {vs : List Nat} (hl : ∀ j ∈ l, j ∈ vs) : ∀ σ H Q, up K (dLcT ti g tt te vs) σ H Q → tLc (upI K ti) (upG K l g) (upT K tt) (up K te) vs σ H Q := by
  rintro σ H Q ⟨C, ρ, Qd, R, h, post⟩
  refine ⟨C, ρ, _, R, h, ?_⟩
  rintro J H1 items pins R1 k1 wk q D hD
  have hD0 : H D = none := k1.free (R1.t1 hD) hD
  have hH0 : C.H0 D = none := R.h0n hD0
  refine ⟨fun i m Hc => m = items.length - i ∧ i ≤ items.length ∧ Kq C.t H1 Hc ∧ ∃ acc us f, Rep K ((C.add pins).fl (D :: f)) ρ σ Hc ∧ Hc D = some (.lst us) ∧ RelMs Hc (fun b => bad C ρ σ b ∨ b ∈ D :: f) us acc f ∧ D ∉ f ∧ (∀ b ∈ f, H b = none) ∧
      acc.length ≤ sizeLine ∧ lcM (fun x K => elM g tt te x (dWipe ρ vs) K) (items.drop i) acc fun acc => Qd (.nt (.lst acc)),
    ⟨_, rfl, Nat.zero_le _, Kq.new hD, [], [], [], ?_, upd_same, .nil, by simp, by simp, Nat.zero_le _, by simpa using q⟩, ?_⟩
  · have := R1.open hD (o := .lst [])
    rw [show (C.add pins).at D = (C.add pins).fl [D] by rw [← fl_at, fl_nil]] at this
    exact this
  rintro i m Hc ⟨rfl, hi, kc, acc, us, f, RD, hDc, hacc, nf, fn, hz, q⟩
  have bdl : ∀ b, bad ((C.add pins).fl (D :: f)) ρ σ b ↔ bad C ρ σ b ∨ b ∈ D :: f := fun b => bad_fl
  by_cases hlt : i < items.length
  · right
    rw [List.drop_eq_getElem_cons hlt] at q
    obtain ⟨go, hy⟩ := wk.go ((C.add pins).fl (D :: f)) ρ σ Hc i _ rfl (has_add pins) RD (List.getElem?_eq_getElem hlt)
    refine ⟨go, fun H' => i < items.length ∧ Kq C.t H1 H' ∧ ∃ acc us f, Rep K ((C.add pins).fl (D :: f)) ρ σ H' ∧ H' D = some (.lst us) ∧ RelMs H' (fun b => bad C ρ σ b ∨ b ∈ D :: f) us acc f ∧ D ∉ f ∧ (∀ b ∈ f, H b = none) ∧
      acc.length ≤ sizeLine ∧ lcM (fun x K => elM g tt te x (dWipe ρ vs) K) (items.drop (i + 1)) acc fun acc => Qd (.nt (.lst acc)), ?_, ?_⟩
    · rintro H' ⟨h1, h2, h3⟩
      exact ⟨items.length - (i + 1), by omega, rfl, h1, h2, h3⟩
    · intro x H' y
      obtain ⟨k2, R2, r2⟩ := hy x H' y
      have k2 : Kq C.t Hc H' := k2
      have R2w := R2.wiped vs
      have s0 : Same (wo (bad ((C.add pins).fl (D :: f)) ρ σ) H') (wo (bad (((C.add pins).fl (D :: f)).wp ρ σ vs) (dWipe ρ vs) (wipe σ vs)) H') := wo_mono (fun _ z => bad_wp.mp z) fun _ _ _ e => e
      have rI : RelI K (((C.add pins).fl (D :: f)).wp ρ σ vs) (dWipe ρ vs) (wipe σ vs) H' x items[i] := by
        revert r2
        generalize items[i] = z
        intro r2
        cases z with
        | one d => exact Dt.mono s0 r2
        | two d e =>
          obtain ⟨T, v1, v2, e1, e2, e3, e4⟩ := r2
          exact ⟨T, v1, v2, e1, e2, Dt.mono s0 e3, Dt.mono s0 e4⟩
      refine ⟨((C.add pins).fl (D :: f)).wp ρ σ vs, dWipe ρ vs, items[i], _, R2w, rI, q, fun ρ2 σ2 R3 a3 s3 q3 => ⟨wipe_agr a3.1 hl, ?_⟩⟩
      refine ⟨((C.add pins).fl (D :: f)).wp ρ σ vs, ρ2, _, R3, q3, fun b H3 R4 k4 q4 => ?_⟩
      have k4 : Kq C.t H' H3 := k4
      have nDt : nx C.t D := R1.t1 hD
      have nft : ∀ b ∈ f, nx C.t b := fun b hb => R.t1 (fn b hb)
      have bw : ∀ b, bad ((C.add pins).fl (D :: f)) ρ σ b → bad (((C.add pins).fl (D :: f)).wp ρ σ vs) ρ2 σ2 b := fun b z => by
        rcases (bad_wp (C := (C.add pins).fl (D :: f)) (vs := vs)).mpr z with z | z | ⟨j, ds, f1, f2⟩ | z
        · exact .inl z
        · exact .inr (.inl z)
        · have nj := (dWipe_some f1).2
          exact .inr (.inr (.inl ⟨j, ds, by rw [a3.2.2 j (fun z => nj (hl j z))]; exact f1, by rw [a3.1.2 j (fun z => nj (hl j z))]; exact f2⟩))
        · exact .inr (.inr (.inr z))
      cases b with
      | false =>
        rw [if_neg Bool.false_ne_true] at q4
        show (if false = true then _ else _)
        rw [if_neg Bool.false_ne_true]
        have k : Kq C.t Hc H3 := k2.trans k4
        have RD' := RD.step (C := (C.add pins).fl (D :: f)) k R4.tp R4.tab
        refine ⟨hlt, kc.trans k, acc, us, f, RD', k D _ nDt hDc, hacc.mono ?_ (fun b hb o e => k b o (nft b hb) e), nf, fn, hz, q4⟩
        exact wo_mono (fun _ z => z) fun a o n e => k a o (RD.nxb fun z => n ((bdl a).mp z)) e
      | true =>
        rw [if_pos rfl] at q4
        show (if true = true then _ else _)
        rw [if_pos rfl]
        refine ⟨((C.add pins).fl (D :: f)).wp ρ σ vs, ρ2, _, R4, q4, ?_⟩
        rintro v H4 y R5 k5 e5 ⟨d, hd, hz', q5⟩
        have k5 : Kq C.t H3 H4 := k5
        have k : Kq C.t Hc H4 := (k2.trans k4).trans k5
        have RD' := RD.step (C := (C.add pins).fl (D :: f)) k R5.tp R5.tab
        obtain ⟨gg, gn, gm⟩ := e5.mT R4 hd
        have hD4 : H4 D = some (.lst us) := k D _ nDt hDc
        -- the new places
        have gn0 : ∀ b ∈ gg, Hc b = none := fun b hb => (k2.trans k4).free (R4.t1 (gn b hb)) (gn b hb)
        have gn1 : ∀ b ∈ gg, H b = none := fun b hb => (k1.trans kc).free (R.tab.nx R.tp ((k1.trans kc).free (RD.t1 (gn0 b hb)) (gn0 b hb))) (gn0 b hb)
        have gf : ∀ b ∈ gg, b ≠ D ∧ b ∉ f := fun b hb => ⟨fun z => (by rw [← z, gn0 b hb] at hDc; cases hDc), fun z => by
          obtain ⟨o, e⟩ := hacc.some b z
          rw [gn0 b hb] at e; cases e⟩
        have hR0 := RD.fadd RD' k gn0 (fun b hb => gm.some b hb)
        rw [fl_fl, List.cons_append] at hR0
        have n1 : ¬ ownAt ρ σ D := by
          rintro ⟨j, ds, f1, f2⟩
          obtain ⟨w, g1, p, ws, rfl, g3, g4, g5, g6⟩ := RD'.val j _ f1
          rw [f2] at g1
          cases g1
          exact g5.2 (.inr List.mem_cons_self)
        have n0 : ¬ C.S0 D := R.s0n hH0
        have n3 : D ≠ C.t.2 := fun z => n0 (z ▸ R.s2)
        have inn : D ∈ D :: (f ++ gg) := List.mem_cons_self
        rw [← fl_in (C := C.add pins) inn] at hR0
        have hR : Rep K (((C.add pins).fl (D :: (f ++ gg))).at D) ρ σ (upd H4 D (.lst (us ++ [v]))) := Rep.grow (C := (C.add pins).fl (D :: (f ++ gg))) hR0 hD4 (fun _ _ z => by cases z) (fun c q => by rw [hD4]; exact fun z => lst_code (Option.some.inj z)) n0 n1 nDt n3 hH0
        rw [fl_in (C := C.add pins) inn] at hR
        have eD : ∀ {a : Addr} {o : HO}, a ≠ D → H4 a = some o → upd H4 D (.lst (us ++ [v])) a = some o := fun n e => by rw [upd_ne n]; exact e
        have hm1 : RelMs (upd H4 D (.lst (us ++ [v]))) (fun b => bad C ρ σ b ∨ b ∈ D :: (f ++ gg)) us acc f := by
          refine hacc.mono (fun a o e => ?_) (fun b hb o e => eD (fun z => nf (z ▸ hb)) (k b o (nft b hb) e))
          obtain ⟨f1, f2⟩ := wo_of e
          refine wo_mk (fun z => ?_) (eD (fun z => f1 (.inr (z ▸ List.mem_cons_self))) (k a o (RD.nxb fun z => f1 ((bdl a).mp z)) f2))
          rcases z with z | z
          · exact f1 (.inl z)
          · rcases List.mem_cons.mp z with z | z
            · exact f1 (.inr (z ▸ List.mem_cons_self))
            · rcases List.mem_append.mp z with z | z
              · exact f1 (.inr (List.mem_cons_of_mem _ z))
              · rw [gn0 a z] at f2; cases f2
        have hm2 : RelM (upd H4 D (.lst (us ++ [v]))) (fun b => bad C ρ σ b ∨ b ∈ D :: (f ++ gg)) v d gg := by
          refine gm.mono (fun a o e => ?_) (fun b hb o e => eD (gf b hb).1 e)
          obtain ⟨f1, f2⟩ := wo_of e
          refine wo_mk (fun z => f1 ?_) (eD (fun z => f1 (.inl (bw a ((bdl a).mpr (.inr (z ▸ List.mem_cons_self)))))) f2)
          rcases z with z | z
          · exact .inl (bw a ((bdl a).mpr (.inl z)))
          · rcases List.mem_cons.mp z with z | z
            · exact .inl (bw a ((bdl a).mpr (.inr (z ▸ List.mem_cons_self))))
            · rcases List.mem_append.mp z with z | z
              · exact .inl (bw a ((bdl a).mpr (.inr (List.mem_cons_of_mem _ z))))
              · exact .inr z
        refine ⟨us, hD4, by rw [hacc.len]; exact hz', hlt, fun b o nb e => ?_, acc ++ [d], us ++ [v], f ++ gg, hR, upd_same, hm1.snoc hm2 (fun b hb hc => (gf b hc).2 hb), ?_, ?_, by simp; omega, q5⟩
        · rw [upd_ne (ne_of_none e hD)]
          exact (kc.trans k) b o nb e
        · intro z
          rcases List.mem_append.mp z with z | z
          · exact nf z
          · exact (gf D z).1 rfl
        · intro b hb
          rcases List.mem_append.mp hb with z | z
          · exact fn b z
          · exact gn1 b z
  · left
    have e : i = items.length := by omega
    subst e
    rw [List.drop_length] at q
    refine ⟨wk.stop ((C.add pins).fl (D :: f)) ρ σ Hc rfl (has_add pins) RD, post (.ref D) Hc (.nt (.lst acc)) RD.unfl.unpin (k1.trans kc) ⟨D :: f, ?_, .lst hDc hacc nf⟩ q⟩
    intro b hb
    rcases List.mem_cons.mp hb with z | z
    · rw [z]; exact hD0
    · exact fn b z
end
end My
namespace My
open PySem PySem.Spec PyProof.Rows L2
variable [TB]

/-! ### trees in slots -/
section
variable {K : PySem.W.Frag} {C : Cd} {ρ : Ro} {σ : L2.St} {H H1 H2 H' : Hp} {v : V} {x : D} {m : M}
/-- what a slot holds is forgotten -/
theorem Rep.setO (R : Rep K C ρ σ H) (i : Nat) (v : V) : Rep K C (ρ.set i none) (σ.set i (some v)) H := by
  have old : ∀ {j : Nat} {z : D}, (ρ.set i none)[j]? = some (some z) → i ≠ j ∧ ρ[j]? = some (some z) := fun {j z} e => by
    by_cases ij : i = j
    · subst ij
      rw [List.getElem?_set] at e
      simp only [if_true] at e
      split at e <;> cases e
    · rw [List.getElem?_set_ne ij] at e
      exact ⟨ij, e⟩
  have ow : ∀ {b : Addr}, ownAt (ρ.set i none) (σ.set i (some v)) b → ownAt ρ σ b := fun {b} ⟨j, ds, h1, h2⟩ => by
    obtain ⟨n, h1⟩ := old h1
    rw [List.getElem?_set_ne n] at h2
    exact ⟨j, ds, h1, h2⟩
  have bd : ∀ {b : Addr}, bad C (ρ.set i none) (σ.set i (some v)) b → bad C ρ σ b := fun {b} h => by
    rcases h with h | h | h | h
    · exact .inl h
    · exact .inr (.inl h)
    · exact .inr (.inr (.inl (ow h)))
    · exact .inr (.inr (.inr h))
  have s : Same (wo (bad C ρ σ) H) (wo (bad C (ρ.set i none) (σ.set i (some v))) H) := wo_mono (fun _ z => bd z) fun _ _ _ e => e
  refine ⟨by rw [List.length_set, List.length_set]; exact R.len, fun j z e => ?_, fun a b q ds es h1 h2 h3 h4 => ?_, R.tp, R.ext, R.s1, R.s2, R.s0, R.f0, R.s00, fun q hq => Dt.mono s (R.pin q hq), R.tin, R.s3, R.tab, ?_, fun b hb => ?_⟩
  · obtain ⟨ij, e⟩ := old e
    obtain ⟨w, h1, h2⟩ := R.val j z e
    exact ⟨w, by rw [List.getElem?_set_ne ij]; exact h1, h2.mono rfl (fun _ a b => .inl ⟨a, b⟩) s fun _ _ _ _ _ e => e⟩
  · obtain ⟨n1, h1⟩ := old h1
    obtain ⟨n2, h2⟩ := old h2
    rw [List.getElem?_set_ne n1] at h3
    rw [List.getElem?_set_ne n2] at h4
    exact R.dis a b q ds es h1 h2 h3 h4
  · obtain ⟨φ, T⟩ := R.tre
    refine ⟨φ, fun j m e => ?_, fun a b m n c h1 h2 => T.dis a b m n c (old h1).2 (old h2).2⟩
    obtain ⟨n1, e⟩ := old e
    obtain ⟨w, h1, h2, h3⟩ := T.rel j m e
    exact ⟨w, by rw [List.getElem?_set_ne n1]; exact h1, h2.mono s fun _ _ _ e => e, h3⟩
  · obtain ⟨h1, h2, h3, h4⟩ := R.g0 b hb
    exact ⟨h1, h2, h3, fun z => h4 (ow z)⟩
theorem rels_get {B : Addr → Prop} : ∀ {vs : List V} {ms : List M} {f : List Addr} {n : Nat} {m : M}, RelMs H B vs ms f → ms[n]? = some m → ∃ v g, vs[n]? = some v ∧ RelM H B v m g ∧ ∀ b ∈ g, b ∈ f
  | _, _, _, _, _, .nil, e => by simp at e
  | _, _, _, 0, _, .cons h t d, e => by
    simp at e; subst e
    exact ⟨_, _, rfl, h, fun b hb => List.mem_append_left _ hb⟩
  | _, _, _, n + 1, _, .cons h t d, e => by
    obtain ⟨v, g, h1, h2, h3⟩ := rels_get (n := n) t (by simpa using e)
    exact ⟨v, g, by simpa using h1, h2, fun b hb => List.mem_append_right _ (h3 b hb)⟩
/-- one of the things within is written anew, at its places -/
theorem rels_set {B : Addr → Prop} {H' : Hp} {m' : M} : ∀ {vs : List V} {ms : List M} {f : List Addr} {n : Nat} {m : M}, RelMs H B vs ms f → ms[n]? = some m →
    (∀ (v : V) (g : List Addr), vs[n]? = some v → RelM H B v m g → (∀ b ∈ g, b ∈ f) → RelM H' B v m' g ∧ ∀ b o, b ∉ g → H b = some o → H' b = some o) → (∀ b ∈ f, B b) → (∀ b o, ¬ B b → H b = some o → H' b = some o) → RelMs H' B vs (ms.set n m') f
  | _, _, _, _, _, .nil, e, _, _, _ => by simp at e
  | _, _, _, 0, _, .cons h t d, e, w, hb, k => by
    simp at e; subst e
    obtain ⟨h', kp⟩ := w _ _ rfl h fun b hb => List.mem_append_left _ hb
    exact .cons h' (t.mono (wo_mono (fun _ z => z) k) fun b hb o e => kp b o (fun z => d b z hb) e) d
  | _, _, _, n + 1, _, .cons (f := f1) (g := g1) h t d, e, w, hb, k => by
    have e : _ := (by simpa using e : _[n]? = some _)
    have := rels_set (n := n) t e (fun v g h1 h2 h3 => w v g (by simpa using h1) h2 fun b hb => List.mem_append_right _ (h3 b hb)) (fun b hx => hb b (List.mem_append_right _ hx)) k
    obtain ⟨v, g, q1, q2, q3⟩ := rels_get t e
    obtain ⟨_, kp⟩ := w v g (by simpa using q1) q2 fun b hb => List.mem_append_right _ (q3 b hb)
    refine .cons (h.mono (wo_mono (fun _ z => z) k) fun b hb o e => kp b o (fun z => d b hb (q3 b z)) e) this d
/-- a leaf is written anew -/
theorem rels_leaf {B : Addr → Prop} {w : V} {e' : PyData} (hw : Dt (wo B H) w e') : ∀ {vs : List V} {ms : List M} {f : List Addr} {k : Nat} {d : PyData}, RelMs H B vs ms f → ms[k]? = some (.leaf d) → RelMs H B (vs.set k w) (ms.set k (.leaf e')) f
  | _, _, _, _, _, .nil, e => by simp at e
  | _, _, _, 0, _, .cons h t d, e => by
    simp at e; subst e
    cases h
    exact .cons (.leaf hw) t d
  | _, _, _, k + 1, _, .cons h t d, e => .cons h (rels_leaf hw (k := k) t (by simpa using e)) d
end
def dSetT (i : Nat) (te : TED) : TSD := fun Dd ρ => te ρ fun x => ∃ m, x.mt = some m ∧ Dd.nx (ρ.set i (some (.ot m)))
def dFzT (i : Nat) (t : TSD) : TSD := fun Dd ρ => ∃ m, ρ[i]? = some (some (.ot m)) ∧ t Dd (ρ.set i (some (.p m.dat)))
/-- one of a list's own lists gets another name, at which it is written -/
def dAli (i j n k : Nat) (te : TED) (t : TSD) : TSD := fun Dd ρ => ∃ ms ns, ρ[i]? = some (some (.ot (.lst ms))) ∧ i ≠ j ∧ j < ρ.length ∧ ms[n]? = some (.lst ns) ∧ te (ρ.set j none) fun x => ∃ d d0, x.st = some d ∧ ns[k]? = some (.leaf d0) ∧
  t Dd ((ρ.set j none).set i (some (.ot (.lst (ms.set n (.lst (ns.set k (.leaf d))))))))
section
variable {X : Cx} {st st2 : Stmt} {sts : List Stmt} {t u : TSD}
theorem fs_setTM {i : Nat} {te : TED} {t0 : TE} (h : PS X st (tAsg t0 (gName i))) (m : ∀ σ H Q, up X.K te σ H Q → t0 σ H Q) : FS X st (dSetT i te) := by
  refine h.mo ?_
  rintro D σ H ⟨C, ρ, Dd, R, h, L⟩
  refine m _ _ _ ⟨C, ρ, _, R, h, ?_⟩
  rintro v H1 x R1 k e ⟨n, hm, q⟩
  obtain ⟨f, h1, h2⟩ := e.mT R hm
  exact (L.gg _).nx _ _ _ (R.setT R1 k i h1 h2) q
theorem fs_setT {i : Nat} {te : TED} (h : PS X st (tAsg (up X.K te) (gName i))) : FS X st (dSetT i te) := fs_setTM h fun _ _ _ q => q
theorem fss_fzT (i : Nat) (h : FSs X sts t) : FSs X sts (dFzT i t) := by
  refine PSs.mo h ?_
  rintro D σ H ⟨C, ρ, Dd, R, ⟨m, e, h⟩, L⟩
  obtain ⟨G, R'⟩ := R.frzT e
  exact ⟨C.gg G, _, Dd, R', h, L.gg G⟩
theorem fs_setLcT {i : Nat} {y : Str} {py : Pos} {elt tg iter : Expr} {ifs : List Expr} {scope : Scope} {own : List (Str × Nat)} {spos : Pos} {ti : TID} {l : List Nat} {g : TGD} {tt : TTD} {te : TED} (hc : X.calm = true) (hN : X.N.Nodup) (hy : X.N[i]? = some y) (hyl : X.env.scope.names.lookup y = some .local)
    (hsw : swapsWith (.ListComp elt [⟨tg, iter, ifs, 0⟩] scope pos) (some (.Name y py)) spos.line X.env = pure true) (hi : FI X tg iter ti) (ok : BlkOk X.N X.env.scope scope own)
    (hg : ∀ (s : Shared) (H : Hp) (C : Addr) (cl : List (Str × Addr)) (fp : List Addr), FG (X.blk s H scope (compEnvC scope cl C X.env) fp) tg l g) (ht : ∀ (s : Shared) (H : Hp) (C : Addr) (cl : List (Str × Addr)) (fp : List Addr), FTs (X.blk s H scope (compEnvC scope cl C X.env) fp) ifs tt)
    (he : ∀ (s : Shared) (H : Hp) (C : Addr) (cl : List (Str × Addr)) (fp : List Addr), FE (X.blk s H scope (compEnvC scope cl C X.env) fp) elt te) (hl : ∀ j ∈ l, j ∈ own.map (·.2)) (hs : ∀ x, foldedSetIterable iter X.env x = pure x := by intro _; rfl) :
    FS X (.Assign [.Name y py] (.ListComp elt [⟨tg, iter, ifs, 0⟩] scope pos) spos) (dSetT i (dLcT ti g tt te (own.map (·.2)))) :=
  fs_setTM (ps_setLc hc hN hy hyl hsw hi ok hg ht he hs) (up_lcT hl)
theorem fe_lcT {elt tg iter : Expr} {ifs : List Expr} {scope : Scope} {own : List (Str × Nat)} {ti : TID} {l : List Nat} {g : TGD} {tt : TTD} {te : TED} (hc : X.calm = true) (hN : X.N.Nodup) (hi : FI X tg iter ti) (ok : BlkOk X.N X.env.scope scope own)
    (hg : ∀ (s : Shared) (H : Hp) (C : Addr) (cl : List (Str × Addr)) (fp : List Addr), FG (X.blk s H scope (compEnvC scope cl C X.env) fp) tg l g) (ht : ∀ (s : Shared) (H : Hp) (C : Addr) (cl : List (Str × Addr)) (fp : List Addr), FTs (X.blk s H scope (compEnvC scope cl C X.env) fp) ifs tt)
    (he : ∀ (s : Shared) (H : Hp) (C : Addr) (cl : List (Str × Addr)) (fp : List Addr), FE (X.blk s H scope (compEnvC scope cl C X.env) fp) elt te) (hl : ∀ j ∈ l, j ∈ own.map (·.2)) (hs : ∀ x, foldedSetIterable iter X.env x = pure x := by intro _; rfl) :
    FE X (.ListComp elt [⟨tg, iter, ifs, 0⟩] scope pos) (dLcT ti g tt te (own.map (·.2))) :=
  (pe_lc hc hN hi ok hg ht he hs).mo (up_lcT hl)
theorem fss_ali {i j n k : Nat} {te : TED} (h1 : PS X st (tAsg (tOp (rIxL X.K) (tVar i) (tC (.int n))) (gName j))) (h2 : PS X st2 (tAsg (up X.K te) (gSub (tVar j) (tC (.int k)) rSetL))) (h : FSs X sts t) : FSs X (st :: st2 :: sts) (dAli i j n k te t) := by
  refine PSs.mo (pss_cons h1 (pss_cons h2 h)) ?_
  rintro D σ H ⟨C, ρ, Dd, R, ⟨ms, ns, e, ij, jl, en, h⟩, L⟩
  have jl : j < σ.length := by rw [← R.len]; exact jl
  obtain ⟨φ, T⟩ := R.tre
  obtain ⟨w, g1, g2, g3⟩ := T.rel i _ e
  obtain ⟨p, vs, f, rfl, hp, hs, nf, ef⟩ : ∃ p vs f, w = .ref p ∧ H p = some (.lst vs) ∧ RelMs H (bad C ρ σ) vs ms f ∧ p ∉ f ∧ φ i = p :: f := by
    generalize φ i = ff at g2
    cases g2 with
    | lst hp hs nf => exact ⟨_, _, _, rfl, hp, hs, nf, rfl⟩
  obtain ⟨v, g, q1, q2, q3⟩ := rels_get hs en
  cases q2 with
  | lst hp2 hs2 nf2 =>
    rename_i p2 vs2 f2
    have gp : C.G p := g3 p (by rw [ef]; exact List.mem_cons_self)
    have gp2 : C.G p2 := g3 p2 (by rw [ef]; exact List.mem_cons_of_mem _ (q3 p2 List.mem_cons_self))
    refine ⟨.ref p, g1, p, vs, n, .ref p2, rfl, rfl, SqL.of hp, atI_nat q1, ?_⟩
    have R0 := R.setO j (.ref p2)
    refine ⟨C, _, _, R0, h, ?_⟩
    rintro v3 H1 x R1 k1 e1 ⟨d, d0, hd, hk, q⟩
    have hd3 := R0.stOf e1 hd
    have p1 : H1 p = some (.lst vs) := k1 p _ (R.ownX (R.g0 p gp).2.1).1 hp
    have p21 : H1 p2 = some (.lst vs2) := k1 p2 _ (R.ownX (R.g0 p2 gp2).2.1).1 hp2
    have hk2 : k < vs2.length := by rw [hs2.len]; exact (List.getElem?_eq_some_iff.mp hk).1
    refine ⟨.ref p2, by rw [List.getElem?_set_self jl], p2, vs2, k, k, rfl, rfl, p21, ?_, ?_⟩
    · unfold ixN
      rw [if_pos (by omega), if_pos (by omega)]
      rfl
    refine ⟨C, _, Dd, R1.putT (i := i) (m := .lst ms) (p := p2) (v := .ref p) (by rw [List.getElem?_set_ne (fun z => ij z.symm)]; exact e) (by rw [List.getElem?_set_ne (fun z => ij z.symm)]; exact g1) (fun c q z => by rw [p21] at z; exact lst_code (Option.some.inj z)) (fun u xs z => by rw [p21] at z; cases z) ?_, q, L⟩
    intro ff hr hg
    cases hr with
    | lst hp' hs' nf' =>
      rename_i vs' f'
      rw [p1] at hp'; cases hp'
      obtain ⟨v', g', r1, r2, r3⟩ := rels_get hs' en
      rw [q1] at r1; cases r1
      have inn : p2 ∈ f' := by
        cases r2 with
        | lst a b c => exact r3 _ List.mem_cons_self
      have ne : p ≠ p2 := fun z => nf' (z ▸ inn)
      refine ⟨List.mem_cons_of_mem _ inn, .lst (by rw [upd_ne ne]; exact p1) ?_ nf'⟩
      refine rels_set hs' en (fun v4 g4 s1 s2 s3 => ?_) (fun b hb => .inr (.inr (.inr (hg b (List.mem_cons_of_mem _ hb))))) fun b o nb ho => by rw [upd_ne (fun z => nb (by rw [z]; exact .inr (.inr (.inr gp2))))]; exact ho
      rw [q1] at s1; cases s1
      cases s2 with
      | lst t1 t2 t3 =>
        rename_i vs3 f3
        rw [p21] at t1; cases t1
        refine ⟨.lst upd_same ?_ t3, fun b o nb ho => by rw [upd_ne (fun z => nb (by rw [z]; exact List.mem_cons_self))]; exact ho⟩
        refine (rels_leaf hd3 t2 hk).mono (wo_mono (fun _ z => z) fun b o nb ho => by rw [upd_ne (fun z => nb (by rw [z]; exact .inr (.inr (.inr gp2))))]; exact ho) fun b hb o ho => by rw [upd_ne (fun z => t3 (by rw [← z]; exact hb))]; exact ho
end
end My
namespace My
open PySem PySem.Spec PyProof.Rows L2
/-! ### the rules of dicts, by values -/
def rDIn (w : World) (neg : Bool) : R2 := fun y x H Q => ∃ a kvs k, x = .ref a ∧ H a = some (DicO w a kvs) ∧ UniK H kvs y k ∧ Q (.bl (if neg = true then !(fnd kvs k).isSome else (fnd kvs k).isSome)) H
def rDIx (w : World) : R2 := fun x y H Q => ∃ a kvs k v, x = .ref a ∧ H a = some (DicO w a kvs) ∧ UniK H kvs y k ∧ fnd kvs k = some v ∧ Q v H
def rDSet (w : World) : V → V → V → Hp → (Hp → Prop) → Prop := fun o i v H Q => ∃ a kvs k, o = .ref a ∧ H a = some (DicO w a kvs) ∧ UniK H kvs i k ∧ kvs.length < sizeLine ∧ ((kvs.map (·.1)).Nodup → Q (upd H a (DicO w a (putD kvs k i v))))
def rDGet (w : World) : V → List V → Hp → VK → Prop := fun x xs H Q => ∃ a kvs k y, x = .ref a ∧ H a = some (DicO w a kvs) ∧ UniK H kvs y k ∧ ((xs = [y] ∧ Q ((fnd kvs k).getD .non) H) ∨ ∃ d, xs = [y, d] ∧ Q ((fnd kvs k).getD d) H)
section
variable {X : Cx}
theorem op_dIn (hu : X.A.units + 9 < cLine) : OpR X (compareOp .In) (rDIn X.w false) := by
  intro pins s σ H x y v u Q I rx ry h
  obtain ⟨a, kvs, k, rfl, e, U, q⟩ := h
  cases ry
  exact dc_in hu I e U rx fun s' I' => ⟨.bl _, H, I', rfl, q⟩
theorem op_dNotIn (hu : X.A.units + 9 < cLine) : OpR X (compareOp .NotIn) (rDIn X.w true) := by
  intro pins s σ H x y v u Q I rx ry h
  obtain ⟨a, kvs, k, rfl, e, U, q⟩ := h
  cases ry
  exact dc_notIn hu I e U rx fun s' I' => ⟨.bl _, H, I', rfl, q⟩
theorem set_dic (hu : X.A.units + 9 < cLine) : PSet X (rDSet X.w) := by
  intro pins s σ H o i v ov iv u Q I ro ri rv h
  obtain ⟨a, kvs, k, rfl, e, U, hl, q⟩ := h
  cases ro
  exact dc_set hu I e U hl ri rv fun s' I' => ⟨_, I', q (dc_raw I e).n⟩
theorem mt_dget (hu : X.A.units + 9 < cLine) : MtM X "dict.get" (rDGet X.w) := by
  intro pins s σ H x xs v us Q I rx rs h
  obtain ⟨a, kvs, k, y, rfl, e, U, h⟩ := h
  cases rx
  rcases h with ⟨rfl, q⟩ | ⟨d, rfl, q⟩
  · cases rs with
    | cons r1 rs =>
      cases rs
      exact dc_get1 hu I e U r1 fun w' s' I' rw' => ⟨_, H, I', rw', q⟩
  · cases rs with
    | cons r1 rs =>
      cases rs with
      | cons r2 rs =>
        cases rs
        exact dc_get2 hu I e U r1 r2 fun w' s' I' rw' => ⟨_, H, I', rw', q⟩
/-- d[y] -/
theorem pe_dix {o i : Expr} {td ty : TE} {pos : Pos} (hu : X.A.units + 9 < cLine) (ho : PE X o td) (hi : PE X i ty) (hs : NoSl i) : PE X (.Subscript o i pos) (tOp (rDIx X.w) td ty) := by
  constructor
  intro pins s σ H Q I h
  refine subD_of PySem.F.slot_dict_getitem.lookup hs (thn (ho.run pins s σ H _ I h) ?_)
  rintro u s1 ⟨x, H1, I1, rx, q1⟩
  refine thn (hi.run pins s1 σ H1 _ I1 q1) ?_
  rintro iv s2 ⟨y, H2, I2, ry, a, kvs, k, v, rfl, e, U, g, q2⟩
  cases rx
  exact ⟨(dc_raw I2 e).typeIs, dc_get hu I2 e U g ry fun w' s3 I3 rw' => ⟨v, H2, I3, rw', q2⟩⟩
/-- d.m(..) -/
def tDM (w : World) (r : V → List V → Hp → VK → Prop) (to : TE) (t : TA) : TE := fun σ H Q => to σ H fun x H1 => (∃ a kvs, x = .ref a ∧ H1 a = some (DicO w a kvs)) ∧ t σ H1 fun xs H2 => r x xs H2 Q
theorem pe_dm {o e : Expr} {es : List Expr} {name : Str} {id : String} {r : V → List V → Hp → VK → Prop} {to : TE} {t : TA} {apos cpos : Pos} (slot : Slot "dict" name id) (hty : typeOf (.builtin id) = pure (.type "method_descriptor")) (hm : MtM X id r) (ho : PE X o to) (ha : PA X (e :: es) t)
    (hbase : attributeBase o name X.env (eval o X.env) = eval o X.env := by rfl)
    (hfw : ((backTo cpos (starEach (e :: es) X.env)).all (fun x => !x.1) && (backToKw cpos (keywordEach [] X.env)).all (fun x => x.1.isSome) && decide
      ((e :: es).length + ([] : List Keyword).length + (if ([] : List Keyword).isEmpty then 0 else 1) < 30)) = true := by rfl)
    (hln : (apos.endLine == cpos.line) = true := by rfl) (hs : starEach (e :: es) X.env = (false, eval e X.env) :: starEach es X.env := by rfl)
    (hpl : (backTo cpos (starEach es X.env)).any (·.1) = false := by rfl) :
    PE X (.Call (.Attribute o name apos) (e :: es) [] cpos) (tDM X.w r to t) := by
  constructor
  intro pins s σ H Q I h
  refine wpAny_Call_method_late hbase hfw hln rfl (thn (ho.run pins s σ H _ I h) ?_)
  rintro v s1 ⟨x, H1, I1, r1, ⟨a, kvs, rfl, e⟩, q1⟩
  cases r1
  have R := dc_raw I1 e
  refine ⟨"dict", id, PySem.F.plainAttrs_dict, slot, hty, R.typeIs, R.noDict, ?_⟩
  have hA := ha.run cpos pins s1 σ H1 _ I1 q1
  rw [hs] at hA ⊢
  refine Calls.callWith_builtin (by show (false || (backTo cpos (starEach es X.env)).any (·.1)) = false; rw [hpl]; rfl) (Calls.evalArgs_plain (thn hA ?_))
  rintro us s2 ⟨vs, H2, I2, r2, q2⟩
  exact hm pins s2 σ H2 (.ref a) vs (.ref a) us Q I2 rfl r2 q2
/-- {} -/
def tDNew (w : World) : TE := fun _ H Q => ∀ p, H p = none → Q (.ref p) (upd H p (DicO w p []))
theorem dic_empty (w : World) (h : Heap) (hb : sysModules < h.objs.size) : RawD w (h.push { cls := .type "dict", data := .dict #[] }) h.objs.size [] :=
  ⟨Nat.zero_le _, beq_eq_false_iff_ne.mpr (Ne.symm (Nat.ne_of_lt hb)), List.nodup_nil, _, #[], 0, Heap.get?_push_size _ rfl, ⟨rfl, rfl, rfl⟩, rfl, .nil⟩
theorem pe_dnew {pos : Pos} : PE X (.Dict [] [] pos) (tDNew X.w) := by
  constructor
  intro pins s σ H Q I h
  exact wpAny_Dict_empty ⟨.ref s.heap.objs.size, _, I.laid (a := s.heap.objs.size) (o := DicO X.w s.heap.objs.size []) (t' := s.toks) (fun _ _ q => Heap.get?_push_of_some _ q) (Nat.le_refl _) (dic_empty X.w s.heap I.big).ok, rfl, h _ (I.hok.fresh (Nat.le_refl _))⟩
/-- dict(pairs) of a tuple -/
def mxK (kvs : List (Key × V)) : KVs := kvs.map fun p => ((mixF p.1).1, (mixF p.1).2, p.2)
theorem mx_rel {P : Program} {w : World} {kvs : List (Key × V)} {vs : List (Key × Value)} (r : KV kvs vs) : Paired (mixE P w).Rel (mxK kvs) vs := by
  unfold KV at r
  induction r with
  | nil => exact .nil
  | @cons p q ps qs h t ih =>
    obtain ⟨h1, h2⟩ := h
    unfold mxK
    rw [List.map_cons]
    refine .cons ⟨?_, ?_, h2⟩ ih
    · rw [← h1]; obtain ⟨k, v⟩ := p; cases k <;> rfl
    · rw [← h1]; obtain ⟨k, v⟩ := p; cases k <;> rfl
theorem call_dictT (hcalm : X.calm = true) : CallR X (.type "dict") (fun xs H Q => ∃ (a : Addr) (ts : List Addr) (kvs : List (Key × V)), xs = [.ref a] ∧ TupG H a (ts.map V.ref) ∧ Paired (fun p kv => SqT X.K H p [kV kv.1, kv.2]) ts kvs ∧
    ∀ p, H p = none → Q (.ref p) (upd H p (DicO X.w p (mxK (mergeK [] kvs))))) := by
  intro pins s σ H xs us Q I r q
  obtain ⟨a, ts, kvs, rfl, hq, hp, q⟩ := q
  obtain ⟨u, rfl, rx⟩ := vals1 r
  cases rx
  obtain ⟨o, e, hc, hd, hs⟩ := hq
  obtain ⟨e1, hz, its, rv, o', e2, c2, n, d2⟩ := I.hok _ _ e
  obtain rfl : o = o' := Option.some.inj (e1.symm.trans e2)
  have ei := L2.refs_at rv
  subst ei
  rw [List.length_map] at hz
  obtain ⟨prs, rel, hl, hpr⟩ := L2.pairs_of I hp
  -- the pairs as they stand
  have step : ∀ (j : Nat) (q' : Key × Value), prs[j]? = some q' → ∃ b u, ts[j]? = some b ∧ IsTup s.heap b #[u, q'.2] ∧ keyIs q'.1 u = true := hpr
  have ex : ∃ ps : List (Value × Value), ps.length = prs.length ∧ ∀ (j : Nat) (k v : Value), ps[j]? = some (k, v) → ∃ q', prs[j]? = some q' ∧ q'.2 = v ∧ keyIs q'.1 k = true ∧ ∃ b, ts[j]? = some b ∧ IsTup s.heap b #[k, v] := by
    refine ⟨(List.range prs.length).map fun j => (if h : j < prs.length then (step j prs[j] (List.getElem?_eq_getElem h)).choose_spec.choose else .none, (prs[j]?.map (·.2)).getD .none), by simp, fun j k v e => ?_⟩
    rw [List.getElem?_map] at e
    by_cases hj : j < prs.length
    · rw [List.getElem?_range hj] at e
      have sp := (step j prs[j] (List.getElem?_eq_getElem hj)).choose_spec.choose_spec
      simp only [Option.map_some, Option.some.injEq, Prod.mk.injEq, dif_pos hj, List.getElem?_eq_getElem hj, Option.getD_some] at e
      obtain ⟨e1, e2⟩ := e
      refine ⟨prs[j], List.getElem?_eq_getElem hj, e2, by rw [← e1]; exact sp.2.2, _, sp.1, ?_⟩
      rw [← e1, ← e2]; exact sp.2.1
    · rw [List.getElem?_eq_none (by simp; omega)] at e; cases e
  obtain ⟨ps, pl1, pl2⟩ := ex
  have arr : ∀ j, (ts.map Value.ref).toArray[j]? = (ts[j]?).map Value.ref := fun j => by rw [List.getElem?_toArray, List.getElem?_map]
  refine PySem.call_dict_pairs (knd := mixKind X.prog X.w) (kvs := prs) (PairArg.tuple a (ts.map Value.ref).toArray (fun j => ts.getD j 0) ps) (I.ok.hd hcalm) ⟨⟨o, n, e1, hc, hd, d2⟩, ?_⟩ ⟨pl1.symm, ?_⟩ (by rw [pl1, hl]; exact hz) fun h' tk hd' k => ?_
  · refine ⟨by simp [pl1, hl], fun j k v e => ?_⟩
    obtain ⟨q', e1, e2, e3, b, e4, e5⟩ := pl2 j k v e
    have eg : ts.getD j 0 = b := by rw [List.getD_eq_getElem?_getD, e4]; rfl
    exact ⟨by rw [arr, e4]; exact congrArg (fun z => some (Value.ref z)) eg.symm, .inl (by show s.heap.IsTuple (ts.getD j 0) _; rw [eg]; exact e5)⟩
  · intro j key v e
    obtain ⟨q', e1, e2, e3, _⟩ := pl2 j key v e
    exact ⟨q'.1, by rw [e1, ← e2], e3⟩
  · have hm : (s.heap.objs.size == sysModules) = false := beq_eq_false_iff_ne.mpr (Nat.ne_of_gt I.big)
    have hlen : (mxK (mergeK [] kvs)).length ≤ sizeLine := by
      unfold mxK
      rw [List.length_map]
      refine Nat.le_trans (length_mergeK kvs []) ?_
      rw [List.length_nil, Nat.zero_add, rel.length, hl]
      exact hz
    have raw : RawD X.w h' s.heap.objs.size (mxK (mergeK [] kvs)) := Emb.raw (m := mixE X.prog X.w) (mx_rel (KV.merge rel .nil)) hd' hlen hm
    exact ⟨.ref s.heap.objs.size, upd H s.heap.objs.size (DicO X.w s.heap.objs.size (mxK (mergeK [] kvs))), I.laid (t' := tk) (fun b o e => k b o (by simp) e) (Nat.le_refl _) raw.ok, rfl, q _ (I.hok.fresh (Nat.le_refl _))⟩
end
end My
namespace My
open PySem PySem.Spec PyProof.Rows L2
variable [TB]

/-! ### dicts by their data -/
def dsort (d : PyData) : Nat := match d with
  | .int _ => 1
  | .str _ => 1
  | .bool _ => 2
  | .tuple ds => match canon (.tuple ds) with
    | some k => if k.depth ≤ 8 then 3 else 0
    | none => 0
  | _ => 0
/-- the keys and this one are of one sort -/
def uniB (ks : List PyData) (d : PyData) : Bool := (dsort d != 0) && ks.all fun q => dsort q == dsort d
/-- the place of a key -/
def kIx : List PyData → PyData → Option Nat
  | [], _ => none
  | q :: ks, d => if canon q = canon d then some 0 else (kIx ks d).map (· + 1)
def D.dks : D → Option (List PyData × List M)
  | .ot (.dic ks ms) => some (ks, ms) | .nt (.dic ks ms) => some (ks, ms) | .p (.dict ds) => some (ds.map (·.1), ds.map fun q => .leaf q.2) | _ => none
mutual
theorem keyAt_of {H : Hp} : ∀ {v : V} {d : PyData} {k : NestedKey}, Dt H v d → canon d = some k → KeyAt H v k
  | _, _, _, .non, e => by rw [canon] at e; cases e; exact .non
  | _, _, _, .bl b, e => by rw [canon] at e; cases e; exact .bl b
  | _, _, _, .int i, e => by rw [canon] at e; cases e; exact .int i
  | _, _, _, .str x, e => by rw [canon] at e; cases e; exact .str x
  | _, _, _, .tup (ds := ds) h ha, e => by
    rw [canon] at e
    cases q : canons ds with
    | none => rw [q] at e; cases e
    | some ks => rw [q] at e; cases e; exact .tup h (keysAt_of ha q)
  | _, _, _, .lst _ _, e => by rw [canon] at e; cases e
  | _, _, _, .dic _ _ _ _, e => by rw [canon] at e; cases e
theorem keysAt_of {H : Hp} : ∀ {vs : List V} {ds : List PyData} {ks : List NestedKey}, DtAll H vs ds → canons ds = some ks → KeysAt H vs ks
  | _, _, _, .nil, e => by rw [canons] at e; cases e; exact .nil
  | _, _, _, .cons (d := d) (ds := ds) h t, e => by
    rw [canons] at e
    cases q : canon d with
    | none => rw [q] at e; cases e
    | some k =>
      cases r : canons ds with
      | none => rw [q, r] at e; cases e
      | some ks =>
        rw [q, r] at e
        cases e
        exact .cons (keyAt_of h q) (keysAt_of t r)
end
theorem keyAt_wo {B : Addr → Prop} {H : Hp} {v : V} {d : PyData} {k : NestedKey} (h : Dt (wo B H) v d) (e : canon d = some k) : KeyAt H v k := (keyAt_of h e).mono fun _ _ _ e => wo_same _ _ e
theorem dsort_tup (ds : List PyData) : dsort (.tuple ds) = match canon (.tuple ds) with
    | some k => if k.depth ≤ 8 then 3 else 0
    | none => 0 := rfl
theorem dsort_30 (ds : List PyData) : dsort (.tuple ds) = 3 ∨ dsort (.tuple ds) = 0 := by
  rw [dsort_tup]
  split
  · split
    · exact .inl rfl
    · exact .inr rfl
  · exact .inr rfl
theorem dsort_canon {d : PyData} (h : dsort d ≠ 0) : ∃ k, canon d = some k := by
  cases d with
  | int i => exact ⟨_, by rw [canon]⟩
  | str x => exact ⟨_, by rw [canon]⟩
  | bool b => exact ⟨_, by rw [canon]⟩
  | tuple ds =>
    rw [dsort_tup] at h
    split at h
    · exact ⟨_, by assumption⟩
    · exact (h rfl).elim
  | none => exact (h rfl).elim
  | list ds => exact (h rfl).elim
  | dict ds => exact (h rfl).elim
/-- a key of a sort -/
theorem sort_key {B : Addr → Prop} {H : Hp} {y : V} {d : PyData} {k : NestedKey} (h : Dt (wo B H) y d) (e : canon d = some k) :
    (dsort d = 1 → ∃ k', k = (mixF k').1 ∧ y = (mixF k').2) ∧ (dsort d = 2 → ∃ k', k = (booF k').1 ∧ y = (booF k').2) ∧ (dsort d = 3 → (∃ b, y = .ref b) ∧ KeyAt H y k ∧ k.depth ≤ 8) := by
  refine ⟨fun s => ?_, fun s => ?_, fun s => ?_⟩
  · cases h with
    | int i => rw [canon] at e; cases e; exact ⟨.inl i, rfl, rfl⟩
    | str x => rw [canon] at e; cases e; exact ⟨.inr x, rfl, rfl⟩
    | @tup _ _ ds _ _ => rcases dsort_30 ds with z | z <;> rw [z] at s <;> cases s
    | _ => cases s
  · cases h with
    | bl b => rw [canon] at e; cases e; exact ⟨b, rfl, rfl⟩
    | @tup _ _ ds _ _ => rcases dsort_30 ds with z | z <;> rw [z] at s <;> cases s
    | _ => cases s
  · have hk := keyAt_wo h e
    cases h with
    | tup ht _ =>
      refine ⟨⟨_, rfl⟩, hk, ?_⟩
      rw [dsort_tup, e] at s
      simp only at s
      split at s
      · assumption
      · cases s
    | _ => cases s
theorem each_key {B : Addr → Prop} {H : Hp} {n : Nat} : ∀ {kvs : KVs} {ks : List PyData}, DtAll (wo B H) (kvs.map (·.2.1)) ks → ks.map canon = kvs.map (fun q => some q.1) → (∀ q ∈ ks, dsort q = n) →
    ∀ p ∈ kvs, ∃ q, Dt (wo B H) p.2.1 q ∧ canon q = some p.1 ∧ dsort q = n
  | [], _, _, _, _, p, hp => by cases hp
  | p :: kvs, ks, h, e, hn, q, hq => by
    rw [List.map_cons] at h
    cases h with
    | cons h t =>
      rw [List.map_cons, List.map_cons] at e
      injection e with e1 e2
      rcases List.mem_cons.mp hq with rfl | hq
      · exact ⟨_, h, e1, hn _ List.mem_cons_self⟩
      · exact each_key t e2 (fun z hz => hn z (List.mem_cons_of_mem _ hz)) q hq
theorem uni_of {B : Addr → Prop} {H : Hp} {kvs : KVs} {ks : List PyData} {y : V} {d : PyData} {k : NestedKey} (h : DtAll (wo B H) (kvs.map (·.2.1)) ks) (e : ks.map canon = kvs.map (fun q => some q.1)) (hy : Dt (wo B H) y d) (ek : canon d = some k) (u : uniB ks d = true) : UniK H kvs y k := by
  unfold uniB at u
  rw [Bool.and_eq_true, bne_iff_ne] at u
  obtain ⟨u0, u1⟩ := u
  have un : ∀ q ∈ ks, dsort q = dsort d := fun q hq => by
    have := List.all_eq_true.mp u1 q hq
    simpa using this
  have all := each_key h e un
  have s3 : dsort d = 1 ∨ dsort d = 2 ∨ dsort d = 3 := by
    cases d with
    | int i => exact .inl rfl
    | str x => exact .inl rfl
    | bool b => exact .inr (.inl rfl)
    | tuple ds => exact (dsort_30 ds).elim (fun z => .inr (.inr z)) fun z => (u0 z).elim
    | none => exact (u0 rfl).elim
    | list ds => exact (u0 rfl).elim
    | dict ds => exact (u0 rfl).elim
  obtain ⟨k1, k2, k3⟩ := sort_key hy ek
  rcases s3 with s | s | s
  · obtain ⟨k', rfl, rfl⟩ := k1 s
    exact .mix k' fun p hp => let ⟨q, a, b, c⟩ := all p hp; (sort_key a b).1 (c.trans s)
  · obtain ⟨k', rfl, rfl⟩ := k2 s
    exact .boo k' fun p hp => let ⟨q, a, b, c⟩ := all p hp; (sort_key a b).2.1 (c.trans s)
  · obtain ⟨⟨b, rfl⟩, k4, k5⟩ := k3 s
    exact .tup k4 k5 fun p hp => let ⟨q, a, b, c⟩ := all p hp; (sort_key a b).2.2 (c.trans s)
theorem fnd_ix {d : PyData} {k : NestedKey} (ek : canon d = some k) : ∀ {kvs : KVs} {ks : List PyData}, ks.map canon = kvs.map (fun q => some q.1) →
    (kIx ks d = none → fnd kvs k = none) ∧ ∀ j, kIx ks d = some j → ∃ v, (kvs.map (·.2.2))[j]? = some v ∧ fnd kvs k = some v
  | [], [], _ => ⟨fun _ => rfl, fun j e => by cases e⟩
  | p :: kvs, [], e => by cases e
  | [], q :: ks, e => by cases e
  | p :: kvs, q :: ks, e => by
    rw [List.map_cons, List.map_cons] at e
    injection e with e1 e2
    obtain ⟨h1, h2⟩ := fnd_ix ek e2
    have hc : (canon q = canon d) ↔ p.1 = k := by rw [e1, ek]; exact ⟨fun z => Option.some.inj z, fun z => congrArg some z⟩
    unfold kIx
    by_cases hh : p.1 = k
    · rw [if_pos (hc.mpr hh)]
      refine ⟨fun z => (by cases z), fun j z => ?_⟩
      cases z
      refine ⟨p.2.2, rfl, ?_⟩
      unfold fnd
      rw [List.find?_cons, decide_eq_true hh]; rfl
    · rw [if_neg (fun z => hh (hc.mp z))]
      have ef : fnd (p :: kvs) k = fnd kvs k := by
        unfold fnd
        rw [List.find?_cons, decide_eq_false hh]
      rw [ef]
      refine ⟨fun z => h1 (by cases w : kIx ks d with | none => rfl | some j => rw [w] at z; cases z), fun j z => ?_⟩
      cases w : kIx ks d with
      | none => rw [w] at z; cases z
      | some i =>
        rw [w] at z
        cases z
        obtain ⟨v, g1, g2⟩ := h2 i w
        exact ⟨v, by simpa using g1, g2⟩
section
variable {K : PySem.W.Frag} {C : Cd} {ρ : Ro} {σ : L2.St} {H H1 H2 H' : Hp} {v u : V} {x y : D}
structure DicAt (C : Cd) (ρ : Ro) (σ : L2.St) (H : Hp) (v : V) (ks : List PyData) (ms : List M) : Prop where
  ex : ∃ a kvs, v = .ref a ∧ H a = some (DicO TB.w a kvs) ∧ DtAll (wo (bad C ρ σ) H) (kvs.map (·.2.1)) ks ∧ ks.map canon = kvs.map (fun q => some q.1) ∧ ∀ (j : Nat) (e : PyData), ms[j]? = some (M.leaf e) → ∃ v, (kvs.map (·.2.2))[j]? = some v ∧ Dt (wo (bad C ρ σ) H) v e
theorem leaf_of {B : Addr → Prop} {vs : List V} {ms : List M} {f : List Addr} (h : RelMs H B vs ms f) {j : Nat} {e : PyData} (g : ms[j]? = some (.leaf e)) : ∃ v, vs[j]? = some v ∧ Dt (wo B H) v e := by
  obtain ⟨v, _, h1, h2, _⟩ := rels_get h g
  cases h2
  exact ⟨v, h1, by assumption⟩
theorem Rep.dicOf (R : Rep K C ρ σ H') {ks : List PyData} {ms : List M} (h : RelE C ρ σ H H' v x) (e : x.dks = some (ks, ms)) : DicAt C ρ σ H' v ks ms := by
  cases x with
  | ot m =>
    obtain ⟨f, h1, h2⟩ := R.ofTree h
    cases m with
    | dic ks' ms' =>
      cases e
      cases h1 with
      | dic a b c d n => exact ⟨_, _, rfl, a, b, c, fun j e g => leaf_of d g⟩
    | leaf d => cases e
    | lst ms => cases e
  | nt m =>
    obtain ⟨f, h1, h2⟩ := h
    cases m with
    | dic ks' ms' =>
      cases e
      have s : Same (wo (fun b => bad C ρ σ b ∨ b ∈ f) H') (wo (bad C ρ σ) H') := wo_mono (fun _ z => .inl z) fun _ _ _ e => e
      cases h2 with
      | dic a b c d n =>
        refine ⟨_, _, rfl, a, DtAll.mono s b, c, fun j e g => ?_⟩
        obtain ⟨v, g1, g2⟩ := leaf_of d g
        exact ⟨v, g1, Dt.mono s g2⟩
    | leaf d => cases e
    | lst ms => cases e
  | p d =>
    cases d with
    | dict ds =>
      cases e
      cases h with
      | dic a b c d =>
        refine ⟨_, _, rfl, wo_same _ _ a, b, by rw [List.map_map]; exact d, fun j e g => ?_⟩
        rw [List.getElem?_map] at g
        cases q : ds[j]? with
        | none => rw [q] at g; cases g
        | some z =>
          rw [q] at g
          cases g
          obtain ⟨v, g1, g2⟩ := c.of (i := j) (d := z.2) (by rw [List.getElem?_map, q]; rfl)
          exact ⟨v, g1, g2⟩
    | _ => cases e
  | own ds => cases e
  | nw ds => cases e
  | tape => cases e
  | fv f F => cases e
end
/-! in, d[y], get -/
def bInD (neg : Bool) (x y : D) (Q : D → Prop) : Prop := match x with
  | .p d => match y.dks with
    | some (ks, _) => uniB ks d = true ∧ Q (.p (.bool (if neg = true then !(kIx ks d).isSome else (kIx ks d).isSome)))
    | _ => False
  | _ => False
def bDx (x y : D) (Q : D → Prop) : Prop := match y with
  | .p d => match x.dks with
    | some (ks, ms) => uniB ks d = true ∧ ∃ j e, kIx ks d = some j ∧ ms[j]? = some (.leaf e) ∧ Q (.p e)
    | _ => False
  | _ => False
/-- the value at a key, or another -/
def kAt (ks : List PyData) (ms : List M) (d : PyData) (e0 : PyData) (Q : D → Prop) : Prop := match kIx ks d with
  | some j => ∃ e, ms[j]? = some (.leaf e) ∧ Q (.p e)
  | none => Q (.p e0)
def dGet (ta : TED) (ts : TAD) : TED := fun ρ Q => ta ρ fun x => x.dks.isSome = true ∧ ts ρ fun xs => match x.dks, xs with
  | some (ks, ms), [.p d] => uniB ks d = true ∧ kAt ks ms d .none Q
  | some (ks, ms), [.p d, z] => uniB ks d = true ∧ ∃ e0, z.st = some e0 ∧ kAt ks ms d e0 Q
  | _, _ => False
section
variable {K : PySem.W.Frag}
theorem uni_some {ks : List PyData} {d : PyData} (u : uniB ks d = true) : ∃ k, canon d = some k := by
  unfold uniB at u
  rw [Bool.and_eq_true, bne_iff_ne] at u
  exact dsort_canon u.1
theorem li_inDic (neg : Bool) : Li2 K (rDIn TB.w neg) (bInD neg) := by
  rintro C ρ σ H0 H v u x y Qd Q R k e1 e2 h post
  cases x with
  | p d =>
    unfold bInD at h
    cases q : y.dks with
    | none => rw [q] at h; exact h.elim
    | some p =>
      obtain ⟨ks, ms⟩ := p
      rw [q] at h
      obtain ⟨u1, h⟩ := h
      obtain ⟨k, ek⟩ := uni_some u1
      obtain ⟨a, kvs, rfl, g1, g2, g3, g4⟩ := (R.dicOf e2 q).ex
      refine ⟨a, kvs, k, rfl, g1, uni_of g2 g3 e1 ek u1, post _ H (.p (.bool _)) R (Kq.refl _ _) (.bl _) ?_⟩
      have f := fnd_ix ek g3
      have : (fnd kvs k).isSome = (kIx ks d).isSome := by
        cases w : kIx ks d with
        | none => rw [f.1 w]; rfl
        | some j => obtain ⟨v, _, e⟩ := f.2 j w; rw [e]; rfl
      rw [this]
      exact h
  | _ => exact h.elim
theorem li_dix : Li2 K (rDIx TB.w) bDx := by
  rintro C ρ σ H0 H v u x y Qd Q R k e1 e2 h post
  cases y with
  | p d =>
    unfold bDx at h
    cases q : x.dks with
    | none => rw [q] at h; exact h.elim
    | some p =>
      obtain ⟨ks, ms⟩ := p
      rw [q] at h
      obtain ⟨u1, j, e, h1, h2, h⟩ := h
      obtain ⟨k, ek⟩ := uni_some u1
      obtain ⟨a, kvs, rfl, g1, g2, g3, g4⟩ := (R.dicOf e1 q).ex
      obtain ⟨w, w1, w2⟩ := (fnd_ix ek g3).2 j h1
      obtain ⟨w', w3, w4⟩ := g4 j e h2
      rw [w1] at w3; cases w3
      exact ⟨a, kvs, k, w, rfl, g1, uni_of g2 g3 e2 ek u1, w2, post w H (.p e) R (Kq.refl _ _) w4 h⟩
  | _ => exact h.elim
end
section
variable {X : Cx} {a b o e : Expr} {es : List Expr} {ta tb : TED} {t : TAD} {pos p : Pos}
theorem cu_inD (hw : X.w = TB.w) (hu : X.A.units + 65 < cLine) : CmpU X .In (bInD false) := ⟨_, op_dIn (by omega), by rw [hw]; exact li_inDic false⟩
theorem cu_notInD (hw : X.w = TB.w) (hu : X.A.units + 65 < cLine) : CmpU X .NotIn (bInD true) := ⟨_, op_dNotIn (by omega), by rw [hw]; exact li_inDic true⟩
theorem fe_dix (hw : X.w = TB.w) (hu : X.A.units + 65 < cLine) (ha : FE X a ta) (hb : FE X b tb) (hs : NoSl b) : FE X (.Subscript a b pos) (dOp bDx ta tb) :=
  (pe_dix (by omega) ha hb hs).mo (up_op (by rw [hw]; exact li_dix))
theorem fe_dget {apos cpos : Pos} (hw : X.w = TB.w) (hu : X.A.units + 65 < cLine) (ho : FE X o ta) (ha : FA X (e :: es) t)
    (hbase : attributeBase o "get" X.env (eval o X.env) = eval o X.env := by rfl)
    (hfw : ((backTo cpos (starEach (e :: es) X.env)).all (fun x => !x.1) && (backToKw cpos (keywordEach [] X.env)).all (fun x => x.1.isSome) && decide
      ((e :: es).length + ([] : List Keyword).length + (if ([] : List Keyword).isEmpty then 0 else 1) < 30)) = true := by rfl)
    (hln : (apos.endLine == cpos.line) = true := by rfl) (hs : starEach (e :: es) X.env = (false, eval e X.env) :: starEach es X.env := by rfl)
    (hpl : (backTo cpos (starEach es X.env)).any (·.1) = false := by rfl) : FE X (.Call (.Attribute o "get" apos) (e :: es) [] cpos) (dGet ta t) := by
  refine (pe_dm PySem.F.slot_dict_get PySem.F.type_dict_get (mt_dget (by omega)) ho ha hbase hfw hln hs hpl).mo ?_
  rw [hw]
  rintro σ H Q ⟨C, ρ, Qd, R, h, post⟩
  refine ⟨C, ρ, _, R, h, ?_⟩
  rintro v H1 x R1 k1 e1 ⟨h1, h2⟩
  cases q : x.dks with
  | none => rw [q] at h1; cases h1
  | some pr =>
    obtain ⟨ks, ms⟩ := pr
    refine ⟨let ⟨a, kvs, ev, g1, _⟩ := (R1.dicOf e1 q).ex; ⟨a, kvs, ev, g1⟩, C, ρ, _, R1, h2, ?_⟩
    rintro vs H2 xs R2 k2 es h3
    rw [q] at h3
    have e2 : RelE C ρ σ H H2 v x := RelE.mono R k1 k2 e1
    obtain ⟨a, kvs, ev, g1, g2, g3, g4⟩ := (R2.dicOf e2 q).ex
    have fin : ∀ {d : PyData} {y w0 : V} {k : NestedKey} {e0 : PyData}, canon d = some k → Dt (wo (bad C ρ σ) H2) w0 e0 → kAt ks ms d e0 Qd → Q ((fnd kvs k).getD w0) H2 := fun {d y w0 k e0} ek hw0 hk => by
      unfold kAt at hk
      have f := fnd_ix ek g3
      cases w : kIx ks d with
      | none =>
        rw [w] at hk
        rw [f.1 w]
        exact post w0 H2 (.p e0) R2 (k1.trans k2) hw0 hk
      | some j =>
        rw [w] at hk
        obtain ⟨e, h5, h6⟩ := hk
        obtain ⟨z, w1, w2⟩ := f.2 j w
        obtain ⟨z', w3, w4⟩ := g4 j e h5
        rw [w1] at w3; cases w3
        rw [w2]
        exact post z H2 (.p e) R2 (k1.trans k2) w4 h6
    cases es with
    | nil => exact h3.elim
    | @cons v1 x1 vs xs c1 ct =>
      cases ct with
      | nil =>
        cases x1 with
        | p d =>
          obtain ⟨u1, h4⟩ := h3
          obtain ⟨k, ek⟩ := uni_some u1
          exact ⟨a, kvs, k, v1, ev, g1, uni_of g2 g3 c1 ek u1, .inl ⟨rfl, fin (y := v1) ek .non h4⟩⟩
        | _ => exact h3.elim
      | @cons v2 x2 vs xs c2 ct =>
        cases ct with
        | nil =>
          cases x1 with
          | p d =>
            obtain ⟨u1, e0, h4, h5⟩ := h3
            obtain ⟨k, ek⟩ := uni_some u1
            exact ⟨a, kvs, k, v1, ev, g1, uni_of g2 g3 c1 ek u1, .inr ⟨v2, rfl, fin (y := v1) ek (R1.stOf c2 h4) h5⟩⟩
          | _ => exact h3.elim
        | cons _ _ =>
          cases x1 <;> exact h3.elim
end
end My
namespace My
open PySem PySem.Spec PyProof.Rows L2
variable [TB]

/-! ### dicts are made and changed -/
def keyD : Key → PyData
  | .inl i => .int i
  | .inr x => .str x
def pairsOf : List PyData → Option (List (Key × PyData))
  | [] => some []
  | .tuple [.int i, v] :: r => (pairsOf r).map ((.inl i, v) :: ·)
  | .tuple [.str x, v] :: r => (pairsOf r).map ((.inr x, v) :: ·)
  | _ => none
/-- dict(pairs) -/
def kDict (x : D) (Q : D → Prop) : Prop := match x with
  | .p (.tuple ds) => match pairsOf ds with
    | some ps => (ps.map (·.1)).Nodup ∧ Q (.nt (.dic (ps.map fun p => keyD p.1) (ps.map fun p => .leaf p.2)))
    | _ => False
  | _ => False
theorem mergeK_new : ∀ (more acc : List (Key × V)), ((acc ++ more).map (·.1)).Nodup → mergeK acc more = acc ++ more
  | [], acc, _ => by rw [List.append_nil]; rfl
  | p :: r, acc, h => by
    have hn : valV acc p.1 = none := by
      cases q : valV acc p.1 with
      | none => rfl
      | some v =>
        exfalso
        have : (acc.any fun kv => decide (kv.1 = p.1)) = true := by rw [valV_any, q]; rfl
        obtain ⟨z, hz, e⟩ := List.any_eq_true.mp this
        rw [List.map_append, List.map_cons] at h
        have := (List.nodup_append.mp h).2.2 z.1 (List.mem_map.mpr ⟨z, hz, rfl⟩) p.1 List.mem_cons_self
        exact this (of_decide_eq_true e)
    have e : mergeK acc (p :: r) = mergeK (putK acc p.1 p.2) r := rfl
    rw [e, putK_new p.2 hn, mergeK_new r (acc ++ [(p.1, p.2)]) (by rw [List.append_assoc]; exact h), List.append_assoc]
    rfl
section
variable {K : PySem.W.Frag} {C : Cd} {ρ : Ro} {σ : L2.St} {H H1 H2 H' : Hp} {v : V} {x : D}
theorem pairs_at {B : Addr → Prop} : ∀ {ds : List PyData} {vs : List V} {ps : List (Key × PyData)}, DtAll (wo B H) vs ds → pairsOf ds = some ps →
    ∃ (ts : List Addr) (kvs : List (Key × V)), vs = ts.map V.ref ∧ Paired (fun p kv => SqT K H p [kV kv.1, kv.2]) ts kvs ∧ kvs.map (·.1) = ps.map (·.1) ∧ DtAll (wo B H) (kvs.map (·.2)) (ps.map (·.2))
  | [], _, _, h, e => by cases h; unfold pairsOf at e; cases e; exact ⟨[], [], rfl, .nil, rfl, .nil⟩
  | d :: ds, vs, ps, h, e => by
    cases h with
    | @cons v0 vs0 _ _ h t =>
      have go : ∀ (k : Key) (z : PyData), d = .tuple [keyD k, z] → (pairsOf ds).map ((k, z) :: ·) = some ps → ∃ (ts : List Addr) (kvs : List (Key × V)), v0 :: vs0 = ts.map V.ref ∧ Paired (fun p kv => SqT K H p [kV kv.1, kv.2]) ts kvs ∧ kvs.map (·.1) = ps.map (·.1) ∧ DtAll (wo B H) (kvs.map (·.2)) (ps.map (·.2)) := fun k z ed er => by
        cases q : pairsOf ds with
        | none => rw [q] at er; cases er
        | some r =>
          rw [q] at er
          cases er
          obtain ⟨ts, kvs, h1, h2, h3, h4⟩ := pairs_at t q
          subst ed
          cases h with
          | @tup a _ _ ht ha =>
            cases ha with
            | @cons y1 _ _ _ c1 ct =>
              cases ct with
              | @cons y2 _ _ _ c2 ct =>
                cases ct
                have ek : y1 = kV k := by
                  cases k with
                  | inl i => cases c1; rfl
                  | inr x => cases c1; rfl
                subst ek
                exact ⟨a :: ts, (k, y2) :: kvs, by rw [h1]; rfl, .cons (TupG.sq (ht.kt fun o e => wo_same _ _ e)) h2, by rw [List.map_cons, List.map_cons, h3], .cons c2 h4⟩
      unfold pairsOf at e
      split at e
      · rename_i heq; cases heq
      · rename_i heq; cases heq; exact go (.inl _) _ rfl e
      · rename_i heq; cases heq; exact go (.inr _) _ rfl e
      · cases e
theorem mx_keys : ∀ (kvs : List (Key × V)), (mxK kvs).map (·.1) = kvs.map (fun p => (mixF p.1).1) ∧ (mxK kvs).map (·.2.1) = kvs.map (fun p => (mixF p.1).2) ∧ (mxK kvs).map (·.2.2) = kvs.map (·.2) := fun kvs => by
  unfold mxK
  refine ⟨by rw [List.map_map]; rfl, by rw [List.map_map]; rfl, by rw [List.map_map]; rfl⟩
theorem keys_dt {B : Addr → Prop} : ∀ {kvs : List (Key × V)} {ps : List (Key × PyData)}, kvs.map (·.1) = ps.map (·.1) → DtAll (wo B H) (kvs.map fun p => (mixF p.1).2) (ps.map fun p => keyD p.1) ∧ (ps.map fun p => keyD p.1).map canon = kvs.map fun p => some (mixF p.1).1
  | [], [], _ => ⟨.nil, rfl⟩
  | p :: kvs, q :: ps, e => by
    rw [List.map_cons, List.map_cons] at e
    injection e with e1 e2
    obtain ⟨h1, h2⟩ := keys_dt (B := B) e2
    rw [List.map_cons, List.map_cons, List.map_cons, List.map_cons, h2, e1]
    cases q.1 with
    | inl i => exact ⟨.cons (.int i) h1, by rw [show canon (keyD (.inl i)) = some (.num i) by rw [keyD, canon]]; rfl⟩
    | inr x => exact ⟨.cons (.str x) h1, by rw [show canon (keyD (.inr x)) = some (.text x) by rw [keyD, canon]]; rfl⟩
  | [], q :: ps, e => by cases e
  | p :: kvs, [], e => by cases e
theorem li_dict : LiL K (fun xs H Q => ∃ (a : Addr) (ts : List Addr) (kvs : List (Key × V)), xs = [.ref a] ∧ TupG H a (ts.map V.ref) ∧ Paired (fun p kv => SqT K H p [kV kv.1, kv.2]) ts kvs ∧
    ∀ p, H p = none → Q (.ref p) (upd H p (DicO TB.w p (mxK (mergeK [] kvs))))) (c1 kDict) := by
  intro C ρ σ H0 H vs xs Qd Q R k e0 h post
  unfold c1 at h
  split at h
  · rename_i x
    obtain ⟨v, rfl, e⟩ := p1 e0
    unfold kDict at h
    split at h
    · rename_i ds
      split at h
      · rename_i ps hps
        obtain ⟨nd, q⟩ := h
        obtain ⟨a, us, rfl, t1, d1⟩ := R.tupOf e
        obtain ⟨ts, kvs, rfl, g2, g3, g4⟩ := pairs_at (K := K) d1 hps
        refine ⟨a, ts, kvs, rfl, t1, g2, fun p hp => ?_⟩
        rw [mergeK_new kvs [] (by rw [List.nil_append, g3]; exact nd), List.nil_append]
        have s : Same (wo (bad C ρ σ) H) (wo (fun b => bad C ρ σ b ∨ b ∈ [p]) (upd H p (DicO TB.w p (mxK kvs)))) := fun a o e => by
          obtain ⟨f1, f2⟩ := wo_of e
          have n := ne_of_none f2 hp
          exact wo_mk (fun z => z.elim f1 fun y => n (List.mem_singleton.mp y)) (by rw [upd_ne n]; exact f2)
        obtain ⟨m1, m2, m3⟩ := mx_keys kvs
        obtain ⟨k1, k2⟩ := keys_dt (H := H) (B := bad C ρ σ) g3
        refine post _ _ (.nt (.dic (ps.map fun p => keyD p.1) (ps.map fun p => .leaf p.2))) (R.lay hp) (Kq.new hp) ⟨[p], fun b hb => by rw [List.mem_singleton.mp hb]; exact hp, ?_⟩ q
        refine .dic (kvs := mxK kvs) upd_same (by rw [m2]; exact DtAll.mono s k1) ?_ ?_ (by simp)
        · rw [k2, show (mxK kvs).map (fun q => some q.1) = ((mxK kvs).map (·.1)).map some by rw [List.map_map]; rfl, m1, List.map_map]; rfl
        · rw [m3, show (ps.map fun p => M.leaf p.2) = (ps.map (·.2)).map M.leaf by rw [List.map_map]; rfl]
          exact RelMs.leaves (DtAll.mono s g4)
      · exact h.elim
    · exact h.elim
  · exact h.elim
end
section
variable {X : Cx}
theorem bu_dict (hw : X.w = TB.w) (hc : X.calm = true) : BuU X (.type "dict") (c1 kDict) := ⟨_, call_dictT hc, by rw [hw]; exact li_dict⟩
end
end My
namespace My
open PySem PySem.Spec PyProof.Rows L2
/-! ### dicts that the kit's rules make, seen as dicts of any keys -/
section
variable {X : Cx}
theorem mx_ok {kvs : List (Key × V)} {H : Hp} {h : Heap} {a : Addr} (ok : HOk X.prog X.w H h) (e : H a = some (.dK kvs)) : RawD X.w h a (mxK kvs) := by
  obtain ⟨z, s, vs, r, d⟩ := dk_of ok e
  exact Emb.raw (m := mixE X.prog X.w) (mx_rel r) d (by unfold mxK; rw [List.length_map]; exact z) s
theorem retype {pins : List (Addr × Obj)} {σ : L2.St} {H : Hp} {s : Shared} {a : Addr} {kvs : List (Key × V)} (I : Inv X pins σ H s) (e : H a = some (.dK kvs)) : Inv X pins σ (upd H a (DicO X.w a (mxK kvs))) s := by
  have R := mx_ok I.hok e
  exact d_write (t' := s.toks) I (by rw [e]; exact True.intro) ⟨rfl, fun _ _ => rfl⟩ (let ⟨o, _, _, h1, _⟩ := R.ex; ⟨o, h1⟩) R.ok
/-- a new dict of int and text keys -/
def tMx (w : World) (te : TE) : TE := fun σ H Q => te σ H fun v H1 => ∃ a kvs, v = .ref a ∧ H1 a = some (.dK kvs) ∧ Q v (upd H1 a (DicO w a (mxK kvs)))
theorem pe_mx {e : Expr} {te : TE} (h : PE X e te) : PE X e (tMx X.w te) := by
  refine ⟨fun pins s σ H Q I hw => ?_⟩
  refine thn (h.run pins s σ H _ I hw) ?_
  rintro u s1 ⟨v, H1, I1, r1, a, kvs, rfl, e1, q⟩
  exact ⟨.ref a, _, retype I1 e1, r1, q⟩
end
end My
namespace My
open PySem PySem.Spec PyProof.Rows L2
variable [TB]

/-! ### d = {}, d[k] = v -/
/-- with a value at a key -/
def putM (ks : List PyData) (ms : List M) (d e : PyData) : M := match kIx ks d with
  | some j => .dic ks (ms.set j (.leaf e))
  | none => .dic (ks ++ [d]) (ms ++ [.leaf e])
def dNewD : TED := fun _ Q => Q (.nt (.dic [] []))
def dSetD (i : Nat) (tk tv : TED) : TSD := fun Dd ρ => ∃ ks ms, ρ[i]? = some (some (.ot (.dic ks ms))) ∧ tv ρ fun x => ∃ e, x.st = some e ∧ tk ρ fun y => ∃ d, y = .p d ∧ uniB ks d = true ∧ ms.length < sizeLine ∧ (∀ j, kIx ks d = some j → ∃ e0, ms[j]? = some (.leaf e0)) ∧ Dd.nx (ρ.set i (some (.ot (putM ks ms d e))))
section
variable {K : PySem.W.Frag} {C : Cd} {ρ : Ro} {σ : L2.St} {H H1 H2 H' : Hp} {v : V} {x : D}
theorem kvs_any {kvs : KVs} {ks : List PyData} {d : PyData} {k : NestedKey} (ek : canon d = some k) (e : ks.map canon = kvs.map (fun q => some q.1)) : (kvs.any fun p => decide (p.1 = k)) = (kIx ks d).isSome := by
  rw [fnd_any]
  have f := fnd_ix ek e
  cases w : kIx ks d with
  | none => rw [f.1 w]; rfl
  | some j => obtain ⟨v, _, g⟩ := f.2 j w; rw [g]; rfl
theorem putAt_vals {kvs : KVs} {k : NestedKey} {v : V} : ∀ {ks : List PyData} {d : PyData}, canon d = some k → ks.map canon = kvs.map (fun q => some q.1) → (kvs.map (·.1)).Nodup → ∀ j, kIx ks d = some j →
    (kvs.map fun p => if p.1 = k then (p.1, p.2.1, v) else p).map (·.2.2) = (kvs.map (·.2.2)).set j v := by
  intro ks d ek e nd j hj
  induction kvs generalizing ks j with
  | nil => cases ks with
    | nil => cases hj
    | cons q ks => cases e
  | cons p kvs ih =>
    cases ks with
    | nil => cases e
    | cons q ks =>
      rw [List.map_cons, List.map_cons] at e
      injection e with e1 e2
      rw [List.map_cons] at nd
      obtain ⟨n1, n2⟩ := List.nodup_cons.mp nd
      unfold kIx at hj
      rw [e1, ek] at hj
      by_cases hp : p.1 = k
      · rw [if_pos (by rw [hp])] at hj
        cases hj
        rw [List.map_cons, List.map_cons, if_pos hp, List.map_cons, List.set_cons_zero]
        have same : (kvs.map fun p => if p.1 = k then (p.1, p.2.1, v) else p) = kvs := by
          refine (List.map_congr_left fun q hq => ?_).trans (List.map_id _)
          rw [if_neg (fun z => n1 (by rw [hp, ← z]; exact List.mem_map.mpr ⟨q, hq, rfl⟩))]
          rfl
        rw [same]
      · rw [if_neg (fun z => hp (Option.some.inj z))] at hj
        cases w : kIx ks d with
        | none => rw [w] at hj; cases hj
        | some i =>
          rw [w] at hj
          cases hj
          rw [List.map_cons, List.map_cons, if_neg hp, List.map_cons, List.set_cons_succ, ih e2 n2 i w]
theorem putAt_keys (kvs : KVs) (k : NestedKey) (v : V) : (kvs.map fun p => if p.1 = k then (p.1, p.2.1, v) else p).map (·.1) = kvs.map (·.1) ∧ (kvs.map fun p => if p.1 = k then (p.1, p.2.1, v) else p).map (·.2.1) = kvs.map (·.2.1) := by
  constructor
  · rw [List.map_map]; exact List.map_congr_left fun p _ => by show (if p.1 = k then (p.1, p.2.1, v) else p).1 = p.1; split <;> rfl
  · rw [List.map_map]; exact List.map_congr_left fun p _ => by show (if p.1 = k then (p.1, p.2.1, v) else p).2.1 = p.2.1; split <;> rfl
theorem dic_code {w : World} {p c : Addr} {kvs : KVs} {q : Str} : DicO w p kvs ≠ LamX.CodeO c q := fun z => by
  unfold DicO LamX.CodeO at z
  injection z with z
  let oc : Obj := { cls := .none, data := .fields #[.none, .str q 0] }
  let h0 : Heap := { objs := (List.replicate (c + p + 1) oc).toArray }
  have ha : ∀ a, a < c + p + 1 → h0.objs[a]? = some oc := fun a ha => by
    show (List.replicate (c + p + 1) oc).toArray[a]? = some oc
    rw [List.getElem?_toArray, List.getElem?_replicate, if_pos ha]
  have hg : ∀ a, a < c + p + 1 → h0.get? a = some oc := fun a h => by
    unfold Heap.get?
    rw [ha a h]
  have code : ∃ (oc : Obj) (vs : Array Value) (t : Tok), h0.get? c = some oc ∧ oc.data = .fields vs ∧ vs[1]? = some (.str q t) := ⟨oc, _, 0, hg c (Nat.lt_succ_of_le (Nat.le_add_right _ _)), rfl, rfl⟩
  rw [← congrFun z h0] at code
  obtain ⟨_, _, _, o, es, ep, g1, _, g3, _⟩ := code
  rw [hg p (Nat.lt_succ_of_le (Nat.le_add_left _ _))] at g1
  cases g1
  cases g3
/-- the dict that is written -/
theorem rel_put {B : Addr → Prop} {w : World} {p : Addr} {kvs : KVs} {ks : List PyData} {ms : List M} {f : List Addr} {y v : V} {d e : PyData} {k : NestedKey} (hw : w = TB.w) (nd : (kvs.map (·.1)).Nodup)
    (hk : DtAll (wo B H) (kvs.map (·.2.1)) ks) (hc : ks.map canon = kvs.map (fun q => some q.1)) (hs : RelMs H B (kvs.map (·.2.2)) ms f) (nf : p ∉ f) (bp : B p) (hf : ∀ b ∈ f, B b)
    (ek : canon d = some k) (hy : Dt (wo B H) y d) (hv : Dt (wo B H) v e) (old : ∀ j, kIx ks d = some j → ∃ e0, ms[j]? = some (.leaf e0)) :
    RelM (upd H p (DicO w p (putD kvs k y v))) B (.ref p) (putM ks ms d e) (p :: f) := by
  subst hw
  have s : Same (wo B H) (wo B (upd H p (DicO TB.w p (putD kvs k y v)))) := fun a o q => by
    obtain ⟨f1, f2⟩ := wo_of q
    exact wo_mk f1 (by rw [upd_ne (fun z => f1 (by rw [z]; exact bp))]; exact f2)
  have keep : ∀ b ∈ f, ∀ o, H b = some o → upd H p (DicO TB.w p (putD kvs k y v)) b = some o := fun b hb o q => by rw [upd_ne (fun z => nf (by rw [← z]; exact hb))]; exact q
  unfold putM
  cases w : kIx ks d with
  | some j =>
    have ep : putD kvs k y v = kvs.map fun p => if p.1 = k then (p.1, p.2.1, v) else p := by
      unfold putD
      rw [kvs_any ek hc, w]; rfl
    obtain ⟨e0, he0⟩ := old j w
    obtain ⟨k1, k2⟩ := putAt_keys kvs k v
    have sm : ∀ l : KVs, l.map (fun q => some q.1) = (l.map (·.1)).map some := fun l => by rw [List.map_map]; rfl
    have a1 : (putD kvs k y v).map (·.2.1) = kvs.map (·.2.1) := by rw [ep, k2]
    have a2 : (putD kvs k y v).map (fun q => some q.1) = kvs.map (fun q => some q.1) := by rw [ep, sm, sm, k1]
    have a3 : (putD kvs k y v).map (·.2.2) = (kvs.map (·.2.2)).set j v := by rw [ep, putAt_vals ek hc nd j w]
    refine .dic (kvs := putD kvs k y v) upd_same ?_ ?_ ?_ nf
    · rw [a1]; exact DtAll.mono s hk
    · rw [a2, hc]
    · rw [a3]; exact (rels_leaf hv hs he0).mono s keep
  | none =>
    have ep : putD kvs k y v = kvs ++ [(k, y, v)] := by
      unfold putD
      rw [kvs_any ek hc, w]; rfl
    have a1 : (putD kvs k y v).map (·.2.1) = kvs.map (·.2.1) ++ [y] := by rw [ep, List.map_append]; rfl
    have a2 : (putD kvs k y v).map (fun q => some q.1) = kvs.map (fun q => some q.1) ++ [some k] := by rw [ep, List.map_append]; rfl
    have a3 : (putD kvs k y v).map (·.2.2) = kvs.map (·.2.2) ++ [v] := by rw [ep, List.map_append]; rfl
    refine .dic (kvs := putD kvs k y v) upd_same ?_ ?_ ?_ nf
    · rw [a1]; exact (DtAll.mono s hk).snoc (Dt.mono s hy)
    · rw [a2, List.map_append, hc, List.map_singleton, ek]
    · rw [a3]
      have := (hs.mono s keep).snoc (w := v) (n := M.leaf e) (g := []) (.leaf (Dt.mono s hv)) (fun _ _ hb => by cases hb)
      rw [List.append_nil] at this
      exact this
end
section
variable {X : Cx} {st : Stmt} {pos : Pos}
theorem fe_dnew (hw : X.w = TB.w) : FE X (.Dict [] [] pos) dNewD := by
  refine pe_dnew.mo ?_
  rw [hw]
  rintro σ H Q ⟨C, ρ, Qd, R, h, post⟩ p hp
  refine post _ _ (.nt (.dic [] [])) (R.lay hp) (Kq.new hp) ⟨[p], fun b hb => by rw [List.mem_singleton.mp hb]; exact hp, .dic (kvs := []) upd_same .nil rfl .nil (by simp)⟩ h
theorem fs_setD {i : Nat} {tk tv : TED} (hw : X.w = TB.w) (h : PS X st (tAsg (up X.K tv) (gSub (tVar i) (up X.K tk) (rDSet X.w)))) : FS X st (dSetD i tk tv) := by
  rw [hw] at h
  refine h.mo ?_
  rintro D σ H ⟨C, ρ, Dd, R, ⟨ks, ms, e, h⟩, L⟩
  refine ⟨C, ρ, _, R, h, ?_⟩
  rintro v H1 x R1 k1 e1 ⟨ev, hs, h2⟩
  have g := R.stOf e1 hs
  obtain ⟨w, h1, _⟩ := R.val i _ e
  refine ⟨w, h1, C, ρ, _, R1, h2, ?_⟩
  rintro u H2 y R2 k2 e2 ⟨d, rfl, un, hz, old, q⟩
  obtain ⟨φ, T⟩ := R2.tre
  obtain ⟨w', g1, g2, g3⟩ := T.rel i _ e
  rw [h1] at g1; cases g1
  obtain ⟨p, kvs, f, rfl, hp, hk, hc, hm, nf, ef⟩ : ∃ p kvs f, w = .ref p ∧ H2 p = some (DicO TB.w p kvs) ∧ DtAll (wo (bad C ρ σ) H2) (kvs.map (·.2.1)) ks ∧ ks.map canon = kvs.map (fun q => some q.1) ∧ RelMs H2 (bad C ρ σ) (kvs.map (·.2.2)) ms f ∧ p ∉ f ∧ φ i = p :: f := by
    generalize φ i = ff at g2
    cases g2 with
    | dic a b c d n => exact ⟨_, _, _, rfl, a, b, c, d, n, rfl⟩
  obtain ⟨k, ek⟩ := uni_some un
  have gd := Dt.mono (R1.kp k2) g
  have pG : C.G p := g3 p (by rw [ef]; exact List.mem_cons_self)
  have hl : kvs.length = ms.length := by have := hm.len; rwa [List.length_map] at this
  refine ⟨p, kvs, k, rfl, hp, uni_of hk hc e2 ek un, by rw [hl]; exact hz, fun nd => ?_⟩
  refine L.nx _ _ _ (R2.putT0 T e h1 (fun c q z => ?_) (fun a xs z => ?_) (by rw [ef]; exact List.mem_cons_self) (by rw [ef]; exact rel_put rfl nd hk hc hm nf (.inr (.inr (.inr pG))) (fun b hb => .inr (.inr (.inr (g3 b (by rw [ef]; exact List.mem_cons_of_mem _ hb))))) ek e2 gd old)) q
  · rw [hp] at z; exact dic_code (Option.some.inj z)
  · rw [hp] at z; cases z
end
end My
namespace My
open PySem PySem.Spec PyProof.Rows L2
variable [TB]

/-! ### {k: v for ..}, keys ints and texts -/
def putA (acc : List (Key × PyData)) (k : Key) (e : PyData) : List (Key × PyData) := if acc.any (fun p => decide (p.1 = k)) then acc.map (fun p => if p.1 = k then (p.1, e) else p) else acc ++ [(k, e)]
theorem putA_len (acc : List (Key × PyData)) (k : Key) (e : PyData) : (putA acc k e).length ≤ acc.length + 1 := by
  unfold putA
  split
  · rw [List.length_map]; omega
  · rw [List.length_append]; simp
def lcD (el : ItD → (Option (Key × PyData) → Prop) → Prop) : List ItD → List (Key × PyData) → (List (Key × PyData) → Prop) → Prop
  | [], acc, Q => Q acc
  | x :: xs, acc, Q => el x fun o => match o with
    | none => lcD el xs acc Q
    | some p => acc.length < sizeLine ∧ lcD el xs (putA acc p.1 p.2) Q
def elD (g : TGD) (tt : TTD) (tk tv : TED) (x : ItD) (ρ : Ro) (K : Option (Key × PyData) → Prop) : Prop := g x ρ fun ρ2 => tt ρ2 fun b => if b = true then tk ρ2 fun y => ∃ k, y = .p (keyD k) ∧ tv ρ2 fun z => ∃ e, z.st = some e ∧ K (some (k, e)) else K none
def dicA (acc : List (Key × PyData)) : M := .dic (acc.map fun p => keyD p.1) (acc.map fun p => .leaf p.2)
def dDc (ti : TID) (g : TGD) (tt : TTD) (tk tv : TED) (vs : List Nat) : TED := fun ρ Q => ti ρ fun items => lcD (fun x K => elD g tt tk tv x (dWipe ρ vs) K) items [] fun acc => Q (.nt (dicA acc))
section
variable {K : PySem.W.Frag} {C : Cd} {ρ : Ro} {σ : L2.St} {H H1 H2 H' : Hp}
def RelK (B : Addr → Prop) (H : Hp) : List (Key × V) → List (Key × PyData) → Prop := Paired fun p q => p.1 = q.1 ∧ Dt (wo B H) p.2 q.2
theorem RelK.mono {B B' : Addr → Prop} (s : Same (wo B H) (wo B' H')) : ∀ {kvs : List (Key × V)} {acc : List (Key × PyData)}, RelK B H kvs acc → RelK B' H' kvs acc
  | _, _, .nil => .nil
  | _, _, .cons h t => .cons ⟨h.1, Dt.mono s h.2⟩ (RelK.mono s t)
theorem RelK.any {B : Addr → Prop} (k : Key) : ∀ {kvs : List (Key × V)} {acc : List (Key × PyData)}, RelK B H kvs acc → (kvs.any fun kv => decide (kv.1 = k)) = acc.any fun p => decide (p.1 = k)
  | _, _, .nil => rfl
  | _, _, .cons h t => by rw [List.any_cons, List.any_cons, RelK.any k t, h.1]
theorem RelK.put {B : Addr → Prop} {kvs : List (Key × V)} {acc : List (Key × PyData)} {k : Key} {v : V} {e : PyData} (r : RelK B H kvs acc) (hv : Dt (wo B H) v e) : RelK B H (putK kvs k v) (putA acc k e) := by
  unfold putK putA
  rw [r.any k]
  split
  · rename_i hq
    clear hq
    induction r with
    | nil => exact .nil
    | @cons p q ps qs h t ih =>
      rw [List.map_cons, List.map_cons]
      refine .cons ?_ ih
      by_cases z : p.1 = k
      · rw [if_pos z, if_pos (h.1 ▸ z)]
        exact ⟨h.1, hv⟩
      · rw [if_neg z, if_neg (h.1 ▸ z)]
        exact h
  · exact Paired.snoc r ⟨rfl, hv⟩
theorem RelK.keys {B : Addr → Prop} : ∀ {kvs : List (Key × V)} {acc : List (Key × PyData)}, RelK B H kvs acc → kvs.map (·.1) = acc.map (·.1) ∧ DtAll (wo B H) (kvs.map (·.2)) (acc.map (·.2))
  | _, _, .nil => ⟨rfl, .nil⟩
  | _, _, .cons h t => by
    obtain ⟨h1, h2⟩ := RelK.keys t
    exact ⟨by rw [List.map_cons, List.map_cons, h1, h.1], .cons h.2 h2⟩
theorem keyD_of {B : Addr → Prop} {y : V} {k : Key} (h : Dt (wo B H) y (keyD k)) : y = kV k := by
  cases k with
  | inl i => cases h; rfl
  | inr x => cases h; rfl
theorem up_dc {ti : TID} {l : List Nat} {g : TGD} {tt : TTD} {tk tv : TED} {vs : List Nat} (hl : ∀ j ∈ l, j ∈ vs) : ∀ σ H Q, up K (dDc ti g tt tk tv vs) σ H Q → tMx TB.w (tDc (upI K ti) (upG K l g) (upT K tt) (up K tk) (up K tv) vs) σ H Q := by
  rintro σ H Q ⟨C, ρ, Qd, R, h, post⟩
  refine ⟨C, ρ, _, R, h, ?_⟩
  rintro J H1 items pins R1 k1 wk q D hD
  have hD0 : H D = none := k1.free (R1.t1 hD) hD
  have hH0 : C.H0 D = none := R.h0n hD0
  refine ⟨fun i m Hc => m = items.length - i ∧ i ≤ items.length ∧ Kq C.t H1 Hc ∧ ∃ acc kvs, Rep K ((C.add pins).at D) ρ σ Hc ∧ Hc D = some (.dK kvs) ∧ RelK (bad ((C.add pins).at D) ρ σ) Hc kvs acc ∧
      acc.length ≤ sizeLine ∧ lcD (fun x K => elD g tt tk tv x (dWipe ρ vs) K) (items.drop i) acc fun acc => Qd (.nt (dicA acc)),
    ⟨_, rfl, Nat.zero_le _, Kq.new hD, [], [], R1.open hD, upd_same, .nil, Nat.zero_le _, by simpa using q⟩, ?_⟩
  rintro i m Hc ⟨rfl, hi, kc, acc, kvs, RD, hDc, hacc, hz, q⟩
  by_cases hlt : i < items.length
  · right
    rw [List.drop_eq_getElem_cons hlt] at q
    obtain ⟨go, hy⟩ := wk.go ((C.add pins).at D) ρ σ Hc i _ rfl (has_add pins) RD (List.getElem?_eq_getElem hlt)
    refine ⟨go, fun H' => i < items.length ∧ Kq C.t H1 H' ∧ ∃ acc kvs, Rep K ((C.add pins).at D) ρ σ H' ∧ H' D = some (.dK kvs) ∧ RelK (bad ((C.add pins).at D) ρ σ) H' kvs acc ∧
      acc.length ≤ sizeLine ∧ lcD (fun x K => elD g tt tk tv x (dWipe ρ vs) K) (items.drop (i + 1)) acc fun acc => Qd (.nt (dicA acc)), ?_, ?_⟩
    · rintro H' ⟨h1, h2, h3⟩
      exact ⟨items.length - (i + 1), by omega, rfl, h1, h2, h3⟩
    · intro x H' y
      obtain ⟨k2, R2, r2⟩ := hy x H' y
      have k2 : Kq C.t Hc H' := k2
      have R2w := R2.wiped vs
      have s0 : Same (wo (bad ((C.add pins).at D) ρ σ) H') (wo (bad (((C.add pins).at D).wp ρ σ vs) (dWipe ρ vs) (wipe σ vs)) H') := wo_mono (fun _ z => bad_wp.mp z) fun _ _ _ e => e
      have rI : RelI K (((C.add pins).at D).wp ρ σ vs) (dWipe ρ vs) (wipe σ vs) H' x items[i] := by
        revert r2
        generalize items[i] = z
        intro r2
        cases z with
        | one d => exact Dt.mono s0 r2
        | two d e =>
          obtain ⟨T, v1, v2, e1, e2, e3, e4⟩ := r2
          exact ⟨T, v1, v2, e1, e2, Dt.mono s0 e3, Dt.mono s0 e4⟩
      refine ⟨((C.add pins).at D).wp ρ σ vs, dWipe ρ vs, items[i], _, R2w, rI, q, fun ρ2 σ2 R3 a3 s3 q3 => ⟨wipe_agr a3.1 hl, ?_⟩⟩
      refine ⟨((C.add pins).at D).wp ρ σ vs, ρ2, _, R3, q3, fun b H3 R4 k4 q4 => ?_⟩
      have k4 : Kq C.t H' H3 := k4
      have nDt : nx C.t D := R1.t1 hD
      cases b with
      | false =>
        rw [if_neg Bool.false_ne_true] at q4
        show (if false = true then _ else _)
        rw [if_neg Bool.false_ne_true]
        have k : Kq C.t Hc H3 := k2.trans k4
        have RD' := RD.step (C := (C.add pins).at D) k R4.tp R4.tab
        exact ⟨hlt, kc.trans k, acc, kvs, RD', k D _ nDt hDc, hacc.mono (RD.kp (C := (C.add pins).at D) k), hz, q4⟩
      | true =>
        rw [if_pos rfl] at q4
        show (if true = true then _ else _)
        rw [if_pos rfl]
        refine ⟨((C.add pins).at D).wp ρ σ vs, ρ2, _, R4, q4, ?_⟩
        rintro yv H4 y R5 k5 e5 ⟨key, rfl, q5⟩
        have k5 : Kq C.t H3 H4 := k5
        refine ⟨((C.add pins).at D).wp ρ σ vs, ρ2, _, R5, q5, ?_⟩
        rintro zv H5 z R6 k6 e6 ⟨d, hd, hz', q6⟩
        have k6 : Kq C.t H4 H5 := k6
        have k : Kq C.t Hc H5 := ((k2.trans k4).trans k5).trans k6
        have RD' := RD.step (C := (C.add pins).at D) k R6.tp R6.tab
        have hD5 : H5 D = some (.dK kvs) := k D _ nDt hDc
        have n1 : ¬ ownAt ρ σ D := by
          rintro ⟨j, ds, f1, f2⟩
          obtain ⟨w, g1, p, ws, rfl, g3, g4, g5, g6⟩ := RD'.val j _ f1
          rw [f2] at g1
          cases g1
          exact g5.2 (.inr rfl)
        have n0 : ¬ C.S0 D := R.s0n hH0
        have n3 : D ≠ C.t.2 := fun z => n0 (z ▸ R.s2)
        have hR : Rep K ((C.add pins).at D) ρ σ (upd H5 D (.dK (putK kvs key zv))) := Rep.grow (C := C.add pins) RD' hD5 (fun _ _ z => by cases z) (fun c q => by rw [hD5]; exact fun z => by unfold LamX.CodeO at z; cases z) n0 n1 nDt n3 hH0
        have bd : bad ((C.add pins).at D) ρ σ D := .inr (.inl (.inr rfl))
        have s1 : Same (wo (bad ((C.add pins).at D) ρ σ) H5) (wo (bad ((C.add pins).at D) ρ σ) (upd H5 D (.dK (putK kvs key zv)))) := fun a o e => by
          obtain ⟨f1, f2⟩ := wo_of e
          exact wo_mk f1 (by rw [upd_ne (fun z => f1 (by rw [z]; exact bd))]; exact f2)
        have s2 : Same (wo (bad (((C.add pins).at D).wp ρ σ vs) ρ2 σ2) H5) (wo (bad ((C.add pins).at D) ρ σ) H5) := wo_mono (fun b z => by
          rcases bad_wp.mpr z with z | z | ⟨j, ds, f1, f2⟩ | z
          · exact .inl z
          · exact .inr (.inl z)
          rotate_left
          · exact .inr (.inr (.inr z))
          · have nj := (dWipe_some f1).2
            exact .inr (.inr (.inl ⟨j, ds, by rw [a3.2.2 j (fun z => nj (hl j z))]; exact f1, by rw [a3.1.2 j (fun z => nj (hl j z))]; exact f2⟩))) fun _ _ _ e => e
        have gd := Dt.mono s1 (Dt.mono s2 (R5.stOf e6 hd))
        have ga := (hacc.mono (RD.kp (C := (C.add pins).at D) k)).mono s1
        have hkl : kvs.length = acc.length := Paired.length hacc
        refine ⟨kvs, key, keyD_of e5, hD5, by rw [hkl]; exact hz', hlt, fun b o nb e => ?_, putA acc key d, putK kvs key zv, hR, upd_same, ga.put gd, by have := putA_len acc key d; omega, q6⟩
        rw [upd_ne (ne_of_none e hD)]
        exact (kc.trans k) b o nb e
  · left
    have e : i = items.length := by omega
    subst e
    rw [List.drop_length] at q
    refine ⟨wk.stop ((C.add pins).at D) ρ σ Hc rfl (has_add pins) RD, D, kvs, rfl, hDc, ?_⟩
    have nDt : nx C.t D := R1.t1 hD
    have n1 : ¬ ownAt ρ σ D := by
      rintro ⟨j, ds, f1, f2⟩
      obtain ⟨w, g1, p, ws, rfl, g3, g4, g5, g6⟩ := RD.val j _ f1
      rw [f2] at g1
      cases g1
      exact g5.2 (.inr rfl)
    have n0 : ¬ C.S0 D := R.s0n hH0
    have n3 : D ≠ C.t.2 := fun z => n0 (z ▸ R.s2)
    have hR : Rep K ((C.add pins).at D) ρ σ (upd Hc D (DicO TB.w D (mxK kvs))) := Rep.grow (C := C.add pins) RD hDc (fun _ _ z => by cases z) (fun c q => by rw [hDc]; exact fun z => by unfold LamX.CodeO at z; cases z) n0 n1 nDt n3 hH0
    have bd : bad ((C.add pins).at D) ρ σ D := .inr (.inl (.inr rfl))
    have kq : Kq C.t H (upd Hc D (DicO TB.w D (mxK kvs))) := fun b o n e => by
      rw [upd_ne (fun z => by rw [z, hD0] at e; cases e)]
      exact (k1.trans kc) b o n e
    have s : Same (wo (bad ((C.add pins).at D) ρ σ) Hc) (wo (fun b => bad C ρ σ b ∨ b ∈ [D]) (upd Hc D (DicO TB.w D (mxK kvs)))) := fun a o e => by
      obtain ⟨f1, f2⟩ := wo_of e
      refine wo_mk (fun z => f1 ?_) (by rw [upd_ne (fun z => f1 (by rw [z]; exact bd))]; exact f2)
      exact bad_at.mpr (z.elim (fun z => .inl z) fun z => .inr (List.mem_singleton.mp z))
    obtain ⟨g3, g4⟩ := RelK.keys hacc
    obtain ⟨m1, m2, m3⟩ := mx_keys kvs
    obtain ⟨c1, c2⟩ := keys_dt (H := Hc) (B := bad ((C.add pins).at D) ρ σ) g3
    refine post (.ref D) _ (.nt (dicA acc)) hR.shut.unpin kq ⟨[D], fun b hb => by rw [List.mem_singleton.mp hb]; exact hD0, ?_⟩ q
    refine .dic (kvs := mxK kvs) upd_same (by rw [m2]; exact DtAll.mono s c1) ?_ ?_ (by simp)
    · rw [c2, show (mxK kvs).map (fun q => some q.1) = ((mxK kvs).map (·.1)).map some by rw [List.map_map]; rfl, m1, List.map_map]; rfl
    · rw [m3, show (acc.map fun p => M.leaf p.2) = (acc.map (·.2)).map M.leaf by rw [List.map_map]; rfl]
      exact RelMs.leaves (DtAll.mono s g4)
end
section
variable {X : Cx} {pos : Pos}
theorem fe_dc {kx vx tg iter : Expr} {ifs : List Expr} {scope : Scope} {own : List (Str × Nat)} {ti : TID} {l : List Nat} {g : TGD} {tt : TTD} {tk tv : TED} (hw : X.w = TB.w) (hc : X.calm = true) (hN : X.N.Nodup) (hi : FI X tg iter ti) (ok : BlkOk X.N X.env.scope scope own)
    (hg : ∀ (s : Shared) (H : Hp) (C : Addr) (cl : List (Str × Addr)) (fp : List Addr), FG (X.blk s H scope (compEnvC scope cl C X.env) fp) tg l g) (ht : ∀ (s : Shared) (H : Hp) (C : Addr) (cl : List (Str × Addr)) (fp : List Addr), FTs (X.blk s H scope (compEnvC scope cl C X.env) fp) ifs tt)
    (hk : ∀ (s : Shared) (H : Hp) (C : Addr) (cl : List (Str × Addr)) (fp : List Addr), FE (X.blk s H scope (compEnvC scope cl C X.env) fp) kx tk)
    (he : ∀ (s : Shared) (H : Hp) (C : Addr) (cl : List (Str × Addr)) (fp : List Addr), FE (X.blk s H scope (compEnvC scope cl C X.env) fp) vx tv) (hl : ∀ j ∈ l, j ∈ own.map (·.2)) (hs : ∀ x, foldedSetIterable iter X.env x = pure x := by intro _; rfl) :
    FE X (.DictComp kx vx [⟨tg, iter, ifs, 0⟩] scope pos) (dDc ti g tt tk tv (own.map (·.2))) := by
  have := pe_mx (pe_dc (kx := kx) (vx := vx) (g := upG X.K l g) (tt := upT X.K tt) (tk := up X.K tk) (tv := up X.K tv) (pos := pos) hc hN hi ok hg ht hk he hs)
  rw [hw] at this
  exact this.mo (up_dc hl)
end
end My
namespace My
open PySem PySem.Spec PyProof.Rows L2
variable [TB]

/-! ### {k: v}, k an int or a text -/
def dDisp1 (tk tv : TED) : TED := fun ρ Q => tk ρ fun y => ∃ k, y = .p (keyD k) ∧ tv ρ fun z => ∃ e, z.st = some e ∧ Q (.nt (dicA [(k, e)]))
section
variable {K : PySem.W.Frag} {C : Cd} {ρ : Ro} {σ : L2.St} {H H1 H2 H' : Hp}
theorem up_disp1 {tk tv : TED} : ∀ σ H Q, up K (dDisp1 tk tv) σ H Q → tMx TB.w (tDisp [(up K tk, up K tv)]) σ H Q := by
  rintro σ H Q ⟨C, ρ, Qd, R, h, post⟩ p hp
  have hH0 : C.H0 p = none := R.h0n hp
  have np : nx C.t p := R.t1 hp
  refine ⟨C.at p, ρ, _, R.open hp (o := .dK []), h, ?_⟩
  rintro yv H1 y R1 k1 e1 ⟨k, rfl, h1⟩
  have k1 : Kq C.t (upd H p (.dK [])) H1 := k1
  refine ⟨C.at p, ρ, _, R1, h1, ?_⟩
  rintro zv H2 z R2 k2 e2 ⟨e, hs, q⟩
  have k2 : Kq C.t H1 H2 := k2
  have gz := R1.stOf e2 hs
  have p2 : H2 p = some (.dK []) := k2 p _ np (k1 p _ np upd_same)
  refine ⟨p2, [(k, zv)], by rw [keyD_of e1]; rfl, by show 1 ≤ 15; decide, p, [(k, zv)], rfl, upd_same, ?_⟩
  have n1 : ¬ ownAt ρ σ p := by
    rintro ⟨j, ds, f1, f2⟩
    obtain ⟨w, g1, p', ws, rfl, g3, g4, g5, g6⟩ := R2.val j _ f1
    rw [f2] at g1
    cases g1
    exact g5.2 (.inr rfl)
  have n0 : ¬ C.S0 p := R.s0n hH0
  have n3 : p ≠ C.t.2 := fun z => n0 (z ▸ R.s2)
  have hR1 : Rep K (C.at p) ρ σ (upd H2 p (.dK [(k, zv)])) := Rep.grow R2 p2 (fun _ _ z => by cases z) (fun c q => by rw [p2]; exact fun z => by unfold LamX.CodeO at z; cases z) n0 n1 np n3 hH0
  have hR : Rep K (C.at p) ρ σ (upd (upd H2 p (.dK [(k, zv)])) p (DicO TB.w p (mxK [(k, zv)]))) := Rep.grow hR1 upd_same (fun _ _ z => by cases z) (fun c q => by rw [upd_same]; exact fun z => by unfold LamX.CodeO at z; cases z) n0 n1 np n3 hH0
  have bd : bad (C.at p) ρ σ p := .inr (.inl (.inr rfl))
  have kq : Kq C.t H (upd (upd H2 p (.dK [(k, zv)])) p (DicO TB.w p (mxK [(k, zv)]))) := fun b o n e => by
    have nb : b ≠ p := fun z => by rw [z, hp] at e; cases e
    rw [upd_ne nb, upd_ne nb]
    exact k2 b o n (k1 b o n (by rw [upd_ne nb]; exact e))
  have s : Same (wo (bad (C.at p) ρ σ) H2) (wo (fun b => bad C ρ σ b ∨ b ∈ [p]) (upd (upd H2 p (.dK [(k, zv)])) p (DicO TB.w p (mxK [(k, zv)])))) := fun a o e => by
    obtain ⟨f1, f2⟩ := wo_of e
    have na : a ≠ p := fun z => f1 (by rw [z]; exact bd)
    refine wo_mk (fun z => f1 ?_) (by rw [upd_ne na, upd_ne na]; exact f2)
    exact bad_at.mpr (z.elim (fun z => .inl z) fun z => .inr (List.mem_singleton.mp z))
  have hacc : RelK (bad (C.at p) ρ σ) H2 [(k, zv)] [(k, e)] := .cons ⟨rfl, gz⟩ .nil
  obtain ⟨g3, g4⟩ := RelK.keys hacc
  obtain ⟨m1, m2, m3⟩ := mx_keys [(k, zv)]
  obtain ⟨c1, c2⟩ := keys_dt (H := H2) (B := bad (C.at p) ρ σ) g3
  refine post (.ref p) _ (.nt (dicA [(k, e)])) hR.shut kq ⟨[p], fun b hb => by rw [List.mem_singleton.mp hb]; exact hp, ?_⟩ q
  refine .dic (kvs := mxK [(k, zv)]) upd_same (by rw [m2]; exact DtAll.mono s c1) ?_ ?_ (by simp)
  · rw [c2]; rfl
  · rw [m3]
    exact RelMs.leaves (ds := [e]) (DtAll.mono s g4)
end
section
variable {X : Cx} {pos : Pos}
theorem fe_disp1 {k v : Expr} {tk tv : TED} (hw : X.w = TB.w) (hk : FE X k tk) (hv : FE X v tv) : FE X (.Dict [some k] [v] pos) (dDisp1 tk tv) := by
  have := pe_mx (pe_disp (pos := pos) (pps_cons (tk := up X.K tk) (tv := up X.K tv) hk hv pps_nil) rfl rfl (by simp) (by show 1 ≤ 15; decide))
  rw [hw] at this
  exact this.mo up_disp1
theorem set_dicU (hu : X.A.units + 65 < cLine) : PSet X (rDSet X.w) := set_dic (by omega)
end
end My
namespace My
open PySem PySem.Spec PyProof.Rows L2
/-! ### d.setdefault(k, x), the dict told in full -/
section
variable {prog : Program} {w : World} {K : Type} [DecidableEq K] {knd : KeyKind prog w K} {A : Around} {E : Value → Shared → Prop} {s : Shared}
/-- a key that is not there yet -/
theorem absent_pairs {d : Addr} {kvs : List (K × Value)} {k : K} {key x : Value} {Q : Value → Shared → Prop} (hkey : knd.is k key = true) (hm : s.heap.DictOf knd d kvs) (hn : valueAt kvs k = none) (hz : kvs.length ≤ sizeLine)
    (q : ∀ h', h'.DictOf knd d (kvs ++ [(k, x)]) → Heap.SameBut d s.heap h' → Q x { s with heap := h', toks := s.toks + 1 }) : wpAny (model prog w) A (dictSetDefault d key x) Q E s := by
  have no : k ∉ kvs.map (·.1) := fun z => by
    obtain ⟨p, hp, e⟩ := List.mem_map.mp z
    unfold valueAt at hn
    rw [Option.map_eq_none_iff, List.find?_eq_none] at hn
    exact hn p hp (decide_eq_true e)
  obtain ⟨o, es, ep, g1, g2, g3, g4, g5, g6⟩ := hm
  have le : es.size ≤ sizeLine := by
    have := g5.length
    rw [← Array.length_toList]
    omega
  have nf : (es.findIdx? fun e => knd.is k e.key) = none := by
    have t := g5.findIdx k
    have u : (kvs.findIdx? fun kv => decide (kv.1 = k)) = none := List.findIdx?_eq_none_iff.mpr fun p hp => decide_eq_false fun e => no (List.mem_map.mpr ⟨p, hp, e⟩)
    rw [u] at t
    rw [← t]
    cases es
    simp
  unfold dictSetDefault
  try with_reducible refine wpAny_holding ?_
  refine wpAny_bind (knd.pyHash hkey (wpAny_bind (wpAny_dictFind_of (s := { s with toks := s.toks + 1 }) hkey g1 g3 g4 ?_)))
  rw [nf]
  refine wpAny_bind (wpAny_rule (wpAny_bind (wpAny_updateDictKeys (hz := le) (s := { s with toks := s.toks + 1 }) g1 g3 (wpAny_pure (q _ ⟨_, _, ep + 1, Heap.get?_update_self _ g1 (Obj.isFreed_of_dict (Obj.data_mapDictKeys g3 _)), g2.mapDictKeys _, Obj.data_mapDictKeys g3 _, g4.push hkey _, ?_, ?_⟩ (Heap.SameBut.update ..))))))
  · have := g5.append hkey (knd.hash k) x
    cases es
    simpa using this
  · rw [List.map_append, List.map_singleton]
    exact List.nodup_append.mpr ⟨g6, by simp, fun a ha b hb e => no ((show a = k from e.trans (List.mem_singleton.mp hb)) ▸ ha)⟩
/-- one that is there -/
theorem present_pairs {d : Addr} {kvs : List (K × Value)} {k : K} {key x v : Value} {Q : Value → Shared → Prop} (hkey : knd.is k key = true) (hm : s.heap.DictOf knd d kvs) (hv : valueAt kvs k = some v) (hz : s.heap.DictLe d sizeLine)
    (q : Q v { s with toks := s.toks + 1 }) : wpAny (model prog w) A (dictSetDefault d key x) Q E s :=
  wpAny_dictSetDefault_of (hz := hz) hkey hm.mapOf (fun v' e => by rw [hv] at e; cases e; exact q) fun e => by rw [hv] at e; cases e
theorem le_of {d : Addr} {kvs : List (K × Value)} (hm : s.heap.DictOf knd d kvs) (hz : kvs.length ≤ sizeLine) : s.heap.DictLe d sizeLine := by
  obtain ⟨o, es, ep, g1, g2, g3, g4, g5, g6⟩ := hm
  intro o' es' ep' h1 h2
  rw [g1] at h1
  cases h1
  rw [g3] at h2
  cases h2
  have := g5.length
  rw [← Array.length_toList]
  omega
theorem meets_sd {d : Addr} {k : K} {key x : Value} (hkey : knd.is k key = true) (hd : (d == sysModules) = false) :
    MeetsIn prog w (Builtin.«dict.setdefault» ⟨[.ref d, key, x], []⟩) (fun _ R s => ∃ kvs, s.heap.DictOf knd d kvs ∧ kvs.length ≤ sizeLine ∧ (∀ v, valueAt kvs k = some v → R (.ok (.ret v)) { s with toks := s.toks + 1 }) ∧
      (valueAt kvs k = none → ∀ h', h'.DictOf knd d (kvs ++ [(k, x)]) → Heap.SameBut d s.heap h' → R (.ok (.ret x)) { s with heap := h', toks := s.toks + 1 })) :=
  .of_wp fun A R s ⟨kvs, hm, hz, q1, q2⟩ => by
    unfold Builtin.«dict.setdefault»
    refine wpAny_bind ?_
    unfold Builtin.Dict.keyAndDefault
    refine wpAny_bind (wpAny_notOrdered_dict hm.typeIs (wpAny_pure ?_))
    show wpAny _ _ (if (d == sysModules) = true then _ else (dictSetDefault d key x >>= _)) _ _ s
    rw [if_neg (by rw [hd]; exact Bool.false_ne_true)]
    refine wpAny_bind ?_
    cases e : valueAt kvs k with
    | some v => exact present_pairs hkey hm e (le_of hm hz) (wpAny_pure ⟨v, rfl, q1 v e⟩)
    | none => exact absent_pairs hkey hm e hz fun h' g1 g2 => wpAny_pure ⟨x, rfl, q2 e h' g1 g2⟩
end
/-- d.setdefault(y, x) -/
def rDSd (w : World) : V → List V → Hp → VK → Prop := fun o xs H Q => ∃ a kvs k y x, o = .ref a ∧ xs = [y, x] ∧ H a = some (DicO w a kvs) ∧ UniK H kvs y k ∧ kvs.length < sizeLine ∧ (∀ v, fnd kvs k = some v → Q v H) ∧
  (fnd kvs k = none → Q x (upd H a (DicO w a (kvs ++ [(k, y, x)]))))
section
variable {X : Cx}
theorem mt_sd (hu : X.A.units + 9 < cLine) : MtM X "dict.setdefault" (rDSd X.w) := by
  intro pins s σ H o xs v us Q I ro rs h
  obtain ⟨a, kvs, k, y, x, rfl, rfl, e, U, hl, q1, q2⟩ := h
  cases ro
  cases rs with
  | @cons _ u _ _ ry rs =>
    cases rs with
    | @cons _ r _ _ rx rs =>
      cases rs
      have R := dc_raw I e
      have hz : (kvs ++ [(k, y, x)]).length ≤ sizeLine := by rw [List.length_append, List.length_singleton]; omega
      have fin : ∀ (h' : Heap) (t' : Nat), RawD X.w h' a (kvs ++ [(k, y, x)]) → Heap.SameBut a s.heap h' → Inv X pins σ (upd H a (DicO X.w a (kvs ++ [(k, y, x)]))) { s with heap := h', toks := t' } := fun h' t' R' hs =>
        d_write I (by rw [e]; exact True.intro) hs (let ⟨o, _, _, h1, _⟩ := R'.ex; ⟨o, h1⟩) R'.ok
      have put : fnd kvs k = none → putD kvs k y x = kvs ++ [(k, y, x)] := fun hn => by
        unfold putD
        rw [fnd_any, hn]; rfl
      have some' : ∀ {v' : Value}, RelO (fnd kvs k) (some v') → ∃ v, fnd kvs k = some v ∧ RelV v v' := fun {v'} r => by
        cases q : fnd kvs k with
        | none => rw [q] at r; exact r.elim
        | some v => rw [q] at r; exact ⟨v, rfl, r⟩
      have none' : RelO (fnd kvs k) (none : Option Value) → fnd kvs k = none := fun r => by
        cases q : fnd kvs k with
        | none => rfl
        | some v => rw [q] at r; exact r.elim
      cases U with
      | mix k hk =>
        obtain ⟨vs, r1, dd⟩ := Emb.dict (m := mixE X.prog X.w) R hk
        have rf := Emb.find (m := mixE X.prog X.w) r1 k
        refine call_meetsIn PySem.F.slot_dict_setdefault dd.typeIs PySem.F.entry_dict_setdefault (PySem.F.args_dict_setdefault_3 _ _ _) (meets_sd (knd := mixKind X.prog X.w) (k := k) (((mixE X.prog X.w).is k u).mpr ry) R.s) ⟨vs, dd, by rw [← Paired.length r1]; exact R.z, fun v' ev => ?_, fun ev h' dd' hs => ?_⟩
        · rw [ev] at rf
          obtain ⟨v, e1, e2⟩ := some' rf
          exact ⟨v, H, I.tok _, e2, q1 v e1⟩
        · rw [ev] at rf
          have en := none' rf
          have rp := Emb.put (m := mixE X.prog X.w) r1 k rx
          have es : stored vs k r = vs ++ [(k, r)] := by
            unfold stored
            rw [← Emb.any (m := mixE X.prog X.w) r1 k, fnd_any, show fnd kvs ((mixE X.prog X.w).f k).1 = none from en]; rfl
          rw [es, show putD kvs ((mixE X.prog X.w).f k).1 ((mixE X.prog X.w).f k).2 x = _ from put en] at rp
          exact ⟨x, _, fin h' _ (Emb.raw (m := mixE X.prog X.w) rp dd' hz R.s) hs, rx, q2 en⟩
      | boo k hk =>
        obtain ⟨vs, r1, dd⟩ := Emb.dict (m := booE X.prog X.w) R hk
        have rf := Emb.find (m := booE X.prog X.w) r1 k
        refine call_meetsIn PySem.F.slot_dict_setdefault dd.typeIs PySem.F.entry_dict_setdefault (PySem.F.args_dict_setdefault_3 _ _ _) (meets_sd (knd := PpSet.boolK X.prog X.w) (k := k) (((booE X.prog X.w).is k u).mpr ry) R.s) ⟨vs, dd, by rw [← Paired.length r1]; exact R.z, fun v' ev => ?_, fun ev h' dd' hs => ?_⟩
        · rw [ev] at rf
          obtain ⟨v, e1, e2⟩ := some' rf
          exact ⟨v, H, I.tok _, e2, q1 v e1⟩
        · rw [ev] at rf
          have en := none' rf
          have rp := Emb.put (m := booE X.prog X.w) r1 k rx
          have es : stored vs k r = vs ++ [(k, r)] := by
            unfold stored
            rw [← Emb.any (m := booE X.prog X.w) r1 k, fnd_any, show fnd kvs ((booE X.prog X.w).f k).1 = none from en]; rfl
          rw [es, show putD kvs ((booE X.prog X.w).f k).1 ((booE X.prog X.w).f k).2 x = _ from put en] at rp
          exact ⟨x, _, fin h' _ (Emb.raw (m := booE X.prog X.w) rp dd' hz R.s) hs, rx, q2 en⟩
      | @tup b _ hk hd hks =>
        obtain ⟨xs, r1, dd⟩ := tup_dict I.hok R hks
        have rf := tup_find r1 k
        cases (show u = Value.ref _ from ry)
        refine call_meetsIn PySem.F.slot_dict_setdefault dd.typeIs PySem.F.entry_dict_setdefault (PySem.F.args_dict_setdefault_3 _ _ _) (meetsH_dict_setdefault (nestedKind X.prog X.w) a _ R.s r) ⟨room9 (A := X.A) hu, k, xs, ⟨hk.nested I.hok rfl, hd⟩, dd, by rw [← Paired.length r1]; exact R.z, fun p ep => ?_, fun en h' dd' hs => ?_⟩
        · rw [ep] at rf
          obtain ⟨v, e1, e2⟩ := some' rf
          exact ⟨v, H, I.tok _, e2, q1 v e1⟩
        · rw [en] at rf
          have en' := none' rf
          have rp := tup_put r1 k (b := b) rx
          rw [put en'] at rp
          exact ⟨x, _, fin h' _ (tup_raw rp dd' hz R.s) hs, rx, q2 en'⟩
end
end My
namespace My
open PySem PySem.Spec PyProof.Rows L2
variable [TB]
/-! ### d.setdefault(k, []).append(x) -/
section
variable {K : PySem.W.Frag} {C : Cd} {ρ : Ro} {σ : L2.St} {H H1 H2 H' : Hp} {v : V} {x : D}
/-- a tree is written, and takes a new place -/
theorem Rep.putTG (R : Rep K C ρ σ H) (R1 : Rep K C ρ σ H1) (k : Kq C.t H H1) {φ : Nat → List Addr} (T : Trees C ρ σ H φ) {i : Nat} {m n : M} {o : HO} {p l : Addr} (h1 : ρ[i]? = some (some (.ot m))) (h2 : σ[i]? = some (some v)) (hc : ∀ c q, H1 p ≠ some (LamX.CodeO c q)) (hf : ∀ u xs, H1 p ≠ some (.frz u (.tup xs)))
    (pf : p ∈ φ i) (hl : H l = none) (hl1 : ∃ u, H1 l = some u) (g4 : RelM (upd H1 p o) (fun b => bad C ρ σ b ∨ b = l) v n (φ i ++ [l])) : Rep K (C.gg fun b => C.G b ∨ b = l) (ρ.set i (some (.ot n))) σ (upd H1 p o) ∧ Trees (C.gg fun b => C.G b ∨ b = l) (ρ.set i (some (.ot n))) σ (upd H1 p o) (fun j => if j = i then φ i ++ [l] else φ j) := by
  obtain ⟨w', g1, g2, g3⟩ := T.rel i m h1
  rw [h2] at g1; cases g1
  have pg := g3 p pf
  obtain ⟨⟨o0, hp⟩, p0, pF, pO⟩ := R.g0 p pg
  have hli := (List.getElem?_eq_some_iff.mp h1).1
  have l0 : C.H0 l = none := R.h0n hl
  have lb : ¬ bad C ρ σ l := R.badN hl
  have pl : p ≠ l := fun z => by rw [z, hl] at hp; cases hp
  have ho : ∀ b, ownAt (ρ.set i (some (.ot n))) σ b ↔ ownAt ρ σ b := fun b => by
    constructor
    · rintro ⟨j, fs, e1, e2⟩
      by_cases ij : i = j
      · subst ij; rw [List.getElem?_set_self hli] at e1; cases e1
      · rw [List.getElem?_set_ne ij] at e1; exact ⟨j, fs, e1, e2⟩
    · rintro ⟨j, fs, e1, e2⟩
      by_cases ij : i = j
      · subst ij; rw [h1] at e1; cases e1
      · exact ⟨j, fs, by rw [List.getElem?_set_ne ij]; exact e1, e2⟩
  have hb : ∀ b, bad (C.gg fun b => C.G b ∨ b = l) (ρ.set i (some (.ot n))) σ b ↔ bad C ρ σ b ∨ b = l := fun b => by
    unfold bad
    rw [ho]
    constructor
    · rintro (z | z | z | z | z)
      · exact .inl (.inl z)
      · exact .inl (.inr (.inl z))
      · exact .inl (.inr (.inr (.inl z)))
      · exact .inl (.inr (.inr (.inr z)))
      · exact .inr z
    · rintro ((z | z | z | z) | z)
      · exact .inl z
      · exact .inr (.inl z)
      · exact .inr (.inr (.inl z))
      · exact .inr (.inr (.inr (.inl z)))
      · exact .inr (.inr (.inr (.inr z)))
  have pb : bad C ρ σ p := .inr (.inr (.inr pg))
  have s : Same (wo (bad C ρ σ) H) (wo (bad (C.gg fun b => C.G b ∨ b = l) (ρ.set i (some (.ot n))) σ) (upd H1 p o)) := fun a u e => by
    obtain ⟨f1, f2⟩ := wo_of e
    refine wo_mk (fun z => ((hb a).mp z).elim f1 fun y => by rw [y, hl] at f2; cases f2) (by rw [upd_ne (fun (z : a = p) => f1 (by rw [z]; exact pb))]; exact k a u (R.nxb f1) f2)
  have nt := R.ownX p0
  have se : ∀ b u, H1 b = some u → ∃ o', upd H1 p o b = some o' := fun b u e => by
    by_cases z : b = p
    · exact ⟨_, by rw [z]; exact upd_same⟩
    · exact ⟨u, by rw [upd_ne z]; exact e⟩
  have old : ∀ {j : Nat} {z : D}, (ρ.set i (some (.ot n)))[j]? = some (some z) → (i = j ∧ z = .ot n) ∨ (i ≠ j ∧ ρ[j]? = some (some z)) := fun {j z} e => by
    by_cases ij : i = j
    · subst ij
      rw [List.getElem?_set_self hli] at e
      cases e
      exact .inl ⟨rfl, rfl⟩
    · rw [List.getElem?_set_ne ij] at e
      exact .inr ⟨ij, e⟩
  have up : ∀ {a : Nat} {k : M}, (ρ.set i (some (.ot n)))[a]? = some (some (.ot k)) → ∃ k', ρ[a]? = some (some (.ot k')) := fun {a k} f => by
    rcases old f with ⟨rfl, _⟩ | ⟨_, f⟩
    · exact ⟨m, h1⟩
    · exact ⟨k, f⟩
  have lφ : ∀ (a : Nat) (k : M), ρ[a]? = some (some (.ot k)) → l ∉ φ a := fun a k e z => by
    obtain ⟨u, _, _, f3⟩ := T.rel a k e
    obtain ⟨⟨o, q⟩, _⟩ := R.g0 l (f3 l z)
    rw [hl] at q; cases q
  have tr : Trees (C.gg fun b => C.G b ∨ b = l) (ρ.set i (some (.ot n))) σ (upd H1 p o) (fun j => if j = i then φ i ++ [l] else φ j) := by
    refine ⟨fun j z e => ?_, fun a b n1 n2 c f1 f2 ne hca => ?_⟩
    · rcases old e with ⟨rfl, z⟩ | ⟨ij, e⟩
      · cases z
        refine ⟨v, h2, by rw [if_pos rfl]; exact g4.mono (wo_mono (fun b z => (hb b).mp z) fun _ _ _ e => e) fun _ _ _ e => e, fun b hbb => ?_⟩
        rw [if_pos rfl] at hbb
        rcases List.mem_append.mp hbb with hbb | hbb
        · exact .inl (g3 b hbb)
        · exact .inr (List.mem_singleton.mp hbb)
      · obtain ⟨u, f1, f2, f3⟩ := T.rel j z e
        rw [if_neg (fun z => ij z.symm)]
        exact ⟨u, f1, f2.mono s fun b hb' o e' => by rw [upd_ne (fun y => T.dis i j m z p h1 e ij pf (by subst y; exact hb'))]; exact k b o (R.ownX (R.g0 b (f3 b hb')).2.1).1 e', fun b hb' => .inl (f3 b hb')⟩
    · obtain ⟨z1, e1⟩ := up f1
      obtain ⟨z2, e2⟩ := up f2
      intro hcb
      by_cases ha : a = i
      · by_cases hbb : b = i
        · exact ne (ha.trans hbb.symm)
        · rw [if_pos ha] at hca
          rw [if_neg hbb] at hcb
          rcases List.mem_append.mp hca with hca | hca
          · exact T.dis i b m _ c h1 e2 (fun z => hbb z.symm) hca hcb
          · rw [List.mem_singleton.mp hca] at hcb
            exact lφ b _ e2 hcb
      · rw [if_neg ha] at hca
        by_cases hbb : b = i
        · rw [if_pos hbb] at hcb
          rcases List.mem_append.mp hcb with hcb | hcb
          · exact T.dis a i _ m c e1 h1 ha hca hcb
          · rw [List.mem_singleton.mp hcb] at hca
            exact lφ a _ e1 hca
        · rw [if_neg hbb] at hcb
          exact T.dis a b _ _ c e1 e2 ne hca hcb
  refine ⟨⟨by rw [List.length_set]; exact R.len, fun j y e => ?_, fun a b q gs fs f1 f2 f3 f4 => ?_, R1.tp.put nt.1.1 nt.2, fun b u n e => ?_, R1.s1, R1.s2, fun b hb' => ?_, fun b hb' => ?_, R1.s00, fun q hq => Dt.mono s (R.pin q hq), fun q hq => (R1.tin q hq).kt fun o e => by rw [upd_ne (fun z => hf _ _ (by rw [← z]; exact e))]; exact e,
    R1.s3, R1.tab.put nt.1.2 hc, ⟨_, tr⟩, fun b hb' => ?_⟩, tr⟩
  · rcases old e with ⟨rfl, rfl⟩ | ⟨ij, e⟩
    · exact ⟨v, h2, trivial⟩
    · obtain ⟨w, g1, g2⟩ := R.val j y e
      refine ⟨w, g1, g2.mono rfl (fun _ a b => .inl ⟨a, b⟩) s fun q us es' f1 f2 f3 => ?_⟩
      subst f1 f2
      obtain ⟨_, _, e4, _, _, h5, _⟩ := g2
      cases e4
      rw [upd_ne (fun z => pO (by subst z; exact ⟨j, es', e, g1⟩))]
      exact k q _ (R.ownX h5.1).1 f3
  · rcases old f1 with ⟨_, z⟩ | ⟨_, f1⟩
    · cases z
    rcases old f2 with ⟨_, z⟩ | ⟨_, f2⟩
    · cases z
    exact R.dis a b q gs fs f1 f2 f3 f4
  · rw [upd_ne (fun z => by rw [z, p0] at e; cases e)]
    exact R1.ext b u n e
  · obtain ⟨o, e⟩ := R1.s0 b hb'
    exact se b o e
  · obtain ⟨o, e⟩ := R1.f0 b hb'
    exact se b o e
  · rcases hb' with hb' | hb'
    · obtain ⟨⟨u, e⟩, g2, g3, g4⟩ := R1.g0 b hb'
      exact ⟨se b u e, g2, g3, fun z => g4 ((ho b).mp z)⟩
    · subst hb'
      obtain ⟨u, e⟩ := hl1
      exact ⟨se b u e, l0, fun z => lb (.inr (.inl z)), fun z => lb (.inr (.inr (.inl ((ho b).mp z))))⟩
theorem bad_grow {i : Nat} {m n : M} {l : Addr} (h1 : ρ[i]? = some (some (.ot m))) {b : Addr} : bad (C.gg fun b => C.G b ∨ b = l) (ρ.set i (some (.ot n))) σ b ↔ bad C ρ σ b ∨ b = l := by
  have hli := (List.getElem?_eq_some_iff.mp h1).1
  have ho : ownAt (ρ.set i (some (.ot n))) σ b ↔ ownAt ρ σ b := by
    constructor
    · rintro ⟨j, fs, e1, e2⟩
      by_cases ij : i = j
      · subst ij; rw [List.getElem?_set_self hli] at e1; cases e1
      · rw [List.getElem?_set_ne ij] at e1; exact ⟨j, fs, e1, e2⟩
    · rintro ⟨j, fs, e1, e2⟩
      by_cases ij : i = j
      · subst ij; rw [h1] at e1; cases e1
      · exact ⟨j, fs, by rw [List.getElem?_set_ne ij]; exact e1, e2⟩
  unfold bad
  rw [ho]
  constructor
  · rintro (z | z | z | z | z)
    · exact .inl (.inl z)
    · exact .inl (.inr (.inl z))
    · exact .inl (.inr (.inr (.inl z)))
    · exact .inl (.inr (.inr (.inr z)))
    · exact .inr z
  · rintro ((z | z | z | z) | z)
    · exact .inl z
    · exact .inr (.inl z)
    · exact .inr (.inr (.inl z))
    · exact .inr (.inr (.inr (.inl z)))
    · exact .inr (.inr (.inr (.inr z)))
mutual
theorem tpo_of : ∀ {d : PyData} {k : NestedKey}, canon d = some k → tpo d = true
  | .none, _, _ => rfl
  | .bool _, _, _ => rfl
  | .int _, _, _ => rfl
  | .str _, _, _ => rfl
  | .tuple ds, _, e => by
    rw [canon] at e
    cases q : canons ds with
    | none => rw [q] at e; cases e
    | some ks => exact tpos_of q
  | .list _, _, e => by rw [canon] at e; cases e
  | .dict _, _, e => by rw [canon] at e; cases e
theorem tpos_of : ∀ {ds : List PyData} {ks : List NestedKey}, canons ds = some ks → tpo.tpoAll ds = true
  | [], _, _ => rfl
  | d :: ds, _, e => by
    rw [canons] at e
    cases q : canon d with
    | none => rw [q] at e; cases e
    | some k =>
      cases r : canons ds with
      | none => rw [q, r] at e; cases e
      | some ks =>
        unfold tpo.tpoAll
        rw [tpo_of q, tpos_of r]; rfl
end
end
/-- .. where nothing is there yet, a new list -/
def sdMid (ks : List PyData) (ms : List M) (d : PyData) : M := match kIx ks d with
  | some _ => .dic ks ms
  | none => .dic (ks ++ [d]) (ms ++ [.lst []])
def sdFin (ks : List PyData) (ms : List M) (d e : PyData) : M := match kIx ks d with
  | some j => match ms[j]? with
    | some (.lst ls) => .dic ks (ms.set j (.lst (ls ++ [.leaf e])))
    | _ => .dic ks ms
  | none => .dic (ks ++ [d]) (ms ++ [.lst [.leaf e]])
def dSdApp (i : Nat) (tk tv : TED) : TSD := fun Dd ρ => ∃ ks ms, ρ[i]? = some (some (.ot (.dic ks ms))) ∧ tk ρ fun y => ∃ d, y = .p d ∧ uniB ks d = true ∧ ms.length < sizeLine ∧ (∀ j, kIx ks d = some j → ∃ ls, ms[j]? = some (.lst ls) ∧ ls.length < sizeLine) ∧
  tv (ρ.set i (some (.ot (sdMid ks ms d)))) fun x => ∃ e, x.st = some e ∧ Dd.nx (ρ.set i (some (.ot (sdFin ks ms d e))))
section
variable {X : Cx} {st : Stmt}
theorem fs_sdApp {i : Nat} {tk tv : TED} (hw : X.w = TB.w) (h : PS X st (tDrop (tBM X.K "list" rAppend (tDM X.w (rDSd X.w) (tVar i) (upA X.K (dCons tk (dCons (dLst dNil) dNil)))) (upA X.K (dCons tv dNil))))) : FS X st (dSdApp i tk tv) := by
  rw [hw] at h
  refine h.mo ?_
  rintro D σ H ⟨C, ρ, Dd, R, ⟨ks, ms, e, h⟩, L⟩
  obtain ⟨φ, T⟩ := R.tre
  obtain ⟨w, g1, g2, g3⟩ := T.rel i _ e
  obtain ⟨a, kvs, f, rfl, hp, hk, hc, hm, nf, ef⟩ : ∃ p kvs f, w = .ref p ∧ H p = some (DicO TB.w p kvs) ∧ DtAll (wo (bad C ρ σ) H) (kvs.map (·.2.1)) ks ∧ ks.map canon = kvs.map (fun q => some q.1) ∧ RelMs H (bad C ρ σ) (kvs.map (·.2.2)) ms f ∧ p ∉ f ∧ φ i = p :: f := by
    generalize φ i = ff at g2
    cases g2 with
    | dic a b c d n => exact ⟨_, _, _, rfl, a, b, c, d, n, rfl⟩
  have aG : C.G a := g3 a (by rw [ef]; exact List.mem_cons_self)
  have fG : ∀ b ∈ f, C.G b := fun b hb => g3 b (by rw [ef]; exact List.mem_cons_of_mem _ hb)
  have li : i < ρ.length := (List.getElem?_eq_some_iff.mp e).1
  have set_same : ρ.set i (some (.ot (.dic ks ms))) = ρ := by
    apply List.ext_getElem?
    intro j
    by_cases ij : i = j
    · subst ij; rw [List.getElem?_set_self li, e]
    · rw [List.getElem?_set_ne ij]
  refine ⟨.ref a, g1, ⟨a, kvs, rfl, hp⟩, C, ρ, (fun xs => match xs with
    | [y, .nw []] => ∃ d, y = .p d ∧ uniB ks d = true ∧ ms.length < sizeLine ∧ (∀ j, kIx ks d = some j → ∃ ls, ms[j]? = some (.lst ls) ∧ ls.length < sizeLine) ∧
        tv (ρ.set i (some (.ot (sdMid ks ms d)))) fun x => ∃ e, x.st = some e ∧ Dd.nx (ρ.set i (some (.ot (sdFin ks ms d e))))
    | _ => False), R, ?_, ?_⟩
  · refine Eq.mp (congrArg (tk ρ) (funext fun y => propext ?_)) h
    constructor
    · intro z; exact ⟨[], rfl, Nat.zero_le _, z⟩
    · rintro ⟨ds, z1, _, z2⟩
      cases z1
      exact z2
  rintro vs H1 xs R1 k1 es hq
  split at hq
  · rename_i y
    obtain ⟨d, rfl, un, hz, old, ht⟩ := hq
    cases es with
    | @cons yv _ _ _ e1 es =>
      cases es with
      | @cons lv _ _ _ e2 es =>
        cases es
        obtain ⟨lp, us, rfl, hl, hl1, hds, _⟩ := e2
        cases hds
        obtain ⟨k, ek⟩ := uni_some un
        have fx := fnd_ix ek hc
        have s01 := R.kp k1
        have keep1 : ∀ b, C.G b → ∀ o, H b = some o → H1 b = some o := fun b hb o z => k1 b o (R.ownX (R.g0 b hb).2.1).1 z
        have hp1 := keep1 a aG _ hp
        have hk1 := DtAll.mono s01 hk
        have hm1 : RelMs H1 (bad C ρ σ) (kvs.map (·.2.2)) ms f := hm.mono s01 fun b hb o z => keep1 b (fG b hb) o z
        have hkl : kvs.length = ms.length := by have := hm.len; rwa [List.length_map] at this
        have T1 : Trees C ρ σ H1 φ := T.mono s01 (fun b o hb z => keep1 b hb o z) fun _ z => z
        refine ⟨a, kvs, k, yv, .ref lp, rfl, rfl, hp1, uni_of hk1 hc e1 ek un, by rw [hkl]; exact hz, fun v hv => ?_, fun hn => ?_⟩
        · -- it is there
          cases w : kIx ks d with
          | none => rw [fx.1 w] at hv; cases hv
          | some j =>
            obtain ⟨v', w1, w2⟩ := fx.2 j w
            rw [hv] at w2; cases w2
            obtain ⟨ls, o1, o2⟩ := old j w
            obtain ⟨v2, g, r1, r2, r3⟩ := rels_get hm1 o1
            rw [w1] at r1; cases r1
            obtain ⟨q, us, f3, rfl, q1, q2, q3, rfl⟩ : ∃ q us f3, v = .ref q ∧ H1 q = some (.lst us) ∧ RelMs H1 (bad C ρ σ) us ls f3 ∧ q ∉ f3 ∧ g = q :: f3 := by
              cases r2 with
              | lst x1 x2 x3 => exact ⟨_, _, _, rfl, x1, x2, x3, rfl⟩
            have qf : q ∈ f := r3 q List.mem_cons_self
            have aq : a ≠ q := fun z => nf (z ▸ qf)
            have em : sdMid ks ms d = .dic ks ms := by unfold sdMid; rw [w]
            rw [em, set_same] at ht
            refine ⟨.inl ⟨rfl, us, SqL.of q1⟩, C, ρ, (fun xs => match xs with
              | [x] => ∃ e, x.st = some e ∧ Dd.nx (ρ.set i (some (.ot (sdFin ks ms d e))))
              | _ => False), R1, ht, ?_⟩
            rintro vs H2 xs R2 k2 es hq
            split at hq
            · rename_i x
              obtain ⟨ev, hs, qq⟩ := hq
              cases es with
              | @cons xv _ _ _ e3 es =>
                cases es
                have gx := R1.stOf e3 hs
                have s12 := R1.kp k2
                have keep2 : ∀ b, C.G b → ∀ o, H1 b = some o → H2 b = some o := fun b hb o z => k2 b o (R1.ownX (R1.g0 b hb).2.1).1 z
                have T2 : Trees C ρ σ H2 φ := T1.mono s12 (fun b o hb z => keep2 b hb o z) fun _ z => z
                have qH2 : H2 q = some (.lst us) := keep2 q (fG q qf) _ q1
                have hm2 : RelMs H2 (bad C ρ σ) (kvs.map (·.2.2)) ms f := hm1.mono s12 fun b hb o z => keep2 b (fG b hb) o z
                have hk2 := DtAll.mono s12 hk1
                have qb : bad C ρ σ q := .inr (.inr (.inr (fG q qf)))
                have s22 : Same (wo (bad C ρ σ) H2) (wo (bad C ρ σ) (upd H2 q (.lst (us ++ [xv])))) := fun b o z => by
                  obtain ⟨f1, f2⟩ := wo_of z
                  exact wo_mk f1 (by rw [upd_ne (fun y => f1 (by rw [y]; exact qb))]; exact f2)
                refine ⟨q, us, xv, rfl, rfl, qH2, by rw [q2.len]; exact o2, L.nx _ _ _ (R2.putT0 T2 (n := sdFin ks ms d ev) e g1 (fun c s z => by rw [qH2] at z; exact lst_code (Option.some.inj z)) (fun u t z => by rw [qH2] at z; cases z) (by rw [ef]; exact List.mem_cons_of_mem _ qf) ?_) qq⟩
                have efin : sdFin ks ms d ev = .dic ks (ms.set j (.lst (ls ++ [.leaf ev]))) := by unfold sdFin; rw [w]; simp only [o1]
                rw [ef, efin]
                refine .dic (by rw [upd_ne aq]; exact keep2 a aG _ hp1) (DtAll.mono s22 hk2) hc (rels_set hm2 o1 (fun v4 g4 t1 t2 t3 => ?_) (fun b hb => .inr (.inr (.inr (fG b hb)))) (fun b o nb ho => by rw [upd_ne (fun y => nb (by rw [y]; exact qb))]; exact ho)) nf
                rw [w1] at t1; cases t1
                cases t2 with
                | lst x1 x2 x3 =>
                  rw [qH2] at x1; cases x1
                  rename_i f4
                  refine ⟨.lst upd_same ?_ x3, fun b o nb ho => by rw [upd_ne (fun y => nb (by rw [y]; exact List.mem_cons_self))]; exact ho⟩
                  have := (x2.mono s22 fun b hb o ho => by rw [upd_ne (fun y => x3 (by rw [← y]; exact hb))]; exact ho).snoc (w := xv) (n := M.leaf ev) (g := []) (.leaf (Dt.mono s22 gx)) (fun _ _ hb => by cases hb)
                  rw [List.append_nil] at this
                  exact this
            · exact hq.elim
        · have w : kIx ks d = none := by
            cases q : kIx ks d with
            | none => rfl
            | some j => obtain ⟨v, _, z⟩ := fx.2 j q; rw [hn] at z; cases z
          have al : a ≠ lp := fun z => by rw [z, hl] at hp; cases hp
          have hl2 : upd H1 a (DicO TB.w a (kvs ++ [(k, yv, .ref lp)])) lp = some (.lst []) := by rw [upd_ne (fun z => al z.symm)]; exact hl1
          have ab : bad C ρ σ a := .inr (.inr (.inr aG))
          have S0 : Same (wo (bad C ρ σ) H) (wo (fun b => bad C ρ σ b ∨ b = lp) (upd H1 a (DicO TB.w a (kvs ++ [(k, yv, .ref lp)])))) := fun b o z => by
            obtain ⟨f1, f2⟩ := wo_of z
            exact wo_mk (fun y => y.elim f1 fun y => by rw [y, hl] at f2; cases f2) (by rw [upd_ne (fun y => f1 (by rw [y]; exact ab))]; exact k1 b o (R.nxb f1) f2)
          have KF0 : KF (wo (bad C ρ σ) H1) (wo (fun b => bad C ρ σ b ∨ b = lp) (upd H1 a (DicO TB.w a (kvs ++ [(k, yv, .ref lp)])))) := fun b o u z => by
            obtain ⟨f1, f2⟩ := wo_of z
            exact wo_mk (fun y => y.elim f1 fun y => by rw [y, hl1] at f2; cases f2) (by rw [upd_ne (fun y => f1 (by rw [y]; exact ab))]; exact f2)
          have lf : lp ∉ f := fun z => by obtain ⟨o, y⟩ := hm.some lp z; rw [hl] at y; cases y
          have keepH : ∀ b ∈ f, ∀ o, H b = some o → upd H1 a (DicO TB.w a (kvs ++ [(k, yv, .ref lp)])) b = some o := fun b hb o z => by rw [upd_ne (fun y => nf (by rw [← y]; exact hb))]; exact keep1 b (fG b hb) o z
          have kk : DtAll (wo (fun b => bad C ρ σ b ∨ b = lp) (upd H1 a (DicO TB.w a (kvs ++ [(k, yv, .ref lp)])))) ((kvs ++ [(k, yv, V.ref lp)]).map (·.2.1)) (ks ++ [d]) := by
            rw [List.map_append]
            exact (DtAll.mono S0 hk).snoc (Dt.tpo KF0 e1 (tpo_of ek))
          have kc : (ks ++ [d]).map canon = (kvs ++ [(k, yv, V.ref lp)]).map fun q => some q.1 := by
            rw [List.map_append, List.map_append, hc, List.map_singleton, List.map_singleton, ek]
          have km := hm.mono S0 keepH
          have nf2 : a ∉ f ++ [lp] := fun z => (List.mem_append.mp z).elim nf fun z => al (List.mem_singleton.mp z)
          have g4 : RelM (upd H1 a (DicO TB.w a (kvs ++ [(k, yv, .ref lp)]))) (fun b => bad C ρ σ b ∨ b = lp) (.ref a) (.dic (ks ++ [d]) (ms ++ [.lst []])) (φ i ++ [lp]) := by
            rw [ef]
            refine .dic (f := f ++ [lp]) (kvs := kvs ++ [(k, yv, .ref lp)]) upd_same kk kc ?_ nf2
            rw [List.map_append]
            exact km.snoc (.lst hl2 .nil (by simp)) fun b hb hc => lf (by rw [List.mem_singleton.mp hc] at hb; exact hb)
          obtain ⟨R2, T2⟩ := R.putTG R1 k1 T (n := .dic (ks ++ [d]) (ms ++ [.lst []])) e g1 (fun c s z => by rw [hp1] at z; exact dic_code (Option.some.inj z)) (fun u t z => by rw [hp1] at z; cases z) (by rw [ef]; exact List.mem_cons_self) hl ⟨_, hl1⟩ g4
          have em : sdMid ks ms d = .dic (ks ++ [d]) (ms ++ [.lst []]) := by unfold sdMid; rw [w]
          rw [em] at ht
          refine ⟨.inl ⟨rfl, [], SqL.of hl2⟩, _, _, (fun xs => match xs with
            | [x] => ∃ e, x.st = some e ∧ Dd.nx (ρ.set i (some (.ot (sdFin ks ms d e))))
            | _ => False), R2, ht, ?_⟩
          rintro vs H3 xs R3 k3 es hq
          split at hq
          · rename_i x
            obtain ⟨ev, hs, qq⟩ := hq
            cases es with
            | @cons xv _ _ _ e3 es =>
              cases es
              have gx := R2.stOf e3 hs
              have s23 := R2.kp k3
              have keep3 : ∀ b, (C.G b ∨ b = lp) → ∀ o, upd H1 a (DicO TB.w a (kvs ++ [(k, yv, .ref lp)])) b = some o → H3 b = some o := fun b hb o z => k3 b o (R2.ownX (R2.g0 b hb).2.1).1 z
              have T3 := T2.mono s23 (fun b o hb z => keep3 b hb o z) fun _ z => z
              have l3 : H3 lp = some (.lst []) := keep3 lp (.inr rfl) _ hl2
              have bg : ∀ b, bad (C.gg fun b => C.G b ∨ b = lp) (ρ.set i (some (.ot (.dic (ks ++ [d]) (ms ++ [.lst []]))))) σ b ↔ bad C ρ σ b ∨ b = lp := fun b => bad_grow e
              have lb : bad (C.gg fun b => C.G b ∨ b = lp) (ρ.set i (some (.ot (.dic (ks ++ [d]) (ms ++ [.lst []]))))) σ lp := (bg lp).mpr (.inr rfl)
              have S1 : Same (wo (fun b => bad C ρ σ b ∨ b = lp) (upd H1 a (DicO TB.w a (kvs ++ [(k, yv, .ref lp)])))) (wo (bad (C.gg fun b => C.G b ∨ b = lp) (ρ.set i (some (.ot (.dic (ks ++ [d]) (ms ++ [.lst []]))))) σ) H3) := fun b o z => by
                obtain ⟨f1, f2⟩ := wo_of z
                exact s23 b o (wo_mk (fun y => f1 ((bg b).mp y)) f2)
              have S2 : Same (wo (bad (C.gg fun b => C.G b ∨ b = lp) (ρ.set i (some (.ot (.dic (ks ++ [d]) (ms ++ [.lst []]))))) σ) H3) (wo (bad (C.gg fun b => C.G b ∨ b = lp) (ρ.set i (some (.ot (.dic (ks ++ [d]) (ms ++ [.lst []]))))) σ) (upd H3 lp (.lst ([] ++ [xv])))) := fun b o z => by
                obtain ⟨f1, f2⟩ := wo_of z
                exact wo_mk f1 (by rw [upd_ne (fun y => f1 (by rw [y]; exact lb))]; exact f2)
              have e' : (ρ.set i (some (.ot (.dic (ks ++ [d]) (ms ++ [.lst []])))))[i]? = some (some (.ot (.dic (ks ++ [d]) (ms ++ [.lst []])))) := List.getElem?_set_self li
              have efin : sdFin ks ms d ev = .dic (ks ++ [d]) (ms ++ [.lst [.leaf ev]]) := by unfold sdFin; rw [w]
              have fin := R3.putT0 T3 (n := sdFin ks ms d ev) (o := .lst ([] ++ [xv])) (p := lp) e' g1 (fun c s z => by rw [l3] at z; exact lst_code (Option.some.inj z)) (fun u t z => by rw [l3] at z; cases z) (by rw [if_pos rfl]; exact List.mem_append_right _ (List.mem_singleton.mpr rfl)) (by
                rw [if_pos rfl, ef, efin]
                refine .dic (f := f ++ [lp]) (kvs := kvs ++ [(k, yv, .ref lp)]) (by rw [upd_ne al]; exact keep3 a (.inl aG) _ upd_same) (DtAll.mono S2 (DtAll.mono S1 kk)) kc ?_ nf2
                rw [List.map_append]
                refine RelMs.snoc (g := [lp]) (.lst upd_same (.cons (f := []) (.leaf (Dt.mono S2 gx)) .nil (fun b hb => by cases hb)) (by simp)) ((km.mono S1 fun b hb o z => keep3 b (.inl (fG b hb)) o z).mono S2 fun b hb o z => by rw [upd_ne (fun y => lf (by rw [← y]; exact hb))]; exact z) fun b hb hc => lf (by rw [List.mem_singleton.mp hc] at hb; exact hb))
              rw [List.set_set] at fin
              exact ⟨lp, [], xv, rfl, rfl, l3, by show 0 < 16777216; decide, (L.gg _).nx _ _ _ fin qq⟩
          · exact hq.elim
  · exact hq.elim
end
end My
namespace My
open PySem PySem.Spec PyProof.Rows L2
/-! ### list(d) -/
theorem ent_keys {w : World} : ∀ {kvs : KVs} {es : List DictEntry}, Paired (EntR w) kvs es → Vals (kvs.map (·.2.1)) (es.map (·.key))
  | _, _, .nil => .nil
  | _, _, .cons h t => .cons h.2.1 (ent_keys t)
section
variable {X : Cx}
theorem call_listO (hcalm : X.calm = true) : CallR X (.type "list") (fun xs H Q => ∃ (a : Addr) (kvs : KVs), xs = [.ref a] ∧ H a = some (DicO X.w a kvs) ∧ ∀ p, H p = none → Q (.ref p) (upd H p (.lst (kvs.map (·.2.1))))) := by
  intro pins s σ H xs us Q I r q
  obtain ⟨a, kvs, rfl, hd, q⟩ := q
  obtain ⟨u, rfl, rx⟩ := vals1 r
  cases rx
  have R := dc_raw I hd
  obtain ⟨o, es, ep, g1, g2, g3, g4⟩ := R.ex
  have le : kvs.length = es.size := by rw [Paired.length g4, Array.length_toList]
  refine PySem.W.kdl_call (PySem.KdlSrc.rawDict (ep := ep) R.s) (I.ok.hd hcalm) ⟨o, g1, g2, g3⟩ (by rw [← le]; exact R.z) fun h' tk acc c' hk hD hacc => ?_
  have ea : acc.toList = es.toList.map (·.key) := by
    apply List.ext_getElem?
    intro j
    rw [Array.getElem?_toList, List.getElem?_map, Array.getElem?_toList]
    cases e : acc[j]? with
    | none =>
      have : es.size ≤ j := by rw [← hacc.1]; exact Array.getElem?_eq_none_iff.mp e
      rw [Array.getElem?_eq_none this]; rfl
    | some v =>
      obtain ⟨hi, ev⟩ := hacc.2 j v e
      rw [Array.getElem?_eq_getElem hi, ev]; rfl
  have hv : Vals (kvs.map (·.2.1)) acc.toList := by rw [ea]; exact ent_keys g4
  exact ⟨.ref s.heap.objs.size, upd H s.heap.objs.size (.lst (kvs.map (·.2.1))), I.laid (t' := tk) hk (Nat.le_refl _)
    (show ObjOk X.prog X.w _ _ _ (.lst (kvs.map (·.2.1))) from ⟨by rw [List.length_map]; exact R.z, acc.toList, c', hv, by rw [Array.toArray_toList]; exact hD⟩), rfl, q _ (I.hok.fresh (Nat.le_refl _))⟩
end
variable [TB]
def kLiD (x : D) (Q : D → Prop) : Prop := match x.dks with
  | some (ks, _) => ks.length ≤ sizeLine ∧ Q (.nw ks)
  | _ => False
theorem li_liD {K : PySem.W.Frag} : LiL K (fun xs H Q => ∃ (a : Addr) (kvs : KVs), xs = [.ref a] ∧ H a = some (DicO TB.w a kvs) ∧ ∀ p, H p = none → Q (.ref p) (upd H p (.lst (kvs.map (·.2.1))))) (c1 kLiD) := by
  intro C ρ σ H0 H vs xs Qd Q R k e0 h post
  unfold c1 at h
  split at h
  · rename_i x
    obtain ⟨v, rfl, e⟩ := p1 e0
    unfold kLiD at h
    split at h
    · rename_i ks ms hd
      obtain ⟨a, kvs, rfl, g1, g2, _⟩ := (R.dicOf e hd).ex
      exact ⟨a, kvs, rfl, g1, R.newL (H0 := H0) g2 h.1 h.2 post⟩
    · exact h.elim
  · exact h.elim
theorem bu_liD {X : Cx} (hw : X.w = TB.w) (hc : X.calm = true) : BuU X (.type "list") (c1 kLiD) := ⟨_, call_listO hc, by rw [hw]; exact li_liD⟩
theorem mt_sdU {X : Cx} (hu : X.A.units + 65 < cLine) : MtM X "dict.setdefault" (rDSd X.w) := mt_sd (by omega)
end My
namespace My
open PySem PySem.Spec PyProof.Rows L2
/-! ### x = {k: v for ..}: the name is bound while the block still stands -/
section
variable {X : Cx}
theorem swD_true {kx vx : Expr} {gs : List Comprehension} {scope : Scope} {pos py : Pos} {y : Str} {l : Nat} {env : Env} (hk : env.scope.kind = .function) (hy : env.scope.names.lookup y = some .local) (hl : (py.line == pos.line) = true)
    (ha : (scope.names.any fun (n, k) => n == y && (k == .local || k == .cell)) = false) : swapsWith (.DictComp kx vx gs scope pos) (some (.Name y py)) l env = pure true := by
  have fnk : env.blockKind = .function := by
    unfold Env.blockKind
    rw [hk]; rfl
  have loc : env.kindOf y = some .local := hy
  unfold swapsWith
  simp only [fnk, loc, ha, Expr.pos, hl]
  rfl
theorem ps_setDcX {i : Nat} {y : Str} {py : Pos} {kx vx tg iter : Expr} {ifs : List Expr} {scope : Scope} {own : List (Str × Nat)} {pos spos : Pos} {wi : TI} {g : TG} {tt : TT} {tk tv : TE} (hc : X.calm = true) (hN : X.N.Nodup) (hy : X.N[i]? = some y) (hyl : X.env.scope.names.lookup y = some .local)
    (hsw : swapsWith (.DictComp kx vx [⟨tg, iter, ifs, 0⟩] scope pos) (some (.Name y py)) spos.line X.env = pure true) (hi : PI X tg iter wi) (ok : BlkOk X.N X.env.scope scope own)
    (hg : ∀ (s : Shared) (H : Hp) (C : Addr) (cl : List (Str × Addr)) (fp : List Addr), PG (X.blk s H scope (compEnvC scope cl C X.env) fp) tg g) (ht : ∀ (s : Shared) (H : Hp) (C : Addr) (cl : List (Str × Addr)) (fp : List Addr), PTs (X.blk s H scope (compEnvC scope cl C X.env) fp) ifs tt)
    (hk : ∀ (s : Shared) (H : Hp) (C : Addr) (cl : List (Str × Addr)) (fp : List Addr), PE (X.blk s H scope (compEnvC scope cl C X.env) fp) kx tk)
    (he : ∀ (s : Shared) (H : Hp) (C : Addr) (cl : List (Str × Addr)) (fp : List Addr), PE (X.blk s H scope (compEnvC scope cl C X.env) fp) vx tv) (hs : ∀ x, foldedSetIterable iter X.env x = pure x := by intro _; rfl) :
    PS X (.Assign [.Name y py] (.DictComp kx vx [⟨tg, iter, ifs, 0⟩] scope pos) spos) (tAsg (tMx X.w (tDc wi g tt tk tv (own.map (·.2)))) (gName i)) := by
  constructor
  intro pins s σ H D I h
  have h : tDc wi g tt tk tv (own.map (·.2)) σ H (fun v H1 => ∃ a kvs, v = .ref a ∧ H1 a = some (.dK kvs) ∧ gName i v σ (upd H1 a (DicO X.w a (mxK kvs))) D.nx) := h
  rw [exec_Assign_Name_used _ _ _ _ hsw]
  refine wpAny_bind (wpAny_standAt (wpAny_bind ?_))
  show wpAny _ X.A (do let _ ← comprehension (.DictComp kx vx [⟨tg, iter, ifs, 0⟩] scope pos) scope X.env (firstIterPos [⟨tg, iter, ifs, 0⟩] pos) newDict false (eval iter X.env) (some (assign (.Name y py) X.env))) _ _ s
  refine wpAny_bind (thn (dc_core (Qf := fun _ s' => SP X pins D .next s') hc hN I hi ok hg ht hk he hs h ?_) fun _ s' hq => wpAny_pure (wpAny_pure hq))
  rintro L C s' m H' I' ⟨a, kvs, ea, e1, q⟩ hn ⟨f0, f1, f2, f3, f4, f5⟩
  cases ea
  show wpAny _ _ (assign (.Name y py) X.env (.ref L)) _ _ _
  refine wpAny_assign_Name (store_ok2 (v := V.ref L) I' hN hy (.inl hyl) rfl ?_ (.inr hyl))
  rintro s2 I2 ⟨b, sb, hb⟩
  have apart : C ≠ b := hb.elim (fun z => by rw [z]; exact f1) fun z e => f4 y b z e.symm
  refine ⟨m, hn.sameBut sb apart, fun h3 sb3 => ⟨_, _, retype (I2.turned (t' := s2.toks) (fun b o hb e => (sb3.2 b hb).trans e) f0 f1 f3 f4 f5) e1, q⟩⟩
end
variable [TB]
section
variable {X : Cx}
theorem fs_setDc {i : Nat} {y : Str} {py pos : Pos} {kx vx tg iter : Expr} {ifs : List Expr} {scope : Scope} {own : List (Str × Nat)} {spos : Pos} {ti : TID} {l : List Nat} {g : TGD} {tt : TTD} {tk tv : TED} (hw : X.w = TB.w) (hc : X.calm = true) (hN : X.N.Nodup) (hy : X.N[i]? = some y) (hyl : X.env.scope.names.lookup y = some .local)
    (hsw : swapsWith (.DictComp kx vx [⟨tg, iter, ifs, 0⟩] scope pos) (some (.Name y py)) spos.line X.env = pure true) (hi : FI X tg iter ti) (ok : BlkOk X.N X.env.scope scope own)
    (hg : ∀ (s : Shared) (H : Hp) (C : Addr) (cl : List (Str × Addr)) (fp : List Addr), FG (X.blk s H scope (compEnvC scope cl C X.env) fp) tg l g) (ht : ∀ (s : Shared) (H : Hp) (C : Addr) (cl : List (Str × Addr)) (fp : List Addr), FTs (X.blk s H scope (compEnvC scope cl C X.env) fp) ifs tt)
    (hk : ∀ (s : Shared) (H : Hp) (C : Addr) (cl : List (Str × Addr)) (fp : List Addr), FE (X.blk s H scope (compEnvC scope cl C X.env) fp) kx tk)
    (he : ∀ (s : Shared) (H : Hp) (C : Addr) (cl : List (Str × Addr)) (fp : List Addr), FE (X.blk s H scope (compEnvC scope cl C X.env) fp) vx tv) (hl : ∀ j ∈ l, j ∈ own.map (·.2)) (hs : ∀ x, foldedSetIterable iter X.env x = pure x := by intro _; rfl) :
    FS X (.Assign [.Name y py] (.DictComp kx vx [⟨tg, iter, ifs, 0⟩] scope pos) spos) (dSetT i (dDc ti g tt tk tv (own.map (·.2)))) := by
  have := ps_setDcX (kx := kx) (vx := vx) (g := upG X.K l g) (tt := upT X.K tt) (tk := up X.K tk) (tv := up X.K tv) hc hN hy hyl hsw hi ok hg ht hk he hs
  rw [hw] at this
  exact fs_setTM this (up_dc hl)
end
end My
namespace My
open PySem PySem.Spec PyProof.Rows L2
variable [TB]
def t_lawsymbols : TSD :=
  (dSeq (dSetN 2 (dLst dNil))
      (dSeq (dFor (dItV (dOp bAdd (dC (.str "@")) (dVar 1))) (gN 3)
        (dFor (dItV (dVar 0)) (gN 4)
          (dApp 2 (dCons (dOp bAdd (dVar 3) (dVar 4)) dNil))))
      (dRetU (dVar 2))))
def t_lawpicked (SP_lawdraw : SpD) : TSD :=
  (dSeq (dSetN 3 (dLst dNil))
      (dSeq (dSet 4 (dC (.int 0)))
      (dSeq (dFor (dRng1 (dCons (dVar 2) dNil)) (gN 5)
        (dSeq (dSet 4 (dOp bAdd (dVar 4) (dCall 2 SP_lawdraw (dCons (dVar 0) (dCons (dOp bSub (dOp bAdd (dOp bAdd (dOp bSub (dCB (c1 kLen) (dCons (dVar 1) dNil)) (dVar 2)) (dVar 5)) (dC (.int 1))) (dVar 4)) dNil)))))
        (dSeq (dApp 3 (dCons (dOp bIx (dVar 1) (dVar 4)) dNil))
        (dSet 4 (dOp bAdd (dVar 4) (dC (.int 1)))))))
      (dRetU (dVar 3)))))
def t_lawrising (SP_lawdraw : SpD) : TSD :=
  (dSeq (dSet 3 (dC (.str "")))
      (dSeq (dSet 4 (dC (.int 0)))
      (dSeq (dFor (dRng1 (dCons (dVar 2) dNil)) (gN 5)
        (dSeq (dSet 4 (dOp bAdd (dVar 4) (dCall 2 SP_lawdraw (dCons (dVar 0) (dCons (dOp bSub (dOp bAdd (dOp bAdd (dOp bSub (dCB (c1 kLen) (dCons (dVar 1) dNil)) (dVar 2)) (dVar 5)) (dC (.int 1))) (dVar 4)) dNil)))))
        (dSeq (dSet 3 (dOp bAdd (dVar 3) (dOp bIx (dVar 1) (dVar 4))))
        (dSet 4 (dOp bAdd (dVar 4) (dC (.int 1)))))))
      (dRetU (dVar 3)))))
def t_lawletters (SP_lawdraw : SpD) (SP_lawrising : SpD) : TSD :=
  (dRetU (dCall 3 SP_lawrising (dCons (dVar 0) (dCons (dC (.str "abcdefghijklmnopqrstuvwxyz")) (dCons (dOp bIx (dLst (dCons (dC (.int 1)) (dCons (dC (.int 1)) (dCons (dC (.int 1)) (dCons (dC (.int 2)) (dCons (dC (.int 2)) (dCons (dC (.int 3)) dNil))))))) (dCall 2 SP_lawdraw (dCons (dVar 0) (dCons (dC (.int 6)) dNil)))) dNil)))))
def t_lawowners (SP_lawdraw : SpD) (SP_lawrising : SpD) : TSD :=
  (dRetU (dCall 3 SP_lawrising (dCons (dVar 0) (dCons (dC (.str "ABCDEFGHIJKLMNOPQRSTUVWXYZ")) (dCons (dOp bIx (dLst (dCons (dC (.int 1)) (dCons (dC (.int 2)) (dCons (dC (.int 2)) (dCons (dC (.int 2)) (dCons (dC (.int 2)) (dCons (dC (.int 3)) dNil))))))) (dCall 2 SP_lawdraw (dCons (dVar 0) (dCons (dC (.int 6)) dNil)))) dNil)))))
def t_lawsigns (SP_lawowners : SpD) (SP_lawletters : SpD) (SP_lawsymbols : SpD) (SP_lawdraw : SpD) (SP_lawpicked : SpD) : TSD :=
  (dSeq (dSet 1 (dCall 2 SP_lawsymbols (dCons (dCall 1 SP_lawletters (dCons (dVar 0) dNil)) (dCons (dCall 1 SP_lawowners (dCons (dVar 0) dNil)) dNil))))
      (dRetU (dCall 3 SP_lawpicked (dCons (dVar 0) (dCons (dVar 1) (dCons (dCB (c2 kMin) (dCons (dOp bIx (dLst (dCons (dC (.int 1)) (dCons (dC (.int 2)) (dCons (dC (.int 2)) (dCons (dC (.int 3)) dNil))))) (dCall 2 SP_lawdraw (dCons (dVar 0) (dCons (dC (.int 4)) dNil)))) (dCons (dCB (c1 kLen) (dCons (dVar 1) dNil)) dNil))) dNil))))))
def t_lawnet (SP_lawdraw : SpD) : TSD :=
  (dSeq (dSet 2 (dOp bIx (dLst (dCons (dC (.int 3)) (dCons (dC (.int 1)) (dCons (dC (.int 2)) (dCons (dC (.int 2)) (dCons (dC (.int 3)) (dCons (dC (.int 4)) (dCons (dC (.int 4)) (dCons (dC (.int 5)) (dCons (dC (.int 6)) (dCons (dC (.int 0)) dNil))))))))))) (dCall 2 SP_lawdraw (dCons (dVar 0) (dCons (dC (.int 10)) dNil)))))
      (dSeq (dSet 3 (dCall 2 SP_lawdraw (dCons (dVar 0) (dCons (dOp bAdd (dVar 2) (dC (.int 1))) dNil))))
      (dSeq (dSet 4 (dCall 2 SP_lawdraw (dCons (dVar 0) (dCons (dOp bAdd (dVar 2) (dC (.int 1))) dNil))))
      (dSeq (dSet 5 (dLc (dRng1 (dCons (dVar 2) dNil)) (gN 10) (dOrT (dTest (dOp bEq (dVar 10) (dVar 3))) (dTest (dOp bEq (dCall 2 SP_lawdraw (dCons (dVar 0) (dCons (dC (.int 4)) dNil))) (dC (.int 0))))) (dVar 10) [10]))
      (dSeq (dSet 6 (dLc (dRng1 (dCons (dVar 2) dNil)) (gN 10) (dOrT (dTest (dOp bEq (dVar 10) (dVar 4))) (dTest (dOp bEq (dCall 2 SP_lawdraw (dCons (dVar 0) (dCons (dC (.int 4)) dNil))) (dC (.int 0))))) (dVar 10) [10]))
      (dSeq (dSet 7 (dOp bMul (dOp bMul (dVar 2) (dCB (c1 kLen) (dCons (dVar 1) dNil))) (dVar 2)))
      (dSeq (dSet 8 (dLc (dRng1 (dCons (dCall 2 SP_lawdraw (dCons (dVar 0) (dCons (dOp bAdd (dOp bMul (dC (.int 3)) (dVar 2)) (dC (.int 1))) dNil))) dNil)) (gN 10) dYes (dCall 2 SP_lawdraw (dCons (dVar 0) (dCons (dVar 7) dNil))) [10]))
      (dSeq (dSetN 9 (dLst dNil))
      (dSeq (dFor (dRng1 (dCons (dVar 7) dNil)) (gN 10)
        (dIf (dTest (dOp (bInN false) (dVar 10) (dVar 8)))
          (dApp 9 (dCons (dTup (dCons (dOp bDiv (dVar 10) (dOp bMul (dVar 2) (dCB (c1 kLen) (dCons (dVar 1) dNil)))) (dCons (dOp bIx (dVar 1) (dOp bMod (dCB (c1 kInt) (dCons (dOp bDiv (dVar 10) (dVar 2)) dNil)) (dCB (c1 kLen) (dCons (dVar 1) dNil)))) (dCons (dOp bMod (dCB (c1 kInt) (dCons (dVar 10) dNil)) (dVar 2)) dNil)))) dNil))
          dNext))
      (dRetU (dTup (dCons (dVar 2) (dCons (dCB (c1 kTup) (dCons (dVar 5) dNil)) (dCons (dCB (c1 kTup) (dCons (dVar 6) dNil)) (dCons (dCB (c1 kTup) (dCons (dVar 9) dNil)) dNil)))))))))))))))
def t_lawahead : TSD :=
  (dSeq (dSetN 1 (dLc (dRng1 (dCons (dOp bIx (dVar 0) (dC (.int 0))) dNil)) (gN 2) dYes (dC (.bool false)) [2]))
      (dSeq (dFor (dItV (dOp bIx (dVar 0) (dC (.int 1)))) (gN 2)
        (dSetIx 1 (dVar 2) (dC (.bool true))))
      (dSeq (dSet 3 (dC (.bool true)))
      (dSeq (dFor (dRng1 (dCons (dOp bIx (dVar 0) (dC (.int 0))) dNil)) (gN 2)
        (dIf (dTru (dVar 3))
          (dSeq (dSet 3 (dC (.bool false)))
          (dFor (dItV (dOp bIx (dVar 0) (dC (.int 3)))) (gN 4)
            (dIf (dAndT (dTru (dOp bIx (dVar 1) (dOp bIx (dVar 4) (dC (.int 0))))) (dNotT (dTru (dOp bIx (dVar 1) (dOp bIx (dVar 4) (dC (.int 2)))))))
              (dSeq (dSetIx 1 (dOp bIx (dVar 4) (dC (.int 2))) (dC (.bool true)))
              (dSet 3 (dC (.bool true))))
              dNext)))
          dNext))
      (dRetU (dVar 1))))))
def t_lawbehind : TSD :=
  (dSeq (dSetN 1 (dLc (dRng1 (dCons (dOp bIx (dVar 0) (dC (.int 0))) dNil)) (gN 2) dYes (dC (.bool false)) [2]))
      (dSeq (dFor (dItV (dOp bIx (dVar 0) (dC (.int 2)))) (gN 2)
        (dSetIx 1 (dVar 2) (dC (.bool true))))
      (dSeq (dSet 3 (dC (.bool true)))
      (dSeq (dFor (dRng1 (dCons (dOp bIx (dVar 0) (dC (.int 0))) dNil)) (gN 2)
        (dIf (dTru (dVar 3))
          (dSeq (dSet 3 (dC (.bool false)))
          (dFor (dItV (dOp bIx (dVar 0) (dC (.int 3)))) (gN 4)
            (dIf (dAndT (dTru (dOp bIx (dVar 1) (dOp bIx (dVar 4) (dC (.int 2))))) (dNotT (dTru (dOp bIx (dVar 1) (dOp bIx (dVar 4) (dC (.int 0)))))))
              (dSeq (dSetIx 1 (dOp bIx (dVar 4) (dC (.int 0))) (dC (.bool true)))
              (dSet 3 (dC (.bool true))))
              dNext)))
          dNext))
      (dRetU (dVar 1))))))
def t_lawsame (Sf : SpD) : TSD :=
  (dSeq (dIf (dTest (dOp bIs (dVar 1) (dC .none)))
        (dRetU (dOp bIs (dVar 0) (dC .none)))
        dNext)
      (dSeq (dIf (dTru (dIsi "bool" (dVar 1)))
        (dRetU (dAndV (dIsi "bool" (dVar 0)) (dOp bEq (dVar 0) (dVar 1))))
        dNext)
      (dSeq (dIf (dTru (dIsi "int" (dVar 1)))
        (dRetU (dAndV (dIsi "int" (dVar 0)) (dAndV (dNotV (dIsi "bool" (dVar 0))) (dOp bEq (dVar 0) (dVar 1)))))
        dNext)
      (dSeq (dIf (dTru (dIsi "str" (dVar 1)))
        (dRetU (dAndV (dIsi "str" (dVar 0)) (dOp bEq (dVar 0) (dVar 1))))
        dNext)
      (dSeq (dIf (dOrT (dNotT (dTru (dIsi "tuple" (dVar 0)))) (dTest (dOp bNe (dCB (c1 kLen) (dCons (dVar 0) dNil)) (dCB (c1 kLen) (dCons (dVar 1) dNil)))))
        (dRetU (dC (.bool false)))
        dNext)
      (dSeq (dFor (dRng1 (dCons (dCB (c1 kLen) (dCons (dVar 1) dNil)) dNil)) (gN 2)
        (dIf (dNotT (dTru (dCall 2 Sf (dCons (dOp bIx (dVar 0) (dVar 2)) (dCons (dOp bIx (dVar 1) (dVar 2)) dNil)))))
          (dRetU (dC (.bool false)))
          dNext))
      (dRetU (dC (.bool true)))))))))
def t_lawring (SP_lawdraw : SpD) : TSD :=
  (dSeq (dSet 2 (dOp bIx (dLst (dCons (dC (.int 30)) (dCons (dC (.int 60)) (dCons (dC (.int 199)) (dCons (dC (.int 200)) (dCons (dOp bAdd (dC (.int 30)) (dCall 2 SP_lawdraw (dCons (dVar 0) (dCons (dC (.int 171)) dNil)))) dNil)))))) (dCall 2 SP_lawdraw (dCons (dVar 0) (dCons (dC (.int 5)) dNil)))))
      (dSeq (dSet 3 (dOp bIx (dLst (dCons (dC (.int 1)) (dCons (dOp bSub (dVar 2) (dC (.int 1))) dNil))) (dCall 2 SP_lawdraw (dCons (dVar 0) (dCons (dC (.int 2)) dNil)))))
      (dSeq (dSet 4 (dLc (dRng1 (dCons (dVar 2) dNil)) (gN 7) dYes (dTup (dCons (dVar 7) (dCons (dOp bIx (dVar 1) (dOp bMod (dCB (c1 kInt) (dCons (dVar 7) dNil)) (dCB (c1 kLen) (dCons (dVar 1) dNil)))) (dCons (dOp bMod (dCB (c1 kInt) (dCons (dOp bAdd (dVar 7) (dVar 3)) dNil)) (dVar 2)) dNil)))) [7]))
      (dSeq (dSet 5 (dOp bIx (dLst (dCons (dC (.int 0)) (dCons (dOp bSub (dVar 2) (dC (.int 1))) (dCons (dCall 2 SP_lawdraw (dCons (dVar 0) (dCons (dVar 2) dNil))) dNil)))) (dCall 2 SP_lawdraw (dCons (dVar 0) (dCons (dC (.int 3)) dNil)))))
      (dCut (dIf (dTest (dOp bEq (dCall 2 SP_lawdraw (dCons (dVar 0) (dCons (dC (.int 2)) dNil))) (dC (.int 0))))
        (dSeq (dSet 6 (dOp bMod (dCB (c1 kInt) (dCons (dOp bSub (dOp bAdd (dVar 5) (dVar 2)) (dVar 3)) dNil)) (dVar 2)))
        (dSet 4 (dOp bAdd (dSl bSl (dVar 4) dNoPart (dPart (dVar 6))) (dSl bSl (dVar 4) (dPart (dOp bAdd (dVar 6) (dC (.int 1)))) dNoPart))))
        dNext)
      (dRetU (dTup (dCons (dVar 2) (dCons (dTup (dCons (dVar 5) dNil)) (dCons (dTup (dCons (dCall 2 SP_lawdraw (dCons (dVar 0) (dCons (dVar 2) dNil))) dNil)) (dCons (dCB (c1 kTup) (dCons (dVar 4) dNil)) dNil)))))))))))
def t_reachedfrom : TSD :=
  (dSeq (dSetT 2 dNewD)
      (dSeq (dFor (dItV (dVar 1)) (gTp 2 (gsCons (gN 3) (gsCons (gN 4) gsNil)))
        (dSdApp 2 (dVar 3) (dVar 4)))
      (dFzT 2 (dSeq (dSetT 5 (dDc (dItV (dVar 0)) (gN 7) dYes (dVar 7) (dC (.bool true)) [7]))
      (dSeq (dSetN 6 (dCB (c1 kLiD) (dCons (dVar 5) dNil)))
      (dSeq (dWhile (dTru (dVar 6))
        (dSeq (dPop 3 6)
        (dFor (dItV (dGet (dVar 2) (dCons (dVar 3) (dCons (dLst dNil) dNil)))) (gN 7)
          (dIf (dTest (dOp (bInD true) (dVar 7) (dVar 5)))
            (dSeq (dSetD 5 (dVar 7) (dC (.bool true)))
            (dApp 6 (dCons (dVar 7) dNil)))
            dNext))))
      (dRetU (dVar 5))))))))
def t_useful (SP_reachedfrom : SpD) : TSD :=
  (dSeq (dAsg (dVar 0) (gTp 4 (gsCons (gN 1) (gsCons (gN 2) (gsCons (gN 3) (gsCons (gN 4) gsNil))))))
      (dSeq (dSet 5 (dCall 2 SP_reachedfrom (dCons (dVar 2) (dCons (dLc (dItV (dVar 4)) (gTp 3 (gsCons (gN 7) (gsCons (gN 8) (gsCons (gN 9) gsNil)))) dYes (dTup (dCons (dVar 7) (dCons (dVar 9) dNil))) [7, 8, 9]) dNil))))
      (dSeq (dSet 6 (dCall 2 SP_reachedfrom (dCons (dVar 3) (dCons (dLc (dItV (dVar 4)) (gTp 3 (gsCons (gN 7) (gsCons (gN 8) (gsCons (gN 9) gsNil)))) dYes (dTup (dCons (dVar 9) (dCons (dVar 7) dNil))) [7, 8, 9]) dNil))))
      (dRetU (dCB (c1 kTup) (dCons (dLc (dRng1 (dCons (dVar 1) dNil)) (gN 10) (dAndT (dTest (dOp (bInD false) (dVar 10) (dVar 5))) (dTest (dOp (bInD false) (dVar 10) (dVar 6)))) (dVar 10) [10]) dNil))))))
def t_law (SP_lawsigns : SpD) (SP_lawnet : SpD) (SP_lawdraw : SpD) (SP_lawring : SpD) (SP_lawahead : SpD) (SP_lawbehind : SpD) (SP_useful : SpD) (SP_lawsame : SpD) : TSD :=
  (dSeq (dSet 2 (dCall 1 SP_lawsigns (dCons (dVar 1) dNil)))
      (dSeq (dSet 3 (dCall 2 SP_lawnet (dCons (dVar 1) (dCons (dVar 2) dNil))))
      (dCut (dIf (dTest (dOp bEq (dCall 2 SP_lawdraw (dCons (dVar 1) (dCons (dC (.int 16)) dNil))) (dC (.int 0))))
        (dSet 3 (dCall 2 SP_lawring (dCons (dVar 1) (dCons (dVar 2) dNil))))
        dNext)
      (dSeq (dSet 4 (dCall 1 SP_lawahead (dCons (dVar 3) dNil)))
      (dSeq (dSet 5 (dCall 1 SP_lawbehind (dCons (dVar 3) dNil)))
      (dSeq (dSet 6 (dCB (c1 kTup) (dCons (dLc (dRng1 (dCons (dOp bIx (dVar 3) (dC (.int 0))) dNil)) (gN 7) (dAndT (dTru (dOp bIx (dVar 4) (dVar 7))) (dTru (dOp bIx (dVar 5) (dVar 7)))) (dVar 7) [7]) dNil)))
      (dRetU (dCall 2 SP_lawsame (dCons (dCall 1 SP_useful (dCons (dVar 3) dNil)) (dCons (dVar 6) dNil))))))))))
end My
namespace My
open PySem PySem.Spec PyProof.Rows L2
def topS (i : Nat) : Stmt := PySem.Challenge.pw_excerptcheck_k51_useful_points.main.body.getD i (.Pass ⟨0, 0, 0, 0⟩)
structure Bn (mg : Str → Option Value) : Prop where
  len_ : mg "len" = none
  max_ : mg "max" = none
  min_ : mg "min" = none
  abs_ : mg "abs" = none
  int_ : mg "int" = none
  list_ : mg "list" = none
  tuple_ : mg "tuple" = none
  range_ : mg "range" = none
  isinstance_ : mg "isinstance" = none
  bool_ : mg "bool" = none
  str_ : mg "str" = none
section
variable [TB] {P : Program} {K : PySem.W.Frag} {mg : Str → Option Value} {base : Heap}
local macro_rules | `(tactic| walk_at "h") => `(tactic| first | assumption | exact upd_same)
local macro_rules | `(tactic| walk_at "c1") => `(tactic| first | exact .inr ⟨by decide, by decide⟩ | exact .inl ⟨by decide, by decide⟩ | exact rfl | exact ⟨by decide, by decide, by decide⟩ | (show (0 : Int) < _; first | decide | omega | (split <;> omega)) | (show (0 : Int) < _ ∧ _ < (1073741824 : Int); constructor <;> (split <;> omega)) | exact le_size0 rfl | exact le_size (by omega))
local macro_rules | `(tactic| walk_at "r") => `(tactic| repeat (first | refine ⟨_, rfl, ?_⟩ | refine ⟨⟨_, rfl⟩, ?_⟩ | refine ⟨_, _, rfl, rfl, ?_⟩ | refine .inl ⟨_, rfl, ?_⟩ | refine ⟨by walk_at "c1", ?_⟩ | refine ⟨_, _, _, _, rfl, rfl, .inl (.inl (by walk_at "h")), atI_nat (j := 0) rfl, ?_⟩ | refine ⟨_, _, _, _, rfl, rfl, .inl (.inl (by walk_at "h")), atI_nat (j := 1) rfl, ?_⟩ | refine ⟨_, _, _, _, rfl, rfl, .inl (.inl (by walk_at "h")), atI_nat (j := 2) rfl, ?_⟩ | refine ⟨_, _, _, _, rfl, rfl, .inl (.inl (by walk_at "h")), atI_nat (j := 3) rfl, ?_⟩ | refine ⟨_, _, _, _, rfl, rfl, by walk_at "h", rfl, ?_⟩ | refine ⟨_, _, rfl, .inl (.inl (.inl (by walk_at "h"))), ?_⟩ | refine ⟨_, _, (rfl : [V.int _, V.int _] = [V.int _, V.int _]), ?_⟩))
abbrev s_lawtape : Stmt := topS 5
abbrev N_lawtape : List Str := ["script", "total", "cell"]
theorem sc_lawtape : FnScope N_lawtape ["script"] (defScope s_lawtape) := ⟨rfl, rfl, rfl, by decide +kernel, rfl, by decide +kernel, by decide +kernel⟩
set_option maxHeartbeats 1000000 in
theorem ok0_lawtape (D : Df K mg "_law_tape" s_lawtape ["script"]) (B : Bn mg) : Cal P TB.w K mg base 1 "_law_tape" ["script"] (spTape K) := by
  refine D.cal sc_lawtape ?_ ?_
  · intro vs H Q E h; obtain ⟨a, ns, rfl, _⟩ := h; rfl
  intro f cdv A o s H vs Q E hr h
  obtain ⟨a, ns, rfl, hS, hl, q⟩ := h
  have nd := sc_lawtape.nd
  refine ⟨_, (pss_cons (ps_set (i := 1) nd rfl (Or.inl rfl) pe_int)
    (pss_cons (ps_for PassesOwn.never rfl (show PI _ _ _ (iList K _) from pi_list (pv 0)) (pg_name (i := 2) nd rfl (Or.inl rfl))
      (pss_one (ps_set (i := 1) nd rfl (Or.inl rfl) (pe_op op_mod (pe_callTy (T := "int") call_int1 rfl B.int_ (by decide +kernel) (pa_cons (pe_op op_add (pe_op op_mul (pv 1) pe_int) (pe_callB (id := "abs") call_abs rfl B.abs_ (by decide +kernel) (pa_cons (pe_callTy (T := "int") call_int1 rfl B.int_ (by decide +kernel) (pa_cons (pv 2) pa_nil)) pa_nil))) pa_nil)) pe_int))))
    (pss_one (ps_ret (pe_lst (pa_cons (pe_callTy (T := "list") (r := rLisOf K) call_lisK rfl B.list_ (by decide +kernel) (pa_cons (pv 0) pa_nil)) (pa_cons pe_int (pa_cons pe_int (pa_cons (pv 1) pa_nil))))))))), ?_⟩
  refine ⟨_, rfl, a, rfl, ⟨_, hS⟩, for_it (walk_list (xs := ns.map V.int)) (fun i σ H' => ∃ v y, σ = [some (.ref a), some (.int v), y] ∧ 0 ≤ v ∧ H' = H) ⟨7, none, rfl, by omega, rfl⟩ ?_ ?_ ?_⟩
  · rintro i σ H' hi ⟨v, y, rfl, hv, rfl⟩
    exact hS
  · rintro i x σ H1 H2 hi ⟨v, y, rfl, hv, rfl⟩ ⟨rfl, hx⟩
    obtain ⟨c, rfl⟩ : ∃ c : Int, x = .int c := by
      rw [List.getElem?_map] at hx
      cases e : ns[i]? with
      | none => rw [e] at hx; cases hx
      | some c => rw [e] at hx; exact ⟨c, (Option.some.inj hx).symm⟩
    walk_at "r"
    exact ⟨_, _, rfl, Int.emod_nonneg _ (by decide), rfl⟩
  · rintro σ H2 ⟨v, y, rfl, hv, rfl⟩
    walk_at "r"
    refine ⟨_, _, rfl, .inl hS, fun c hc => ?_⟩
    walk_at "r"
    intro t ht
    have hct : c ≠ t := fun e => by
      rw [e, upd_same] at ht; cases ht
    have hn : H2 t = none := by rw [upd_ne hct.symm] at ht; exact ht
    refine q (t, c) _ (fun b u e => ?_) hn ⟨ns, 0, 0, v, upd_same, hct, ?_, by omega, by omega, hv⟩
    · rw [upd_ne (ne_of_none e hn), upd_ne (ne_of_none e hc)]
      exact e
    · show upd (upd H2 c _) t _ c = _
      rw [upd_ne hct, upd_same]
abbrev s_lawsymbols : Stmt := topS 10
abbrev N_lawsymbols : List Str := ["letters", "owners", "found", "owner", "letter"]
theorem sc_lawsymbols : FnScope N_lawsymbols ["letters", "owners"] (defScope s_lawsymbols) := ⟨rfl, rfl, rfl, by decide +kernel, rfl, by decide +kernel, by decide +kernel⟩
set_option maxHeartbeats 1000000 in
theorem ok_lawsymbols {SP_lawsymbols : SpD} {k : Nat} (D : Df K mg "_law_symbols" s_lawsymbols ["letters", "owners"]) (B : Bn mg)
    (pf : ∀ xs Qd, SP_lawsymbols xs Qd → t_lawsymbols (endsOf Qd) (iniR xs 3)) : CalG P TB.w K mg base (k + 1) "_law_symbols" ["letters", "owners"] (spU K 2 SP_lawsymbols) := by
  refine D.calU (m := 3) (t := t_lawsymbols) sc_lawsymbols rfl rfl pf ?_
  intro f cdv A o s H E hr gd
  have nd := sc_lawsymbols.nd
  have hu1 := My.Room.u65 hr
  have hu := hr.units
  exact (fss_cons (fs_setN (ps_set (i := 2) nd rfl (Or.inl rfl) (fe_lst fa_nil)))
    (fss_cons (fs_for (ps_for PassesOwn.never rfl (fi_any (fe_add fe_str (fe_var (pv 1)))) (fg_name (pg_name (i := 3) nd rfl (Or.inl rfl)))
      (fss_one (fs_for (ps_for PassesOwn.never rfl (fi_any (fe_var (pv 0))) (fg_name (pg_name (i := 4) nd rfl (Or.inl rfl)))
        (fss_one (fs_app (i := 2) (ps_expr (pe_bm PySem.F.plainAttrs_list PySem.F.slot_list_append PySem.F.type_list_append mt_append (pv 2) (fa_cons (fe_add (fe_var (pv 3)) (fe_var (pv 4))) fa_nil))))))))))
    (fss_one (fs_retU (ps_ret (fe_var (pv 2)))))))
abbrev s_lawdraw : Stmt := topS 6
abbrev N_lawdraw : List Str := ["tape", "many", "place", "number"]
theorem sc_lawdraw : FnScope N_lawdraw ["tape", "many"] (defScope s_lawdraw) := ⟨rfl, rfl, rfl, by decide +kernel, rfl, by decide +kernel, by decide +kernel⟩
set_option maxHeartbeats 1000000 in
theorem ok0_lawdraw (D : Df K mg "_law_draw" s_lawdraw ["tape", "many"]) (B : Bn mg) : Cal P TB.w K mg base 1 "_law_draw" ["tape", "many"] (spDraw K) := by
  refine D.cal sc_lawdraw ?_ ?_
  · intro vs H Q E h; obtain ⟨t, m, rfl, _⟩ := h; rfl
  intro f cdv A o s H vs Q E hr h
  obtain ⟨t, m, rfl, T, hm, q⟩ := h
  have nd := sc_lawdraw.nd
  refine ⟨_, (pss_cons (ps_if (pt_cmpR op_eq (pe_ix (r := rIxL K) ix_list (pv 0) pe_int (fun _ _ => rfl)) pe_int (nomark _))
      (pss_cons (ps_set (i := 2) nd rfl (Or.inl rfl) (pe_ix (r := rIxL K) ix_list (pv 0) pe_int (fun _ _ => rfl)))
      (pss_cons (ps_set (i := 3) nd rfl (Or.inl rfl) pe_int)
      (pss_cons (ps_if (pt_cmpR op_lt (pv 2) (pe_callB (id := "len") (r := rLenS K) call_lenK rfl B.len_ PySem.boot_len (pa_cons (pe_ix (r := rIxL K) ix_list (pv 0) pe_int (fun _ _ => rfl)) pa_nil)) (nomark _))
        (pss_one (ps_set (i := 3) nd rfl (Or.inl rfl) (pe_callB (id := "abs") call_abs rfl B.abs_ (by decide +kernel) (pa_cons (pe_callTy (T := "int") call_int1 rfl B.int_ (by decide +kernel) (pa_cons (pe_ix (r := rIxL K) ix_list (pe_ix (r := rIxL K) ix_list (pv 0) pe_int (fun _ _ => rfl)) (pv 2) (fun _ _ => rfl)) pa_nil)) pa_nil))))
        (pss_cons (ps_asg (pe_op op_mod (pe_callTy (T := "int") call_int1 rfl B.int_ (by decide +kernel) (pa_cons (pe_op op_add (pe_op op_add (pe_op op_mul (pe_ix (r := rIxL K) ix_list (pv 0) pe_int (fun _ _ => rfl)) pe_int) (pv 2)) pe_int) pa_nil)) pe_int) (pg_sub (pv 0) pe_int set_list))
        (pss_one (ps_set (i := 3) nd rfl (Or.inl rfl) (pe_ix (r := rIxL K) ix_list (pv 0) pe_int (fun _ _ => rfl))))))
      (pss_cons (ps_asg (pe_op op_add (pv 2) pe_int) (pg_sub (pv 0) pe_int set_list))
      (pss_cons (ps_if (pt_cmpR op_lt (pv 3) (pe_op op_pow pe_int pe_int) (nomark _))
        (pss_cons (ps_set (i := 3) nd rfl (Or.inl rfl) (pe_op op_mod (pe_callTy (T := "int") call_int1 rfl B.int_ (by decide +kernel) (pa_cons (pe_op op_add (pe_op op_add (pe_op op_mul (pv 3) pe_int) (pe_op op_mul (pv 2) pe_int)) pe_int) pa_nil)) pe_int))
        (pss_cons (ps_set (i := 3) nd rfl (Or.inl rfl) (pe_op op_mod (pe_callTy (T := "int") call_int1 rfl B.int_ (by decide +kernel) (pa_cons (pe_op op_mul (pv 3) pe_int) pa_nil)) pe_int))
        (pss_one (ps_ret (pe_op op_mod (pe_callTy (T := "int") call_int1 rfl B.int_ (by decide +kernel) (pa_cons (pv 3) pa_nil)) (pe_callB (id := "max") (call_max2 rfl) rfl B.max_ (by decide +kernel) (pa_cons (pv 1) (pa_cons pe_int pa_nil))))))))
        pss_nil)
      (pss_one (ps_asg (pv 3) (pg_sub (pv 0) pe_int set_list))))))))
      pss_nil)
    (pss_cons (ps_set (i := 3) nd rfl (Or.inl rfl) (pe_ix (r := rIxL K) ix_list (pv 0) pe_int (fun _ _ => rfl)))
    (pss_cons (ps_asg (pe_op op_fdiv (pv 3) (pe_callB (id := "max") (call_max2 rfl) rfl B.max_ (by decide +kernel) (pa_cons (pv 1) (pa_cons pe_int pa_nil)))) (pg_sub (pv 0) pe_int set_list))
    (pss_one (ps_ret (pe_op op_mod (pe_callTy (T := "int") call_int1 rfl B.int_ (by decide +kernel) (pa_cons (pv 3) pa_nil)) (pe_callB (id := "max") (call_max2 rfl) rfl B.max_ (by decide +kernel) (pa_cons (pv 1) (pa_cons pe_int pa_nil))))))))), ?_⟩
  obtain ⟨t, c⟩ := t
  obtain ⟨ns, p, n, sd, ht, hct, hc, hp, hn, hs⟩ := T.ex
  have ht : H t = some (HO.lst [V.ref c, V.int p, V.int n, V.int sd]) := ht
  have hct : c ≠ t := hct
  have hc : H c = some (HO.lst (ns.map V.int)) := hc
  have q : ∀ v H', 0 ≤ v → v < max m 1 → Kp (t, c) H H' → (∀ b, H b = none → H' b = none) → Tape K H' (t, c) → Q (.int v) H' := q
  have q2 : ∀ (v p' n' s' : Int), 0 ≤ v → v < max m 1 → 0 ≤ p' → 0 ≤ n' → 0 ≤ s' → Q (.int v) (upd H t (.lst [.ref c, .int p', .int n', .int s'])) := fun v p' n' s' h1 h2 h3 h4 h5 =>
    q v _ h1 h2 (Kp.self (t := (t, c))) (fun b hb => by rw [upd_ne (ne_of_none ht hb).symm]; exact hb) ⟨ns, p', n', s', upd_same, hct, by show upd H t _ c = _; rw [upd_ne hct]; exact hc, h3, h4, h5⟩
  have e1 : (if (1 : Int) > m then 1 else m) = max m 1 := by
    split <;> omega
  have m1 : 0 < max m 1 := by omega
  have fin : ∀ z : Int, 0 ≤ z % (if (1 : Int) > m then 1 else m) ∧ z % (if (1 : Int) > m then 1 else m) < max m 1 := fun z => by
    rw [e1]
    exact ⟨Int.emod_nonneg _ (by omega), Int.emod_lt_of_pos _ m1⟩
  have d0 : ∀ z : Int, 0 ≤ z → 0 ≤ z / (if (2 : Int) > m then 2 else m) := fun z hz =>
    Int.ediv_nonneg hz (by split <;> omega)
  walk_at "r"
  refine ite2 (fun e => ?_) (fun e => ?_)
  · walk_at "r"
    refine ite2 (fun e2 => ?_) (fun e2 => ?_)
    · have e3 := of_decide_eq_true e2
      rw [List.length_map] at e3
      have e4 : p.toNat < ns.length := by omega
      have e5 : atI (ns.map V.int) p = some (.int ns[p.toNat]) := by
        have z := atI_nat (xs := ns.map V.int) (j := p.toNat) (v := .int ns[p.toNat]) (by rw [List.getElem?_map, List.getElem?_eq_getElem e4]; rfl)
        rw [Int.toNat_of_nonneg hp] at z
        exact z
      refine ⟨_, rfl, ?_⟩
      walk_at "r"
      refine ⟨_, _, _, _, rfl, rfl, .inl (.inl hc), e5, ?_⟩
      walk_at "r"
      generalize hx : (if ns[p.toNat] < 0 then -ns[p.toNat] else ns[p.toNat]) = x
      have hx0 : 0 ≤ x := by
        rw [← hx]
        split <;> omega
      refine ite2 (fun e6 => ?_) (fun e6 => ?_)
      · walk_at "r"
        exact q2 _ (p + 1) n sd (fin _).1 (fin _).2 (by omega) hn hs
      · walk_at "r"
        rw [upd_upd, upd_upd]
        exact q2 _ (p + 1) _ sd (fin _).1 (fin _).2 (by omega) (d0 _ hx0) hs
    · walk_at "r"
      have s0 : 0 ≤ (sd * 48271 + p + 1) % 2147483647 := Int.emod_nonneg _ (by decide)
      refine ite2 (fun e6 => ?_) (fun e6 => ?_)
      · walk_at "r"
        rw [upd_upd]
        exact q2 _ (p + 1) n _ (fin _).1 (fin _).2 (by omega) hn s0
      · walk_at "r"
        rw [upd_upd, upd_upd, upd_upd]
        exact q2 _ (p + 1) _ _ (fin _).1 (fin _).2 (by omega) (d0 _ s0) s0
  · walk_at "r"
    exact q2 _ p _ sd (fin _).1 (fin _).2 hp (d0 _ hn) hs
abbrev s_lawpicked : Stmt := topS 12
abbrev N_lawpicked : List Str := ["tape", "rows", "many", "found", "at", "k"]
theorem sc_lawpicked : FnScope N_lawpicked ["tape", "rows", "many"] (defScope s_lawpicked) := ⟨rfl, rfl, rfl, by decide +kernel, rfl, by decide +kernel, by decide +kernel⟩
set_option maxHeartbeats 1000000 in
theorem ok_lawpicked {SP_lawpicked : SpD} {SP_lawdraw : SpD} {k : Nat} (D : Df K mg "_law_picked" s_lawpicked ["tape", "rows", "many"]) (B : Bn mg) {lv_lawdraw : Nat} (hl_lawdraw : lv_lawdraw ≤ k) (C_lawdraw : CalG P TB.w K mg base lv_lawdraw "_law_draw" ["tape", "many"] (spU K 2 SP_lawdraw))
    (pf : ∀ xs Qd, SP_lawpicked xs Qd → t_lawpicked SP_lawdraw (endsOf Qd) (iniR xs 3)) : CalG P TB.w K mg base (k + 1) "_law_picked" ["tape", "rows", "many"] (spU K 3 SP_lawpicked) := by
  refine D.calU (m := 3) (t := t_lawpicked SP_lawdraw) sc_lawpicked rfl rfl pf ?_
  intro f cdv A o s H E hr gd
  have nd := sc_lawpicked.nd
  have hu1 := My.Room.u65 hr
  have hu := hr.units
  exact (fss_cons (fs_setN (ps_set (i := 3) nd rfl (Or.inl rfl) (fe_lst fa_nil)))
    (fss_cons (fs_set (ps_set (i := 4) nd rfl (Or.inl rfl) fe_int))
    (fss_cons (fs_for (ps_for PassesOwn.never rfl (fi_rng1 (pi_range1 rfl B.range_ (fa_cons (fe_var (pv 2)) fa_nil))) (fg_name (pg_name (i := 5) nd rfl (Or.inl rfl)))
      (fss_cons (fs_set (ps_set (i := 4) nd rfl (Or.inl rfl) (fe_add (fe_var (pv 4)) (fe_call gd C_lawdraw (hr.mono hl_lawdraw) rfl (fa_cons (fe_var (pv 0)) (fa_cons (fe_sub (fe_add (fe_add (fe_sub (fe_bu (id := "len") bu_len rfl B.len_ PySem.boot_len (fa_cons (fe_var (pv 1)) fa_nil)) (fe_var (pv 2))) (fe_var (pv 5))) fe_int) (fe_var (pv 4))) fa_nil))))))
      (fss_cons (fs_app (i := 3) (ps_expr (pe_bm PySem.F.plainAttrs_list PySem.F.slot_list_append PySem.F.type_list_append mt_append (pv 3) (fa_cons (fe_bix (fe_var (pv 1)) (fe_var (pv 4)) (fun _ _ => rfl)) fa_nil))))
      (fss_one (fs_set (ps_set (i := 4) nd rfl (Or.inl rfl) (fe_add (fe_var (pv 4)) fe_int))))))))
    (fss_one (fs_retU (ps_ret (fe_var (pv 3))))))))
abbrev s_lawrising : Stmt := topS 7
abbrev N_lawrising : List Str := ["tape", "signs", "many", "found", "at", "k"]
theorem sc_lawrising : FnScope N_lawrising ["tape", "signs", "many"] (defScope s_lawrising) := ⟨rfl, rfl, rfl, by decide +kernel, rfl, by decide +kernel, by decide +kernel⟩
set_option maxHeartbeats 1000000 in
theorem ok_lawrising {SP_lawrising : SpD} {SP_lawdraw : SpD} {k : Nat} (D : Df K mg "_law_rising" s_lawrising ["tape", "signs", "many"]) (B : Bn mg) {lv_lawdraw : Nat} (hl_lawdraw : lv_lawdraw ≤ k) (C_lawdraw : CalG P TB.w K mg base lv_lawdraw "_law_draw" ["tape", "many"] (spU K 2 SP_lawdraw))
    (pf : ∀ xs Qd, SP_lawrising xs Qd → t_lawrising SP_lawdraw (endsOf Qd) (iniR xs 3)) : CalG P TB.w K mg base (k + 1) "_law_rising" ["tape", "signs", "many"] (spU K 3 SP_lawrising) := by
  refine D.calU (m := 3) (t := t_lawrising SP_lawdraw) sc_lawrising rfl rfl pf ?_
  intro f cdv A o s H E hr gd
  have nd := sc_lawrising.nd
  have hu1 := My.Room.u65 hr
  have hu := hr.units
  exact (fss_cons (fs_set (ps_set (i := 3) nd rfl (Or.inl rfl) fe_str))
    (fss_cons (fs_set (ps_set (i := 4) nd rfl (Or.inl rfl) fe_int))
    (fss_cons (fs_for (ps_for PassesOwn.never rfl (fi_rng1 (pi_range1 rfl B.range_ (fa_cons (fe_var (pv 2)) fa_nil))) (fg_name (pg_name (i := 5) nd rfl (Or.inl rfl)))
      (fss_cons (fs_set (ps_set (i := 4) nd rfl (Or.inl rfl) (fe_add (fe_var (pv 4)) (fe_call gd C_lawdraw (hr.mono hl_lawdraw) rfl (fa_cons (fe_var (pv 0)) (fa_cons (fe_sub (fe_add (fe_add (fe_sub (fe_bu (id := "len") bu_len rfl B.len_ PySem.boot_len (fa_cons (fe_var (pv 1)) fa_nil)) (fe_var (pv 2))) (fe_var (pv 5))) fe_int) (fe_var (pv 4))) fa_nil))))))
      (fss_cons (fs_set (ps_set (i := 3) nd rfl (Or.inl rfl) (fe_add (fe_var (pv 3)) (fe_bix (fe_var (pv 1)) (fe_var (pv 4)) (fun _ _ => rfl)))))
      (fss_one (fs_set (ps_set (i := 4) nd rfl (Or.inl rfl) (fe_add (fe_var (pv 4)) fe_int))))))))
    (fss_one (fs_retU (ps_ret (fe_var (pv 3))))))))
abbrev s_lawletters : Stmt := topS 8
abbrev N_lawletters : List Str := ["tape"]
theorem sc_lawletters : FnScope N_lawletters ["tape"] (defScope s_lawletters) := ⟨rfl, rfl, rfl, by decide +kernel, rfl, by decide +kernel, by decide +kernel⟩
set_option maxHeartbeats 1000000 in
theorem ok_lawletters {SP_lawletters : SpD} {SP_lawdraw : SpD} {SP_lawrising : SpD} {k : Nat} (D : Df K mg "_law_letters" s_lawletters ["tape"]) (B : Bn mg) {lv_lawdraw : Nat} (hl_lawdraw : lv_lawdraw ≤ k) (C_lawdraw : CalG P TB.w K mg base lv_lawdraw "_law_draw" ["tape", "many"] (spU K 2 SP_lawdraw)) {lv_lawrising : Nat} (hl_lawrising : lv_lawrising ≤ k) (C_lawrising : CalG P TB.w K mg base lv_lawrising "_law_rising" ["tape", "signs", "many"] (spU K 3 SP_lawrising))
    (pf : ∀ xs Qd, SP_lawletters xs Qd → t_lawletters SP_lawdraw SP_lawrising (endsOf Qd) (iniR xs 0)) : CalG P TB.w K mg base (k + 1) "_law_letters" ["tape"] (spU K 1 SP_lawletters) := by
  refine D.calU (m := 0) (t := t_lawletters SP_lawdraw SP_lawrising) sc_lawletters rfl rfl pf ?_
  intro f cdv A o s H E hr gd
  have nd := sc_lawletters.nd
  have hu1 := My.Room.u65 hr
  have hu := hr.units
  exact (fss_one (fs_retU (ps_ret (fe_call gd C_lawrising (hr.mono hl_lawrising) rfl (fa_cons (fe_var (pv 0)) (fa_cons fe_str (fa_cons (fe_bix (fe_lst (fa_cons fe_int (fa_cons fe_int (fa_cons fe_int (fa_cons fe_int (fa_cons fe_int (fa_cons fe_int fa_nil))))))) (fe_call gd C_lawdraw (hr.mono hl_lawdraw) rfl (fa_cons (fe_var (pv 0)) (fa_cons fe_int fa_nil))) (fun _ _ => rfl)) fa_nil)))))))
abbrev s_lawowners : Stmt := topS 9
abbrev N_lawowners : List Str := ["tape"]
theorem sc_lawowners : FnScope N_lawowners ["tape"] (defScope s_lawowners) := ⟨rfl, rfl, rfl, by decide +kernel, rfl, by decide +kernel, by decide +kernel⟩
set_option maxHeartbeats 1000000 in
theorem ok_lawowners {SP_lawowners : SpD} {SP_lawdraw : SpD} {SP_lawrising : SpD} {k : Nat} (D : Df K mg "_law_owners" s_lawowners ["tape"]) (B : Bn mg) {lv_lawdraw : Nat} (hl_lawdraw : lv_lawdraw ≤ k) (C_lawdraw : CalG P TB.w K mg base lv_lawdraw "_law_draw" ["tape", "many"] (spU K 2 SP_lawdraw)) {lv_lawrising : Nat} (hl_lawrising : lv_lawrising ≤ k) (C_lawrising : CalG P TB.w K mg base lv_lawrising "_law_rising" ["tape", "signs", "many"] (spU K 3 SP_lawrising))
    (pf : ∀ xs Qd, SP_lawowners xs Qd → t_lawowners SP_lawdraw SP_lawrising (endsOf Qd) (iniR xs 0)) : CalG P TB.w K mg base (k + 1) "_law_owners" ["tape"] (spU K 1 SP_lawowners) := by
  refine D.calU (m := 0) (t := t_lawowners SP_lawdraw SP_lawrising) sc_lawowners rfl rfl pf ?_
  intro f cdv A o s H E hr gd
  have nd := sc_lawowners.nd
  have hu1 := My.Room.u65 hr
  have hu := hr.units
  exact (fss_one (fs_retU (ps_ret (fe_call gd C_lawrising (hr.mono hl_lawrising) rfl (fa_cons (fe_var (pv 0)) (fa_cons fe_str (fa_cons (fe_bix (fe_lst (fa_cons fe_int (fa_cons fe_int (fa_cons fe_int (fa_cons fe_int (fa_cons fe_int (fa_cons fe_int fa_nil))))))) (fe_call gd C_lawdraw (hr.mono hl_lawdraw) rfl (fa_cons (fe_var (pv 0)) (fa_cons fe_int fa_nil))) (fun _ _ => rfl)) fa_nil)))))))
abbrev s_lawsigns : Stmt := topS 13
abbrev N_lawsigns : List Str := ["tape", "signs"]
theorem sc_lawsigns : FnScope N_lawsigns ["tape"] (defScope s_lawsigns) := ⟨rfl, rfl, rfl, by decide +kernel, rfl, by decide +kernel, by decide +kernel⟩
set_option maxHeartbeats 1000000 in
theorem ok_lawsigns {SP_lawsigns : SpD} {SP_lawowners : SpD} {SP_lawletters : SpD} {SP_lawsymbols : SpD} {SP_lawdraw : SpD} {SP_lawpicked : SpD} {k : Nat} (D : Df K mg "_law_signs" s_lawsigns ["tape"]) (B : Bn mg) {lv_lawowners : Nat} (hl_lawowners : lv_lawowners ≤ k) (C_lawowners : CalG P TB.w K mg base lv_lawowners "_law_owners" ["tape"] (spU K 1 SP_lawowners)) {lv_lawletters : Nat} (hl_lawletters : lv_lawletters ≤ k) (C_lawletters : CalG P TB.w K mg base lv_lawletters "_law_letters" ["tape"] (spU K 1 SP_lawletters)) {lv_lawsymbols : Nat} (hl_lawsymbols : lv_lawsymbols ≤ k) (C_lawsymbols : CalG P TB.w K mg base lv_lawsymbols "_law_symbols" ["letters", "owners"] (spU K 2 SP_lawsymbols)) {lv_lawdraw : Nat} (hl_lawdraw : lv_lawdraw ≤ k) (C_lawdraw : CalG P TB.w K mg base lv_lawdraw "_law_draw" ["tape", "many"] (spU K 2 SP_lawdraw)) {lv_lawpicked : Nat} (hl_lawpicked : lv_lawpicked ≤ k) (C_lawpicked : CalG P TB.w K mg base lv_lawpicked "_law_picked" ["tape", "rows", "many"] (spU K 3 SP_lawpicked))
    (pf : ∀ xs Qd, SP_lawsigns xs Qd → t_lawsigns SP_lawowners SP_lawletters SP_lawsymbols SP_lawdraw SP_lawpicked (endsOf Qd) (iniR xs 1)) : CalG P TB.w K mg base (k + 1) "_law_signs" ["tape"] (spU K 1 SP_lawsigns) := by
  refine D.calU (m := 1) (t := t_lawsigns SP_lawowners SP_lawletters SP_lawsymbols SP_lawdraw SP_lawpicked) sc_lawsigns rfl rfl pf ?_
  intro f cdv A o s H E hr gd
  have nd := sc_lawsigns.nd
  have hu1 := My.Room.u65 hr
  have hu := hr.units
  exact (fss_cons (fs_set (ps_set (i := 1) nd rfl (Or.inl rfl) (fe_call gd C_lawsymbols (hr.mono hl_lawsymbols) rfl (fa_cons (fe_call gd C_lawletters (hr.mono hl_lawletters) rfl (fa_cons (fe_var (pv 0)) fa_nil)) (fa_cons (fe_call gd C_lawowners (hr.mono hl_lawowners) rfl (fa_cons (fe_var (pv 0)) fa_nil)) fa_nil)))))
    (fss_one (fs_retU (ps_ret (fe_call gd C_lawpicked (hr.mono hl_lawpicked) rfl (fa_cons (fe_var (pv 0)) (fa_cons (fe_var (pv 1)) (fa_cons (fe_bu (id := "min") (bu_min rfl) rfl B.min_ (by decide +kernel) (fa_cons (fe_bix (fe_lst (fa_cons fe_int (fa_cons fe_int (fa_cons fe_int (fa_cons fe_int fa_nil))))) (fe_call gd C_lawdraw (hr.mono hl_lawdraw) rfl (fa_cons (fe_var (pv 0)) (fa_cons fe_int fa_nil))) (fun _ _ => rfl)) (fa_cons (fe_bu (id := "len") bu_len rfl B.len_ PySem.boot_len (fa_cons (fe_var (pv 1)) fa_nil)) fa_nil))) fa_nil))))))))
abbrev s_lawnet : Stmt := topS 14
abbrev N_lawnet : List Str := ["tape", "signs", "count", "first", "last", "starts", "ends", "whole", "chosen", "edges", "k"]
theorem sc_lawnet : FnScope N_lawnet ["tape", "signs"] (defScope s_lawnet) := ⟨rfl, rfl, rfl, by decide +kernel, rfl, by decide +kernel, by decide +kernel⟩
set_option maxHeartbeats 1000000 in
theorem ok_lawnet {SP_lawnet : SpD} {SP_lawdraw : SpD} {k : Nat} (D : Df K mg "_law_net" s_lawnet ["tape", "signs"]) (B : Bn mg) {lv_lawdraw : Nat} (hl_lawdraw : lv_lawdraw ≤ k) (C_lawdraw : CalG P TB.w K mg base lv_lawdraw "_law_draw" ["tape", "many"] (spU K 2 SP_lawdraw))
    (pf : ∀ xs Qd, SP_lawnet xs Qd → t_lawnet SP_lawdraw (endsOf Qd) (iniR xs 9)) : CalG P TB.w K mg base (k + 1) "_law_net" ["tape", "signs"] (spU K 2 SP_lawnet) := by
  refine D.calU (m := 9) (t := t_lawnet SP_lawdraw) sc_lawnet rfl rfl pf ?_
  intro f cdv A o s H E hr gd
  have nd := sc_lawnet.nd
  have hu1 := My.Room.u65 hr
  have hu := hr.units
  exact (fss_cons (fs_set (ps_set (i := 2) nd rfl (Or.inl rfl) (fe_bix (fe_lst (fa_cons fe_int (fa_cons fe_int (fa_cons fe_int (fa_cons fe_int (fa_cons fe_int (fa_cons fe_int (fa_cons fe_int (fa_cons fe_int (fa_cons fe_int (fa_cons fe_int fa_nil))))))))))) (fe_call gd C_lawdraw (hr.mono hl_lawdraw) rfl (fa_cons (fe_var (pv 0)) (fa_cons fe_int fa_nil))) (fun _ _ => rfl))))
    (fss_cons (fs_set (ps_set (i := 3) nd rfl (Or.inr rfl) (fe_call gd C_lawdraw (hr.mono hl_lawdraw) rfl (fa_cons (fe_var (pv 0)) (fa_cons (fe_add (fe_var (pv 2)) fe_int) fa_nil)))))
    (fss_cons (fs_set (ps_set (i := 4) nd rfl (Or.inr rfl) (fe_call gd C_lawdraw (hr.mono hl_lawdraw) rfl (fa_cons (fe_var (pv 0)) (fa_cons (fe_add (fe_var (pv 2)) fe_int) fa_nil)))))
    (fss_cons (fs_setLc (i := 5) (own := [("k", 10)]) rfl nd rfl rfl (sw_true rfl rfl rfl (by decide +kernel)) (fi_rng1 (pi_range1 rfl B.range_ (fa_cons (fe_var (pv 2)) fa_nil))) (blkOk_by (N := N_lawnet) (sc := defScope s_lawnet) (by decide +kernel)) (fun _ _ _ _ _ => (fg_name (pg_name (i := 10) nd rfl (Or.inl rfl)))) (fun _ _ _ _ _ => (fts_one (FW.ft (fw_or (ft_cu (cu_eq hu) (fe_var (pv 10)) (fe_var (pv 3)) (nomark _)) (fw_or1 (ft_cu (cu_eq hu) (fe_call gd C_lawdraw (hr.mono hl_lawdraw) rfl (fa_cons (fe_var (pv 0)) (fa_cons fe_int fa_nil))) fe_int (nomark _))))))) (fun _ _ _ _ _ => (fe_var (pv 10))) (by decide))
    (fss_cons (fs_setLc (i := 6) (own := [("k", 10)]) rfl nd rfl rfl (sw_true rfl rfl rfl (by decide +kernel)) (fi_rng1 (pi_range1 rfl B.range_ (fa_cons (fe_var (pv 2)) fa_nil))) (blkOk_by (N := N_lawnet) (sc := defScope s_lawnet) (by decide +kernel)) (fun _ _ _ _ _ => (fg_name (pg_name (i := 10) nd rfl (Or.inl rfl)))) (fun _ _ _ _ _ => (fts_one (FW.ft (fw_or (ft_cu (cu_eq hu) (fe_var (pv 10)) (fe_var (pv 4)) (nomark _)) (fw_or1 (ft_cu (cu_eq hu) (fe_call gd C_lawdraw (hr.mono hl_lawdraw) rfl (fa_cons (fe_var (pv 0)) (fa_cons fe_int fa_nil))) fe_int (nomark _))))))) (fun _ _ _ _ _ => (fe_var (pv 10))) (by decide))
    (fss_cons (fs_set (ps_set (i := 7) nd rfl (Or.inr rfl) (fe_mul (fe_mul (fe_var (pv 2)) (fe_bu (id := "len") bu_len rfl B.len_ PySem.boot_len (fa_cons (fe_var (pv 1)) fa_nil))) (fe_var (pv 2)))))
    (fss_cons (fs_setLc (i := 8) (own := [("k", 10)]) rfl nd rfl rfl (sw_true rfl rfl rfl (by decide +kernel)) (fi_rng1 (pi_range1 rfl B.range_ (fa_cons (fe_call gd C_lawdraw (hr.mono hl_lawdraw) rfl (fa_cons (fe_var (pv 0)) (fa_cons (fe_add (fe_mul fe_int (fe_var (pv 2))) fe_int) fa_nil))) fa_nil))) (blkOk_by (N := N_lawnet) (sc := defScope s_lawnet) (by decide +kernel)) (fun _ _ _ _ _ => (fg_name (pg_name (i := 10) nd rfl (Or.inl rfl)))) (fun _ _ _ _ _ => fts_nil) (fun _ _ _ _ _ => (fe_call gd C_lawdraw (hr.mono hl_lawdraw) rfl (fa_cons (fe_var (pv 0)) (fa_cons (fe_var (pv 7)) fa_nil)))) (by decide))
    (fss_cons (fs_setN (ps_set (i := 9) nd rfl (Or.inl rfl) (fe_lst fa_nil)))
    (fss_cons (fs_for (ps_for PassesOwn.never rfl (fi_rng1 (pi_range1 rfl B.range_ (fa_cons (fe_var (pv 7)) fa_nil))) (fg_name (pg_name (i := 10) nd rfl (Or.inl rfl)))
      (fss_one (fs_if (ft_cu (cu_in hu1) (fe_var (pv 10)) (fe_var (pv 8)) rfl)
        (fss_one (fs_app (i := 9) (ps_expr (pe_bm PySem.F.plainAttrs_list PySem.F.slot_list_append PySem.F.type_list_append mt_append (pv 9) (fa_cons (fe_tup (fa_cons (fe_div (fe_var (pv 10)) (fe_mul (fe_var (pv 2)) (fe_bu (id := "len") bu_len rfl B.len_ PySem.boot_len (fa_cons (fe_var (pv 1)) fa_nil)))) (fa_cons (fe_bix (fe_var (pv 1)) (fe_mod (fe_but (T := "int") bu_int rfl B.int_ (by decide +kernel) (fa_cons (fe_div (fe_var (pv 10)) (fe_var (pv 2))) fa_nil)) (fe_bu (id := "len") bu_len rfl B.len_ PySem.boot_len (fa_cons (fe_var (pv 1)) fa_nil))) (fun _ _ => rfl)) (fa_cons (fe_mod (fe_but (T := "int") bu_int rfl B.int_ (by decide +kernel) (fa_cons (fe_var (pv 10)) fa_nil)) (fe_var (pv 2))) fa_nil)))) fa_nil)))))
        fss_nil))))
    (fss_one (fs_retU (ps_ret (fe_tup (fa_cons (fe_var (pv 2)) (fa_cons (fe_but (T := "tuple") bu_tup rfl B.tuple_ (by decide +kernel) (fa_cons (fe_var (pv 5)) fa_nil)) (fa_cons (fe_but (T := "tuple") bu_tup rfl B.tuple_ (by decide +kernel) (fa_cons (fe_var (pv 6)) fa_nil)) (fa_cons (fe_but (T := "tuple") bu_tup rfl B.tuple_ (by decide +kernel) (fa_cons (fe_var (pv 9)) fa_nil)) fa_nil)))))))))))))))))
abbrev s_lawahead : Stmt := topS 15
abbrev N_lawahead : List Str := ["net", "seen", "k", "changed", "edge"]
theorem sc_lawahead : FnScope N_lawahead ["net"] (defScope s_lawahead) := ⟨rfl, rfl, rfl, by decide +kernel, rfl, by decide +kernel, by decide +kernel⟩
set_option maxHeartbeats 1000000 in
theorem ok_lawahead {SP_lawahead : SpD} {k : Nat} (D : Df K mg "_law_ahead" s_lawahead ["net"]) (B : Bn mg)
    (pf : ∀ xs Qd, SP_lawahead xs Qd → t_lawahead (endsOf Qd) (iniR xs 4)) : CalG P TB.w K mg base (k + 1) "_law_ahead" ["net"] (spU K 1 SP_lawahead) := by
  refine D.calU (m := 4) (t := t_lawahead) sc_lawahead rfl rfl pf ?_
  intro f cdv A o s H E hr gd
  have nd := sc_lawahead.nd
  have hu1 := My.Room.u65 hr
  have hu := hr.units
  exact (fss_cons (fs_setLcN (i := 1) (own := [("k", 2)]) rfl nd rfl rfl (sw_true rfl rfl rfl (by decide +kernel)) (fi_rng1 (pi_range1 rfl B.range_ (fa_cons (fe_bix (fe_var (pv 0)) fe_int (fun _ _ => rfl)) fa_nil))) (blkOk_by (N := N_lawahead) (sc := defScope s_lawahead) (by decide +kernel)) (fun _ _ _ _ _ => (fg_name (pg_name (i := 2) nd rfl (Or.inl rfl)))) (fun _ _ _ _ _ => fts_nil) (fun _ _ _ _ _ => fe_bl) (by decide))
    (fss_cons (fs_for (ps_for PassesOwn.never rfl (fi_any (fe_bix (fe_var (pv 0)) fe_int (fun _ _ => rfl))) (fg_name (pg_name (i := 2) nd rfl (Or.inl rfl)))
      (fss_one (fs_setIx (i := 1) (ps_asg fe_bl (pg_sub (pv 1) (fe_var (pv 2)) set_list))))))
    (fss_cons (fs_set (ps_set (i := 3) nd rfl (Or.inl rfl) fe_bl))
    (fss_cons (fs_for (ps_for PassesOwn.never rfl (fi_rng1 (pi_range1 rfl B.range_ (fa_cons (fe_bix (fe_var (pv 0)) fe_int (fun _ _ => rfl)) fa_nil))) (fg_name (pg_name (i := 2) nd rfl (Or.inl rfl)))
      (fss_one (fs_if (ft_tru (fe_var (pv 3)))
        (fss_cons (fs_set (ps_set (i := 3) nd rfl (Or.inl rfl) fe_bl))
        (fss_one (fs_for (ps_for PassesOwn.never rfl (fi_any (fe_bix (fe_var (pv 0)) fe_int (fun _ _ => rfl))) (fg_name (pg_name (i := 4) nd rfl (Or.inl rfl)))
          (fss_one (fs_if (FW.ft (fw_and (ft_tru (fe_bix (fe_var (pv 1)) (fe_bix (fe_var (pv 4)) fe_int (fun _ _ => rfl)) (fun _ _ => rfl))) (fw_and1 (ft_not (ft_tru (fe_bix (fe_var (pv 1)) (fe_bix (fe_var (pv 4)) fe_int (fun _ _ => rfl)) (fun _ _ => rfl)))))))
            (fss_cons (fs_setIx (i := 1) (ps_asg fe_bl (pg_sub (pv 1) (fe_bix (fe_var (pv 4)) fe_int (fun _ _ => rfl)) set_list)))
            (fss_one (fs_set (ps_set (i := 3) nd rfl (Or.inl rfl) fe_bl))))
            fss_nil))))))
        fss_nil))))
    (fss_one (fs_retU (ps_ret (fe_var (pv 1)))))))))
abbrev s_lawbehind : Stmt := topS 16
abbrev N_lawbehind : List Str := ["net", "seen", "k", "changed", "edge"]
theorem sc_lawbehind : FnScope N_lawbehind ["net"] (defScope s_lawbehind) := ⟨rfl, rfl, rfl, by decide +kernel, rfl, by decide +kernel, by decide +kernel⟩
set_option maxHeartbeats 1000000 in
theorem ok_lawbehind {SP_lawbehind : SpD} {k : Nat} (D : Df K mg "_law_behind" s_lawbehind ["net"]) (B : Bn mg)
    (pf : ∀ xs Qd, SP_lawbehind xs Qd → t_lawbehind (endsOf Qd) (iniR xs 4)) : CalG P TB.w K mg base (k + 1) "_law_behind" ["net"] (spU K 1 SP_lawbehind) := by
  refine D.calU (m := 4) (t := t_lawbehind) sc_lawbehind rfl rfl pf ?_
  intro f cdv A o s H E hr gd
  have nd := sc_lawbehind.nd
  have hu1 := My.Room.u65 hr
  have hu := hr.units
  exact (fss_cons (fs_setLcN (i := 1) (own := [("k", 2)]) rfl nd rfl rfl (sw_true rfl rfl rfl (by decide +kernel)) (fi_rng1 (pi_range1 rfl B.range_ (fa_cons (fe_bix (fe_var (pv 0)) fe_int (fun _ _ => rfl)) fa_nil))) (blkOk_by (N := N_lawbehind) (sc := defScope s_lawbehind) (by decide +kernel)) (fun _ _ _ _ _ => (fg_name (pg_name (i := 2) nd rfl (Or.inl rfl)))) (fun _ _ _ _ _ => fts_nil) (fun _ _ _ _ _ => fe_bl) (by decide))
    (fss_cons (fs_for (ps_for PassesOwn.never rfl (fi_any (fe_bix (fe_var (pv 0)) fe_int (fun _ _ => rfl))) (fg_name (pg_name (i := 2) nd rfl (Or.inl rfl)))
      (fss_one (fs_setIx (i := 1) (ps_asg fe_bl (pg_sub (pv 1) (fe_var (pv 2)) set_list))))))
    (fss_cons (fs_set (ps_set (i := 3) nd rfl (Or.inl rfl) fe_bl))
    (fss_cons (fs_for (ps_for PassesOwn.never rfl (fi_rng1 (pi_range1 rfl B.range_ (fa_cons (fe_bix (fe_var (pv 0)) fe_int (fun _ _ => rfl)) fa_nil))) (fg_name (pg_name (i := 2) nd rfl (Or.inl rfl)))
      (fss_one (fs_if (ft_tru (fe_var (pv 3)))
        (fss_cons (fs_set (ps_set (i := 3) nd rfl (Or.inl rfl) fe_bl))
        (fss_one (fs_for (ps_for PassesOwn.never rfl (fi_any (fe_bix (fe_var (pv 0)) fe_int (fun _ _ => rfl))) (fg_name (pg_name (i := 4) nd rfl (Or.inl rfl)))
          (fss_one (fs_if (FW.ft (fw_and (ft_tru (fe_bix (fe_var (pv 1)) (fe_bix (fe_var (pv 4)) fe_int (fun _ _ => rfl)) (fun _ _ => rfl))) (fw_and1 (ft_not (ft_tru (fe_bix (fe_var (pv 1)) (fe_bix (fe_var (pv 4)) fe_int (fun _ _ => rfl)) (fun _ _ => rfl)))))))
            (fss_cons (fs_setIx (i := 1) (ps_asg fe_bl (pg_sub (pv 1) (fe_bix (fe_var (pv 4)) fe_int (fun _ _ => rfl)) set_list)))
            (fss_one (fs_set (ps_set (i := 3) nd rfl (Or.inl rfl) fe_bl))))
            fss_nil))))))
        fss_nil))))
    (fss_one (fs_retU (ps_ret (fe_var (pv 1)))))))))
abbrev s_lawsame : Stmt := topS 11
abbrev N_lawsame : List Str := ["told", "due", "k"]
theorem sc_lawsame : FnScope N_lawsame ["told", "due"] (defScope s_lawsame) := ⟨rfl, rfl, rfl, by decide +kernel, rfl, by decide +kernel, by decide +kernel⟩
set_option maxHeartbeats 1000000 in
theorem ok_lawsame {SPm : Nat → SpD} {k : Nat} (D : Df K mg "_law_same" s_lawsame ["told", "due"]) (B : Bn mg)
    (z : ∀ xs Q, ¬ SPm 0 xs Q) (pf : ∀ m xs Qd, SPm (m + 1) xs Qd → t_lawsame (SPm m) (endsOf Qd) (iniR xs 1)) : ∀ m, CalG P TB.w K mg base (k + 1 + m) "_law_same" ["told", "due"] (spU K 2 (SPm m)) := by
  refine D.calR (m := 1) (t := t_lawsame) sc_lawsame rfl rfl z pf ?_
  intro m C_self f cdv A o s H E hr gd
  have nd := sc_lawsame.nd
  have hu1 := My.Room.u65 hr
  have hu := hr.units
  exact (fss_cons (fs_if (ft_cu cu_is (fe_var (pv 1)) fe_non (nomark _))
      (fss_one (fs_retU (ps_ret (fe_cu cu_is (fe_var (pv 0)) fe_non (nomark _)))))
      fss_nil)
    (fss_cons (fs_if (ft_tru (fe_isi rfl B.isinstance_ (fe_var (pv 1)) (pe_bltn (v := .ty "bool") rfl B.bool_ (by decide +kernel) rfl)))
      (fss_one (fs_retU (ps_ret (fe_and (fe_isi rfl B.isinstance_ (fe_var (pv 0)) (pe_bltn (v := .ty "bool") rfl B.bool_ (by decide +kernel) rfl)) (fe_one (fe_cu (cu_eq hu) (fe_var (pv 0)) (fe_var (pv 1)) (nomark _)))))))
      fss_nil)
    (fss_cons (fs_if (ft_tru (fe_isi rfl B.isinstance_ (fe_var (pv 1)) (pe_bltn (v := .ty "int") rfl B.int_ (by decide +kernel) rfl)))
      (fss_one (fs_retU (ps_ret (fe_and (fe_isi rfl B.isinstance_ (fe_var (pv 0)) (pe_bltn (v := .ty "int") rfl B.int_ (by decide +kernel) rfl)) (fe_and (fe_not (fe_isi rfl B.isinstance_ (fe_var (pv 0)) (pe_bltn (v := .ty "bool") rfl B.bool_ (by decide +kernel) rfl))) (fe_one (fe_cu (cu_eq hu) (fe_var (pv 0)) (fe_var (pv 1)) (nomark _))))))))
      fss_nil)
    (fss_cons (fs_if (ft_tru (fe_isi rfl B.isinstance_ (fe_var (pv 1)) (pe_bltn (v := .ty "str") rfl B.str_ (by decide +kernel) rfl)))
      (fss_one (fs_retU (ps_ret (fe_and (fe_isi rfl B.isinstance_ (fe_var (pv 0)) (pe_bltn (v := .ty "str") rfl B.str_ (by decide +kernel) rfl)) (fe_one (fe_cu (cu_eq hu) (fe_var (pv 0)) (fe_var (pv 1)) (nomark _)))))))
      fss_nil)
    (fss_cons (fs_if (FW.ft (fw_or (ft_not (ft_tru (fe_isi rfl B.isinstance_ (fe_var (pv 0)) (pe_bltn (v := .ty "tuple") rfl B.tuple_ (by decide +kernel) rfl)))) (fw_or1 (ft_cu (cu_ne hu) (fe_bu (id := "len") bu_len rfl B.len_ PySem.boot_len (fa_cons (fe_var (pv 0)) fa_nil)) (fe_bu (id := "len") bu_len rfl B.len_ PySem.boot_len (fa_cons (fe_var (pv 1)) fa_nil)) (nomark _)))))
      (fss_one (fs_retU (ps_ret fe_bl)))
      fss_nil)
    (fss_cons (fs_for (ps_for PassesOwn.never rfl (fi_rng1 (pi_range1 rfl B.range_ (fa_cons (fe_bu (id := "len") bu_len rfl B.len_ PySem.boot_len (fa_cons (fe_var (pv 1)) fa_nil)) fa_nil))) (fg_name (pg_name (i := 2) nd rfl (Or.inl rfl)))
      (fss_one (fs_if (ft_not (ft_tru (fe_call gd C_self hr rfl (fa_cons (fe_bix (fe_var (pv 0)) (fe_var (pv 2)) (fun _ _ => rfl)) (fa_cons (fe_bix (fe_var (pv 1)) (fe_var (pv 2)) (fun _ _ => rfl)) fa_nil)))))
        (fss_one (fs_retU (ps_ret fe_bl)))
        fss_nil))))
    (fss_one (fs_retU (ps_ret fe_bl)))))))))
abbrev s_lawring : Stmt := topS 17
abbrev N_lawring : List Str := ["tape", "signs", "count", "step", "edges", "start", "cut", "k"]
theorem sc_lawring : FnScope N_lawring ["tape", "signs"] (defScope s_lawring) := ⟨rfl, rfl, rfl, by decide +kernel, rfl, by decide +kernel, by decide +kernel⟩
set_option maxHeartbeats 1000000 in
theorem ok_lawring {SP_lawring : SpD} {SP_lawdraw : SpD} {k : Nat} (D : Df K mg "_law_ring" s_lawring ["tape", "signs"]) (B : Bn mg) {lv_lawdraw : Nat} (hl_lawdraw : lv_lawdraw ≤ k) (C_lawdraw : CalG P TB.w K mg base lv_lawdraw "_law_draw" ["tape", "many"] (spU K 2 SP_lawdraw))
    (pf : ∀ xs Qd, SP_lawring xs Qd → t_lawring SP_lawdraw (endsOf Qd) (iniR xs 6)) : CalG P TB.w K mg base (k + 1) "_law_ring" ["tape", "signs"] (spU K 2 SP_lawring) := by
  refine D.calU (m := 6) (t := t_lawring SP_lawdraw) sc_lawring rfl rfl pf ?_
  intro f cdv A o s H E hr gd
  have nd := sc_lawring.nd
  have hu1 := My.Room.u65 hr
  have hu := hr.units
  exact (fss_cons (fs_set (ps_set (i := 2) nd rfl (Or.inr rfl) (fe_bix (fe_lst (fa_cons fe_int (fa_cons fe_int (fa_cons fe_int (fa_cons fe_int (fa_cons (fe_add fe_int (fe_call gd C_lawdraw (hr.mono hl_lawdraw) rfl (fa_cons (fe_var (pv 0)) (fa_cons fe_int fa_nil)))) fa_nil)))))) (fe_call gd C_lawdraw (hr.mono hl_lawdraw) rfl (fa_cons (fe_var (pv 0)) (fa_cons fe_int fa_nil))) (fun _ _ => rfl))))
    (fss_cons (fs_set (ps_set (i := 3) nd rfl (Or.inr rfl) (fe_bix (fe_lst (fa_cons fe_int (fa_cons (fe_sub (fe_var (pv 2)) fe_int) fa_nil))) (fe_call gd C_lawdraw (hr.mono hl_lawdraw) rfl (fa_cons (fe_var (pv 0)) (fa_cons fe_int fa_nil))) (fun _ _ => rfl))))
    (fss_cons (fs_setLc (i := 4) (own := [("k", 7)]) rfl nd rfl rfl (sw_true rfl rfl rfl (by decide +kernel)) (fi_rng1 (pi_range1 rfl B.range_ (fa_cons (fe_var (pv 2)) fa_nil))) (blkOk_by (N := N_lawring) (sc := defScope s_lawring) (by decide +kernel)) (fun _ _ _ _ _ => (fg_name (pg_name (i := 7) nd rfl (Or.inl rfl)))) (fun _ _ _ _ _ => fts_nil) (fun _ _ _ _ _ => (fe_tup (fa_cons (fe_var (pv 7)) (fa_cons (fe_bix (fe_var (pv 1)) (fe_mod (fe_but (T := "int") bu_int rfl B.int_ (by decide +kernel) (fa_cons (fe_var (pv 7)) fa_nil)) (fe_bu (id := "len") bu_len rfl B.len_ PySem.boot_len (fa_cons (fe_var (pv 1)) fa_nil))) (fun _ _ => rfl)) (fa_cons (fe_mod (fe_but (T := "int") bu_int rfl B.int_ (by decide +kernel) (fa_cons (fe_add (fe_var (pv 7)) (fe_var (pv 3))) fa_nil)) (fe_var (pv 2))) fa_nil))))) (by decide))
    (fss_cons (fs_set (ps_set (i := 5) nd rfl (Or.inl rfl) (fe_bix (fe_lst (fa_cons fe_int (fa_cons (fe_sub (fe_var (pv 2)) fe_int) (fa_cons (fe_call gd C_lawdraw (hr.mono hl_lawdraw) rfl (fa_cons (fe_var (pv 0)) (fa_cons (fe_var (pv 2)) fa_nil))) fa_nil)))) (fe_call gd C_lawdraw (hr.mono hl_lawdraw) rfl (fa_cons (fe_var (pv 0)) (fa_cons fe_int fa_nil))) (fun _ _ => rfl))))
    (fss_cut (fs_if (ft_cu (cu_eq hu) (fe_call gd C_lawdraw (hr.mono hl_lawdraw) rfl (fa_cons (fe_var (pv 0)) (fa_cons fe_int fa_nil))) fe_int (nomark _))
      (fss_cons (fs_set (ps_set (i := 6) nd rfl (Or.inl rfl) (fe_mod (fe_but (T := "int") bu_int rfl B.int_ (by decide +kernel) (fa_cons (fe_sub (fe_add (fe_var (pv 5)) (fe_var (pv 2))) (fe_var (pv 3))) fa_nil)) (fe_var (pv 2)))))
      (fss_one (fs_set (ps_set (i := 4) nd rfl (Or.inl rfl) (fe_add (fe_bsl (fe_var (pv 4)) fo_none (fo_some (fe_var (pv 6)))) (fe_bsl (fe_var (pv 4)) (fo_some (fe_add (fe_var (pv 6)) fe_int)) fo_none))))))
      fss_nil)
    (fss_one (fs_retU (ps_ret (fe_tup (fa_cons (fe_var (pv 2)) (fa_cons (fe_tup (fa_cons (fe_var (pv 5)) fa_nil)) (fa_cons (fe_tup (fa_cons (fe_call gd C_lawdraw (hr.mono hl_lawdraw) rfl (fa_cons (fe_var (pv 0)) (fa_cons (fe_var (pv 2)) fa_nil))) fa_nil)) (fa_cons (fe_but (T := "tuple") bu_tup rfl B.tuple_ (by decide +kernel) (fa_cons (fe_var (pv 4)) fa_nil)) fa_nil)))))))))))))
abbrev s_reachedfrom : Stmt := topS 1
abbrev N_reachedfrom : List Str := ["points", "pairs", "following", "source", "target", "met", "waiting", "point"]
theorem sc_reachedfrom : FnScope N_reachedfrom ["points", "pairs"] (defScope s_reachedfrom) := ⟨rfl, rfl, rfl, by decide +kernel, rfl, by decide +kernel, by decide +kernel⟩
set_option maxHeartbeats 1000000 in
theorem ok_reachedfrom {SP_reachedfrom : SpD} {k : Nat} (D : Df K mg "reached_from" s_reachedfrom ["points", "pairs"]) (B : Bn mg)
    (pf : ∀ xs Qd, SP_reachedfrom xs Qd → t_reachedfrom (endsOf Qd) (iniR xs 6)) : CalG P TB.w K mg base (k + 1) "reached_from" ["points", "pairs"] (spU K 2 SP_reachedfrom) := by
  refine D.calU (m := 6) (t := t_reachedfrom) sc_reachedfrom rfl rfl pf ?_
  intro f cdv A o s H E hr gd
  have nd := sc_reachedfrom.nd
  have hu1 := My.Room.u65 hr
  have hu := hr.units
  exact (fss_cons (fs_setT (ps_set (i := 2) nd rfl (Or.inl rfl) (fe_dnew rfl)))
    (fss_cons (fs_for (ps_for PassesOwn.never rfl (fi_any (fe_var (pv 1))) (fg_tup (n := 2) (pg_tup rfl (fgs_cons (pgs_cons (fg_name (pg_name (i := 3) nd rfl (Or.inl rfl))) (fgs_cons (pgs_cons (fg_name (pg_name (i := 4) nd rfl (Or.inl rfl))) fgs_nil))))))
      (fss_one (fs_sdApp (i := 2) rfl (ps_expr (pe_bm PySem.F.plainAttrs_list PySem.F.slot_list_append PySem.F.type_list_append mt_append (pe_dm PySem.F.slot_dict_setdefault PySem.F.type_dict_setdefault (mt_sdU hu1) (pv 2) (fa_cons (fe_var (pv 3)) (fa_cons (fe_lst fa_nil) fa_nil))) (fa_cons (fe_var (pv 4)) fa_nil)))))))
    (fss_fzT 2 (fss_cons (fs_setDc (i := 5) (own := [("point", 7)]) rfl rfl nd rfl rfl (swD_true rfl rfl rfl (by decide +kernel)) (fi_any (fe_var (pv 0))) (blkOk_by (N := N_reachedfrom) (sc := defScope s_reachedfrom) (by decide +kernel)) (fun _ _ _ _ _ => (fg_name (pg_name (i := 7) nd rfl (Or.inl rfl)))) (fun _ _ _ _ _ => fts_nil) (fun _ _ _ _ _ => (fe_var (pv 7))) (fun _ _ _ _ _ => fe_bl) (by decide))
    (fss_cons (fs_setN (ps_set (i := 6) nd rfl (Or.inl rfl) (fe_but (T := "list") (bu_liD rfl rfl) rfl B.list_ (by decide +kernel) (fa_cons (fe_var (pv 5)) fa_nil))))
    (fss_cons (fs_while (ps_while PassesOwn.never (ft_tru (fe_var (pv 6)))
      (fss_cons (fs_pop (i := 6) (j := 3) (ps_set (i := 3) nd rfl (Or.inl rfl) (pe_bm0 PySem.F.plainAttrs_list PySem.F.slot_list_pop PySem.F.type_list_pop mt_pop (pv 6))))
      (fss_one (fs_for (ps_for PassesOwn.never rfl (fi_any (fe_dget rfl hu1 (fe_var (pv 2)) (fa_cons (fe_var (pv 3)) (fa_cons (fe_lst fa_nil) fa_nil)))) (fg_name (pg_name (i := 7) nd rfl (Or.inl rfl)))
        (fss_one (fs_if (ft_cu (cu_notInD rfl hu1) (fe_var (pv 7)) (fe_var (pv 5)) rfl)
          (fss_cons (fs_setD (i := 5) rfl (ps_asg fe_bl (pg_sub (pv 5) (fe_var (pv 7)) (set_dicU hu1))))
          (fss_one (fs_app (i := 6) (ps_expr (pe_bm PySem.F.plainAttrs_list PySem.F.slot_list_append PySem.F.type_list_append mt_append (pv 6) (fa_cons (fe_var (pv 7)) fa_nil))))))
          fss_nil))))))))
    (fss_one (fs_retU (ps_ret (fe_var (pv 5)))))))))))
abbrev s_useful : Stmt := topS 3
abbrev N_useful : List Str := ["net", "count", "starts", "ends", "edges", "ahead", "behind", "source", "_", "target", "point"]
theorem sc_useful : FnScope N_useful ["net"] (defScope s_useful) := ⟨rfl, rfl, rfl, by decide +kernel, rfl, by decide +kernel, by decide +kernel⟩
set_option maxHeartbeats 1000000 in
theorem ok_useful {SP_useful : SpD} {SP_reachedfrom : SpD} {k : Nat} (D : Df K mg "useful" s_useful ["net"]) (B : Bn mg) {lv_reachedfrom : Nat} (hl_reachedfrom : lv_reachedfrom ≤ k) (C_reachedfrom : CalG P TB.w K mg base lv_reachedfrom "reached_from" ["points", "pairs"] (spU K 2 SP_reachedfrom))
    (pf : ∀ xs Qd, SP_useful xs Qd → t_useful SP_reachedfrom (endsOf Qd) (iniR xs 10)) : CalG P TB.w K mg base (k + 1) "useful" ["net"] (spU K 1 SP_useful) := by
  refine D.calU (m := 10) (t := t_useful SP_reachedfrom) sc_useful rfl rfl pf ?_
  intro f cdv A o s H E hr gd
  have nd := sc_useful.nd
  have hu1 := My.Room.u65 hr
  have hu := hr.units
  exact (fss_cons (fs_asg (ps_asg (fe_var (pv 0)) (fg_tup (n := 4) (pg_tup rfl (fgs_cons (pgs_cons (fg_name (pg_name (i := 1) nd rfl (Or.inl rfl))) (fgs_cons (pgs_cons (fg_name (pg_name (i := 2) nd rfl (Or.inl rfl))) (fgs_cons (pgs_cons (fg_name (pg_name (i := 3) nd rfl (Or.inl rfl))) (fgs_cons (pgs_cons (fg_name (pg_name (i := 4) nd rfl (Or.inl rfl))) fgs_nil))))))))))))
    (fss_cons (fs_set (ps_set (i := 5) nd rfl (Or.inr rfl) (fe_call gd C_reachedfrom (hr.mono hl_reachedfrom) rfl (fa_cons (fe_var (pv 2)) (fa_cons (fe_lc (own := [("source", 7), ("_", 8), ("target", 9)]) rfl nd (fi_any (fe_var (pv 4))) (blkOk_by (N := N_useful) (sc := defScope s_useful) (by decide +kernel)) (fun _ _ _ _ _ => (fg_tup (n := 3) (pg_tup rfl (fgs_cons (pgs_cons (fg_name (pg_name (i := 7) nd rfl (Or.inl rfl))) (fgs_cons (pgs_cons (fg_name (pg_name (i := 8) nd rfl (Or.inl rfl))) (fgs_cons (pgs_cons (fg_name (pg_name (i := 9) nd rfl (Or.inl rfl))) fgs_nil))))))))) (fun _ _ _ _ _ => fts_nil) (fun _ _ _ _ _ => (fe_tup (fa_cons (fe_var (pv 7)) (fa_cons (fe_var (pv 9)) fa_nil)))) (by decide)) fa_nil)))))
    (fss_cons (fs_set (ps_set (i := 6) nd rfl (Or.inr rfl) (fe_call gd C_reachedfrom (hr.mono hl_reachedfrom) rfl (fa_cons (fe_var (pv 3)) (fa_cons (fe_lc (own := [("source", 7), ("_", 8), ("target", 9)]) rfl nd (fi_any (fe_var (pv 4))) (blkOk_by (N := N_useful) (sc := defScope s_useful) (by decide +kernel)) (fun _ _ _ _ _ => (fg_tup (n := 3) (pg_tup rfl (fgs_cons (pgs_cons (fg_name (pg_name (i := 7) nd rfl (Or.inl rfl))) (fgs_cons (pgs_cons (fg_name (pg_name (i := 8) nd rfl (Or.inl rfl))) (fgs_cons (pgs_cons (fg_name (pg_name (i := 9) nd rfl (Or.inl rfl))) fgs_nil))))))))) (fun _ _ _ _ _ => fts_nil) (fun _ _ _ _ _ => (fe_tup (fa_cons (fe_var (pv 9)) (fa_cons (fe_var (pv 7)) fa_nil)))) (by decide)) fa_nil)))))
    (fss_one (fs_retU (ps_ret (fe_but (T := "tuple") bu_tup rfl B.tuple_ (by decide +kernel) (fa_cons (fe_lc (own := [("point", 10)]) rfl nd (fi_rng1 (pi_range1 rfl B.range_ (fa_cons (fe_var (pv 1)) fa_nil))) (blkOk_by (N := N_useful) (sc := defScope s_useful) (by decide +kernel)) (fun _ _ _ _ _ => (fg_name (pg_name (i := 10) nd rfl (Or.inl rfl)))) (fun _ _ _ _ _ => (fts_one (FW.ft (fw_and (ft_cu (cu_inD rfl hu1) (fe_var (pv 10)) (fe_var (pv 5)) rfl) (fw_and1 (ft_cu (cu_inD rfl hu1) (fe_var (pv 10)) (fe_var (pv 6)) rfl)))))) (fun _ _ _ _ _ => (fe_var (pv 10))) (by decide)) fa_nil))))))))
abbrev s_law : Stmt := topS 18
abbrev N_law : List Str := ["script", "tape", "signs", "net", "ahead", "behind", "due", "k"]
theorem sc_law : FnScope N_law ["script"] (defScope s_law) := ⟨rfl, rfl, rfl, by decide +kernel, rfl, by decide +kernel, by decide +kernel⟩
set_option maxHeartbeats 1000000 in
theorem ok_law {SP_lawsigns : SpD} {SP_lawnet : SpD} {SP_lawdraw : SpD} {SP_lawring : SpD} {SP_lawahead : SpD} {SP_lawbehind : SpD} {SP_useful : SpD} {SP_lawsame : SpD} {k : Nat} {e : Addr} {ed : FuncData} (F : Fun K "law" "law" s_law e ed) (B : Bn mg) {lv_lawsigns : Nat} (hl_lawsigns : lv_lawsigns ≤ k) (C_lawsigns : CalG P TB.w K mg base lv_lawsigns "_law_signs" ["tape"] (spU K 1 SP_lawsigns)) {lv_lawnet : Nat} (hl_lawnet : lv_lawnet ≤ k) (C_lawnet : CalG P TB.w K mg base lv_lawnet "_law_net" ["tape", "signs"] (spU K 2 SP_lawnet)) {lv_lawdraw : Nat} (hl_lawdraw : lv_lawdraw ≤ k) (C_lawdraw : CalG P TB.w K mg base lv_lawdraw "_law_draw" ["tape", "many"] (spU K 2 SP_lawdraw)) {lv_lawring : Nat} (hl_lawring : lv_lawring ≤ k) (C_lawring : CalG P TB.w K mg base lv_lawring "_law_ring" ["tape", "signs"] (spU K 2 SP_lawring)) {lv_lawahead : Nat} (hl_lawahead : lv_lawahead ≤ k) (C_lawahead : CalG P TB.w K mg base lv_lawahead "_law_ahead" ["net"] (spU K 1 SP_lawahead)) {lv_lawbehind : Nat} (hl_lawbehind : lv_lawbehind ≤ k) (C_lawbehind : CalG P TB.w K mg base lv_lawbehind "_law_behind" ["net"] (spU K 1 SP_lawbehind)) {lv_useful : Nat} (hl_useful : lv_useful ≤ k) (C_useful : CalG P TB.w K mg base lv_useful "useful" ["net"] (spU K 1 SP_useful)) {lv_lawsame : Nat} (hl_lawsame : lv_lawsame ≤ k) (C_lawsame : CalG P TB.w K mg base lv_lawsame "_law_same" ["told", "due"] (spU K 2 SP_lawsame)) {lv_lawtape : Nat} (hl_lawtape : lv_lawtape ≤ k) (C_lawtape : Cal P TB.w K mg base lv_lawtape "_law_tape" ["script"] (spTape K))
    (pf : t_law SP_lawsigns SP_lawnet SP_lawdraw SP_lawring SP_lawahead SP_lawbehind SP_useful SP_lawsame endsLaw (iniLaw 6)) : FnG P TB.w K mg base CX0 (k + 1) e ed ["script"] (spLawT K) := by
  refine okG0 F sc_law ?_ ?_
  · intro vs H Q E h; obtain ⟨a, ns, rfl, _⟩ := h; rfl
  intro f cdv A o s H vs Q E hr gd h
  have nd := sc_law.nd
  have hu1 := My.Room.u65 hr
  have hu := hr.units
  refine law_body (n := 6) (ps_set (i := 1) nd rfl (Or.inl rfl) (pe_cal C_lawtape (hr.mono hl_lawtape) rfl (pa_cons (pv 0) pa_nil))) ?_ rfl pf h
  exact (fss_cons (fs_set (ps_set (i := 2) nd rfl (Or.inl rfl) (fe_call gd C_lawsigns (hr.mono hl_lawsigns) rfl (fa_cons (fe_var (pv 1)) fa_nil))))
    (fss_cons (fs_set (ps_set (i := 3) nd rfl (Or.inl rfl) (fe_call gd C_lawnet (hr.mono hl_lawnet) rfl (fa_cons (fe_var (pv 1)) (fa_cons (fe_var (pv 2)) fa_nil)))))
    (fss_cut (fs_if (ft_cu (cu_eq hu) (fe_call gd C_lawdraw (hr.mono hl_lawdraw) rfl (fa_cons (fe_var (pv 1)) (fa_cons fe_int fa_nil))) fe_int (nomark _))
      (fss_one (fs_set (ps_set (i := 3) nd rfl (Or.inl rfl) (fe_call gd C_lawring (hr.mono hl_lawring) rfl (fa_cons (fe_var (pv 1)) (fa_cons (fe_var (pv 2)) fa_nil))))))
      fss_nil)
    (fss_cons (fs_set (ps_set (i := 4) nd rfl (Or.inr rfl) (fe_call gd C_lawahead (hr.mono hl_lawahead) rfl (fa_cons (fe_var (pv 3)) fa_nil))))
    (fss_cons (fs_set (ps_set (i := 5) nd rfl (Or.inr rfl) (fe_call gd C_lawbehind (hr.mono hl_lawbehind) rfl (fa_cons (fe_var (pv 3)) fa_nil))))
    (fss_cons (fs_set (ps_set (i := 6) nd rfl (Or.inl rfl) (fe_but (T := "tuple") bu_tup rfl B.tuple_ (by decide +kernel) (fa_cons (fe_lc (own := [("k", 7)]) rfl nd (fi_rng1 (pi_range1 rfl B.range_ (fa_cons (fe_bix (fe_var (pv 3)) fe_int (fun _ _ => rfl)) fa_nil))) (blkOk_by (N := N_law) (sc := defScope s_law) (by decide +kernel)) (fun _ _ _ _ _ => (fg_name (pg_name (i := 7) nd rfl (Or.inl rfl)))) (fun _ _ _ _ _ => (fts_one (FW.ft (fw_and (ft_tru (fe_bix (fe_var (pv 4)) (fe_var (pv 7)) (fun _ _ => rfl))) (fw_and1 (ft_tru (fe_bix (fe_var (pv 5)) (fe_var (pv 7)) (fun _ _ => rfl)))))))) (fun _ _ _ _ _ => (fe_var (pv 7))) (by decide)) fa_nil))))
    (fss_one (fs_retU (ps_ret (fe_call gd C_lawsame (hr.mono hl_lawsame) rfl (fa_cons (fe_call gd C_useful (hr.mono hl_useful) rfl (fa_cons (fe_var (pv 3)) fa_nil)) (fa_cons (fe_var (pv 6)) fa_nil))))))))))))
end
end My
namespace My
open PySem PySem.Spec PyProof.Rows L2
variable [TB]

/-! ### what a reading says, step by step -/
section
variable {ρ : Ro} {Dd : EndsD} {t u : TSD} {ta tb tc : TED} {tt tt' : TTD} {ar : TAD} {Q : D → Prop} {Qb : Bool → Prop} {Qa : List D → Prop} {Qo : Option Int → Prop} {Qr : Ro → Prop} {Qi : List ItD → Prop} {i j n : Nat} {rd : RD2} {d e : PyData} {x y : D}
theorem e_seq : dSeq t u Dd ρ = t { Dd with nx := u Dd } ρ := rfl
theorem e_var : dVar i ρ Q = ∃ x, ρ[i]? = some (some x) ∧ Q x := rfl
theorem e_c : dC d ρ Q = Q (.p d) := rfl
theorem e_op : dOp rd ta tb ρ Q = ta ρ fun x => tb ρ fun y => rd x y Q := rfl
theorem e_un {r : D → (D → Prop) → Prop} : dUn r ta ρ Q = ta ρ fun x => r x Q := rfl
theorem e_test : dTest ta ρ Qb = ta ρ fun x => ∃ k, x = .p (.bool k) ∧ Qb k := rfl
theorem e_tru : dTru ta ρ Qb = ta ρ fun x => ∃ k, x.tru = some k ∧ x.tok ∧ Qb k := rfl
theorem e_notT : dNotT tt ρ Qb = tt ρ fun c => Qb (!c) := rfl
theorem e_andT : dAndT tt tt' ρ Qb = tt ρ fun c => if c = true then tt' ρ Qb else Qb false := rfl
theorem e_orT : dOrT tt tt' ρ Qb = tt ρ fun c => if c = true then Qb true else tt' ρ Qb := rfl
theorem e_notV : dNotV ta ρ Q = ta ρ fun x => ∃ c, x = .p (.bool c) ∧ Q (.p (.bool (!c))) := rfl
theorem e_andV : dAndV ta tb ρ Q = ta ρ fun x => ∃ c, x = .p (.bool c) ∧ if c = true then tb ρ Q else Q (.p (.bool false)) := rfl
theorem e_orV : dOrV ta tb ρ Q = ta ρ fun x => ∃ c, x = .p (.bool c) ∧ if c = true then Q (.p (.bool true)) else tb ρ Q := rfl
theorem e_ifE : dIfE tt ta tb ρ Q = tt ρ fun c => if c = true then ta ρ Q else tb ρ Q := rfl
theorem e_nil : dNil ρ Qa = Qa [] := rfl
theorem e_cons : dCons ta ar ρ Qa = ta ρ fun x => ar ρ fun xs => Qa (x :: xs) := rfl
theorem e_star : dStar ta ar ρ Qa = ta ρ fun x => match x.st with
  | some (.tuple ds) => ar ρ fun xs => Qa (ds.map D.p ++ xs)
  | some (.list ds) => ar ρ fun xs => Qa (ds.map D.p ++ xs)
  | _ => False := rfl
theorem e_tup : dTup ar ρ Q = ar ρ fun xs => ∃ ds, stAll xs = some ds ∧ ds.length ≤ sizeLine ∧ Q (.p (.tuple ds)) := rfl
theorem e_lst : dLst ar ρ Q = ar ρ fun xs => ∃ ds, stAll xs = some ds ∧ ds.length ≤ sizeLine ∧ Q (.nw ds) := rfl
theorem e_cb {r : List D → (D → Prop) → Prop} : dCB r ar ρ Q = ar ρ fun xs => r xs Q := rfl
theorem e_call {S : SpD} : dCall n S ar ρ Q = ar ρ fun xs => ∃ ys, argAll xs = some ys ∧ ys.length = n ∧ S ys Q := rfl
theorem e_nopart : dNoPart ρ Qo = Qo none := rfl
theorem e_part : dPart ta ρ Qo = ta ρ fun x => ∃ i, x = .p (.int i) ∧ Qo (some i) := rfl
theorem e_sl {r : D → Option Int → Option Int → (D → Prop) → Prop} {tl th : TOD} : dSl r ta tl th ρ Q = ta ρ fun x => tl ρ fun l => th ρ fun u => r x l u Q := rfl
theorem e_revU : dRevU ta ρ Q = ta ρ fun x => match x with
  | .p (.tuple ds) => Q (.p (.tuple ds.reverse))
  | x => match x.ls with
    | some ds => ds.length ≤ sizeLine ∧ Q (.nw ds.reverse)
    | _ => False := rfl
theorem e_isi {T : String} : dIsi T ta ρ Q = ta ρ fun x => ∃ b, isiB T x = some b ∧ Q (.p (.bool b)) := rfl
theorem e_join : dJoin ta tb ρ Q = ta ρ fun x => match x with
  | .p (.str s) => tb ρ fun y => kJoin s y Q
  | _ => False := rfl
theorem e_bits : dBits ta ρ Q = ta ρ fun x => match x with
  | .p (.int i) => Q (.p (.int (Builtin.Int.intBits i : Nat)))
  | _ => False := rfl
theorem e_index : dIndex ta tb ρ Q = ta ρ fun x => x.sq.isSome = true ∧ tb ρ fun y => kIndex x y Q := rfl
theorem e_chain {r r' : RD2} : dChain r r' ta tb tc ρ Q = ta ρ fun x => tb ρ fun y => r x y fun z => match z with
  | .p (.bool k) => if k = true then tc ρ fun w => r' y w Q else Q (.p (.bool false))
  | _ => False := rfl
theorem e_lc {ti : TID} {g : TGD} {vs : List Nat} : dLc ti g tt ta vs ρ Q = ti ρ fun items => lcW (fun x K => elW g tt ta x (dWipe ρ vs) K) items [] fun acc => Q (.nw acc) := rfl
theorem e_yes : dYes ρ Qb = Qb true := rfl
theorem e_el {g : TGD} {z : ItD} {K : Option PyData → Prop} : elW g tt ta z ρ K = g z ρ fun ρ2 => tt ρ2 fun b => if b = true then ta ρ2 fun y => ∃ d, y.st = some d ∧ K (some d) else K none := rfl
theorem e_lc2 {ti ti1 : TID} {g g1 : TGD} {vs vs1 : List Nat} : dLc2 ti g tt ti1 g1 tt' ta vs vs1 ρ Q = ti ρ fun items => lcF (fun x acc K => el2W g tt ti1 g1 tt' ta vs1 x (dWipe ρ vs) acc K) items [] fun acc => Q (.nw acc) := rfl
/-! statements -/
theorem e_set : dSet i ta Dd ρ = ta ρ fun x => ∃ d, x.st = some d ∧ Dd.nx (ρ.set i (some (.p d))) := rfl
theorem e_setN : dSetN i ta Dd ρ = ta ρ fun x => ∃ ds, x = .nw ds ∧ Dd.nx (ρ.set i (some (.own ds))) := rfl
theorem e_if : dIf tt t u Dd ρ = tt ρ fun b => if b = true then t Dd ρ else u Dd ρ := rfl
theorem e_next : dNext Dd ρ = Dd.nx ρ := rfl
theorem e_ret : dRetU ta Dd ρ = ta ρ fun x => match x with
  | .p d => Dd.rt (.p d)
  | .own ds => Dd.rt (.nw ds)
  | .nw ds => Dd.rt (.nw ds)
  | .ot m => Dd.rt (.p m.dat)
  | .nt m => Dd.rt (.p m.dat)
  | _ => False := rfl
theorem e_retN : dRetN Dd ρ = Dd.rt (.p .none) := rfl
theorem e_app : dApp i ar Dd ρ = ∃ ds, ρ[i]? = some (some (.own ds)) ∧ ar ρ fun xs => ∃ x d, xs = [x] ∧ x.st = some d ∧ ds.length < sizeLine ∧ Dd.nx (ρ.set i (some (.own (ds ++ [d])))) := rfl
theorem e_ext : dExt i ar Dd ρ = ∃ ds, ρ[i]? = some (some (.own ds)) ∧ ar ρ fun xs => match xs with
  | [x] => match x.st with
    | some (.tuple es) => ds.length + es.length ≤ sizeLine ∧ Dd.nx (ρ.set i (some (.own (ds ++ es))))
    | some (.list es) => ds.length + es.length ≤ sizeLine ∧ Dd.nx (ρ.set i (some (.own (ds ++ es))))
    | _ => False
  | _ => False := rfl
theorem e_setIx : dSetIx i ta tb Dd ρ = ∃ ds, ρ[i]? = some (some (.own ds)) ∧ tb ρ fun x => ∃ d, x.st = some d ∧ ta ρ fun y => ∃ k j, y = .p (.int k) ∧ ixN ds.length k = some j ∧ Dd.nx (ρ.set i (some (.own (ds.set j d)))) := rfl
theorem e_aug : dAug i ta rd Dd ρ = ∃ x, ρ[i]? = some (some x) ∧ ta ρ fun y => rd x y fun z => ∃ d, z = .p d ∧ Dd.nx (ρ.set i (some (.p d))) := rfl
theorem e_fz : dFz i t Dd ρ = ∃ ds, ρ[i]? = some (some (.own ds)) ∧ t Dd (ρ.set i (some (.p (.list ds)))) := rfl
theorem e_pop : dPop j i Dd ρ = ∃ ds d, ρ[i]? = some (some (.own (ds ++ [d]))) ∧ Dd.nx ((ρ.set i (some (.own ds))).set j (some (.p d))) := rfl
theorem e_asg {g : TGD} : dAsg ta g Dd ρ = ta ρ fun x => ∃ d, x.st = some d ∧ g (.one d) ρ Dd.nx := rfl
theorem e_asg2 {g1 g2 : TGD} : dAsg2 ta g1 g2 Dd ρ = ta ρ fun x => ∃ d, x.st = some d ∧ g1 (.one d) ρ fun ρ1 => g2 (.one d) ρ1 Dd.nx := rfl
theorem e_par : dPar i j ar Dd ρ = ar ρ fun xs => ∃ x y d e, xs = [x, y] ∧ x.st = some d ∧ y.st = some e ∧ Dd.nx ((ρ.set i (some (.p d))).set j (some (.p e))) := rfl
theorem e_expr : dExpr ta Dd ρ = ta ρ fun _ => Dd.nx ρ := rfl
theorem e_pass : dPass Dd ρ = Dd.nx ρ := rfl
theorem e_break : dBreak Dd ρ = Dd.bk ρ := rfl
theorem e_cont : dCont Dd ρ = Dd.ct ρ := rfl
/-! targets, walks -/
theorem e_gN {z : ItD} : gN i z ρ Qr = ∃ d, z = .one d ∧ Qr (ρ.set i (some (.p d))) := rfl
theorem e_gNil {ds : List PyData} : gsNil ds ρ Qr = (ds = [] ∧ Qr ρ) := rfl
theorem e_gCons {g : TGD} {gs : TGsD} {ds : List PyData} : gsCons g gs ds ρ Qr = ∃ d r, ds = d :: r ∧ g (.one d) ρ fun ρ' => gs r ρ' Qr := rfl
theorem e_gTp1 {gs : TGsD} : gTp n gs (.one d) ρ Qr = ∃ ds, d = .tuple ds ∧ ds.length = n ∧ gs ds ρ Qr := rfl
theorem e_gTp2 {gs : TGsD} : gTp n gs (.two d e) ρ Qr = (n = 2 ∧ gs [d, e] ρ Qr) := rfl
theorem e_for {ti : TID} {g : TGD} : dFor ti g t Dd ρ = ti ρ fun items => forW g t Dd items ρ := rfl
theorem e_itV : dItV ta ρ Qi = ta ρ fun x => match itOf x with
  | some items => Qi items
  | _ => False := rfl
theorem e_rng1 : dRng1 ar ρ Qi = ar ρ fun xs => ∃ j : Int, xs = [.p (.int j)] ∧ -(2 ^ 62) ≤ j ∧ j < 2 ^ 62 ∧ Qi (rngD 0 j.toNat) := rfl
theorem e_rng2 : dRng2 ar ρ Qi = ar ρ fun xs => ∃ i j : Int, xs = [.p (.int i), .p (.int j)] ∧ (-(2 ^ 62) ≤ i ∧ i < 2 ^ 62 ∧ -(2 ^ 62) ≤ j ∧ j < 2 ^ 62) ∧ Qi (rngD i (j - i).toNat) := rfl
theorem e_rng3 : dRng3 ar ρ Qi = ar ρ fun xs => ∃ (i j c : Int) (n : Nat), xs = [.p (.int i), .p (.int j), .p (.int c)] ∧ RgC i j c n ∧ Qi (rngC i c n) := rfl
theorem e_enA : dEnA ar ρ Qi = ar ρ fun xs => match enOf xs with
  | some items => Qi items
  | _ => False := rfl
theorem e_zip : dZip ar ρ Qi = ar ρ fun xs => match zipOf xs with
  | some items => Qi items
  | _ => False := rfl
theorem e_rv : dRv ta ρ Qi = ta ρ fun x => match rvOf x with
  | some ds => Qi (ds.reverse.map ItD.one)
  | _ => False := rfl
theorem e_endN : (endsOf Q).nx ρ = Q (.p .none) := rfl
theorem e_endR : (endsOf Q).rt = Q := rfl
theorem e_lawR : endsLaw.rt x = (x = .p (.bool true)) := rfl
theorem e_lawN : endsLaw.nx ρ = False := rfl
end
/-- a text by its signs -/
def tx (l : List Nat) : Str := ⟨l.toArray⟩
theorem tx_len (l : List Nat) : (tx l).length = l.length := by simp [tx, Str.length]
theorem tx_app (a b : List Nat) : tx a ++ tx b = tx (a ++ b) := by
  show Str.mk (a.toArray ++ b.toArray) = _
  simp [tx]
theorem tx_list (l : List Nat) : (tx l).cps.toList = l := by simp [tx]
theorem tx_one (c : Nat) : (⟨#[c]⟩ : Str) = tx [c] := rfl
theorem tx_inj {a b : List Nat} : tx a = tx b ↔ a = b := by
  constructor
  · intro h
    have := congrArg (fun s : Str => s.cps.toList) h
    simpa [tx] using this
  · rintro rfl; rfl
local macro_rules | `(tactic| walk_at "ev") => `(tactic| simp only [e_seq, e_var, e_c, e_op, e_un, e_test, e_tru, e_notT, e_andT, e_orT, e_notV, e_andV, e_orV, e_ifE, e_nil, e_cons, e_star, e_tup, e_lst, e_cb, e_call, e_nopart, e_part, e_sl, e_revU, e_isi, e_join, e_bits, e_index, e_chain, e_lc, e_yes, e_el, e_lc2, e_set, e_setN, e_if, e_next, e_ret, e_retN, e_app, e_ext, e_setIx, e_aug, e_fz, e_pop, e_asg, e_asg2, e_par, e_expr, e_pass, e_break, e_cont, e_gN, e_gNil, e_gCons, e_gTp1, e_gTp2, e_for, e_itV, e_rng1, e_rng2, e_rng3, e_enA, e_zip, e_rv, e_endN, e_endR, e_lawR, e_lawN])
end My
namespace My
open PySem PySem.Spec PyProof.Rows L2
variable [TB]
/-- an item at a place -/
theorem atI_cast {α : Type} (l : List α) (i : Nat) : atI l (i : Int) = l[i]? := by
  unfold atI ixN
  rw [if_pos (by omega)]
  by_cases h : i < l.length
  · rw [if_pos (by omega)]
    simp
  · rw [if_neg (by omega), List.getElem?_eq_none (by omega)]
    rfl
theorem atI_add {α : Type} (l : List α) (i j : Nat) : atI l ((i : Int) + (j : Int)) = l[i + j]? := by
  rw [← atI_cast, Int.natCast_add]
theorem get_of {α : Type} {l : List α} {i : Nat} (h : i < l.length) : l[i]? = some l[i] := List.getElem?_eq_getElem h
end My
namespace My
open PySem PySem.Spec PyProof.Rows L2
variable [TB]
section
variable {i j : Int} {x y : Str} {b c : Bool}
theorem eqOk_ii : eqOk (.int i) (.int j) = true := rfl
theorem eqOk_ss : eqOk (.str x) (.str y) = true := rfl
theorem eqOk_bb : eqOk (.bool b) (.bool c) = true := rfl
theorem eqOk_nn : eqOk .none .none = true := rfl
theorem eqOk_ni : eqOk .none (.int i) = true := rfl
theorem eqOk_in : eqOk (.int i) .none = true := rfl
theorem eqOk_ns : eqOk .none (.str x) = true := rfl
theorem eqOk_sn : eqOk (.str x) .none = true := rfl
theorem eqv_ii : PyData.eqv (.int i) (.int j) = decide (i = j) := by rw [PyData.eqv]; exact Bool.eq_iff_iff.mpr (by simp)
theorem eqv_ss : PyData.eqv (.str x) (.str y) = decide (x = y) := by rw [PyData.eqv]; exact Bool.eq_iff_iff.mpr (by simp)
theorem eqv_bb : PyData.eqv (.bool b) (.bool c) = (b == c) := by rw [PyData.eqv]
theorem eqv_nn : PyData.eqv .none .none = true := by rw [PyData.eqv]
theorem eqv_ni : PyData.eqv .none (.int i) = false := by rw [PyData.eqv]
theorem eqv_in : PyData.eqv (.int i) .none = false := by rw [PyData.eqv]
theorem eqv_ns : PyData.eqv .none (.str x) = false := by rw [PyData.eqv]
theorem eqv_sn : PyData.eqv (.str x) .none = false := by rw [PyData.eqv]
end
end My
namespace My
variable [TB]
theorem cut_on {t u : TSD} {Dd : EndsD} {ρ : Ro} (P : Ro → Prop) (h1 : t { Dd with nx := P } ρ) (h2 : ∀ ρ', P ρ' → u Dd ρ') : dCut t u Dd ρ := ⟨P, h1, h2⟩
theorem while_on {tc : TTD} {tb : TSD} {Dd : EndsD} {ρ : Ro} (W : Ro → Prop) (μ : Ro → Nat) (h0 : W ρ) (h : ∀ ρ, W ρ → tc ρ fun b => if b = true then tb { Dd with nx := fun ρ' => W ρ' ∧ μ ρ' < μ ρ, ct := fun ρ' => W ρ' ∧ μ ρ' < μ ρ, bk := Dd.nx } ρ else Dd.nx ρ) : dWhile tc tb Dd ρ := ⟨W, μ, h0, h⟩
end My
namespace My
open PySem PySem.Spec PyProof.Rows L2
variable [TB]
theorem e_callV {n : Nat} {S : SpD} {ar : TAD} {ρ : Ro} {Q : D → Prop} : dCallV n S ar ρ Q = ar ρ fun xs => ∃ ys, viewAll xs = some ys ∧ ys.length = n ∧ S ys fun x => ∃ d, x = .p d ∧ fl d = true ∧ Q (.p d) := rfl
theorem fl_i {i : Int} : fl (.int i) = true := rfl
theorem fl_s {i : Str} : fl (.str i) = true := rfl
theorem fl_b {i : Bool} : fl (.bool i) = true := rfl
theorem fl_n : fl .none = true := rfl
end My
namespace My
open PySem PySem.Spec PyProof.Rows L2
variable [TB]
section
variable {α : Type} {a b c d : α} {l : List α}
theorem atI_0 : atI (a :: l) 0 = some a := by rw [show (0 : Int) = ((0 : Nat) : Int) from rfl, atI_cast]; rfl
theorem atI_1 : atI (a :: b :: l) 1 = some b := by rw [show (1 : Int) = ((1 : Nat) : Int) from rfl, atI_cast]; rfl
theorem atI_2 : atI (a :: b :: c :: l) 2 = some c := by rw [show (2 : Int) = ((2 : Nat) : Int) from rfl, atI_cast]; rfl
theorem atI_3 : atI (a :: b :: c :: d :: l) 3 = some d := by rw [show (3 : Int) = ((3 : Nat) : Int) from rfl, atI_cast]; rfl
theorem tx_eta (s : Str) : tx s.cps.toList = s := by
  apply str_ext
  simp [tx]
end
end My
namespace My
variable [TB]
theorem e_gNil' {ρ : Ro} {Q : Ro → Prop} : gsNil [] ρ Q = Q ρ := propext ⟨fun h => h.2, fun h => ⟨rfl, h⟩⟩
theorem e_gCons' {g : TGD} {gs : TGsD} {d : PySem.PyData} {r : List PySem.PyData} {ρ : Ro} {Q : Ro → Prop} : gsCons g gs (d :: r) ρ Q = g (.one d) ρ fun ρ' => gs r ρ' Q :=
  propext ⟨fun ⟨_, _, e, h⟩ => by cases e; exact h, fun h => ⟨d, r, rfl, h⟩⟩
theorem e_gTp1' {gs : TGsD} {n : Nat} {ds : List PySem.PyData} {ρ : Ro} {Q : Ro → Prop} : gTp n gs (.one (.tuple ds)) ρ Q = (ds.length = n ∧ gs ds ρ Q) :=
  propext ⟨fun ⟨_, e, h⟩ => by cases e; exact h, fun h => ⟨ds, rfl, h⟩⟩
theorem e_gN' {i : Nat} {d : PySem.PyData} {ρ : Ro} {Q : Ro → Prop} : gN i (.one d) ρ Q = Q (ρ.set i (some (.p d))) := propext ⟨fun ⟨_, e, h⟩ => by cases e; exact h, fun h => ⟨d, rfl, h⟩⟩
end My
namespace My
open PySem PySem.Spec PyProof.Rows L2
variable [TB]
def rtU (Dd : EndsD) : D → Prop := fun x => match x with
  | .p d => Dd.rt (.p d)
  | .own ds => Dd.rt (.nw ds)
  | .nw ds => Dd.rt (.nw ds)
  | .ot m => Dd.rt (.p m.dat)
  | .nt m => Dd.rt (.p m.dat)
  | _ => False
def revU (x : D) (Q : D → Prop) : Prop := match x with
  | .p (.tuple ds) => Q (.p (.tuple ds.reverse))
  | x => match x.ls with
    | some ds => ds.length ≤ sizeLine ∧ Q (.nw ds.reverse)
    | _ => False
def joinU (tb : TED) (ρ : Ro) (x : D) (Q : D → Prop) : Prop := match x with
  | .p (.str s) => tb ρ fun y => kJoin s y Q
  | _ => False
def bitsU (x : D) (Q : D → Prop) : Prop := match x with
  | .p (.int i) => Q (.p (.int (Builtin.Int.intBits i : Nat)))
  | _ => False
def rng1U (xs : List D) (Q : List ItD → Prop) : Prop := ∃ j : Int, xs = [.p (.int j)] ∧ -(2 ^ 62) ≤ j ∧ j < 2 ^ 62 ∧ Q (rngD 0 j.toNat)
def rng2U (xs : List D) (Q : List ItD → Prop) : Prop := ∃ i j : Int, xs = [.p (.int i), .p (.int j)] ∧ (-(2 ^ 62) ≤ i ∧ i < 2 ^ 62 ∧ -(2 ^ 62) ≤ j ∧ j < 2 ^ 62) ∧ Q (rngD i (j - i).toNat)
def rng3U (xs : List D) (Q : List ItD → Prop) : Prop := ∃ (i j c : Int) (n : Nat), xs = [.p (.int i), .p (.int j), .p (.int c)] ∧ RgC i j c n ∧ Q (rngC i c n)
theorem rg_1 {j : Int} {Q : List ItD → Prop} : rng1U [.p (.int j)] Q = (-(2 ^ 62) ≤ j ∧ j < 2 ^ 62 ∧ Q (rngD 0 j.toNat)) := propext ⟨fun ⟨_, e, h⟩ => by cases e; exact h, fun h => ⟨j, rfl, h⟩⟩
theorem rg_2 {i j : Int} {Q : List ItD → Prop} : rng2U [.p (.int i), .p (.int j)] Q = ((-(2 ^ 62) ≤ i ∧ i < 2 ^ 62 ∧ -(2 ^ 62) ≤ j ∧ j < 2 ^ 62) ∧ Q (rngD i (j - i).toNat)) := propext ⟨fun ⟨_, _, e, h⟩ => by cases e; exact h, fun h => ⟨i, j, rfl, h⟩⟩
theorem rg_3 {i j c : Int} {Q : List ItD → Prop} : rng3U [.p (.int i), .p (.int j), .p (.int c)] Q = ∃ n, RgC i j c n ∧ Q (rngC i c n) := propext ⟨fun ⟨_, _, _, n, e, h⟩ => by cases e; exact ⟨n, h⟩, fun ⟨n, h⟩ => ⟨i, j, c, n, rfl, h⟩⟩
theorem e1_rng1 {ar : TAD} {ρ : Ro} {Q : List ItD → Prop} : dRng1 ar ρ Q = ar ρ fun xs => rng1U xs Q := rfl
theorem e1_rng2 {ar : TAD} {ρ : Ro} {Q : List ItD → Prop} : dRng2 ar ρ Q = ar ρ fun xs => rng2U xs Q := rfl
theorem e1_rng3 {ar : TAD} {ρ : Ro} {Q : List ItD → Prop} : dRng3 ar ρ Q = ar ρ fun xs => rng3U xs Q := rfl
section
variable {ρ : Ro} {Dd : EndsD} {ta tb : TED} {Q : D → Prop} {i j : Int} {d e : PyData} {ds es : List PyData} {x y : Str} {b neg : Bool} {c : Nat} {xx yy : D} {xs : List D} {lo hi : Option Int} {gg : Int → Int → Int}
  {f1 : D → (D → Prop) → Prop} {f2 : D → D → (D → Prop) → Prop} {aa bb cc dd ee ff gg2 : D}
  {S1 : D → (D → Prop) → Prop} {S2 : D → D → (D → Prop) → Prop} {S3 : D → D → D → (D → Prop) → Prop} {S4 : D → D → D → D → (D → Prop) → Prop} {S5 : D → D → D → D → D → (D → Prop) → Prop} {S6 : D → D → D → D → D → D → (D → Prop) → Prop} {S7 : D → D → D → D → D → D → D → (D → Prop) → Prop}
theorem a_plpl : bAdd (.p (.list ds)) (.p (.list es)) Q = (ds.length + es.length ≤ sizeLine ∧ Q (.nw (ds ++ es))) := rfl
theorem a_plow : bAdd (.p (.list ds)) (.own es) Q = (ds.length + es.length ≤ sizeLine ∧ Q (.nw (ds ++ es))) := rfl
theorem a_plnw : bAdd (.p (.list ds)) (.nw es) Q = (ds.length + es.length ≤ sizeLine ∧ Q (.nw (ds ++ es))) := rfl
theorem m_pli : bMul (.p (.list ds)) (.p (.int j)) Q = ((-(2 ^ 63) ≤ j ∧ j < 2 ^ 63 ∧ ds.length * j.toNat ≤ sizeLine) ∧ Q (.nw (List.replicate j.toNat ds).flatten)) := rfl
theorem x_pli : bIx (.p (.list ds)) (.p (.int j)) Q = ∃ d, atI ds j = some d ∧ Q (.p d) := rfl
theorem sl_pl : bSl (.p (.list ds)) lo hi Q = (ds.length ≤ sizeLine ∧ Q (.nw (cutD ds lo hi))) := rfl
theorem len_pl : kLen (.p (.list ds)) Q = Q (.p (.int ds.length)) := rfl
theorem tup_pl : kTup (.p (.list ds)) Q = Q (.p (.tuple ds)) := rfl
theorem lis_pl : kLis (.p (.list ds)) Q = (ds.length ≤ sizeLine ∧ Q (.nw ds)) := rfl
theorem ix_pl : kIndex (.p (.list ds)) (.p d) Q = ((fl d = true ∧ ds.all fl = true) ∧ ∃ j, ixOf d ds = some j ∧ Q (.p (.int (j : Nat)))) := rfl
theorem in_pl : bInN neg (.p d) (.p (.list ds)) Q = (inOk (.p d) (.p (.list ds)) d ds ∧ Q (.p (.bool (if neg = true then !(ds.any fun z => PyData.eqv z d) else ds.any fun z => PyData.eqv z d)))) := rfl
theorem tru_pl : D.tru (.p (.list ds)) = some (!ds.isEmpty) := rfl
theorem tok_pl : D.tok (.p (.list ds)) = True := rfl
theorem non_pl : D.isNone (.p (.list ds)) = false := rfl
theorem sq_pl : D.sq (.p (.list ds)) = some ds := rfl
theorem ls_pl : D.ls (.p (.list ds)) = some ds := rfl
theorem a_owpl : bAdd (.own ds) (.p (.list es)) Q = (ds.length + es.length ≤ sizeLine ∧ Q (.nw (ds ++ es))) := rfl
theorem a_owow : bAdd (.own ds) (.own es) Q = (ds.length + es.length ≤ sizeLine ∧ Q (.nw (ds ++ es))) := rfl
theorem a_ownw : bAdd (.own ds) (.nw es) Q = (ds.length + es.length ≤ sizeLine ∧ Q (.nw (ds ++ es))) := rfl
theorem m_owi : bMul (.own ds) (.p (.int j)) Q = ((-(2 ^ 63) ≤ j ∧ j < 2 ^ 63 ∧ ds.length * j.toNat ≤ sizeLine) ∧ Q (.nw (List.replicate j.toNat ds).flatten)) := rfl
theorem x_owi : bIx (.own ds) (.p (.int j)) Q = ∃ d, atI ds j = some d ∧ Q (.p d) := rfl
theorem sl_ow : bSl (.own ds) lo hi Q = (ds.length ≤ sizeLine ∧ Q (.nw (cutD ds lo hi))) := rfl
theorem len_ow : kLen (.own ds) Q = Q (.p (.int ds.length)) := rfl
theorem tup_ow : kTup (.own ds) Q = Q (.p (.tuple ds)) := rfl
theorem lis_ow : kLis (.own ds) Q = (ds.length ≤ sizeLine ∧ Q (.nw ds)) := rfl
theorem ix_ow : kIndex (.own ds) (.p d) Q = ((fl d = true ∧ ds.all fl = true) ∧ ∃ j, ixOf d ds = some j ∧ Q (.p (.int (j : Nat)))) := rfl
theorem in_ow : bInN neg (.p d) (.own ds) Q = (inOk (.p d) (.own ds) d ds ∧ Q (.p (.bool (if neg = true then !(ds.any fun z => PyData.eqv z d) else ds.any fun z => PyData.eqv z d)))) := rfl
theorem tru_ow : D.tru (.own ds) = some (!ds.isEmpty) := rfl
theorem tok_ow : D.tok (.own ds) = True := rfl
theorem non_ow : D.isNone (.own ds) = false := rfl
theorem sq_ow : D.sq (.own ds) = some ds := rfl
theorem ls_ow : D.ls (.own ds) = some ds := rfl
theorem a_nwpl : bAdd (.nw ds) (.p (.list es)) Q = (ds.length + es.length ≤ sizeLine ∧ Q (.nw (ds ++ es))) := rfl
theorem a_nwow : bAdd (.nw ds) (.own es) Q = (ds.length + es.length ≤ sizeLine ∧ Q (.nw (ds ++ es))) := rfl
theorem a_nwnw : bAdd (.nw ds) (.nw es) Q = (ds.length + es.length ≤ sizeLine ∧ Q (.nw (ds ++ es))) := rfl
theorem m_nwi : bMul (.nw ds) (.p (.int j)) Q = ((-(2 ^ 63) ≤ j ∧ j < 2 ^ 63 ∧ ds.length * j.toNat ≤ sizeLine) ∧ Q (.nw (List.replicate j.toNat ds).flatten)) := rfl
theorem x_nwi : bIx (.nw ds) (.p (.int j)) Q = ∃ d, atI ds j = some d ∧ Q (.p d) := rfl
theorem sl_nw : bSl (.nw ds) lo hi Q = (ds.length ≤ sizeLine ∧ Q (.nw (cutD ds lo hi))) := rfl
theorem len_nw : kLen (.nw ds) Q = Q (.p (.int ds.length)) := rfl
theorem tup_nw : kTup (.nw ds) Q = Q (.p (.tuple ds)) := rfl
theorem lis_nw : kLis (.nw ds) Q = (ds.length ≤ sizeLine ∧ Q (.nw ds)) := rfl
theorem ix_nw : kIndex (.nw ds) (.p d) Q = ((fl d = true ∧ ds.all fl = true) ∧ ∃ j, ixOf d ds = some j ∧ Q (.p (.int (j : Nat)))) := rfl
theorem in_nw : bInN neg (.p d) (.nw ds) Q = (inOk (.p d) (.nw ds) d ds ∧ Q (.p (.bool (if neg = true then !(ds.any fun z => PyData.eqv z d) else ds.any fun z => PyData.eqv z d)))) := rfl
theorem tru_nw : D.tru (.nw ds) = some (!ds.isEmpty) := rfl
theorem tok_nw : D.tok (.nw ds) = True := rfl
theorem non_nw : D.isNone (.nw ds) = false := rfl
theorem sq_nw : D.sq (.nw ds) = some ds := rfl
theorem ls_nw : D.ls (.nw ds) = some ds := rfl
theorem a_ii : bAdd (.p (.int i)) (.p (.int j)) Q = Q (.p (.int (i + j))) := rfl
theorem a_ss : bAdd (.p (.str x)) (.p (.str y)) Q = (x.length + y.length ≤ sizeLine ∧ Q (.p (.str (x ++ y)))) := rfl
theorem a_tt : bAdd (.p (.tuple ds)) (.p (.tuple es)) Q = (ds.length + es.length ≤ sizeLine ∧ Q (.p (.tuple (ds ++ es)))) := rfl
theorem m_ii : bMul (.p (.int i)) (.p (.int j)) Q = (CMul i j ∧ Q (.p (.int (i * j)))) := rfl
theorem m_ti : bMul (.p (.tuple ds)) (.p (.int j)) Q = ((2 ≤ j ∧ j ≤ 1000 ∧ ds.length ≤ 1000) ∧ Q (.p (.tuple (List.replicate j.toNat ds).flatten))) := rfl
theorem o_bSub : bSub (.p (.int i)) (.p (.int j)) Q = Q (.p (.int (i - j))) := rfl
theorem o_bAnd : bAnd (.p (.int i)) (.p (.int j)) Q = Q (.p (.int (Builtin.bitAnd i j))) := rfl
theorem o_bOr : bOr (.p (.int i)) (.p (.int j)) Q = Q (.p (.int (Builtin.bitOr i j))) := rfl
theorem o_bXor : bXor (.p (.int i)) (.p (.int j)) Q = Q (.p (.int (Builtin.bitXor i j))) := rfl
theorem o_bI0 : bI0 gg (.p (.int i)) (.p (.int j)) Q = Q (.p (.int (gg i j))) := rfl
theorem o_bMod : bMod (.p (.int i)) (.p (.int j)) Q = (0 < j ∧ Q (.p (.int (i % j)))) := rfl
theorem o_bDiv : bDiv (.p (.int i)) (.p (.int j)) Q = (CDiv i j ∧ Q (.p (.int (i / j)))) := rfl
theorem o_bPow : bPow (.p (.int i)) (.p (.int j)) Q = (CPow i j ∧ Q (.p (.int (i ^ j.toNat)))) := rfl
theorem o_bShl : bShl (.p (.int i)) (.p (.int j)) Q = (CShl i j ∧ Q (.p (.int (i * 2 ^ j.toNat)))) := rfl
theorem o_bShr : bShr (.p (.int i)) (.p (.int j)) Q = (0 ≤ j ∧ Q (.p (.int (i / 2 ^ j.toNat)))) := rfl
theorem o_neg : uNeg (.p (.int i)) Q = Q (.p (.int (-i))) := rfl
theorem o_inv : uInv (.p (.int i)) Q = Q (.p (.int (Builtin.bitNot i))) := rfl
theorem q_pp : bEqN neg (.p d) (.p e) Q = (eqOk d e = true ∧ Q (.p (.bool (if neg = true then !PyData.eqv d e else PyData.eqv d e)))) := rfl
theorem q_pow : bEqN neg (.p d) (.own es) Q = (eqOk d (.list es) = true ∧ Q (.p (.bool (if neg = true then !PyData.eqv d (.list es) else PyData.eqv d (.list es))))) := rfl
theorem q_pnw : bEqN neg (.p d) (.nw es) Q = (eqOk d (.list es) = true ∧ Q (.p (.bool (if neg = true then !PyData.eqv d (.list es) else PyData.eqv d (.list es))))) := rfl
theorem rep_p : kRep (.p d) Q = (repOk d ∧ Q (.p (.str (PyData.shown d)))) := rfl
theorem dat_p : D.dat (.p d) = some d := rfl
theorem q_owp : bEqN neg (.own ds) (.p e) Q = (eqOk (.list ds) e = true ∧ Q (.p (.bool (if neg = true then !PyData.eqv (.list ds) e else PyData.eqv (.list ds) e)))) := rfl
theorem q_owow : bEqN neg (.own ds) (.own es) Q = (eqOk (.list ds) (.list es) = true ∧ Q (.p (.bool (if neg = true then !PyData.eqv (.list ds) (.list es) else PyData.eqv (.list ds) (.list es))))) := rfl
theorem q_ownw : bEqN neg (.own ds) (.nw es) Q = (eqOk (.list ds) (.list es) = true ∧ Q (.p (.bool (if neg = true then !PyData.eqv (.list ds) (.list es) else PyData.eqv (.list ds) (.list es))))) := rfl
theorem rep_ow : kRep (.own ds) Q = (repOk (.list ds) ∧ Q (.p (.str (PyData.shown (.list ds))))) := rfl
theorem dat_ow : D.dat (.own ds) = some (.list ds) := rfl
theorem q_nwp : bEqN neg (.nw ds) (.p e) Q = (eqOk (.list ds) e = true ∧ Q (.p (.bool (if neg = true then !PyData.eqv (.list ds) e else PyData.eqv (.list ds) e)))) := rfl
theorem q_nwow : bEqN neg (.nw ds) (.own es) Q = (eqOk (.list ds) (.list es) = true ∧ Q (.p (.bool (if neg = true then !PyData.eqv (.list ds) (.list es) else PyData.eqv (.list ds) (.list es))))) := rfl
theorem q_nwnw : bEqN neg (.nw ds) (.nw es) Q = (eqOk (.list ds) (.list es) = true ∧ Q (.p (.bool (if neg = true then !PyData.eqv (.list ds) (.list es) else PyData.eqv (.list ds) (.list es))))) := rfl
theorem rep_nw : kRep (.nw ds) Q = (repOk (.list ds) ∧ Q (.p (.str (PyData.shown (.list ds))))) := rfl
theorem dat_nw : D.dat (.nw ds) = some (.list ds) := rfl
theorem c_bLti : bLt (.p (.int i)) (.p (.int j)) Q = Q (.p (.bool (decide (i < j)))) := rfl
theorem c_bLts : bLt (.p (.str x)) (.p (.str y)) Q = Q (.p (.bool (decide (x.cps.toList < y.cps.toList)))) := rfl
theorem c_bLei : bLe (.p (.int i)) (.p (.int j)) Q = Q (.p (.bool (decide (i ≤ j)))) := rfl
theorem c_bLes : bLe (.p (.str x)) (.p (.str y)) Q = Q (.p (.bool (!decide (y.cps.toList < x.cps.toList)))) := rfl
theorem c_bGti : bGt (.p (.int i)) (.p (.int j)) Q = Q (.p (.bool (decide (j < i)))) := rfl
theorem c_bGts : bGt (.p (.str x)) (.p (.str y)) Q = Q (.p (.bool (decide (y.cps.toList < x.cps.toList)))) := rfl
theorem c_bGei : bGe (.p (.int i)) (.p (.int j)) Q = Q (.p (.bool (decide (j ≤ i)))) := rfl
theorem c_bGes : bGe (.p (.str x)) (.p (.str y)) Q = Q (.p (.bool (!decide (x.cps.toList < y.cps.toList)))) := rfl
theorem c_bLtt : bLt (.p (.tuple ds)) (.p (.tuple es)) Q = ((PySem.W.alike (.tuple ds) (.tuple es) = true ∧ (PyData.tuple ds).depth ≤ 30 ∧ (PyData.tuple ds).hasDict = false ∧ (PyData.tuple es).hasDict = false) ∧ Q (.p (.bool (PySem.W.dataLt (.tuple ds) (.tuple es))))) := rfl
theorem c_is : bIs xx (.p .none) Q = Q (.p (.bool xx.isNone)) := rfl
theorem c_isnt : bIsnt xx (.p .none) Q = Q (.p (.bool (!xx.isNone))) := rfl
theorem non_none : D.isNone (.p .none) = true := rfl
theorem non_int : D.isNone (.p (.int i)) = false := rfl
theorem non_bool : D.isNone (.p (.bool b)) = false := rfl
theorem non_str : D.isNone (.p (.str x)) = false := rfl
theorem non_tuple : D.isNone (.p (.tuple ds)) = false := rfl
theorem in_s : bInN neg (.p (.str (tx [c]))) (.p (.str x)) Q = Q (.p (.bool (if neg = true then !decide (c ∈ x.cps.toList) else decide (c ∈ x.cps.toList)))) := rfl
theorem in_t : bInN neg (.p d) (.p (.tuple ds)) Q = (inOk (.p d) (.p (.tuple ds)) d ds ∧ Q (.p (.bool (if neg = true then !(ds.any fun z => PyData.eqv z d) else ds.any fun z => PyData.eqv z d)))) := rfl
theorem x_si : bIx (.p (.str x)) (.p (.int j)) Q = (x.length ≤ sizeLine ∧ ∃ c, atI x.cps.toList j = some c ∧ Q (.p (.str ⟨#[c]⟩))) := rfl
theorem x_ti : bIx (.p (.tuple ds)) (.p (.int j)) Q = ∃ d, atI ds j = some d ∧ Q (.p d) := rfl
theorem sl_s : bSl (.p (.str x)) lo hi Q = (x.length ≤ sizeLine ∧ Q (.p (.str (cutS x lo hi)))) := rfl
theorem sl_t : bSl (.p (.tuple ds)) lo hi Q = Q (.p (.tuple (cutD ds lo hi))) := rfl
theorem len_s : kLen (.p (.str x)) Q = (x.length ≤ sizeLine ∧ Q (.p (.int x.length))) := rfl
theorem len_t : kLen (.p (.tuple ds)) Q = Q (.p (.int ds.length)) := rfl
theorem tup_t : kTup (.p (.tuple ds)) Q = Q (.p (.tuple ds)) := rfl
theorem lis_t : kLis (.p (.tuple ds)) Q = (ds.length ≤ sizeLine ∧ Q (.nw ds)) := rfl
theorem int_i : kInt (.p (.int i)) Q = Q (.p (.int i)) := rfl
theorem int_b : kInt (.p (.bool b)) Q = Q (.p (.int (b2d b))) := rfl
theorem abs_i : kAbs (.p (.int i)) Q = Q (.p (.int i.natAbs)) := rfl
theorem max_ii : kMax (.p (.int i)) (.p (.int j)) Q = Q (.p (.int (max i j))) := rfl
theorem min_ii : kMin (.p (.int i)) (.p (.int j)) Q = Q (.p (.int (min i j))) := rfl
theorem ix_t : kIndex (.p (.tuple ds)) (.p (.str x)) Q = ((strsOf ds).isSome = true ∧ ∃ j, ixOf (.str x) ds = some j ∧ Q (.p (.int (j : Nat)))) := rfl
theorem tru_none : D.tru (.p .none) = some false := rfl
theorem tok_none : D.tok (.p .none) = True := rfl
theorem tru_bool : D.tru (.p (.bool b)) = some b := rfl
theorem tok_bool : D.tok (.p (.bool b)) = True := rfl
theorem tru_int : D.tru (.p (.int i)) = some (i != 0) := rfl
theorem tok_int : D.tok (.p (.int i)) = True := rfl
theorem tru_str : D.tru (.p (.str x)) = some (((x.length : Nat) : Int) != 0) := rfl
theorem tok_str : D.tok (.p (.str x)) = (x.length ≤ sizeLine) := rfl
theorem tru_tuple : D.tru (.p (.tuple ds)) = some (!ds.isEmpty) := rfl
theorem tok_tuple : D.tok (.p (.tuple ds)) = True := rfl
theorem sq_t : D.sq (.p (.tuple ds)) = some ds := rfl
theorem st_p : D.st (.p d) = some d := rfl
theorem st_nw : D.st (.nw ds) = some (.list ds) := rfl
theorem ag_0 : argAll [] = some [] := rfl
theorem vw_0 : viewAll [] = some [] := rfl
theorem vw_p : viewAll ((.p d) :: xs) = (viewAll xs).map (D.p d :: ·) := by simp only [viewAll, D.view]; cases viewAll xs <;> rfl
theorem vw_n : viewAll ((.nw ds) :: xs) = (viewAll xs).map (D.p (.list ds) :: ·) := by simp only [viewAll, D.view]; cases viewAll xs <;> rfl
theorem vw_o : viewAll ((.own ds) :: xs) = (viewAll xs).map (D.p (.list ds) :: ·) := by simp only [viewAll, D.view]; cases viewAll xs <;> rfl
theorem vw_t : viewAll (.tape :: xs) = (viewAll xs).map (D.tape :: ·) := by simp only [viewAll, D.view]; cases viewAll xs <;> rfl
theorem ag_p : argAll (.p d :: xs) = (argAll xs).map (D.p d :: ·) := by simp only [argAll, D.arg]; cases argAll xs <;> rfl
theorem ag_n : argAll (.nw ds :: xs) = (argAll xs).map (D.p (.list ds) :: ·) := by simp only [argAll, D.arg]; cases argAll xs <;> rfl
theorem ag_t : argAll (.tape :: xs) = (argAll xs).map (D.tape :: ·) := by simp only [argAll, D.arg]; cases argAll xs <;> rfl
theorem sa_0 : stAll [] = some [] := rfl
theorem sa_p : stAll (.p d :: xs) = (stAll xs).map (d :: ·) := by simp only [stAll, D.st]; cases stAll xs <;> rfl
theorem sa_n : stAll (.nw ds :: xs) = (stAll xs).map (PyData.list ds :: ·) := by simp only [stAll, D.st]; cases stAll xs <;> rfl
theorem sa_map (xs : List PyData) : stAll (xs.map D.p) = some xs := by
  induction xs with
  | nil => rfl
  | cons a r ih => rw [List.map_cons, sa_p, ih]; rfl
theorem it_138 : itOf (.p (.tuple ds)) = some (ds.map ItD.one) := rfl
theorem it_139 : itOf (.p (.list ds)) = some (ds.map ItD.one) := rfl
theorem it_140 : itOf (.nw ds) = some (ds.map ItD.one) := rfl
theorem it_141 : itOf (.p (.str x)) = some (chD x) := rfl
theorem en_142 : enOf [.p (.tuple ds)] = some (enD ds) := rfl
theorem en_143 : enOf [.p (.list ds)] = some (enD ds) := rfl
theorem en_144 : enOf [.nw ds] = some (enD ds) := rfl
theorem en_145 : enOf [.p (.str x)] = some (enD (chs x)) := rfl
theorem rv_146 : rvOf (.p (.tuple ds)) = some ds := rfl
theorem rv_147 : rvOf (.p (.list ds)) = some ds := rfl
theorem rv_148 : rvOf (.nw ds) = some ds := rfl
theorem zp_149 : zipOf [(.p (.list ds)), (.p (.list es))] = some (zipD ds es) := rfl
theorem zp_150 : zipOf [(.p (.list ds)), (.nw es)] = some (zipD ds es) := rfl
theorem zp_151 : zipOf [(.nw ds), (.p (.list es))] = some (zipD ds es) := rfl
theorem zp_152 : zipOf [(.nw ds), (.nw es)] = some (zipD ds es) := rfl
theorem zp_t : zipOf [.p (.tuple ds), .p (.tuple es)] = some (zipD ds es) := rfl
theorem c1_ : c1 f1 [xx] Q = f1 xx Q := rfl
theorem c2_ : c2 f2 [xx, yy] Q = f2 xx yy Q := rfl
theorem s1_ : s1 S1 [aa] Q = S1 aa Q := rfl
theorem s2_ : s2 S2 [aa, bb] Q = S2 aa bb Q := rfl
theorem s3_ : s3 S3 [aa, bb, cc] Q = S3 aa bb cc Q := rfl
theorem s4_ : s4 S4 [aa, bb, cc, dd] Q = S4 aa bb cc dd Q := rfl
theorem s5_ : s5 S5 [aa, bb, cc, dd, ee] Q = S5 aa bb cc dd ee Q := rfl
theorem s6_ : s6 S6 [aa, bb, cc, dd, ee, ff] Q = S6 aa bb cc dd ee ff Q := rfl
theorem s7_ : s7 S7 [aa, bb, cc, dd, ee, ff, gg2] Q = S7 aa bb cc dd ee ff gg2 Q := rfl
theorem dr_ : S_draw .tape (.p (.int i)) Q = (i < 100000000 ∧ ∀ v : Nat, (v : Int) < max i 1 → Q (.p (.int (v : Nat)))) := by
  unfold S_draw
  apply propext
  constructor
  · rintro ⟨_, n, e, h⟩; cases e; exact h
  · intro h; exact ⟨rfl, i, rfl, h⟩
theorem rt_p : rtU Dd (.p d) = Dd.rt (.p d) := rfl
theorem rt_ow : rtU Dd (.own ds) = Dd.rt (.nw ds) := rfl
theorem rt_nw : rtU Dd (.nw ds) = Dd.rt (.nw ds) := rfl
theorem e1_ret : dRetU ta Dd ρ = ta ρ (rtU Dd) := rfl
theorem rv_t : revU (.p (.tuple ds)) Q = Q (.p (.tuple ds.reverse)) := rfl
theorem rv_pl : revU (.p (.list ds)) Q = (ds.length ≤ sizeLine ∧ Q (.nw ds.reverse)) := rfl
theorem rv_ow : revU (.own ds) Q = (ds.length ≤ sizeLine ∧ Q (.nw ds.reverse)) := rfl
theorem rv_nw : revU (.nw ds) Q = (ds.length ≤ sizeLine ∧ Q (.nw ds.reverse)) := rfl
theorem e1_revU : dRevU ta ρ Q = ta ρ fun x => revU x Q := rfl
theorem jo_s : joinU tb ρ (.p (.str x)) Q = tb ρ fun y => kJoin x y Q := rfl
theorem e1_join : dJoin ta tb ρ Q = ta ρ fun x => joinU tb ρ x Q := rfl
theorem bi_i : bitsU (.p (.int i)) Q = Q (.p (.int (Builtin.Int.intBits i : Nat))) := rfl
theorem e1_bits : dBits ta ρ Q = ta ρ fun x => bitsU x Q := rfl
end
theorem szl {n : Nat} (h : n ≤ 1000000) : n ≤ sizeLine := by rw [sizeLine_eq]; omega
end My
namespace My
open PySem PySem.Spec PyProof.Rows L2
variable [TB]
section
variable {ρ : Ro} {Dd : EndsD} {t u : TSD} {ta tb tc : TED} {tt tt' : TTD} {ar : TAD} {Q : D → Prop} {i j n k : Nat} {d e : PyData} {x y : D} {ds : List PyData} {m : M}
theorem e_lcT {ti : TID} {g : TGD} {vs : List Nat} : dLcT ti g tt ta vs ρ Q = ti ρ fun items => lcM (fun x K => elM g tt ta x (dWipe ρ vs) K) items [] fun acc => Q (.nt (.lst acc)) := rfl
theorem e_elM {g : TGD} {z : ItD} {K : Option M → Prop} : elM g tt ta z ρ K = g z ρ fun ρ2 => tt ρ2 fun b => if b = true then ta ρ2 fun y => ∃ m, y.mt = some m ∧ K (some m) else K none := rfl
theorem e_setT : dSetT i ta Dd ρ = ta ρ fun x => ∃ m, x.mt = some m ∧ Dd.nx (ρ.set i (some (.ot m))) := rfl
theorem e_fzT : dFzT i t Dd ρ = ∃ m, ρ[i]? = some (some (.ot m)) ∧ t Dd (ρ.set i (some (.p m.dat))) := rfl
theorem e_ali : dAli i j n k ta t Dd ρ = ∃ ms ns, ρ[i]? = some (some (.ot (.lst ms))) ∧ i ≠ j ∧ j < ρ.length ∧ ms[n]? = some (.lst ns) ∧ ta (ρ.set j none) fun x => ∃ d d0, x.st = some d ∧ ns[k]? = some (.leaf d0) ∧
  t Dd ((ρ.set j none).set i (some (.ot (.lst (ms.set n (.lst (ns.set k (.leaf d)))))))) := rfl
theorem mt_p : (D.p d).mt = some (.leaf d) := rfl
theorem mt_nw : (D.nw ds).mt = some (.lst (ds.map .leaf)) := rfl
theorem mt_nt : (D.nt m).mt = some m := rfl
theorem dats_leaf : ∀ ds : List PyData, M.dats (ds.map .leaf) = ds
  | [] => rfl
  | d :: ds => by rw [List.map_cons, M.dats, dats_leaf ds]; rfl
theorem dats_lists : ∀ dss : List (List PyData), M.dats (dss.map fun ds => .lst (ds.map .leaf)) = dss.map .list
  | [] => rfl
  | d :: ds => by rw [List.map_cons, M.dats, dats_lists ds, List.map_cons, M.dat, dats_leaf]
theorem dat_lst {ms : List M} : (M.lst ms).dat = .list (M.dats ms) := by rw [M.dat]
theorem dat_leaf : (M.leaf d).dat = d := by rw [M.dat]
/-- a comprehension into lists, item by item -/
theorem lcM_of {α : Type} {el : ItD → (Option M → Prop) → Prop} {Q : List M → Prop} {l : List α} {g : α → ItD} (f : α → M) (h : ∀ a ∈ l, ∀ K : Option M → Prop, K (some (f a)) → el (g a) K) (hz : l.length ≤ sizeLine) (q : Q (l.map f)) : lcM el (l.map g) [] Q := by
  have go : ∀ (l : List α) (acc : List M), (∀ a ∈ l, ∀ K : Option M → Prop, K (some (f a)) → el (g a) K) → acc.length + l.length ≤ sizeLine → Q (acc ++ l.map f) → lcM el (l.map g) acc Q := by
    intro l
    induction l with
    | nil => intro acc _ _ q; simpa [lcM] using q
    | cons a l ih =>
      intro acc h hz q
      rw [List.map_cons]
      unfold lcM
      refine h a List.mem_cons_self _ ⟨by simp at hz; omega, ih _ (fun b hb => h b (List.mem_cons_of_mem _ hb)) (by simp at hz ⊢; omega) (by simpa using q)⟩
  exact go l [] h (by simpa using hz) (by simpa using q)
end
end My
namespace My
open PySem PySem.Spec PyProof.Rows L2
variable [TB]
section
variable {ρ : Ro} {Dd : EndsD} {t u : TSD} {ta tb tc : TED} {ts : TAD} {Q : D → Prop} {i j n k : Nat} {d e : PyData} {x y : D} {ks ds : List PyData} {ms : List M} {ps : List (PyData × PyData)} {neg : Bool}
theorem e_dGet : dGet ta ts ρ Q = ta ρ fun x => x.dks.isSome = true ∧ ts ρ fun xs => match x.dks, xs with
  | some (ks, ms), [.p d] => uniB ks d = true ∧ kAt ks ms d .none Q
  | some (ks, ms), [.p d, z] => uniB ks d = true ∧ ∃ e0, z.st = some e0 ∧ kAt ks ms d e0 Q
  | _, _ => False := rfl
theorem dks_ot : (D.ot (.dic ks ms)).dks = some (ks, ms) := rfl
theorem dks_nt : (D.nt (.dic ks ms)).dks = some (ks, ms) := rfl
theorem dks_p : (D.p (.dict ps)).dks = some (ps.map (·.1), ps.map fun q => .leaf q.2) := rfl
theorem in_ot : bInD neg (.p d) (.ot (.dic ks ms)) Q = (uniB ks d = true ∧ Q (.p (.bool (if neg = true then !(kIx ks d).isSome else (kIx ks d).isSome)))) := rfl
theorem in_pd : bInD neg (.p d) (.p (.dict ps)) Q = (uniB (ps.map (·.1)) d = true ∧ Q (.p (.bool (if neg = true then !(kIx (ps.map (·.1)) d).isSome else (kIx (ps.map (·.1)) d).isSome)))) := rfl
theorem dx_ot : bDx (.ot (.dic ks ms)) (.p d) Q = (uniB ks d = true ∧ ∃ j e, kIx ks d = some j ∧ ms[j]? = some (.leaf e) ∧ Q (.p e)) := rfl
theorem dict_t : kDict (.p (.tuple ds)) Q = match pairsOf ds with
  | some ps => (ps.map (·.1)).Nodup ∧ Q (.nt (.dic (ps.map fun p => keyD p.1) (ps.map fun p => .leaf p.2)))
  | _ => False := rfl
theorem e_dNewD : dNewD ρ Q = Q (.nt (.dic [] [])) := rfl
theorem e_disp1 : dDisp1 ta tb ρ Q = ta ρ fun y => ∃ k, y = .p (keyD k) ∧ tb ρ fun z => ∃ e, z.st = some e ∧ Q (.nt (dicA [(k, e)])) := rfl
theorem e_dc {ti : TID} {g : TGD} {tt : TTD} {vs : List Nat} : dDc ti g tt ta tb vs ρ Q = ti ρ fun items => lcD (fun x K => elD g tt ta tb x (dWipe ρ vs) K) items [] fun acc => Q (.nt (dicA acc)) := rfl
theorem e_elD {g : TGD} {tt : TTD} {x : ItD} {K : Option (Key × PyData) → Prop} : elD g tt ta tb x ρ K = g x ρ fun ρ2 => tt ρ2 fun b => if b = true then ta ρ2 fun y => ∃ k, y = .p (keyD k) ∧ tb ρ2 fun z => ∃ e, z.st = some e ∧ K (some (k, e)) else K none := rfl
theorem e_setD : dSetD i ta tb Dd ρ = ∃ ks ms, ρ[i]? = some (some (.ot (.dic ks ms))) ∧ tb ρ fun x => ∃ e, x.st = some e ∧ ta ρ fun y => ∃ d, y = .p d ∧ uniB ks d = true ∧ ms.length < sizeLine ∧ (∀ j, kIx ks d = some j → ∃ e0, ms[j]? = some (.leaf e0)) ∧ Dd.nx (ρ.set i (some (.ot (putM ks ms d e)))) := rfl
end
end My
namespace My
open PySem PySem.Spec PyProof.Rows L2
variable [TB]
/-! ### letters, owners, symbols -/
def Let (y : List Nat) : Prop := y.Sublist lows ∧ 1 ≤ y.length ∧ y.length ≤ 3
def Own (z : List Nat) : Prop := z.Sublist caps ∧ 1 ≤ z.length ∧ z.length ≤ 3
theorem lit_lows : ("abcdefghijklmnopqrstuvwxyz" : Str) = tx lows := by decide +kernel
theorem lit_caps : ("ABCDEFGHIJKLMNOPQRSTUVWXYZ" : Str) = tx caps := by decide +kernel
theorem lit_acaps : ("@ABCDEFGHIJKLMNOPQRSTUVWXYZ" : Str) = tx (64 :: caps) := by decide +kernel
theorem lit_at : ("@" : Str) = tx [64] := by decide +kernel
theorem lit_e : ("" : Str) = tx [] := by decide +kernel
theorem lows_len : lows.length = 26 := rfl
theorem caps_len : caps.length = 26 := rfl
abbrev symD (q : Nat × Nat) : PyData := .str (syp q)
def seqD (qs : List (Nat × Nat)) : PyData := .tuple (qs.map symD)
/-- holders and letters -/
def prs (hs ls : List Nat) : List (Nat × Nat) := hs.flatMap fun h => ls.map fun l => (h, l)
theorem mem_prs {hs ls : List Nat} {q : Nat × Nat} : q ∈ prs hs ls ↔ q.1 ∈ hs ∧ q.2 ∈ ls := by
  unfold prs
  rw [List.mem_flatMap]
  constructor
  · rintro ⟨h, hh, hq⟩
    obtain ⟨l, hl, rfl⟩ := List.mem_map.mp hq
    exact ⟨hh, hl⟩
  · rintro ⟨h1, h2⟩
    exact ⟨q.1, h1, List.mem_map.mpr ⟨q.2, h2, rfl⟩⟩
theorem prs_len (hs ls : List Nat) : (prs hs ls).length = hs.length * ls.length := by
  unfold prs
  induction hs with
  | nil => simp
  | cons h hs ih => rw [List.flatMap_cons, List.length_append, List.length_map, ih, List.length_cons, Nat.succ_mul, Nat.add_comm]
theorem prs_snoc (hs ls : List Nat) (h : Nat) : prs (hs ++ [h]) ls = prs hs ls ++ ls.map fun l => (h, l) := by
  unfold prs
  rw [List.flatMap_append]
  simp
theorem Let.sy {y : List Nat} (h : Let y) : ∀ l ∈ y, 97 ≤ l ∧ l ≤ 122 := fun l hl => by
  exact (by decide : ∀ l ∈ lows, 97 ≤ l ∧ l ≤ 122) l (h.1.subset hl)
theorem Own.sy {z : List Nat} (h : Own z) : ∀ l ∈ z, 65 ≤ l ∧ l ≤ 90 := fun l hl => by
  exact (by decide : ∀ l ∈ caps, 65 ≤ l ∧ l ≤ 90) l (h.1.subset hl)
/-- a drawn place in a list -/
theorem get_lt {α : Type} {l : List α} {v : Nat} (h : v < l.length) : l[v]? = some l[v] := List.getElem?_eq_getElem h
theorem tx_eq {a b : List Nat} : (tx a == tx b) = decide (a = b) := by
  by_cases h : a = b
  · subst h; simp
  · rw [decide_eq_false h]
    exact beq_eq_false_iff_ne.mpr fun e => h (tx_inj.mp e)
theorem syp_tx (q : Nat × Nat) : syp q = tx [q.1, q.2] := rfl
end My
namespace My
open PySem PySem.Spec PyProof.Rows L2
variable [TB]
theorem pickD {α : Type} (ds : List α) {v : Nat} (h : v < ds.length) : ∃ d, d ∈ ds ∧ atI ds (v : Int) = some d :=
  ⟨ds[v], List.getElem_mem h, by rw [atI_cast, get_lt h]⟩
theorem pickN (ns : List Nat) {v : Nat} (h : v < ns.length) : ∃ n, n ∈ ns ∧ atI (ns.map fun n => PyData.int (n : Nat)) (v : Int) = some (.int (n : Nat)) :=
  ⟨ns[v], List.getElem_mem h, by rw [atI_cast, List.getElem?_map, get_lt h]; rfl⟩
end My
namespace My
open PySem PySem.Spec PyProof.Rows L2
variable [TB]
theorem lcW_sub {el : ItD → (Option PyData → Prop) → Prop} {ds : List PyData} {Q : List PyData → Prop} (h : ∀ d ∈ ds, ∀ K : Option PyData → Prop, K none → K (some d) → el (.one d) K) (hz : ds.length ≤ sizeLine) (q : ∀ es, es.Sublist ds → Q es) : lcW el (ds.map .one) [] Q := by
  refine lcW_inv (fun i acc => acc.Sublist (ds.take i)) (by simp) (fun i x acc K hx hs hn hk => ?_) (by simpa using hz) (fun acc hs => ?_)
  · obtain ⟨d, hd, rfl⟩ := ones_get hx
    have hi := (List.getElem?_eq_some_iff.mp hd).1
    have e : ds.take (i + 1) = ds.take i ++ [d] := by
      rw [List.take_succ_eq_append_getElem hi]
      have := (List.getElem?_eq_some_iff.mp hd).2
      rw [this]
    refine h d (List.mem_of_getElem? hd) K (hn ?_) (hk d ?_)
    · rw [e]; exact hs.trans (List.sublist_append_left _ _)
    · rw [e]; exact hs.append (List.Sublist.refl _)
  · rw [List.length_map, List.take_length] at hs
    exact q acc hs
abbrev chr1 (c : Nat) : PyData := .str (tx [c])
theorem chs_tx (l : List Nat) : chs (tx l) = l.map chr1 := by
  unfold chs
  rw [tx_list]
  rfl
theorem chD_tx (l : List Nat) : chD (tx l) = (l.map chr1).map ItD.one := by
  unfold chD
  rw [tx_list, List.map_map]
  rfl
theorem sub_map {α β : Type} {f : α → β} {l : List α} {es : List β} (h : es.Sublist (l.map f)) : ∃ l' : List α, l'.Sublist l ∧ es = l'.map f := by
  obtain ⟨l', h1, h2⟩ := List.sublist_map_iff.mp h
  exact ⟨l', h1, h2⟩
theorem strsOf_chr (l : List Nat) : strsOf (l.map chr1) = some (l.map fun c => tx [c]) := by
  have := strsOf_map (l.map fun c => tx [c])
  rw [List.map_map] at this
  exact this
theorem tx_of {s : Str} {l : List Nat} (h : s.cps.toList = l) : s = tx l := by
  apply str_ext
  rw [tx_list, h]
theorem join_tx (l : List Nat) : Txt.join (tx []) (l.map fun c => tx [c]) = tx l := tx_of (join_signs l)
/-- ''.join(signs) -/
theorem kJoin_chr {l : List Nat} {Q : D → Prop} (h : l.length ≤ 1000) (q : Q (.p (.str (tx l)))) : kJoin (tx []) (.nw (l.map chr1)) Q := by
  unfold kJoin
  show (match strsOf (l.map chr1) with | some ys => _ | _ => False)
  rw [strsOf_chr]
  refine ⟨?_, by rw [join_tx]; exact q⟩
  have e : ((l.map fun c => tx [c]).map (·.length)).sum = l.length := sum_signs l
  rw [e, List.length_map, tx_len]
  simp
  omega
theorem cl_mk {hs ls : List Nat} (h1 : hs.length ≤ 27) (h2 : ls.length ≤ 26) (h3 : ∀ c ∈ hs, c < 128) (h4 : ∀ c ∈ ls, c < 128) : Cl (tx hs) (tx ls) :=
  ⟨by rw [tx_len]; exact h1, by rw [tx_len]; exact h2, fun c hc => by rw [tx_list] at hc; exact h3 c hc, fun c hc => by rw [tx_list] at hc; exact h4 c hc⟩
end My
namespace My
open PySem PySem.Spec PyProof.Rows L2
variable [TB]
/-- the last item -/
theorem atI_neg1 {α : Type} (l : List α) (h : l ≠ []) : atI l (-1) = some (l.getLast h) := by
  have := atI_last l.dropLast (l.getLast h)
  rw [List.dropLast_concat_getLast] at this
  exact this
theorem isEmpty_ne {α : Type} {l : List α} (h : (!l.isEmpty) = true) : l ≠ [] := by
  cases l with
  | nil => simp at h
  | cons => simp
end My
namespace My
open PySem PySem.Spec PyProof.Rows L2
variable [TB]
/-- whether a symbol is in a class, over lists -/
def belL (b : Bool) (hs ls : List Nat) (q : Nat × Nat) : Bool := !(((decide (hs = []) || decide (q.1 ∈ hs)) && (decide (ls = []) || decide (q.2 ∈ ls))) == b)
theorem bel_tx (b : Bool) (hs ls : List Nat) (q : Nat × Nat) : bel b (tx hs) (tx ls) q.1 q.2 = belL b hs ls q := by
  unfold bel belL
  rw [tx_list, tx_list]
  have e1 : decide (V.str (tx hs) = V.str (Str.ofString "")) = decide (hs = []) := by
    rw [lit_e]
    exact decide_eq_decide.mpr ⟨fun h => by injection h with h; exact tx_inj.mp h, fun h => by rw [h]⟩
  have e2 : decide (V.str (tx ls) = V.str (Str.ofString "")) = decide (ls = []) := by
    rw [lit_e]
    exact decide_eq_decide.mpr ⟨fun h => by injection h with h; exact tx_inj.mp h, fun h => by rw [h]⟩
  rw [e1, e2]
  cases (decide (hs = []) || decide (q.1 ∈ hs)) && (decide (ls = []) || decide (q.2 ∈ ls)) <;> cases b <;> rfl
end My
namespace My
open PySem PySem.Spec PyProof.Rows L2
variable [TB]
abbrev natD (m : Nat) : PyData := .int (m : Nat)
/-- the union of what stands at the places of a mask -/
theorem masks_at {ms : List Nat} {i : Nat} {m : Nat} (h : ms[i]? = some m) : atI (ms.map natD) (i : Int) = some (natD m) := by
  rw [atI_cast, List.getElem?_map, h]
  rfl
theorem tru_ne {x : Nat} : ((x : Int) != 0) = true ↔ x ≠ 0 := by
  simp
end My
namespace My
open PySem PySem.Spec PyProof.Rows L2
variable [TB]
theorem map_inj {α β : Type} {f : α → β} (h : ∀ a b, f a = f b → a = b) : ∀ {l m : List α}, l.map f = m.map f → l = m
  | [], [], _ => rfl
  | [], _ :: _, e => by simp at e
  | _ :: _, [], e => by simp at e
  | a :: l, b :: m, e => by
    simp only [List.map_cons, List.cons.injEq] at e
    rw [h a b e.1, map_inj h e.2]
theorem natD_inj {a b : Nat} (h : natD a = natD b) : a = b := by
  injection h with h
  omega
theorem symD_inj {a b : Nat × Nat} (h : symD a = symD b) : a = b := by
  injection h with h
  have := tx_inj.mp h
  simp at this
  exact Prod.ext this.1 this.2
theorem maps_nat {l m : List Nat} : (l.map natD = m.map natD) = (l = m) := propext ⟨map_inj fun _ _ => natD_inj, fun h => by rw [h]⟩
theorem maps_sym {l m : List (Nat × Nat)} : (l.map symD = m.map symD) = (l = m) := propext ⟨map_inj fun _ _ => symD_inj, fun h => by rw [h]⟩
theorem cast_inj {a b : Nat} : ((a : Int) = (b : Int)) = (a = b) := propext ⟨fun h => by omega, fun h => by rw [h]⟩
/-- the union of the masks at the places of e -/
def UnB (e : Nat) (ms : List Nat) (r : Nat) : Prop := ∀ j, (r.testBit j = true ↔ ∃ m f, e.testBit m = true ∧ ms[m]? = some f ∧ f.testBit j = true)
def Wth (e n : Nat) : Prop := ∀ i, e.testBit i = true → i < n
end My
namespace My
open PySem PySem.Spec PyProof.Rows L2
variable [TB]
/-- what the masks of a relation join to -/
theorem UnB.then {R S : Nat → Nat → Prop} {n i e r : Nat} {ks : List Nat} (hk : Msk S n ks) (he : ∀ j, (e.testBit j = true ↔ R i j)) (hR : ∀ j, R i j → j ≤ n) (h : UnB e ks r) (j : Nat) : r.testBit j = true ↔ ∃ m, R i m ∧ S m j := by
  rw [h]
  constructor
  · rintro ⟨m, f, a, b, c⟩
    have hm := (he m).mp a
    obtain ⟨g, g1, g2⟩ := hk.2 m (hR m hm)
    rw [b] at g1
    cases g1
    exact ⟨m, hm, (g2 j).mp c⟩
  · rintro ⟨m, a, b⟩
    obtain ⟨g, g1, g2⟩ := hk.2 m (hR m a)
    exact ⟨m, g, (he m).mpr a, g1, (g2 j).mpr b⟩
theorem UnB.zero (ks : List Nat) : UnB 0 ks 0 := fun j => by
  rw [Nat.zero_testBit]
  refine ⟨fun h => (by cases h), ?_⟩
  rintro ⟨m, f, a, _⟩
  rw [Nat.zero_testBit] at a
  cases a
end My
namespace My
open PySem PySem.Spec PyProof.Rows L2
variable [TB]
theorem rngC_len (lo c : Int) (n : Nat) : (rngC lo c n).length = n := by simp [rngC]
theorem rngC_get {lo c : Int} {n i : Nat} {x : ItD} (h : (rngC lo c n)[i]? = some x) : i < n ∧ x = .one (.int (lo + (i : Nat) * c)) := by
  unfold rngC at h
  rw [List.getElem?_map] at h
  by_cases hi : i < n
  · rw [List.getElem?_range hi] at h
    exact ⟨hi, (Option.some.inj h).symm⟩
  · rw [List.getElem?_eq_none (by simpa using hi)] at h; cases h
end My
namespace My
open PySem PySem.Spec PyProof.Rows L2
variable [TB]
/-- whether, as a value -/
noncomputable def yn (P : Prop) : Bool := @decide P (Classical.propDecidable P)
theorem yn_iff {P : Prop} : yn P = true ↔ P := @decide_eq_true_iff P (Classical.propDecidable P)
/-- a row of a table of yes and no -/
noncomputable def rwD (P : Nat → Prop) (n : Nat) : List PyData := (List.range n).map fun j => .bool (yn (P j))
noncomputable def tbD (R : Nat → Nat → Prop) (n : Nat) : List PyData := (List.range n).map fun i => .list (rwD (R i) n)
theorem rwD_len {P : Nat → Prop} {n : Nat} : (rwD P n).length = n := by simp [rwD]
theorem tbD_len {R : Nat → Nat → Prop} {n : Nat} : (tbD R n).length = n := by simp [tbD]
theorem rwD_get {P : Nat → Prop} {n j : Nat} (h : j < n) : atI (rwD P n) (j : Int) = some (.bool (yn (P j))) := by
  rw [atI_cast, rwD, List.getElem?_map, List.getElem?_range h]
  rfl
theorem tbD_get {R : Nat → Nat → Prop} {n i : Nat} (h : i < n) : atI (tbD R n) (i : Int) = some (.list (rwD (R i) n)) := by
  rw [atI_cast, tbD, List.getElem?_map, List.getElem?_range h]
  rfl
theorem lcW_rng {el : ItD → (Option PyData → Prop) → Prop} {m : Nat} {Q : List PyData → Prop} (n : Nat) (f : Nat → PyData) (hm : m = n) (h : ∀ i, i < n → ∀ K : Option PyData → Prop, K (some (f i)) → el (.one (.int (i : Nat))) K) (hz : n ≤ sizeLine) (q : Q ((List.range n).map f)) : lcW el (rngD 0 m) [] Q := by
  subst hm
  refine lcW_inv (fun i acc => acc = (List.range i).map f) rfl (fun i x acc K hx ha _ hk => ?_) (by rw [rngD_len]; exact hz) (fun acc ha => ?_)
  · obtain ⟨hi, rfl⟩ := rngD_get hx
    rw [Int.zero_add]
    exact h i hi K (hk _ (by rw [ha, List.range_succ, List.map_append]; rfl))
  · rw [rngD_len] at ha
    rw [ha]; exact q
theorem lcW_row {el : ItD → (Option PyData → Prop) → Prop} {m : Nat} {Q : List PyData → Prop} (n : Nat) (P : Nat → Prop) (hm : m = n) (h : ∀ i, i < n → ∀ K : Option PyData → Prop, (∀ b : Bool, (b = true ↔ P i) → K (some (.bool b))) → el (.one (.int (i : Nat))) K) (hz : n ≤ sizeLine) (q : Q (rwD P n)) : lcW el (rngD 0 m) [] Q :=
  lcW_rng n (fun i => .bool (yn (P i))) hm (fun i hi K hk => h i hi K fun b hb => by
    have : b = yn (P i) := by
      exact Bool.eq_iff_iff.mpr (hb.trans yn_iff.symm)
    rw [this] at *
    exact hk) hz q
theorem rwD_congr {P S : Nat → Prop} {n : Nat} (h : ∀ e, e < n → (P e ↔ S e)) : rwD P n = rwD S n := by
  unfold rwD
  refine List.map_congr_left fun j hj => ?_
  have := h j (List.mem_range.mp hj)
  rw [show P j = S j from propext this]
theorem tbD_congr {R S : Nat → Nat → Prop} {n : Nat} (h : ∀ i j, i < n → j < n → (R i j ↔ S i j)) : tbD R n = tbD S n := by
  unfold tbD
  refine List.map_congr_left fun i hi => ?_
  rw [rwD_congr fun j hj => h i j (List.mem_range.mp hi) hj]
theorem tbD_of {R : Nat → Nat → Prop} {n : Nat} {ds : List PyData} (hl : ds.length = n) (h : ∀ k, k < n → ds[k]? = some (.list (rwD (R k) n))) : ds = tbD R n := by
  apply List.ext_getElem?
  intro k
  by_cases hk : k < n
  · rw [h k hk, tbD, List.getElem?_map, List.getElem?_range hk]; rfl
  · rw [List.getElem?_eq_none (by omega), List.getElem?_eq_none (by rw [tbD_len]; omega)]
end My
namespace My
open PySem PySem.Spec PyProof.Rows L2
variable [TB]
theorem lcW_tab {el : ItD → (Option PyData → Prop) → Prop} {m : Nat} {Q : List PyData → Prop} (n : Nat) (R : Nat → Nat → Prop) (hm : m = n) (h : ∀ i, i < n → ∀ K : Option PyData → Prop, K (some (.list (rwD (R i) n))) → el (.one (.int (i : Nat))) K) (hz : n ≤ sizeLine) (q : Q (tbD R n)) : lcW el (rngD 0 m) [] Q :=
  lcW_rng n (fun i => .list (rwD (R i) n)) hm h hz q
theorem rwD_zero {n : Nat} {P : Nat → Prop} (h : ∀ e, e < n → ¬ P e) : List.replicate n (PyData.bool false) = rwD P n := by
  apply List.ext_getElem?
  intro k
  by_cases hk : k < n
  · rw [List.getElem?_replicate, if_pos hk, rwD, List.getElem?_map, List.getElem?_range hk]
    show _ = some (PyData.bool (yn (P k)))
    rw [show yn (P k) = false from Bool.eq_false_iff.mpr fun z => h k hk (yn_iff.mp z)]
  · rw [List.getElem?_eq_none (by simpa using hk), List.getElem?_eq_none (by rw [rwD_len]; omega)]
theorem tbD_succ {R : Nat → Nat → Prop} {n : Nat} : ∀ i, (List.range (i + 1)).map (fun i => PyData.list (rwD (R i) n)) = (List.range i).map (fun i => PyData.list (rwD (R i) n)) ++ [.list (rwD (R i) n)] := fun i => by
  rw [List.range_succ, List.map_append]
  rfl
end My
namespace My
open PySem PySem.Spec PyProof.Rows L2
variable [TB]
/-- one pattern after the other -/
def jnP : List Pat → Pat
  | [] => .emp
  | [p] => p
  | p :: q :: ps => .bi "then" p (jnP (q :: ps))
theorem jnP_cons {p : Pat} {ps : List Pat} (h : ps ≠ []) : jnP (p :: ps) = .bi "then" p (jnP ps) := by
  cases ps with
  | nil => exact absurd rfl h
  | cons => rfl
theorem jnP_drop {ps : List Pat} {i : Nat} {p : Pat} (h : ps[i]? = some p) (hi : i + 1 < ps.length) : jnP (ps.drop i) = .bi "then" p (jnP (ps.drop (i + 1))) := by
  have h1 := (List.getElem?_eq_some_iff.mp h)
  rw [List.drop_eq_getElem_cons h1.1, jnP_cons (by intro z; have := congrArg List.length z; simp at this; omega), h1.2]
end My
namespace My
open PySem PySem.Spec PyProof.Rows L2
variable [TB]
theorem zipM_get {ms ks : List Nat} {i : Nat} {x : ItD} (h : (zipD (ms.map natD) (ks.map natD))[i]? = some x) : ∃ m k, ms[i]? = some m ∧ ks[i]? = some k ∧ x = .two (natD m) (natD k) := by
  obtain ⟨d, e, h1, h2, rfl⟩ := zipD_get h
  rw [List.getElem?_map] at h1 h2
  cases e1 : ms[i]? with
  | none => rw [e1] at h1; cases h1
  | some m =>
    cases e2 : ks[i]? with
    | none => rw [e2] at h2; cases h2
    | some k => rw [e1] at h1; rw [e2] at h2; cases h1; cases h2; exact ⟨m, k, rfl, rfl, rfl⟩
/-- masks made place by place -/
theorem lcW_zipM {el : ItD → (Option PyData → Prop) → Prop} {ms ks : List Nat} {Q : List PyData → Prop} {n : Nat} {R S T : Nat → Nat → Prop} (f : Nat → Nat → Nat) (hm : Msk R n ms) (hk : Msk S n ks) (hn : n ≤ 100)
    (h : ∀ m k, ∀ K : Option PyData → Prop, K (some (natD (f m k))) → el (.two (natD m) (natD k)) K) (hT : ∀ i j m k, i ≤ n → (m.testBit j = true ↔ R i j) → (k.testBit j = true ↔ S i j) → ((f m k).testBit j = true ↔ T i j)) (q : ∀ ns, Msk T n ns → Q (ns.map natD)) : lcW el (zipD (ms.map natD) (ks.map natD)) [] Q := by
  refine lcW_inv (fun i acc => ∃ ns, acc = ns.map natD ∧ Pre T i ns) ⟨[], rfl, Pre.nil⟩ ?_ (szl (by rw [zipD_len, List.length_map, List.length_map, hm.1, hk.1]; omega)) ?_
  · rintro i x acc K hx ⟨ns, rfl, hp⟩ _ hK
    obtain ⟨m, k, h1, h2, rfl⟩ := zipM_get hx
    have hi := (List.getElem?_eq_some_iff.mp h1).1
    rw [hm.1] at hi
    refine h m k K (hK _ ⟨ns ++ [f m k], by rw [List.map_append]; rfl, hp.snoc fun j => ?_⟩)
    obtain ⟨m', g1, g2⟩ := hm.2 i (by omega)
    obtain ⟨k', g3, g4⟩ := hk.2 i (by omega)
    rw [h1] at g1; cases g1
    rw [h2] at g3; cases g3
    exact hT i j m k (by omega) (g2 j) (g4 j)
  · rintro acc ⟨ns, rfl, hp⟩
    rw [zipD_len, List.length_map, List.length_map, hm.1, hk.1, Nat.min_self] at hp
    exact q ns hp.msk
end My
namespace My
open PySem PySem.Spec PyProof.Rows L2
variable [TB]
theorem cutD_9 (xs : List PyData) : cutD xs none (some (9 : Int)) = xs.take 9 := cutD_to xs 9
theorem cutD_1 (xs : List PyData) : cutD xs none (some (1 : Int)) = xs.take 1 := cutD_to xs 1
end My
namespace My
open PySem PySem.Spec PyProof.Rows L2
variable [TB]
theorem cutD_m1 (xs : List PyData) : cutD xs (some (-1)) none = xs.drop (xs.length - 1) := by
  unfold cutD
  rw [HT.sIx_none]
  have e : HT.sIx xs.length 0 (some (-1)) = xs.length - 1 := by
    simp only [HT.sIx]
    split <;> omega
  rw [e]
  exact List.take_of_length_le (by rw [List.length_drop]; exact Nat.le_refl _)
theorem repS (n : Nat) (rs : List (Nat × Nat)) : (List.replicate n (rs.map symD)).flatten = ((List.replicate n rs).flatten).map symD := by
  rw [List.map_flatten, List.map_replicate]
theorem anyT {α : Type} (f : α → Bool) (l : List α) : ((l.map fun q => PyData.bool (f q)).any fun z => PyData.eqv z (.bool true)) = l.any f := by
  induction l with
  | nil => rfl
  | cons a l ih => rw [List.map_cons, List.any_cons, List.any_cons, ih, eqv_bb]; cases f a <;> rfl
theorem anyF {α : Type} (f : α → Bool) (l : List α) : ((l.map fun q => PyData.bool (f q)).any fun z => PyData.eqv z (.bool false)) = l.any fun q => !f q := by
  induction l with
  | nil => rfl
  | cons a l ih => rw [List.map_cons, List.any_cons, List.any_cons, ih, eqv_bb]; cases f a <;> rfl
theorem inOk_b {α : Type} {c : Bool} {y : D} (f : α → Bool) (l : List α) : inOk (.p (.bool c)) y (.bool c) (l.map fun q => PyData.bool (f q)) := by
  refine .inl ⟨rfl, rfl, ?_⟩
  rw [List.all_eq_true]
  intro x hx
  obtain ⟨q, _, rfl⟩ := List.mem_map.mp hx
  rfl
/-- every sign -/
abbrev anyP : Pat := .cls false (tx []) (tx [])
abbrev evrP : Pat := .un "star" anyP
theorem rel_any {qs : List (Nat × Nat)} {i j : Nat} : rel qs anyP i j ↔ j = i + 1 ∧ j ≤ qs.length := by
  constructor
  · rintro ⟨h, q, hq, _⟩
    have := (List.getElem?_eq_some_iff.mp hq).1
    omega
  · rintro ⟨h, hj⟩
    exact ⟨h, _, get_lt (by omega), by rw [bel_tx]; rfl⟩
theorem rel_star {qs : List (Nat × Nat)} {p : Pat} {i j : Nat} : rel qs (.un "star" p) i j ↔ Clo (rel qs p) qs.length i j := by
  simp only [rel, show (("star" : Str) = "not") = False from eq_false (by decide), if_false]
theorem rel_then {qs : List (Nat × Nat)} {p r : Pat} {i j : Nat} : rel qs (.bi "then" p r) i j ↔ ∃ m, rel qs p i m ∧ rel qs r m j := by
  simp only [rel, if_true]
theorem rel_not {qs : List (Nat × Nat)} {p : Pat} {i j : Nat} : rel qs (.un "not" p) i j ↔ i ≤ j ∧ j ≤ qs.length ∧ ¬ rel qs p i j := by
  simp only [rel, if_true]
/-- steps of one length -/
theorem clo_step_k {n k : Nat} (hk : 1 ≤ k) : ∀ (d i : Nat), Clo (fun i j => j = i + k ∧ j ≤ n) n i (i + d) ↔ i + d ≤ n ∧ d % k = 0 := by
  intro d
  induction d using Nat.strongRecOn with
  | ind d ih =>
    intro i
    rw [Clo.iff]
    constructor
    · rintro (⟨h1, h2⟩ | ⟨m, ⟨rfl, h1⟩, h2, h3⟩)
      · obtain rfl : d = 0 := by omega
        exact ⟨h2, Nat.zero_mod _⟩
      · have hb := h3.bound
        have hd : i + d = (i + k) + (d - k) := by omega
        rw [hd] at h3
        have := (ih (d - k) (by omega) (i + k)).mp h3
        refine ⟨by omega, ?_⟩
        rw [Nat.mod_eq_sub_mod (by omega)]
        exact this.2
    · rintro ⟨h1, h2⟩
      by_cases h0 : d = 0
      · exact .inl ⟨by omega, h1⟩
      · have hkd : k ≤ d := by
          apply Nat.le_of_not_lt
          intro h
          rw [Nat.mod_eq_of_lt h] at h2
          omega
        refine .inr ⟨i + k, ⟨rfl, by omega⟩, by omega, ?_⟩
        have hd : i + d = (i + k) + (d - k) := by omega
        rw [hd]
        exact (ih (d - k) (by omega) (i + k)).mpr ⟨by omega, by rw [← Nat.mod_eq_sub_mod hkd]; exact h2⟩
theorem Clo.congr {R S : Nat → Nat → Prop} {n : Nat} (h : ∀ i j, R i j ↔ S i j) {i j : Nat} : Clo R n i j ↔ Clo S n i j := by
  rw [show R = S from funext fun i => funext fun j => propext (h i j)]
theorem rel_evr {qs : List (Nat × Nat)} {i j : Nat} : rel qs evrP i j ↔ i ≤ j ∧ j ≤ qs.length := by
  rw [rel_star, Clo.congr fun i j => rel_any]
  constructor
  · intro h; exact h.bound
  · rintro ⟨h1, h2⟩
    have := (clo_step_k (n := qs.length) (k := 1) (Nat.le_refl _) (j - i) i).mpr ⟨by omega, Nat.mod_one _⟩
    rwa [show i + (j - i) = j by omega] at this
theorem rel_jn {qs : List (Nat × Nat)} : ∀ (k : Nat) {i j : Nat}, rel qs (jnP (List.replicate (k + 1) anyP)) i j ↔ j = i + (k + 1) ∧ j ≤ qs.length
  | 0, i, j => rel_any
  | k + 1, i, j => by
    rw [List.replicate_succ, jnP_cons (by simp), rel_then]
    constructor
    · rintro ⟨m, h1, h2⟩
      have h1 := rel_any.mp h1
      have h2 := (rel_jn k).mp h2
      omega
    · rintro ⟨h1, h2⟩
      exact ⟨i + 1, rel_any.mpr ⟨rfl, by omega⟩, (rel_jn k).mpr ⟨by omega, h2⟩⟩
theorem rel_figure {qs : List (Nat × Nat)} {k : Nat} : rel qs (.un "star" (jnP (List.replicate (k + 1) anyP))) 0 qs.length ↔ qs.length % (k + 1) = 0 := by
  rw [rel_star, Clo.congr fun i j => rel_jn k]
  have := clo_step_k (n := qs.length) (k := k + 1) (by omega) qs.length 0
  rw [Nat.zero_add] at this
  rw [this]
  simp
theorem jn_n : ∀ (k : Nat), (jnP (List.replicate (k + 1) anyP)).n = 2 * k + 1 ∧ (jnP (List.replicate (k + 1) anyP)).Ok
  | 0 => ⟨rfl, cl_mk (by decide) (by decide) (by simp) (by simp)⟩
  | k + 1 => by
    rw [List.replicate_succ, jnP_cons (by simp)]
    have := jn_n k
    refine ⟨by simp only [Pat.n]; omega, .inl rfl, cl_mk (by decide) (by decide) (by simp) (by simp), this.2⟩
theorem rel_cls {qs : List (Nat × Nat)} {b : Bool} {hs ls : List Nat} {i j : Nat} : rel qs (.cls b (tx hs) (tx ls)) i j ↔ j = i + 1 ∧ ∃ q, qs[i]? = some q ∧ belL b hs ls q = true := by
  simp only [rel, bel_tx]
theorem rel_all {qs : List (Nat × Nat)} {b : Bool} {hs ls : List Nat} : rel qs (.un "star" (.cls b (tx hs) (tx ls))) 0 qs.length ↔ (!(qs.any fun q => !belL b hs ls q)) = true := by
  have key : ∀ d i, i + d = qs.length → (Clo (rel qs (.cls b (tx hs) (tx ls))) qs.length i qs.length ↔ ∀ q ∈ qs.drop i, belL b hs ls q = true) := by
    intro d
    induction d with
    | zero =>
      intro i hi
      rw [List.drop_eq_nil_of_le (by omega)]
      exact ⟨fun _ q hq => (by cases hq), fun _ => by rw [show i = qs.length by omega]; exact .nil (Nat.le_refl _)⟩
    | succ d ih =>
      intro i hi
      have hlt : i < qs.length := by omega
      rw [Clo.iff, List.drop_eq_getElem_cons hlt]
      constructor
      · rintro (⟨h, _⟩ | ⟨k, h1, _, h3⟩)
        · omega
        · obtain ⟨rfl, q, hq, hb⟩ := rel_cls.mp h1
          intro y hy
          rw [get_lt hlt] at hq
          cases hq
          rcases List.mem_cons.mp hy with rfl | hy
          · exact hb
          · exact (ih (i + 1) (by omega)).mp h3 y hy
      · intro h
        exact .inr ⟨i + 1, rel_cls.mpr ⟨rfl, _, get_lt hlt, h _ (List.mem_cons_self ..)⟩, by omega, (ih (i + 1) (by omega)).mpr fun y hy => h y (List.mem_cons_of_mem _ hy)⟩
  rw [rel_star, key qs.length 0 (by omega), List.drop_zero, Bool.not_eq_true', List.any_eq_false]
  simp
theorem rel_some {qs : List (Nat × Nat)} {b : Bool} {hs ls : List Nat} : rel qs (.bi "then" evrP (.bi "then" (.cls b (tx hs) (tx ls)) evrP)) 0 qs.length ↔ (qs.any (belL b hs ls)) = true := by
  rw [rel_then, List.any_eq_true]
  constructor
  · rintro ⟨m, _, h⟩
    obtain ⟨k, h1, _⟩ := rel_then.mp h
    obtain ⟨_, q, hq, hb⟩ := rel_cls.mp h1
    exact ⟨q, List.mem_of_getElem? hq, hb⟩
  · rintro ⟨q, hq, hb⟩
    obtain ⟨i, hi, e⟩ := List.getElem_of_mem hq
    exact ⟨i, rel_evr.mpr ⟨Nat.zero_le _, by omega⟩, rel_then.mpr ⟨i + 1, rel_cls.mpr ⟨rfl, q, by rw [get_lt hi, e], hb⟩, rel_evr.mpr ⟨by omega, Nat.le_refl _⟩⟩⟩
theorem rel_first {qs : List (Nat × Nat)} {b : Bool} {hs ls : List Nat} : rel qs (.bi "then" (.cls b (tx hs) (tx ls)) evrP) 0 qs.length ↔ ((qs.take 1).any (belL b hs ls)) = true := by
  rw [rel_then]
  cases qs with
  | nil =>
    refine ⟨?_, fun h => by simp at h⟩
    rintro ⟨m, h1, _⟩
    obtain ⟨_, q, hq, _⟩ := rel_cls.mp h1
    cases hq
  | cons a qs =>
    simp only [List.take_succ_cons, List.take_zero, List.any_cons, List.any_nil, Bool.or_false]
    constructor
    · rintro ⟨m, h1, _⟩
      obtain ⟨_, q, hq, hb⟩ := rel_cls.mp h1
      cases hq
      exact hb
    · intro h
      exact ⟨1, rel_cls.mpr ⟨rfl, a, rfl, h⟩, rel_evr.mpr ⟨by simp, Nat.le_refl _⟩⟩
theorem rel_last {qs : List (Nat × Nat)} {b : Bool} {hs ls : List Nat} : rel qs (.bi "then" evrP (.cls b (tx hs) (tx ls))) 0 qs.length ↔ ((qs.drop (qs.length - 1)).any (belL b hs ls)) = true := by
  rw [rel_then]
  by_cases h0 : qs = []
  · subst h0
    refine ⟨?_, fun h => by simp at h⟩
    rintro ⟨m, _, h1⟩
    obtain ⟨_, q, hq, _⟩ := rel_cls.mp h1
    simp at hq
  · have hl : 0 < qs.length := List.length_pos_iff.mpr h0
    have e : qs.drop (qs.length - 1) = [qs[qs.length - 1]'(by omega)] := by
      rw [List.drop_eq_getElem_cons (by omega), List.drop_eq_nil_of_le (by omega)]
    rw [e]
    simp only [List.any_cons, List.any_nil, Bool.or_false]
    constructor
    · rintro ⟨m, _, h1⟩
      obtain ⟨hm, q, hq, hb⟩ := rel_cls.mp h1
      obtain rfl : m = qs.length - 1 := by omega
      rw [get_lt (by omega)] at hq
      cases hq
      exact hb
    · intro h
      exact ⟨qs.length - 1, rel_evr.mpr ⟨Nat.zero_le _, by omega⟩, rel_cls.mpr ⟨by omega, _, get_lt (by omega), h⟩⟩
end My
namespace My
open PySem PySem.Spec PyProof.Rows L2
variable [TB]
theorem lcW_of {α : Type} {el : ItD → (Option PyData → Prop) → Prop} {Q : List PyData → Prop} {l : List α} {g : α → PyData} (f : α → PyData) (h : ∀ a ∈ l, ∀ K : Option PyData → Prop, K (some (f a)) → el (.one (g a)) K) (hz : l.length ≤ sizeLine) (q : Q (l.map f)) : lcW el ((l.map g).map ItD.one) [] Q := by
  refine lcW_inv (fun i acc => acc = (l.take i).map f) (by simp) (fun i x acc K hx ha _ hk => ?_) (by simpa using hz) (fun acc ha => ?_)
  · rw [List.map_map, List.getElem?_map] at hx
    cases e : l[i]? with
    | none => rw [e] at hx; cases hx
    | some a =>
      rw [e] at hx
      cases hx
      have hi := (List.getElem?_eq_some_iff.mp e)
      refine h a (List.mem_of_getElem? e) K (hk _ ?_)
      rw [ha, List.take_succ_eq_append_getElem hi.1, List.map_append, hi.2]
      rfl
  · rw [List.length_map, List.length_map, List.take_length] at ha
    rw [ha]; exact q
end My
namespace My
open PySem PySem.Spec PyProof.Rows L2
variable [TB]
theorem repOk_b (c : Bool) : repOk (.bool c) := by cases c <;> exact ⟨rfl, rfl, by decide +kernel, by decide +kernel⟩
end My
namespace My
open PySem PySem.Spec PyProof.Rows L2
variable [TB]
/-! ### rules -/
structure Rl where
  b : Pat
  c : Bool
  hs : List Nat
  ls : List Nat
  a : Pat
  o : List Nat
def Rl.d (r : Rl) : PyData := .tuple [r.b.d, clsD r.c (tx r.hs) (tx r.ls), r.a.d, .str (tx r.o)]
def Rl.Ok (r : Rl) (m : Nat) : Prop := (r.b.Ok ∧ r.b.n ≤ 18) ∧ (r.a.Ok ∧ r.a.n ≤ 18) ∧ Cl (tx r.hs) (tx r.ls) ∧ r.o.length ≤ m ∧ m ≤ 3 ∧ ∀ c ∈ r.o, c < 128
/-- a stage: few rules -/
def Stg (st : List Rl) (m : Nat) : Prop := st ≠ [] ∧ st.length ≤ 3 ∧ ∀ r ∈ st, r.Ok m
def stgD (st : List Rl) : PyData := .tuple (st.map Rl.d)
def Rl.app (r : Rl) (qs : List (Nat × Nat)) (k : Nat) : Prop := rel qs r.b 0 k ∧ (∃ q, qs[k]? = some q ∧ belL r.c r.hs r.ls q = true) ∧ rel qs r.a (k + 1) qs.length
noncomputable def fstR (st : List Rl) (qs : List (Nat × Nat)) (k : Nat) : Option Nat := st.findIdx? fun r => yn (r.app qs k)
noncomputable def fstL (st : List Rl) (qs : List (Nat × Nat)) : List (Option Nat) := (List.range qs.length).map (fstR st qs)
def optD : Option Nat → PyData
  | none => .none
  | some n => natD n
def outq (o : List Nat) (q : Nat × Nat) : List (Nat × Nat) := o.map fun c => if c = 36 then q else (64, c)
def outAt (st : List Rl) (q : Nat × Nat) : Option Nat → List (Nat × Nat)
  | none => []
  | some i => match st[i]? with
    | some r => outq r.o q
    | none => []
def putK (st : List Rl) (qs : List (Nat × Nat)) (fs : List (Option Nat)) (k : Nat) : List ((Nat × Nat) × Nat) := (outAt st (qs.getD k (0, 0)) (fs.getD k none)).map fun s => (s, k)
def putL (st : List Rl) (qs : List (Nat × Nat)) (fs : List (Option Nat)) : List ((Nat × Nat) × Nat) := (List.range fs.length).flatMap (putK st qs fs)
def prD (p : (Nat × Nat) × Nat) : PyData := .tuple [symD p.1, natD p.2]
theorem evr_ok : evrP.Ok := ⟨.inl rfl, cl_mk (by decide) (by decide) (by simp) (by simp)⟩
theorem any_ok : anyP.Ok := cl_mk (by decide) (by decide) (by simp) (by simp)
theorem any_d : (PyData.tuple [.str "class", .bool false, .str "", .str ""]) = anyP.d := by rw [lit_e]; rfl
theorem evr_d : (PyData.tuple [.str "star", .tuple [.str "class", .bool false, .str "", .str ""]]) = evrP.d := by rw [lit_e]; rfl
theorem lit_ed : ("$" : Str) = tx [36] := by decide +kernel
end My
namespace My
open PySem PySem.Spec PyProof.Rows L2
variable [TB]
theorem cutS_tx (l : List Nat) (lo hi : Option Int) : cutS (tx l) lo hi = tx ((l.drop (HT.sIx l.length 0 lo)).take (HT.sIx l.length l.length hi - HT.sIx l.length 0 lo)) := by
  unfold cutS
  rw [tx_list, tx_len]
  rfl
theorem cutS_to (o : List Nat) (m : Nat) : cutS (tx o) none (some (m : Int)) = tx (o.take m) := by
  rw [cutS_tx, HT.sIx_none, show HT.sIx o.length o.length (some (m : Int)) = min m o.length from HT.sIx_nat o.length o.length m, List.drop_zero, Nat.sub_zero]
  by_cases h : m ≤ o.length
  · rw [Nat.min_eq_left h]
  · rw [Nat.min_eq_right (by omega), List.take_of_length_le (Nat.le_refl _), List.take_of_length_le (by omega)]
theorem cutS_from (o : List Nat) (n : Nat) : cutS (tx o) (some (n : Int)) none = tx (o.drop n) := by
  rw [cutS_tx, show HT.sIx o.length 0 (some (n : Int)) = min n o.length from HT.sIx_nat o.length 0 n, HT.sIx_none]
  by_cases h : n ≤ o.length
  · rw [Nat.min_eq_left h, List.take_of_length_le (by rw [List.length_drop]; exact Nat.le_refl _)]
  · rw [Nat.min_eq_right (by omega), Nat.sub_self, List.take_zero, List.drop_eq_nil_of_le (by omega)]
end My
namespace My
open PySem PySem.Spec PyProof.Rows L2
variable [TB]
theorem rel_fig {qs : List (Nat × Nat)} {k i j : Nat} : rel qs (.un "star" (jnP (List.replicate (k + 1) anyP))) i j ↔ i ≤ j ∧ j ≤ qs.length ∧ (j - i) % (k + 1) = 0 := by
  rw [rel_star, Clo.congr fun i j => rel_jn k]
  constructor
  · intro h
    have hb := h.bound
    have := (clo_step_k (n := qs.length) (k := k + 1) (by omega) (j - i) i).mp (by rw [show i + (j - i) = j by omega]; exact h)
    exact ⟨hb.1, hb.2, this.2⟩
  · rintro ⟨h1, h2, h3⟩
    have := (clo_step_k (n := qs.length) (k := k + 1) (by omega) (j - i) i).mpr ⟨by omega, h3⟩
    rwa [show i + (j - i) = j by omega] at this
/-- the rule of a figure -/
def figP (k : Nat) : Pat := .un "star" (jnP (List.replicate (k + 1) anyP))
theorem fig_ok (k : Nat) (h : k ≤ 7) : (figP k).Ok ∧ (figP k).n ≤ 18 := by
  have := jn_n k
  refine ⟨⟨.inl rfl, this.2⟩, ?_⟩
  show (jnP (List.replicate (k + 1) anyP)).n + 1 ≤ 18
  omega
theorem evr_n : evrP.n ≤ 18 := by decide
def figR (v k : Nat) (c : Bool) (hs ls : List Nat) : Rl := if v = 0 then ⟨figP k, c, hs, ls, evrP, [36]⟩ else ⟨evrP, c, hs, ls, figP k, [36]⟩
theorem figR_ok (v k : Nat) (c : Bool) (hs ls : List Nat) (hk : k ≤ 7) (hc : Cl (tx hs) (tx ls)) : (figR v k c hs ls).Ok 1 ∧ (figR v k c hs ls).o = [36] := by
  unfold figR
  split
  · exact ⟨⟨fig_ok k hk, ⟨evr_ok, evr_n⟩, hc, Nat.le_refl _, by decide, by simp⟩, rfl⟩
  · exact ⟨⟨⟨evr_ok, evr_n⟩, fig_ok k hk, hc, Nat.le_refl _, by decide, by simp⟩, rfl⟩
theorem figR_app {v k : Nat} {c : Bool} {hs ls : List Nat} {qs : List (Nat × Nat)} {i : Nat} {q : Nat × Nat} (hq : qs[i]? = some q) : (figR v k c hs ls).app qs i ↔ (if v = 0 then i else qs.length - 1 - i) % (k + 1) = 0 ∧ belL c hs ls q = true := by
  have hi := (List.getElem?_eq_some_iff.mp hq).1
  unfold figR Rl.app
  split
  · simp only [rel_evr]
    rw [show figP k = .un "star" (jnP (List.replicate (k + 1) anyP)) from rfl, rel_fig]
    constructor
    · rintro ⟨⟨_, _, h⟩, ⟨q', h1, h2⟩, _⟩
      rw [hq] at h1; cases h1
      exact ⟨h, h2⟩
    · rintro ⟨h1, h2⟩
      exact ⟨⟨by omega, by omega, h1⟩, ⟨q, hq, h2⟩, by omega, Nat.le_refl _⟩
  · simp only [rel_evr]
    rw [show figP k = .un "star" (jnP (List.replicate (k + 1) anyP)) from rfl, rel_fig, show qs.length - (i + 1) = qs.length - 1 - i by omega]
    constructor
    · rintro ⟨_, ⟨q', h1, h2⟩, _, _, h⟩
      rw [hq] at h1; cases h1
      exact ⟨h, h2⟩
    · rintro ⟨h1, h2⟩
      exact ⟨⟨by omega, by omega⟩, ⟨q, hq, h2⟩, by omega, Nat.le_refl _, h1⟩
theorem filter_snoc {p : Nat → Bool} (i : Nat) : (List.range (i + 1)).filter p = (List.range i).filter p ++ (if p i = true then [i] else []) := by
  rw [List.range_succ, List.filter_append]
  by_cases h : p i = true
  · simp [h]
  · simp [h]
theorem filter_le (p : Nat → Bool) (i : Nat) : ((List.range i).filter p).length ≤ i := by
  have := List.length_filter_le p (List.range i)
  rwa [List.length_range] at this
end My
namespace My
open PySem PySem.Spec PyProof.Rows L2
variable [TB]
theorem chD_map (l : List Nat) : chD (tx l) = (l.map chr1).map ItD.one := chD_tx l
theorem outq_d (o : List Nat) (q : Nat × Nat) : (outq o q).map symD = o.map fun c => symD (if c = 36 then q else (64, c)) := by
  unfold outq
  rw [List.map_map]
  rfl
end My
namespace My
open PySem PySem.Spec PyProof.Rows L2
variable [TB]
theorem outAt_len {st : List Rl} {m : Nat} (h : ∀ r ∈ st, r.Ok m) (q : Nat × Nat) (f : Option Nat) : (outAt st q f).length ≤ m := by
  unfold outAt
  split
  · exact Nat.zero_le _
  · split
    · rename_i i r hr
      have := (h r (List.mem_of_getElem? hr)).2.2.2.1
      unfold outq
      rw [List.length_map]
      exact this
    · exact Nat.zero_le _
theorem putK_len {st : List Rl} {m : Nat} (h : ∀ r ∈ st, r.Ok m) (qs : List (Nat × Nat)) (fs : List (Option Nat)) (k : Nat) : (putK st qs fs k).length ≤ m := by
  unfold putK
  rw [List.length_map]
  exact outAt_len h _ _
theorem putN_len {st : List Rl} {m : Nat} (h : ∀ r ∈ st, r.Ok m) (qs : List (Nat × Nat)) (fs : List (Option Nat)) : ∀ i : Nat, ((List.range i).flatMap (putK st qs fs)).length ≤ m * i
  | 0 => by simp
  | i + 1 => by
    rw [List.range_succ, List.flatMap_append, List.length_append, Nat.mul_succ]
    have := putN_len h qs fs i
    have := putK_len h qs fs i
    simp only [List.flatMap_cons, List.flatMap_nil, List.append_nil]
    omega
theorem putN_succ (st : List Rl) (qs : List (Nat × Nat)) (fs : List (Option Nat)) (i : Nat) : (List.range (i + 1)).flatMap (putK st qs fs) = (List.range i).flatMap (putK st qs fs) ++ putK st qs fs i := by
  rw [List.range_succ, List.flatMap_append]
  simp
theorem getD_at {α : Type} {l : List α} {i : Nat} {x d : α} (h : l[i]? = some x) : l.getD i d = x := by
  rw [List.getD_eq_getElem?_getD, h]
  rfl
theorem Rl.d_eq (r : Rl) : r.d = .tuple [r.b.d, clsD r.c (tx r.hs) (tx r.ls), r.a.d, .str (tx r.o)] := rfl
theorem map_get {α : Type} {f : α → PyData} {l : List α} {i : Nat} {x : α} (h : l[i]? = some x) : atI (l.map f) (i : Int) = some (f x) := by
  rw [atI_cast, List.getElem?_map, h]
  rfl
end My
namespace My
open PySem PySem.Spec PyProof.Rows L2
variable [TB]
theorem rwD_succ (P : Nat → Prop) (n : Nat) : rwD P (n + 1) = rwD P n ++ [.bool (yn (P n))] := by
  unfold rwD
  rw [List.range_succ, List.map_append]
  rfl
end My
namespace My
open PySem PySem.Spec PyProof.Rows L2
variable [TB]
noncomputable def fstN (st : List Rl) (qs : List (Nat × Nat)) (i k : Nat) : Option Nat := (st.take i).findIdx? fun r => yn (r.app qs k)
theorem fstN_succ {st : List Rl} {qs : List (Nat × Nat)} {i k : Nat} {r : Rl} (h : st[i]? = some r) : fstN st qs (i + 1) k = match fstN st qs i k with | some j => some j | none => if yn (r.app qs k) = true then some i else none := by
  have hi := (List.getElem?_eq_some_iff.mp h)
  unfold fstN
  rw [List.take_succ_eq_append_getElem hi.1, hi.2, List.findIdx?_append, List.length_take, Nat.min_eq_left (Nat.le_of_lt hi.1)]
  cases e : (st.take i).findIdx? fun r => yn (r.app qs k) with
  | some j => rfl
  | none =>
    rw [Option.none_or, List.findIdx?_cons]
    by_cases hb : yn (r.app qs k) = true
    · rw [if_pos hb, if_pos hb]; simp
    · rw [if_neg hb, if_neg hb]; simp
theorem fstN_all {st : List Rl} {qs : List (Nat × Nat)} {k : Nat} : fstN st qs st.length k = fstR st qs k := by
  unfold fstN fstR
  rw [List.take_length]
theorem fstR_lt {st : List Rl} {qs : List (Nat × Nat)} {k i : Nat} (h : fstR st qs k = some i) : i < st.length := by
  unfold fstR at h
  exact (List.findIdx?_eq_some_iff_getElem.mp h).1
theorem fstL_get {st : List Rl} {qs : List (Nat × Nat)} {k : Nat} (h : k < qs.length) : (fstL st qs)[k]? = some (fstR st qs k) := by
  unfold fstL
  rw [List.getElem?_map, List.getElem?_range h]
  rfl
theorem fstL_len {st : List Rl} {qs : List (Nat × Nat)} : (fstL st qs).length = qs.length := by simp [fstL]
theorem fstL_lt {st : List Rl} {qs : List (Nat × Nat)} {k i : Nat} (h : (fstL st qs)[k]? = some (some i)) : i < st.length := by
  have hk := (List.getElem?_eq_some_iff.mp h).1
  rw [fstL_len] at hk
  rw [fstL_get hk] at h
  exact fstR_lt (Option.some.inj h)
theorem fstL_of {st : List Rl} {qs : List (Nat × Nat)} {ds : List PyData} (hl : ds.length = qs.length) (h : ∀ k, k < qs.length → ds[k]? = some (optD (fstR st qs k))) : ds = (fstL st qs).map optD := by
  apply List.ext_getElem?
  intro k
  by_cases hk : k < qs.length
  · rw [h k hk, List.getElem?_map, fstL_get hk]; rfl
  · rw [List.getElem?_eq_none (by omega), List.getElem?_eq_none (by rw [List.length_map, fstL_len]; omega)]
end My
namespace My
open PySem PySem.Spec PyProof.Rows L2
variable [TB]
def Sm (q : Nat × Nat) : Prop := q.1 < 128 ∧ q.2 < 128
theorem Sy.sm {q : Nat × Nat} (h : Sy q) : Sm q := by
  rcases h with ⟨h1 | h1, h2⟩ <;> constructor <;> omega
theorem repOk_of {d : PyData} {dp bk : Nat} (h : Sh d dp bk) (h1 : dp ≤ 40 := by decide) (h2 : bk ≤ 1000000 := by omega) : repOk d := ⟨h.s, h.n, Nat.le_trans h.p h1, h.fits h2⟩
theorem sh_sym {q : Nat × Nat} (h : Sm q) : Sh (symD q) 0 2 := by
  have : Sg (syp q) := by
    intro c hc
    rw [syp_tx, tx_list] at hc
    simp only [List.mem_cons, List.not_mem_nil, or_false] at hc
    rcases hc with rfl | rfl
    · exact h.1
    · exact h.2
  exact Sh.str this
theorem sh_nat {k : Nat} (h : k ≤ 100000) : Sh (natD k) 0 0 := Sh.int (by show (k : Int).natAbs < 10 ^ 12; omega)
theorem sh_pr {p : (Nat × Nat) × Nat} (h : Sm p.1) (hk : p.2 ≤ 100000) : Sh (prD p) 1 6 := by
  refine Sh.tup (bk := 2) fun d hd => ?_
  simp only [List.mem_cons, List.not_mem_nil, or_false] at hd
  rcases hd with rfl | rfl
  · exact sh_sym h
  · exact (sh_nat hk).mono (Nat.le_refl _) (by decide)
theorem sh_prs {l : List ((Nat × Nat) × Nat)} (h : ∀ p ∈ l, Sm p.1 ∧ p.2 ≤ 100000) : Sh (.tuple (l.map prD)) 2 (l.length * 7) := by
  have := Sh.tup (dp := 1) (bk := 6) (ds := l.map prD) fun d hd => by
    obtain ⟨p, hp, rfl⟩ := List.mem_map.mp hd
    exact sh_pr (h p hp).1 (h p hp).2
  rwa [List.length_map] at this
theorem flatMap_if {α β : Type} (p : α → Bool) (g : α → β) : ∀ l : List α, (l.flatMap fun k => if p k = true then [g k] else []) = (l.filter p).map g
  | [] => rfl
  | a :: l => by
    rw [List.flatMap_cons, flatMap_if p g l, List.filter_cons]
    by_cases h : p a = true
    · rw [if_pos h, if_pos h]; rfl
    · rw [if_neg h, if_neg h]; rfl
theorem flatMap_eq {α β : Type} {f g : α → List β} {l : List α} (h : ∀ a ∈ l, f a = g a) : l.flatMap f = l.flatMap g := by rw [List.flatMap_def, List.flatMap_def, List.map_congr_left h]
theorem put_one {r : Rl} (h : r.o = [36]) (qs : List (Nat × Nat)) : putL [r] qs (fstL [r] qs) = ((List.range qs.length).filter fun k => yn (r.app qs k)).map fun k => (qs.getD k (0, 0), k) := by
  unfold putL
  rw [fstL_len, ← flatMap_if]
  refine flatMap_eq fun k hk => ?_
  have hk := List.mem_range.mp hk
  unfold putK
  rw [getD_at (fstL_get hk)]
  unfold fstR
  rw [List.findIdx?_cons]
  by_cases hb : yn (r.app qs k) = true
  · rw [if_pos hb, if_pos hb]
    simp [outAt, outq, h]
  · rw [if_neg hb, if_neg hb]
    simp [outAt]
theorem outAt_sm {st : List Rl} {m : Nat} (h : ∀ r ∈ st, r.Ok m) {q : Nat × Nat} (hq : Sm q) (f : Option Nat) : ∀ s ∈ outAt st q f, Sm s := by
  unfold outAt
  split
  · intro s hs; cases hs
  · split
    · rename_i i r hr
      intro s hs
      obtain ⟨c, hc, rfl⟩ := List.mem_map.mp hs
      have := (h r (List.mem_of_getElem? hr)).2.2.2.2.2 c hc
      split
      · exact hq
      · exact ⟨by show 64 < 128; decide, this⟩
    · intro s hs; cases hs
theorem putL_sm {st : List Rl} {m : Nat} (h : ∀ r ∈ st, r.Ok m) {qs : List (Nat × Nat)} (hq : ∀ q ∈ qs, Sm q) (fs : List (Option Nat)) : ∀ p ∈ putL st qs fs, Sm p.1 ∧ p.2 < fs.length := by
  intro p hp
  obtain ⟨k, hk, hp⟩ := List.mem_flatMap.mp hp
  obtain ⟨s, hs, rfl⟩ := List.mem_map.mp hp
  refine ⟨outAt_sm h ?_ _ s hs, List.mem_range.mp hk⟩
  rw [List.getD_eq_getElem?_getD]
  cases e : qs[k]? with
  | none => exact ⟨by decide, by decide⟩
  | some q => exact hq q (List.mem_of_getElem? e)
theorem putL_len {st : List Rl} {m : Nat} (h : ∀ r ∈ st, r.Ok m) (qs : List (Nat × Nat)) (fs : List (Option Nat)) : (putL st qs fs).length ≤ m * fs.length := putN_len h qs fs fs.length
end My
namespace My
open PySem PySem.Spec PyProof.Rows L2
variable [TB]
theorem sym_all {y z : List Nat} (hy : Let y) (hz : Own z) : ∀ q ∈ prs (64 :: z) y, Sy q := fun q hq => by
  obtain ⟨h1, h2⟩ := mem_prs.mp hq
  refine ⟨?_, hy.sy _ h2⟩
  rcases List.mem_cons.mp h1 with h | h
  · exact .inl h
  · exact .inr (hz.sy _ h)
theorem prs_ne {y z : List Nat} (hy : Let y) : prs (64 :: z) y ≠ [] := by
  intro h
  have h := congrArg List.length h
  rw [prs_len, List.length_cons, List.length_nil] at h
  have := hy.2.1
  have := Nat.mul_pos (Nat.succ_pos z.length) this
  rw [Nat.succ_eq_add_one] at this
  omega
end My
namespace My
open PySem PySem.Spec PyProof.Rows L2
variable [TB]
theorem forW_cons {g : TGD} {tb : TSD} {Dd : EndsD} {x : ItD} {xs : List ItD} {ρ : Ro} : forW g tb Dd (x :: xs) ρ = g x ρ fun ρ2 => tb { Dd with nx := forW g tb Dd xs, ct := forW g tb Dd xs, bk := Dd.nx } ρ2 := rfl
theorem forW_nil {g : TGD} {tb : TSD} {Dd : EndsD} {ρ : Ro} : forW g tb Dd [] ρ = Dd.nx ρ := rfl
theorem cutD_f1 (x : PyData) (xs : List PyData) : cutD (x :: xs) (some 1) none = xs := cutD_from (x :: xs) 1
end My
namespace My
open PySem PySem.Spec PyProof.Rows L2
variable [TB]
theorem jn_len : ∀ {ps : List Pat}, ps ≠ [] → (∀ p ∈ ps, p.Ok) → (jnP ps).Ok ∧ (jnP ps).n + 1 = (ps.map Pat.n).sum + ps.length
  | [], h, _ => absurd rfl h
  | [p], _, h => ⟨h p (List.mem_cons_self ..), by simp [jnP]⟩
  | p :: q :: ps, _, h => by
    obtain ⟨h1, h2⟩ := jn_len (ps := q :: ps) (by simp) fun r hr => h r (List.mem_cons_of_mem _ hr)
    refine ⟨⟨.inl rfl, h p (List.mem_cons_self ..), h1⟩, ?_⟩
    show p.n + (jnP (q :: ps)).n + 1 + 1 = _
    rw [List.map_cons, List.sum_cons, List.length_cons]
    omega
theorem rep_n (p : Pat) (k : Nat) (h : p.n = 1) : ((List.replicate k p).map Pat.n).sum = k := by
  rw [List.map_replicate, h]
  simp
theorem jn_rep {p : Pat} (hp : p.Ok) (h : p.n = 1) (k : Nat) : (jnP (List.replicate (k + 1) p)).Ok ∧ (jnP (List.replicate (k + 1) p)).n = 2 * k + 1 := by
  have := jn_len (ps := List.replicate (k + 1) p) (by simp) fun r hr => by rw [(List.mem_replicate.mp hr).2]; exact hp
  rw [rep_n p _ h, List.length_replicate] at this
  exact ⟨this.1, by omega⟩
end My
namespace My
open PySem PySem.Spec PyProof.Rows L2
variable [TB]
theorem Rl.Ok.mono {r : Rl} {m n : Nat} (h : r.Ok m) (hm : m ≤ n) (hn : n ≤ 3) : r.Ok n := ⟨h.1, h.2.1, h.2.2.1, Nat.le_trans h.2.2.2.1 hm, hn, h.2.2.2.2.2⟩
theorem Stg.mono {st : List Rl} {m n : Nat} (h : Stg st m) (hm : m ≤ n) (hn : n ≤ 3) : Stg st n := ⟨h.1, h.2.1, fun r hr => (h.2.2 r hr).mono hm hn⟩
def tldD (x : List Rl × List (Nat × Nat)) : PyData := .tuple [stgD x.1, seqD x.2]
def Tld (x : List Rl × List (Nat × Nat)) : Prop := Stg x.1 3 ∧ x.2.length ≤ 100 ∧ ∀ q ∈ x.2, Sm q
theorem put_rep {st : List Rl} {m : Nat} (hst : Stg st m) (hm : m ≤ 3) {qs : List (Nat × Nat)} (hn : qs.length ≤ 100) (hq : ∀ q ∈ qs, Sm q) : repOk (.tuple ((putL st qs (fstL st qs)).map prD)) := by
  have h1 := putL_sm hst.2.2 hq (fstL st qs)
  have h2 := putL_len hst.2.2 qs (fstL st qs)
  rw [fstL_len] at h1 h2
  have h3 : m * qs.length ≤ 3 * 100 := Nat.mul_le_mul hm hn
  exact repOk_of (sh_prs fun p hp => ⟨(h1 p hp).1, by have := (h1 p hp).2; omega⟩) (by decide) (by omega)
end My
namespace My
open PySem PySem.Spec PyProof.Rows L2
variable [TB]
/-! ### pipelines -/
abbrev PQ := List ((Nat × Nat) × Nat)
def plD (pl : List (List Rl)) : PyData := .tuple (pl.map stgD)
def fsD (fs : List (Option Nat)) : PyData := .tuple (fs.map optD)
def prsD (ps : PQ) : PyData := .tuple (ps.map prD)
def idx (qs : List (Nat × Nat)) : PQ := (List.range qs.length).map fun k => (qs.getD k (0, 0), k)
noncomputable def stepF (st : List Rl) (ps : PQ) : List (Option Nat) := fstL st (ps.map Prod.fst)
def origin (ps : PQ) (p : (Nat × Nat) × Nat) : (Nat × Nat) × Nat := (p.1, (ps.getD p.2 ((0, 0), 0)).2)
noncomputable def stepP (st : List Rl) (ps : PQ) : PQ := (putL st (ps.map Prod.fst) (stepF st ps)).map (origin ps)
noncomputable def casS (pl : List (List Rl)) (ps : PQ) : PQ × List (List (Option Nat)) := pl.foldl (fun s st => (stepP st s.1, s.2 ++ [stepF st s.1])) (ps, [])
theorem casS_succ {pl : List (List Rl)} {ps : PQ} {i : Nat} {st : List Rl} (h : pl[i]? = some st) : casS (pl.take (i + 1)) ps = (stepP st (casS (pl.take i) ps).1, (casS (pl.take i) ps).2 ++ [stepF st (casS (pl.take i) ps).1]) := by
  have hi := List.getElem?_eq_some_iff.mp h
  unfold casS
  rw [List.take_succ_eq_append_getElem hi.1, hi.2, List.foldl_append]
  rfl
/-- a pipeline, and how long a document may be -/
def PipN (pl : List (List Rl)) (n : Nat) : Prop := pl.length ≤ 3 ∧ ∃ k, (∀ i st, pl[i]? = some st → Stg st (if i = k then 3 else 1)) ∧ (if k < pl.length then 3 * n else n) ≤ 100
theorem PipN.mono {pl : List (List Rl)} {n m : Nat} (h : PipN pl n) (hm : m ≤ n) : PipN pl m := by
  obtain ⟨h1, k, h2, h3⟩ := h
  refine ⟨h1, k, h2, ?_⟩
  split at h3
  · rename_i e; rw [if_pos e]; omega
  · rename_i e; rw [if_neg e]; omega
theorem stepP_len {st : List Rl} {m : Nat} (h : Stg st m) (ps : PQ) : (stepP st ps).length ≤ m * ps.length := by
  unfold stepP
  rw [List.length_map]
  have := putL_len h.2.2 (ps.map Prod.fst) (stepF st ps)
  rw [stepF, fstL_len, List.length_map] at this
  exact this
theorem cas_len {pl : List (List Rl)} {ps : PQ} (h : PipN pl ps.length) : ∀ i, i ≤ pl.length → (casS (pl.take i) ps).1.length ≤ 100 := by
  obtain ⟨h1, k, h2, h3⟩ := h
  have key : ∀ i, i ≤ pl.length → (casS (pl.take i) ps).1.length ≤ (if k < i then 3 else 1) * ps.length := by
    intro i
    induction i with
    | zero => intro _; rw [if_neg (Nat.not_lt_zero _)]; simp [casS]
    | succ i ih =>
      intro hi
      have hst : pl[i]? = some (pl[i]'(by omega)) := get_lt (by omega)
      rw [casS_succ hst]
      have s := h2 i _ hst
      have l := stepP_len s (casS (pl.take i) ps).1
      have ih := ih (by omega)
      show (stepP _ _).length ≤ _
      by_cases e : i = k
      · subst e
        rw [if_pos rfl] at l
        rw [if_neg (Nat.lt_irrefl _)] at ih
        rw [if_pos (Nat.lt_succ_self _)]
        omega
      · rw [if_neg e] at l
        by_cases e2 : k < i
        · rw [if_pos e2] at ih; rw [if_pos (by omega)]; omega
        · rw [if_neg e2] at ih; rw [if_neg (by omega)]; omega
  intro i hi
  have := key i hi
  by_cases e : k < i
  · rw [if_pos e] at this
    rw [if_pos (by omega)] at h3
    omega
  · rw [if_neg e] at this
    split at h3 <;> omega
def Prs (ps : PQ) : Prop := ∀ p ∈ ps, Sm p.1 ∧ p.2 ≤ 100000
theorem idx_len (qs : List (Nat × Nat)) : (idx qs).length = qs.length := by simp [idx]
theorem idx_fst (qs : List (Nat × Nat)) : (idx qs).map Prod.fst = qs := by
  unfold idx
  rw [List.map_map]
  apply List.ext_getElem?
  intro k
  by_cases hk : k < qs.length
  · rw [List.getElem?_map, List.getElem?_range hk, get_lt hk]
    show some (qs.getD k (0, 0)) = _
    rw [getD_at (get_lt hk)]
  · rw [List.getElem?_eq_none (by simpa using hk), List.getElem?_eq_none (by omega)]
theorem idx_prs {qs : List (Nat × Nat)} (h : ∀ q ∈ qs, Sm q) (hn : qs.length ≤ 100) : Prs (idx qs) := fun p hp => by
  obtain ⟨k, hk, rfl⟩ := List.mem_map.mp hp
  have hk := List.mem_range.mp hk
  refine ⟨?_, by show k ≤ 100000; omega⟩
  rw [getD_at (get_lt hk)]
  exact h _ (List.getElem_mem _)
theorem stepP_prs {st : List Rl} {m : Nat} (h : Stg st m) {ps : PQ} (hp : Prs ps) : Prs (stepP st ps) := fun p hm => by
  obtain ⟨s, hs, rfl⟩ := List.mem_map.mp hm
  have := putL_sm h.2.2 (qs := ps.map Prod.fst) (fun q hq => by
    obtain ⟨p, hp', rfl⟩ := List.mem_map.mp hq
    exact (hp p hp').1) (stepF st ps) s hs
  rw [stepF, fstL_len, List.length_map] at this
  refine ⟨this.1, ?_⟩
  show (ps.getD s.2 ((0, 0), 0)).2 ≤ 100000
  rw [getD_at (get_lt this.2)]
  exact (hp _ (List.getElem_mem _)).2
theorem PipN.stg {pl : List (List Rl)} {n i : Nat} {st : List Rl} (h : PipN pl n) (e : pl[i]? = some st) : Stg st 3 := by
  obtain ⟨h1, k, h2, h3⟩ := h
  have := h2 i st e
  split at this
  · exact this
  · exact this.mono (by decide) (by decide)
theorem cas_prs {pl : List (List Rl)} {ps : PQ} {n : Nat} (h : PipN pl n) (hp : Prs ps) : ∀ i, i ≤ pl.length → Prs (casS (pl.take i) ps).1 := by
  intro i
  induction i with
  | zero => intro _; exact hp
  | succ i ih =>
    intro hi
    have hst : pl[i]? = some (pl[i]'(by omega)) := get_lt (by omega)
    rw [casS_succ hst]
    exact stepP_prs (h.stg hst) (ih (by omega))
theorem putL_ix {st : List Rl} {qs : List (Nat × Nat)} {fs : List (Option Nat)} : ∀ p ∈ putL st qs fs, p.2 < fs.length := fun p hp => by
  obtain ⟨k, hk, hp⟩ := List.mem_flatMap.mp hp
  obtain ⟨s, hs, rfl⟩ := List.mem_map.mp hp
  exact List.mem_range.mp hk
end My
namespace My
open PySem PySem.Spec PyProof.Rows L2
variable [TB]
theorem anyN (l : List Nat) (k : Nat) : ((l.map natD).any fun z => PyData.eqv z (.int (k : Nat))) = decide (k ∈ l) := by
  induction l with
  | nil => rfl
  | cons a l ih =>
    rw [List.map_cons, List.any_cons, ih, eqv_ii, Bool.eq_iff_iff]
    simp only [Bool.or_eq_true, decide_eq_true_eq, List.mem_cons, cast_inj]
    constructor
    · rintro (h | h)
      · exact .inl h.symm
      · exact .inr h
    · rintro (h | h)
      · exact .inl h.symm
      · exact .inr h
theorem inOk_n {y : D} (l : List Nat) (k : Nat) : inOk (.p (natD k)) y (natD k) (l.map natD) := by
  refine .inl ⟨rfl, rfl, ?_⟩
  rw [List.all_eq_true]
  intro x hx
  obtain ⟨q, _, rfl⟩ := List.mem_map.mp hx
  rfl
theorem fst_one {r : Rl} {qs : List (Nat × Nat)} {kp : List Nat} (h : kp = (List.range qs.length).filter fun k => yn (r.app qs k)) : (List.range qs.length).map (fun k => optD (if k ∈ kp then some 0 else none)) = (fstL [r] qs).map optD := by
  unfold fstL
  rw [List.map_map]
  refine List.map_congr_left fun k hk => ?_
  show optD _ = optD (fstR [r] qs k)
  congr 1
  unfold fstR
  rw [List.findIdx?_cons, h]
  by_cases hb : yn (r.app qs k) = true
  · rw [if_pos (List.mem_filter.mpr ⟨hk, hb⟩), if_pos hb]
  · have hb2 : ¬ k ∈ (List.range qs.length).filter fun k => yn (r.app qs k) := fun z => hb (List.mem_filter.mp z).2
    rw [if_neg hb2, if_neg hb]
    rfl
theorem idx_get {qs : List (Nat × Nat)} {k : Nat} (h : k < qs.length) : (idx qs).getD k ((0, 0), 0) = (qs.getD k (0, 0), k) := by
  refine getD_at ?_
  rw [idx, List.getElem?_map, List.getElem?_range h]
  rfl
theorem step_one {r : Rl} (ho : r.o = [36]) {ps : PQ} : stepP [r] ps = ((List.range ps.length).filter fun k => yn (r.app (ps.map Prod.fst) k)).map fun k => ((ps.map Prod.fst).getD k (0, 0), (ps.getD k ((0, 0), 0)).2) := by
  unfold stepP stepF
  rw [put_one ho, List.map_map, List.length_map]
  rfl
theorem casS_two {a b : List Rl} {ps : PQ} : casS [a, b] ps = (stepP b (stepP a ps), [stepF a ps, stepF b (stepP a ps)]) := by
  simp only [casS, List.foldl_cons, List.foldl_nil, List.nil_append, List.singleton_append]
theorem cas_two {r r2 : Rl} (ho : r.o = [36]) (ho2 : r2.o = [36]) {us md : List (Nat × Nat)} {kp kq : List Nat} (hkp : kp = (List.range us.length).filter fun k => yn (r.app us k)) (hmd : md = kp.map fun k => us.getD k (0, 0)) (hkq : kq = (List.range md.length).filter fun k => yn (r2.app md k)) :
    (casS [[r], [r2]] (idx us)).1 = (kq.map fun k => (md.getD k (0, 0), kp.getD k 0)) ∧ (casS [[r], [r2]] (idx us)).2 = [fstL [r] us, fstL [r2] md] := by
  have h1 : stepP [r] (idx us) = kp.map fun k => (us.getD k (0, 0), k) := by
    rw [step_one ho, idx_fst, idx_len, ← hkp]
    refine List.map_congr_left fun k hk => ?_
    rw [hkp] at hk
    rw [idx_get (List.mem_range.mp (List.mem_filter.mp hk).1)]
  have h2 : (stepP [r] (idx us)).map Prod.fst = md := by rw [h1, hmd, List.map_map]; rfl
  have h3 : (stepP [r] (idx us)).length = md.length := by rw [← h2, List.length_map]
  rw [casS_two]
  refine ⟨?_, ?_⟩
  · dsimp only
    rw [step_one ho2, h2, h3, ← hkq]
    refine List.map_congr_left fun k hk => ?_
    rw [hkq] at hk
    have hk := List.mem_range.mp (List.mem_filter.mp hk).1
    rw [hmd, List.length_map] at hk
    have e : (stepP [r] (idx us)).getD k ((0, 0), 0) = (us.getD (kp[k]'hk) (0, 0), kp[k]'hk) := by
      rw [h1]
      refine getD_at ?_
      rw [List.getElem?_map, get_lt hk]
      rfl
    rw [e, getD_at (get_lt hk)]
  · dsimp only
    unfold stepF
    rw [idx_fst, h2]
theorem sh_opt {f : Option Nat} (h : ∀ n, f = some n → n ≤ 100000) : Sh (optD f) 0 0 := by
  cases f with
  | none => exact Sh.none
  | some n => exact sh_nat (h n rfl)
theorem sh_fs {fs : List (Option Nat)} (h : ∀ f ∈ fs, ∀ n, f = some n → n ≤ 100000) : Sh (fsD fs) 1 fs.length := by
  have := Sh.tup (dp := 0) (bk := 0) (ds := fs.map optD) fun d hd => by
    obtain ⟨f, hf, rfl⟩ := List.mem_map.mp hd
    exact sh_opt (h f hf)
  rw [List.length_map, Nat.zero_add, Nat.mul_one] at this
  exact this
theorem sh_fss {l : List (List (Option Nat))} (h : ∀ fs ∈ l, fs.length ≤ 100 ∧ ∀ f ∈ fs, ∀ n, f = some n → n ≤ 100000) : Sh (.tuple (l.map fsD)) 2 (l.length * 101) := by
  have := Sh.tup (dp := 1) (bk := 100) (ds := l.map fsD) fun d hd => by
    obtain ⟨f, hf, rfl⟩ := List.mem_map.mp hd
    exact (sh_fs (h f hf).2).mono (Nat.le_refl _) (h f hf).1
  rwa [List.length_map] at this
theorem cas_fs {pl : List (List Rl)} {ps : PQ} (h : PipN pl ps.length) : ∀ i, i ≤ pl.length → (casS (pl.take i) ps).2.length = i ∧ ∀ fs ∈ (casS (pl.take i) ps).2, fs.length ≤ 100 ∧ ∀ f ∈ fs, ∀ n, f = some n → n ≤ 100000 := by
  intro i
  induction i with
  | zero => intro _; exact ⟨rfl, fun fs hf => by cases hf⟩
  | succ i ih =>
    intro hi
    have hst : pl[i]? = some (pl[i]'(by omega)) := get_lt (by omega)
    rw [casS_succ hst]
    obtain ⟨l, h2⟩ := ih (by omega)
    refine ⟨by show ((casS (pl.take i) ps).2 ++ _).length = i + 1; rw [List.length_append, l]; rfl, fun fs hf => ?_⟩
    rcases List.mem_append.mp hf with hf | hf
    · exact h2 fs hf
    · rw [List.mem_singleton.mp hf]
      refine ⟨by rw [stepF, fstL_len, List.length_map]; exact cas_len h i (by omega), fun f hf n e => ?_⟩
      subst e
      obtain ⟨k, hk⟩ := List.getElem?_of_mem hf
      have := fstL_lt hk
      have := (h.stg hst).2.1
      omega
theorem cas_rep {pl : List (List Rl)} {qs : List (Nat × Nat)} (h : PipN pl qs.length) (hn : qs.length ≤ 100) (hq : ∀ q ∈ qs, Sm q) : repOk (prsD (casS pl (idx qs)).1) ∧ repOk (.tuple ((casS pl (idx qs)).2.map fsD)) := by
  have hc : PipN pl (idx qs).length := by rw [idx_len]; exact h
  have h1 := cas_len hc pl.length (Nat.le_refl _)
  have h2 := cas_prs h (idx_prs hq hn) pl.length (Nat.le_refl _)
  have h3 := cas_fs hc pl.length (Nat.le_refl _)
  rw [List.take_length] at h1 h2 h3
  have := h.1
  exact ⟨repOk_of (sh_prs h2) (by decide) (by omega), repOk_of (sh_fss h3.2) (by decide) (by omega)⟩
end My
namespace My
open PySem PySem.Spec PyProof.Rows L2
variable [TB]
/-! ### nets -/
abbrev Ed := Nat × (Nat × Nat) × Nat
structure Net where
  c : Nat
  st : List Nat
  en : List Nat
  ed : List Ed
def edD (e : Ed) : PyData := .tuple [natD e.1, symD e.2.1, natD e.2.2]
def Net.d (n : Net) : PyData := .tuple [natD n.c, .tuple (n.st.map natD), .tuple (n.en.map natD), .tuple (n.ed.map edD)]
structure Net.Ok (n : Net) : Prop where
  c : n.c ≤ 6
  st : ∀ k ∈ n.st, k < n.c
  en : ∀ k ∈ n.en, k < n.c
  ed : ∀ e ∈ n.ed, e.1 < n.c ∧ e.2.2 < n.c
  len : n.st.length ≤ 6 ∧ n.en.length ≤ 6 ∧ n.ed.length ≤ 108
def intD (i : Int) : PyData := .int i
/-- deep data that _law_same takes -/
def smD : Nat → PyData → Bool
  | 0, _ => false
  | _ + 1, .none => true
  | _ + 1, .int _ => true
  | _ + 1, .str _ => true
  | _ + 1, .bool _ => true
  | m + 1, .tuple ds => ds.all (smD m) && decide (ds.length ≤ 1000000)
  | _ + 1, _ => false
/-- the first defect -/
def dfS (n : Net) (b : Int) (is : List Int) : Option Nat := n.st.find? fun k => decide (b < is.getD k 0)
def dfE (n : Net) (is : List Int) : Option Nat := n.en.find? fun k => decide (is.getD k 0 < 0)
def dfB (ws is : List Int) (e : Ed) (i : Nat) : Bool := decide (is.getD e.1 0 < ws.getD i 0 + is.getD e.2.2 0)
def dfG (n : Net) (ws is : List Int) : Option Nat := (List.range n.ed.length).find? fun i => dfB ws is (n.ed.getD i (0, (0, 0), 0)) i
def dfD (n : Net) (ws : List Int) (b : Int) (is : List Int) : PyData := match dfS n b is with
  | some k => .tuple [.str "start", natD k]
  | none => match dfE n is with
    | some k => .tuple [.str "end", natD k]
    | none => match dfG n ws is with
      | some i => .tuple [.str "edge", natD i]
      | none => .none
theorem sm_dfD (n : Net) (ws : List Int) (b : Int) (is : List Int) : smD 2 (dfD n ws b is) = true := by
  unfold dfD
  split
  · rfl
  · split
    · rfl
    · split <;> rfl
theorem int_at {ws : List Int} {k : Nat} (h : k < ws.length) : atI (ws.map intD) (k : Int) = some (.int (ws.getD k 0)) := by
  rw [atI_cast, List.getElem?_map, List.getElem?_eq_getElem h, List.getD_eq_getElem?_getD, List.getElem?_eq_getElem h]
  rfl
/-- by an invariant, and what was walked -/
theorem forW_pre2 {α : Type} {f : α → ItD} {g : TGD} {tb : TSD} {Dd : EndsD} {l : List α} {ρ : Ro} (P : List α → Ro → Prop) (h0 : P [] ρ)
    (hs : ∀ pre x post ρ (K : Ro → Prop), l = pre ++ x :: post → P pre ρ → (∀ ρ', P (pre ++ [x]) ρ' → K ρ') → g (f x) ρ fun ρ2 => tb { Dd with nx := K, ct := K, bk := Dd.nx } ρ2)
    (hd : ∀ ρ, P l ρ → Dd.nx ρ) : forW g tb Dd (l.map f) ρ := by
  refine forW_inv (fun i ρ => P (l.take i) ρ) (by simpa using h0) ?_ ?_
  · intro i x ρ K hx p hK
    rw [List.getElem?_map] at hx
    cases e : l[i]? with
    | none => rw [e] at hx; cases hx
    | some a =>
      rw [e] at hx
      cases hx
      have hi := List.getElem?_eq_some_iff.mp e
      have e1 : l.take (i + 1) = l.take i ++ [a] := by rw [List.take_succ, e]; rfl
      refine hs (l.take i) a (l.drop (i + 1)) ρ K ?_ p fun ρ' p' => hK ρ' (by rw [e1]; exact p')
      rw [← hi.2, ← List.drop_eq_getElem_cons hi.1, List.take_append_drop]
  · intro ρ p
    rw [List.length_map, List.take_length] at p
    exact hd ρ p
theorem find_snoc {α : Type} {p : α → Bool} {l : List α} {a : α} (h : l.find? p = none) (n : p a = false) : (l ++ [a]).find? p = none := by
  rw [List.find?_append, h]; simp [n]
theorem find_hit {α : Type} {p : α → Bool} {l pre post : List α} {a : α} (e : l = pre ++ a :: post) (h : pre.find? p = none) (n : p a = true) : l.find? p = some a := by
  rw [e, List.find?_append, h]; simp [n]
theorem rng_map (n : Nat) : rngD 0 n = (List.range n).map fun i => ItD.one (natD i) := by
  unfold rngD
  refine List.map_congr_left fun i _ => ?_
  rw [Int.zero_add]
theorem en_map {α : Type} (f : α → PyData) (l : List α) (d : α) : enD (l.map f) = (List.range l.length).map fun i => ItD.two (natD i) (f (l.getD i d)) := by
  unfold enD
  rw [List.length_map]
  refine List.map_congr_left fun i hi => ?_
  have hi := List.mem_range.mp hi
  rw [List.getD_eq_getElem?_getD, List.getD_eq_getElem?_getD, List.getElem?_map, List.getElem?_eq_getElem hi]
  rfl
theorem items_map {α : Type} (f : α → PyData) (l : List α) : (l.map f).map ItD.one = l.map fun a => ItD.one (f a) := by rw [List.map_map]; rfl
end My
namespace My
open PySem PySem.Spec PyProof.Rows L2
variable [TB]
def oiD : Option Int → PyData
  | none => .none
  | some i => .int i
end My
namespace My
open PySem PySem.Spec PyProof.Rows L2
variable [TB]
theorem mapSet {α : Type} (f : α → PyData) (l : List α) (i : Nat) (x : α) : (l.map f).set i (f x) = (l.set i x).map f := by rw [List.map_set]
theorem ixN_map {α : Type} {f : α → PyData} {l : List α} {k : Nat} (h : k < l.length) : ixN (l.map f).length ((k : Nat) : Int) = some k := by
  rw [List.length_map]; exact My.ixN_nat h
end My
namespace My
variable [TB]
theorem cut_by {t u : TSD} {Dd : EndsD} {ρ : Ro} (P : Ro → Prop) (h1 : ∀ K : Ro → Prop, (∀ ρ', P ρ' → K ρ') → t { Dd with nx := K } ρ) (h2 : ∀ ρ', P ρ' → u Dd ρ') : dCut t u Dd ρ := ⟨P, h1 P fun _ h => h, h2⟩
end My
namespace My
open PySem PySem.Spec PyProof.Rows L2
variable [TB]
/-! ### tables of states, machines that run both ways -/
abbrev SyN := Nat × Nat
def rwT (r : List Nat) : PyData := .tuple (r.map natD)
def tabD (t : List (List Nat)) : PyData := .tuple (t.map rwT)
structure TabOk (m L : Nat) (t : List (List Nat)) : Prop where
  len : t.length = L
  row : ∀ r ∈ t, r.length = m ∧ ∀ a ∈ r, a < L
def stq (t : List (List Nat)) (a i : Nat) : Nat := (t.getD a []).getD i 0
def stt (t : List (List Nat)) (a : Nat) (is : List Nat) : Nat := is.foldl (stq t) a
def sts (t : List (List Nat)) (a : Nat) (is : List Nat) : List Nat := (List.range (is.length + 1)).map fun k => stt t a (is.take k)
theorem getD_of {α : Type} {l : List α} {i : Nat} {d : α} (h : i < l.length) : l.getD i d = l[i] := by
  rw [List.getD_eq_getElem?_getD, List.getElem?_eq_getElem h]; rfl
theorem getD_mem {α : Type} {l : List α} {i : Nat} {d : α} (h : i < l.length) : l.getD i d ∈ l := by
  rw [getD_of h]; exact List.getElem_mem h
theorem map_at {α : Type} {f : α → PyData} {l : List α} {i : Nat} (d : α) (h : i < l.length) : atI (l.map f) (i : Int) = some (f (l.getD i d)) := by
  rw [atI_cast, List.getElem?_map, List.getElem?_eq_getElem h, getD_of h]; rfl
theorem TabOk.at {m L a : Nat} {t : List (List Nat)} (h : TabOk m L t) (ha : a < L) : (t.getD a []).length = m ∧ ∀ x ∈ t.getD a [], x < L := h.row _ (getD_mem (by rw [h.len]; exact ha))
theorem TabOk.stq {m L a i : Nat} {t : List (List Nat)} (h : TabOk m L t) (ha : a < L) (hi : i < m) : My.stq t a i < L := (h.at ha).2 _ (getD_mem (by rw [(h.at ha).1]; exact hi))
theorem TabOk.stt {m L : Nat} {t : List (List Nat)} (h : TabOk m L t) : ∀ {is : List Nat} {a : Nat}, a < L → (∀ i ∈ is, i < m) → My.stt t a is < L
  | [], a, ha, _ => ha
  | i :: is, a, ha, hi => TabOk.stt h (is := is) (a := My.stq t a i) (h.stq ha (hi i List.mem_cons_self)) fun j hj => hi j (List.mem_cons_of_mem _ hj)
theorem stt_snoc (t : List (List Nat)) (a : Nat) (is : List Nat) (i : Nat) : stt t a (is ++ [i]) = stq t (stt t a is) i := by
  unfold stt; rw [List.foldl_append]; rfl
theorem sts_nil (t : List (List Nat)) (a : Nat) : sts t a [] = [a] := rfl
theorem sts_len (t : List (List Nat)) (a : Nat) (is : List Nat) : (sts t a is).length = is.length + 1 := by simp [sts]
theorem sts_snoc (t : List (List Nat)) (a : Nat) (is : List Nat) (i : Nat) : sts t a (is ++ [i]) = sts t a is ++ [stt t a (is ++ [i])] := by
  unfold sts
  rw [List.length_append, List.length_singleton, List.range_succ (n := is.length + 1), List.map_append, List.map_singleton, List.take_of_length_le (by simp)]
  congr 1
  refine List.map_congr_left fun k hk => ?_
  rw [List.take_append_of_le_length (by have := List.mem_range.mp hk; omega)]
theorem sts_at {t : List (List Nat)} {a : Nat} {is : List Nat} {k : Nat} (h : k ≤ is.length) : (sts t a is)[k]? = some (stt t a (is.take k)) := by
  unfold sts
  rw [List.getElem?_map, List.getElem?_range (by omega)]; rfl
theorem sts_atD {t : List (List Nat)} {a : Nat} {is : List Nat} {k : Nat} (h : k ≤ is.length) : atI ((sts t a is).map natD) (k : Int) = some (natD (stt t a (is.take k))) := by
  rw [atI_cast, List.getElem?_map, sts_at h]; rfl
theorem sts_last {t : List (List Nat)} {a : Nat} {is : List Nat} : atI ((sts t a is).map natD) (-1) = some (natD (stt t a is)) := by
  have e : sts t a is = ((List.range is.length).map fun k => stt t a (is.take k)) ++ [stt t a is] := by
    unfold sts
    rw [List.range_succ, List.map_append, List.map_singleton, List.take_of_length_le (Nat.le_refl _)]
  rw [e, List.map_append, List.map_singleton, atI_last]
/-- the place of a symbol -/
def ix (rs : List SyN) (q : SyN) : Nat := (ixOf (symD q) (rs.map symD)).getD 0
theorem ix_of {q : SyN} : ∀ {rs : List SyN}, q ∈ rs → ixOf (symD q) (rs.map symD) = some (ix rs q) ∧ ix rs q < rs.length := by
  intro rs h
  have : ∃ j, ixOf (symD q) (rs.map symD) = some j ∧ j < rs.length := by
    induction rs with
    | nil => cases h
    | cons r rs ih =>
      rw [List.map_cons]
      unfold ixOf
      by_cases e : PyData.eqv (symD r) (symD q) = true
      · rw [if_pos e]; exact ⟨0, rfl, by simp⟩
      · rw [if_neg e]
        rcases List.mem_cons.mp h with h | h
        · subst h
          exact (e (by show PyData.eqv (.str _) (.str _) = true; simp [PyData.eqv])).elim
        · obtain ⟨j, h1, h2⟩ := ih h
          exact ⟨j + 1, by rw [h1]; rfl, by simp; omega⟩
  obtain ⟨j, h1, h2⟩ := this
  unfold ix
  rw [h1]
  exact ⟨rfl, h2⟩
theorem strs_sym : ∀ rs : List SyN, (strsOf (rs.map symD)).isSome = true
  | [] => rfl
  | q :: rs => by
    rw [List.map_cons]
    show ((strsOf (rs.map symD)).map _).isSome = true
    rw [Option.isSome_map]; exact strs_sym rs
def inx (rs qs : List SyN) : List Nat := qs.map (ix rs)
theorem inx_lt {rs qs : List SyN} (h : ∀ q ∈ qs, q ∈ rs) : ∀ i ∈ inx rs qs, i < rs.length := fun i hi => by
  obtain ⟨q, hq, rfl⟩ := List.mem_map.mp hi
  exact (ix_of (h q hq)).2
theorem inx_len {rs qs : List SyN} : (inx rs qs).length = qs.length := List.length_map ..
/-! machines -/
def cellD (c : List (List SyN)) : PyData := .tuple (c.map seqD)
def outD (o : List (List (List SyN))) : PyData := .tuple (o.map cellD)
structure Two where
  rs : List SyN
  lf : List (List Nat)
  rt : List (List Nat)
  ou : List (List (List (List SyN)))
def Two.d (M : Two) : PyData := .tuple [seqD M.rs, tabD M.lf, tabD M.rt, .tuple (M.ou.map outD)]
def CelOk (c : List SyN) : Prop := c.length ≤ 27 ∧ ∀ q ∈ c, Sm q
def OutOk (m R : Nat) (o : List (List (List SyN))) : Prop := o.length = m ∧ ∀ c ∈ o, c.length = R ∧ ∀ s ∈ c, CelOk s
structure Two.Ok (M : Two) (L R : Nat) : Prop where
  rs : M.rs ≠ [] ∧ M.rs.length ≤ 12 ∧ ∀ q ∈ M.rs, Sm q
  b : 1 ≤ L ∧ L ≤ 40 ∧ 1 ≤ R ∧ R ≤ 40
  lf : TabOk M.rs.length L M.lf
  rt : TabOk M.rs.length R M.rt
  ou : M.ou.length = L ∧ ∀ o ∈ M.ou, OutOk M.rs.length R o
def Two.at (M : Two) (a i b : Nat) : List SyN := ((M.ou.getD a []).getD i []).getD b []
theorem Two.Ok.at {M : Two} {L R a i b : Nat} (h : M.Ok L R) (ha : a < L) (hi : i < M.rs.length) (hb : b < R) : CelOk (M.at a i b) := by
  have h1 := h.ou.2 _ (getD_mem (d := []) (by rw [h.ou.1]; exact ha))
  have h2 := h1.2 _ (getD_mem (d := []) (by rw [h1.1]; exact hi))
  exact h2.2 _ (getD_mem (by rw [h2.1]; exact hb))
/-- what is put out for the k-th symbol -/
def Two.out (M : Two) (qs : List SyN) (k : Nat) : List SyN := M.at (stt M.lf 0 ((inx M.rs qs).take k)) (ix M.rs (qs.getD k (0, 0))) (stt M.rt 0 ((inx M.rs qs).reverse.take (qs.length - 1 - k)))
def prsF (f : Nat → List SyN) (n : Nat) : List (SyN × Nat) := (List.range n).flatMap fun k => (f k).map fun q => (q, k)
theorem prsF_succ (f : Nat → List SyN) (n : Nat) : prsF f (n + 1) = prsF f n ++ (f n).map fun q => (q, n) := by
  unfold prsF
  rw [List.range_succ, List.flatMap_append, List.flatMap_singleton]
theorem prsF_ok {f : Nat → List SyN} : ∀ {n : Nat}, (∀ k, k < n → CelOk (f k)) → (prsF f n).length ≤ 27 * n ∧ ∀ p ∈ prsF f n, Sm p.1 ∧ p.2 < n
  | 0, _ => ⟨Nat.le_refl _, fun p hp => by cases hp⟩
  | n + 1, h => by
    obtain ⟨h1, h2⟩ := prsF_ok (n := n) fun k hk => h k (by omega)
    have h3 := h n (by omega)
    rw [prsF_succ]
    refine ⟨by rw [List.length_append, List.length_map]; have := h3.1; omega, fun p hp => ?_⟩
    rcases List.mem_append.mp hp with hp | hp
    · have := h2 p hp
      exact ⟨this.1, by omega⟩
    · obtain ⟨q, hq, rfl⟩ := List.mem_map.mp hp
      exact ⟨h3.2 q hq, by show n < n + 1; omega⟩
theorem prsF_congr {f g : Nat → List SyN} {n : Nat} (h : ∀ k, k < n → f k = g k) : prsF f n = prsF g n := flatMap_eq fun k hk => by rw [h k (List.mem_range.mp hk)]
theorem sts_rev {t : List (List Nat)} {a : Nat} {is : List Nat} {k : Nat} (h : k < is.length) : atI ((sts t a is).reverse.map natD) ((k : Int) + 1) = some (natD (stt t a (is.take (is.length - 1 - k)))) := by
  rw [show (k : Int) + 1 = ((k + 1 : Nat) : Int) by omega, atI_cast, List.getElem?_map, List.getElem?_reverse (by rw [sts_len]; omega), sts_len, sts_at (by omega)]
  rw [show is.length + 1 - 1 - (k + 1) = is.length - 1 - k by omega]
  rfl
theorem inx_rev {rs qs : List SyN} : inx rs qs.reverse = (inx rs qs).reverse := by simp [inx]
theorem inx_take {rs qs : List SyN} (h : ∀ q ∈ qs, q ∈ rs) (k : Nat) : ∀ i ∈ (inx rs qs).take k, i < rs.length := fun i hi => inx_lt h i (List.mem_of_mem_take hi)
theorem inx_takeR {rs qs : List SyN} (h : ∀ q ∈ qs, q ∈ rs) (k : Nat) : ∀ i ∈ (inx rs qs).reverse.take k, i < rs.length := fun i hi => inx_lt h i (by simpa using List.mem_of_mem_take hi)
theorem Two.Ok.out {M : Two} {L R k : Nat} {qs : List SyN} (h : M.Ok L R) (hq : ∀ q ∈ qs, q ∈ M.rs) (hk : k < qs.length) : CelOk (M.out qs k) :=
  h.at (h.lf.stt h.b.1 (inx_take hq k)) (ix_of (hq _ (getD_mem hk))).2 (h.rt.stt h.b.2.2.1 (inx_takeR hq _))
theorem inOk_sym {y : D} (l : List SyN) (q : SyN) : inOk (.p (symD q)) y (symD q) (l.map symD) := by
  refine .inl ⟨rfl, rfl, ?_⟩
  rw [List.all_eq_true]
  intro d hd
  obtain ⟨r, _, rfl⟩ := List.mem_map.mp hd
  rfl
theorem cutD_tl (x : PyData) (xs : List PyData) : cutD (x :: xs) (some 1) none = xs := cutD_from (x :: xs) 1
theorem rwT_rep {xs : List Nat} (h : xs.length ≤ 1000) (h2 : ∀ a ∈ xs, a ≤ 100000) : repOk (rwT xs) := by
  have : Sh (.tuple (xs.map natD)) 1 ((xs.map natD).length * (0 + 1)) := Sh.tup fun d hd => by
    obtain ⟨a, ha, rfl⟩ := List.mem_map.mp hd
    exact sh_nat (h2 a ha)
  exact repOk_of this (by decide) (by rw [List.length_map]; omega)
theorem sts_lt {m L : Nat} {t : List (List Nat)} {is : List Nat} (h : TabOk m L t) (hL : 0 < L) (hi : ∀ i ∈ is, i < m) : ∀ a ∈ sts t 0 is, a < L := fun a ha => by
  obtain ⟨k, _, rfl⟩ := List.mem_map.mp ha
  exact h.stt hL fun i hj => hi i (List.mem_of_mem_take hj)
/-- a comprehension whose items are drawn -/
theorem lcW_all {α : Type} {el : ItD → (Option PyData → Prop) → Prop} {Q : List PyData → Prop} {n : Nat} (f : α → PyData) (P : α → Prop) (hz : n ≤ sizeLine) (h : ∀ i, i < n → ∀ K : Option PyData → Prop, (∀ a, P a → K (some (f a))) → el (.one (.int (i : Nat))) K)
    (q : ∀ xs : List α, xs.length = n → (∀ a ∈ xs, P a) → Q (xs.map f)) : lcW el (rngD 0 n) [] Q := by
  refine lcW_inv (fun i acc => ∃ xs : List α, acc = xs.map f ∧ xs.length = i ∧ ∀ a ∈ xs, P a) ⟨[], rfl, rfl, fun a ha => by cases ha⟩ (fun i x acc K hx ha _ hk => ?_) (by rw [rngD_len]; exact hz) (fun acc ha => ?_)
  · obtain ⟨hi, rfl⟩ := rngD_get hx
    obtain ⟨xs, rfl, h1, h2⟩ := ha
    rw [Int.zero_add]
    exact h i hi K fun a ha => hk _ ⟨xs ++ [a], by simp, by simp [h1], fun b hb => by
      rcases List.mem_append.mp hb with hb | hb
      · exact h2 b hb
      · rw [List.mem_singleton.mp hb]; exact ha⟩
  · obtain ⟨xs, rfl, h1, h2⟩ := ha
    rw [rngD_len] at h1
    exact q xs h1 h2
/-- a comprehension on what was made before -/
theorem lcW_ofA {α : Type} {el : ItD → (Option PyData → Prop) → Prop} {Q : List PyData → Prop} {g : α → ItD} (f : α → PyData) : ∀ {l : List α} {acc : List PyData}, (∀ a ∈ l, ∀ K : Option PyData → Prop, K (some (f a)) → el (g a) K) → acc.length + l.length ≤ sizeLine → Q (acc ++ l.map f) → lcW el (l.map g) acc Q
  | [], acc, _, _, q => by simpa [lcW] using q
  | a :: l, acc, h, hz, q => by
    rw [List.map_cons]
    unfold lcW
    simp at hz
    exact h a List.mem_cons_self _ ⟨by omega, lcW_ofA f (fun b hb => h b (List.mem_cons_of_mem _ hb)) (by simp; omega) (by simpa using q)⟩
theorem lcF_of {α : Type} {el : ItD → List PyData → (List PyData → Prop) → Prop} {Q : List PyData → Prop} {g : α → ItD} (f : α → List PyData) (b : Nat) : ∀ {l : List α} {acc : List PyData}, (∀ a ∈ l, (f a).length ≤ b ∧ ∀ (acc : List PyData) (K : List PyData → Prop), acc.length + (f a).length ≤ sizeLine → K (acc ++ f a) → el (g a) acc K) → acc.length + b * l.length ≤ sizeLine → Q (acc ++ l.flatMap f) → lcF el (l.map g) acc Q
  | [], acc, _, _, q => by simpa [lcF] using q
  | a :: l, acc, h, hz, q => by
    rw [List.map_cons]
    unfold lcF
    have h0 := h a List.mem_cons_self
    rw [List.length_cons, Nat.mul_succ] at hz
    exact h0.2 _ _ (by have := h0.1; omega) (lcF_of f b (fun c hc => h c (List.mem_cons_of_mem _ hc)) (by rw [List.length_append]; have := h0.1; omega) (by simpa using q))
end My
namespace My
open PySem PySem.Spec PyProof.Rows L2
variable [TB]
/-! ### prices, shares -/
def prcD (p : Nat × Int) : PyData := .tuple [chr1 p.1, .int p.2]
inductive Pol where
  | sum (pr : List (Nat × Int)) (b : Int)
  | share (hs : List Nat) (p q : Int)
def Pol.d : Pol → PyData
  | .sum pr b => .tuple [.str "sum", .tuple (pr.map prcD), .int b]
  | .share hs p q => .tuple [.str "share", .str (tx hs), .int p, .int q]
structure PrOk (pr : List (Nat × Int)) : Prop where
  nd : (pr.map (·.1)).Nodup
  len : pr.length ≤ 27
  low : ∀ p ∈ pr, p.1 < 128
def Pol.Ok : Pol → Prop
  | .sum pr _ => PrOk pr
  | .share hs p q => hs.length ≤ 100 ∧ 0 ≤ p ∧ p ≤ 1000 ∧ 1 ≤ q ∧ q ≤ 1000
/-- what a holder's symbols are worth -/
def lk (pr : List (Nat × Int)) (h : Nat) : Int := ((pr.filter fun p => decide (p.1 = h)).map (·.2)).sum
def Pol.w : Pol → (Nat × Nat) → Int
  | .sum pr _, s => lk pr s.1
  | .share hs p q, s => if s.1 ∈ hs then q - p else -p
def wt (pol : Pol) (qs : List (Nat × Nat)) : Int := (qs.map pol.w).sum
def Pol.bd : Pol → Int
  | .sum _ b => b
  | .share _ _ _ => 0
theorem lk_none {pr : List (Nat × Int)} {h : Nat} (n : h ∉ pr.map (·.1)) : lk pr h = 0 := by
  unfold lk
  rw [List.filter_eq_nil_iff.mpr]
  · rfl
  · intro p hp z
    exact n (List.mem_map.mpr ⟨p, hp, of_decide_eq_true z⟩)
theorem lk_cons (p : Nat × Int) (pr : List (Nat × Int)) (h : Nat) : lk (p :: pr) h = (if p.1 = h then p.2 else 0) + lk pr h := by
  unfold lk
  rw [List.filter_cons]
  by_cases e : p.1 = h
  · rw [if_pos e, if_pos (decide_eq_true e), List.map_cons, List.sum_cons]
  · rw [if_neg e, if_neg (by simpa using e), Int.zero_add]
theorem lk_snoc (pr : List (Nat × Int)) (p : Nat × Int) (h : Nat) : lk (pr ++ [p]) h = lk pr h + (if p.1 = h then p.2 else 0) := by
  unfold lk
  rw [List.filter_append, List.map_append, List.sum_append]
  congr 1
  by_cases e : p.1 = h
  · rw [if_pos e, List.filter_cons, if_pos (decide_eq_true e)]; simp
  · rw [if_neg e, List.filter_cons, if_neg (by simpa using e)]; rfl
theorem chr1_inj {a b : Nat} : chr1 a = chr1 b ↔ a = b := by
  refine ⟨fun h => ?_, fun h => by rw [h]⟩
  have h : tx [a] = tx [b] := by injection h
  simpa using tx_inj.mp h
theorem canon_chr (a : Nat) : canon (chr1 a) = some (.text (tx [a])) := by
  show canon (.str (tx [a])) = _
  rw [canon]
theorem kAt_prc {h : Nat} {Q : D → Prop} : ∀ {pr : List (Nat × Int)}, (pr.map (·.1)).Nodup → Q (.p (.int (lk pr h))) → kAt (pr.map fun p => chr1 p.1) (pr.map fun p => M.leaf (.int p.2)) (chr1 h) (.int 0) Q := by
  intro pr
  have key : ∀ pr : List (Nat × Int), (pr.map (·.1)).Nodup → match kIx (pr.map fun p => chr1 p.1) (chr1 h) with
      | some j => (pr.map fun p => M.leaf (.int p.2))[j]? = some (.leaf (.int (lk pr h)))
      | none => lk pr h = 0 := by
    intro pr
    induction pr with
    | nil => intro _; rfl
    | cons p pr ih =>
      intro nd
      rw [List.map_cons] at nd
      obtain ⟨n1, n2⟩ := List.nodup_cons.mp nd
      have ih := ih n2
      rw [List.map_cons]
      unfold kIx
      rw [canon_chr, canon_chr]
      by_cases e : p.1 = h
      · subst e
        rw [if_pos rfl]
        show some (M.leaf (.int p.2)) = _
        rw [lk_cons, if_pos rfl, lk_none n1, Int.add_zero]
      · rw [if_neg (fun z => e (by injection z with z; injection z with z; simpa using tx_inj.mp z))]
        rw [lk_cons, if_neg e, Int.zero_add]
        cases q : kIx (pr.map fun p => chr1 p.1) (chr1 h) with
        | none => rw [q] at ih; exact ih
        | some j => rw [q] at ih; simpa using ih
  intro nd q
  have k := key pr nd
  unfold kAt
  cases e : kIx (pr.map fun p => chr1 p.1) (chr1 h) with
  | none => rw [e] at k; simp only; rw [← k]; exact q
  | some j => rw [e] at k; exact ⟨_, k, q⟩
theorem pairsOf_prc : ∀ pr : List (Nat × Int), pairsOf (pr.map prcD) = some (pr.map fun p => (Sum.inr (tx [p.1]), .int p.2))
  | [] => rfl
  | p :: pr => by
    rw [List.map_cons]
    show (pairsOf (pr.map prcD)).map _ = _
    rw [pairsOf_prc pr]
    rfl
theorem uni_prc (pr : List (Nat × Int)) (h : Nat) : uniB (pr.map fun p => chr1 p.1) (chr1 h) = true := by
  unfold uniB
  rw [Bool.and_eq_true]
  refine ⟨rfl, ?_⟩
  rw [List.all_eq_true]
  intro d hd
  obtain ⟨p, _, rfl⟩ := List.mem_map.mp hd
  rfl
theorem nd_key {pr : List (Nat × Int)} (h : (pr.map (·.1)).Nodup) : ((pr.map fun p => ((Sum.inr (tx [p.1]) : Key), PyData.int p.2)).map (·.1)).Nodup := by
  rw [List.map_map]
  have : pr.map ((fun q : Key × PyData => q.1) ∘ fun p => (Sum.inr (tx [p.1]), PyData.int p.2)) = (pr.map (·.1)).map fun c => (Sum.inr (tx [c]) : Key) := by rw [List.map_map]; rfl
  rw [this]
  refine nodup_map (fun a b e => ?_) h
  injection e with e
  simpa using tx_inj.mp e
theorem intsOf_map' {α : Type} (f : α → Int) : ∀ l : List α, intsOf (l.map fun a => PyData.int (f a)) = some (l.map f)
  | [] => rfl
  | a :: l => by
    rw [List.map_cons, List.map_cons]
    show (intsOf _).map _ = _
    rw [intsOf_map' f l]; rfl
theorem wt_share {hs : List Nat} {p q : Int} (qs : List (Nat × Nat)) : q * ((qs.filter fun s => decide (s.1 ∈ hs)).length : Int) - p * (qs.length : Int) = wt (.share hs p q) qs := by
  induction qs with
  | nil => simp [wt]
  | cons s qs ih =>
    have e : wt (.share hs p q) (s :: qs) = (if s.1 ∈ hs then q - p else -p) + wt (.share hs p q) qs := by unfold wt; rw [List.map_cons, List.sum_cons]; rfl
    rw [e, ← ih, List.filter_cons]
    by_cases h : s.1 ∈ hs
    · rw [if_pos h, if_pos (decide_eq_true h)]
      simp only [List.length_cons, Int.natCast_add, Int.natCast_one, Int.mul_add, Int.mul_one]
      omega
    · rw [if_neg h, if_neg (by simpa using h)]
      simp only [List.length_cons, Int.natCast_add, Int.natCast_one, Int.mul_add, Int.mul_one]
      omega
theorem wt_append (pol : Pol) (a b : List (Nat × Nat)) : wt pol (a ++ b) = wt pol a + wt pol b := by
  unfold wt
  rw [List.map_append, List.sum_append]
theorem inOk_chr {y : D} (l : List Nat) (c : Nat) : inOk (.p (chr1 c)) y (chr1 c) (l.map chr1) := by
  refine .inl ⟨rfl, rfl, ?_⟩
  rw [List.all_eq_true]
  intro d hd
  obtain ⟨r, _, rfl⟩ := List.mem_map.mp hd
  rfl
theorem caps_low : ∀ c ∈ (64 :: caps), c < 128 := by decide
theorem caps_nd : (64 :: caps).Nodup := by decide
theorem acaps_len : (64 :: caps).length = 27 := rfl
end My
namespace My
open PySem PySem.Spec PyProof.Rows L2
variable [TB]
/-! ### where stretches that match end -/
def lkD (F : List (List Nat)) : List PyData := F.map fun l => .list (l.map natD)
structure SpOk (R : Nat → Nat → Prop) (n : Nat) (F : List (List Nat)) : Prop where
  len : F.length = n + 1
  row : ∀ a, a ≤ n → (F.getD a []).Nodup ∧ ∀ e, e ∈ F.getD a [] ↔ R a e
theorem lcW_keep {α : Type} {el : ItD → (Option PyData → Prop) → Prop} {Q : List PyData → Prop} {g : α → ItD} (f : α → PyData) (p : α → Bool) : ∀ {l : List α} {acc : List PyData}, (∀ a ∈ l, ∀ K : Option PyData → Prop, (p a = true → K (some (f a))) → (p a = false → K none) → el (g a) K) → acc.length + l.length ≤ sizeLine → Q (acc ++ (l.filter p).map f) → lcW el (l.map g) acc Q
  | [], acc, _, _, q => by simpa [lcW] using q
  | a :: l, acc, h, hz, q => by
    rw [List.map_cons]
    unfold lcW
    simp at hz
    refine h a List.mem_cons_self _ (fun hp => ⟨by omega, lcW_keep f p (fun b hb => h b (List.mem_cons_of_mem _ hb)) (by simp; omega) ?_⟩) (fun hp => lcW_keep f p (fun b hb => h b (List.mem_cons_of_mem _ hb)) (by omega) ?_)
    · rw [List.filter_cons, if_pos hp] at q
      simpa using q
    · rw [List.filter_cons, if_neg (by rw [hp]; decide)] at q
      exact q
theorem len_sub : ∀ {l m : List Nat}, l.Nodup → (∀ a ∈ l, a ∈ m) → l.length ≤ m.length
  | [], _, _, _ => Nat.zero_le _
  | a :: l, m, nd, h => by
    obtain ⟨n1, n2⟩ := List.nodup_cons.mp nd
    have ha := h a List.mem_cons_self
    have := len_sub (m := m.erase a) n2 fun b hb => (List.mem_erase_of_ne (fun (e : b = a) => n1 (by rw [← e]; exact hb))).mpr (h b (List.mem_cons_of_mem _ hb))
    rw [List.length_erase_of_mem ha] at this
    have := List.length_pos_of_mem ha
    rw [List.length_cons]
    omega
theorem nd_len {l : List Nat} {n : Nat} (nd : l.Nodup) (h : ∀ a ∈ l, a ≤ n) : l.length ≤ n + 1 := by
  have := len_sub (m := List.range (n + 1)) nd fun a ha => List.mem_range.mpr (by have := h a ha; omega)
  simpa using this
/-- what is new is put behind -/
def unl (A B : List Nat) : List Nat := A ++ B.filter fun e => !decide (e ∈ A)
theorem unl_nd {A B : List Nat} (ha : A.Nodup) (hb : B.Nodup) : (unl A B).Nodup := by
  unfold unl
  refine List.nodup_append.mpr ⟨ha, hb.filter _, fun a h1 b h2 e => ?_⟩
  subst e
  have := (List.mem_filter.mp h2).2
  simp [h1] at this
theorem unl_mem {A B : List Nat} {e : Nat} : e ∈ unl A B ↔ e ∈ A ∨ e ∈ B := by
  unfold unl
  rw [List.mem_append, List.mem_filter]
  by_cases h : e ∈ A <;> simp [h]
theorem lk_at {F : List (List Nat)} {a : Nat} (h : a < F.length) : atI (lkD F) (a : Int) = some (.list ((F.getD a []).map natD)) := map_at [] h
theorem lk_len (F : List (List Nat)) : (lkD F).length = F.length := List.length_map ..
theorem lk_set (F : List (List Nat)) (a : Nat) (l : List Nat) : (lkD F).set a (.list (l.map natD)) = lkD (F.set a l) := mapSet (fun l : List Nat => PyData.list (l.map natD)) F a l
theorem getD_set {α : Type} {F : List α} {a b : Nat} {x d : α} (h : a < F.length) : (F.set a x).getD b d = if a = b then x else F.getD b d := by
  rw [List.getD_eq_getElem?_getD, List.getD_eq_getElem?_getD, List.getElem?_set]
  by_cases e : a = b
  · subst e; rw [if_pos rfl, if_pos rfl, if_pos h]; rfl
  · rw [if_neg e, if_neg e]
theorem anyNat (l : List Nat) (k : Nat) : ((l.map natD).any fun z => PyData.eqv z (natD k)) = decide (k ∈ l) := anyN l k
/-! policies of the three forms -/
inductive Pl where
  | w (pol : Pol)
  | m (p : Pat)
def Pl.d : Pl → PyData
  | .w pol => pol.d
  | .m p => .tuple [.str "matches", p.d]
def Pl.Ok : Pl → Prop
  | .w pol => pol.Ok
  | .m p => p.Ok ∧ p.n ≤ 20
noncomputable def Pl.holds : Pl → List (Nat × Nat) → Bool
  | .w pol, qs => decide (wt pol qs ≤ pol.bd)
  | .m p, qs => yn (rel qs p 0 qs.length)
def anP : Pat := .cls false (tx []) (tx [])
def evP : Pat := .un "star" anP
theorem anP_ok : anP.Ok := cl_mk (by decide) (by decide) (fun c h => by cases h) (fun c h => by cases h)
theorem evP_ok : evP.Ok := ⟨.inl rfl, anP_ok⟩
theorem evP_n : evP.n = 2 := rfl
theorem evP_d : evP.d = .tuple [.str "star", .tuple [.str "class", .bool false, .str (tx []), .str (tx [])]] := rfl
def clP (b : Bool) (hs ls : List Nat) : Pat := .cls b (tx hs) (tx ls)
theorem clP_d (b : Bool) (hs ls : List Nat) : (clP b hs ls).d = clsD b (tx hs) (tx ls) := rfl
theorem clP_n (b : Bool) (hs ls : List Nat) : (clP b hs ls).n = 1 := rfl
/-- how many are kept -/
theorem lcW_count {el : ItD → (Option PyData → Prop) → Prop} {qs : List (Nat × Nat)} {Q : List PyData → Prop} (p : Nat × Nat → Bool) (h : ∀ s ∈ qs, ∀ K : Option PyData → Prop, (p s = true → K (some (symD s))) → (p s = false → K none) → el (.one (symD s)) K) (hz : qs.length ≤ 1000) (q : Q ((qs.filter p).map symD)) : lcW el ((qs.map symD).map ItD.one) [] Q := by
  rw [items_map]
  exact lcW_keep symD p h (by show 0 + _ ≤ 16777216; omega) (by rw [List.nil_append]; exact q)
end My
namespace My
open PySem PySem.Spec PyProof.Rows L2
variable [TB]
/-! ### what can be reached -/
inductive Rch (S : List Nat) (ps : List (Nat × Nat)) : Nat → Prop
  | base {x : Nat} : x ∈ S → Rch S ps x
  | step {a b : Nat} : Rch S ps a → (a, b) ∈ ps → Rch S ps b
/-- a set that holds the first ones and is closed holds all -/
theorem Rch.sub {S T : List Nat} {ps : List (Nat × Nat)} (h1 : ∀ x ∈ S, x ∈ T) (h2 : ∀ a b, (a, b) ∈ ps → a ∈ T → b ∈ T) {x : Nat} (h : Rch S ps x) : x ∈ T := by
  induction h with
  | base h => exact h1 _ h
  | step _ e ih => exact h2 _ _ e ih
/-- which are met, as a list of truth values -/
def seD (T : List Nat) (c : Nat) : List PyData := (List.range c).map fun x => .bool (decide (x ∈ T))
theorem seD_len (T : List Nat) (c : Nat) : (seD T c).length = c := by simp [seD]
theorem seD_at {T : List Nat} {c k : Nat} (h : k < c) : atI (seD T c) (k : Int) = some (.bool (decide (k ∈ T))) := by
  unfold seD
  rw [atI_cast, List.getElem?_map, List.getElem?_range h]; rfl
def ins (T : List Nat) (k : Nat) : List Nat := if k ∈ T then T else T ++ [k]
theorem mem_ins {T : List Nat} {k x : Nat} : x ∈ ins T k ↔ x ∈ T ∨ x = k := by
  unfold ins
  split
  · rename_i h
    exact ⟨.inl, fun z => z.elim id fun e => e ▸ h⟩
  · rw [List.mem_append, List.mem_singleton]
theorem nd_ins {T : List Nat} {k : Nat} (h : T.Nodup) : (ins T k).Nodup := by
  unfold ins
  split
  · exact h
  · rename_i n
    exact List.nodup_append.mpr ⟨h, by simp, fun a ha b hb e => n (by rw [List.mem_singleton.mp hb] at e; rw [← e]; exact ha)⟩
theorem seD_set {T : List Nat} {c k : Nat} : (seD T c).set k (.bool true) = seD (ins T k) c := by
  unfold seD
  apply List.ext_getElem?
  intro x
  rw [List.getElem?_set, List.getElem?_map, List.getElem?_map, List.length_map, List.length_range]
  by_cases hx : x < c
  · rw [List.getElem?_range hx]
    by_cases e : k = x
    · subst e
      rw [if_pos rfl, if_pos hx]
      show _ = some (PyData.bool (decide (k ∈ ins T k)))
      rw [decide_eq_true (mem_ins.mpr (.inr rfl))]
    · rw [if_neg e]
      show some (PyData.bool (decide (x ∈ T))) = some (PyData.bool (decide (x ∈ ins T k)))
      congr 2
      rw [decide_eq_decide, mem_ins]
      exact ⟨.inl, fun z => z.elim id fun y => absurd y.symm e⟩
  · rw [List.getElem?_eq_none (by simpa using hx)]
    by_cases e : k = x
    · subst e; rw [if_pos rfl, if_neg hx]; rfl
    · rw [if_neg e]; rfl
theorem full {T : List Nat} {c : Nat} (h1 : T.Nodup) (h2 : ∀ x ∈ T, x < c) (h3 : c ≤ T.length) {x : Nat} (hx : x < c) : x ∈ T := by
  refine Classical.byContradiction fun n => ?_
  have := len_sub (l := x :: T) (m := List.range c) (List.nodup_cons.mpr ⟨n, h1⟩) fun a ha => List.mem_range.mpr ((List.mem_cons.mp ha).elim (fun e => e ▸ hx) (h2 a))
  simp at this
  omega
theorem seD_congr {T U : List Nat} {c : Nat} (h : ∀ x, x < c → (x ∈ T ↔ x ∈ U)) : seD T c = seD U c := by
  unfold seD
  refine List.map_congr_left fun x hx => ?_
  congr 1
  rw [decide_eq_decide]
  exact h x (List.mem_range.mp hx)
/-- nets of any size -/
structure Net.Fit (n : Net) (m : Nat) : Prop where
  c : n.c ≤ m
  st : ∀ k ∈ n.st, k < n.c
  en : ∀ k ∈ n.en, k < n.c
  ed : ∀ e ∈ n.ed, e.1 < n.c ∧ e.2.2 < n.c
  len : n.st.length ≤ m ∧ n.en.length ≤ m ∧ n.ed.length ≤ m
def Net.fw (n : Net) : List (Nat × Nat) := n.ed.map fun e => (e.1, e.2.2)
def Net.bw (n : Net) : List (Nat × Nat) := n.ed.map fun e => (e.2.2, e.1)
theorem canon_nat (a : Nat) : canon (natD a) = some (.num (a : Int)) := by
  show canon (.int (a : Int)) = _
  rw [canon]
theorem uni_nat (ks : List Nat) (x : Nat) : uniB (ks.map natD) (natD x) = true := by
  unfold uniB
  rw [Bool.and_eq_true]
  refine ⟨rfl, ?_⟩
  rw [List.all_eq_true]
  intro d hd
  obtain ⟨k, _, rfl⟩ := List.mem_map.mp hd
  rfl
theorem kIx_nat : ∀ (ks : List Nat) (x : Nat), (kIx (ks.map natD) (natD x)).isSome = decide (x ∈ ks)
  | [], x => by simp [kIx]
  | k :: ks, x => by
    rw [List.map_cons]
    unfold kIx
    rw [canon_nat, canon_nat]
    by_cases h : k = x
    · subst h
      rw [if_pos rfl]
      simp
    · rw [if_neg (fun z => h (by injection z with z; injection z with z; omega)), Option.isSome_map, kIx_nat ks x]
      rw [decide_eq_decide, List.mem_cons]
      exact ⟨.inr, fun z => z.elim (fun e => absurd e.symm h) id⟩
theorem Net.Ok.fit {n : Net} (h : n.Ok) : n.Fit 1000 := ⟨by have := h.c; omega, h.st, h.en, h.ed, by have := h.len; omega⟩
end My
namespace My
open PySem PySem.Spec PyProof.Rows L2
variable [TB]
/-! ### what follows a point: the dict that setdefault(..).append(..) builds along pairs -/
theorem kIx_at : ∀ {ks : List Nat} {x j : Nat}, kIx (ks.map natD) (natD x) = some j → ks[j]? = some x
  | [], _, _, h => by simp [kIx] at h
  | k :: ks, x, j, h => by
    rw [List.map_cons] at h
    unfold kIx at h
    rw [canon_nat, canon_nat] at h
    by_cases e : k = x
    · subst e
      rw [if_pos rfl] at h
      cases h; rfl
    · rw [if_neg (fun z => e (by injection z with z; injection z with z; omega))] at h
      obtain ⟨i, hi, rfl⟩ := Option.map_eq_some_iff.mp h
      rw [List.getElem?_cons_succ]
      exact kIx_at hi
theorem kIx_no {ks : List Nat} {x : Nat} (h : kIx (ks.map natD) (natD x) = none) : x ∉ ks := by
  have := kIx_nat ks x
  rw [h] at this
  exact of_decide_eq_false this.symm
def ffL (pre : List (Nat × Nat)) (k : Nat) : List Nat := (pre.filter fun p => decide (p.1 = k)).map (·.2)
def ffK (pre : List (Nat × Nat)) : List Nat := pre.foldl (fun T p => ins T p.1) []
theorem ffK_snoc (pre : List (Nat × Nat)) (p : Nat × Nat) : ffK (pre ++ [p]) = ins (ffK pre) p.1 := by
  unfold ffK; rw [List.foldl_append]; rfl
theorem ffL_snoc (pre : List (Nat × Nat)) (p : Nat × Nat) (k : Nat) : ffL (pre ++ [p]) k = if p.1 = k then ffL pre k ++ [p.2] else ffL pre k := by
  unfold ffL
  rw [List.filter_append, List.map_append]
  by_cases h : p.1 = k
  · simp [h]
  · simp [h]
theorem mem_ffL {pre : List (Nat × Nat)} {k x : Nat} : x ∈ ffL pre k ↔ (k, x) ∈ pre := by
  unfold ffL
  rw [List.mem_map]
  constructor
  · rintro ⟨⟨a, b⟩, h, rfl⟩
    obtain ⟨h1, h2⟩ := List.mem_filter.mp h
    have h2 := of_decide_eq_true h2
    subst h2
    exact h1
  · intro h
    exact ⟨(k, x), List.mem_filter.mpr ⟨h, decide_eq_true rfl⟩, rfl⟩
theorem len_ffL (pre : List (Nat × Nat)) (k : Nat) : (ffL pre k).length ≤ pre.length := by
  unfold ffL; rw [List.length_map]; exact List.length_filter_le _ _
theorem nd_foldl : ∀ (pre : List (Nat × Nat)) (T : List Nat), T.Nodup → (pre.foldl (fun T p => ins T p.1) T).Nodup ∧ (∀ x, x ∈ pre.foldl (fun T p => ins T p.1) T ↔ x ∈ T ∨ ∃ y, (x, y) ∈ pre) ∧ (pre.foldl (fun T p => ins T p.1) T).length ≤ T.length + pre.length
  | [], T, h => ⟨h, fun x => ⟨.inl, fun z => z.elim id fun ⟨_, q⟩ => nomatch q⟩, Nat.le_refl _⟩
  | (a, b) :: pre, T, h => by
    obtain ⟨h1, h2, h3⟩ := nd_foldl pre (ins T a) (nd_ins h)
    refine ⟨h1, fun x => ?_, ?_⟩
    · rw [List.foldl_cons, h2, mem_ins]
      constructor
      · rintro ((z | rfl) | ⟨y, z⟩)
        · exact .inl z
        · exact .inr ⟨b, List.mem_cons_self⟩
        · exact .inr ⟨y, List.mem_cons_of_mem _ z⟩
      · rintro (z | ⟨y, z⟩)
        · exact .inl (.inl z)
        · rcases List.mem_cons.mp z with e | z
          · injection e with e _
            exact .inl (.inr e)
          · exact .inr ⟨y, z⟩
    · rw [List.foldl_cons]
      have : (ins T a).length ≤ T.length + 1 := by
        unfold ins; split
        · omega
        · simp
      simp only [List.length_cons]
      omega
theorem nd_ffK (pre : List (Nat × Nat)) : (ffK pre).Nodup := (nd_foldl pre [] List.nodup_nil).1
theorem mem_ffK {pre : List (Nat × Nat)} {x : Nat} : x ∈ ffK pre ↔ ∃ y, (x, y) ∈ pre := by
  rw [show ffK pre = pre.foldl (fun T p => ins T p.1) [] from rfl, (nd_foldl pre [] List.nodup_nil).2.1]
  exact ⟨fun z => z.elim (fun q => nomatch q) id, .inr⟩
theorem len_ffK (pre : List (Nat × Nat)) : (ffK pre).length ≤ pre.length := by
  have := (nd_foldl pre [] List.nodup_nil).2.2
  simpa [ffK] using this
theorem ffL_nil {pre : List (Nat × Nat)} {k : Nat} (h : k ∉ ffK pre) : ffL pre k = [] := by
  refine List.eq_nil_iff_forall_not_mem.mpr fun x hx => h (mem_ffK.mpr ⟨x, mem_ffL.mp hx⟩)
def ffI (pre : List (Nat × Nat)) (k : Nat) : M := .lst ((ffL pre k).map fun t => .leaf (natD t))
def ffS (pre : List (Nat × Nat)) : List PyData := (ffK pre).map natD
def ffMs (pre : List (Nat × Nat)) : List M := (ffK pre).map (ffI pre)
def ffM (pre : List (Nat × Nat)) : M := .dic (ffS pre) (ffMs pre)
theorem ff_at {pre : List (Nat × Nat)} {x j : Nat} (h : kIx (ffS pre) (natD x) = some j) : (ffMs pre)[j]? = some (ffI pre x) := by
  unfold ffMs
  rw [List.getElem?_map, kIx_at h]; rfl
theorem ff_step (pre : List (Nat × Nat)) (p : Nat × Nat) : sdFin (ffS pre) (ffMs pre) (natD p.1) (natD p.2) = ffM (pre ++ [p]) := by
  unfold sdFin
  cases q : kIx (ffS pre) (natD p.1) with
  | none =>
    have n : p.1 ∉ ffK pre := kIx_no q
    have e : ffK (pre ++ [p]) = ffK pre ++ [p.1] := by rw [ffK_snoc]; unfold ins; rw [if_neg n]
    unfold ffM ffS ffMs
    rw [e, List.map_append, List.map_append]
    show M.dic _ _ = M.dic _ _
    congr 1
    congr 1
    · refine List.map_congr_left fun k hk => ?_
      unfold ffI
      rw [ffL_snoc, if_neg (show ¬ p.1 = k from fun z => n (z ▸ hk))]
    · unfold ffI
      rw [List.map_singleton, ffL_snoc, if_pos rfl, ffL_nil n]; rfl
  | some j =>
    have a := kIx_at q
    have n : p.1 ∈ ffK pre := List.mem_of_getElem? a
    have e : ffK (pre ++ [p]) = ffK pre := by rw [ffK_snoc]; unfold ins; rw [if_pos n]
    dsimp only
    rw [ff_at q]
    unfold ffI ffM ffS
    dsimp only
    rw [e]
    congr 1
    unfold ffMs
    rw [e]
    apply List.ext_getElem?
    intro i
    rw [List.getElem?_set, List.getElem?_map, List.getElem?_map, List.length_map]
    obtain ⟨hj, hj2⟩ := List.getElem?_eq_some_iff.mp a
    by_cases ij : j = i
    · subst ij
      rw [if_pos rfl, if_pos hj, a]
      show _ = some (ffI (pre ++ [p]) p.1)
      unfold ffI
      rw [ffL_snoc, if_pos rfl, List.map_append]; rfl
    · rw [if_neg ij]
      cases b : (ffK pre)[i]? with
      | none => rfl
      | some k =>
        show some (ffI pre k) = some (ffI (pre ++ [p]) k)
        unfold ffI
        rw [ffL_snoc, if_neg]
        intro z
        subst z
        obtain ⟨hi, hi2⟩ := List.getElem?_eq_some_iff.mp b
        have nd := List.pairwise_iff_getElem.mp (nd_ffK pre)
        rcases Nat.lt_or_gt_of_ne ij with l | l
        · exact nd _ _ hj hi l (hj2.trans hi2.symm)
        · exact nd _ _ hi hj l (hi2.trans hj2.symm)

def kvT (k : Nat) : Key × PyData := (.inl (k : Int), .bool true)
def metM (T : List Nat) : M := .dic (T.map natD) (T.map fun _ => .leaf (.bool true))
theorem dicA_kv (T : List Nat) : dicA (T.map kvT) = metM T := by
  unfold dicA metM
  rw [List.map_map, List.map_map]; rfl
theorem putA_kv (T : List Nat) (x : Nat) : putA (T.map kvT) (.inl (x : Int)) (.bool true) = (ins T x).map kvT := by
  unfold putA ins
  have e : ((T.map kvT).any fun p => decide (p.1 = (Sum.inl (x : Int) : Key))) = decide (x ∈ T) := by
    rw [Bool.eq_iff_iff, List.any_eq_true, decide_eq_true_eq]
    constructor
    · rintro ⟨p, hp, e⟩
      obtain ⟨k, hk, rfl⟩ := List.mem_map.mp hp
      have e := of_decide_eq_true e
      have e : (k : Int) = x := by injection e
      rw [show x = k by omega]; exact hk
    · intro h
      exact ⟨kvT x, List.mem_map.mpr ⟨x, h, rfl⟩, decide_eq_true rfl⟩
  rw [e]
  by_cases h : x ∈ T
  · rw [if_pos (decide_eq_true h), if_pos h, List.map_map]
    refine List.map_congr_left fun k _ => ?_
    show (if (kvT k).1 = _ then ((kvT k).1, PyData.bool true) else kvT k) = kvT k
    split <;> rfl
  · rw [if_neg (by simpa using h), if_neg h, List.map_append]; rfl
theorem lcD_nat {el : ItD → (Option (Key × PyData) → Prop) → Prop} {Q : List (Key × PyData) → Prop} : ∀ (l T : List Nat), T.length + l.length ≤ 100000 → (∀ x K, x ∈ l → K (some (kvT x)) → el (.one (natD x)) K) → Q ((l.foldl ins T).map kvT) → lcD el ((l.map natD).map ItD.one) (T.map kvT) Q
  | [], T, _, _, q => q
  | x :: l, T, hn, h, q => by
    rw [List.map_cons, List.map_cons]
    refine h x _ List.mem_cons_self ?_
    refine ⟨by rw [List.length_map, sizeLine_eq]; simp at hn; omega, ?_⟩
    show lcD el _ (putA (T.map kvT) (.inl (x : Int)) (.bool true)) Q
    rw [putA_kv]
    refine lcD_nat l (ins T x) ?_ (fun y K hy => h y K (List.mem_cons_of_mem _ hy)) q
    have : (ins T x).length ≤ T.length + 1 := by
      unfold ins; split
      · omega
      · simp
    simp at hn
    omega
theorem ins_fold (S : List Nat) : S.foldl ins [] = ffK (S.map fun x => (x, 0)) := by
  unfold ffK; rw [List.foldl_map]
theorem mem_fold {S : List Nat} {x : Nat} : x ∈ S.foldl ins [] ↔ x ∈ S := by
  rw [ins_fold, mem_ffK]
  constructor
  · rintro ⟨y, h⟩
    obtain ⟨z, hz, e⟩ := List.mem_map.mp h
    injection e with e _
    exact e ▸ hz
  · intro h
    exact ⟨0, List.mem_map.mpr ⟨x, h, rfl⟩⟩
theorem nd_fold (S : List Nat) : (S.foldl ins []).Nodup := by rw [ins_fold]; exact nd_ffK _
theorem putM_met {T : List Nat} {x : Nat} (h : x ∉ T) : putM (T.map natD) (T.map fun _ => .leaf (.bool true)) (natD x) (.bool true) = metM (T ++ [x]) := by
  unfold putM
  have e := kIx_nat T x
  rw [decide_eq_false h] at e
  cases q : kIx (T.map natD) (natD x) with
  | none =>
    show M.dic _ _ = metM _
    unfold metM
    rw [List.map_append, List.map_append]; rfl
  | some j => rw [q] at e; cases e
theorem dats_ff (pre : List (Nat × Nat)) : ∀ ks : List Nat, M.dats (ks.map (ffI pre)) = ks.map fun k => .list ((ffL pre k).map natD)
  | [] => by simp [M.dats]
  | k :: ks => by
    rw [List.map_cons, M.dats, dats_ff pre ks, List.map_cons]
    congr 1
    unfold ffI
    rw [dat_lst, show ((ffL pre k).map fun t => M.leaf (natD t)) = ((ffL pre k).map natD).map .leaf by rw [List.map_map]; rfl, dats_leaf]
theorem dat_ff (pre : List (Nat × Nat)) : (ffM pre).dat = .dict ((ffK pre).map fun k => (natD k, .list ((ffL pre k).map natD))) := by
  unfold ffM ffS ffMs
  rw [M.dat, dats_ff, List.zip_map']
theorem dat_met (T : List Nat) : (metM T).dat = .dict (T.map fun k => (natD k, .bool true)) := by
  unfold metM
  rw [M.dat, show (T.map fun _ => M.leaf (.bool true)) = (T.map fun _ => PyData.bool true).map .leaf by rw [List.map_map]; rfl, dats_leaf, List.zip_map']
theorem kAt_ff {pre : List (Nat × Nat)} {x : Nat} {Q : D → Prop} (h : Q (.p (.list ((ffL pre x).map natD)))) : kAt (((ffK pre).map fun k => (natD k, PyData.list ((ffL pre k).map natD))).map (·.1)) (((ffK pre).map fun k => (natD k, PyData.list ((ffL pre k).map natD))).map fun q => .leaf q.2) (natD x) (.list []) Q := by
  rw [List.map_map, List.map_map]
  show kAt ((ffK pre).map natD) _ _ _ _
  unfold kAt
  cases q : kIx ((ffK pre).map natD) (natD x) with
  | none =>
    rw [ffL_nil (kIx_no q)] at h
    exact h
  | some j =>
    refine ⟨_, ?_, h⟩
    rw [List.getElem?_map, kIx_at q]; rfl
theorem uni_ff (pre : List (Nat × Nat)) (x : Nat) : uniB (((ffK pre).map fun k => (natD k, PyData.list ((ffL pre k).map natD))).map (·.1)) (natD x) = true := by
  rw [List.map_map]; exact uni_nat _ _
theorem len_in {T : List Nat} {c : Nat} (h1 : T.Nodup) (h2 : ∀ x ∈ T, x < c) : T.length ≤ c := by
  have := len_sub h1 (m := List.range c) fun a ha => List.mem_range.mpr (h2 a ha)
  rwa [List.length_range] at this
end My
namespace My
open PySem PySem.Spec PyProof.Rows L2
section
variable [TB]
local macro_rules | `(tactic| walk_at "ev") => `(tactic| try simp only [e_dNewD, e_disp1, e_dc, e_elD, e_setD, e_dGet, dks_ot, dks_nt, dks_p, in_ot, in_pd, dx_ot, dict_t, e_lcT, e_elM, e_setT, e_fzT, e_ali, mt_p, mt_nw, mt_nt, e_seq, e_var, e_c, e_op, e_un, e_test, e_tru, e_notT, e_andT, e_orT, e_notV, e_andV, e_orV, e_ifE, e_nil, e_cons, e_star, e_tup, e_lst, e_cb, e_call, e_callV, fl_i, fl_s, fl_b, fl_n, e_nopart, e_part, e_sl, e_isi, e_index, e_chain, e_lc, e_yes, e_el, e_lc2, e_set, e_setN, e_if, e_next, e_retN, e_app, e_ext, e_setIx, e_aug, e_fz, e_pop, e_asg, e_asg2, e_par, e_expr, e_pass, e_break, e_cont, e_gN', e_gNil', e_gCons', e_gTp1', e_gTp2, e_for, e_itV, e1_rng1, e1_rng2, e1_rng3, rg_1, rg_2, rg_3, e_enA, e_zip, e_rv, e_endN, e_endR, e_lawR, e_lawN, a_plpl, a_plow, a_plnw, m_pli, x_pli, sl_pl, len_pl, tup_pl, lis_pl, ix_pl, in_pl, tru_pl, tok_pl, non_pl, sq_pl, ls_pl, a_owpl, a_owow, a_ownw, m_owi, x_owi, sl_ow, len_ow, tup_ow, lis_ow, ix_ow, in_ow, tru_ow, tok_ow, non_ow, sq_ow, ls_ow, a_nwpl, a_nwow, a_nwnw, m_nwi, x_nwi, sl_nw, len_nw, tup_nw, lis_nw, ix_nw, in_nw, tru_nw, tok_nw, non_nw, sq_nw, ls_nw, a_ii, a_ss, a_tt, m_ii, m_ti, o_bSub, o_bAnd, o_bOr, o_bXor, o_bI0, o_bMod, o_bDiv, o_bPow, o_bShl, o_bShr, o_neg, o_inv, q_pp, q_pow, q_pnw, rep_p, dat_p, q_owp, q_owow, q_ownw, rep_ow, dat_ow, q_nwp, q_nwow, q_nwnw, rep_nw, dat_nw, c_bLti, c_bLts, c_bLei, c_bLes, c_bGti, c_bGts, c_bGei, c_bGes, c_bLtt, c_is, c_isnt, non_none, non_int, non_bool, non_str, non_tuple, in_s, in_t, x_si, x_ti, sl_s, sl_t, len_s, len_t, tup_t, lis_t, int_i, int_b, abs_i, max_ii, min_ii, ix_t, tru_none, tok_none, tru_bool, tok_bool, tru_int, tok_int, tru_str, tok_str, tru_tuple, tok_tuple, sq_t, st_p, st_nw, ag_0, vw_0, vw_p, vw_n, vw_o, vw_t, ag_p, ag_n, ag_t, sa_0, sa_p, sa_n, sa_map, it_138, it_139, it_140, it_141, en_142, en_143, en_144, en_145, rv_146, rv_147, rv_148, zp_149, zp_150, zp_151, zp_152, zp_t, c1_, c2_, s1_, s2_, s3_, s4_, s5_, s6_, s7_, dr_, rt_p, rt_ow, rt_nw, e1_ret, rv_t, rv_pl, rv_ow, rv_nw, e1_revU, jo_s, e1_join, bi_i, e1_bits, List.getElem?_cons_zero, List.getElem?_cons_succ, List.set_cons_zero, List.set_cons_succ, Option.some.injEq, Option.map_some, exists_eq_left', exists_eq_left, exists_and_left, exists_eq_right, exists_eq_right', exists_const, D.p.injEq, D.nw.injEq, D.own.injEq, ItD.one.injEq, PyData.int.injEq, PyData.str.injEq, PyData.bool.injEq, PyData.tuple.injEq, PyData.list.injEq, List.cons.injEq, and_true, true_and, and_self, reduceIte, Bool.not_true, Bool.not_false, decide_eq_true_eq, ite_true, ite_false, Bool.false_eq_true, if_true, if_false, eq_self, List.length_cons, List.length_nil, reduceCtorEq, maps_nat, maps_sym, cast_inj, atI_0, atI_1, atI_2, atI_3, eqOk_ii, eqOk_ss, eqOk_bb, eqOk_nn, eqOk_ni, eqOk_in, eqOk_ns, eqOk_sn, eqv_ii, eqv_ss, eqv_bb, eqv_nn, eqv_ni, eqv_in, eqv_ns, eqv_sn, tx_len, tx_list, tx_one, tx_app, tx_inj, sizeLine_eq, Int.zero_add, Int.add_zero, forall_const, List.append_nil, List.nil_append, false_and, and_false, exists_false, false_or, or_false, true_or, or_true, dWipe, D.p.injEq, Option.isSome_some])
def S_lawsymbols (a b : D) (Q : D → Prop) : Prop := ∃ y z : List Nat, a = .p (.str (tx y)) ∧ b = .p (.str (tx z)) ∧ y.length ≤ 26 ∧ z.length ≤ 26 ∧ Q (.nw ((prs (64 :: z) y).map symD))

set_option maxHeartbeats 1000000 in
theorem pf0_lawsymbols (x0 x1 : D) (Q : D → Prop) (h : S_lawsymbols x0 x1 Q) : t_lawsymbols (endsOf Q) [some x0, some x1, none, none, none] := by
  obtain ⟨y, z, rfl, rfl, hy, hz, q⟩ := h
  unfold t_lawsymbols
  walk_at "ev"
  simp only [lit_at, tx_app, tx_len]
  refine ⟨by decide, by simp; omega, forW_pre (fun pre post ρ => ∃ (us vs : List Nat) (w1 w2 : Option D), ρ = [some (.p (.str (tx y))), some (.p (.str (tx z))), some (.own ((prs us y).map symD)), w1, w2] ∧ 64 :: z = us ++ vs ∧ post = chD (tx vs)) ⟨[], 64 :: z, none, none, rfl, rfl, rfl⟩ ?_ ?_⟩
  · rintro pre x post ρ K _ ⟨us, vs, w1, w2, rfl, hu, hp⟩ hK
    cases vs with
    | nil => cases hp
    | cons h vs =>
      obtain ⟨rfl, rfl⟩ : x = .one (.str ⟨#[h]⟩) ∧ post = chD (tx vs) := by
        have e : chD (tx (h :: vs)) = .one (.str ⟨#[h]⟩) :: chD (tx vs) := rfl
        rw [e] at hp
        exact List.cons.inj hp
      have hul : us.length + vs.length = z.length := by
        have := congrArg List.length hu
        simp at this
        omega
      walk_at "ev"
      refine forW_pre (fun pre2 post2 ρ => ∃ (u2 v2 : List Nat) (w2 : Option D), ρ = [some (.p (.str (tx y))), some (.p (.str (tx z))), some (.own ((prs us y ++ u2.map fun l => (h, l)).map symD)), some (.p (.str (tx [h]))), w2] ∧ y = u2 ++ v2 ∧ post2 = chD (tx v2)) ⟨[], y, w2, by simp, rfl, rfl⟩ ?_ ?_
      · rintro pre2 x post2 ρ K2 _ ⟨u2, v2, w3, rfl, hu2, hp2⟩ hK2
        cases v2 with
        | nil => cases hp2
        | cons l v2 =>
          obtain ⟨rfl, rfl⟩ : x = .one (.str ⟨#[l]⟩) ∧ post2 = chD (tx v2) := by
            have e : chD (tx (l :: v2)) = .one (.str ⟨#[l]⟩) :: chD (tx v2) := rfl
            rw [e] at hp2
            exact List.cons.inj hp2
          have hul2 : u2.length + v2.length + 1 = y.length := by
            have := congrArg List.length hu2
            simp at this
            omega
          walk_at "ev"
          have hb : us.length * y.length ≤ 26 * 26 := Nat.mul_le_mul (by omega) (by omega)
          refine ⟨by decide, by rw [List.length_map, List.length_append, List.length_map, prs_len]; omega, hK2 _ ⟨u2 ++ [l], v2, some (.p (.str (tx [l]))), by simp [syp_tx], by simp [hu2], rfl⟩⟩
      · rintro ρ ⟨u2, v2, w3, rfl, hu2, hp2⟩
        have : v2 = [] := by
          cases v2 with
          | nil => rfl
          | cons => cases hp2
        subst this
        rw [List.append_nil] at hu2
        subst hu2
        exact hK _ ⟨us ++ [h], vs, _, _, by rw [prs_snoc], by simp [hu], rfl⟩
  · rintro ρ ⟨us, vs, w1, w2, rfl, hu, hp⟩
    have : vs = [] := by
      cases vs with
      | nil => rfl
      | cons => cases hp
    subst this
    rw [List.append_nil] at hu
    walk_at "ev"
    rw [← hu]
    exact q
theorem pf_lawsymbols : ∀ xs Qd, s2 S_lawsymbols xs Qd → t_lawsymbols (endsOf Qd) (iniR xs 3) := s2_on fun x0 x1 Q h => pf0_lawsymbols x0 x1 Q h
def S_lawpicked (t a m : D) (Q : D → Prop) : Prop := t = .tape ∧ ∃ (ds : List PyData) (n : Nat), a = .p (.list ds) ∧ m = .p (.int (n : Nat)) ∧ n ≤ ds.length ∧ ds.length ≤ 1000 ∧ ∀ es : List PyData, es.Sublist ds → es.length = n → Q (.nw es)

set_option maxHeartbeats 1000000 in
theorem pf0_lawpicked (x0 x1 x2 : D) (Q : D → Prop) (h : S_lawpicked x0 x1 x2 Q) : t_lawpicked (s2 S_draw) (endsOf Q) [some x0, some x1, some x2, none, none, none] := by
  obtain ⟨rfl, ds, n, rfl, rfl, hn, hl, q⟩ := h
  unfold t_lawpicked
  walk_at "ev"
  refine ⟨by decide, by omega, by omega, forW_inv (fun i ρ => ∃ (es : List PyData) (a : Nat) (w : Option D), ρ = [some .tape, some (.p (.list ds)), some (.p (.int (n : Nat))), some (.own es), some (.p (.int (a : Nat))), w] ∧ es.Sublist (ds.take a) ∧ es.length = i ∧ a ≤ ds.length - n + i) ⟨[], 0, none, rfl, by simp, rfl, by omega⟩ ?_ ?_⟩
  · rintro i x ρ K hx ⟨es, a, w, rfl, hs, hr, ha⟩ hK
    obtain ⟨hi, rfl⟩ := rngD_get hx
    walk_at "ev"
    refine ⟨by omega, fun v hv => ⟨ds[a + v]'(by omega), by rw [atI_add, get_of], by omega, ?_⟩⟩
    refine hK _ ⟨es ++ [ds[a + v]'(by omega)], a + v + 1, _, rfl, ?_, by simp [hr], by omega⟩
    rw [List.take_succ_eq_append_getElem (by omega)]
    exact List.Sublist.append (hs.trans (List.take_sublist_take_left (by omega))) (List.Sublist.refl _)
  · rintro ρ ⟨es, a, w, rfl, hs, hr, ha⟩
    rw [rngD_len] at hr
    walk_at "ev"
    exact q es (hs.trans (List.take_sublist _ _)) (by omega)
theorem pf_lawpicked : ∀ xs Qd, s3 S_lawpicked xs Qd → t_lawpicked (s2 S_draw) (endsOf Qd) (iniR xs 3) := s3_on fun x0 x1 x2 Q h => pf0_lawpicked x0 x1 x2 Q h
def S_lawrising (t s m : D) (Q : D → Prop) : Prop := t = .tape ∧ ∃ (l : List Nat) (n : Nat), s = .p (.str (tx l)) ∧ m = .p (.int (n : Nat)) ∧ n ≤ l.length ∧ l.length ≤ 1000 ∧ ∀ r : List Nat, r.Sublist l → r.length = n → Q (.p (.str (tx r)))

set_option maxHeartbeats 1000000 in
theorem pf0_lawrising (x0 x1 x2 : D) (Q : D → Prop) (h : S_lawrising x0 x1 x2 Q) : t_lawrising (s2 S_draw) (endsOf Q) [some x0, some x1, some x2, none, none, none] := by
  obtain ⟨rfl, l, n, rfl, rfl, hn, hl, q⟩ := h
  unfold t_lawrising
  walk_at "ev"
  refine ⟨by omega, by omega, forW_inv (fun i ρ => ∃ (r : List Nat) (a : Nat) (z : Option D), ρ = [some .tape, some (.p (.str (tx l))), some (.p (.int (n : Nat))), some (.p (.str (tx r))), some (.p (.int (a : Nat))), z] ∧ r.Sublist (l.take a) ∧ r.length = i ∧ a ≤ l.length - n + i) ⟨[], 0, none, rfl, by simp, rfl, by omega⟩ ?_ ?_⟩
  · rintro i x ρ K hx ⟨r, a, z, rfl, hs, hr, ha⟩ hK
    obtain ⟨hi, rfl⟩ := rngD_get hx
    walk_at "ev"
    refine ⟨by omega, by omega, fun v hv => ⟨by omega, l[a + v]'(by omega), by rw [atI_add, get_of], by omega, ?_⟩⟩
    refine hK _ ⟨r ++ [l[a + v]'(by omega)], a + v + 1, _, rfl, ?_, by simp [hr], by omega⟩
    rw [List.take_succ_eq_append_getElem (by omega)]
    exact List.Sublist.append (hs.trans (List.take_sublist_take_left (by omega))) (List.Sublist.refl _)
  · rintro ρ ⟨r, a, z, rfl, hs, hr, ha⟩
    rw [rngD_len] at hr
    walk_at "ev"
    exact q r (hs.trans (List.take_sublist _ _)) (by omega)
theorem pf_lawrising : ∀ xs Qd, s3 S_lawrising xs Qd → t_lawrising (s2 S_draw) (endsOf Qd) (iniR xs 3) := s3_on fun x0 x1 x2 Q h => pf0_lawrising x0 x1 x2 Q h
def S_lawletters (t : D) (Q : D → Prop) : Prop := t = .tape ∧ ∀ y : List Nat, Let y → Q (.p (.str (tx y)))

set_option maxHeartbeats 1000000 in
theorem pf0_lawletters (x0 : D) (Q : D → Prop) (h : S_lawletters x0 Q) : t_lawletters (s2 S_draw) (s3 S_lawrising) (endsOf Q) [some x0] := by
  obtain ⟨rfl, q⟩ := h
  unfold t_lawletters
  walk_at "ev"
  simp only [S_lawrising, lit_lows]
  walk_at "ev"
  refine ⟨by decide, by decide, fun v hv => ?_⟩
  obtain ⟨n, hm, hn⟩ := pickN [1, 1, 1, 2, 2, 3] (v := v) (by show v < 6; omega)
  have h1 : 1 ≤ n ∧ n ≤ 3 := (by decide : ∀ n ∈ [1, 1, 1, 2, 2, 3], 1 ≤ n ∧ n ≤ 3) n hm
  refine ⟨_, hn, n, rfl, by omega, by decide, fun r hr hl => ?_⟩
  exact q r ⟨hr, by omega, by omega⟩
theorem pf_lawletters : ∀ xs Qd, s1 S_lawletters xs Qd → t_lawletters (s2 S_draw) (s3 S_lawrising) (endsOf Qd) (iniR xs 0) := s1_on fun x0 Q h => pf0_lawletters x0 Q h
def S_lawowners (t : D) (Q : D → Prop) : Prop := t = .tape ∧ ∀ y : List Nat, Own y → Q (.p (.str (tx y)))

set_option maxHeartbeats 1000000 in
theorem pf0_lawowners (x0 : D) (Q : D → Prop) (h : S_lawowners x0 Q) : t_lawowners (s2 S_draw) (s3 S_lawrising) (endsOf Q) [some x0] := by
  obtain ⟨rfl, q⟩ := h
  unfold t_lawowners
  walk_at "ev"
  simp only [S_lawrising, lit_caps]
  walk_at "ev"
  refine ⟨by decide, by decide, fun v hv => ?_⟩
  obtain ⟨n, hm, hn⟩ := pickN [1, 2, 2, 2, 2, 3] (v := v) (by show v < 6; omega)
  have h1 : 1 ≤ n ∧ n ≤ 3 := (by decide : ∀ n ∈ [1, 2, 2, 2, 2, 3], 1 ≤ n ∧ n ≤ 3) n hm
  refine ⟨_, hn, n, rfl, by omega, by decide, fun r hr hl => ?_⟩
  exact q r ⟨hr, by omega, by omega⟩
theorem pf_lawowners : ∀ xs Qd, s1 S_lawowners xs Qd → t_lawowners (s2 S_draw) (s3 S_lawrising) (endsOf Qd) (iniR xs 0) := s1_on fun x0 Q h => pf0_lawowners x0 Q h
def S_lawsigns (t : D) (Q : D → Prop) : Prop := t = .tape ∧ ∀ qs : List (Nat × Nat), qs ≠ [] → qs.length ≤ 3 → (∃ y z, Let y ∧ Own z ∧ qs.Sublist (prs (64 :: z) y)) → Q (.nw (qs.map symD))

set_option maxHeartbeats 1000000 in
theorem pf0_lawsigns (x0 : D) (Q : D → Prop) (h : S_lawsigns x0 Q) : t_lawsigns (s1 S_lawowners) (s1 S_lawletters) (s2 S_lawsymbols) (s2 S_draw) (s3 S_lawpicked) (endsOf Q) [some x0, none] := by
  obtain ⟨rfl, q⟩ := h
  unfold t_lawsigns
  walk_at "ev"
  refine ⟨rfl, fun y hy => ?_⟩
  refine ⟨rfl, fun z hz => ?_⟩
  walk_at "ev"
  have hy1 := hy.2.1
  have hy2 := hy.2.2
  have hz2 := hz.2.2
  have pl : (prs (64 :: z) y).length ≤ 1000 := by
    rw [prs_len, List.length_cons]
    have : (z.length + 1) * y.length ≤ 4 * 3 := Nat.mul_le_mul (by omega) hy2
    omega
  have sgn : prs (64 :: z) y ≠ [] := prs_ne hy
  have sl : 0 < (prs (64 :: z) y).length := List.length_pos_iff.mpr sgn
  refine ⟨y, z, rfl, rfl, by omega, by omega, ?_⟩
  walk_at "ev"
  refine ⟨by decide, by decide, fun v hv => ?_⟩
  obtain ⟨n, hm, hn⟩ := pickN [1, 2, 2, 3] (v := v) (by show v < 4; omega)
  have h1 : 1 ≤ n ∧ n ≤ 3 := (by decide : ∀ n ∈ [1, 2, 2, 3], 1 ≤ n ∧ n ≤ 3) n hm
  refine ⟨_, hn, ?_⟩
  walk_at "ev"
  refine ⟨rfl, (prs (64 :: z) y).map symD, min n (prs (64 :: z) y).length, rfl, ?_, by rw [List.length_map]; omega, by rw [List.length_map]; omega, fun es hs hl => ?_⟩
  · rw [List.length_map]
    simp
    omega
  obtain ⟨qs, hqs, rfl⟩ := List.sublist_map_iff.mp hs
  rw [List.length_map] at hl
  refine q qs ?_ (by omega) ⟨y, z, hy, hz, hqs⟩
  rintro rfl
  simp at hl
  omega
theorem pf_lawsigns : ∀ xs Qd, s1 S_lawsigns xs Qd → t_lawsigns (s1 S_lawowners) (s1 S_lawletters) (s2 S_lawsymbols) (s2 S_draw) (s3 S_lawpicked) (endsOf Qd) (iniR xs 1) := s1_on fun x0 Q h => pf0_lawsigns x0 Q h
def S_lawnet (t a : D) (Q : D → Prop) : Prop := t = .tape ∧ ∃ qs : List (Nat × Nat), a = .p (.list (qs.map symD)) ∧ qs ≠ [] ∧ qs.length ≤ 3 ∧ ∀ n : Net, n.Ok → Q (.p n.d)

set_option maxHeartbeats 1000000 in
theorem pf0_lawnet (x0 x1 : D) (Q : D → Prop) (h : S_lawnet x0 x1 Q) : t_lawnet (s2 S_draw) (endsOf Q) [some x0, some x1, none, none, none, none, none, none, none, none, none] := by
  obtain ⟨rfl, qs, rfl, hq, hl, q⟩ := h
  unfold t_lawnet
  walk_at "ev"
  refine ⟨by decide, by decide, fun v hv => ?_⟩
  obtain ⟨c, hm, hn⟩ := pickN [3, 1, 2, 2, 3, 4, 4, 5, 6, 0] (v := v) (by show v < 10; omega)
  have hc : c ≤ 6 := (by decide : ∀ n ∈ [3, 1, 2, 2, 3, 4, 4, 5, 6, 0], n ≤ 6) c hm
  refine ⟨_, hn, ?_⟩
  walk_at "ev"
  refine ⟨by omega, fun f1 hf1 => ⟨by omega, fun f2 hf2 => ⟨by omega, by omega, ?_⟩⟩⟩
  refine lcW_inv (fun i acc => ∃ l : List Nat, acc = l.map natD ∧ (∀ k ∈ l, k < i) ∧ l.length ≤ i) ⟨[], rfl, by simp, by simp⟩ ?_ (szl (by rw [rngD_len]; omega)) ?_
  · rintro i x acc K hx ⟨l, rfl, h1, h2⟩ hn hs
    obtain ⟨hi, rfl⟩ := rngD_get hx
    have yes : K (some (natD i)) := hs _ ⟨l ++ [i], by simp, by
      intro k hk
      rcases List.mem_append.mp hk with hk | hk
      · have := h1 k hk; omega
      · rw [List.mem_singleton.mp hk]; omega, by simp; omega⟩
    have no : K none := hn ⟨l, rfl, fun k hk => by have := h1 k hk; omega, by omega⟩
    walk_at "ev"
    split
    · exact yes
    · refine ⟨by decide, fun u hu => ?_⟩
      split
      · exact yes
      · exact no
  rintro acc ⟨st, rfl, hs1, hs2⟩
  rw [rngD_len, Int.toNat_natCast] at hs1 hs2
  walk_at "ev"
  refine ⟨by omega, by omega, ?_⟩
  refine lcW_inv (fun i acc => ∃ l : List Nat, acc = l.map natD ∧ (∀ k ∈ l, k < i) ∧ l.length ≤ i) ⟨[], rfl, by simp, by simp⟩ ?_ (szl (by rw [rngD_len]; omega)) ?_
  · rintro i x acc K hx ⟨l, rfl, h1, h2⟩ hn hs
    obtain ⟨hi, rfl⟩ := rngD_get hx
    have yes : K (some (natD i)) := hs _ ⟨l ++ [i], by simp, by
      intro k hk
      rcases List.mem_append.mp hk with hk | hk
      · have := h1 k hk; omega
      · rw [List.mem_singleton.mp hk]; omega, by simp; omega⟩
    have no : K none := hn ⟨l, rfl, fun k hk => by have := h1 k hk; omega, by omega⟩
    walk_at "ev"
    split
    · exact yes
    · refine ⟨by decide, fun u hu => ?_⟩
      split
      · exact yes
      · exact no
  rintro acc ⟨en, rfl, he1, he2⟩
  rw [rngD_len, Int.toNat_natCast] at he1 he2
  walk_at "ev"
  have ml : (qs.map symD).length = qs.length := List.length_map ..
  have q0 : 0 < qs.length := List.length_pos_iff.mpr hq
  rw [ml]
  have w1 : ((c : Int) * (qs.length : Int)) = ((c * qs.length : Nat) : Int) := by rw [Int.natCast_mul]
  have w2 : ((c * qs.length : Nat) : Int) * (c : Int) = ((c * qs.length * c : Nat) : Int) := by rw [Int.natCast_mul (c * qs.length)]
  have b1 : c * qs.length ≤ 6 * 3 := Nat.mul_le_mul hc hl
  have b2 : c * qs.length * c ≤ 18 * 6 := Nat.mul_le_mul b1 hc
  simp only [w1, w2]
  generalize hwh : c * qs.length * c = whole at b2
  refine ⟨.inl (by omega), .inl (by omega), .inl (by omega), by omega, fun v2 hv2 => ⟨by omega, by omega, ?_⟩⟩
  refine lcW_inv (fun i acc => ∃ l : List Nat, acc = l.map natD) ⟨[], rfl⟩ ?_ (szl (by rw [rngD_len]; omega)) ?_
  · rintro i x acc K hx ⟨l, rfl⟩ hn hs
    obtain ⟨hi, rfl⟩ := rngD_get hx
    walk_at "ev"
    refine ⟨by omega, fun u hu => hs _ ⟨l ++ [u], by simp⟩⟩
  rintro acc ⟨ch, rfl⟩
  refine ⟨by decide, by omega, by omega, ?_⟩
  rw [Int.toNat_natCast]
  refine forW_inv (fun i ρ => ∃ (es : List Ed) (w10 : Option D), ρ = [some .tape, some (.p (.list (qs.map symD))), some (.p (.int (c : Nat))), some (.p (.int (f1 : Nat))), some (.p (.int (f2 : Nat))), some (.p (.list (st.map natD))), some (.p (.list (en.map natD))), some (.p (.int (whole : Nat))), some (.p (.list (ch.map natD))), some (.own (es.map edD)), w10] ∧ es.length ≤ i ∧ ∀ e ∈ es, e.1 < c ∧ e.2.2 < c) ⟨[], none, rfl, by simp, by simp⟩ ?_ ?_
  · rintro i x ρ K hx ⟨es, w10, rfl, h1, h2⟩ hK
    obtain ⟨hi, rfl⟩ := rngD_get hx
    have c0 : 0 < c := by
      rcases Nat.eq_zero_or_pos c with h | h
      · rw [h] at hwh; simp at hwh; omega
      · exact h
    have cm0 : 0 < c * qs.length := Nat.mul_pos c0 q0
    have e1 : ((i : Nat) : Int) / ((c * qs.length : Nat) : Int) = ((i / (c * qs.length) : Nat) : Int) := by rw [Int.natCast_ediv]
    have e2 : (((i : Nat) : Int) / (c : Int)) % (qs.length : Int) = ((i / c % qs.length : Nat) : Int) := by rw [Int.natCast_emod, Int.natCast_ediv]
    have e3 : ((i : Nat) : Int) % (c : Int) = ((i % c : Nat) : Int) := by rw [Int.natCast_emod]
    have l1 : i / (c * qs.length) < c := by
      rw [Nat.div_lt_iff_lt_mul cm0, Nat.mul_comm, hwh]; exact hi
    have l2 : i / c % qs.length < qs.length := Nat.mod_lt _ q0
    have l3 : i % c < c := Nat.mod_lt _ c0
    walk_at "ev"
    rw [anyN]
    refine ⟨inOk_n _ _, ?_⟩
    split
    · rw [ml, w1]
      refine ⟨.inl (by omega), ⟨by omega, by omega⟩, ⟨by omega, by omega⟩, by omega, ?_⟩
      rw [e2]
      refine ⟨_, map_get (get_lt l2), ?_⟩
      rw [e3, e1]
      refine ⟨by omega, by decide, by rw [List.length_map]; omega, ?_⟩
      refine hK _ ⟨es ++ [(i / (c * qs.length), qs[i / c % qs.length]'l2, i % c)], _, by rw [List.map_append]; rfl, by simp; omega, ?_⟩
      intro e he
      rcases List.mem_append.mp he with he | he
      · exact h2 e he
      · rw [List.mem_singleton.mp he]; exact ⟨l1, l3⟩
    · exact hK _ ⟨es, _, rfl, by omega, h2⟩
  rintro ρ ⟨es, w10, rfl, h1, h2⟩
  rw [rngD_len] at h1
  walk_at "ev"
  exact ⟨by decide, q ⟨c, st, en, es⟩ ⟨hc, hs1, he1, h2, by show st.length ≤ 6; omega, by show en.length ≤ 6; omega, by show es.length ≤ 108; omega⟩⟩
theorem pf_lawnet : ∀ xs Qd, s2 S_lawnet xs Qd → t_lawnet (s2 S_draw) (endsOf Qd) (iniR xs 9) := s2_on fun x0 x1 Q h => pf0_lawnet x0 x1 Q h
def S_lawahead (a : D) (Q : D → Prop) : Prop := ∃ n : Net, a = .p n.d ∧ n.Fit 1000 ∧ ∀ T : List Nat, (∀ x, x < n.c → (x ∈ T ↔ Rch n.st n.fw x)) → Q (.nw (seD T n.c))

set_option maxHeartbeats 1000000 in
theorem pf0_lawahead (x0 : D) (Q : D → Prop) (h : S_lawahead x0 Q) : t_lawahead (endsOf Q) [some x0, none, none, none, none] := by
  obtain ⟨n, rfl, ok, q⟩ := h
  unfold t_lawahead
  have hc := ok.c
  have ed : n.d = .tuple [natD n.c, .tuple (n.st.map natD), .tuple (n.en.map natD), .tuple (n.ed.map edD)] := rfl
  rw [ed]
  walk_at "ev"
  refine ⟨by omega, by omega, ?_⟩
  rw [Int.toNat_natCast]
  refine lcW_rng n.c (fun _ => .bool false) rfl (fun i hi K hK => ?_) (szl (by omega)) ?_
  · walk_at "ev"
    exact hK
  have e0 : (List.range n.c).map (fun _ => PyData.bool false) = seD [] n.c := List.map_congr_left fun x _ => by simp
  rw [e0, items_map]
  have lenS : ∀ {T : List Nat} {k : Nat}, k < n.c → ixN (seD T n.c).length (k : Int) = some k := fun {T k} hk => by
    rw [seD_len]
    unfold ixN
    rw [if_pos (by omega), if_pos (by omega)]
    simp
  walk_at "ev"
  refine forW_pre2 (l := n.st) (fun pre ρ => ∃ (T : List Nat) (w2 : Option D), ρ = [some (.p (.tuple [natD n.c, .tuple (n.st.map natD), .tuple (n.en.map natD), .tuple (n.ed.map edD)])), some (.own (seD T n.c)), w2, none, none] ∧ T.Nodup ∧ (∀ x, x ∈ T ↔ x ∈ pre)) ⟨[], _, rfl, List.nodup_nil, fun x => Iff.rfl⟩ ?_ ?_
  · rintro pre k post ρ K hp ⟨T, w2, rfl, h1, h2⟩ hK
    have hk : k < n.c := ok.st k (by rw [hp]; simp)
    walk_at "ev"
    refine ⟨k, lenS hk, hK _ ⟨ins T k, _, by rw [seD_set], nd_ins h1, fun x => ?_⟩⟩
    rw [mem_ins, h2, List.mem_append, List.mem_singleton]
  rintro ρ ⟨T0, w2, rfl, h1, h2⟩
  walk_at "ev"
  refine ⟨by omega, by omega, ?_⟩
  rw [Int.toNat_natCast]
  refine forW_inv (fun i ρ => ∃ (T : List Nat) (ch : Bool) (w2 w4 : Option D), ρ = [some (.p (.tuple [natD n.c, .tuple (n.st.map natD), .tuple (n.en.map natD), .tuple (n.ed.map edD)])), some (.own (seD T n.c)), w2, some (.p (.bool ch)), w4] ∧ T.Nodup ∧ (∀ x ∈ T, x < n.c) ∧ (∀ x ∈ n.st, x ∈ T) ∧ (∀ x ∈ T, Rch n.st n.fw x) ∧
    (ch = false → ∀ a b, (a, b) ∈ n.fw → a ∈ T → b ∈ T) ∧ (ch = true → i ≤ T.length)) ⟨T0, true, _, _, rfl, h1, fun x hx => ok.st x ((h2 x).mp hx), fun x hx => (h2 x).mpr hx, fun x hx => .base ((h2 x).mp hx), fun h => (by cases h), fun _ => by omega⟩ ?_ ?_
  · rintro i x ρ K hx ⟨T, ch, w2, w4, rfl, g1, g2, g3, g4, g5, g6⟩ hK
    obtain ⟨hi, rfl⟩ := rngD_get hx
    cases ch with
    | false =>
      walk_at "ev"
      exact hK _ ⟨T, false, _, _, rfl, g1, g2, g3, g4, g5, fun h => (by cases h)⟩
    | true =>
      walk_at "ev"
      rw [items_map]
      refine forW_pre2 (l := n.ed) (fun pre ρ => ∃ (U : List Nat) (ch : Bool) (w4 : Option D), ρ = [some (.p (.tuple [natD n.c, .tuple (n.st.map natD), .tuple (n.en.map natD), .tuple (n.ed.map edD)])), some (.own (seD U n.c)), some (.p (.int (i : Nat))), some (.p (.bool ch)), w4] ∧ U.Nodup ∧ (∀ x ∈ U, x < n.c) ∧ (∀ x ∈ T, x ∈ U) ∧ (∀ x ∈ U, Rch n.st n.fw x) ∧
        (ch = false → U = T ∧ ∀ e ∈ pre, e.1 ∈ U → e.2.2 ∈ U) ∧ (ch = true → T.length < U.length)) ⟨T, false, _, rfl, g1, g2, fun x h => h, g4, fun _ => ⟨rfl, fun e he => by cases he⟩, fun h => (by cases h)⟩ ?_ ?_
      · rintro pre e post ρ K2 hp ⟨U, ch, w4, rfl, u1, u2, u3, u4, u5, u6⟩ hK2
        have he := ok.ed e (by rw [hp]; simp)
        have hem : (e.1, e.2.2) ∈ n.fw := List.mem_map.mpr ⟨e, by rw [hp]; simp, rfl⟩
        simp only [edD]
        walk_at "ev"
        refine ⟨_, seD_at he.1, ?_⟩
        walk_at "ev"
        have stay : (e.1 ∈ U → e.2.2 ∈ U) → K2 [some (.p (.tuple [natD n.c, .tuple (n.st.map natD), .tuple (n.en.map natD), .tuple (n.ed.map edD)])), some (.own (seD U n.c)), some (.p (.int (i : Nat))), some (.p (.bool ch)), some (.p (edD e))] := fun hh => hK2 _ ⟨U, ch, _, rfl, u1, u2, u3, u4, fun h => ⟨(u5 h).1, fun e' he' => (List.mem_append.mp he').elim ((u5 h).2 e') fun z => by rw [List.mem_singleton.mp z]; exact hh⟩, u6⟩
        split
        · rename_i ha
          refine ⟨_, seD_at he.2, ?_⟩
          walk_at "ev"
          split
          · rename_i hb
            have hb : e.2.2 ∉ U := by simpa using hb
            refine ⟨e.2.2, lenS he.2, hK2 _ ⟨ins U e.2.2, true, some (.p (edD e)), by rw [seD_set]; rfl, nd_ins u1, fun x hx => ?_, fun x hx => mem_ins.mpr (.inl (u3 x hx)), fun x hx => ?_, fun h => (by cases h), fun _ => ?_⟩⟩
            · rcases mem_ins.mp hx with h | h
              · exact u2 x h
              · rw [h]; exact he.2
            · rcases mem_ins.mp hx with h | h
              · exact u4 x h
              · rw [h]; exact .step (u4 _ (by simpa using ha)) hem
            · have : (ins U e.2.2).length = U.length + 1 := by unfold ins; rw [if_neg hb]; simp
              rw [this]
              cases ch with
              | false => rw [(u5 rfl).1]; omega
              | true => have := u6 rfl; omega
          · rename_i hb
            exact stay fun _ => by simpa using hb
        · rename_i ha
          exact stay fun z => absurd z (by simpa using ha)
      · rintro ρ ⟨U, ch, w4, rfl, u1, u2, u3, u4, u5, u6⟩
        refine hK _ ⟨U, ch, _, _, rfl, u1, u2, fun x hx => u3 x (g3 x hx), u4, fun h a b hab ha => ?_, fun h => by have := u6 h; have := g6 rfl; omega⟩
        obtain ⟨e, he, hee⟩ := List.mem_map.mp hab
        cases hee
        exact (u5 h).2 e he ha
  rintro ρ ⟨T, ch, w2, w4, rfl, g1, g2, g3, g4, g5, g6⟩
  rw [rngD_len] at g6
  walk_at "ev"
  refine q T fun x hx => ⟨g4 x, fun h => ?_⟩
  cases ch with
  | false => exact h.sub g3 (g5 rfl)
  | true => exact full g1 g2 (g6 rfl) hx
theorem pf_lawahead : ∀ xs Qd, s1 S_lawahead xs Qd → t_lawahead (endsOf Qd) (iniR xs 4) := s1_on fun x0 Q h => pf0_lawahead x0 Q h
def S_lawbehind (a : D) (Q : D → Prop) : Prop := ∃ n : Net, a = .p n.d ∧ n.Fit 1000 ∧ ∀ T : List Nat, (∀ x, x < n.c → (x ∈ T ↔ Rch n.en n.bw x)) → Q (.nw (seD T n.c))

set_option maxHeartbeats 1000000 in
theorem pf0_lawbehind (x0 : D) (Q : D → Prop) (h : S_lawbehind x0 Q) : t_lawbehind (endsOf Q) [some x0, none, none, none, none] := by
  obtain ⟨n, rfl, ok, q⟩ := h
  unfold t_lawbehind
  have hc := ok.c
  have ed : n.d = .tuple [natD n.c, .tuple (n.st.map natD), .tuple (n.en.map natD), .tuple (n.ed.map edD)] := rfl
  rw [ed]
  walk_at "ev"
  refine ⟨by omega, by omega, ?_⟩
  rw [Int.toNat_natCast]
  refine lcW_rng n.c (fun _ => .bool false) rfl (fun i hi K hK => ?_) (szl (by omega)) ?_
  · walk_at "ev"
    exact hK
  have e0 : (List.range n.c).map (fun _ => PyData.bool false) = seD [] n.c := List.map_congr_left fun x _ => by simp
  rw [e0, items_map]
  have lenS : ∀ {T : List Nat} {k : Nat}, k < n.c → ixN (seD T n.c).length (k : Int) = some k := fun {T k} hk => by
    rw [seD_len]
    unfold ixN
    rw [if_pos (by omega), if_pos (by omega)]
    simp
  walk_at "ev"
  refine forW_pre2 (l := n.en) (fun pre ρ => ∃ (T : List Nat) (w2 : Option D), ρ = [some (.p (.tuple [natD n.c, .tuple (n.st.map natD), .tuple (n.en.map natD), .tuple (n.ed.map edD)])), some (.own (seD T n.c)), w2, none, none] ∧ T.Nodup ∧ (∀ x, x ∈ T ↔ x ∈ pre)) ⟨[], _, rfl, List.nodup_nil, fun x => Iff.rfl⟩ ?_ ?_
  · rintro pre k post ρ K hp ⟨T, w2, rfl, h1, h2⟩ hK
    have hk : k < n.c := ok.en k (by rw [hp]; simp)
    walk_at "ev"
    refine ⟨k, lenS hk, hK _ ⟨ins T k, _, by rw [seD_set], nd_ins h1, fun x => ?_⟩⟩
    rw [mem_ins, h2, List.mem_append, List.mem_singleton]
  rintro ρ ⟨T0, w2, rfl, h1, h2⟩
  walk_at "ev"
  refine ⟨by omega, by omega, ?_⟩
  rw [Int.toNat_natCast]
  refine forW_inv (fun i ρ => ∃ (T : List Nat) (ch : Bool) (w2 w4 : Option D), ρ = [some (.p (.tuple [natD n.c, .tuple (n.st.map natD), .tuple (n.en.map natD), .tuple (n.ed.map edD)])), some (.own (seD T n.c)), w2, some (.p (.bool ch)), w4] ∧ T.Nodup ∧ (∀ x ∈ T, x < n.c) ∧ (∀ x ∈ n.en, x ∈ T) ∧ (∀ x ∈ T, Rch n.en n.bw x) ∧
    (ch = false → ∀ a b, (a, b) ∈ n.bw → a ∈ T → b ∈ T) ∧ (ch = true → i ≤ T.length)) ⟨T0, true, _, _, rfl, h1, fun x hx => ok.en x ((h2 x).mp hx), fun x hx => (h2 x).mpr hx, fun x hx => .base ((h2 x).mp hx), fun h => (by cases h), fun _ => by omega⟩ ?_ ?_
  · rintro i x ρ K hx ⟨T, ch, w2, w4, rfl, g1, g2, g3, g4, g5, g6⟩ hK
    obtain ⟨hi, rfl⟩ := rngD_get hx
    cases ch with
    | false =>
      walk_at "ev"
      exact hK _ ⟨T, false, _, _, rfl, g1, g2, g3, g4, g5, fun h => (by cases h)⟩
    | true =>
      walk_at "ev"
      rw [items_map]
      refine forW_pre2 (l := n.ed) (fun pre ρ => ∃ (U : List Nat) (ch : Bool) (w4 : Option D), ρ = [some (.p (.tuple [natD n.c, .tuple (n.st.map natD), .tuple (n.en.map natD), .tuple (n.ed.map edD)])), some (.own (seD U n.c)), some (.p (.int (i : Nat))), some (.p (.bool ch)), w4] ∧ U.Nodup ∧ (∀ x ∈ U, x < n.c) ∧ (∀ x ∈ T, x ∈ U) ∧ (∀ x ∈ U, Rch n.en n.bw x) ∧
        (ch = false → U = T ∧ ∀ e ∈ pre, e.2.2 ∈ U → e.1 ∈ U) ∧ (ch = true → T.length < U.length)) ⟨T, false, _, rfl, g1, g2, fun x h => h, g4, fun _ => ⟨rfl, fun e he => by cases he⟩, fun h => (by cases h)⟩ ?_ ?_
      · rintro pre e post ρ K2 hp ⟨U, ch, w4, rfl, u1, u2, u3, u4, u5, u6⟩ hK2
        have he := ok.ed e (by rw [hp]; simp)
        have hem : (e.2.2, e.1) ∈ n.bw := List.mem_map.mpr ⟨e, by rw [hp]; simp, rfl⟩
        simp only [edD]
        walk_at "ev"
        refine ⟨_, seD_at he.2, ?_⟩
        walk_at "ev"
        have stay : (e.2.2 ∈ U → e.1 ∈ U) → K2 [some (.p (.tuple [natD n.c, .tuple (n.st.map natD), .tuple (n.en.map natD), .tuple (n.ed.map edD)])), some (.own (seD U n.c)), some (.p (.int (i : Nat))), some (.p (.bool ch)), some (.p (edD e))] := fun hh => hK2 _ ⟨U, ch, _, rfl, u1, u2, u3, u4, fun h => ⟨(u5 h).1, fun e' he' => (List.mem_append.mp he').elim ((u5 h).2 e') fun z => by rw [List.mem_singleton.mp z]; exact hh⟩, u6⟩
        split
        · rename_i ha
          refine ⟨_, seD_at he.1, ?_⟩
          walk_at "ev"
          split
          · rename_i hb
            have hb : e.1 ∉ U := by simpa using hb
            refine ⟨e.1, lenS he.1, hK2 _ ⟨ins U e.1, true, some (.p (edD e)), by rw [seD_set]; rfl, nd_ins u1, fun x hx => ?_, fun x hx => mem_ins.mpr (.inl (u3 x hx)), fun x hx => ?_, fun h => (by cases h), fun _ => ?_⟩⟩
            · rcases mem_ins.mp hx with h | h
              · exact u2 x h
              · rw [h]; exact he.1
            · rcases mem_ins.mp hx with h | h
              · exact u4 x h
              · rw [h]; exact .step (u4 _ (by simpa using ha)) hem
            · have : (ins U e.1).length = U.length + 1 := by unfold ins; rw [if_neg hb]; simp
              rw [this]
              cases ch with
              | false => rw [(u5 rfl).1]; omega
              | true => have := u6 rfl; omega
          · rename_i hb
            exact stay fun _ => by simpa using hb
        · rename_i ha
          exact stay fun z => absurd z (by simpa using ha)
      · rintro ρ ⟨U, ch, w4, rfl, u1, u2, u3, u4, u5, u6⟩
        refine hK _ ⟨U, ch, _, _, rfl, u1, u2, fun x hx => u3 x (g3 x hx), u4, fun h a b hab ha => ?_, fun h => by have := u6 h; have := g6 rfl; omega⟩
        obtain ⟨e, he, hee⟩ := List.mem_map.mp hab
        cases hee
        exact (u5 h).2 e he ha
  rintro ρ ⟨T, ch, w2, w4, rfl, g1, g2, g3, g4, g5, g6⟩
  rw [rngD_len] at g6
  walk_at "ev"
  refine q T fun x hx => ⟨g4 x, fun h => ?_⟩
  cases ch with
  | false => exact h.sub g3 (g5 rfl)
  | true => exact full g1 g2 (g6 rfl) hx
theorem pf_lawbehind : ∀ xs Qd, s1 S_lawbehind xs Qd → t_lawbehind (endsOf Qd) (iniR xs 4) := s1_on fun x0 Q h => pf0_lawbehind x0 Q h
-- rec=2
def S_lawsame (m : Nat) (a b : D) (Q : D → Prop) : Prop := ∃ d : PyData, a = .p d ∧ b = .p d ∧ smD m d = true ∧ Q (.p (.bool true))
theorem z_lawsame : ∀ xs Q, ¬ s2 (S_lawsame 0) xs Q := s2_on fun a b Q h => by
  obtain ⟨_, _, _, h, _⟩ := h
  cases h

set_option maxHeartbeats 1000000 in
theorem pf0_lawsame (m : Nat) (x0 x1 : D) (Q : D → Prop) (h : S_lawsame (m + 1) x0 x1 Q) : t_lawsame (s2 (S_lawsame m)) (endsOf Q) [some x0, some x1, none] := by
  obtain ⟨d, rfl, rfl, hs, q⟩ := h
  unfold t_lawsame
  have i1 : ∀ (T : String) (d : PyData), isiB T (.p d) = match d with
    | .tuple _ => kitB "tuple" T | .list _ => kitB "list" T | .str _ => kitB "str" T | .int _ => kitB "int" T | .bool _ => kitB "bool" T | .none => kitB "NoneType" T | _ => none := fun T d => by cases d <;> rfl
  cases d with
  | none => walk_at "ev"; exact q
  | bool b =>
    walk_at "ev"
    simp only [i1, show kitB "bool" "bool" = some true from rfl]
    walk_at "ev"
    simpa using q
  | int i =>
    walk_at "ev"
    simp only [i1, show kitB "int" "bool" = some false from rfl, show kitB "int" "int" = some true from rfl]
    walk_at "ev"
    simpa using q
  | str s =>
    walk_at "ev"
    simp only [i1, show kitB "str" "bool" = some false from rfl, show kitB "str" "int" = some false from rfl, show kitB "str" "str" = some true from rfl]
    walk_at "ev"
    simpa using q
  | tuple ds =>
    simp only [smD, Bool.and_eq_true, List.all_eq_true, decide_eq_true_eq] at hs
    walk_at "ev"
    simp only [i1, show kitB "tuple" "bool" = some false from rfl, show kitB "tuple" "int" = some false from rfl, show kitB "tuple" "str" = some false from rfl, show kitB "tuple" "tuple" = some true from rfl]
    walk_at "ev"
    refine ⟨by omega, by omega, forW_inv (fun i ρ => ∃ w, ρ = [some (.p (.tuple ds)), some (.p (.tuple ds)), w]) ⟨none, rfl⟩ ?_ ?_⟩
    · rintro i x ρ K hx ⟨w, rfl⟩ hK
      obtain ⟨hi, rfl⟩ := rngD_get hx
      walk_at "ev"
      have hi : i < ds.length := by omega
      have e : atI ds (i : Int) = some (ds[i]'hi) := by rw [atI_cast, get_lt hi]
      refine ⟨_, e, _, e, _, rfl, rfl, hs.1 _ (List.getElem_mem hi), ?_⟩
      walk_at "ev"
      exact hK _ ⟨_, rfl⟩
    · rintro ρ ⟨w, rfl⟩
      exact q
  | list ds => cases hs
  | dict ds => cases hs
theorem pf_lawsame : ∀ m xs Qd, s2 (S_lawsame (m + 1)) xs Qd → t_lawsame (s2 (S_lawsame m)) (endsOf Qd) (iniR xs 1) := fun m => s2_on fun x0 x1 Q h => pf0_lawsame m x0 x1 Q h

def S_lawring (t a : D) (Q : D → Prop) : Prop := t = .tape ∧ ∃ qs : List (Nat × Nat), a = .p (.list (qs.map symD)) ∧ qs ≠ [] ∧ qs.length ≤ 1000 ∧ ∀ n : Net, n.Fit 1000 → Q (.p n.d)

set_option maxHeartbeats 1000000 in
theorem pf0_lawring (x0 x1 : D) (Q : D → Prop) (h : S_lawring x0 x1 Q) : t_lawring (s2 S_draw) (endsOf Q) [some x0, some x1, none, none, none, none, none, none] := by
  obtain ⟨rfl, qs, rfl, hq, hl, q⟩ := h
  have q0 : 0 < qs.length := List.length_pos_iff.mpr hq
  unfold t_lawring
  walk_at "ev"
  refine ⟨by decide, fun r hr => ⟨by decide, by decide, fun v hv => ?_⟩⟩
  obtain ⟨d, hd1, hd2⟩ := pickD [PyData.int 30, .int 60, .int 199, .int 200, .int (30 + (r : Int))] (v := v) (by show v < 5; omega)
  obtain ⟨c, rfl, hc1, hc2⟩ : ∃ c : Nat, d = .int (c : Nat) ∧ 30 ≤ c ∧ c ≤ 200 := by
    simp only [List.mem_cons, List.not_mem_nil, or_false] at hd1
    rcases hd1 with h | h | h | h | h
    · exact ⟨30, h, by decide, by decide⟩
    · exact ⟨60, h, by decide, by decide⟩
    · exact ⟨199, h, by decide, by decide⟩
    · exact ⟨200, h, by decide, by decide⟩
    · exact ⟨30 + r, by rw [h]; congr 1, by omega, by omega⟩
  refine ⟨_, hd2, ?_⟩
  walk_at "ev"
  refine ⟨by decide, by decide, fun u hu => ?_⟩
  obtain ⟨d, hd1, hd2⟩ := pickD [PyData.int 1, .int ((c : Int) - 1)] (v := u) (by show u < 2; omega)
  obtain ⟨st, rfl, hs1, hs2⟩ : ∃ st : Nat, d = .int (st : Nat) ∧ 1 ≤ st ∧ st < c := by
    simp only [List.mem_cons, List.not_mem_nil, or_false] at hd1
    rcases hd1 with h | h
    · exact ⟨1, h, by decide, by omega⟩
    · exact ⟨c - 1, by rw [h]; congr 1; omega, by omega, by omega⟩
  refine ⟨_, hd2, ?_⟩
  walk_at "ev"
  refine ⟨by omega, by omega, ?_⟩
  rw [Int.toNat_natCast]
  refine lcW_all edD (fun e => e.1 < c ∧ e.2.2 < c) (szl (by omega)) (fun i hi K hK => ?_) fun es he1 he2 => ?_
  · walk_at "ev"
    rw [List.length_map]
    have him : i % qs.length < qs.length := Nat.mod_lt _ q0
    have hic : (i + st) % c < c := Nat.mod_lt _ (by omega)
    refine ⟨by omega, _, by rw [← Int.natCast_emod]; exact map_at (0, 0) him, by omega, by decide, ?_⟩
    rw [show ((i : Int) + (st : Int)) % (c : Int) = (((i + st) % c : Nat) : Int) by rw [Int.natCast_emod, Int.natCast_add]]
    exact hK (i, qs.getD (i % qs.length) (0, 0), (i + st) % c) ⟨hi, hic⟩
  · walk_at "ev"
    refine ⟨by omega, fun w1 hw1 => ⟨by decide, by decide, fun w2 hw2 => ?_⟩⟩
    obtain ⟨d, hd1, hd2⟩ := pickD [PyData.int 0, .int ((c : Int) - 1), .int (w1 : Int)] (v := w2) (by show w2 < 3; omega)
    obtain ⟨s0, rfl, hs0⟩ : ∃ s0 : Nat, d = .int (s0 : Nat) ∧ s0 < c := by
      simp only [List.mem_cons, List.not_mem_nil, or_false] at hd1
      rcases hd1 with h | h | h
      · exact ⟨0, h, by omega⟩
      · exact ⟨c - 1, by rw [h]; congr 1; omega, by omega⟩
      · exact ⟨w1, h, by omega⟩
    refine ⟨_, hd2, ?_⟩
    refine cut_by (fun ρ => ∃ (fs : List Ed) (w6 : Option D), fs.length ≤ 400 ∧ (∀ e ∈ fs, e.1 < c ∧ e.2.2 < c) ∧ ρ = [some .tape, some (.p (.list (qs.map symD))), some (.p (.int (c : Nat))), some (.p (.int (st : Nat))), some (.p (.list (fs.map edD))), some (.p (.int (s0 : Nat))), w6, none]) ?_ ?_
    · intro K hK
      walk_at "ev"
      refine ⟨by decide, fun w3 hw3 => ?_⟩
      split
      · rw [show (s0 : Int) + (c : Int) - (st : Int) = ((s0 + c - st : Nat) : Int) by omega, ← Int.natCast_emod]
        generalize (s0 + c - st) % c = k
        rw [show ((k : Nat) : Int) + 1 = ((k + 1 : Nat) : Int) by omega]
        rw [cutD_to, cutD_from, ← List.map_take, ← List.map_drop, ← List.map_append]
        have t1 : (es.take k).length ≤ es.length := by rw [List.length_take]; omega
        have t2 : (es.drop (k + 1)).length ≤ es.length := by rw [List.length_drop]; omega
        refine ⟨by omega, by rw [List.length_map]; show _ ≤ 16777216; omega, by rw [List.length_map]; show _ ≤ 16777216; omega, by rw [List.length_map, List.length_map]; show _ ≤ 16777216; omega, hK _ ⟨es.take k ++ es.drop (k + 1), _, by rw [List.length_append]; omega, fun e he => ?_, rfl⟩⟩
        rcases List.mem_append.mp he with h | h
        · exact he2 e (List.mem_of_mem_take h)
        · exact he2 e (List.mem_of_mem_drop h)
      · exact hK _ ⟨es, _, by omega, he2, rfl⟩
    rintro ρ ⟨fs, w6, hf1, hf2, rfl⟩
    walk_at "ev"
    refine ⟨by decide, by omega, fun w4 hw4 => ⟨by decide, by decide, ?_⟩⟩
    refine q ⟨c, [s0], [w4], fs⟩ ⟨by show c ≤ 1000; omega, fun k hk => by rw [List.mem_singleton.mp hk]; exact hs0, fun k hk => by rw [List.mem_singleton.mp hk]; show w4 < c; omega, hf2, ⟨by show 1 ≤ 1000; decide, by show 1 ≤ 1000; decide, by show fs.length ≤ 1000; omega⟩⟩
theorem pf_lawring : ∀ xs Qd, s2 S_lawring xs Qd → t_lawring (s2 S_draw) (endsOf Qd) (iniR xs 6) := s2_on fun x0 x1 Q h => pf0_lawring x0 x1 Q h
def S_reachedfrom (a b : D) (Q : D → Prop) : Prop := ∃ (S : List Nat) (ps : List (Nat × Nat)) (m : Nat), a = .p (.tuple (S.map natD)) ∧ b = .p (.list (ps.map fun p => .tuple [natD p.1, natD p.2])) ∧ S.length ≤ 1000 ∧ ps.length ≤ 1000 ∧ m ≤ 1000 ∧ (∀ x ∈ S, x < m) ∧ (∀ p ∈ ps, p.1 < m ∧ p.2 < m) ∧
  ∀ ks : List Nat, ks.length ≤ 2000 → (∀ x, x ∈ ks ↔ Rch S ps x) → Q (.p (.dict (ks.map fun k => (natD k, .bool true))))

set_option maxHeartbeats 1000000 in
theorem pf0_reachedfrom (x0 x1 : D) (Q : D → Prop) (h : S_reachedfrom x0 x1 Q) : t_reachedfrom (endsOf Q) [some x0, some x1, none, none, none, none, none, none] := by
  obtain ⟨S, ps, m, rfl, rfl, hS, hps, hm, hS2, hp2, q⟩ := h
  unfold t_reachedfrom
  walk_at "ev"
  rw [items_map]
  refine forW_pre2 (l := ps) (fun pre ρ => ∃ (w3 w4 : Option D), ρ = [some (.p (.tuple (S.map natD))), some (.p (.list (ps.map fun p => .tuple [natD p.1, natD p.2]))), some (.ot (ffM pre)), w3, w4, none, none, none]) ⟨_, _, rfl⟩ ?_ ?_
  · rintro pre p post ρ K hp ⟨w3, w4, rfl⟩ hK
    have hl : pre.length < 1000 := by
      have : ps.length = pre.length + (post.length + 1) := by rw [hp, List.length_append]; simp
      omega
    walk_at "ev"
    refine ⟨ffS pre, ffMs pre, rfl, ?_⟩
    walk_at "ev"
    refine ⟨uni_nat _ _, ?_, fun j hj => ⟨_, ff_at hj, ?_⟩, ?_⟩
    · unfold ffMs; rw [List.length_map]; have := len_ffK pre; omega
    · rw [List.length_map]; have := len_ffL pre p.1; omega
    · rw [ff_step]; exact hK _ ⟨_, _, rfl⟩
  rintro ρ ⟨w3, w4, rfl⟩
  walk_at "ev"
  refine ⟨_, rfl, ?_⟩
  refine lcD_nat S [] (by simp; omega) (fun x K hx hK => ?_) ?_
  · walk_at "ev"
    exact ⟨_, rfl, hK⟩
  rw [dicA_kv, dat_ff]
  unfold kLiD
  rw [show (D.ot (metM (S.foldl ins []))).dks = some ((S.foldl ins []).map natD, (S.foldl ins []).map fun _ => .leaf (.bool true)) from rfl]
  have hT0 : ∀ x ∈ S.foldl ins [], x < m := fun x h => hS2 x (mem_fold.mp h)
  have hL0 := len_in (nd_fold S) hT0
  refine ⟨szl (by rw [List.length_map]; omega), _, rfl, ?_⟩
  refine while_on (fun ρ => ∃ (T W : List Nat) (w3 w4 w7 : Option D), ρ = [some (D.p (PyData.tuple (S.map natD))), some (D.p (.list (ps.map fun p => .tuple [natD p.1, natD p.2]))), some (D.p (.dict ((ffK ps).map fun k => (natD k, .list ((ffL ps k).map natD))))), w3, w4, some (.ot (metM T)), some (.own (W.map natD)), w7] ∧
    T.Nodup ∧ (∀ x ∈ T, x < m) ∧ (∀ x ∈ T, Rch S ps x) ∧ (∀ x ∈ S, x ∈ T) ∧ (∀ x ∈ W, x ∈ T) ∧ W.length ≤ T.length ∧ ∀ a ∈ T, a ∉ W → ∀ b, (a, b) ∈ ps → b ∈ T)
    (fun ρ => match ρ with | [_, _, _, _, _, some (.ot (.dic ks _)), some (.own ds), _] => 2 * (m - ks.length) + ds.length | _ => 0)
    ⟨_, _, _, _, _, rfl, nd_fold S, hT0, fun x h => .base (mem_fold.mp h), fun x h => mem_fold.mpr h, fun x h => h, Nat.le_refl _, fun a h n => absurd h n⟩ ?_
  rintro ρ ⟨T, W, w3, w4, w7, rfl, g1, g2, g3, g4, g5, g6, g7⟩
  rcases List.eq_nil_or_concat W with rfl | ⟨W, a, rfl⟩
  · walk_at "ev"
    rw [if_neg (by simp)]
    show Q (.p (metM T).dat)
    rw [dat_met]
    have := len_in g1 g2
    refine q T (by omega) fun x => ⟨g3 x, fun h => h.sub g4 fun a b e ha => g7 a ha (fun z => nomatch z) b e⟩
  rw [List.concat_eq_append] at *
  walk_at "ev"
  rw [if_pos (by simp)]
  refine ⟨W.map natD, natD a, by rw [List.map_append]; rfl, by decide, uni_ff _ _, kAt_ff ?_⟩
  have ha : a ∈ T := g5 a (by simp)
  have iT : itOf (.p (.list ((ffL ps a).map natD))) = some (((ffL ps a).map natD).map ItD.one) := rfl
  rw [iT]
  dsimp only
  rw [items_map]
  refine forW_pre2 (l := ffL ps a) (fun pre ρ => ∃ (T2 W2 : List Nat) (w7 : Option D), ρ = [some (D.p (PyData.tuple (S.map natD))), some (D.p (.list (ps.map fun p => .tuple [natD p.1, natD p.2]))), some (D.p (.dict ((ffK ps).map fun k => (natD k, .list ((ffL ps k).map natD))))), some (.p (natD a)), w4, some (.ot (metM T2)), some (.own (W2.map natD)), w7] ∧
    T2.Nodup ∧ (∀ x ∈ T2, x < m) ∧ (∀ x ∈ T2, Rch S ps x) ∧ (∀ x ∈ S, x ∈ T2) ∧ (∀ x ∈ W2, x ∈ T2) ∧ W2.length + 1 ≤ T2.length ∧ a ∈ T2 ∧ (∀ x ∈ pre, x ∈ T2) ∧ (∀ c ∈ T2, c ≠ a → c ∉ W2 → ∀ b, (c, b) ∈ ps → b ∈ T2) ∧ 2 * (m - T2.length) + W2.length ≤ 2 * (m - T.length) + W.length)
    ⟨T, W, _, rfl, g1, g2, g3, g4, fun x h => g5 x (by simp [h]), by simpa using g6, ha, (fun x h => nomatch h), fun c hc n1 n2 b e => g7 c hc (by simp [n1, n2]) b e, Nat.le_refl _⟩ ?_ ?_
  · rintro pre x post ρ K hp ⟨T2, W2, w7, rfl, k1, k2, k3, k4, k5, k6, k7, k8, k9, k10⟩ hK
    have hx : (a, x) ∈ ps := mem_ffL.mp (by rw [hp]; simp)
    have hL := len_in k1 k2
    walk_at "ev"
    have hix := kIx_nat T2 x
    refine ⟨uni_nat T2 x, _, rfl, ?_⟩
    show if (!(kIx (T2.map natD) (natD x)).isSome) = true then _ else _
    by_cases hT : x ∈ T2
    · rw [decide_eq_true hT] at hix
      rw [hix, if_neg (by decide)]
      refine hK _ ⟨T2, W2, _, rfl, k1, k2, k3, k4, k5, k6, k7, fun y hy => ?_, k9, k10⟩
      rcases List.mem_append.mp hy with z | z
      · exact k8 y z
      · rw [List.mem_singleton.mp z]; exact hT
    · rw [decide_eq_false hT] at hix
      rw [hix, if_pos (by decide)]
      have n1 : (T2 ++ [x]).Nodup := by
        have := nd_ins (k := x) k1
        unfold ins at this
        rwa [if_neg hT] at this
      have n2 : ∀ y ∈ T2 ++ [x], y < m := fun y hy => (List.mem_append.mp hy).elim (k2 y) fun z => by rw [List.mem_singleton.mp z]; exact (hp2 _ hx).2
      have hL2 := len_in n1 n2
      rw [List.length_append, List.length_singleton] at hL2
      have e1 := putM_met hT
      refine ⟨_, _, rfl, uni_nat T2 x, by rw [List.length_map]; omega, fun j hj => ?_, by rw [List.length_map]; omega, ?_⟩
      · rw [hj] at hix; cases hix
      rw [e1]
      refine hK _ ⟨T2 ++ [x], W2 ++ [x], _, by rw [List.map_append]; rfl, n1, n2, fun y hy => ?_, fun y hy => List.mem_append_left _ (k4 y hy), fun y hy => ?_, by simp; omega, List.mem_append_left _ k7, fun y hy => ?_, fun c hc c1 c2 b e => ?_, by simp; omega⟩
      · rcases List.mem_append.mp hy with z | z
        · exact k3 y z
        · rw [List.mem_singleton.mp z]; exact .step (k3 a k7) hx
      · rcases List.mem_append.mp hy with z | z
        · exact List.mem_append_left _ (k5 y z)
        · exact List.mem_append_right _ z
      · rcases List.mem_append.mp hy with z | z
        · exact List.mem_append_left _ (k8 y z)
        · exact List.mem_append_right _ z
      · rcases List.mem_append.mp hc with z | z
        · exact List.mem_append_left _ (k9 c z c1 (fun w => c2 (List.mem_append_left _ w)) b e)
        · exact absurd (List.mem_append_right _ z) c2
  rintro ρ ⟨T2, W2, w7, rfl, k1, k2, k3, k4, k5, k6, k7, k8, k9, k10⟩
  refine ⟨⟨T2, W2, _, _, _, rfl, k1, k2, k3, k4, k5, by omega, fun c hc n b e => ?_⟩, ?_⟩
  · by_cases e2 : c = a
    · subst e2; exact k8 b (mem_ffL.mpr e)
    · exact k9 c hc e2 n b e
  · show 2 * (m - ((T2.map natD).length)) + (W2.map natD).length < 2 * (m - ((T.map natD).length)) + ((W ++ [a]).map natD).length
    simp only [List.length_map, List.length_append, List.length_singleton]
    omega
theorem pf_reachedfrom : ∀ xs Qd, s2 S_reachedfrom xs Qd → t_reachedfrom (endsOf Qd) (iniR xs 6) := s2_on fun x0 x1 Q h => pf0_reachedfrom x0 x1 Q h
def S_useful (a : D) (Q : D → Prop) : Prop := ∃ n : Net, a = .p n.d ∧ n.Fit 1000 ∧ ∀ l : List Nat, (∀ p : Nat → Bool, (∀ x, x < n.c → (p x = true ↔ Rch n.st n.fw x ∧ Rch n.en n.bw x)) → l = (List.range n.c).filter p) → Q (.p (.tuple (l.map natD)))

set_option maxHeartbeats 1000000 in
theorem pf0_useful (x0 : D) (Q : D → Prop) (h : S_useful x0 Q) : t_useful (s2 S_reachedfrom) (endsOf Q) [some x0, none, none, none, none, none, none, none, none, none, none] := by
  obtain ⟨n, rfl, ok, q⟩ := h
  unfold t_useful
  have ed : n.d = .tuple [natD n.c, .tuple (n.st.map natD), .tuple (n.en.map natD), .tuple (n.ed.map edD)] := rfl
  rw [ed]
  walk_at "ev"
  obtain ⟨o1, o2, o3⟩ := ok.len
  rw [items_map]
  refine lcW_ofA (fun e : Ed => PyData.tuple [natD e.1, natD e.2.2]) (fun e _ K hK => ?_) (by show 0 + _ ≤ 16777216; omega) ?_
  · simp only [edD]
    walk_at "ev"
    exact ⟨by decide, hK⟩
  rw [List.nil_append, show (n.ed.map fun e : Ed => PyData.tuple [natD e.1, natD e.2.2]) = n.fw.map fun p => .tuple [natD p.1, natD p.2] by unfold Net.fw; rw [List.map_map]; rfl]
  refine ⟨n.st, n.fw, n.c, rfl, rfl, o1, by unfold Net.fw; rw [List.length_map]; exact o3, ok.c, ok.st, fun p hp => ?_, fun ks hk1 hk2 => ?_⟩
  · obtain ⟨e, he, rfl⟩ := List.mem_map.mp hp
    exact ok.ed e he
  walk_at "ev"
  refine lcW_ofA (fun e : Ed => PyData.tuple [natD e.2.2, natD e.1]) (fun e _ K hK => ?_) (by show 0 + _ ≤ 16777216; omega) ?_
  · simp only [edD]
    walk_at "ev"
    exact ⟨by decide, hK⟩
  rw [List.nil_append, show (n.ed.map fun e : Ed => PyData.tuple [natD e.2.2, natD e.1]) = n.bw.map fun p => .tuple [natD p.1, natD p.2] by unfold Net.bw; rw [List.map_map]; rfl]
  refine ⟨n.en, n.bw, n.c, rfl, rfl, o2, by unfold Net.bw; rw [List.length_map]; exact o3, ok.c, ok.en, fun p hp => ?_, fun js hj1 hj2 => ?_⟩
  · obtain ⟨e, he, rfl⟩ := List.mem_map.mp hp
    exact ⟨(ok.ed e he).2, (ok.ed e he).1⟩
  walk_at "ev"
  have hc := ok.c
  refine ⟨by omega, by omega, ?_⟩
  rw [Int.toNat_natCast, rng_map]
  have kx : ∀ (ks : List Nat) (x : Nat), uniB ((ks.map fun k => (natD k, PyData.bool true)).map (·.1)) (natD x) = true ∧ (kIx ((ks.map fun k => (natD k, PyData.bool true)).map (·.1)) (natD x)).isSome = decide (x ∈ ks) := fun ks x => by
    rw [List.map_map]
    show uniB (ks.map natD) (natD x) = true ∧ (kIx (ks.map natD) (natD x)).isSome = decide (x ∈ ks)
    exact ⟨uni_nat ks x, kIx_nat ks x⟩
  refine lcW_keep natD (fun x => decide (x ∈ ks) && decide (x ∈ js)) (fun x hx K k1 k0 => ?_) (by rw [List.length_range]; show 0 + _ ≤ 16777216; omega) ?_
  · walk_at "ev"
    refine ⟨(kx ks x).1, ?_⟩
    rw [(kx ks x).2]
    split
    · rename_i h1
      refine ⟨(kx js x).1, ?_⟩
      rw [(kx js x).2]
      split
      · rename_i h2
        exact k1 (by rw [h1, h2]; rfl)
      · rename_i h2
        exact k0 (by rw [Bool.not_eq_true] at h2; rw [h2, Bool.and_false])
    · rename_i h1
      exact k0 (by rw [Bool.not_eq_true] at h1; rw [h1, Bool.false_and])
  · rw [List.nil_append]
    walk_at "ev"
    refine q _ fun p hp => List.filter_congr fun x hx => ?_
    rw [Bool.eq_iff_iff, Bool.and_eq_true, decide_eq_true_eq, decide_eq_true_eq, hk2, hj2, hp x (List.mem_range.mp hx)]
theorem pf_useful : ∀ xs Qd, s1 S_useful xs Qd → t_useful (s2 S_reachedfrom) (endsOf Qd) (iniR xs 10) := s1_on fun x0 Q h => pf0_useful x0 Q h

set_option maxHeartbeats 1000000 in
theorem pf_law : t_law (s1 S_lawsigns) (s2 S_lawnet) (s2 S_draw) (s2 S_lawring) (s1 S_lawahead) (s1 S_lawbehind) (s1 S_useful) (s2 (S_lawsame 2)) endsLaw (none :: some .tape :: [none, none, none, none, none, none]) := by
  unfold t_law
  walk_at "ev"
  refine ⟨rfl, fun qs hq hl _ => ?_⟩
  walk_at "ev"
  refine ⟨rfl, qs, rfl, hq, hl, fun n0 ok0 => ?_⟩
  walk_at "ev"
  refine cut_by (fun ρ => ∃ n : Net, n.Fit 1000 ∧ ρ = [none, some .tape, some (.p (.list (qs.map symD))), some (.p n.d), none, none, none, none]) ?_ ?_
  · intro K hK
    walk_at "ev"
    refine ⟨by decide, fun v hv => ?_⟩
    split
    · refine ⟨rfl, qs, rfl, hq, by omega, fun n ok => ?_⟩
      walk_at "ev"
      exact hK _ ⟨n, ok, rfl⟩
    · exact hK _ ⟨n0, ok0.fit, rfl⟩
  rintro ρ ⟨n, ok, rfl⟩
  walk_at "ev"
  refine ⟨n, rfl, ok, fun T hT => ?_⟩
  walk_at "ev"
  refine ⟨n, rfl, ok, fun U hU => ?_⟩
  have ed : n.d = .tuple [natD n.c, .tuple (n.st.map natD), .tuple (n.en.map natD), .tuple (n.ed.map edD)] := rfl
  have hc := ok.c
  rw [ed]
  walk_at "ev"
  refine ⟨by omega, by omega, ?_⟩
  rw [Int.toNat_natCast, rng_map]
  refine lcW_keep natD (fun x => decide (x ∈ T) && decide (x ∈ U)) (fun x hx K k1 k0 => ?_) (by rw [List.length_range]; show 0 + _ ≤ 16777216; omega) ?_
  · have hx := List.mem_range.mp hx
    walk_at "ev"
    refine ⟨_, seD_at hx, ?_⟩
    walk_at "ev"
    split
    · rename_i h1
      refine ⟨_, seD_at hx, ?_⟩
      walk_at "ev"
      split
      · rename_i h2
        exact k1 (by rw [Bool.and_eq_true, decide_eq_true_eq, decide_eq_true_eq]; exact ⟨by simpa using h1, by simpa using h2⟩)
      · rename_i h2
        exact k0 (by rw [Bool.and_eq_false_iff, decide_eq_false_iff_not, decide_eq_false_iff_not]; exact .inr (by simpa using h2))
    · rename_i h1
      exact k0 (by rw [Bool.and_eq_false_iff, decide_eq_false_iff_not, decide_eq_false_iff_not]; exact .inl (by simpa using h1))
  · rw [List.nil_append]
    walk_at "ev"
    refine ⟨n, rfl, ok, fun l hl2 => ?_⟩
    have el : l = (List.range n.c).filter fun x => decide (x ∈ T) && decide (x ∈ U) := hl2 _ fun x hx => by rw [Bool.and_eq_true, decide_eq_true_eq, decide_eq_true_eq, hT x hx, hU x hx]
    rw [el]
    walk_at "ev"
    have hlen := List.length_filter_le (fun x => decide (x ∈ T) && decide (x ∈ U)) (List.range n.c)
    rw [List.length_range] at hlen
    refine ⟨_, rfl, rfl, ?_, rfl⟩
    simp only [smD, Bool.and_eq_true, List.all_eq_true, decide_eq_true_eq]
    refine ⟨fun d hd => ?_, by rw [List.length_map]; omega⟩
    obtain ⟨x, _, rfl⟩ := List.mem_map.mp hd
    rfl

end
set_option maxHeartbeats 4000000 in
theorem all_mk {l : PySem.W.OpenLaw} {w : World} {K : PySem.W.Frag} {h : Heap} {mg : Str → Option Value} {fa : Addr} (X : K.In h) (G : h.Ns mainGlobals mg) (hfa : mg "law" = some (.ref fa))
    {f1 : Addr} {od1 an1 : Option Addr} {sl1 : Array (Option Value)} {oc1 kV1 dc1 pm1 cd1 ct1 : Value}
    (a1 : PySem.W.nsIn K mainGlobals "_law_tape" = some (some (.ref f1)))
    (l1 : K.lookup f1 = some ⟨oc1, od1, .func (PySem.W.fnOf "_law_tape" "_law_tape" (defArgs s_lawtape) (defBody s_lawtape) (defScope s_lawtape) .none kV1 dc1 pm1 an1 cd1 ct1), sl1⟩)
    (c1 : PySem.W.codeIn K cd1 "_law_tape" = true) (k1 : PySem.W.keepIn K (.ref f1) = true)
    {f2 : Addr} {od2 an2 : Option Addr} {sl2 : Array (Option Value)} {oc2 kV2 dc2 pm2 cd2 ct2 : Value}
    (a2 : PySem.W.nsIn K mainGlobals "_law_symbols" = some (some (.ref f2)))
    (l2 : K.lookup f2 = some ⟨oc2, od2, .func (PySem.W.fnOf "_law_symbols" "_law_symbols" (defArgs s_lawsymbols) (defBody s_lawsymbols) (defScope s_lawsymbols) .none kV2 dc2 pm2 an2 cd2 ct2), sl2⟩)
    (c2 : PySem.W.codeIn K cd2 "_law_symbols" = true) (k2 : PySem.W.keepIn K (.ref f2) = true)
    {f3 : Addr} {od3 an3 : Option Addr} {sl3 : Array (Option Value)} {oc3 kV3 dc3 pm3 cd3 ct3 : Value}
    (a3 : PySem.W.nsIn K mainGlobals "_law_draw" = some (some (.ref f3)))
    (l3 : K.lookup f3 = some ⟨oc3, od3, .func (PySem.W.fnOf "_law_draw" "_law_draw" (defArgs s_lawdraw) (defBody s_lawdraw) (defScope s_lawdraw) .none kV3 dc3 pm3 an3 cd3 ct3), sl3⟩)
    (c3 : PySem.W.codeIn K cd3 "_law_draw" = true) (k3 : PySem.W.keepIn K (.ref f3) = true)
    {f4 : Addr} {od4 an4 : Option Addr} {sl4 : Array (Option Value)} {oc4 kV4 dc4 pm4 cd4 ct4 : Value}
    (a4 : PySem.W.nsIn K mainGlobals "_law_picked" = some (some (.ref f4)))
    (l4 : K.lookup f4 = some ⟨oc4, od4, .func (PySem.W.fnOf "_law_picked" "_law_picked" (defArgs s_lawpicked) (defBody s_lawpicked) (defScope s_lawpicked) .none kV4 dc4 pm4 an4 cd4 ct4), sl4⟩)
    (c4 : PySem.W.codeIn K cd4 "_law_picked" = true) (k4 : PySem.W.keepIn K (.ref f4) = true)
    {f5 : Addr} {od5 an5 : Option Addr} {sl5 : Array (Option Value)} {oc5 kV5 dc5 pm5 cd5 ct5 : Value}
    (a5 : PySem.W.nsIn K mainGlobals "_law_rising" = some (some (.ref f5)))
    (l5 : K.lookup f5 = some ⟨oc5, od5, .func (PySem.W.fnOf "_law_rising" "_law_rising" (defArgs s_lawrising) (defBody s_lawrising) (defScope s_lawrising) .none kV5 dc5 pm5 an5 cd5 ct5), sl5⟩)
    (c5 : PySem.W.codeIn K cd5 "_law_rising" = true) (k5 : PySem.W.keepIn K (.ref f5) = true)
    {f6 : Addr} {od6 an6 : Option Addr} {sl6 : Array (Option Value)} {oc6 kV6 dc6 pm6 cd6 ct6 : Value}
    (a6 : PySem.W.nsIn K mainGlobals "_law_letters" = some (some (.ref f6)))
    (l6 : K.lookup f6 = some ⟨oc6, od6, .func (PySem.W.fnOf "_law_letters" "_law_letters" (defArgs s_lawletters) (defBody s_lawletters) (defScope s_lawletters) .none kV6 dc6 pm6 an6 cd6 ct6), sl6⟩)
    (c6 : PySem.W.codeIn K cd6 "_law_letters" = true) (k6 : PySem.W.keepIn K (.ref f6) = true)
    {f7 : Addr} {od7 an7 : Option Addr} {sl7 : Array (Option Value)} {oc7 kV7 dc7 pm7 cd7 ct7 : Value}
    (a7 : PySem.W.nsIn K mainGlobals "_law_owners" = some (some (.ref f7)))
    (l7 : K.lookup f7 = some ⟨oc7, od7, .func (PySem.W.fnOf "_law_owners" "_law_owners" (defArgs s_lawowners) (defBody s_lawowners) (defScope s_lawowners) .none kV7 dc7 pm7 an7 cd7 ct7), sl7⟩)
    (c7 : PySem.W.codeIn K cd7 "_law_owners" = true) (k7 : PySem.W.keepIn K (.ref f7) = true)
    {f8 : Addr} {od8 an8 : Option Addr} {sl8 : Array (Option Value)} {oc8 kV8 dc8 pm8 cd8 ct8 : Value}
    (a8 : PySem.W.nsIn K mainGlobals "_law_signs" = some (some (.ref f8)))
    (l8 : K.lookup f8 = some ⟨oc8, od8, .func (PySem.W.fnOf "_law_signs" "_law_signs" (defArgs s_lawsigns) (defBody s_lawsigns) (defScope s_lawsigns) .none kV8 dc8 pm8 an8 cd8 ct8), sl8⟩)
    (c8 : PySem.W.codeIn K cd8 "_law_signs" = true) (k8 : PySem.W.keepIn K (.ref f8) = true)
    {f9 : Addr} {od9 an9 : Option Addr} {sl9 : Array (Option Value)} {oc9 kV9 dc9 pm9 cd9 ct9 : Value}
    (a9 : PySem.W.nsIn K mainGlobals "_law_net" = some (some (.ref f9)))
    (l9 : K.lookup f9 = some ⟨oc9, od9, .func (PySem.W.fnOf "_law_net" "_law_net" (defArgs s_lawnet) (defBody s_lawnet) (defScope s_lawnet) .none kV9 dc9 pm9 an9 cd9 ct9), sl9⟩)
    (c9 : PySem.W.codeIn K cd9 "_law_net" = true) (k9 : PySem.W.keepIn K (.ref f9) = true)
    {f10 : Addr} {od10 an10 : Option Addr} {sl10 : Array (Option Value)} {oc10 kV10 dc10 pm10 cd10 ct10 : Value}
    (a10 : PySem.W.nsIn K mainGlobals "_law_ahead" = some (some (.ref f10)))
    (l10 : K.lookup f10 = some ⟨oc10, od10, .func (PySem.W.fnOf "_law_ahead" "_law_ahead" (defArgs s_lawahead) (defBody s_lawahead) (defScope s_lawahead) .none kV10 dc10 pm10 an10 cd10 ct10), sl10⟩)
    (c10 : PySem.W.codeIn K cd10 "_law_ahead" = true) (k10 : PySem.W.keepIn K (.ref f10) = true)
    {f11 : Addr} {od11 an11 : Option Addr} {sl11 : Array (Option Value)} {oc11 kV11 dc11 pm11 cd11 ct11 : Value}
    (a11 : PySem.W.nsIn K mainGlobals "_law_behind" = some (some (.ref f11)))
    (l11 : K.lookup f11 = some ⟨oc11, od11, .func (PySem.W.fnOf "_law_behind" "_law_behind" (defArgs s_lawbehind) (defBody s_lawbehind) (defScope s_lawbehind) .none kV11 dc11 pm11 an11 cd11 ct11), sl11⟩)
    (c11 : PySem.W.codeIn K cd11 "_law_behind" = true) (k11 : PySem.W.keepIn K (.ref f11) = true)
    {f12 : Addr} {od12 an12 : Option Addr} {sl12 : Array (Option Value)} {oc12 kV12 dc12 pm12 cd12 ct12 : Value}
    (a12 : PySem.W.nsIn K mainGlobals "_law_same" = some (some (.ref f12)))
    (l12 : K.lookup f12 = some ⟨oc12, od12, .func (PySem.W.fnOf "_law_same" "_law_same" (defArgs s_lawsame) (defBody s_lawsame) (defScope s_lawsame) .none kV12 dc12 pm12 an12 cd12 ct12), sl12⟩)
    (c12 : PySem.W.codeIn K cd12 "_law_same" = true) (k12 : PySem.W.keepIn K (.ref f12) = true)
    {f13 : Addr} {od13 an13 : Option Addr} {sl13 : Array (Option Value)} {oc13 kV13 dc13 pm13 cd13 ct13 : Value}
    (a13 : PySem.W.nsIn K mainGlobals "_law_ring" = some (some (.ref f13)))
    (l13 : K.lookup f13 = some ⟨oc13, od13, .func (PySem.W.fnOf "_law_ring" "_law_ring" (defArgs s_lawring) (defBody s_lawring) (defScope s_lawring) .none kV13 dc13 pm13 an13 cd13 ct13), sl13⟩)
    (c13 : PySem.W.codeIn K cd13 "_law_ring" = true) (k13 : PySem.W.keepIn K (.ref f13) = true)
    {f14 : Addr} {od14 an14 : Option Addr} {sl14 : Array (Option Value)} {oc14 kV14 dc14 pm14 cd14 ct14 : Value}
    (a14 : PySem.W.nsIn K mainGlobals "reached_from" = some (some (.ref f14)))
    (l14 : K.lookup f14 = some ⟨oc14, od14, .func (PySem.W.fnOf "reached_from" "reached_from" (defArgs s_reachedfrom) (defBody s_reachedfrom) (defScope s_reachedfrom) .none kV14 dc14 pm14 an14 cd14 ct14), sl14⟩)
    (c14 : PySem.W.codeIn K cd14 "reached_from" = true) (k14 : PySem.W.keepIn K (.ref f14) = true)
    {f15 : Addr} {od15 an15 : Option Addr} {sl15 : Array (Option Value)} {oc15 kV15 dc15 pm15 cd15 ct15 : Value}
    (a15 : PySem.W.nsIn K mainGlobals "useful" = some (some (.ref f15)))
    (l15 : K.lookup f15 = some ⟨oc15, od15, .func (PySem.W.fnOf "useful" "useful" (defArgs s_useful) (defBody s_useful) (defScope s_useful) .none kV15 dc15 pm15 an15 cd15 ct15), sl15⟩)
    (c15 : PySem.W.codeIn K cd15 "useful" = true) (k15 : PySem.W.keepIn K (.ref f15) = true)
    {f16 : Addr} {od16 an16 : Option Addr} {sl16 : Array (Option Value)} {oc16 kV16 dc16 pm16 cd16 ct16 : Value}
    (a16 : PySem.W.nsIn K mainGlobals "law" = some (some (.ref f16)))
    (l16 : K.lookup f16 = some ⟨oc16, od16, .func (PySem.W.fnOf "law" "law" (defArgs s_law) (defBody s_law) (defScope s_law) .none kV16 dc16 pm16 an16 cd16 ct16), sl16⟩)
    (c16 : PySem.W.codeIn K cd16 "law" = true) (k16 : PySem.W.keepIn K (.ref f16) = true)
    (z_len : PySem.W.nsIn K mainGlobals "len" = some none)
    (z_max : PySem.W.nsIn K mainGlobals "max" = some none)
    (z_min : PySem.W.nsIn K mainGlobals "min" = some none)
    (z_abs : PySem.W.nsIn K mainGlobals "abs" = some none)
    (z_int : PySem.W.nsIn K mainGlobals "int" = some none)
    (z_list : PySem.W.nsIn K mainGlobals "list" = some none)
    (z_tuple : PySem.W.nsIn K mainGlobals "tuple" = some none)
    (z_range : PySem.W.nsIn K mainGlobals "range" = some none)
    (z_isinstance : PySem.W.nsIn K mainGlobals "isinstance" = some none)
    (z_bool : PySem.W.nsIn K mainGlobals "bool" = some none)
    (z_str : PySem.W.nsIn K mainGlobals "str" = some none)
    : ∃ fd : FuncData, (∀ (s : Shared) (v : Value), BindsTo s fd ⟨[v], []⟩ [("script", v)]) ∧ ∀ base : Heap, K.In base → base.Ns mainGlobals mg → FnG l.prog w K mg base CX0 5 fa fd ["script"] (spLaw K) := by
  have e := hfa.symm.trans (PySem.W.mg_of X G a16)
  cases e
  have B : Bn mg := ⟨PySem.W.mg_none_of X G z_len, PySem.W.mg_none_of X G z_max, PySem.W.mg_none_of X G z_min, PySem.W.mg_none_of X G z_abs, PySem.W.mg_none_of X G z_int, PySem.W.mg_none_of X G z_list, PySem.W.mg_none_of X G z_tuple, PySem.W.mg_none_of X G z_range, PySem.W.mg_none_of X G z_isinstance, PySem.W.mg_none_of X G z_bool, PySem.W.mg_none_of X G z_str⟩
  have D1 : Df K mg "_law_tape" s_lawtape ["script"] := df_mk X G a1 l1 c1 k1 fun _ _ _ _ _ _ us hl => match us, hl with | [_], _ => rfl
  have D2 : Df K mg "_law_symbols" s_lawsymbols ["letters", "owners"] := df_mk X G a2 l2 c2 k2 fun _ _ _ _ _ _ us hl => match us, hl with | [_, _], _ => rfl
  have D3 : Df K mg "_law_draw" s_lawdraw ["tape", "many"] := df_mk X G a3 l3 c3 k3 fun _ _ _ _ _ _ us hl => match us, hl with | [_, _], _ => rfl
  have D4 : Df K mg "_law_picked" s_lawpicked ["tape", "rows", "many"] := df_mk X G a4 l4 c4 k4 fun _ _ _ _ _ _ us hl => match us, hl with | [_, _, _], _ => rfl
  have D5 : Df K mg "_law_rising" s_lawrising ["tape", "signs", "many"] := df_mk X G a5 l5 c5 k5 fun _ _ _ _ _ _ us hl => match us, hl with | [_, _, _], _ => rfl
  have D6 : Df K mg "_law_letters" s_lawletters ["tape"] := df_mk X G a6 l6 c6 k6 fun _ _ _ _ _ _ us hl => match us, hl with | [_], _ => rfl
  have D7 : Df K mg "_law_owners" s_lawowners ["tape"] := df_mk X G a7 l7 c7 k7 fun _ _ _ _ _ _ us hl => match us, hl with | [_], _ => rfl
  have D8 : Df K mg "_law_signs" s_lawsigns ["tape"] := df_mk X G a8 l8 c8 k8 fun _ _ _ _ _ _ us hl => match us, hl with | [_], _ => rfl
  have D9 : Df K mg "_law_net" s_lawnet ["tape", "signs"] := df_mk X G a9 l9 c9 k9 fun _ _ _ _ _ _ us hl => match us, hl with | [_, _], _ => rfl
  have D10 : Df K mg "_law_ahead" s_lawahead ["net"] := df_mk X G a10 l10 c10 k10 fun _ _ _ _ _ _ us hl => match us, hl with | [_], _ => rfl
  have D11 : Df K mg "_law_behind" s_lawbehind ["net"] := df_mk X G a11 l11 c11 k11 fun _ _ _ _ _ _ us hl => match us, hl with | [_], _ => rfl
  have D12 : Df K mg "_law_same" s_lawsame ["told", "due"] := df_mk X G a12 l12 c12 k12 fun _ _ _ _ _ _ us hl => match us, hl with | [_, _], _ => rfl
  have D13 : Df K mg "_law_ring" s_lawring ["tape", "signs"] := df_mk X G a13 l13 c13 k13 fun _ _ _ _ _ _ us hl => match us, hl with | [_, _], _ => rfl
  have D14 : Df K mg "reached_from" s_reachedfrom ["points", "pairs"] := df_mk X G a14 l14 c14 k14 fun _ _ _ _ _ _ us hl => match us, hl with | [_, _], _ => rfl
  have D15 : Df K mg "useful" s_useful ["net"] := df_mk X G a15 l15 c15 k15 fun _ _ _ _ _ _ us hl => match us, hl with | [_], _ => rfl
  refine ⟨PySem.W.fnOf "law" "law" (defArgs s_law) (defBody s_law) (defScope s_law) .none kV16 dc16 pm16 an16 cd16 ct16, fun s v => .of_eq rfl, fun base _ _ => ?_⟩
  letI : TB := ⟨[], w⟩
  refine law_plain rfl ?_
  have C_lawtape := ok0_lawtape (P := l.prog) (base := base) D1 B
  have C_lawsymbols := ok_lawsymbols (k := 0) (P := l.prog) (base := base) D2 B   pf_lawsymbols
  have C_lawdraw := draw_up (ok0_lawdraw (P := l.prog) (base := base) D3 B)
  have C_lawpicked := ok_lawpicked (k := 1) (P := l.prog) (base := base) D4 B (by decide) C_lawdraw  pf_lawpicked
  have C_lawrising := ok_lawrising (k := 1) (P := l.prog) (base := base) D5 B (by decide) C_lawdraw  pf_lawrising
  have C_lawletters := ok_lawletters (k := 2) (P := l.prog) (base := base) D6 B (by decide) C_lawdraw (by decide) C_lawrising  pf_lawletters
  have C_lawowners := ok_lawowners (k := 2) (P := l.prog) (base := base) D7 B (by decide) C_lawdraw (by decide) C_lawrising  pf_lawowners
  have C_lawsigns := ok_lawsigns (k := 3) (P := l.prog) (base := base) D8 B (by decide) C_lawowners (by decide) C_lawletters (by decide) C_lawsymbols (by decide) C_lawdraw (by decide) C_lawpicked  pf_lawsigns
  have C_lawnet := ok_lawnet (k := 1) (P := l.prog) (base := base) D9 B (by decide) C_lawdraw  pf_lawnet
  have C_lawahead := ok_lawahead (k := 0) (P := l.prog) (base := base) D10 B   pf_lawahead
  have C_lawbehind := ok_lawbehind (k := 0) (P := l.prog) (base := base) D11 B   pf_lawbehind
  have C_lawsame := ok_lawsame (k := 0) (SPm := fun m => s2 (S_lawsame m)) (P := l.prog) (base := base) D12 B   z_lawsame pf_lawsame 2
  have C_lawring := ok_lawring (k := 1) (P := l.prog) (base := base) D13 B (by decide) C_lawdraw  pf_lawring
  have C_reachedfrom := ok_reachedfrom (k := 0) (P := l.prog) (base := base) D14 B   pf_reachedfrom
  have C_useful := ok_useful (k := 1) (P := l.prog) (base := base) D15 B (by decide) C_reachedfrom  pf_useful
  exact ok_law (k := 4) (P := l.prog) (base := base) (fun_mk l16 c16 k16) B (by decide) C_lawsigns (by decide) C_lawnet (by decide) C_lawdraw (by decide) C_lawring (by decide) C_lawahead (by decide) C_lawbehind (by decide) C_useful (by decide) C_lawsame (by decide) C_lawtape  pf_law
end My
open PySem PySem.W PyProof.Rows
set_option maxRecDepth 100000 in
set_option maxHeartbeats 0 in
theorem PySem.Challenge.cw_excerptcheck_k51_useful_points_holds : PySem.Challenge.rw_excerptcheck_k51_useful_points.Holds := by
  w_on; o_law; k_head; (case hw => w_witness2)
  k_fill
  refine My.walkG (l := PySem.Challenge.rw_excerptcheck_k51_useful_points) (n := 63) (k := 5) (x := "script") (sp := My.spLaw) rfl (by decide) rfl ⟨rfl, by decide, by decide⟩ (fun w h Y => PySem.W.kIn_of Y) ?F (fun K H a ns hl hS => ⟨a, ns, rfl, hS, hl, fun _ => rfl⟩)
  case F =>
    intro w mg fa h KX G hmg
    refine' My.all_mk KX G hmg ?a1 ?l1 ?c1 ?k1 ?a2 ?l2 ?c2 ?k2 ?a3 ?l3 ?c3 ?k3 ?a4 ?l4 ?c4 ?k4 ?a5 ?l5 ?c5 ?k5 ?a6 ?l6 ?c6 ?k6 ?a7 ?l7 ?c7 ?k7 ?a8 ?l8 ?c8 ?k8 ?a9 ?l9 ?c9 ?k9 ?a10 ?l10 ?c10 ?k10 ?a11 ?l11 ?c11 ?k11 ?a12 ?l12 ?c12 ?k12 ?a13 ?l13 ?c13 ?k13 ?a14 ?l14 ?c14 ?k14 ?a15 ?l15 ?c15 ?k15 ?a16 ?l16 ?c16 ?k16 ?z_len ?z_max ?z_min ?z_abs ?z_int ?z_list ?z_tuple ?z_range ?z_isinstance ?z_bool ?z_str
    (case a1 => k_is); (case l1 => k_is); (case c1 => k_is); (case k1 => k_is); (case a2 => k_is); (case l2 => k_is); (case c2 => k_is); (case k2 => k_is); (case a3 => k_is); (case l3 => k_is); (case c3 => k_is); (case k3 => k_is); (case a4 => k_is); (case l4 => k_is); (case c4 => k_is); (case k4 => k_is); (case a5 => k_is); (case l5 => k_is); (case c5 => k_is); (case k5 => k_is); (case a6 => k_is); (case l6 => k_is); (case c6 => k_is); (case k6 => k_is); (case a7 => k_is); (case l7 => k_is); (case c7 => k_is); (case k7 => k_is); (case a8 => k_is); (case l8 => k_is); (case c8 => k_is); (case k8 => k_is); (case a9 => k_is); (case l9 => k_is); (case c9 => k_is); (case k9 => k_is); (case a10 => k_is); (case l10 => k_is); (case c10 => k_is); (case k10 => k_is); (case a11 => k_is); (case l11 => k_is); (case c11 => k_is); (case k11 => k_is); (case a12 => k_is); (case l12 => k_is); (case c12 => k_is); (case k12 => k_is); (case a13 => k_is); (case l13 => k_is); (case c13 => k_is); (case k13 => k_is); (case a14 => k_is); (case l14 => k_is); (case c14 => k_is); (case k14 => k_is); (case a15 => k_is); (case l15 => k_is); (case c15 => k_is); (case k15 => k_is); (case a16 => k_is); (case l16 => k_is); (case c16 => k_is); (case k16 => k_is); (case z_len => k_is); (case z_max => k_is); (case z_min => k_is); (case z_abs => k_is); (case z_int => k_is); (case z_list => k_is); (case z_tuple => k_is); (case z_range => k_is); (case z_isinstance => k_is); (case z_bool => k_is); (case z_str => k_is)
