import PyProof.Rows.All
import Wide.All
import OpenK.AllK
import Wide.FinOn
import HandS.Base
import HandS.Call
import HandS.List
import HandS.Comp
import HandS.Text
import HandS.Words
import HandS.Ends
import PyProof.ReprRoads
import HandS.ForMost
import HandS.Walk
import HandS.Conv
import HandS.Codes
import HandS.Strs
import HandS.Style
import HandS.Defaults
import KE.DataCmp
import HandS.Star
import HandS.IsInst
import HandS.TupAny
import KE.GoesEnum
import HandS.TupMul
import HandS.WideBits
import HandS.Dict
import HandS.SetBool
import KE.KeyNested
import KE.KDictCopyH
import HandS.TupLen
import HandS.Nested
import HandS.Flow
import HandS.Wide
import HandS.Deep
import HandS.Rev
import HandS.Zip
import HandS.RevRange
import KE.KDictPairs
import HandS.DictComp
import HandS.NestedK
import KE.KLam
import HandS.EndTab
import KE.KNestM
import KE.KDictDisplayH
import HandS.SortInts
import HandS.DictTup
import HandS.NamedTupSort
import HandS.RevTup
import PyProof.CollectWalk
import PyProof.ListRange
import PyProof.RangeFor
import KE.KDictZip
import HandS.Gcd
import KE.KDictWalk
import HandS.TupSets
import KE.SortData
import PySem.Challenge.RW_excerptcheck_k50_net_of_a_graph
set_option Elab.async false
set_option linter.all false
set_option maxRecDepth 100000
set_option pp.deepTerms false
namespace My
open PySem PySem.Spec PyProof.Rows L2
/-- as the layer's promise, where besides no repr is under way -/
structure FnG (P : Program) (w : World) (K : PySem.W.Frag) (mg : Str → Option Value) (base : Heap) (X : CXT)
    (k : Nat) (f : Addr) (fd : FuncData) (ps : List Str) (sp : Sp) : Prop where
  ln : ∀ vs H Q E, sp vs H Q E → vs.length = ps.length
  go : ∀ (A : Around) (outer : List Env) (s : Shared) (H : Hp) (args : Args) (us : List Value) (vs : List V) (Q : VK) (E : XK),
    Room k A → A.guards = some [] → Env0 P w K mg base A outer s H → BindsTo s fd args (ps.zip us) → Vals vs us →
    sp vs H Q E → codeAny (model P w) A (.call (.ref f) args) (CR X outer P w H s Q E) s
theorem FnG.of {P : Program} {w : World} {K : PySem.W.Frag} {mg : Str → Option Value} {base : Heap} {X : CXT}
    {k : Nat} {f : Addr} {fd : FuncData} {ps : List Str} {sp : Sp} (F : FnOk P w K mg base X k f fd ps sp) :
    FnG P w K mg base X k f fd ps sp :=
  ⟨F.len, fun A o s H ar us vs Q E h1 _ h2 h3 h4 h5 => F.run A o s H ar us vs Q E h1 h2 h3 h4 h5⟩
theorem okG {P : Program} {w : World} {K : PySem.W.Frag} {mg : Str → Option Value} {base : Heap} {CX : CXT}
    {x qual : Str} {st : Stmt} {f : Addr} {fd : FuncData} {N ps : List Str} {k : Nat} {sp : Sp}
    (F : Fun K x qual st f fd) (S : FnScope N ps (defScope st))
    (ln : ∀ vs H Q E, sp vs H Q E → vs.length = ps.length)
    (hbd : ∀ (cdv : Value) (A : Around) (o : List Env) (s : Shared) (H : Hp) (vs : List V) (Q : VK) (E : XK),
      Room k (A.deeper (envOfC qual (defScope st) s.heap.objs.size f cdv)) → A.guards = some [] → sp vs H Q E →
      ∃ t, PSs (cxOf CX P w K mg base N qual (defScope st) f cdv A o s H E) (defBody st) t ∧
        t { nx := fun _ h => Q .non h, rt := Q } (start N vs) H) :
    FnG P w K mg base CX (k + 1) f fd ps sp := by
  obtain ⟨oc, od, kV, doc, pm, an, cdv, ct, osl, rfl, lk, hcd⟩ := F.ex
  refine ⟨ln, fun A o s H ar us vs Q E hr hgd e0 hb r hs => ?_⟩
  have hl := ln _ _ _ _ hs
  have KX : K.In s.heap := e0.mod.kin.keeps fun b ob e => (e0.bs b ob e).1
  have lim : s.heap.NoLimit := e0.mod.nolimit.keeps fun b ob e => (e0.bs b ob e).1
  have hkd : ∀ y ∈ ps.zip us, (defScope st).names.lookup y.1 = some .local ∨
      ((defScope st).names.lookup y.1 = some .cell ∧
        ((cellsFrom (s.heap.objs.size + 1) (defScope st).names []).lookup y.1).isSome = true) := by
    rintro ⟨n, v⟩ hy
    have hp := S.par n (List.of_mem_zip hy).1
    rcases hp with q | q
    · left; exact q
    · right; exact ⟨q, PySem.W.cellsFrom_some _ _ _ (.inl q)⟩
  refine codeAny_call_function hr.depth (KX _ _ lk) rfl S.co S.gen rfl
    (PySem.W.codeRec_of KX hcd) (hb _ _ _ _ ?_)
  refine wpAny_newFunctionEnv_cells S.kind hkd
    fun env he s1 x => ?_
  subst he
  refine ⟨lim.keeps x.toInCall.keep, codeAny_func ?_⟩
  obtain ⟨t, ht, hq⟩ := hbd cdv A o s H vs Q E (hr.deeper _) hgd hs
  have I := inv_start (CX := CX) (E := E) S hr.hd e0 hl r x
  refine wpAny_mono (ht.run [] s1 (start N vs) H _ I hq)
    (fun fl s2 h2 => ?_) fun e s2 h2 => h2
  cases fl with
  | ret u =>
    obtain ⟨v, σ2, H2, J, rv, q⟩ := h2
    exact ⟨v, H2, J.os, J.bare, J.base, J.hok, rv, q⟩
  | next =>
    obtain ⟨σ2, H2, J, q⟩ := h2
    exact ⟨.non, H2, J.os, J.bare, J.base, J.hok, rfl, q⟩
  | brk =>
    obtain ⟨_, _, _, q⟩ := h2
    exact q.elim
  | cont =>
    obtain ⟨_, _, _, q⟩ := h2
    exact q.elim
section
variable {X : Cx} {CX : CXT} {k : Nat} {f : Addr} {fd : FuncData} {ps : List Str} {sp : Sp} {dvs : List V} {ds : List Value}
  {E : XK} {x : Str} {p pos : Pos} {e : Expr} {es : List Expr} {t : TA}
/-- the call of such a def -/
theorem pe_callG (gd : X.A.guards = some []) (F : FnG X.prog X.w X.K X.mg X.base CX k f fd ps sp) (hr : Room k X.A) (hg : Gl X x)
    (hm : X.mg x = some (.ref f)) (hk : PySem.W.keepIn X.K (.ref f) = true) (hb : Binds X.K fd ps ds) (hd : Vals dvs ds)
    (hx : Passes CX X E) (ha : PA X (e :: es) t) (hdb : (x == ("__debug__" : Str)) = false := by decide)
    (he : starEach (e :: es) X.env = (false, eval e X.env) :: starEach es X.env := by rfl)
    (hpl : (backTo pos (starEach es X.env)).any (·.1) = false := by rfl) :
    PE X (.Call (.Name x p) (e :: es) [] pos) (tCall sp dvs E t) := by
  constructor
  intro pins s σ H Q I h
  refine wpAny_Call_Name_kw (ld_glob I hg hm ?_ hdb)
  refine PySem.W.callWith_K (h₀ := X.base) I.ok.mod.kin hk
    (thn (ha.run pos pins s σ H _ I h) ?_) he hpl
  rintro us s1 ⟨vs, H1, I1, r, q⟩
  refine ⟨I1.kIn, ?_⟩
  have r2 : Vals (vs ++ dvs) (us ++ ds) := r.append hd
  have hl : (us ++ ds).length = ps.length := by
    rw [← r2.length]
    exact F.ln _ _ _ _ q
  refine wpAny_call (codeAny_mono (F.go X.A X.stack s1 H1 ⟨us, []⟩ (us ++ ds) (vs ++ dvs) Q E hr gd
    I1.env0 (hb s1 us I1.kIn hl) r2 q) fun rr s2 hq => ?_)
  cases rr with
  | error e => exact hx pins σ H1 s1 e s2 I1 hq
  | ok fl =>
    cases fl with
    | ret u => exact I1.after hq
    | next => exact False.elim hq
    | brk => exact False.elim hq
    | cont => exact False.elim hq
end
end My
namespace My
open PySem PySem.Spec PyProof.Rows L2
/-- a def of the text as it stands behind the top -/
structure Df (K : PySem.W.Frag) (mg : Str → Option Value) (x : Str) (st : Stmt) (ps : List Str) : Prop where
  ex : ∃ (f : Addr) (fd : FuncData), Fun K x x st f fd ∧ mg x = some (.ref f) ∧ Binds K fd ps []
/-- .. with what it promises -/
structure Cal (P : Program) (w : World) (K : PySem.W.Frag) (mg : Str → Option Value) (base : Heap) (k : Nat) (x : Str) (ps : List Str) (sp : Sp) : Prop where
  ex : ∃ (f : Addr) (fd : FuncData), FnOk P w K mg base CX0 k f fd ps sp ∧ mg x = some (.ref f) ∧ PySem.W.keepIn K (.ref f) = true ∧ Binds K fd ps []
structure CalG (P : Program) (w : World) (K : PySem.W.Frag) (mg : Str → Option Value) (base : Heap) (k : Nat) (x : Str) (ps : List Str) (sp : Sp) : Prop where
  ex : ∃ (f : Addr) (fd : FuncData), FnG P w K mg base CX0 k f fd ps sp ∧ mg x = some (.ref f) ∧ PySem.W.keepIn K (.ref f) = true ∧ Binds K fd ps []
section
variable {P : Program} {w : World} {K : PySem.W.Frag} {mg : Str → Option Value} {base : Heap}
theorem Df.cal {x : Str} {st : Stmt} {N ps : List Str} {k : Nat} {sp : Sp} (D : Df K mg x st ps) (S : FnScope N ps (defScope st))
    (ln : ∀ vs H Q E, sp vs H Q E → vs.length = ps.length)
    (hb : ∀ (f : Addr) (cdv : Value) (A : Around) (o : List Env) (s : Shared) (H : Hp) (vs : List V) (Q : VK) (E : XK),
      Room k (A.deeper (envOfC x (defScope st) s.heap.objs.size f cdv)) → sp vs H Q E →
      ∃ t, PSs (cxOf CX0 P w K mg base N x (defScope st) f cdv A o s H E).nox (defBody st) t ∧
        t { nx := fun _ h => Q .non h, rt := Q } (start N vs) H) :
    Cal P w K mg base (k + 1) x ps sp := by
  obtain ⟨f, fd, F, m, b⟩ := D.ex
  exact ⟨f, fd, F.ok S ln (fun cdv A o s H vs Q E => hb f cdv A o s H vs Q E), m, F.kp, b⟩
theorem Df.calG {x : Str} {st : Stmt} {N ps : List Str} {k : Nat} {sp : Sp} (D : Df K mg x st ps) (S : FnScope N ps (defScope st))
    (ln : ∀ vs H Q E, sp vs H Q E → vs.length = ps.length)
    (hb : ∀ (f : Addr) (cdv : Value) (A : Around) (o : List Env) (s : Shared) (H : Hp) (vs : List V) (Q : VK) (E : XK),
      Room k (A.deeper (envOfC x (defScope st) s.heap.objs.size f cdv)) → A.guards = some [] → sp vs H Q E →
      ∃ t, PSs (cxOf CX0 P w K mg base N x (defScope st) f cdv A o s H E).nox (defBody st) t ∧
        t { nx := fun _ h => Q .non h, rt := Q } (start N vs) H) :
    CalG P w K mg base (k + 1) x ps sp := by
  obtain ⟨f, fd, F, m, b⟩ := D.ex
  refine ⟨f, fd, okG F S ln (fun cdv A o s H vs Q E hr hg h => ?_), m, F.kp, b⟩
  obtain ⟨t, h1, h2⟩ := hb f cdv A o s H vs Q E hr hg h
  exact ⟨t, h1.nox, h2⟩
end
section
variable {X : Cx} {k j : Nat} {ps : List Str} {sp : Sp} {x : Str} {p pos : Pos} {e : Expr} {es : List Expr} {t : TA}
theorem pe_cal (C : Cal X.prog X.w X.K X.mg X.base k x ps sp) (hr : Room k X.A) (hg : Gl X x)
    (ha : PA X (e :: es) t) (hdb : (x == ("__debug__" : Str)) = false := by decide)
    (he : starEach (e :: es) X.env = (false, eval e X.env) :: starEach es X.env := by rfl)
    (hpl : (backTo pos (starEach es X.env)).any (·.1) = false := by rfl) :
    PE X (.Call (.Name x p) (e :: es) [] pos) (tCall sp [] E0 t) := by
  obtain ⟨f, fd, F, m, kp, b⟩ := C.ex
  exact pe_call F hr hg m kp b .nil pass0 ha hdb he hpl
theorem pe_calG (gd : X.A.guards = some []) (C : CalG X.prog X.w X.K X.mg X.base k x ps sp) (hr : Room k X.A) (hg : Gl X x)
    (ha : PA X (e :: es) t) (hdb : (x == ("__debug__" : Str)) = false := by decide)
    (he : starEach (e :: es) X.env = (false, eval e X.env) :: starEach es X.env := by rfl)
    (hpl : (backTo pos (starEach es X.env)).any (·.1) = false := by rfl) :
    PE X (.Call (.Name x p) (e :: es) [] pos) (tCall sp [] E0 t) := by
  obtain ⟨f, fd, F, m, kp, b⟩ := C.ex
  exact pe_callG gd F hr hg m kp b .nil pass0 ha hdb he hpl
end
abbrev TA2 := Addr × Addr
def Kp (t : TA2) (H H' : Hp) : Prop := ∀ b o, b ≠ t.1 → H b = some o → H' b = some o
theorem Kp.refl (t : TA2) (H : Hp) : Kp t H H := fun _ _ _ h => h
theorem Kp.trans {t : TA2} {H H1 H2 : Hp} (a : Kp t H H1) (b : Kp t H1 H2) : Kp t H H2 := fun c o n h => b c o n (a c o n h)
theorem Kp.new {t : TA2} {p : Addr} {H : Hp} {o : HO} (h : H p = none) : Kp t H (upd H p o) := fun b u _ e => by
  rw [upd_ne (ne_of_none e h)]; exact e
theorem Kp.self {t : TA2} {H : Hp} {o : HO} : Kp t H (upd H t.1 o) := fun b u n e => by rw [upd_ne n]; exact e
theorem Kp.free {t : TA2} {p : Addr} {H H' : Hp} (a : Kp t H H') (n : p ≠ t.1) (h : H' p = none) : H p = none := by
  cases q : H p with
  | none => rfl
  | some o => rw [a p o n q] at h; cases h
theorem Kp.tup {t : TA2} {p : Addr} {H H' : Hp} {xs ys : List V} (a : Kp t H H') (ht : H t.1 = some (.lst ys)) (h : H p = some (.tup xs)) : H' p = some (.tup xs) :=
  a p _ (ne_of h ht (fun z => nomatch z)) h
/-- the numbers that a script gives -/
structure Tape (K : PySem.W.Frag) (H : Hp) (t : TA2) : Prop where
  ex : ∃ (ns : List Int) (p n s : Int), H t.1 = some (.lst [.ref t.2, .int p, .int n, .int s]) ∧ t.2 ≠ t.1 ∧
    H t.2 = some (.lst (ns.map V.int)) ∧ 0 ≤ p ∧ 0 ≤ n ∧ 0 ≤ s
theorem Tape.lst {K : PySem.W.Frag} {H : Hp} {t : TA2} (T : Tape K H t) : ∃ ys, H t.1 = some (.lst ys) := by
  obtain ⟨ns, p, n, s, h, _⟩ := T.ex
  exact ⟨_, h⟩
theorem Tape.new {K : PySem.W.Frag} {H : Hp} {t : TA2} {a : Addr} {o : HO} (T : Tape K H t) (h : H a = none) : Tape K (upd H a o) t := by
  obtain ⟨ns, p, n, s, h1, h2, h3, h4⟩ := T.ex
  exact ⟨ns, p, n, s, by rw [upd_ne (ne_of_none h1 h)]; exact h1, h2, by rw [upd_ne (ne_of_none h3 h)]; exact h3, h4⟩
theorem Tape.ne {K : PySem.W.Frag} {H : Hp} {t : TA2} {a : Addr} (T : Tape K H t) (h : H a = none) : a ≠ t.1 := by
  obtain ⟨ys, e⟩ := T.lst
  exact (ne_of_none e h).symm
/-- another object is changed -/
theorem Tape.put {K : PySem.W.Frag} {H : Hp} {t : TA2} {a : Addr} {o : HO} (T : Tape K H t) (h1 : a ≠ t.1) (h2 : a ≠ t.2) : Tape K (upd H a o) t := by
  obtain ⟨ns, p, n, s, g1, g2, g3, g4⟩ := T.ex
  exact ⟨ns, p, n, s, by rw [upd_ne h1.symm]; exact g1, g2, by rw [upd_ne h2.symm]; exact g3, g4⟩
def spTape (K : PySem.W.Frag) : Sp := fun vs H Q _ => ∃ (a : Addr) (ns : List Int), vs = [.ref a] ∧ SqL K H a (ns.map V.int) ∧ ns.length ≤ 63 ∧
  ∀ (t : TA2) H', Same H H' → H t.1 = none → Tape K H' t → Q (.ref t.1) H'
def spDraw (K : PySem.W.Frag) : Sp := fun vs H Q _ => ∃ (t : TA2) (m : Int), vs = [.ref t.1, .int m] ∧ Tape K H t ∧ m < 100000000 ∧
  ∀ v H', 0 ≤ v → v < max m 1 → Kp t H H' → (∀ b, H b = none → H' b = none) → Tape K H' t → Q (.int v) H'
end My
namespace My
open PySem PySem.Spec PyProof.Rows L2
theorem le_size {n : Nat} (h : n ≤ 1000) : n ≤ sizeLine := Nat.le_of_lt (small1000 h)
theorem le_size0 {n : Nat} (h : n.ble 1000 = true) : n ≤ sizeLine := le_size (Nat.le_of_ble_eq_true h)
end My
namespace My
open PySem PySem.Spec PyProof.Rows L2
theorem okG0 {P : Program} {w : World} {K : PySem.W.Frag} {mg : Str → Option Value} {base : Heap}
    {x : Str} {st : Stmt} {f : Addr} {fd : FuncData} {N ps : List Str} {k : Nat} {sp : Sp}
    (F : Fun K x x st f fd) (S : FnScope N ps (defScope st))
    (ln : ∀ vs H Q E, sp vs H Q E → vs.length = ps.length)
    (hb : ∀ (f : Addr) (cdv : Value) (A : Around) (o : List Env) (s : Shared) (H : Hp) (vs : List V) (Q : VK) (E : XK),
      Room k (A.deeper (envOfC x (defScope st) s.heap.objs.size f cdv)) → A.guards = some [] → sp vs H Q E →
      ∃ t, PSs (cxOf CX0 P w K mg base N x (defScope st) f cdv A o s H E).nox (defBody st) t ∧
        t { nx := fun _ h => Q .non h, rt := Q } (start N vs) H) :
    FnG P w K mg base CX0 (k + 1) f fd ps sp := by
  refine okG F S ln (fun cdv A o s H vs Q E hr hg h => ?_)
  obtain ⟨t, h1, h2⟩ := hb f cdv A o s H vs Q E hr hg h
  exact ⟨t, h1.nox, h2⟩
theorem df_mk {K : PySem.W.Frag} {h : Heap} {mg : Str → Option Value} {x : Str} {st : Stmt} {ps : List Str} {f : Addr}
    {od an : Option Addr} {sl : Array (Option Value)} {oc kV dc pm cd ct : Value} (X : K.In h) (G : h.Ns mainGlobals mg)
    (a : PySem.W.nsIn K mainGlobals x = some (some (.ref f)))
    (l : K.lookup f = some ⟨oc, od, .func (PySem.W.fnOf x x (defArgs st) (defBody st) (defScope st) .none kV dc pm an cd ct), sl⟩)
    (c : PySem.W.codeIn K cd x = true) (k : PySem.W.keepIn K (.ref f) = true)
    (hb : ∀ (kV doc pm : Value) (an : Option Addr) (cdv ct : Value) (us : List Value), us.length = ps.length →
      bindArgs (PySem.W.fnOf x x (defArgs st) (defBody st) (defScope st) .none kV doc pm an cdv ct) ⟨us, []⟩ = pure (ps.zip us)) :
    Df K mg x st ps := ⟨f, _, fun_mk l c k, PySem.W.mg_of X G a, (fun_mk l c k).binds hb⟩
end My
namespace My
open PySem PySem.Spec PyProof.Rows L2
section
variable {X : Cx}
def rTupOf (K : PySem.W.Frag) : List V → Hp → VK → Prop := fun xs H Q => ∃ p ys, xs = [.ref p] ∧
  ((SqL K H p ys ∧ ∀ l, H l = none → Q (.ref l) (upd H l (.tup ys))) ∨ (SqT K H p ys ∧ Q (.ref p) H))
theorem call_tupK : CallR X (.type "tuple") (rTupOf X.K) := call_tuple_of
def rLisOf (K : PySem.W.Frag) : List V → Hp → VK → Prop := fun xs H Q => ∃ p ys, xs = [.ref p] ∧ (SqL K H p ys ∨ SqT K H p ys) ∧
  ∀ l, H l = none → Q (.ref l) (upd H l (.lst ys))
theorem call_lisK : CallR X (.type "list") (rLisOf X.K) := call_list_of
def rLenS (K : PySem.W.Frag) : List V → Hp → VK → Prop := fun xs H Q => ∃ p ys, xs = [.ref p] ∧ (SqL K H p ys ∨ SqT K H p ys) ∧ Q (.int ys.length) H
theorem call_lenK : CallR X (.builtin "len") (rLenS X.K) := call_len_seq
end
end My
namespace My
open PySem PySem.Spec PyProof.Rows L2
structure Sh (d : PyData) (dp bk : Nat) : Prop where
  s : d.showable = true
  n : d.hasDict = false
  p : d.depth ≤ dp
  l : d.leavesShort 13 = true
  b : d.bulk ≤ bk
theorem Sh.mono {d : PyData} {a b a' b' : Nat} (h : Sh d a b) (ha : a ≤ a') (hb : b ≤ b') : Sh d a' b' :=
  ⟨h.s, h.n, Nat.le_trans h.p ha, h.l, Nat.le_trans h.b hb⟩
theorem Sh.fits {d : PyData} {dp bk : Nat} (h : Sh d dp bk) (hb : bk ≤ 1000000) : d.shown.length ≤ sizeLine :=
  PyData.shown_fits_bulk (B := 13) (by decide) (by decide) h.l (Nat.le_trans h.b (Nat.le_trans hb (by decide)))
theorem Sh.none : Sh .none 0 0 := ⟨by simp [PyData.showable], by simp [PyData.hasDict], by simp [PyData.depth], by simp [PyData.leavesShort], by simp [PyData.bulk]⟩
theorem Sh.bool (b : Bool) : Sh (.bool b) 0 0 := ⟨by simp [PyData.showable], by simp [PyData.hasDict], by simp [PyData.depth], by simp [PyData.leavesShort], by simp [PyData.bulk]⟩
theorem Sh.int {i : Int} (h : i.natAbs < 10 ^ 12) : Sh (.int i) 0 0 := by
  refine ⟨?_, by simp [PyData.hasDict], by simp [PyData.depth], ?_, by simp [PyData.bulk]⟩
  · simp only [PyData.showable, decide_eq_true_eq]
    exact log2_small (Nat.lt_trans h (by decide +kernel))
  · simp only [PyData.leavesShort, decide_eq_true_eq]
    exact PyData.shown_int_le h
/-- all signs are small -/
def Sg (x : Str) : Prop := ∀ c ∈ x.cps.toList, c < 128
theorem Sh.str {x : Str} (h : Sg x) : Sh (.str x) 0 x.length := by
  refine ⟨by simp [PyData.showable], by simp [PyData.hasDict], by simp [PyData.depth], ?_, by simp only [PyData.bulk]; exact Nat.le_refl _⟩
  simp only [PyData.leavesShort, List.all_eq_true, decide_eq_true_eq]
  intro c hc
  exact Nat.lt_trans (h c hc) (by decide)
theorem shAll {dp bk : Nat} : ∀ {ds : List PyData}, (∀ d ∈ ds, Sh d dp bk) → PyData.showableAll ds = true ∧ PyData.hasDictAll ds = false ∧
    PyData.depthAll ds ≤ dp ∧ PyData.leavesShortAll 13 ds = true ∧ PyData.bulkAll ds ≤ ds.length * (bk + 1)
  | [], _ => by simp [PyData.showableAll, PyData.hasDictAll, PyData.depthAll, PyData.leavesShortAll, PyData.bulkAll]
  | d :: ds, h => by
    obtain ⟨h1, h2, h3, h4, h5⟩ := shAll (ds := ds) fun e he => h e (List.mem_cons_of_mem _ he)
    have g := h d (List.mem_cons_self)
    refine ⟨by simp [PyData.showableAll, g.s, h1], by simp [PyData.hasDictAll, g.n, h2], ?_, by simp [PyData.leavesShortAll, g.l, h4], ?_⟩
    · simp only [PyData.depthAll]
      have := g.p
      omega
    · simp only [PyData.bulkAll, List.length_cons, Nat.succ_mul]
      have := g.b
      omega
theorem Sh.tup {dp bk : Nat} {ds : List PyData} (h : ∀ d ∈ ds, Sh d dp bk) : Sh (.tuple ds) (dp + 1) (ds.length * (bk + 1)) := by
  obtain ⟨h1, h2, h3, h4, h5⟩ := shAll h
  refine ⟨by simpa [PyData.showable] using h1, by simpa [PyData.hasDict] using h2, ?_, by simpa [PyData.leavesShort] using h4, by simpa [PyData.bulk] using h5⟩
  simp only [PyData.depth]
  omega
theorem Sh.list {dp bk : Nat} {ds : List PyData} (h : ∀ d ∈ ds, Sh d dp bk) : Sh (.list ds) (dp + 1) (ds.length * (bk + 1)) := by
  obtain ⟨h1, h2, h3, h4, h5⟩ := shAll h
  refine ⟨by simpa [PyData.showable] using h1, by simpa [PyData.hasDict] using h2, ?_, by simpa [PyData.leavesShort] using h4, by simpa [PyData.bulk] using h5⟩
  simp only [PyData.depth]
  omega
theorem Same.kp {t : TA2} {H H' : Hp} (h : Same H H') : Kp t H H' := fun b o _ e => h b o e
theorem Same.new {p : Addr} {H : Hp} {o : HO} (h : H p = Option.none) : Same H (upd H p o) := fun b u e => by
  rw [upd_ne (ne_of_none e h)]; exact e
theorem Tape.same {K : PySem.W.Frag} {H H' : Hp} {t : TA2} (T : Tape K H t) (h : Same H H') : Tape K H' t := by
  obtain ⟨ns, p, n, s, h1, h2, h3, h4⟩ := T.ex
  exact ⟨ns, p, n, s, h _ _ h1, h2, h _ _ h3, h4⟩
abbrev sy (h l : Nat) : Str := ⟨#[h, l]⟩
abbrev lows : List Nat := [97,98,99,100,101,102,103,104,105,106,107,108,109,110,111,112,113,114,115,116,117,118,119,120,121,122]
abbrev caps : List Nat := [65,66,67,68,69,70,71,72,73,74,75,76,77,78,79,80,81,82,83,84,85,86,87,88,89,90]
end My
namespace My
open PySem PySem.Spec PyProof.Rows L2
mutual
inductive Im (H : Hp) : V → PyData → Prop
  | non : Im H .non .none
  | bl (b : Bool) : Im H (.bl b) (.bool b)
  | int (i : Int) : Im H (.int i) (.int i)
  | str (x : Str) : Im H (.str x) (.str x)
  | tup {a : Addr} {xs : List V} {ds : List PyData} : H a = some (.tup xs) → ImAll H xs ds → Im H (.ref a) (.tuple ds)
inductive ImAll (H : Hp) : List V → List PyData → Prop
  | nil : ImAll H [] []
  | cons {v : V} {vs : List V} {d : PyData} {ds : List PyData} : Im H v d → ImAll H vs ds → ImAll H (v :: vs) (d :: ds)
end
def KT (H H' : Hp) : Prop := ∀ a xs, H a = some (.tup xs) → H' a = some (.tup xs)
theorem KT.refl (H : Hp) : KT H H := fun _ _ h => h
theorem KT.trans {H H1 H2 : Hp} (a : KT H H1) (b : KT H1 H2) : KT H H2 := fun c o h => b c o (a c o h)
theorem KT.new {H : Hp} {p : Addr} {o : HO} (h : H p = none) : KT H (upd H p o) := fun a xs e => by
  rw [upd_ne (ne_of_none e h)]; exact e
theorem KT.put {H : Hp} {p : Addr} {xs ys : List V} (h : H p = some (.lst xs)) : KT H (upd H p (.lst ys)) := fun a zs e => by
  rw [upd_ne (ne_of e h (fun z => nomatch z))]; exact e
theorem Same.kt {H H' : Hp} (h : Same H H') : KT H H' := fun a xs e => h _ _ e
theorem Kp.kt {K : PySem.W.Frag} {t : TA2} {H H' : Hp} (k : Kp t H H') (T : Tape K H t) : KT H H' := fun a xs e => by
  obtain ⟨ys, h⟩ := T.lst
  exact k.tup h e
mutual
theorem Im.dp {K : PySem.W.Frag} {H : Hp} : ∀ {v : V} {d : PyData}, Im H v d → Dp K H v d
  | _, _, .non => .non
  | _, _, .bl b => .bl b
  | _, _, .int i => .int i
  | _, _, .str x => .str x
  | _, _, .tup h ha => .tup (.inl (.inl h)) (ImAll.dp ha)
theorem ImAll.dp {K : PySem.W.Frag} {H : Hp} : ∀ {vs : List V} {ds : List PyData}, ImAll H vs ds → DpAll K H vs ds
  | _, _, .nil => .nil
  | _, _, .cons h t => .cons (Im.dp h) (ImAll.dp t)
end
mutual
theorem Im.kt {H H' : Hp} (k : KT H H') : ∀ {v : V} {d : PyData}, Im H v d → Im H' v d
  | _, _, .non => .non
  | _, _, .bl b => .bl b
  | _, _, .int i => .int i
  | _, _, .str x => .str x
  | _, _, .tup h ha => .tup (k _ _ h) (ImAll.kt k ha)
theorem ImAll.kt {H H' : Hp} (k : KT H H') : ∀ {vs : List V} {ds : List PyData}, ImAll H vs ds → ImAll H' vs ds
  | _, _, .nil => .nil
  | _, _, .cons h t => .cons (Im.kt k h) (ImAll.kt k t)
end
theorem ImAll.length {H : Hp} : ∀ {vs : List V} {ds : List PyData}, ImAll H vs ds → vs.length = ds.length
  | _, _, .nil => rfl
  | _, _, .cons _ t => congrArg (· + 1) (ImAll.length t)
theorem ImAll.get {H : Hp} : ∀ {vs : List V} {ds : List PyData} {i : Nat} {v : V}, ImAll H vs ds → vs[i]? = some v → ∃ d, ds[i]? = some d ∧ Im H v d
  | _, _, _, _, .nil, e => by simp at e
  | _, _, 0, _, .cons h _, e => by simp at e; subst e; exact ⟨_, rfl, h⟩
  | _, _, i + 1, _, .cons _ t, e => by
    obtain ⟨d, h1, h2⟩ := ImAll.get (i := i) t (by simpa using e)
    exact ⟨d, by simpa using h1, h2⟩
theorem ImAll.of {H : Hp} : ∀ {vs : List V} {ds : List PyData} {i : Nat} {d : PyData}, ImAll H vs ds → ds[i]? = some d → ∃ v, vs[i]? = some v ∧ Im H v d
  | _, _, _, _, .nil, e => by simp at e
  | _, _, 0, _, .cons h _, e => by simp at e; subst e; exact ⟨_, rfl, h⟩
  | _, _, i + 1, _, .cons _ t, e => by
    obtain ⟨d, h1, h2⟩ := ImAll.of (i := i) t (by simpa using e)
    exact ⟨d, by simpa using h1, h2⟩
theorem ImAll.snoc {H : Hp} : ∀ {vs : List V} {ds : List PyData} {v : V} {d : PyData}, ImAll H vs ds → Im H v d → ImAll H (vs ++ [v]) (ds ++ [d])
  | _, _, _, _, .nil, h => .cons h .nil
  | _, _, _, _, .cons g t, h => .cons g (ImAll.snoc t h)
theorem ImAll.append {H : Hp} : ∀ {vs ws : List V} {ds es : List PyData}, ImAll H vs ds → ImAll H ws es → ImAll H (vs ++ ws) (ds ++ es)
  | _, _, _, _, .nil, h => h
  | _, _, _, _, .cons g t, h => .cons g (ImAll.append t h)
theorem ImAll.strs {H : Hp} : ∀ xs : List Str, ImAll H (xs.map V.str) (xs.map PyData.str)
  | [] => .nil
  | x :: xs => .cons (.str x) (ImAll.strs xs)
theorem ImAll.strs_inv {H : Hp} : ∀ {vs : List V} {xs : List Str}, ImAll H vs (xs.map PyData.str) → vs = xs.map V.str
  | vs, [], h => by cases h; rfl
  | vs, x :: xs, h => by
    cases h with
    | cons h1 h2 =>
      cases h1
      rw [ImAll.strs_inv h2]
      rfl
theorem ImAll.ints_inv {H : Hp} : ∀ {vs : List V} {xs : List Int}, ImAll H vs (xs.map PyData.int) → vs = xs.map V.int
  | vs, [], h => by cases h; rfl
  | vs, x :: xs, h => by
    cases h with
    | cons h1 h2 =>
      cases h1
      rw [ImAll.ints_inv h2]
      rfl
theorem Im.inv {H : Hp} {v : V} {ds : List PyData} (h : Im H v (.tuple ds)) : ∃ p xs, v = .ref p ∧ H p = some (.tup xs) ∧ ImAll H xs ds := by
  cases h with
  | tup a b => exact ⟨_, _, rfl, a, b⟩
def clsD (b : Bool) (hs ls : Str) : PyData := .tuple [.str "class", .bool b, .str hs, .str ls]
structure Cl (hs ls : Str) : Prop where
  h1 : hs.length ≤ 27
  h2 : ls.length ≤ 26
  h3 : Sg hs
  h4 : Sg ls
theorem Cl.none : Cl "" "" := ⟨by decide, by decide, fun _ h => (nomatch h), fun _ h => (nomatch h)⟩
theorem Im.cls {H : Hp} {v : V} {b : Bool} {hs ls : Str} (h : Im H v (clsD b hs ls)) : ∃ p, v = .ref p ∧ H p = some (.tup [.str "class", .bl b, .str hs, .str ls]) := by
  obtain ⟨p, xs, rfl, hp, ha⟩ := h.inv
  cases ha with
  | cons a1 a2 => cases a1; cases a2 with
    | cons b1 b2 => cases b1; cases b2 with
      | cons c1 c2 => cases c1; cases c2 with
        | cons d1 d2 => cases d1; cases d2; exact ⟨p, rfl, hp⟩
/-- belongs -/
def bel (b : Bool) (hs ls : Str) (c d : Nat) : Bool :=
  !decide (V.bl ((decide (V.str hs = V.str (Str.ofString "")) || decide (c ∈ hs.cps.toList)) && (decide (V.str ls = V.str (Str.ofString "")) || decide (d ∈ ls.cps.toList))) = V.bl b)
end My
namespace My
open PySem PySem.Spec PyProof.Rows L2
/-- the first place of a text -/
def at1 : List Str → Str → Nat
  | [], _ => 0
  | y :: ys, z => if y = z then 0 else at1 ys z + 1
/-- a sequence of symbols as a value -/
def Sq (H : Hp) (v : V) (xs : List Str) : Prop := Im H v (.tuple (xs.map PyData.str))
theorem Sq.get {H : Hp} {v : V} {xs : List Str} (h : Sq H v xs) : ∃ p, v = .ref p ∧ H p = some (.tup (xs.map V.str)) := by
  obtain ⟨p, vs, rfl, hp, ha⟩ := Im.inv h
  exact ⟨p, rfl, by rw [hp, ha.strs_inv]⟩
theorem Sq.mk {H : Hp} {p : Addr} {xs : List Str} (h : H p = some (.tup (xs.map V.str))) : Sq H (.ref p) xs := .tup h (ImAll.strs xs)
end My
namespace My
open PySem PySem.Spec PyProof.Rows L2
def rowD (r : List Int) : PyData := .tuple (r.map PyData.int)
def rowsD (rows : List (List Int)) : PyData := .tuple (rows.map rowD)
/-- a tuple of texts whose object is known -/
def Rds (H : Hp) (p : Addr) (rs : List Str) : Prop := ∃ o : Obj, H p = some (.frz o (.tup (rs.map V.str))) ∧ o.cls = .type "tuple" ∧ o.dict = Option.none
theorem Rds.sq {K : PySem.W.Frag} {H : Hp} {p : Addr} {rs : List Str} (h : Rds H p rs) : SqT K H p (rs.map V.str) := by
  obtain ⟨o, e, _⟩ := h
  exact .inl (.inr ⟨o, e⟩)
theorem Rds.kp {t : TA2} {K : PySem.W.Frag} {H H' : Hp} {p : Addr} {rs : List Str} (h : Rds H p rs) (k : Kp t H H') (T : Tape K H t) : Rds H' p rs := by
  obtain ⟨o, e, r⟩ := h
  obtain ⟨ys, g⟩ := T.lst
  exact ⟨o, k _ _ (ne_of e g (fun z => nomatch z)) e, r⟩
theorem Rds.same {H H' : Hp} {p : Addr} {rs : List Str} (h : Rds H p rs) (k : Same H H') : Rds H' p rs := by
  obtain ⟨o, e, r⟩ := h
  exact ⟨o, k _ _ e, r⟩
theorem Rds.new {H : Hp} {p q : Addr} {u : HO} {rs : List Str} (h : Rds H p rs) (n : H q = Option.none) : Rds (upd H q u) p rs := h.same (Same.new n)
theorem Rds.put {H : Hp} {p q : Addr} {xs ys : List V} {rs : List Str} (h : Rds H p rs) (n : H q = some (.lst xs)) : Rds (upd H q (.lst ys)) p rs := by
  obtain ⟨o, e, r⟩ := h
  exact ⟨o, by rw [upd_ne (ne_of e n (fun z => nomatch z))]; exact e, r⟩
theorem Rds.ne {K : PySem.W.Frag} {t : TA2} {H : Hp} {p : Addr} {rs : List Str} (h : Rds H p rs) (T : Tape K H t) : p ≠ t.1 := by
  obtain ⟨o, e, r⟩ := h
  obtain ⟨ys, g⟩ := T.lst
  exact ne_of e g (fun z => nomatch z)
def AccAt (H : Hp) (v : V) (rs : List Str) (rows : List (List Int)) (ac : List Int) : Prop :=
  ∃ p a b c, v = .ref p ∧ H p = some (.tup [.ref a, .ref b, .ref c]) ∧ Rds H a rs ∧ Im H (.ref b) (rowsD rows) ∧ H c = some (.tup (ac.map V.int))
theorem Im.row {H : Hp} {v : V} {r : List Int} (h : Im H v (rowD r)) : ∃ p, v = .ref p ∧ H p = some (.tup (r.map V.int)) := by
  obtain ⟨p, vs, rfl, hp, ha⟩ := Im.inv h
  exact ⟨p, rfl, by rw [hp, ha.ints_inv]⟩
theorem AccAt.same {H H' : Hp} {v : V} {rs : List Str} {rows : List (List Int)} {ac : List Int} (h : AccAt H v rs rows ac) (k : Same H H') : AccAt H' v rs rows ac := by
  obtain ⟨p, a, b, c, e, hp, ha, hb, hc⟩ := h
  exact ⟨p, a, b, c, e, k _ _ hp, ha.same k, hb.kt (Same.kt k), k _ _ hc⟩
theorem AccAt.kp {t : TA2} {K : PySem.W.Frag} {H H' : Hp} {v : V} {rs : List Str} {rows : List (List Int)} {ac : List Int} (h : AccAt H v rs rows ac) (k : Kp t H H') (T : Tape K H t) : AccAt H' v rs rows ac := by
  obtain ⟨p, a, b, c, e, hp, ha, hb, hc⟩ := h
  exact ⟨p, a, b, c, e, k.kt T _ _ hp, ha.kp k T, hb.kt (k.kt T), k.kt T _ _ hc⟩
theorem AccAt.inv {H : Hp} {v : V} {rs : List Str} {rows : List (List Int)} {ac : List Int} (h : AccAt H v rs rows ac) :
    ∃ p a b c us, v = .ref p ∧ H p = some (.tup [.ref a, .ref b, .ref c]) ∧ Rds H a rs ∧ H b = some (.tup us) ∧
      ImAll H us (rows.map rowD) ∧ H c = some (.tup (ac.map V.int)) := by
  obtain ⟨p, a, b, c, e, hp, ha, hb, hc⟩ := h
  obtain ⟨b2, vb, e2, hb2, ib⟩ := Im.inv hb
  cases e2
  exact ⟨p, a, b, c, vb, e, hp, ha, hb2, ib, hc⟩
/-- one step -/
def stp (rs : List Str) (rows : List (List Int)) (a : Int) (x : Str) : Int := (rows.getD a.toNat []).getD (at1 rs x) 0
def st (rs : List Str) (rows : List (List Int)) (xs : List Str) : Int := xs.foldl (stp rs rows) 0
end My
namespace My
open PySem PySem.Spec PyProof.Rows L2
section
variable {X : Cx}
/-- < of data -/
def rLtD (K : PySem.W.Frag) : R2 := fun x y H Q => ∃ d e, Dp K H x d ∧ Dp K H y e ∧ PySem.W.alike d e = true ∧ d ≠ .none ∧ d.depth ≤ 30 ∧ Q (.bl (PySem.W.dataLt d e)) H
theorem op_ltD (hu : X.A.units + 64 < cLine) : OpR X (compareOp .Lt) (rLtD X.K) := by
  intro pins s σ H x y v u Q I rx ry h
  obtain ⟨d, e, hd, he, ha, hn, hp, q⟩ := h
  obtain ⟨as, r1⟩ := Dp.reads I d x v hd rx
  obtain ⟨bs, r2⟩ := Dp.reads I e y u he ry
  exact PySem.W.lt_data r1 r2 ha hn (by omega) ⟨.bl _, H, I, rfl, q⟩
end
end My
namespace My
open PySem PySem.Spec PyProof.Rows L2
section
variable {X : Cx}
/-- tuple(list): the object is known -/
def rTupG (K : PySem.W.Frag) : List V → Hp → VK → Prop := fun xs H Q => ∃ p ys, xs = [.ref p] ∧ SqL K H p ys ∧
  ∀ (l : Addr) (o : Obj), H l = Option.none → (o.cls = .type "tuple" ∧ o.dict = Option.none ∧ o.slots = #[]) → Q (.ref l) (upd H l (.frz o (.tup ys)))
theorem call_tupG : CallR X (.type "tuple") (rTupG X.K) := by
  intro pins s σ H xs us Q I r h
  obtain ⟨p, ys, rfl, hq, q⟩ := h
  obtain ⟨u, rfl, rx⟩ := vals1 r
  cases rx
  obtain ⟨its, r2, pl, hz⟩ := I.list hq
  have hlen := r2.length
  refine call_tuple_list pl.isList (fun h2 kp => ?_) (by simp only [List.size_toArray] <;> omega)
  have J : Inv X pins σ H { s with heap := h2 } := I.kept (t' := s.toks) kp
  have L : Inv X pins σ (upd H h2.objs.size (.frz { cls := .type "tuple", data := .seq its.toArray } (.tup ys)))
      { s with heap := h2.push { cls := .type "tuple", data := .seq its.toArray } } :=
    J.laid (t' := s.toks) (fun b o e => Heap.get?_push_of_some _ e) (Nat.le_refl _) ⟨Heap.get?_push_size _ rfl, hz, its, r2, IsTup.new _ _⟩
  exact ⟨.ref h2.objs.size, _, L, rfl, q _ _ (J.hok.fresh (Nat.le_refl _)) ⟨rfl, rfl, rfl⟩⟩
/-- such a tuple -/
def TupG (H : Hp) (p : Addr) (xs : List V) : Prop := ∃ o : Obj, H p = some (.frz o (.tup xs)) ∧ o.cls = .type "tuple" ∧ o.dict = Option.none ∧ o.slots = #[]
end
inductive Pat
  | emp
  | cls (b : Bool) (hs ls : Str)
  | un (k : Str) (p : Pat)
  | bi (k : Str) (p q : Pat)
namespace Pat
def d : Pat → PyData
  | emp => .tuple [.str "empty"]
  | cls b hs ls => clsD b hs ls
  | un k p => .tuple [.str k, p.d]
  | bi k p q => .tuple [.str k, p.d, q.d]
def n : Pat → Nat
  | emp => 1
  | cls _ _ _ => 1
  | un _ p => p.n + 1
  | bi _ p q => p.n + q.n + 1
def Ok : Pat → Prop
  | emp => True
  | cls _ hs ls => Cl hs ls
  | un k p => (k = "star" ∨ k = "not") ∧ p.Ok
  | bi k p q => (k = "then" ∨ k = "or" ∨ k = "and") ∧ p.Ok ∧ q.Ok
end Pat
theorem Sh.two {x y : PyData} {a b a' b' c : Nat} (h : Sh x a b) (g : Sh y a' b') (h1 : a ≤ c) (h2 : a' ≤ c) : Sh (.tuple [x, y]) (c + 1) (b + b' + 2) := by
  refine ⟨by simp [PyData.showable, PyData.showableAll, h.s, g.s], by simp [PyData.hasDict, PyData.hasDictAll, h.n, g.n], ?_, by simp [PyData.leavesShort, PyData.leavesShortAll, h.l, g.l], ?_⟩
  · have := h.p
    have := g.p
    simp only [PyData.depth, PyData.depthAll]
    omega
  · have := h.b
    have := g.b
    simp only [PyData.bulk, PyData.bulkAll]
    omega
/-- how a pattern's tuple stands -/
theorem Im.emp {H : Hp} {v : V} (h : Im H v Pat.emp.d) : ∃ a, v = .ref a ∧ H a = some (.tup [.str "empty"]) := by
  obtain ⟨a, us, rfl, ha, hi⟩ := Im.inv h
  cases hi with
  | cons a1 a2 => cases a1; cases a2; exact ⟨a, rfl, ha⟩
theorem Im.un {H : Hp} {v : V} {k : Str} {p : Pat} (h : Im H v (Pat.un k p).d) : ∃ a u, v = .ref a ∧ H a = some (.tup [.str k, u]) ∧ Im H u p.d := by
  obtain ⟨a, us, rfl, ha, hi⟩ := Im.inv h
  cases hi with
  | cons a1 a2 => cases a1; cases a2 with
    | cons b1 b2 => cases b2; exact ⟨a, _, rfl, ha, b1⟩
theorem Im.bi {H : Hp} {v : V} {k : Str} {p q : Pat} (h : Im H v (Pat.bi k p q).d) : ∃ a u w, v = .ref a ∧ H a = some (.tup [.str k, u, w]) ∧ Im H u p.d ∧ Im H w q.d := by
  obtain ⟨a, us, rfl, ha, hi⟩ := Im.inv h
  cases hi with
  | cons a1 a2 => cases a1; cases a2 with
    | cons b1 b2 => cases b2 with
      | cons c1 c2 => cases c2; exact ⟨a, _, _, rfl, ha, b1, c1⟩
theorem Im.ref {H : Hp} {v : V} {p : Pat} (h : Im H v p.d) : ∃ a us, v = .ref a ∧ H a = some (.tup us) ∧ us.length ≤ 4 := by
  cases p with
  | emp => obtain ⟨a, e, h⟩ := h.emp; exact ⟨a, _, e, h, by decide⟩
  | cls b hs ls => obtain ⟨a, e, h⟩ := Im.cls h; exact ⟨a, _, e, h, by show 4 ≤ 4; decide⟩
  | un k p => obtain ⟨a, u, e, h, _⟩ := h.un; exact ⟨a, _, e, h, by show 2 ≤ 4; decide⟩
  | bi k p q => obtain ⟨a, u, w, e, h, _⟩ := h.bi; exact ⟨a, _, e, h, by show 3 ≤ 4; decide⟩
theorem TupG.sq {K : PySem.W.Frag} {H : Hp} {p : Addr} {xs : List V} (h : TupG H p xs) : SqT K H p xs := by
  obtain ⟨o, e, _⟩ := h
  exact .inl (.inr ⟨o, e⟩)
theorem TupG.same {H H' : Hp} {p : Addr} {xs : List V} (h : TupG H p xs) (k : Same H H') : TupG H' p xs := by
  obtain ⟨o, e, r⟩ := h
  exact ⟨o, k _ _ e, r⟩
end My
namespace My
open PySem PySem.Spec PyProof.Rows L2
/-- enumerate(text) -/
def IteS (x : Str) : It :=
  ⟨fun i _ => i < x.cps.size, fun i H v h => ∃ T c, v = .ref T ∧ H T = none ∧ h = upd H T (.tup [.int (i : Nat), .str ⟨#[c]⟩]) ∧ x.cps[i]? = some c,
    fun i _ => x.cps.size ≤ i⟩
theorem turn_enS {P : Program} {w : World} {K : PySem.W.Frag} {elts : List Expr} {kk : Nat} {tpos : Pos} (x : Str) (t : Tok) (e it : Addr) :
    Turn P w K (.Tuple elts kk tpos) (IteS x) [e, it] e
      (fun i h => i ≤ x.cps.size ∧ (∃ old, IsEnum h e it ((i : Nat) : Int) old) ∧ h.IsStrIter it (strIterType x) x t i ∧ e ≠ it) where
  mem := by simp
  obj := fun i h st b hb => by
    obtain ⟨_, ⟨old, he⟩, ⟨o, ho, hc, hd⟩, _⟩ := st
    have hz : b = e ∨ b = it := by simpa using hb
    rcases hz with z | z
    · rw [z]; exact ⟨_, he, fun v q => nomatch q⟩
    · rw [z]; exact ⟨o, ho, fun v q => by rw [hd] at q; cases q⟩
  keep := fun i h g st k => by
    obtain ⟨hi, ⟨old, he⟩, ⟨o, ho, r⟩, hne⟩ := st
    exact ⟨hi, ⟨old, k e (by simp) _ he⟩, ⟨o, k it (by simp) o ho, r⟩, hne⟩
  item := by
    intro X hP hw hK hc i pins s σ H E I hf st hg
    subst hP hw hK
    obtain ⟨hi, ⟨old, he⟩, hit, hne⟩ := st
    have hel : e < s.heap.objs.size := Heap.lt_size he
    have hil : it < s.heap.objs.size := by
      obtain ⟨_, q, _⟩ := hit
      exact Heap.lt_size q
    have D : Draws X.prog X.w X.A.in1 it [it] x.cps.size _ _ := Draws.text (show X.A.in1.handled = none from I.ok.hd hc) it x t
    refine wpAny_pyNext_enum_itemC D he hit hg hne (by simpa using hne) ?_
    rintro u h1 tk ⟨c, tc, hcx, rfl⟩ ho hit1 hT hsz hk
    refine ⟨_, rfl, wpAny_letOwnedTupleGo_enum (s := { s with heap := h1, toks := tk + 1 }) ho ?_⟩
    intro h2 he2 sb
    have hT2 : h2.get? s.heap.objs.size = some { cls := .type "tuple", data := .seq #[.int i tk, .str ⟨#[c]⟩ tc] } :=
      (sb.2 _ (Nat.ne_of_gt hel)).trans hT
    have new : ObjOk X.prog X.w (upd H s.heap.objs.size (.tup [.int (i : Nat), .str ⟨#[c]⟩])) h2 s.heap.objs.size (.tup [.int (i : Nat), .str ⟨#[c]⟩]) :=
      ⟨le_size0 rfl, [.int i tk, .str ⟨#[c]⟩ tc], .cons ⟨_, rfl⟩ (.cons ⟨_, rfl⟩ .nil), ⟨_, hT2, rfl, _, rfl⟩⟩
    have J : Inv X pins σ (upd H s.heap.objs.size (.tup [.int (i : Nat), .str ⟨#[c]⟩])) { s with heap := h2, toks := tk + 1 } :=
      I.turnedNew (ch := [e, it]) (fun b ob hb q => (sb.2 b (fun z => hb (by simp [z]))).trans
        (hk b ob (fun z => hb (by simp [z])) (fun z => hb (by simp [z])) q)) hf (Nat.le_refl _) new
    have hit2 : h2.IsStrIter it (strIterType x) x t (i + 1) := by
      obtain ⟨o, q, r⟩ := hit1
      exact ⟨o, (sb.2 it hne.symm).trans q, r⟩
    refine ⟨.ref s.heap.objs.size, _, J, rfl, ⟨_, c, rfl, I.hok.fresh (Nat.le_refl _), rfl, hcx⟩, ⟨hg, ⟨.str ⟨#[c]⟩ tc, ?_⟩, hit2, hne⟩, fun b hb => ?_⟩
    · rw [show ((i + 1 : Nat) : Int) = (i : Int) + 1 by omega]
      exact he2
    · have hz : b = e ∨ b = it := by simpa using hb
      have hlt : b < s.heap.objs.size := by
        rcases hz with z | z
        · rw [z]; exact hel
        · rw [z]; exact hil
      rw [upd_ne (Nat.ne_of_lt hlt)]
      exact (hf b hb).1
  done := by
    intro X hP hw hK hc i pins s σ H E I hf st hg
    subst hP hw hK
    obtain ⟨hi, ⟨old, he⟩, hit, hne⟩ := st
    have ei : i = x.cps.size := Nat.le_antisymm hi hg
    subst ei
    obtain ⟨f0, f1, f2, f3, f4, f5⟩ := hf it (by simp)
    have D : Draws X.prog X.w X.A.in1 it [it] x.cps.size _ _ := Draws.text (show X.A.in1.handled = none from I.ok.hd hc) it x t
    exact wpAny_pyNext_enum_endD D he hit fun h1 eb => ⟨rfl, I.turned (t' := s.toks) (fun b o hb q => eb b o hb q) f0 f1 f3 f4 f5⟩
  self := fun A i s Q E st h => by
    obtain ⟨_, ⟨_, he⟩, _⟩ := st
    exact wpAny_pyIter_enum he h
end My
set_option maxHeartbeats 4000000
namespace My
open PySem PySem.Spec PyProof.Rows L2
/-- a symbol of an alphabet -/
def Sy (p : Nat × Nat) : Prop := (p.1 = 64 ∨ (65 ≤ p.1 ∧ p.1 ≤ 90)) ∧ 97 ≤ p.2 ∧ p.2 ≤ 122
abbrev syp (p : Nat × Nat) : Str := sy p.1 p.2
/-- a text that stands for a sequence, behind a holder -/
inductive Wr : Option Nat → List (Nat × Nat) → List Nat → Prop
  | nil (c : Option Nat) : Wr c [] []
  | new {c : Option Nat} {h l : Nat} {ps : List (Nat × Nat)} {t : List Nat} : Wr (some h) ps t → Wr c ((h, l) :: ps) (h :: l :: t)
  | old {h l : Nat} {ps : List (Nat × Nat)} {t : List Nat} : Wr (some h) ps t → Wr (some h) ((h, l) :: ps) (l :: t)
theorem Wr.snoc {c : Option Nat} {ps : List (Nat × Nat)} {t : List Nat} (w : Wr c ps t) (h l : Nat) : Wr c (ps ++ [(h, l)]) (t ++ [h, l]) := by
  induction w with
  | nil c => exact .new (.nil _)
  | new _ ih => exact .new ih
  | old _ ih => exact .old ih
/-- the least text -/
def enc : Option Nat → List (Nat × Nat) → List Nat
  | _, [] => []
  | c, p :: ps => if c = some p.1 then p.2 :: enc (some p.1) ps else p.1 :: p.2 :: enc (some p.1) ps
theorem Wr.len {c : Option Nat} {ps : List (Nat × Nat)} {t : List Nat} (w : Wr c ps t) : t.length ≤ 2 * ps.length := by
  induction w with
  | nil c => exact Nat.le_refl _
  | new _ ih => simp only [List.length_cons] at *; omega
  | old _ ih => simp only [List.length_cons] at *; omega
def Lt (c : Nat) : Bool := decide (97 ≤ c) && decide (c ≤ 122)
def Hd (c : Nat) : Bool := decide (c = 64) || (decide (65 ≤ c) && decide (c ≤ 90))
end My
namespace My
open PySem PySem.Spec PyProof.Rows L2
def hst : Option Nat → Str
  | none => Str.ofString ""
  | some h => ⟨#[h]⟩
end My
namespace My
open PySem PySem.Spec PyProof.Rows L2
/-- steps ahead, one behind the other -/
inductive Clo (R : Nat → Nat → Prop) (n : Nat) : Nat → Nat → Prop
  | nil {i : Nat} : i ≤ n → Clo R n i i
  | cons {i k j : Nat} : R i k → i < k → Clo R n k j → Clo R n i j
theorem Clo.snoc {R : Nat → Nat → Prop} {n i k j : Nat} (h : Clo R n i k) (r : R k j) (l : k < j) (hj : j ≤ n) : Clo R n i j := by
  induction h with
  | nil _ => exact .cons r l (.nil hj)
  | cons a b _ ih => exact .cons a b (ih r l)
theorem Clo.bound {R : Nat → Nat → Prop} {n : Nat} : ∀ {i j : Nat}, Clo R n i j → i ≤ j ∧ j ≤ n
  | _, _, .nil h => ⟨Nat.le_refl _, h⟩
  | _, _, .cons _ l t => by have := Clo.bound t; omega
/-- the stretch from i to j matches the pattern -/
def rel (qs : List (Nat × Nat)) : Pat → Nat → Nat → Prop
  | .emp, i, j => i = j ∧ j ≤ qs.length
  | .cls b hs ls, i, j => j = i + 1 ∧ ∃ q, qs[i]? = some q ∧ bel b hs ls q.1 q.2 = true
  | .un k p, i, j => if k = "not" then i ≤ j ∧ j ≤ qs.length ∧ ¬ rel qs p i j else Clo (rel qs p) qs.length i j
  | .bi k p q, i, j => if k = "then" then ∃ m, rel qs p i m ∧ rel qs q m j else if k = "or" then rel qs p i j ∨ rel qs q i j else rel qs p i j ∧ rel qs q i j
theorem Clo.map {R S : Nat → Nat → Prop} {n m a : Nat} (f : ∀ i j, R i j → j ≤ n → S (a + i) (a + j)) (ha : a + n ≤ m) : ∀ {i j : Nat}, Clo R n i j → Clo S m (a + i) (a + j)
  | _, _, .nil h => .nil (by omega)
  | _, _, .cons r l t => by
    have := Clo.bound t
    exact .cons (f _ _ r (by omega)) (by omega) (Clo.map f ha t)
end My
namespace My
open PySem PySem.Spec PyProof.Rows L2
set_option maxHeartbeats 1000000 in
theorem meets_enum1 {v : Value} {o : Obj} {Hh : Heap → Prop} (B : Begins v o Hh) :
    Meets (Builtin.«enumerate.__new__» ⟨[.type "enumerate", v], []⟩) (fun _ R s => Hh s.heap ∧
      R (.ok (.ret (.ref (s.heap.push o).objs.size))) { s with heap := (s.heap.push o).push { cls := .type "enumerate", data := .fields #[.none, .bool false, .ref s.heap.objs.size, rawInt 0, .none, .none] } }) :=
  .of_wp fun prog w A R s h => by
    obtain ⟨hp, g, d, tk, os⟩ := s; obtain ⟨h1, h⟩ := h
    have hsub := sub_enumerate
    have q1 : ∀ {A' : Around} {E : Value → Shared → Prop} {Q : Value → Shared → Prop}, Q (.ref hp.objs.size) ⟨hp.push o, g, d, tk, os⟩ → wpAny (model prog w) A' (pyIter v) Q E ⟨hp, g, d, tk, os⟩ :=
      fun q => B.iter prog w _ _ ⟨hp, g, d, tk, os⟩ _ h1 q
    wp_walk using q1
    refine wpAny_stack_any fun st => wpAny_pure ?_
    split
    · rename_i c _ _ _ _ _
      cases (c == Value.type "enumerate")
      · wp_walk using q1
        exact ⟨_, rfl, h⟩
      · wp_walk using q1
        exact ⟨_, rfl, h⟩
    · wp_walk using q1
      exact ⟨_, rfl, h⟩
theorem call_enum1 {prog : Program} {w : World} {A : Around} {E : Value → Shared → Prop} {s : Shared} {v : Value} {o : Obj} {Hh : Heap → Prop} {Q : Value → Shared → Prop} (B : Begins v o Hh) (h1 : Hh s.heap)
    (h : ∀ h', IsEnum h' (s.heap.objs.size + 1) s.heap.objs.size 0 .none → h'.get? s.heap.objs.size = some o → h'.objs.size = s.heap.objs.size + 2 →
      (∀ b o, s.heap.get? b = some o → h'.get? b = some o) → Q (.ref (s.heap.objs.size + 1)) { s with heap := h' }) :
    wpAny (model prog w) A (call (.type "enumerate") [v]) Q E s := by
  refine callType_new F.called_enumerate (by decide) (F.typeCall_enumerate_1 _) (F.newCall_enumerate_1 _) (fun obj => F.args_object_init_2 obj _) F.entry_enumerate_new
    (meets_enum1 B) ⟨h1, ?_⟩
  have hz : (s.heap.push o).objs.size = s.heap.objs.size + 1 := Heap.size_push ..
  show _ ∧ _
  rw [hz]
  have he : IsEnum ((s.heap.push o).push { cls := .type "enumerate", data := .fields #[.none, .bool false, .ref s.heap.objs.size, rawInt 0, .none, .none] }) (s.heap.objs.size + 1) s.heap.objs.size 0 .none := by
    have := Heap.get?_push_size (s.heap.push o) (o := { cls := .type "enumerate", data := .fields #[.none, .bool false, .ref s.heap.objs.size, rawInt 0, .none, .none] }) rfl
    rw [hz] at this; exact this
  refine ⟨⟨_, he, rfl⟩, h _ he (Heap.get?_push_of_some _ (Heap.get?_push_size _ B.free)) (by rw [Heap.size_push, hz]) fun b o x => Heap.get?_push_of_some _ (Heap.get?_push_of_some _ x)⟩
/-- enumerate(tuple) -/
def IteT (K : PySem.W.Frag) (a : Addr) (xs : List V) : It :=
  ⟨fun i H => SqT K H a xs ∧ i < xs.length, fun i H v H' => ∃ T x, v = .ref T ∧ H T = none ∧ H' = upd H T (.tup [.int (i : Nat), x]) ∧ xs[i]? = some x,
    fun i H => SqT K H a xs ∧ xs.length ≤ i⟩
theorem turn_enT {P : Program} {w : World} {K : PySem.W.Frag} {elts : List Expr} {kk : Nat} {tpos : Pos} (a e it : Addr) (xs : List V) :
    Turn P w K (.Tuple elts kk tpos) (IteT K a xs) [e, it] e (fun i h => i ≤ xs.length ∧ (∃ old, IsEnum h e it ((i : Nat) : Int) old) ∧ h.IsTupleIter it a i ∧ e ≠ it) where
  mem := by simp
  obj := fun i h st b hb => by
    obtain ⟨_, ⟨old, he⟩, ⟨o, ho, hc, hd⟩, _⟩ := st
    have e' : b = e ∨ b = it := by simpa using hb
    rcases e' with z | z
    · rw [z]; exact ⟨_, he, fun v q => nomatch q⟩
    · rw [z]; exact ⟨o, ho, fun v q => by rw [hd] at q; cases q⟩
  keep := fun i h h' st k => let ⟨hl, ⟨old, he⟩, hi, hne⟩ := st; ⟨hl, ⟨old, k e (by simp) _ he⟩, hi.at fun o q => k it (by simp) o q, hne⟩
  item := by
    intro X hP hw hK hc i pins s σ H E I hf st hg
    subst hP hw hK
    obtain ⟨hil0, ⟨old, he⟩, hit, hne⟩ := st
    obtain ⟨hq, hlt⟩ := hg
    obtain ⟨x, hx⟩ : ∃ x, xs[i]? = some x := ⟨xs[i], List.getElem?_eq_getElem hlt⟩
    obtain ⟨its, rv, p, hz⟩ := I.tuple hq
    obtain ⟨u, hu, ru⟩ := rv.get hx
    have hel : e < s.heap.objs.size := Heap.lt_size he
    have hil : it < s.heap.objs.size := by obtain ⟨_, q, _⟩ := hit; exact Heap.lt_size q
    have hea : e ≠ a := fun z => by
      obtain ⟨o, ho, hc2, _⟩ := p
      rw [← z] at ho
      have ho2 := he.symm.trans ho
      rw [← Option.some.inj ho2] at hc2
      have h4 : Value.type "enumerate" = Value.type "tuple" := hc2
      exact absurd h4 (by decide)
    have hia : a ≠ it := fun z => by
      obtain ⟨o, ho, hc2, _⟩ := p
      obtain ⟨o2, ho2, hc3, _⟩ := hit
      rw [z] at ho
      have h3 := Option.some.inj (ho.symm.trans ho2)
      rw [h3, hc3] at hc2
      exact absurd hc2 (by decide)
    have D := Draws.tuple (prog := X.prog) (w := X.w) (A := X.A.in1) (show X.A.in1.handled = none from I.ok.hd hc) it a hia its.toArray
    refine wpAny_pyNext_enum_itemC D he ⟨hit, p⟩ (by rw [List.size_toArray]; exact (List.getElem?_eq_some_iff.mp hu).1) hne (by simp [hne, hea]) ?_
    rintro u2 h1 tk hu2 ho hit1 hT hsz hk
    have eu : u2 = u := by
      have : its.toArray[i]? = some u := by simpa using hu
      exact Option.some.inj (hu2.symm.trans this)
    subst eu
    refine ⟨_, rfl, wpAny_letOwnedTupleGo_enum (s := { s with heap := h1, toks := tk + 1 }) ho fun h'' he' sb => ?_⟩
    have hT2 : h''.get? s.heap.objs.size = some { cls := .type "tuple", data := .seq #[.int i tk, u2] } := (sb.2 _ (Nat.ne_of_gt hel)).trans hT
    have new : ObjOk X.prog X.w (upd H s.heap.objs.size (.tup [.int (i : Nat), x])) h'' s.heap.objs.size (.tup [.int (i : Nat), x]) :=
      ⟨le_size0 rfl, [.int i tk, u2], .cons ⟨_, rfl⟩ (.cons ru .nil), ⟨_, hT2, rfl, _, rfl⟩⟩
    have I1 : Inv X pins σ (upd H s.heap.objs.size (.tup [.int (i : Nat), x])) { s with heap := h'', toks := tk + 1 } :=
      I.turnedNew (ch := [e, it]) (fun b ob hb q => (sb.2 b (fun z => hb (by simp [z]))).trans (hk b ob (fun z => hb (by simp [z])) (fun z => hb (by simp [z])) q)) hf (Nat.le_refl _) new
    refine ⟨.ref s.heap.objs.size, _, I1, rfl, ⟨_, x, rfl, I.hok.fresh (Nat.le_refl _), rfl, hx⟩, ⟨hlt, ⟨u2, ?_⟩, hit1.1.at fun o q => (sb.2 it (Ne.symm hne)).trans q, hne⟩, fun b hb => ?_⟩
    · have e1 : ((i + 1 : Nat) : Int) = (i : Int) + 1 := by omega
      rw [e1]; exact he'
    · have hb' : b < s.heap.objs.size := by
        have e' : b = e ∨ b = it := by simpa using hb
        rcases e' with z | z
        · rw [z]; exact hel
        · rw [z]; exact hil
      rw [upd_ne (Nat.ne_of_lt hb')]
      exact (hf b hb).1
  done := by
    intro X hP hw hK hc i pins s σ H E I hf st hg
    subst hP hw hK
    obtain ⟨hil0, ⟨old, he⟩, hit, hne⟩ := st
    obtain ⟨hq, hlt⟩ := hg
    obtain ⟨its, rv, p, hz⟩ := I.tuple hq
    obtain ⟨f0, f1, f2, f3, f4, f5⟩ := hf it (by simp)
    have hl := rv.length
    have ei : i = its.toArray.size := by rw [List.size_toArray]; omega
    have hia : a ≠ it := fun z => by
      obtain ⟨o, ho, hc2, _⟩ := p
      obtain ⟨o2, ho2, hc3, _⟩ := hit
      rw [z] at ho
      have h3 := Option.some.inj (ho.symm.trans ho2)
      rw [h3, hc3] at hc2
      exact absurd hc2 (by decide)
    have D := Draws.tuple (prog := X.prog) (w := X.w) (A := X.A.in1) (show X.A.in1.handled = none from I.ok.hd hc) it a hia its.toArray
    exact wpAny_pyNext_enum_endD D he ⟨by rw [← ei]; exact hit, p⟩ fun h1 eb => ⟨rfl, I.turned (t' := s.toks) (fun b o hb q => eb b o hb q) f0 f1 f3 f4 f5⟩
  self := fun A i s Q E st h => let ⟨_, ⟨_, he⟩, _⟩ := st; wpAny_pyIter_enum he h
end My
namespace My
open PySem PySem.Spec PyProof.Rows L2
/-- the masks of the first places -/
def Pre (R : Nat → Nat → Prop) (i : Nat) (ns : List Nat) : Prop := ns.length = i ∧ ∀ k, k < i → ∃ m, ns[k]? = some m ∧ ∀ j, (m.testBit j = true ↔ R k j)
theorem Pre.nil {R : Nat → Nat → Prop} : Pre R 0 [] := ⟨rfl, fun _ h => absurd h (Nat.not_lt_zero _)⟩
theorem Pre.snoc {R : Nat → Nat → Prop} {i z : Nat} {ns : List Nat} (h : Pre R i ns) (hz : ∀ j, (z.testBit j = true ↔ R i j)) : Pre R (i + 1) (ns ++ [z]) := by
  have hlen := h.1
  refine ⟨by rw [List.length_append, hlen]; rfl, fun k hk => ?_⟩
  by_cases e : k = i
  · subst e
    exact ⟨z, by rw [List.getElem?_append_right (by omega), hlen, Nat.sub_self]; rfl, hz⟩
  · obtain ⟨m, h1, h2⟩ := h.2 k (by omega)
    exact ⟨m, by rw [List.getElem?_append_left (by omega)]; exact h1, h2⟩
open Classical in
/-- a row: whether R holds at each place -/
noncomputable def rowB (P : Nat → Prop) (n : Nat) : List V := (List.range n).map fun e => V.bl (decide (P e))
theorem rowB_len (P : Nat → Prop) (n : Nat) : (rowB P n).length = n := by
  unfold rowB
  rw [List.length_map, List.length_range]
/-- rows one by one -/
def Tabs (H : Hp) (ls : List V) (R : Nat → Nat → Prop) (n : Nat) : Prop := ∀ i, i < ls.length → ∃ a, ls[i]? = some (.ref a) ∧ H a = some (.lst (rowB (R i) (n + 1)))
def Tab (H : Hp) (l : Addr) (R : Nat → Nat → Prop) (n : Nat) : Prop := ∃ ls : List V, H l = some (.lst ls) ∧ ls.length = n + 1 ∧ Tabs H ls R n
theorem Tabs.same {H H' : Hp} {ls : List V} {R : Nat → Nat → Prop} {n : Nat} (h : Tabs H ls R n) (k : Same H H') : Tabs H' ls R n := fun i hi => by
  obtain ⟨a, e, g⟩ := h i hi
  exact ⟨a, e, k _ _ g⟩
theorem Tab.same {H H' : Hp} {l : Addr} {R : Nat → Nat → Prop} {n : Nat} (h : Tab H l R n) (k : Same H H') : Tab H' l R n := by
  obtain ⟨ls, a, b, c⟩ := h
  exact ⟨ls, k _ _ a, b, c.same k⟩
theorem Tabs.snoc {H : Hp} {ls : List V} {R : Nat → Nat → Prop} {n i : Nat} {a : Addr} (h : Tabs H ls R n) (hl : ls.length = i) (ha : H a = some (.lst (rowB (R i) (n + 1)))) : Tabs H (ls ++ [.ref a]) R n := fun k hk => by
  rw [List.length_append] at hk
  by_cases e : k = i
  · subst e
    exact ⟨a, by rw [List.getElem?_append_right (by omega), hl, Nat.sub_self]; rfl, ha⟩
  · obtain ⟨b, h1, h2⟩ := h k (by simp at hk; omega)
    exact ⟨b, by rw [List.getElem?_append_left (by simp at hk; omega)]; exact h1, h2⟩
theorem Tabs.put {H : Hp} {ls : List V} {R : Nat → Nat → Prop} {n : Nat} {d : Addr} {o : HO} (h : Tabs H ls R n) (hd : H d = some (.lst ls)) (hl : ls.length < n + 1) : Tabs (upd H d o) ls R n := fun i hi => by
  obtain ⟨a, e, g⟩ := h i hi
  refine ⟨a, e, ?_⟩
  rw [upd_ne]
  · exact g
  · rintro rfl
    rw [hd] at g
    have h1 : ls = rowB (R i) (n + 1) := by injection (Option.some.inj g)
    rw [h1, rowB_len] at hl
    omega
/-- one row more -/
theorem Tabs.step {H : Hp} {ls : List V} {R : Nat → Nat → Prop} {n i : Nat} {d a : Addr} (h : Tabs H ls R n) (hd : H d = some (.lst ls)) (hl : ls.length = i) (hi : i < n + 1) (ha : H a = some (.lst (rowB (R i) (n + 1)))) :
    Tabs (upd H d (.lst (ls ++ [.ref a]))) (ls ++ [.ref a]) R n := by
  refine (h.put hd (by omega)).snoc hl ?_
  rw [upd_ne]
  · exact ha
  · rintro rfl
    rw [hd] at ha
    have h1 : ls = rowB (R i) (n + 1) := by injection (Option.some.inj ha)
    rw [h1, rowB_len] at hl
    omega
/-- what stands in a table -/
theorem Tab.row {H : Hp} {l : Addr} {R : Nat → Nat → Prop} {n i : Nat} (h : Tab H l R n) (hi : i ≤ n) : ∃ ls a, H l = some (.lst ls) ∧ ls[i]? = some (.ref a) ∧ H a = some (.lst (rowB (R i) (n + 1))) := by
  obtain ⟨ls, h1, h2, h3⟩ := h
  obtain ⟨a, h4, h5⟩ := h3 i (by omega)
  exact ⟨ls, a, h1, h4, h5⟩
theorem at0 {xs : List V} {i : Nat} {v : V} (h : atI xs ((i : Nat) : Int) = some v) : atI xs (0 + (i : Int)) = some v := by
  rw [Int.zero_add]
  exact h
end My
namespace My
open PySem PySem.Spec PyProof.Rows L2
theorem TupG.mk {H : Hp} {l : Addr} {o : Obj} {xs : List V} (h : o.cls = .type "tuple" ∧ o.dict = Option.none ∧ o.slots = #[]) : TupG (upd H l (.frz o (.tup xs))) l xs :=
  ⟨o, upd_same, h⟩
theorem TupG.kt {H H' : Hp} {p : Addr} {xs : List V} (h : TupG H p xs) (k : ∀ o, H p = some (.frz o (.tup xs)) → H' p = some (.frz o (.tup xs))) : TupG H' p xs := by
  obtain ⟨o, h, r⟩ := h
  exact ⟨o, k o h, r⟩
/-- a new tuple of these -/
def NewG (H : Hp) (Q : VK) (xs : List V) : Prop := ∀ (l : Addr) (o : Obj), H l = Option.none → (o.cls = .type "tuple" ∧ o.dict = Option.none ∧ o.slots = #[]) → Q (.ref l) (upd H l (.frz o (.tup xs)))
section
variable {X : Cx}
theorem layG {pins : List (Addr × Obj)} {σ : L2.St} {H : Hp} {s : Shared} {Q : VK} {xs : List V} {us : List Value} (I : Inv X pins σ H s) (r : Vals xs us) (hz : xs.length ≤ sizeLine) (q : NewG H Q xs) :
    EP X pins σ Q (.ref s.heap.objs.size) { s with heap := s.heap.push { cls := .type "tuple", data := .seq us.toArray } } := by
  have L : Inv X pins σ (upd H s.heap.objs.size (.frz { cls := .type "tuple", data := .seq us.toArray } (.tup xs)))
      { s with heap := s.heap.push { cls := .type "tuple", data := .seq us.toArray } } :=
    I.laid (t' := s.toks) (fun b o e => Heap.get?_push_of_some _ e) (Nat.le_refl _) ⟨Heap.get?_push_size _ rfl, hz, us, r, IsTup.new _ _⟩
  exact ⟨.ref s.heap.objs.size, _, L, rfl, q _ _ (I.hok.fresh (Nat.le_refl _)) ⟨rfl, rfl, rfl⟩⟩
def tTupG (t : TA) : TE := fun σ H Q => t σ H fun xs H1 => xs.length ≤ sizeLine ∧ NewG H1 Q xs
theorem pe_tupG {es : List Expr} {t : TA} {x1} {pos : Pos} (h : PA X es t) : PE X (.Tuple es x1 pos) (tTupG t) := by
  refine ⟨fun pins s σ H Q I hq => ?_⟩
  refine wpAny_Tuple_spliced (thn (h.run pos pins s σ H _ I hq) fun us s1 ⟨xs, H1, I1, r, z, q⟩ => ⟨by rw [← r.length]; exact z, ?_⟩)
  exact layG I1 r z q
def rSlG (K : PySem.W.Frag) : V → Option Int → Option Int → Hp → VK → Prop := fun x lo hi H Q => ∃ a xs, x = .ref a ∧ SqT K H a xs ∧
  (HT.sIx xs.length 0 lo = 0 ∧ HT.sIx xs.length xs.length hi = xs.length → Q (.ref a) H) ∧ (¬ (HT.sIx xs.length 0 lo = 0 ∧ HT.sIx xs.length xs.length hi = xs.length) → NewG H Q (cutV xs lo hi))
theorem sl_tupG : SlR X (rSlG X.K) := by
  intro pins s σ H x v vl vu lo hi sl Q I rx hs pl pu h
  obtain ⟨a, xs, rfl, hx, q1, q2⟩ := h
  by_cases hw : HT.sIx xs.length 0 lo = 0 ∧ HT.sIx xs.length xs.length hi = xs.length
  · cases rx
    obtain ⟨its, r, ht, hz⟩ := I.tuple hx
    have hlen : its.toArray.size = xs.length := by rw [List.size_toArray]; exact r.length.symm
    refine ⟨"tuple", _, PyProof.Rows.slot_tuple_getitem.lookup, ht.typeIs, ?_⟩
    exact getItem_tuple_whole ht hs pl pu (by rw [hlen]; exact hw) ⟨.ref a, H, I, rfl, q1 hw⟩
  · cases rx
    obtain ⟨its, r, ht, hz⟩ := I.tuple hx
    have hlen : its.toArray.size = xs.length := by rw [List.size_toArray]; exact r.length.symm
    refine ⟨"tuple", _, PyProof.Rows.slot_tuple_getitem.lookup, ht.typeIs, ?_⟩
    refine HT.getItem_tuple_cut ht hs pl pu (by rw [hlen]; exact hw) ?_ (by rw [hlen]; exact hz)
    rw [hlen]
    exact layG I ((r.drop (HT.sIx xs.length 0 lo)).take (HT.sIx xs.length xs.length hi - HT.sIx xs.length 0 lo)) (Nat.le_trans (cutV_length xs lo hi) hz) (q2 hw)
def rCatG (K : PySem.W.Frag) : R2 := fun x y H Q => ∃ a b xs ys, x = .ref a ∧ y = .ref b ∧ SqT K H a xs ∧ SqT K H b ys ∧ xs.length + ys.length ≤ sizeLine ∧
  (xs = [] → Q (.ref b) H) ∧ (xs ≠ [] → ys = [] → Q (.ref a) H) ∧ (xs ≠ [] → ys ≠ [] → NewG H Q (xs ++ ys))
theorem op_catG : OpR X (binaryOp .Add) (rCatG X.K) := by
  intro pins s σ H x y v u Q I rx ry h
  obtain ⟨a, b, xs, ys, rfl, rfl, ha, hb, hz, q0, q1, q2⟩ := h
  cases rx
  cases ry
  obtain ⟨its, r1, p1, _⟩ := I.tuple ha
  obtain ⟨its2, r2, p2, _⟩ := I.tuple hb
  by_cases hx : xs = []
  · subst hx
    cases r1
    exact cat_tup0 p1 p2 ⟨.ref b, H, I, rfl, q0 rfl⟩
  · refine HT.cat_tup p1 p2 (fun z => hx (r1.nil_iff.mp z)) (fun z => ⟨.ref a, H, I, rfl, q1 hx (r2.nil_iff.mp z)⟩) (fun z => ?_) (by rw [← r1.length, ← r2.length]; exact hz)
    exact layG I (r1.append r2) (by rw [List.length_append]; exact hz) (q2 hx fun w => z (r2.nil_iff.mpr w))
end
end My
namespace My
open PySem PySem.Spec PyProof.Rows L2
abbrev KVs := List (NestedKey × V × V)
def EntR (w : World) (p : NestedKey × V × V) (e : DictEntry) : Prop := e.hash = p.1.hash w ∧ RelV p.2.1 e.key ∧ RelV p.2.2 e.val
structure RawD (w : World) (h : Heap) (a : Addr) (kvs : KVs) : Prop where
  z : kvs.length ≤ sizeLine
  s : (a == sysModules) = false
  n : (kvs.map (·.1)).Nodup
  ex : ∃ o es ep, h.get? a = some o ∧ o.ExactDict ∧ o.data = .dict es ep ∧ Paired (EntR w) kvs es.toList
/-- the epoch of a dict -/
def epAt (h : Heap) (a : Addr) (ep : Nat) : Prop := ∃ o es, h.get? a = some o ∧ o.data = .dict es ep
def DicO (w : World) (a : Addr) (kvs : KVs) (ep : Nat) : HO := .ext fun h => RawD w h a kvs ∧ epAt h a ep
/-- there is a dict -/
def IsDic (w : World) (H : Hp) (a : Addr) (kvs : KVs) : Prop := ∃ ep, H a = some (DicO w a kvs ep)
theorem RawD.at {w : World} {h h' : Heap} {a : Addr} {kvs : KVs} (R : RawD w h a kvs) (e : ∀ o, h.get? a = some o → h'.get? a = some o) : RawD w h' a kvs :=
  ⟨R.z, R.s, R.n, let ⟨o, es, ep, h1, r⟩ := R.ex; ⟨o, es, ep, e o h1, r⟩⟩
theorem RawD.ep {w : World} {h : Heap} {a : Addr} {kvs : KVs} (R : RawD w h a kvs) : ∃ ep, epAt h a ep := let ⟨o, es, ep, h1, _, h3, _⟩ := R.ex; ⟨ep, o, es, h1, h3⟩
theorem RawD.ok2 {P : Program} {w w' : World} {H : Hp} {h : Heap} {a : Addr} {kvs : KVs} {ep : Nat} (R : RawD w h a kvs) (he : epAt h a ep) : ObjOk P w' H h a (DicO w a kvs ep) :=
  ⟨⟨R, he⟩, let ⟨o, _, _, h1, _⟩ := R.ex; ⟨o, h1⟩, fun _ _ r e => ⟨r.1.at e, let ⟨o, es, h1, h2⟩ := r.2; ⟨o, es, e o h1, h2⟩⟩⟩
theorem RawD.ok {P : Program} {w w' : World} {H : Hp} {h : Heap} {a : Addr} {kvs : KVs} (R : RawD w h a kvs) : ∃ ep, ObjOk P w' H h a (DicO w a kvs ep) := let ⟨ep, he⟩ := R.ep; ⟨ep, R.ok2 he⟩
theorem dic_at {P : Program} {w w' : World} {H : Hp} {h : Heap} {a : Addr} {kvs : KVs} (ok : HOk P w' H h) (e : IsDic w H a kvs) : RawD w h a kvs := let ⟨_, e⟩ := e; (ok a _ e).1.1
theorem IsDic.mono {w : World} {H H' : Hp} {a : Addr} {kvs : KVs} (e : IsDic w H a kvs) (k : ∀ o, H a = some o → H' a = some o) : IsDic w H' a kvs := let ⟨ep, h⟩ := e; ⟨ep, k _ h⟩
def fnd (kvs : KVs) (k : NestedKey) : Option V := (kvs.find? fun p => decide (p.1 = k)).map (·.2.2)
def putD (kvs : KVs) (k : NestedKey) (y v : V) : KVs := if kvs.any (fun p => decide (p.1 = k)) then kvs.map (fun p => if p.1 = k then (p.1, p.2.1, v) else p) else kvs ++ [(k, y, v)]
theorem putD_len (kvs : KVs) (k : NestedKey) (y v : V) : (putD kvs k y v).length ≤ kvs.length + 1 := by
  unfold putD
  split
  · rw [List.length_map]; omega
  · rw [List.length_append]; simp
/-- how the keys of a kind are seen -/
structure Emb {P : Program} {w : World} {K : Type} [DecidableEq K] (knd : KeyKind P w K) where
  f : K → NestedKey × V
  inj : ∀ a b, (f a).1 = (f b).1 → a = b
  is : ∀ k u, knd.is k u = true ↔ RelV (f k).2 u
  hash : ∀ k, knd.hash k = (f k).1.hash w
section
variable {P : Program} {w : World} {K : Type} [DecidableEq K] {knd : KeyKind P w K} (m : Emb knd)
def Emb.Rel (p : NestedKey × V × V) (q : K × Value) : Prop := p.1 = (m.f q.1).1 ∧ p.2.1 = (m.f q.1).2 ∧ RelV p.2.2 q.2
variable {m}
theorem Emb.to {kvs : KVs} {es : List DictEntry} (r : Paired (EntR w) kvs es) (u : ∀ p ∈ kvs, ∃ k, p.1 = (m.f k).1 ∧ p.2.1 = (m.f k).2) :
    ∃ vs, Paired m.Rel kvs vs ∧ Pairs knd es vs ∧ ∀ e ∈ es, ∃ k, knd.is k e.key = true ∧ e.hash = knd.hash k := by
  induction r with
  | nil => exact ⟨[], .nil, .nil, fun e he => by cases he⟩
  | @cons p e ps es h t ih =>
    obtain ⟨k, k1, k2⟩ := u p List.mem_cons_self
    obtain ⟨vs, r1, r2, r3⟩ := ih fun q hq => u q (List.mem_cons_of_mem _ hq)
    have is1 : knd.is k e.key = true := (m.is k _).mpr (by rw [← k2]; exact h.2.1)
    refine ⟨(k, e.val) :: vs, .cons ⟨k1, k2, h.2.2⟩ r1, .cons is1 rfl r2, fun e' he => ?_⟩
    rcases List.mem_cons.mp he with rfl | he
    · exact ⟨k, is1, by rw [h.1, m.hash, k1]⟩
    · exact r3 e' he
theorem Emb.from {kvs : KVs} {vs : List (K × Value)} {es : List DictEntry} (r : Paired m.Rel kvs vs) (p : Pairs knd es vs) (hk : ∀ e ∈ es, ∃ k, knd.is k e.key = true ∧ e.hash = knd.hash k) : Paired (EntR w) kvs es := by
  induction r generalizing es with
  | nil => cases p; exact .nil
  | @cons p q ps qs h t ih =>
    cases p with
    | @cons e _ es _ i1 i2 i3 =>
      obtain ⟨k, j1, j2⟩ := hk e List.mem_cons_self
      obtain rfl := knd.inj _ _ _ i1 j1
      refine .cons ⟨by rw [j2, m.hash, h.1], by rw [h.2.1]; exact (m.is _ _).mp i1, by rw [i2]; exact h.2.2⟩ (ih i3 fun e' he => hk e' (List.mem_cons_of_mem _ he))
theorem Emb.keys {kvs : KVs} {vs : List (K × Value)} (r : Paired m.Rel kvs vs) : kvs.map (·.1) = (vs.map (·.1)).map fun k => (m.f k).1 := by
  induction r with
  | nil => rfl
  | cons h t ih => rw [List.map_cons, List.map_cons, List.map_cons, h.1, ih]
theorem nodup_of_map {α β : Type} {f : α → β} : ∀ {l : List α}, (l.map f).Nodup → l.Nodup
  | [], _ => List.nodup_nil
  | a :: l, h => by
    rw [List.map_cons, List.nodup_cons] at h
    exact List.nodup_cons.mpr ⟨fun z => h.1 (List.mem_map.mpr ⟨a, z, rfl⟩), nodup_of_map h.2⟩
theorem nodup_map {α β : Type} {f : α → β} (hf : ∀ a b, f a = f b → a = b) : ∀ {l : List α}, l.Nodup → (l.map f).Nodup
  | [], _ => List.nodup_nil
  | a :: l, h => by
    have h := List.nodup_cons.mp h
    refine List.nodup_cons.mpr ⟨fun z => ?_, nodup_map hf h.2⟩
    obtain ⟨b, hb, e⟩ := List.mem_map.mp z
    exact h.1 (hf _ _ e ▸ hb)
theorem Emb.dict {h : Heap} {a : Addr} {kvs : KVs} (R : RawD w h a kvs) (u : ∀ p ∈ kvs, ∃ k, p.1 = (m.f k).1 ∧ p.2.1 = (m.f k).2) : ∃ vs, Paired m.Rel kvs vs ∧ h.DictOf knd a vs := by
  obtain ⟨o, es, ep, h1, h2, h3, h4⟩ := R.ex
  obtain ⟨vs, r1, r2, r3⟩ := m.to h4 u
  have n := R.n
  rw [m.keys r1] at n
  exact ⟨vs, r1, o, es, ep, h1, h2, h3, fun e he => r3 e (by simpa using he), r2, nodup_of_map n⟩
theorem Emb.raw {h : Heap} {a : Addr} {kvs : KVs} {vs : List (K × Value)} (r : Paired m.Rel kvs vs) (d : h.DictOf knd a vs) (z : kvs.length ≤ sizeLine) (s : (a == sysModules) = false) : RawD w h a kvs := by
  obtain ⟨o, es, ep, h1, h2, h3, h4, h5, h6⟩ := d
  refine ⟨z, s, ?_, o, es, ep, h1, h2, h3, m.from r h5 fun e he => h4 e (by simpa using he)⟩
  rw [m.keys r]
  exact nodup_map (fun a b e => m.inj a b e) h6
theorem Emb.find {kvs : KVs} {vs : List (K × Value)} (r : Paired m.Rel kvs vs) (k : K) : RelO (fnd kvs (m.f k).1) (valueAt vs k) := by
  induction r with
  | nil => exact True.intro
  | @cons p q ps qs h t ih =>
    unfold fnd valueAt at ih ⊢
    rw [List.find?_cons, List.find?_cons]
    by_cases e : q.1 = k
    · rw [decide_eq_true (show p.1 = (m.f k).1 by rw [h.1, e]), decide_eq_true e]
      exact h.2.2
    · rw [decide_eq_false (fun z : p.1 = (m.f k).1 => e (m.inj _ _ (h.1.symm.trans z))), decide_eq_false e]
      exact ih
theorem Emb.any {kvs : KVs} {vs : List (K × Value)} (r : Paired m.Rel kvs vs) (k : K) : (kvs.any fun p => decide (p.1 = (m.f k).1)) = vs.any fun q => decide (q.1 = k) := by
  induction r with
  | nil => rfl
  | @cons p q ps qs h t ih =>
    rw [List.any_cons, List.any_cons, ih]
    congr 1
    by_cases e : q.1 = k
    · rw [decide_eq_true (show p.1 = (m.f k).1 by rw [h.1, e]), decide_eq_true e]
    · rw [decide_eq_false (fun z : p.1 = (m.f k).1 => e (m.inj _ _ (h.1.symm.trans z))), decide_eq_false e]
theorem Emb.put {kvs : KVs} {vs : List (K × Value)} (r : Paired m.Rel kvs vs) (k : K) {v : V} {u : Value} (rv : RelV v u) : Paired m.Rel (putD kvs (m.f k).1 (m.f k).2 v) (stored vs k u) := by
  unfold putD stored
  rw [m.any r k]
  split
  · rename_i hq
    clear hq
    induction r with
    | nil => exact .nil
    | @cons p q ps qs h t ih =>
      rw [List.map_cons, List.map_cons]
      refine .cons ?_ ih
      by_cases e : q.1 = k
      · rw [if_pos (show p.1 = (m.f k).1 by rw [h.1, e]), if_pos e]
        exact ⟨h.1, h.2.1, rv⟩
      · rw [if_neg (fun z : p.1 = (m.f k).1 => e (m.inj _ _ (h.1.symm.trans z))), if_neg e]
        exact h
  · exact Paired.snoc r ⟨rfl, rfl, rv⟩
end
def mixE (P : Program) (w : World) : Emb (mixKind P w) where
  f := fun k => match k with | .inl i => (.num i, .int i) | .inr x => (.text x, .str x)
  inj := fun a b e => by
    cases a <;> cases b <;> first | (injection e with e; rw [e]) | exact nomatch e
  is := fun k u => by
    cases k with
    | inl i =>
      show keyIs (.inl i) u = true ↔ RelV (.int i) u
      constructor
      · intro h
        rcases keyIs_shape h with ⟨j, t, e, rfl⟩ | ⟨x, t, e, _⟩
        · cases e; exact ⟨t, rfl⟩
        · cases e
      · rintro ⟨t, rfl⟩; exact keyIs_int i t
    | inr x =>
      show keyIs (.inr x) u = true ↔ RelV (.str x) u
      constructor
      · intro h
        rcases keyIs_shape h with ⟨j, t, e, _⟩ | ⟨y, t, e, rfl⟩
        · cases e
        · cases e; exact ⟨t, rfl⟩
      · rintro ⟨t, rfl⟩; exact keyIs_str x t
  hash := fun k => by cases k <;> rfl
def booE (P : Program) (w : World) : Emb (PpSet.boolK P w) where
  f := fun b => (.num (PpSet.b2 b), .bl b)
  inj := fun a b e => by
    injection e with e
    cases a <;> cases b <;> first | rfl | exact absurd e (by decide)
  is := fun k u => ⟨fun h => PpSet.isB_shape h, fun h => by obtain rfl : u = Value.bool k := h; exact PpSet.boolK_is P w k⟩
  hash := fun k => rfl
mutual
inductive KeyAt (H : Hp) : V → NestedKey → Prop
  | non : KeyAt H .non .none
  | bl (b : Bool) : KeyAt H (.bl b) (.num (if b = true then 1 else 0))
  | int (i : Int) : KeyAt H (.int i) (.num i)
  | str (x : Str) : KeyAt H (.str x) (.text x)
  | tup {a : Addr} {xs : List V} {ks : List NestedKey} : TupG H a xs → KeysAt H xs ks → KeyAt H (.ref a) (.tup ks)
inductive KeysAt (H : Hp) : List V → List NestedKey → Prop
  | nil : KeysAt H [] []
  | cons {v : V} {vs : List V} {k : NestedKey} {ks : List NestedKey} : KeyAt H v k → KeysAt H vs ks → KeysAt H (v :: vs) (k :: ks)
end
mutual
theorem KeyAt.nested {P : Program} {w : World} {H : Hp} {h : Heap} (ok : HOk P w H h) : ∀ {v : V} {k : NestedKey} {u : Value}, KeyAt H v k → RelV v u → NestedIs h k u
  | _, _, u, .non, r => by obtain rfl : u = .none := r; exact .none
  | _, _, u, .bl b, r => by obtain rfl : u = .bool b := r; exact .bool rfl
  | _, _, u, .int i, r => by obtain ⟨t, rfl⟩ := r; exact .int i t
  | _, _, u, .str x, r => by obtain ⟨t, rfl⟩ := r; exact .text x t
  | _, _, u, .tup ht hk, r => by
    obtain rfl : u = .ref _ := r
    obtain ⟨o, e, hc, hd, hs⟩ := ht
    obtain ⟨e1, z, its, rv, o', e2, c2, n, d2⟩ := ok _ _ e
    have : o = o' := Option.some.inj (e1.symm.trans e2)
    subst this
    exact .tup e1 hc d2 (KeysAt.nested ok hk rv)
theorem KeysAt.nested {P : Program} {w : World} {H : Hp} {h : Heap} (ok : HOk P w H h) : ∀ {vs : List V} {ks : List NestedKey} {us : List Value}, KeysAt H vs ks → Vals vs us → NestedAll h ks us
  | _, _, _, .nil, r => by cases r; exact .nil
  | _, _, _, .cons hk ht, r => by
    cases r with
    | cons r1 r2 => exact .cons (KeyAt.nested ok hk r1) (KeysAt.nested ok ht r2)
end
mutual
theorem KeyAt.mono {H H' : Hp} (k : ∀ a o xs, H a = some (.frz o (.tup xs)) → H' a = some (.frz o (.tup xs))) : ∀ {v : V} {n : NestedKey}, KeyAt H v n → KeyAt H' v n
  | _, _, .non => .non
  | _, _, .bl b => .bl b
  | _, _, .int i => .int i
  | _, _, .str x => .str x
  | _, _, .tup ht hk => .tup (ht.kt fun o e => k _ o _ e) (KeysAt.mono k hk)
theorem KeysAt.mono {H H' : Hp} (k : ∀ a o xs, H a = some (.frz o (.tup xs)) → H' a = some (.frz o (.tup xs))) : ∀ {vs : List V} {ns : List NestedKey}, KeysAt H vs ns → KeysAt H' vs ns
  | _, _, .nil => .nil
  | _, _, .cons h t => .cons (KeyAt.mono k h) (KeysAt.mono k t)
end
end My
namespace My
open PySem PySem.Spec PyProof.Rows L2
def mixF : Key → NestedKey × V := fun k => match k with | .inl i => (.num i, .int i) | .inr x => (.text x, .str x)
def booF : Bool → NestedKey × V := fun b => (.num (PpSet.b2 b), .bl b)
inductive Uni (H : Hp) (kvs : KVs) : Prop
  | mix : (∀ p ∈ kvs, ∃ k, p.1 = (mixF k).1 ∧ p.2.1 = (mixF k).2) → Uni H kvs
  | boo : (∀ p ∈ kvs, ∃ k, p.1 = (booF k).1 ∧ p.2.1 = (booF k).2) → Uni H kvs
  | tup : (∀ p ∈ kvs, (∃ b, p.2.1 = .ref b) ∧ KeyAt H p.2.1 p.1 ∧ p.1.depth ≤ 8) → Uni H kvs
/-- .. with this one -/
inductive UniK (H : Hp) (kvs : KVs) : V → NestedKey → Prop
  | mix (k : Key) : (∀ p ∈ kvs, ∃ k, p.1 = (mixF k).1 ∧ p.2.1 = (mixF k).2) → UniK H kvs (mixF k).2 (mixF k).1
  | boo (k : Bool) : (∀ p ∈ kvs, ∃ k, p.1 = (booF k).1 ∧ p.2.1 = (booF k).2) → UniK H kvs (booF k).2 (booF k).1
  | tup {b : Addr} {k : NestedKey} : KeyAt H (.ref b) k → k.depth ≤ 8 → (∀ p ∈ kvs, (∃ b, p.2.1 = .ref b) ∧ KeyAt H p.2.1 p.1 ∧ p.1.depth ≤ 8) → UniK H kvs (.ref b) k
def RelT (p : NestedKey × V × V) (x : NestedKey × Addr × Value) : Prop := p.1 = x.1 ∧ p.2.1 = .ref x.2.1 ∧ RelV p.2.2 x.2.2
section
variable {P : Program} {w : World} {H : Hp} {h : Heap} {a : Addr} {kvs : KVs}
theorem tup_to (ok : HOk P w H h) {es : List DictEntry} (r : Paired (EntR w) kvs es) (u : ∀ p ∈ kvs, (∃ b, p.2.1 = .ref b) ∧ KeyAt H p.2.1 p.1 ∧ p.1.depth ≤ 8) :
    ∃ xs : List (NestedKey × Addr × Value), Paired RelT kvs xs ∧ es = xs.map (entryOfKey (nestedKind P w)) ∧ ∀ x ∈ xs, (nestedKind P w).is h x.1 x.2.1 := by
  induction r with
  | nil => exact ⟨[], .nil, rfl, fun x hx => by cases hx⟩
  | @cons p e ps es h1 t ih =>
    obtain ⟨⟨b, hb⟩, u2, u3⟩ := u p List.mem_cons_self
    obtain ⟨xs, r1, r2, r3⟩ := ih fun q hq => u q (List.mem_cons_of_mem _ hq)
    obtain ⟨h1, h2, h3⟩ := h1
    rw [hb] at h2 u2
    have h2 : e.key = .ref b := h2
    refine ⟨(p.1, b, e.val) :: xs, .cons ⟨rfl, hb, h3⟩ r1, ?_, fun x hx => ?_⟩
    · rw [List.map_cons, r2]
      congr 1
      show e = ⟨(nestedKind P w).hash p.1, .ref b, e.val⟩
      rw [show (nestedKind P w).hash p.1 = e.hash from h1.symm, ← h2]
    · rcases List.mem_cons.mp hx with rfl | hx
      · exact ⟨u2.nested ok rfl, u3⟩
      · exact r3 x hx
theorem tup_keys {xs : List (NestedKey × Addr × Value)} (r : Paired RelT kvs xs) : kvs.map (·.1) = xs.map (·.1) := by
  induction r with
  | nil => rfl
  | cons h t ih => rw [List.map_cons, List.map_cons, h.1, ih]
theorem tup_dict (ok : HOk P w H h) (R : RawD w h a kvs) (u : ∀ p ∈ kvs, (∃ b, p.2.1 = .ref b) ∧ KeyAt H p.2.1 p.1 ∧ p.1.depth ≤ 8) : ∃ xs, Paired RelT kvs xs ∧ h.DictOfH (nestedKind P w) a xs := by
  obtain ⟨o, es, ep, h1, h2, h3, h4⟩ := R.ex
  obtain ⟨xs, r1, r2, r3⟩ := tup_to ok h4 u
  exact ⟨xs, r1, o, es, ep, h1, h2, h3, r2, r3, by rw [← tup_keys r1]; exact R.n⟩
theorem tup_raw {xs : List (NestedKey × Addr × Value)} (r : Paired RelT kvs xs) (d : h.DictOfH (nestedKind P w) a xs) (z : kvs.length ≤ sizeLine) (s : (a == sysModules) = false) : RawD w h a kvs := by
  obtain ⟨o, es, ep, h1, h2, h3, h4, h5, h6⟩ := d
  refine ⟨z, s, by rw [tup_keys r]; exact h6, o, es, ep, h1, h2, h3, ?_⟩
  rw [h4]
  clear h4 h5 h6 z
  induction r with
  | nil => exact .nil
  | cons h t ih => exact .cons ⟨by rw [h.1]; rfl, by rw [h.2.1]; rfl, h.2.2⟩ ih
theorem tup_find {xs : List (NestedKey × Addr × Value)} (r : Paired RelT kvs xs) (k : NestedKey) : RelO (fnd kvs k) ((atKey xs k).map (·.2)) := by
  induction r with
  | nil => exact True.intro
  | @cons p x ps xs h t ih =>
    unfold fnd atKey at ih ⊢
    rw [List.find?_cons, List.find?_cons, h.1]
    by_cases e : x.1 = k
    · rw [decide_eq_true e]; exact h.2.2
    · rw [decide_eq_false e]; exact ih
theorem fnd_any (kvs : KVs) (k : NestedKey) : (kvs.any fun p => decide (p.1 = k)) = (fnd kvs k).isSome := by
  unfold fnd
  induction kvs with
  | nil => rfl
  | cons p ps ih =>
    rw [List.any_cons, List.find?_cons, ih]
    by_cases e : p.1 = k
    · rw [decide_eq_true e]; rfl
    · rw [decide_eq_false e]; rfl
theorem tup_put {xs : List (NestedKey × Addr × Value)} (r : Paired RelT kvs xs) (k : NestedKey) {b : Addr} {v : V} {u : Value} (rv : RelV v u) : Paired RelT (putD kvs k (.ref b) v) (storedH xs k b u) := by
  have e : (kvs.any fun p => decide (p.1 = k)) = (atKey xs k).isSome := by
    rw [fnd_any, (tup_find r k).isSome_eq, Option.isSome_map]
  unfold putD storedH
  rw [e]
  split
  · rename_i hq
    clear hq e
    induction r with
    | nil => exact .nil
    | @cons p x ps xs h t ih =>
      rw [List.map_cons, List.map_cons]
      refine .cons ?_ ih
      unfold putAt
      by_cases e : x.1 = k
      · rw [if_pos (h.1.trans e), if_pos e]; exact ⟨h.1, h.2.1, rv⟩
      · rw [if_neg (fun z => e (h.1.symm.trans z)), if_neg e]; exact h
  · exact Paired.snoc r ⟨rfl, rfl, rv⟩
end
section
variable {X : Cx} {pins : List (Addr × Obj)} {σ : L2.St} {H : Hp} {s : Shared} {a : Addr} {y v d : V} {k : NestedKey} {kvs : KVs} {u r : Value} {A : Around} {E : Value → Shared → Prop}
theorem room9 (hu : A.units + 9 < cLine) : (nestedKind X.prog X.w).room A.in1 := by
  show A.in1.units + 8 < cLine
  have : A.in1.units = A.units + 1 := rfl
  omega
theorem dc_raw (I : Inv X pins σ H s) (e : IsDic X.w H a kvs) : RawD X.w s.heap a kvs := dic_at I.hok e
theorem RawD.typeIs {w : World} {s : Shared} (R : RawD w s.heap a kvs) : s.TypeIs (.ref a) "dict" := let ⟨o, _, _, h1, h2, _⟩ := R.ex; ⟨o, h1, h2.1⟩
theorem RawD.noDict {w : World} {s : Shared} (R : RawD w s.heap a kvs) : ∀ b, Value.ref a = .ref b → ∃ ob, s.heap.get? b = some ob ∧ ob.dict = none := fun b q => by
  cases q
  obtain ⟨o, _, _, h1, h2, _⟩ := R.ex
  exact ⟨o, h1, h2.2.1⟩
/-- d[y] -/
theorem dc_get {Q : Value → Shared → Prop} (hu : A.units + 9 < cLine) (I : Inv X pins σ H s) (e : IsDic X.w H a kvs) (U : UniK H kvs y k) (g : fnd kvs k = some v) (ry : RelV y u)
    (h : ∀ w' s', Inv X pins σ H s' → RelV v w' → Q w' s') : wpAny (model X.prog X.w) A (getItem (.ref a) u) Q E s := by
  have R := dc_raw I e
  cases U with
  | mix k hk =>
    obtain ⟨vs, r1, dd⟩ := Emb.dict (m := mixE X.prog X.w) R hk
    obtain ⟨w', hw, rw'⟩ := RelO.some_of (v := v) (o := valueAt vs k) (by rw [← g]; exact Emb.find (m := mixE X.prog X.w) r1 k)
    exact wpAny_getItem_of (((mixE X.prog X.w).is k u).mpr ry) dd.mapOf hw (h w' _ (I.tok _) rw')
  | boo k hk =>
    obtain ⟨vs, r1, dd⟩ := Emb.dict (m := booE X.prog X.w) R hk
    obtain ⟨w', hw, rw'⟩ := RelO.some_of (v := v) (o := valueAt vs k) (by rw [← g]; exact Emb.find (m := booE X.prog X.w) r1 k)
    exact wpAny_getItem_of (((booE X.prog X.w).is k u).mpr ry) dd.mapOf hw (h w' _ (I.tok _) rw')
  | tup hk hd hks =>
    obtain ⟨xs, r1, dd⟩ := tup_dict I.hok R hks
    obtain ⟨w', hw, rw'⟩ := RelO.some_of (v := v) (o := (atKey xs k).map (·.2)) (by rw [← g]; exact tup_find r1 k)
    obtain ⟨p, hp, hp2⟩ := Option.map_eq_some_iff.mp hw
    cases (show u = Value.ref _ from ry)
    refine wpAny_getItem_heap (knd := nestedKind X.prog X.w) (room9 hu) ⟨hk.nested I.hok rfl, hd⟩ dd hp ?_
    rw [hp2]
    exact h w' _ (I.tok _) rw'
theorem dc_notIn {Q : Value → Shared → Prop} (hu : A.units + 9 < cLine) (I : Inv X pins σ H s) (e : IsDic X.w H a kvs) (U : UniK H kvs y k) (ry : RelV y u)
    (h : ∀ s', Inv X pins σ H s' → Q (.bool (!(fnd kvs k).isSome)) s') : wpAny (model X.prog X.w) A (compareOp .NotIn u (.ref a)) Q E s := by
  have R := dc_raw I e
  cases U with
  | mix k hk =>
    obtain ⟨vs, r1, dd⟩ := Emb.dict (m := mixE X.prog X.w) R hk
    refine wpAny_notIn_of (((mixE X.prog X.w).is k u).mpr ry) R.s dd.mapOf ?_
    rw [← (Emb.find (m := mixE X.prog X.w) r1 k).isSome_eq]
    exact h _ (I.tok _)
  | boo k hk =>
    obtain ⟨vs, r1, dd⟩ := Emb.dict (m := booE X.prog X.w) R hk
    refine wpAny_notIn_of (((booE X.prog X.w).is k u).mpr ry) R.s dd.mapOf ?_
    rw [← (Emb.find (m := booE X.prog X.w) r1 k).isSome_eq]
    exact h _ (I.tok _)
  | tup hk hd hks =>
    obtain ⟨xs, r1, dd⟩ := tup_dict I.hok R hks
    cases (show u = Value.ref _ from ry)
    refine wpAny_notIn_heap (knd := nestedKind X.prog X.w) (room9 hu) ⟨hk.nested I.hok rfl, hd⟩ R.s dd ?_
    have q := (tup_find r1 k).isSome_eq
    rw [Option.isSome_map] at q
    rw [← q]
    exact h _ (I.tok _)
/-- d[y] = v -/
theorem dc_set {Q : Unit → Shared → Prop} (hu : A.units + 9 < cLine) (I : Inv X pins σ H s) (e : IsDic X.w H a kvs) (U : UniK H kvs y k) (hl : kvs.length < sizeLine) (ry : RelV y u) (rv : RelV v r)
    (h : ∀ ep s', Inv X pins σ (upd H a (DicO X.w a (putD kvs k y v) ep)) s' → Q () s') : wpAny (model X.prog X.w) A (setItem (.ref a) u r) Q E s := by
  have R := dc_raw I e
  have hz : (putD kvs k y v).length ≤ sizeLine := by have := putD_len kvs k y v; omega
  have fin : ∀ (h' : Heap) (t' : Nat), RawD X.w h' a (putD kvs k y v) → Heap.SameBut a s.heap h' → ∃ ep, Inv X pins σ (upd H a (DicO X.w a (putD kvs k y v) ep)) { s with heap := h', toks := t' } := fun h' t' R' hs =>
    let ⟨ep, he⟩ := R'.ep; ⟨ep, d_write I (by obtain ⟨_, e⟩ := e; rw [e]; exact True.intro) hs (let ⟨o, _, _, h1, _⟩ := R'.ex; ⟨o, h1⟩) (R'.ok2 he)⟩
  cases U with
  | mix k hk =>
    obtain ⟨vs, r1, dd⟩ := Emb.dict (m := mixE X.prog X.w) R hk
    exact wpAny_setItem_pairs (hsz := by rw [← Paired.length r1]; exact R.z) (((mixE X.prog X.w).is k u).mpr ry) dd fun h' dd' hs => let ⟨ep, i⟩ := fin _ _ (Emb.raw (m := mixE X.prog X.w) (Emb.put r1 k rv) dd' hz R.s) hs; h ep _ i
  | boo k hk =>
    obtain ⟨vs, r1, dd⟩ := Emb.dict (m := booE X.prog X.w) R hk
    exact wpAny_setItem_pairs (hsz := by rw [← Paired.length r1]; exact R.z) (((booE X.prog X.w).is k u).mpr ry) dd fun h' dd' hs => let ⟨ep, i⟩ := fin _ _ (Emb.raw (m := booE X.prog X.w) (Emb.put r1 k rv) dd' hz R.s) hs; h ep _ i
  | tup hk hd hks =>
    obtain ⟨xs, r1, dd⟩ := tup_dict I.hok R hks
    cases (show u = Value.ref _ from ry)
    exact wpAny_setItem_heap (knd := nestedKind X.prog X.w) (hsz := by rw [← Paired.length r1]; exact R.z) (room9 hu) ⟨hk.nested I.hok rfl, hd⟩ dd fun h' dd' hs => let ⟨ep, i⟩ := fin _ _ (tup_raw (tup_put r1 k rv) dd' hz R.s) hs; h ep _ i
/-- d.get(y) -/
theorem dc_get1 {Q : Value → Shared → Prop} (hu : A.units + 9 < cLine) (I : Inv X pins σ H s) (e : IsDic X.w H a kvs) (U : UniK H kvs y k) (ry : RelV y u)
    (h : ∀ w' s', Inv X pins σ H s' → RelV ((fnd kvs k).getD .non) w' → Q w' s') : wpAny (model X.prog X.w) A (call (.builtin "dict.get") [.ref a, u]) Q E s := by
  have R := dc_raw I e
  cases U with
  | mix k hk =>
    obtain ⟨vs, r1, dd⟩ := Emb.dict (m := mixE X.prog X.w) R hk
    exact call_meetsIn PySem.F.slot_dict_get dd.typeIs PySem.F.entry_dict_get (PySem.F.args_dict_get_2 _ _) (meets_dict_get (mixKind X.prog X.w) a (((mixE X.prog X.w).is k u).mpr ry) R.s) ⟨_, dd.mapOf, h _ _ (I.tok _) ((Emb.find (m := mixE X.prog X.w) r1 k).getD rfl)⟩
  | boo k hk =>
    obtain ⟨vs, r1, dd⟩ := Emb.dict (m := booE X.prog X.w) R hk
    exact call_meetsIn PySem.F.slot_dict_get dd.typeIs PySem.F.entry_dict_get (PySem.F.args_dict_get_2 _ _) (meets_dict_get (PpSet.boolK X.prog X.w) a (((booE X.prog X.w).is k u).mpr ry) R.s) ⟨_, dd.mapOf, h _ _ (I.tok _) ((Emb.find (m := booE X.prog X.w) r1 k).getD rfl)⟩
  | tup hk hd hks =>
    obtain ⟨xs, r1, dd⟩ := tup_dict I.hok R hks
    cases (show u = Value.ref _ from ry)
    exact call_meetsIn PySem.F.slot_dict_get dd.typeIs PySem.F.entry_dict_get (PySem.F.args_dict_get_2 _ _) (meetsH_dict_get (nestedKind X.prog X.w) a _ R.s) ⟨room9 (A := A) hu, k, xs, ⟨hk.nested I.hok rfl, hd⟩, dd, h _ _ (I.tok _) ((tup_find r1 k).getD rfl)⟩
/-- d.get(y, x) -/
theorem dc_get2 {Q : Value → Shared → Prop} (hu : A.units + 9 < cLine) (I : Inv X pins σ H s) (e : IsDic X.w H a kvs) (U : UniK H kvs y k) (ry : RelV y u) (rd : RelV d r)
    (h : ∀ w' s', Inv X pins σ H s' → RelV ((fnd kvs k).getD d) w' → Q w' s') : wpAny (model X.prog X.w) A (call (.builtin "dict.get") [.ref a, u, r]) Q E s := by
  have R := dc_raw I e
  cases U with
  | mix k hk =>
    obtain ⟨vs, r1, dd⟩ := Emb.dict (m := mixE X.prog X.w) R hk
    exact call_meetsIn PySem.F.slot_dict_get dd.typeIs PySem.F.entry_dict_get (PySem.F.args_dict_get_3 _ _ _) (meets_dict_get_default (mixKind X.prog X.w) a (((mixE X.prog X.w).is k u).mpr ry) R.s r) ⟨_, dd.mapOf, h _ _ (I.tok _) ((Emb.find (m := mixE X.prog X.w) r1 k).getD rd)⟩
  | boo k hk =>
    obtain ⟨vs, r1, dd⟩ := Emb.dict (m := booE X.prog X.w) R hk
    exact call_meetsIn PySem.F.slot_dict_get dd.typeIs PySem.F.entry_dict_get (PySem.F.args_dict_get_3 _ _ _) (meets_dict_get_default (PpSet.boolK X.prog X.w) a (((booE X.prog X.w).is k u).mpr ry) R.s r) ⟨_, dd.mapOf, h _ _ (I.tok _) ((Emb.find (m := booE X.prog X.w) r1 k).getD rd)⟩
  | tup hk hd hks =>
    obtain ⟨xs, r1, dd⟩ := tup_dict I.hok R hks
    cases (show u = Value.ref _ from ry)
    exact call_meetsIn PySem.F.slot_dict_get dd.typeIs PySem.F.entry_dict_get (PySem.F.args_dict_get_3 _ _ _) (meetsH_dict_get_default (nestedKind X.prog X.w) a _ R.s r) ⟨room9 (A := A) hu, k, xs, ⟨hk.nested I.hok rfl, hd⟩, dd, h _ _ (I.tok _) ((tup_find r1 k).getD rd)⟩
end
end My
namespace My
open PySem PySem.Spec PyProof.Rows L2
/-- what a law's run leans on: the tables of code objects, the world -/
class TB where
  T : List NdefX.NTab
  w : World
mutual
/-- a value as a key: True is 1 -/
def canon : PyData → Option NestedKey
  | .none => some .none
  | .bool b => some (.num (if b = true then 1 else 0))
  | .int i => some (.num i)
  | .str x => some (.text x)
  | .tuple ds => (canons ds).map .tup
  | .list _ => Option.none
  | .dict _ => Option.none
def canons : List PyData → Option (List NestedKey)
  | [] => some []
  | d :: ds => match canon d, canons ds with
    | some k, some ks => some (k :: ks)
    | _, _ => Option.none
end
section
variable [TB]
mutual
inductive Dt (H : Hp) : V → PyData → Prop
  | non : Dt H .non .none
  | bl (b : Bool) : Dt H (.bl b) (.bool b)
  | int (i : Int) : Dt H (.int i) (.int i)
  | str (x : Str) : Dt H (.str x) (.str x)
  | tup {a : Addr} {xs : List V} {ds : List PyData} : TupG H a xs → DtAll H xs ds → Dt H (.ref a) (.tuple ds)
  | lst {a : Addr} {xs : List V} {ds : List PyData} : H a = some (.lst xs) → DtAll H xs ds → Dt H (.ref a) (.list ds)
  | dic {a : Addr} {kvs : KVs} {ds : List (PyData × PyData)} : IsDic TB.w H a kvs → DtAll H (kvs.map (·.2.1)) (ds.map (·.1)) → DtAll H (kvs.map (·.2.2)) (ds.map (·.2)) → ds.map (fun q => canon q.1) = kvs.map (fun p => some p.1) → Dt H (.ref a) (.dict ds)
inductive DtAll (H : Hp) : List V → List PyData → Prop
  | nil : DtAll H [] []
  | cons {v : V} {vs : List V} {d : PyData} {ds : List PyData} : Dt H v d → DtAll H vs ds → DtAll H (v :: vs) (d :: ds)
end
mutual
theorem Dt.mono {H H' : Hp} (k : Same H H') : ∀ {v : V} {d : PyData}, Dt H v d → Dt H' v d
  | _, _, .non => .non
  | _, _, .bl b => .bl b
  | _, _, .int i => .int i
  | _, _, .str x => .str x
  | _, _, .tup h ha => .tup (h.kt fun o e => k _ _ e) (DtAll.mono k ha)
  | _, _, .lst h ha => .lst (k _ _ h) (DtAll.mono k ha)
  | _, _, .dic h h1 h2 h3 => .dic (h.mono fun o e => k _ o e) (DtAll.mono k h1) (DtAll.mono k h2) h3
theorem DtAll.mono {H H' : Hp} (k : Same H H') : ∀ {vs : List V} {ds : List PyData}, DtAll H vs ds → DtAll H' vs ds
  | _, _, .nil => .nil
  | _, _, .cons h t => .cons (Dt.mono k h) (DtAll.mono k t)
end
mutual
theorem Dt.dp {K : PySem.W.Frag} {H : Hp} : ∀ {v : V} {d : PyData}, Dt H v d → d.hasDict = false → Dp K H v d
  | _, _, .non, _ => .non
  | _, _, .bl b, _ => .bl b
  | _, _, .int i, _ => .int i
  | _, _, .str x, _ => .str x
  | _, _, .tup h ha, e => .tup h.sq (DtAll.dp ha (by simpa [PyData.hasDict] using e))
  | _, _, .lst h ha, e => .lst (SqL.of h) (DtAll.dp ha (by simpa [PyData.hasDict] using e))
  | _, _, .dic _ _ _ _, e => by simp [PyData.hasDict] at e
theorem DtAll.dp {K : PySem.W.Frag} {H : Hp} : ∀ {vs : List V} {ds : List PyData}, DtAll H vs ds → PyData.hasDictAll ds = false → DpAll K H vs ds
  | _, _, .nil, _ => .nil
  | _, _, .cons h t, e => by
    simp only [PyData.hasDictAll, Bool.or_eq_false_iff] at e
    exact .cons (Dt.dp h e.1) (DtAll.dp t e.2)
end
theorem DtAll.length {H : Hp} : ∀ {vs : List V} {ds : List PyData}, DtAll H vs ds → vs.length = ds.length
  | _, _, .nil => rfl
  | _, _, .cons _ t => congrArg (· + 1) (DtAll.length t)
theorem DtAll.of {H : Hp} : ∀ {vs : List V} {ds : List PyData} {i : Nat} {d : PyData}, DtAll H vs ds → ds[i]? = some d → ∃ v, vs[i]? = some v ∧ Dt H v d
  | _, _, _, _, .nil, e => by simp at e
  | _, _, 0, _, .cons h _, e => by simp at e; subst e; exact ⟨_, rfl, h⟩
  | _, _, i + 1, _, .cons _ t, e => by
    obtain ⟨d, h1, h2⟩ := DtAll.of (i := i) t (by simpa using e)
    exact ⟨d, by simpa using h1, h2⟩
theorem DtAll.get {H : Hp} : ∀ {vs : List V} {ds : List PyData} {i : Nat} {v : V}, DtAll H vs ds → vs[i]? = some v → ∃ d, ds[i]? = some d ∧ Dt H v d
  | _, _, _, _, .nil, e => by simp at e
  | _, _, 0, _, .cons h _, e => by simp at e; subst e; exact ⟨_, rfl, h⟩
  | _, _, i + 1, _, .cons _ t, e => by
    obtain ⟨d, h1, h2⟩ := DtAll.get (i := i) t (by simpa using e)
    exact ⟨d, by simpa using h1, h2⟩
theorem DtAll.append {H : Hp} : ∀ {vs ws : List V} {ds es : List PyData}, DtAll H vs ds → DtAll H ws es → DtAll H (vs ++ ws) (ds ++ es)
  | _, _, _, _, .nil, h => h
  | _, _, _, _, .cons g t, h => .cons g (DtAll.append t h)
theorem DtAll.snoc {H : Hp} {vs : List V} {ds : List PyData} {v : V} {d : PyData} (a : DtAll H vs ds) (b : Dt H v d) : DtAll H (vs ++ [v]) (ds ++ [d]) :=
  a.append (.cons b .nil)
theorem DtAll.take {H : Hp} : ∀ {vs : List V} {ds : List PyData} (n : Nat), DtAll H vs ds → DtAll H (vs.take n) (ds.take n)
  | _, _, 0, _ => .nil
  | _, _, _ + 1, .nil => .nil
  | _, _, n + 1, .cons g t => .cons g (DtAll.take n t)
theorem DtAll.drop {H : Hp} : ∀ {vs : List V} {ds : List PyData} (n : Nat), DtAll H vs ds → DtAll H (vs.drop n) (ds.drop n)
  | _, _, 0, h => h
  | _, _, _ + 1, .nil => .nil
  | _, _, n + 1, .cons _ t => DtAll.drop n t
theorem DtAll.set {H : Hp} {v : V} {d : PyData} (h : Dt H v d) : ∀ {vs : List V} {ds : List PyData} (n : Nat), DtAll H vs ds → DtAll H (vs.set n v) (ds.set n d)
  | _, _, _, .nil => .nil
  | _, _, 0, .cons _ t => .cons h t
  | _, _, n + 1, .cons g t => .cons g (DtAll.set h n t)
def KF (H H' : Hp) : Prop := ∀ a o u, H a = some (.frz o u) → H' a = some (.frz o u)
/-- no list within -/
def tpo : PyData → Bool
  | .none => true | .bool _ => true | .int _ => true | .str _ => true
  | .list _ => false | .dict _ => false
  | .tuple xs => tpoAll xs
where tpoAll : List PyData → Bool
  | [] => true
  | d :: ds => tpo d && tpoAll ds
mutual
theorem Dt.tpo {H H' : Hp} (k : KF H H') : ∀ {v : V} {d : PyData}, Dt H v d → tpo d = true → Dt H' v d
  | _, _, .non, _ => .non
  | _, _, .bl b, _ => .bl b
  | _, _, .int i, _ => .int i
  | _, _, .str x, _ => .str x
  | _, _, .tup h ha, e => .tup (h.kt fun o e => k _ _ _ e) (DtAll.tpo k ha (by simpa [My.tpo] using e))
  | _, _, .lst h ha, e => by simp [My.tpo] at e
  | _, _, .dic _ _ _ _, e => by simp [My.tpo] at e
theorem DtAll.tpo {H H' : Hp} (k : KF H H') : ∀ {vs : List V} {ds : List PyData}, DtAll H vs ds → tpo.tpoAll ds = true → DtAll H' vs ds
  | _, _, .nil, _ => .nil
  | _, _, .cons h t, e => by
    simp [My.tpo.tpoAll] at e
    exact .cons (Dt.tpo k h e.1) (DtAll.tpo k t e.2)
end
/-- a dict, and how often its keys have changed -/
def ghost (ep : Nat) : PyData := .dict [(.dict [], .int ep)]
def PinD (H : Hp) (v : V) (d : PyData) : Prop := Dt H v d ∨ ∃ (a : Addr) (ep : Nat) (kvs : KVs), v = .ref a ∧ d = ghost ep ∧ H a = some (DicO TB.w a kvs ep)
theorem PinD.mono {H H' : Hp} {v : V} {d : PyData} (k : Same H H') (h : PinD H v d) : PinD H' v d :=
  h.elim (fun h => .inl (Dt.mono k h)) fun ⟨a, ep, kvs, e1, e2, e3⟩ => .inr ⟨a, ep, kvs, e1, e2, k _ _ e3⟩
theorem Dt.real {H : Hp} {v : V} {d : PyData} (h : Dt H v d) (ep : Nat) : d ≠ ghost ep := fun z => by
  subst z
  cases h with
  | @dic a kvs _ _ _ _ h3 =>
    cases kvs with
    | nil => simp at h3
    | cons p kvs =>
      rw [List.map_cons, List.map_cons, canon] at h3
      injection h3 with h4 _
      cases h4
theorem DtAll.real {H : Hp} {vs : List V} {ds : List PyData} (h : DtAll H vs ds) {i : Nat} {d : PyData} (e : ds[i]? = some d) (ep : Nat) : d ≠ ghost ep :=
  let ⟨_, _, g⟩ := h.of e; g.real ep
theorem PinD.dt {H : Hp} {v : V} {d : PyData} (h : PinD H v d) (g : ∀ ep, d ≠ ghost ep) : Dt H v d := h.elim id fun ⟨_, ep, _, _, e, _⟩ => (g ep e).elim
theorem PinD.lst {H : Hp} {v : V} {ds : List PyData} (h : PinD H v (.list ds)) : Dt H v (.list ds) := h.dt fun _ z => by cases z
theorem PinD.tup {H : Hp} {v : V} {ds : List PyData} (h : PinD H v (.tuple ds)) : Dt H v (.tuple ds) := h.dt fun _ z => by cases z
theorem PinD.ep {H : Hp} {a : Addr} {ep : Nat} (h : PinD H (.ref a) (ghost ep)) : ∃ kvs, H a = some (DicO TB.w a kvs ep) := by
  rcases h with h | ⟨a', ep', kvs, e1, e2, e3⟩
  · exact (h.real ep rfl).elim
  · cases e1
    have : (ep : Int) = ep' := by
      unfold ghost at e2
      injection e2 with e2
      injection e2 with e2 _
      injection e2 with _ e2
      injection e2
    obtain rfl : ep = ep' := by omega
    exact ⟨kvs, e3⟩
/-- the heap without some places -/
noncomputable def wo (S : Addr → Prop) (H : Hp) : Hp := fun a => open Classical in if S a then none else H a
theorem wo_of {S : Addr → Prop} {H : Hp} {a : Addr} {o : HO} (h : wo S H a = some o) : ¬ S a ∧ H a = some o := by
  unfold wo at h
  split at h
  · cases h
  · exact ⟨by assumption, h⟩
theorem wo_mk {S : Addr → Prop} {H : Hp} {a : Addr} {o : HO} (n : ¬ S a) (h : H a = some o) : wo S H a = some o := by
  unfold wo; rw [if_neg n]; exact h
theorem wo_same {S : Addr → Prop} {H : Hp} : Same (wo S H) H := fun _ _ h => (wo_of h).2
theorem wo_mono {S S' : Addr → Prop} {H H' : Hp} (hs : ∀ a, S' a → S a) (hh : ∀ a o, ¬ S a → H a = some o → H' a = some o) : Same (wo S H) (wo S' H') := fun a o h =>
  wo_mk (fun z => (wo_of h).1 (hs a z)) (hh a o (wo_of h).1 (wo_of h).2)
/-- a function: how its object is known, its code object -/
structure FF where
  φ : FuncData → Prop
  qual : Str
  c : Addr
def FnOb (f : Addr) (F : FF) : HO := .ext fun h => ∃ (od : Option Addr) (sl : Array (Option Value)) (fd : FuncData), F.φ fd ∧ h.get? f = some (⟨.type "function", od, .func fd, sl⟩ : Obj)
/-- functions that are known, what their cells hold -/
structure FnI where
  fns : List (Addr × FF)
  pn : List (V × PyData)
inductive M where
  | leaf (d : PyData)
  | lst (ms : List M)
  | dic (ks : List PyData) (ms : List M)
mutual
/-- given away -/
def M.dat : M → PyData
  | .leaf d => d
  | .lst ms => .list (M.dats ms)
  | .dic ks ms => .dict (ks.zip (M.dats ms))
def M.dats : List M → List PyData
  | [] => []
  | m :: ms => m.dat :: M.dats ms
end
mutual
/-- the value v is this; the places of its lists and dicts -/
inductive RelM (H : Hp) (B : Addr → Prop) : V → M → List Addr → Prop
  | leaf {v : V} {d : PyData} : Dt (wo B H) v d → RelM H B v (.leaf d) []
  | lst {p : Addr} {vs : List V} {ms : List M} {f : List Addr} : H p = some (.lst vs) → RelMs H B vs ms f → p ∉ f → RelM H B (.ref p) (.lst ms) (p :: f)
  | dic {p : Addr} {kvs : KVs} {ks : List PyData} {ms : List M} {f : List Addr} : IsDic TB.w H p kvs → DtAll (wo B H) (kvs.map (·.2.1)) ks → ks.map canon = kvs.map (fun q => some q.1) →
      RelMs H B (kvs.map (·.2.2)) ms f → p ∉ f → RelM H B (.ref p) (.dic ks ms) (p :: f)
inductive RelMs (H : Hp) (B : Addr → Prop) : List V → List M → List Addr → Prop
  | nil : RelMs H B [] [] []
  | cons {v : V} {vs : List V} {m : M} {ms : List M} {f g : List Addr} : RelM H B v m f → RelMs H B vs ms g → (∀ b ∈ f, b ∉ g) → RelMs H B (v :: vs) (m :: ms) (f ++ g)
end
mutual
theorem RelM.mono {H H' : Hp} {B B' : Addr → Prop} (s : Same (wo B H) (wo B' H')) : ∀ {v : V} {m : M} {f : List Addr}, RelM H B v m f → (∀ b ∈ f, ∀ o, H b = some o → H' b = some o) → RelM H' B' v m f
  | _, _, _, .leaf h, _ => .leaf (Dt.mono s h)
  | _, _, _, .lst h hs n, k => .lst (k _ List.mem_cons_self _ h) (RelMs.mono s hs fun b hb => k b (List.mem_cons_of_mem _ hb)) n
  | _, _, _, .dic h h1 h2 hs n, k => .dic (h.mono fun o e => k _ List.mem_cons_self o e) (DtAll.mono s h1) h2 (RelMs.mono s hs fun b hb => k b (List.mem_cons_of_mem _ hb)) n
theorem RelMs.mono {H H' : Hp} {B B' : Addr → Prop} (s : Same (wo B H) (wo B' H')) : ∀ {vs : List V} {ms : List M} {f : List Addr}, RelMs H B vs ms f → (∀ b ∈ f, ∀ o, H b = some o → H' b = some o) → RelMs H' B' vs ms f
  | _, _, _, .nil, _ => .nil
  | _, _, _, .cons h t n, k => .cons (RelM.mono s h fun b hb => k b (List.mem_append_left _ hb)) (RelMs.mono s t fun b hb => k b (List.mem_append_right _ hb)) n
end
mutual
theorem RelM.some {H : Hp} {B : Addr → Prop} : ∀ {v : V} {m : M} {f : List Addr}, RelM H B v m f → ∀ b ∈ f, ∃ o, H b = some o
  | _, _, _, .leaf h, _, hb => by cases hb
  | _, _, _, .lst h hs n, b, hb => (List.mem_cons.mp hb).elim (fun e => e ▸ ⟨_, h⟩) (RelMs.some hs b)
  | _, _, _, .dic h h1 h2 hs n, b, hb => (List.mem_cons.mp hb).elim (fun e => e ▸ let ⟨_, h⟩ := h; ⟨_, h⟩) (RelMs.some hs b)
theorem RelMs.some {H : Hp} {B : Addr → Prop} : ∀ {vs : List V} {ms : List M} {f : List Addr}, RelMs H B vs ms f → ∀ b ∈ f, ∃ o, H b = some o
  | _, _, _, .nil, _, hb => by cases hb
  | _, _, _, .cons h t n, b, hb => (List.mem_append.mp hb).elim (RelM.some h b) (RelMs.some t b)
end
theorem RelMs.flat {H : Hp} {B : Addr → Prop} : ∀ {vs : List V} {ms : List M} {f : List Addr}, RelMs H B vs ms f → f = [] → DtAll (wo B H) vs (M.dats ms)
  | _, _, _, .nil, _ => .nil
  | _, _, _, .cons h t n, e => by
    obtain ⟨e1, e2⟩ := List.append_eq_nil_iff.mp e
    rw [M.dats]
    refine .cons ?_ (RelMs.flat t e2)
    cases h with
    | leaf h => rw [M.dat]; exact h
    | lst _ _ _ => cases e1
    | dic _ _ _ _ _ => cases e1
theorem dats_len : ∀ ms : List M, (M.dats ms).length = ms.length
  | [] => rfl
  | m :: ms => by rw [M.dats, List.length_cons, List.length_cons, dats_len ms]
theorem RelMs.len {H : Hp} {B : Addr → Prop} : ∀ {vs : List V} {ms : List M} {f : List Addr}, RelMs H B vs ms f → vs.length = ms.length
  | _, _, _, .nil => rfl
  | _, _, _, .cons h t n => congrArg (· + 1) (RelMs.len t)
theorem zip_fst {α β : Type} : ∀ {l : List α} {m : List β}, l.length = m.length → (l.zip m).map (·.1) = l
  | [], [], _ => rfl
  | a :: l, b :: m, h => by rw [List.zip_cons_cons, List.map_cons, zip_fst (by simpa using h)]
theorem zip_snd {α β : Type} : ∀ {l : List α} {m : List β}, l.length = m.length → (l.zip m).map (·.2) = m
  | [], [], _ => rfl
  | a :: l, b :: m, h => by rw [List.zip_cons_cons, List.map_cons, zip_snd (by simpa using h)]
mutual
/-- given away, it is data that stays -/
theorem RelM.dt {H : Hp} {B B' : Addr → Prop} (hB : ∀ b, B' b → B b) : ∀ {v : V} {m : M} {f : List Addr}, RelM H B v m f → (∀ b ∈ f, ¬ B' b) → Dt (wo B' H) v m.dat
  | _, _, _, .leaf h, _ => Dt.mono (wo_mono hB fun _ _ _ e => e) h
  | _, _, _, .lst h hs n, k => by
    rw [M.dat]
    exact .lst (wo_mk (k _ List.mem_cons_self) h) (RelMs.dt hB hs fun b hb => k b (List.mem_cons_of_mem _ hb))
  | _, _, _, .dic (kvs := kvs) (ks := ks) (ms := ms) h h1 h2 hs n, k => by
    rw [M.dat]
    have l1 : ks.length = (M.dats ms).length := by
      rw [dats_len, ← RelMs.len hs, ← h1.length, List.length_map, List.length_map]
    refine .dic (h.mono fun o e => wo_mk (k _ List.mem_cons_self) e) ?_ ?_ ?_
    · rw [zip_fst l1]; exact DtAll.mono (wo_mono hB fun _ _ _ e => e) h1
    · rw [zip_snd l1]; exact RelMs.dt hB hs fun b hb => k b (List.mem_cons_of_mem _ hb)
    · rw [← h2]
      rw [show (fun q : PyData × PyData => canon q.1) = canon ∘ (fun q => q.1) from rfl, ← List.map_map, zip_fst l1]
theorem RelMs.dt {H : Hp} {B B' : Addr → Prop} (hB : ∀ b, B' b → B b) : ∀ {vs : List V} {ms : List M} {f : List Addr}, RelMs H B vs ms f → (∀ b ∈ f, ¬ B' b) → DtAll (wo B' H) vs (M.dats ms)
  | _, _, _, .nil, _ => .nil
  | _, _, _, .cons h t n, k => by
    rw [M.dats]
    exact .cons (RelM.dt hB h fun b hb => k b (List.mem_append_left _ hb)) (RelMs.dt hB t fun b hb => k b (List.mem_append_right _ hb))
end
inductive D where
  /-- data that stays -/
  | p (d : PyData)
  /-- a list of one's own, at a slot -/
  | own (ds : List PyData)
  /-- a new list -/
  | nw (ds : List PyData)
  | tape
  /-- lists and dicts of one's own, at a slot -/
  | ot (m : M)
  /-- .. new ones -/
  | nt (m : M)
  /-- a def made here -/
  | fv (f : Addr) (I : FnI)
  /-- what is lent, at this place: a list or a dict of plain things -/
  | bor (p : Addr) (m : M)
abbrev Ro := List (Option D)
/-- the items of a list -/
def D.ls : D → Option (List PyData)
  | .p (.list ds) => some ds | .own ds => some ds | .nw ds => some ds | .bor _ (.lst ms) => some (M.dats ms) | _ => none
/-- the items of a list or tuple -/
def D.sq : D → Option (List PyData)
  | .p (.list ds) => some ds | .p (.tuple ds) => some ds | .own ds => some ds | .nw ds => some ds | .bor _ (.lst ms) => some (M.dats ms) | _ => none
/-- as data, now -/
def D.dat : D → Option PyData
  | .p d => some d | .own ds => some (.list ds) | .nw ds => some (.list ds) | .ot (.lst ms) => some (.list (M.dats ms)) | .ot (.dic ks ms) => some (.dict (ks.zip (M.dats ms))) | .nt (.lst ms) => some (.list (M.dats ms)) | .nt (.dic ks ms) => some (.dict (ks.zip (M.dats ms))) | _ => none
theorem D.dat_ot {m : M} {d : PyData} (h : D.dat (.ot m) = some d) : d = m.dat := by
  cases m with
  | leaf d => cases h
  | lst ms => cases h; rw [M.dat]
  | dic ks ms => cases h; rw [M.dat]
theorem D.dat_nt {m : M} {d : PyData} (h : D.dat (.nt m) = some d) : d = m.dat := by
  cases m with
  | leaf d => cases h
  | lst ms => cases h; rw [M.dat]
  | dic ks ms => cases h; rw [M.dat]
/-- as data that stays -/
def D.st : D → Option PyData
  | .p d => some d | .nw ds => some (.list ds) | .nt m => some m.dat | _ => none
structure Cd where
  t : TA2
  S0 : Addr → Prop
  F : Addr → Prop
  H0 : Hp
  pins : List (V × PyData)
  tups : List (Addr × List V)
  /-- the places of trees of one's own -/
  G : Addr → Prop
abbrev Pn := List (V × PyData) × List (Addr × List V)
abbrev Cd.add (C : Cd) (w : Pn) : Cd := { C with pins := w.1 ++ C.pins, tups := w.2 ++ C.tups }
abbrev Cd.gg (C : Cd) (G : Addr → Prop) : Cd := { C with G := G }
def ownAt (ρ : Ro) (σ : L2.St) (b : Addr) : Prop := ∃ (i : Nat) (ds : List PyData), ρ[i]? = some (some (.own ds)) ∧ σ[i]? = some (some (.ref b))
def bad (C : Cd) (ρ : Ro) (σ : L2.St) (b : Addr) : Prop := C.S0 b ∨ C.F b ∨ ownAt ρ σ b ∨ C.G b
/-- no tape, no table -/
def nx (t : TA2) (b : Addr) : Prop := b ≠ t.1 ∧ ∀ p ∈ TB.T, p.1 ≠ b
def Kq (t : TA2) (H H' : Hp) : Prop := ∀ b o, nx t b → H b = some o → H' b = some o
theorem Kq.refl (t : TA2) (H : Hp) : Kq t H H := fun _ _ _ h => h
theorem Kq.trans {t : TA2} {H H1 H2 : Hp} (a : Kq t H H1) (b : Kq t H1 H2) : Kq t H H2 := fun c o n h => b c o n (a c o n h)
theorem Kq.new {t : TA2} {p : Addr} {H : Hp} {o : HO} (h : H p = none) : Kq t H (upd H p o) := fun b u _ e => by
  rw [upd_ne (ne_of_none e h)]; exact e
theorem Kq.free {t : TA2} {p : Addr} {H H' : Hp} (a : Kq t H H') (n : nx t p) (h : H' p = none) : H p = none := by
  cases q : H p with
  | none => rfl
  | some o => rw [a p o n q] at h; cases h
theorem Kq.of {t : TA2} {H H' : Hp} (k : Kp t H H') : Kq t H H' := fun b o n e => k b o n.1 e
/-- the tables stand -/
abbrev Tbs (H : Hp) : Prop := NdefX.TabsN TB.T H
theorem Tbs.at {H : Hp} (T : Tbs H) {p : NdefX.NTab} (h : p ∈ TB.T) : ∃ ps, H p.1 = some (.tbl ps) := let ⟨ps, e, _⟩ := T p h; ⟨ps, e⟩
theorem Tbs.new {H : Hp} {a : Addr} {o : HO} (T : Tbs H) (h : H a = none) : Tbs (upd H a o) := T.ext fun b u e => by rw [upd_ne (ne_of_none e h)]; exact e
theorem Tbs.nx {K : PySem.W.Frag} {H : Hp} {t : TA2} {a : Addr} (T : Tbs H) (Tp : Tape K H t) (h : H a = none) : nx t a :=
  ⟨Tp.ne h, fun p hp e => by obtain ⟨ps, q⟩ := T.at hp; rw [e, h] at q; cases q⟩
/-- another thing is changed -/
theorem Tbs.put {H : Hp} {a : Addr} {o : HO} (T : Tbs H) (n : ∀ p ∈ TB.T, p.1 ≠ a) (hc : ∀ c q, H a ≠ some (LamX.CodeO c q)) : Tbs (upd H a o) := fun p hp => by
  obtain ⟨ps, h1, h2, h3⟩ := T p hp
  refine ⟨ps, by rw [upd_ne (n p hp)]; exact h1, h2, fun pos cv hcv => ?_⟩
  obtain ⟨c, e1, e2⟩ := h3 pos cv hcv
  exact ⟨c, e1, by rw [upd_ne (fun z => by subst z; exact hc _ _ e2)]; exact e2⟩
theorem lst_code {xs : List V} {c : Addr} {q : Str} : HO.lst xs ≠ LamX.CodeO c q := fun z => by unfold LamX.CodeO at z; cases z
/-- they stand, what their cells hold stands -/
structure FnsAt (t : TA2) (S : Addr → Prop) (H : Hp) (I : FnI) : Prop where
  fn : ∀ q ∈ I.fns, wo S H q.1 = some (FnOb q.1 q.2) ∧ H q.2.c = some (LamX.CodeO q.2.c q.2.qual) ∧ nx t q.2.c
  pn : ∀ q ∈ I.pn, Dt (wo S H) q.1 q.2
theorem FnsAt.mono {t : TA2} {S S' : Addr → Prop} {H H' : Hp} {I : FnI} (h : FnsAt t S H I) (s : Same (wo S H) (wo S' H')) (kc : ∀ c q, nx t c → H c = some (LamX.CodeO c q) → H' c = some (LamX.CodeO c q)) : FnsAt t S' H' I :=
  ⟨fun q hq => ⟨s _ _ (h.fn q hq).1, kc _ _ (h.fn q hq).2.2 (h.fn q hq).2.1, (h.fn q hq).2.2⟩, fun q hq => Dt.mono s (h.pn q hq)⟩
def RelS (C : Cd) (ρ : Ro) (σ : L2.St) (H : Hp) (v : V) : D → Prop
  | .p d => Dt (wo (bad C ρ σ) H) v d
  | .own ds => ∃ p vs, v = .ref p ∧ H p = some (.lst vs) ∧ DtAll (wo (bad C ρ σ) H) vs ds ∧ (C.H0 p = none ∧ ¬ C.F p) ∧ ds.length ≤ sizeLine
  | .nw _ => False
  | .tape => v = .ref C.t.1
  | .ot _ => True
  | .nt _ => False
  | .fv f I => v = .ref f ∧ FnsAt C.t (bad C ρ σ) H I
  | .bor p _ => v = .ref p
/-- the trees stand apart -/
structure Trees (C : Cd) (ρ : Ro) (σ : L2.St) (H : Hp) (φ : Nat → List Addr) : Prop where
  rel : ∀ i m, ρ[i]? = some (some (.ot m)) → ∃ v, σ[i]? = some (some v) ∧ RelM H (bad C ρ σ) v m (φ i) ∧ ∀ b ∈ φ i, C.G b
  dis : ∀ i j m n b, ρ[i]? = some (some (.ot m)) → ρ[j]? = some (some (.ot n)) → i ≠ j → b ∈ φ i → b ∉ φ j
  bor : ∀ (i : Nat) (p : Addr) (m : M), ρ[i]? = some (some (D.bor p m)) → RelM H (bad C ρ σ) (.ref p) m [p] ∧ C.G p
  db : ∀ (i : Nat) (p : Addr) (m : M) (j : Nat) (n : M), ρ[i]? = some (some (D.bor p m)) → ρ[j]? = some (some (D.ot n)) → p ∉ φ j
  bb : ∀ (i : Nat) (p : Addr) (m : M) (j : Nat) (n : M), ρ[i]? = some (some (D.bor p m)) → ρ[j]? = some (some (D.bor p n)) → i = j
structure Rep (K : PySem.W.Frag) (C : Cd) (ρ : Ro) (σ : L2.St) (H : Hp) : Prop where
  len : ρ.length = σ.length
  val : ∀ (i : Nat) x, ρ[i]? = some (some x) → ∃ v, σ[i]? = some (some v) ∧ RelS C ρ σ H v x
  dis : ∀ (i j : Nat) b ds es, ρ[i]? = some (some (.own ds)) → ρ[j]? = some (some (.own es)) → σ[i]? = some (some (.ref b)) → σ[j]? = some (some (.ref b)) → i = j
  tp : Tape K H C.t
  ext : Kq C.t C.H0 H
  s1 : C.S0 C.t.1
  s2 : C.S0 C.t.2
  s0 : ∀ b, C.S0 b → ∃ o, H b = some o
  f0 : ∀ b, C.F b → ∃ o, H b = some o
  s00 : ∀ b, C.S0 b → ∃ o, C.H0 b = some o
  pin : ∀ q ∈ C.pins, PinD (wo (bad C ρ σ) H) q.1 q.2
  tin : ∀ q ∈ C.tups, TupG H q.1 q.2
  s3 : ∀ p ∈ TB.T, C.S0 p.1
  tab : Tbs H
  tre : ∃ φ, Trees C ρ σ H φ
  g0 : ∀ b, C.G b → (∃ o, H b = some o) ∧ C.H0 b = none ∧ ¬ C.F b ∧ ¬ ownAt ρ σ b
def RelE (C : Cd) (ρ : Ro) (σ : L2.St) (H H' : Hp) (v : V) : D → Prop
  | .p d => Dt (wo (bad C ρ σ) H') v d
  | .own ds => ∃ i : Nat, ρ[i]? = some (some (.own ds)) ∧ σ[i]? = some (some v)
  | .nw ds => ∃ p vs, v = .ref p ∧ H p = none ∧ H' p = some (.lst vs) ∧ DtAll (wo (fun b => bad C ρ σ b ∨ b = p) H') vs ds ∧ ds.length ≤ sizeLine
  | .tape => v = .ref C.t.1
  | .ot m => ∃ i : Nat, ρ[i]? = some (some (.ot m)) ∧ σ[i]? = some (some v)
  | .nt m => ∃ f, (∀ b ∈ f, H b = none) ∧ RelM H' (fun b => bad C ρ σ b ∨ b ∈ f) v m f
  | .fv f I => v = .ref f ∧ FnsAt C.t (bad C ρ σ) H' I
  | .bor p m => ∃ i : Nat, ρ[i]? = some (some (.bor p m)) ∧ σ[i]? = some (some v)
section
variable {K : PySem.W.Frag} {C : Cd} {ρ : Ro} {σ : L2.St} {H H1 H2 H' : Hp} {v : V} {x : D}
theorem Rep.t1 (R : Rep K C ρ σ H) {a : Addr} (h : H a = none) : nx C.t a := R.tab.nx R.tp h
theorem Rep.badT (R : Rep K C ρ σ H) : bad C ρ σ C.t.1 := .inl R.s1
theorem Rep.nxb (R : Rep K C ρ σ H) {b : Addr} (n : ¬ bad C ρ σ b) : nx C.t b := ⟨fun z => n (z ▸ R.badT), fun p hp z => n (z ▸ .inl (R.s3 p hp))⟩
/-- bad places hold something -/
theorem Rep.badL (R : Rep K C ρ σ H) {b : Addr} (h : bad C ρ σ b) : ∃ o, H b = some o := by
  rcases h with h | h | ⟨i, ds, h1, h2⟩ | h
  · exact R.s0 b h
  · exact R.f0 b h
  · obtain ⟨v, e, p, vs, rfl, hp, _⟩ := R.val i _ h1
    rw [h2] at e; cases e
    exact ⟨_, hp⟩
  · exact (R.g0 b h).1
theorem Rep.badN (R : Rep K C ρ σ H) {b : Addr} (h : H b = none) : ¬ bad C ρ σ b := fun z => by
  obtain ⟨xs, e⟩ := R.badL z
  rw [h] at e; cases e
theorem Rep.kp (R : Rep K C ρ σ H) (k : Kq C.t H H') : Same (wo (bad C ρ σ) H) (wo (bad C ρ σ) H') :=
  wo_mono (fun _ z => z) fun a o n h => k a o (R.nxb n) h
theorem RelE.mono (R : Rep K C ρ σ H) (k1 : Kq C.t H H1) (k : Kq C.t H1 H2) (h : RelE C ρ σ H H1 v x) : RelE C ρ σ H H2 v x := by
  have s : Same (wo (bad C ρ σ) H1) (wo (bad C ρ σ) H2) := wo_mono (fun _ z => z) fun a o n e => k a o (R.nxb n) e
  cases x with
  | p d => exact Dt.mono s h
  | own ds => exact h
  | nw ds =>
    obtain ⟨p, vs, rfl, h1, h2, h3, h4⟩ := h
    exact ⟨p, vs, rfl, h1, k p _ (R.t1 h1) h2, DtAll.mono (wo_mono (fun _ z => z) fun a o n e => k a o (R.nxb fun z => n (.inl z)) e) h3, h4⟩
  | tape => exact h
  | ot m => exact h
  | nt m =>
    obtain ⟨f, h1, h2⟩ := h
    exact ⟨f, h1, h2.mono (wo_mono (fun _ z => z) fun a o n e => k a o (R.nxb fun z => n (.inl z)) e) fun b hb o e => k b o (R.t1 (h1 b hb)) e⟩
  | fv f F => exact ⟨h.1, h.2.mono s fun c q n e => k c _ n e⟩
  | bor p m => exact h
theorem RelE.back (k : Kq C.t H H1) (R1 : Rep K C ρ σ H1) (h : RelE C ρ σ H1 H2 v x) : RelE C ρ σ H H2 v x := by
  have fr : ∀ p, H1 p = none → H p = none := fun p h1 => by
    cases q : H p with
    | none => rfl
    | some o => rw [k p o (R1.t1 h1) q] at h1; cases h1
  cases x with
  | p d => exact h
  | own ds => exact h
  | nw ds =>
    obtain ⟨p, vs, rfl, h1, h2⟩ := h
    exact ⟨p, vs, rfl, fr p h1, h2⟩
  | tape => exact h
  | ot m => exact h
  | nt m =>
    obtain ⟨f, h1, h2⟩ := h
    exact ⟨f, fun b hb => fr b (h1 b hb), h2⟩
  | fv f F => exact h
  | bor p m => exact h
end
end
end My
namespace My
open PySem PySem.Spec PyProof.Rows L2
variable [TB]
abbrev TED := Ro → (D → Prop) → Prop
abbrev TTD := Ro → (Bool → Prop) → Prop
abbrev TAD := Ro → (List D → Prop) → Prop
def up (K : PySem.W.Frag) (t : TED) : TE := fun σ H Q => ∃ C ρ Qd, Rep K C ρ σ H ∧ t ρ Qd ∧ ∀ v H' x, Rep K C ρ σ H' → Kq C.t H H' → RelE C ρ σ H H' v x → Qd x → Q v H'
def upT (K : PySem.W.Frag) (t : TTD) : TT := fun σ H Q => ∃ C ρ Qd, Rep K C ρ σ H ∧ t ρ Qd ∧ ∀ b H', Rep K C ρ σ H' → Kq C.t H H' → Qd b → Q b H'
def upA (K : PySem.W.Frag) (t : TAD) : TA := fun σ H Q => ∃ C ρ Qd, Rep K C ρ σ H ∧ t ρ Qd ∧ ∀ vs H' xs, Rep K C ρ σ H' → Kq C.t H H' → Paired (RelE C ρ σ H H') vs xs → Qd xs → Q vs H'
abbrev FE (X : Cx) (e : Expr) (t : TED) : Prop := PE X e (up X.K t)
abbrev FT (X : Cx) (e : Expr) (t : TTD) : Prop := PT X e (upT X.K t)
abbrev FW (X : Cx) (e : Expr) (t : TTD) : Prop := PW X e (upT X.K t)
abbrev FA (X : Cx) (es : List Expr) (t : TAD) : Prop := PA X es (upA X.K t)
section
variable {X : Cx}
theorem _root_.L2.PE.mo {e : Expr} {t t' : TE} (h : PE X e t) (m : ∀ σ H Q, t' σ H Q → t σ H Q) : PE X e t' := ⟨fun pins s σ H Q I hw => h.run pins s σ H Q I (m σ H Q hw)⟩
theorem _root_.L2.PT.mo {e : Expr} {t t' : TT} (h : PT X e t) (m : ∀ σ H Q, t' σ H Q → t σ H Q) : PT X e t' := ⟨fun pins s σ H Q I hw => h.run pins s σ H Q I (m σ H Q hw)⟩
theorem _root_.L2.PW.mo {e : Expr} {t t' : TT} (h : PW X e t) (m : ∀ σ H Q, t' σ H Q → t σ H Q) : PW X e t' := ⟨fun wh pins s σ H Q I hw => h.run wh pins s σ H Q I (m σ H Q hw)⟩
theorem _root_.L2.PA.mo {es : List Expr} {t t' : TA} (h : PA X es t) (m : ∀ σ H Q, t' σ H Q → t σ H Q) : PA X es t' := ⟨fun po pins s σ H Q I hw => h.run po pins s σ H Q I (m σ H Q hw)⟩
theorem _root_.L2.PS.mo {st : Stmt} {t t' : TS} (h : PS X st t) (m : ∀ D σ H, t' D σ H → t D σ H) : PS X st t' := ⟨fun pins s σ H D I hw => h.run pins s σ H D I (m D σ H hw)⟩
theorem _root_.L2.PSs.mo {st : List Stmt} {t t' : TS} (h : PSs X st t) (m : ∀ D σ H, t' D σ H → t D σ H) : PSs X st t' := ⟨fun pins s σ H D I hw => h.run pins s σ H D I (m D σ H hw)⟩
end
section
variable {K : PySem.W.Frag} {C : Cd} {ρ : Ro} {σ : L2.St} {H H1 H2 H' : Hp} {v : V} {x : D}
theorem RelS.toE (h : RelS C ρ σ H v x) (H0 : Hp) {i : Nat} (e1 : ρ[i]? = some (some x)) (e2 : σ[i]? = some (some v)) : RelE C ρ σ H0 H v x := by
  cases x with
  | p d => exact h
  | own ds => exact ⟨i, e1, e2⟩
  | nw ds => exact h.elim
  | tape => exact h
  | ot m => exact ⟨i, e1, e2⟩
  | nt m => exact h.elim
  | fv f F => exact h
  | bor p m => exact ⟨i, e1, e2⟩
/-- what is at the slots goes on -/
theorem RelS.mono {C' : Cd} {ρ' : Ro} {σ' : L2.St} {w : V} {y : D} (h : RelS C ρ σ H w y) (ht : C'.t = C.t) (hF : ∀ p, C.H0 p = none → ¬ C.F p → C'.H0 p = none ∧ ¬ C'.F p ∨ ∀ ds, y ≠ .own ds) (s : Same (wo (bad C ρ σ) H) (wo (bad C' ρ' σ') H')) (k : ∀ p vs ds, y = .own ds → w = .ref p → H p = some (.lst vs) → H' p = some (.lst vs)) (kc : ∀ c q, nx C.t c → H c = some (LamX.CodeO c q) → H' c = some (LamX.CodeO c q)) : RelS C' ρ' σ' H' w y := by
  cases y with
  | p d => exact Dt.mono s h
  | own ds =>
    obtain ⟨q, vs, rfl, h3, h4, h5, h6⟩ := h
    rcases hF q h5.1 h5.2 with z | z
    · exact ⟨q, vs, rfl, k q vs ds rfl rfl h3, DtAll.mono s h4, z, h6⟩
    · exact (z ds rfl).elim
  | nw ds => exact h
  | tape => exact h.trans (by rw [ht])
  | ot m => trivial
  | nt m => exact h
  | fv f F => exact ⟨h.1, by rw [ht]; exact h.2.mono s kc⟩
  | bor p m => exact (show w = .ref p from h)
theorem Trees.mono {C' : Cd} {H' : Hp} {φ : Nat → List Addr} (T : Trees C ρ σ H φ) (s : Same (wo (bad C ρ σ) H) (wo (bad C' ρ σ) H')) (k : ∀ b o, C.G b → H b = some o → H' b = some o) (g : ∀ b, C.G b → C'.G b) : Trees C' ρ σ H' φ :=
  ⟨fun i m e => let ⟨v, h1, h2, h3⟩ := T.rel i m e; ⟨v, h1, h2.mono s fun b hb o q => k b o (h3 b hb) q, fun b hb => g b (h3 b hb)⟩, T.dis, fun i p m e => ⟨(T.bor i p m e).1.mono s fun b hb o q => k b o (by rw [List.mem_singleton.mp hb]; exact (T.bor i p m e).2) q, g p (T.bor i p m e).2⟩, T.db, T.bb⟩
/-- a new object -/
theorem Rep.lay (R : Rep K C ρ σ H) {p : Addr} {o : HO} (hp : H p = none) : Rep K C ρ σ (upd H p o) where
  len := R.len
  val := fun i y e => by
    obtain ⟨v, h1, h2⟩ := R.val i y e
    exact ⟨v, h1, h2.mono rfl (fun _ a b => .inl ⟨a, b⟩) (R.kp (Kq.new hp)) (fun q vs ds _ _ h => by rw [upd_ne (ne_of_none h hp)]; exact h) fun c q n e => by rw [upd_ne (ne_of_none e hp)]; exact e⟩
  dis := R.dis
  tp := R.tp.new hp
  ext := R.ext.trans (Kq.new hp)
  s1 := R.s1
  s2 := R.s2
  s0 := fun b hb => by
    obtain ⟨xs, e⟩ := R.s0 b hb
    exact ⟨xs, by rw [upd_ne (ne_of_none e hp)]; exact e⟩
  f0 := fun b hb => by
    obtain ⟨xs, e⟩ := R.f0 b hb
    exact ⟨xs, by rw [upd_ne (ne_of_none e hp)]; exact e⟩
  s00 := R.s00
  pin := fun q hq => PinD.mono (R.kp (Kq.new hp)) (R.pin q hq)
  tin := fun q hq => (R.tin q hq).kt fun o e => by rw [upd_ne (ne_of_none e hp)]; exact e
  s3 := R.s3
  tab := R.tab.new hp
  tre := let ⟨φ, T⟩ := R.tre; ⟨φ, T.mono (R.kp (Kq.new hp)) (fun b o _ e => by rw [upd_ne (ne_of_none e hp)]; exact e) fun _ z => z⟩
  g0 := fun b hb => let ⟨⟨o, e⟩, r⟩ := R.g0 b hb; ⟨⟨o, by rw [upd_ne (ne_of_none e hp)]; exact e⟩, r⟩
/-- a list's place, its items -/
theorem Rep.ofOwn (R : Rep K C ρ σ H') {ds : List PyData} (h : RelE C ρ σ H H' v (.own ds)) : ∃ p vs, v = .ref p ∧ H' p = some (.lst vs) ∧ DtAll (wo (bad C ρ σ) H') vs ds ∧ ownAt ρ σ p ∧ ds.length ≤ sizeLine := by
  obtain ⟨i, h1, h2⟩ := h
  obtain ⟨w, h3, p, vs, rfl, h4, h5, h6, h7⟩ := R.val i _ h1
  rw [h2] at h3
  cases h3
  exact ⟨p, vs, rfl, h4, h5, ⟨i, ds, h1, h2⟩, h7⟩
/-- a tree at a slot -/
theorem Rep.ofTree (R : Rep K C ρ σ H') {m : M} (h : RelE C ρ σ H H' v (.ot m)) : ∃ f, RelM H' (bad C ρ σ) v m f ∧ ∀ b ∈ f, C.G b := by
  obtain ⟨i, h1, h2⟩ := h
  obtain ⟨φ, T⟩ := R.tre
  obtain ⟨w, h3, h4, h5⟩ := T.rel i m h1
  rw [h2] at h3
  cases h3
  exact ⟨φ i, h4, h5⟩
theorem nw_dt {vs : List V} {ds : List PyData} {p : Addr} (h : DtAll (wo (fun b => bad C ρ σ b ∨ b = p) H') vs ds) : DtAll (wo (bad C ρ σ) H') vs ds :=
  DtAll.mono (wo_mono (fun _ z => .inl z) fun _ _ _ e => e) h
theorem Rep.ofBor (R : Rep K C ρ σ H') {p : Addr} {m : M} (h : RelE C ρ σ H H' v (.bor p m)) : v = .ref p ∧ RelM H' (bad C ρ σ) (.ref p) m [p] ∧ C.G p := by
  obtain ⟨i, h1, h2⟩ := h
  obtain ⟨w, g1, g2⟩ := R.val i _ h1
  rw [h2] at g1; cases g1
  obtain ⟨φ, T⟩ := R.tre
  exact ⟨g2, T.bor i p m h1⟩
theorem Rep.borL (R : Rep K C ρ σ H') {p : Addr} {ms : List M} (h : RelE C ρ σ H H' v (.bor p (.lst ms))) : ∃ vs, v = .ref p ∧ H' p = some (.lst vs) ∧ DtAll (wo (bad C ρ σ) H') vs (M.dats ms) := by
  obtain ⟨e, h1, _⟩ := R.ofBor h
  cases h1 with
  | lst g1 g2 _ => exact ⟨_, e, g1, g2.flat rfl⟩
theorem Rep.lstOf (R : Rep K C ρ σ H') {ds : List PyData} (h : RelE C ρ σ H H' v x) (e : x.ls = some ds) : ∃ p vs, v = .ref p ∧ H' p = some (.lst vs) ∧ DtAll (wo (bad C ρ σ) H') vs ds := by
  cases x with
  | p d =>
    cases d with
    | list es =>
      cases e
      cases h with
      | lst h1 h2 => exact ⟨_, _, rfl, (wo_of h1).2, h2⟩
    | _ => cases e
  | own es =>
    cases e
    obtain ⟨p, vs, h1, h2, h3, _⟩ := R.ofOwn h
    exact ⟨p, vs, h1, h2, h3⟩
  | nw es =>
    cases e
    obtain ⟨p, vs, h1, _, h2, h3, _⟩ := h
    exact ⟨p, vs, h1, h2, nw_dt h3⟩
  | bor p m =>
    cases m with
    | lst ms =>
      cases e
      obtain ⟨vs, h1, h2, h3⟩ := R.borL h
      exact ⟨p, vs, h1, h2, h3⟩
    | _ => cases e
  | _ => cases e
theorem TupG.mo {S : Addr → Prop} {a : Addr} {xs : List V} (h : TupG (wo S H) a xs) : TupG H a xs := h.kt fun _ e => (wo_of e).2
theorem Rep.sqOf (R : Rep K C ρ σ H') {ds : List PyData} (h : RelE C ρ σ H H' v x) (e : x.sq = some ds) : ∃ p vs, v = .ref p ∧ (SqL K H' p vs ∨ SqT K H' p vs) ∧ DtAll (wo (bad C ρ σ) H') vs ds := by
  cases q : x.ls with
  | some es =>
    have e2 : es = ds := by
      cases x with
      | p d => cases d <;> simp [D.ls, D.sq] at q e <;> rw [← q, ← e]
      | own fs => simp [D.ls, D.sq] at q e; rw [← q, ← e]
      | nw fs => simp [D.ls, D.sq] at q e; rw [← q, ← e]
      | bor p m => cases m with
        | lst ms => simp [D.ls, D.sq] at q e; rw [← q, ← e]
        | _ => cases e
      | _ => simp [D.sq] at e
    subst e2
    obtain ⟨p, vs, h1, h2, h3⟩ := R.lstOf h q
    exact ⟨p, vs, h1, .inl (SqL.of h2), h3⟩
  | none =>
    cases x with
    | p d =>
      cases d <;> simp [D.ls, D.sq] at q e
      subst e
      cases h with
      | tup h1 h2 => exact ⟨_, _, rfl, .inr h1.mo.sq, h2⟩
    | own fs => simp [D.ls] at q
    | nw fs => simp [D.ls] at q
    | bor p m => cases m with
      | lst ms => simp [D.ls] at q
      | _ => cases e
    | _ => simp [D.sq] at e
theorem Rep.tupOf (R : Rep K C ρ σ H') {ds : List PyData} (h : RelE C ρ σ H H' v (.p (.tuple ds))) : ∃ p vs, v = .ref p ∧ TupG H' p vs ∧ DtAll (wo (bad C ρ σ) H') vs ds := by
  cases h with
  | tup h1 h2 => exact ⟨_, _, rfl, h1.mo, h2⟩
theorem Rep.ntDt (R : Rep K C ρ σ H) {m : M} (h : RelE C ρ σ H H' v (.nt m)) : Dt (wo (bad C ρ σ) H') v m.dat := by
  obtain ⟨f, h1, h2⟩ := h
  exact h2.dt (fun _ z => .inl z) fun b hb => R.badN (h1 b hb)
/-- as data, now -/
theorem Rep.datOf (R : Rep K C ρ σ H') {d : PyData} (h : RelE C ρ σ H H' v x) (e : x.dat = some d) : Dt H' v d := by
  cases x with
  | p d => cases e; exact Dt.mono wo_same h
  | own ds =>
    cases e
    obtain ⟨p, vs, rfl, h2, h3, _⟩ := R.ofOwn h
    exact .lst h2 (DtAll.mono wo_same h3)
  | nw ds =>
    cases e
    obtain ⟨p, vs, rfl, _, h2, h3, _⟩ := h
    exact .lst h2 (DtAll.mono wo_same h3)
  | tape => cases e
  | ot m =>
    obtain rfl := D.dat_ot e
    obtain ⟨f, h1, _⟩ := R.ofTree h
    exact Dt.mono wo_same (h1.dt (B' := fun _ => False) (fun _ z => z.elim) fun _ _ z => z)
  | nt m =>
    obtain rfl := D.dat_nt e
    obtain ⟨f, _, h2⟩ := h
    exact Dt.mono wo_same (h2.dt (B' := fun _ => False) (fun _ z => z.elim) fun _ _ z => z)
  | fv f F => cases e
  | bor p m => cases e
/-- as data that stays -/
theorem Rep.stOf (R : Rep K C ρ σ H) {d : PyData} (h : RelE C ρ σ H H' v x) (e : x.st = some d) : Dt (wo (bad C ρ σ) H') v d := by
  cases x with
  | p d => cases e; exact h
  | own ds => cases e
  | nw ds =>
    cases e
    obtain ⟨p, vs, rfl, h1, h2, h3, _⟩ := h
    exact .lst (wo_mk (R.badN h1) h2) (nw_dt h3)
  | tape => cases e
  | ot m => cases e
  | nt m => cases e; exact R.ntDt h
  | fv f F => cases e
  | bor p m => cases e
theorem rel_int {i : Int} (h : RelE C ρ σ H H' v (.p (.int i))) : v = .int i := by cases h; rfl
theorem rel_str {i : Str} (h : RelE C ρ σ H H' v (.p (.str i))) : v = .str i := by cases h; rfl
theorem rel_bl {i : Bool} (h : RelE C ρ σ H H' v (.p (.bool i))) : v = .bl i := by cases h; rfl
theorem rel_non (h : RelE C ρ σ H H' v (.p .none)) : v = .non := by cases h; rfl
end
section
variable {X : Cx} {pos : Pos}
def dVar (i : Nat) : TED := fun ρ Q => ∃ x, ρ[i]? = some (some x) ∧ Q x
def dC (d : PyData) : TED := fun _ Q => Q (.p d)
theorem fe_var {e : Expr} {i : Nat} (h : PE X e (tVar i)) : FE X e (dVar i) := by
  refine h.mo ?_
  rintro σ H Q ⟨C, ρ, Qd, R, ⟨x, e, q⟩, post⟩
  obtain ⟨v, h1, h2⟩ := R.val i x e
  exact ⟨v, h1, post v H x R (Kq.refl _ _) (h2.toE H e h1) q⟩
theorem fe_c {e : Expr} {v : V} {d : PyData} (h : PE X e (tC v)) (hd : ∀ H, Dt H v d) : FE X e (dC d) := by
  refine h.mo ?_
  rintro σ H Q ⟨C, ρ, Qd, R, q, post⟩
  exact post v H (.p d) R (Kq.refl _ _) (hd _) q
theorem fe_int {i j pos} : FE X (.Constant (.int i) j pos) (dC (.int i)) := fe_c pe_int fun _ => .int _
theorem fe_bl {i j pos} : FE X (.Constant (.bool i) j pos) (dC (.bool i)) := fe_c pe_bl fun _ => .bl _
theorem fe_non {j pos} : FE X (.Constant .none j pos) (dC .none) := fe_c pe_non fun _ => .non
theorem fe_str {i j pos} : FE X (.Constant (.str i) j pos) (dC (.str i)) := fe_c pe_str fun _ => .str _
/-- what a rule by values does over data -/
def Li1 (K : PySem.W.Frag) (r : V → Hp → VK → Prop) (rd : D → (D → Prop) → Prop) : Prop := ∀ C ρ σ H0 H v x Qd Q, Rep K C ρ σ H → Kq C.t H0 H → RelE C ρ σ H0 H v x → rd x Qd →
  (∀ v' H' z, Rep K C ρ σ H' → Kq C.t H H' → RelE C ρ σ H H' v' z → Qd z → Q v' H') → r v H Q
def Li2 (K : PySem.W.Frag) (r : R2) (rd : D → D → (D → Prop) → Prop) : Prop := ∀ C ρ σ H0 H v u x y Qd Q, Rep K C ρ σ H → Kq C.t H0 H → RelE C ρ σ H0 H v x → RelE C ρ σ H0 H u y → rd x y Qd →
  (∀ v' H' z, Rep K C ρ σ H' → Kq C.t H H' → RelE C ρ σ H H' v' z → Qd z → Q v' H') → r v u H Q
def LiL (K : PySem.W.Frag) (r : List V → Hp → VK → Prop) (rd : List D → (D → Prop) → Prop) : Prop := ∀ C ρ σ H0 H vs xs Qd Q, Rep K C ρ σ H → Kq C.t H0 H → Paired (RelE C ρ σ H0 H) vs xs → rd xs Qd →
  (∀ v' H' z, Rep K C ρ σ H' → Kq C.t H H' → RelE C ρ σ H H' v' z → Qd z → Q v' H') → r vs H Q
def dOp (rd : D → D → (D → Prop) → Prop) (ta tb : TED) : TED := fun ρ Q => ta ρ fun x => tb ρ fun y => rd x y Q
def dUn (rd : D → (D → Prop) → Prop) (ta : TED) : TED := fun ρ Q => ta ρ fun x => rd x Q
theorem up_op {K : PySem.W.Frag} {r : R2} {rd : D → D → (D → Prop) → Prop} {ta tb : TED} (l : Li2 K r rd) : ∀ σ H Q, up K (dOp rd ta tb) σ H Q → tOp r (up K ta) (up K tb) σ H Q := by
  rintro σ H Q ⟨C, ρ, Qd, R, h, post⟩
  refine ⟨C, ρ, _, R, h, fun v H1 x R1 k1 e1 h1 => ⟨C, ρ, _, R1, h1, fun u H2 y R2 k2 e2 h2 => ?_⟩⟩
  exact l C ρ σ H H2 v u x y Qd Q R2 (k1.trans k2) (e1.mono R k1 k2) (e2.back k1 R1) h2 fun v' H3 z R3 k3 e3 q => post v' H3 z R3 ((k1.trans k2).trans k3) (e3.back (k1.trans k2) R2) q
variable {a b : Expr} {ta tb : TED}
theorem fe_op {op : Operator} {r : R2} {rd : D → D → (D → Prop) → Prop} (ho : OpR X (binaryOp op) r) (l : Li2 X.K r rd) (ha : FE X a ta) (hb : FE X b tb) : FE X (.BinOp a op b pos) (dOp rd ta tb) :=
  (pe_op ho ha hb).mo (up_op l)
theorem fe_cmp {op : CmpOp} {r : R2} {rd : D → D → (D → Prop) → Prop} (ho : OpR X (compareOp op) r) (l : Li2 X.K r rd) (ha : FE X a ta) (hb : FE X b tb) (hm : behindInMarks op b = false) : FE X (.Compare a [op] [b] pos) (dOp rd ta tb) :=
  (pe_cmpR ho ha hb hm).mo (up_op l)
def dTest (t : TED) : TTD := fun ρ Q => t ρ fun x => ∃ k, x = .p (.bool k) ∧ Q k
theorem up_test {K : PySem.W.Frag} {t : TED} : ∀ σ H Q, upT K (dTest t) σ H Q → up K t σ H fun x H' => ∃ k, x = .bl k ∧ Q k H' := by
  rintro σ H Q ⟨C, ρ, Qd, R, h, post⟩
  refine ⟨C, ρ, _, R, h, ?_⟩
  rintro v H' x R' k e ⟨c, rfl, q⟩
  exact ⟨c, rel_bl e, post c H' R' k q⟩
theorem ft_cmp {op : CmpOp} {r : R2} {rd : D → D → (D → Prop) → Prop} (ho : OpR X (compareOp op) r) (l : Li2 X.K r rd) (ha : FE X a ta) (hb : FE X b tb) (hm : behindInMarks op b = false) : FT X (.Compare a [op] [b] pos) (dTest (dOp rd ta tb)) := by
  refine (pt_cmpR ho ha hb hm).mo fun σ H Q h => ?_
  exact up_op l σ H _ (up_test σ H Q h)
/-- truth by what it is -/
def D.tru : D → Option Bool
  | .p .none => some false | .p (.bool b) => some b | .p (.int i) => some (i != 0)
  | .p (.str z) => some (((z.length : Nat) : Int) != 0) | .p (.list ds) => some (!ds.isEmpty) | .p (.tuple ds) => some (!ds.isEmpty) | .own ds => some (!ds.isEmpty) | .nw ds => some (!ds.isEmpty) | _ => none
def D.tok : D → Prop
  | .p (.str z) => z.length ≤ sizeLine | _ => True
def dTru (t : TED) : TTD := fun ρ Q => t ρ fun x => ∃ k, x.tru = some k ∧ x.tok ∧ Q k
theorem DtAll.emp {H : Hp} {vs : List V} {ds : List PyData} (h : DtAll H vs ds) : vs.isEmpty = ds.isEmpty := by cases h <;> rfl
theorem ft_tru (h : FE X a ta) (he : ∀ whole, isTrue a X.env whole = (do let v ← whole; standAt a.pos; holding [v] (truthy v)) := by intro _; rfl) : FT X a (dTru ta) := by
  refine (pt_truth h he).mo ?_
  rintro σ H Q ⟨C, ρ, Qd, R, h, post⟩
  refine ⟨C, ρ, _, R, h, ?_⟩
  rintro v H' x R' k e ⟨c, ht, hk, q⟩
  refine ⟨c, ?_, post c H' R' k q⟩
  cases x with
  | p d =>
    cases e with
    | non => cases ht; rfl
    | bl b => cases ht; rfl
    | int i => cases ht; rfl
    | str z => cases ht; exact ⟨hk, rfl⟩
    | tup h1 h2 => cases ht; exact .inr (.inl ⟨_, h1.mo.sq, by rw [h2.emp]⟩)
    | lst h1 h2 => cases ht; exact .inl ⟨_, SqL.of (wo_of h1).2, by rw [h2.emp]⟩
    | dic h1 h2 h3 h4 => cases ht
  | own ds =>
    obtain ⟨p, vs, rfl, h2, h3, _⟩ := R'.ofOwn e
    cases ht
    exact .inl ⟨_, SqL.of h2, by rw [h3.emp]⟩
  | nw ds =>
    obtain ⟨p, vs, rfl, _, h2, h3, _⟩ := e
    cases ht
    exact .inl ⟨_, SqL.of h2, by rw [h3.emp]⟩
  | tape => cases ht
  | ot m => cases ht
  | nt m => cases ht
  | fv f F => cases ht
  | bor p m => cases ht
def dNotT (t : TTD) : TTD := fun ρ Q => t ρ fun c => Q (!c)
def dAndT (t u : TTD) : TTD := fun ρ Q => t ρ fun c => if c = true then u ρ Q else Q false
def dOrT (t u : TTD) : TTD := fun ρ Q => t ρ fun c => if c = true then Q true else u ρ Q
variable {tA tB' : TTD} {rest : List Expr}
theorem ft_not (ha : FT X a tA) : FT X (.UnaryOp .Not a pos) (dNotT tA) := by
  refine (pt_not ha).mo ?_
  rintro σ H Q ⟨C, ρ, Qd, R, h, post⟩
  exact ⟨C, ρ, _, R, h, fun b H' R' k q => post _ H' R' k q⟩
theorem FW.ft (h : FW X a tA) : FT X a tA := PW.pt h
theorem fw_and1 (ha : FT X a tA) : FW X (.BoolOp .And [a] pos) tA := pw_and1 ha
theorem fw_or1 (ha : FT X a tA) : FW X (.BoolOp .Or [a] pos) tA := pw_or1 ha
theorem fw_and (ha : FT X a tA) (hb : FW X (.BoolOp .And (b :: rest) pos) tB') : FW X (.BoolOp .And (a :: b :: rest) pos) (dAndT tA tB') := by
  refine (pw_and ha hb).mo ?_
  rintro σ H Q ⟨C, ρ, Qd, R, h, post⟩
  refine ⟨C, ρ, _, R, h, fun c H1 R1 k1 q => ?_⟩
  cases c with
  | true => exact ⟨C, ρ, _, R1, by simpa using q, fun d H2 R2 k2 q2 => post d H2 R2 (k1.trans k2) q2⟩
  | false => exact post false H1 R1 k1 (by simpa using q)
theorem fw_or (ha : FT X a tA) (hb : FW X (.BoolOp .Or (b :: rest) pos) tB') : FW X (.BoolOp .Or (a :: b :: rest) pos) (dOrT tA tB') := by
  refine (pw_or ha hb).mo ?_
  rintro σ H Q ⟨C, ρ, Qd, R, h, post⟩
  refine ⟨C, ρ, _, R, h, fun c H1 R1 k1 q => ?_⟩
  cases c with
  | false => exact ⟨C, ρ, _, R1, by simpa using q, fun d H2 R2 k2 q2 => post d H2 R2 (k1.trans k2) q2⟩
  | true => exact post true H1 R1 k1 (by simpa using q)
/-- and, or, not, if as values -/
def dNotV (ta : TED) : TED := fun ρ Q => ta ρ fun x => ∃ c, x = .p (.bool c) ∧ Q (.p (.bool (!c)))
def dAndV (ta tb : TED) : TED := fun ρ Q => ta ρ fun x => ∃ c, x = .p (.bool c) ∧ if c = true then tb ρ Q else Q (.p (.bool false))
def dOrV (ta tb : TED) : TED := fun ρ Q => ta ρ fun x => ∃ c, x = .p (.bool c) ∧ if c = true then Q (.p (.bool true)) else tb ρ Q
def dIfE (t : TTD) (ta tb : TED) : TED := fun ρ Q => t ρ fun c => if c = true then ta ρ Q else tb ρ Q
theorem fe_not (ha : FE X a ta) : FE X (.UnaryOp .Not a pos) (dNotV ta) := by
  refine (pe_not ha).mo ?_
  rintro σ H Q ⟨C, ρ, Qd, R, h, post⟩
  refine ⟨C, ρ, _, R, h, ?_⟩
  rintro v H' x R' k e ⟨c, rfl, q⟩
  exact ⟨c, rel_bl e, post _ H' (.p (.bool (!c))) R' k (.bl _) q⟩
theorem fe_one {op} (ha : FE X a ta) : FE X (.BoolOp op [a] pos) ta := pe_one ha
theorem fe_and (ha : FE X a ta) (hb : FE X (.BoolOp .And (b :: rest) pos) tb) : FE X (.BoolOp .And (a :: b :: rest) pos) (dAndV ta tb) := by
  refine (pe_and ha hb).mo ?_
  rintro σ H Q ⟨C, ρ, Qd, R, h, post⟩
  refine ⟨C, ρ, _, R, h, ?_⟩
  rintro v H1 x R1 k1 e ⟨c, rfl, q⟩
  refine ⟨c, rel_bl e, ?_⟩
  cases c with
  | true => exact ⟨C, ρ, _, R1, by simpa using q, fun d H2 x R2 k2 e2 q2 => post d H2 x R2 (k1.trans k2) (e2.back k1 R1) q2⟩
  | false => exact post _ H1 (.p (.bool false)) R1 k1 (.bl _) (by simpa using q)
def dNil : TAD := fun _ Q => Q []
def dCons (ta : TED) (tr : TAD) : TAD := fun ρ Q => ta ρ fun x => tr ρ fun xs => Q (x :: xs)
theorem pmap2 {α β : Type} {F G : α → β → Prop} (f : ∀ a b, F a b → G a b) : ∀ {xs : List α} {ys : List β}, Paired F xs ys → Paired G xs ys
  | _, _, .nil => .nil
  | _, _, .cons h t => .cons (f _ _ h) (pmap2 f t)
theorem fa_nil : FA X [] dNil := by
  refine pa_nil.mo ?_
  rintro σ H Q ⟨C, ρ, Qd, R, h, post⟩
  exact post [] H [] R (Kq.refl _ _) .nil h
theorem fa_cons {es : List Expr} {t : TAD} (ha : FE X a ta) (hr : FA X es t) (hs : starEach (a :: es) X.env = (false, eval a X.env) :: starEach es X.env := by rfl) : FA X (a :: es) (dCons ta t) := by
  refine (pa_cons ha hr hs).mo ?_
  rintro σ H Q ⟨C, ρ, Qd, R, h, post⟩
  refine ⟨C, ρ, _, R, h, fun v H1 x R1 k1 e1 h1 => ⟨C, ρ, _, R1, h1, fun vs H2 xs R2 k2 e2 h2 => ?_⟩⟩
  exact post _ H2 _ R2 (k1.trans k2) (.cons (e1.mono R k1 k2) (pmap2 (fun _ _ h => h.back k1 R1) e2)) h2
/-- all of them as data that stays -/
def stAll : List D → Option (List PyData)
  | [] => some []
  | x :: xs => match x.st, stAll xs with | some d, some ds => some (d :: ds) | _, _ => none
theorem stAll_ok {K : PySem.W.Frag} {C : Cd} {ρ : Ro} {σ : L2.St} {H H' : Hp} (R : Rep K C ρ σ H) : ∀ {vs : List V} {xs : List D} {ds : List PyData}, Paired (RelE C ρ σ H H') vs xs → stAll xs = some ds → DtAll (wo (bad C ρ σ) H') vs ds
  | _, _, _, .nil, e => by cases e; exact .nil
  | _, _, _, .cons (b := x) (l₂ := xs) h t, e => by
    unfold stAll at e
    cases e1 : x.st with
    | none => simp [e1] at e
    | some d =>
      cases e2 : stAll xs with
      | none => simp [e1, e2] at e
      | some ds =>
        simp [e1, e2] at e
        subst e
        exact .cons (R.stOf h e1) (stAll_ok R t e2)
theorem Rep.newG {K : PySem.W.Frag} {C : Cd} {ρ : Ro} {σ : L2.St} {H0 H : Hp} (R : Rep K C ρ σ H) {Q : VK} {Qd : D → Prop} {vs : List V} {ds : List PyData} (h : DtAll (wo (bad C ρ σ) H) vs ds) (q : Qd (.p (.tuple ds)))
    (post : ∀ v' H' z, Rep K C ρ σ H' → Kq C.t H H' → RelE C ρ σ H H' v' z → Qd z → Q v' H') : NewG H Q vs := fun l o hl ho => by
  refine post _ _ (.p (.tuple ds)) (R.lay hl) (Kq.new hl) ?_ q
  have k := R.kp (Kq.new (o := .frz o (.tup vs)) hl)
  refine .tup ⟨o, wo_mk (R.badN hl) upd_same, ho⟩ (DtAll.mono k h)
theorem Rep.newL {K : PySem.W.Frag} {C : Cd} {ρ : Ro} {σ : L2.St} {H0 H : Hp} (R : Rep K C ρ σ H) {Q : VK} {Qd : D → Prop} {vs : List V} {ds : List PyData} (h : DtAll (wo (bad C ρ σ) H) vs ds) (hz : ds.length ≤ sizeLine) (q : Qd (.nw ds))
    (post : ∀ v' H' z, Rep K C ρ σ H' → Kq C.t H H' → RelE C ρ σ H H' v' z → Qd z → Q v' H') (p : Addr) (hp : H p = none) : Q (.ref p) (upd H p (.lst vs)) := by
  refine post _ _ (.nw ds) (R.lay hp) (Kq.new hp) ⟨p, vs, rfl, hp, upd_same, ?_, hz⟩ q
  refine DtAll.mono (fun a o e => wo_mk (fun z => ?_) (by rw [upd_ne (ne_of_none (wo_of e).2 hp)]; exact (wo_of e).2)) h
  rcases z with z | z
  · exact (wo_of e).1 z
  · exact ne_of_none (wo_of e).2 hp z
def dTup (t : TAD) : TED := fun ρ Q => t ρ fun xs => ∃ ds, stAll xs = some ds ∧ ds.length ≤ sizeLine ∧ Q (.p (.tuple ds))
def dLst (t : TAD) : TED := fun ρ Q => t ρ fun xs => ∃ ds, stAll xs = some ds ∧ ds.length ≤ sizeLine ∧ Q (.nw ds)
theorem fe_tup {es : List Expr} {t : TAD} {x1} (h : FA X es t) : FE X (.Tuple es x1 pos) (dTup t) := by
  refine (pe_tupG h).mo ?_
  rintro σ H Q ⟨C, ρ, Qd, R, h, post⟩
  refine ⟨C, ρ, _, R, h, ?_⟩
  rintro vs H1 xs R1 k1 e ⟨ds, h1, h2, q⟩
  have g := stAll_ok R e h1
  exact ⟨by rw [g.length]; exact h2, R1.newG (H0 := H) g q fun v' H' z R' k' e' q' => post v' H' z R' (k1.trans k') (e'.back k1 R1) q'⟩
theorem fe_lst {es : List Expr} {t : TAD} (h : FA X es t) : FE X (.List es pos) (dLst t) := by
  refine (pe_lst h).mo ?_
  rintro σ H Q ⟨C, ρ, Qd, R, h, post⟩
  refine ⟨C, ρ, _, R, h, ?_⟩
  rintro vs H1 xs R1 k1 e ⟨ds, h1, h2, q⟩
  have g := stAll_ok R e h1
  exact ⟨by rw [g.length]; exact h2, R1.newL (H0 := H) g h2 q fun v' H' z R' k' e' q' => post v' H' z R' (k1.trans k') (e'.back k1 R1) q'⟩
end
end My
namespace My
open PySem PySem.Spec PyProof.Rows L2
variable [TB]
theorem nod_shaped {d : PyData} (h : SeqAt.shaped d = true) : d.hasDict = false := PyData.hasDict_of_canLay d (SeqAt.canLay_of_shaped h)
section
variable {K : PySem.W.Frag}
def rdI0 (g : Int → Int → PyData) : D → D → (D → Prop) → Prop := fun x y Q => ∃ i j, x = .p (.int i) ∧ y = .p (.int j) ∧ Q (.p (g i j))
theorem li_I0 {g : Int → Int → Int} : Li2 K (rI0 fun i j => .int (g i j)) (rdI0 fun i j => .int (g i j)) := by
  rintro C ρ σ H0 H v u x y Qd Q R k e1 e2 ⟨i, j, rfl, rfl, q⟩ post
  exact ⟨i, j, rel_int e1, rel_int e2, post _ H (.p (.int _)) R (Kq.refl _ _) (.int _) q⟩
theorem li_B0 {g : Int → Int → Bool} : Li2 K (rI0 fun i j => .bl (g i j)) (rdI0 fun i j => .bool (g i j)) := by
  rintro C ρ σ H0 H v u x y Qd Q R k e1 e2 ⟨i, j, rfl, rfl, q⟩ post
  exact ⟨i, j, rel_int e1, rel_int e2, post _ H (.p (.bool _)) R (Kq.refl _ _) (.bl _) q⟩
/-- == of flat things of one kind -/
def sc2 : PyData → PyData → Bool
  | .int _, .int _ => true | .str _, .str _ => true | .bool _, .bool _ => true | .none, .none => true | .none, .int _ => true | .int _, .none => true
  | .none, .str _ => true | .str _, .none => true | _, _ => false
def sceq : PyData → PyData → Bool
  | .int i, .int j => decide (i = j) | .str i, .str j => decide (i = j) | .bool i, .bool j => decide (i = j) | .none, .none => true | _, _ => false
def rdEq : D → D → (D → Prop) → Prop := fun x y Q => ∃ d e, x = .p d ∧ y = .p e ∧ sc2 d e = true ∧ Q (.p (.bool (sceq d e)))
def rdNe : D → D → (D → Prop) → Prop := fun x y Q => ∃ d e, x = .p d ∧ y = .p e ∧ sc2 d e = true ∧ Q (.p (.bool (!sceq d e)))
theorem sc2_ok {H : Hp} {v u : V} {d e : PyData} (h1 : Dt H v d) (h2 : Dt H u e) (s : sc2 d e = true) : scal v u = true ∧ decide (v = u) = sceq d e := by
  cases h1 <;> cases h2 <;> simp [sc2] at s <;> exact ⟨rfl, by simp [sceq]⟩
theorem li_eq : Li2 K rEq rdEq := by
  rintro C ρ σ H0 H v u x y Qd Q R k e1 e2 ⟨d, e, rfl, rfl, h, q⟩ post
  obtain ⟨h1, h2⟩ := sc2_ok e1 e2 h
  exact ⟨h1, by rw [h2]; exact post _ H (.p (.bool _)) R (Kq.refl _ _) (.bl _) q⟩
theorem li_ne : Li2 K rNe rdNe := by
  rintro C ρ σ H0 H v u x y Qd Q R k e1 e2 ⟨d, e, rfl, rfl, h, q⟩ post
  obtain ⟨h1, h2⟩ := sc2_ok e1 e2 h
  exact ⟨h1, by rw [h2]; exact post _ H (.p (.bool _)) R (Kq.refl _ _) (.bl _) q⟩
/-- == of deep data -/
def rdEqD : D → D → (D → Prop) → Prop := fun x y Q => ∃ d e, x.dat = some d ∧ y.dat = some e ∧ SeqAt.shaped d = true ∧ SeqAt.shaped e = true ∧ Q (.p (.bool (PyData.eqv d e)))
def rdNeD : D → D → (D → Prop) → Prop := fun x y Q => ∃ d e, x.dat = some d ∧ y.dat = some e ∧ SeqAt.shaped d = true ∧ SeqAt.shaped e = true ∧ Q (.p (.bool (!PyData.eqv d e)))
theorem li_eqD : Li2 K (rEqD K) rdEqD := by
  rintro C ρ σ H0 H v u x y Qd Q R k e1 e2 ⟨d, e, h1, h2, h3, h4, q⟩ post
  exact ⟨d, e, (R.datOf e1 h1).dp (nod_shaped h3), (R.datOf e2 h2).dp (nod_shaped h4), h3, h4, post _ H (.p (.bool _)) R (Kq.refl _ _) (.bl _) q⟩
theorem li_neD : Li2 K (rNeD K) rdNeD := by
  rintro C ρ σ H0 H v u x y Qd Q R k e1 e2 ⟨d, e, h1, h2, h3, h4, q⟩ post
  exact ⟨d, e, (R.datOf e1 h1).dp (nod_shaped h3), (R.datOf e2 h2).dp (nod_shaped h4), h3, h4, post _ H (.p (.bool _)) R (Kq.refl _ _) (.bl _) q⟩
def rdLtD : D → D → (D → Prop) → Prop := fun x y Q => ∃ d e, x.dat = some d ∧ y.dat = some e ∧ PySem.W.alike d e = true ∧ d ≠ .none ∧ d.depth ≤ 30 ∧ (d.hasDict = false ∧ e.hasDict = false) ∧ Q (.p (.bool (PySem.W.dataLt d e)))
theorem li_ltD : Li2 K (rLtD K) rdLtD := by
  rintro C ρ σ H0 H v u x y Qd Q R k e1 e2 ⟨d, e, h1, h2, h3, h4, h5, h6, q⟩ post
  exact ⟨d, e, (R.datOf e1 h1).dp h6.1, (R.datOf e2 h2).dp h6.2, h3, h4, h5, post _ H (.p (.bool _)) R (Kq.refl _ _) (.bl _) q⟩
/-- is None -/
def D.isNone : D → Bool
  | .p .none => true | .ot (.leaf .none) => true | .nt (.leaf .none) => true | _ => false
theorem isNone_m {H : Hp} {B : Addr → Prop} {v : V} {m : M} {f : List Addr} (h : RelM H B v m f) : decide (v = .non) = (D.ot m).isNone ∧ decide (v = .non) = (D.nt m).isNone := by
  cases h with
  | leaf h => cases h <;> simp [D.isNone]
  | lst _ _ _ => simp [D.isNone]
  | dic _ _ _ _ _ => simp [D.isNone]
theorem isNone_ok {C : Cd} {ρ : Ro} {σ : L2.St} {H0 H : Hp} {v : V} {x : D} (R : Rep K C ρ σ H) (h : RelE C ρ σ H0 H v x) : decide (v = .non) = x.isNone := by
  cases x with
  | p d => cases h <;> simp [D.isNone]
  | own ds =>
    obtain ⟨p, vs, rfl, _⟩ := R.ofOwn h
    simp [D.isNone]
  | nw ds =>
    obtain ⟨p, vs, rfl, _⟩ := h
    simp [D.isNone]
  | tape =>
    have h : v = _ := h
    rw [h]
    simp [D.isNone]
  | ot m =>
    obtain ⟨f, h1, _⟩ := R.ofTree h
    exact (isNone_m h1).1
  | nt m =>
    obtain ⟨f, _, h1⟩ := h
    exact (isNone_m h1).2
  | fv f F => rw [h.1]; simp [D.isNone]
  | bor p m =>
    obtain ⟨i, f1, f2⟩ := h
    obtain ⟨w, g1, g2⟩ := R.val i _ f1
    rw [f2] at g1; cases g1
    rw [show v = .ref p from g2]
    simp [D.isNone]
def rdIsN : D → D → (D → Prop) → Prop := fun x y Q => y = .p .none ∧ Q (.p (.bool x.isNone))
def rdNotN : D → D → (D → Prop) → Prop := fun x y Q => y = .p .none ∧ Q (.p (.bool (!x.isNone)))
theorem li_isN : Li2 K (fun x y H Q => y = .non ∧ Q (.bl (decide (x = .non))) H) rdIsN := by
  rintro C ρ σ H0 H v u x y Qd Q R k e1 e2 ⟨rfl, q⟩ post
  exact ⟨rel_non e2, by rw [isNone_ok R e1]; exact post _ H (.p (.bool _)) R (Kq.refl _ _) (.bl _) q⟩
theorem li_notN : Li2 K (fun x y H Q => y = .non ∧ Q (.bl (!decide (x = .non))) H) rdNotN := by
  rintro C ρ σ H0 H v u x y Qd Q R k e1 e2 ⟨rfl, q⟩ post
  exact ⟨rel_non e2, by rw [isNone_ok R e1]; exact post _ H (.p (.bool _)) R (Kq.refl _ _) (.bl _) q⟩
/-- texts -/
def rdS (c : Str → Str → Prop) (g : Str → Str → PyData) : D → D → (D → Prop) → Prop := fun x y Q => ∃ i j, x = .p (.str i) ∧ y = .p (.str j) ∧ c i j ∧ Q (.p (g i j))
theorem li_catS : Li2 K (fun x y H Q => ∃ i j, x = .str i ∧ y = .str j ∧ i.length + j.length ≤ sizeLine ∧ Q (.str (i ++ j)) H) (rdS (fun i j => i.length + j.length ≤ sizeLine) fun i j => .str (i ++ j)) := by
  rintro C ρ σ H0 H v u x y Qd Q R k e1 e2 ⟨i, j, rfl, rfl, h, q⟩ post
  exact ⟨i, j, rel_str e1, rel_str e2, h, post _ H (.p (.str _)) R (Kq.refl _ _) (.str _) q⟩
theorem li_ltS : Li2 K (fun x y H Q => ∃ i j, x = .str i ∧ y = .str j ∧ Q (.bl (decide (i.cps.toList < j.cps.toList))) H) (rdS (fun _ _ => True) fun i j => .bool (decide (i.cps.toList < j.cps.toList))) := by
  rintro C ρ σ H0 H v u x y Qd Q R k e1 e2 ⟨i, j, rfl, rfl, h, q⟩ post
  exact ⟨i, j, rel_str e1, rel_str e2, post _ H (.p (.bool _)) R (Kq.refl _ _) (.bl _) q⟩
/-- tuples, lists -/
def rdCat : D → D → (D → Prop) → Prop := fun x y Q => ∃ ds es, x = .p (.tuple ds) ∧ y = .p (.tuple es) ∧ ds.length + es.length ≤ sizeLine ∧ Q (.p (.tuple (ds ++ es)))
theorem li_cat : Li2 K (rCatG K) rdCat := by
  rintro C ρ σ H0 H v u x y Qd Q R k e1 e2 ⟨ds, es, rfl, rfl, h, q⟩ post
  obtain ⟨a, vs, rfl, t1, d1⟩ := R.tupOf e1
  obtain ⟨b, us, rfl, t2, d2⟩ := R.tupOf e2
  refine ⟨a, b, vs, us, rfl, rfl, t1.sq, t2.sq, by rw [d1.length, d2.length]; exact h, fun z => ?_, fun _ z => ?_, fun _ _ => R.newG (H0 := H0) (d1.append d2) q post⟩
  · subst z
    cases d1
    exact post _ H (.p (.tuple es)) R (Kq.refl _ _) e2 q
  · subst z
    cases d2
    rw [List.append_nil] at q
    exact post _ H (.p (.tuple ds)) R (Kq.refl _ _) e1 q
def rdCatL : D → D → (D → Prop) → Prop := fun x y Q => ∃ ds es, x.ls = some ds ∧ y.ls = some es ∧ ds.length + es.length ≤ sizeLine ∧ Q (.nw (ds ++ es))
theorem li_catL : Li2 K rCat rdCatL := by
  rintro C ρ σ H0 H v u x y Qd Q R k e1 e2 ⟨ds, es, h1, h2, h, q⟩ post
  obtain ⟨a, vs, rfl, t1, d1⟩ := R.lstOf e1 h1
  obtain ⟨b, us, rfl, t2, d2⟩ := R.lstOf e2 h2
  exact ⟨a, b, vs, us, rfl, rfl, t1, t2, by rw [d1.length, d2.length]; exact h, R.newL (H0 := H0) (d1.append d2) (by rw [List.length_append]; exact h) q post⟩
/-- x in a list or tuple of flat items -/
def fl : PyData → Bool
  | .none => true | .bool _ => true | .int _ => true | .str _ => true | _ => false
theorem fl_ok {H : Hp} {v : V} {d : PyData} (h : Dt H v d) (f : fl d = true) : flatV v = true := by cases h <;> first | rfl | simp [fl] at f
theorem fl_all {H : Hp} : ∀ {vs : List V} {ds : List PyData}, DtAll H vs ds → ds.all fl = true → vs.all flatV = true
  | _, _, .nil, _ => rfl
  | _, _, .cons h t, f => by
    simp at f ⊢
    exact ⟨fl_ok h f.1, by simpa using fl_all t (by simpa using f.2)⟩
theorem eqV_ok {H : Hp} {v u : V} {d e : PyData} (h1 : Dt H v d) (h2 : Dt H u e) (f1 : fl d = true) (f2 : fl e = true) : eqV v u = PyData.eqv d e := by
  cases h1 <;> cases h2 <;> first | (simp [fl] at f1; done) | (simp [fl] at f2; done) | (simp [eqV, PyData.eqv]; done) | skip
  all_goals (simp only [eqV, PyData.eqv])
theorem inV_ok {H : Hp} {v : V} {d : PyData} (h : Dt H v d) (f : fl d = true) : ∀ {vs : List V} {ds : List PyData}, DtAll H vs ds → ds.all fl = true → inV v vs = ds.any fun z => PyData.eqv z d
  | _, _, .nil, _ => rfl
  | _, _, .cons g t, q => by
    simp at q
    have ih := inV_ok h f t (by simpa using q.2)
    unfold inV at ih ⊢
    rw [List.any_cons, List.any_cons, ih, eqV_ok g h q.1 f]
def rdIn (neg : Bool) : D → D → (D → Prop) → Prop := fun x y Q => ∃ d ds, x = .p d ∧ y.sq = some ds ∧ fl d = true ∧ ds.all fl = true ∧ Q (.p (.bool (if neg then !(ds.any fun z => PyData.eqv z d) else ds.any fun z => PyData.eqv z d)))
theorem li_in (neg : Bool) : Li2 K (rIn K neg) (rdIn neg) := by
  rintro C ρ σ H0 H v u x y Qd Q R k e1 e2 ⟨d, ds, rfl, h2, f1, f2, q⟩ post
  obtain ⟨a, vs, rfl, t1, d1⟩ := R.sqOf e2 h2
  refine ⟨a, vs, rfl, t1, fl_ok e1 f1, fl_all d1 f2, ?_⟩
  rw [inV_ok (Dt.mono wo_same e1) f1 (DtAll.mono wo_same d1) f2]
  exact post _ H (.p (.bool _)) R (Kq.refl _ _) (.bl _) q
/-- x in a list of deep items -/
def rdInD : D → D → (D → Prop) → Prop := fun x y Q => ∃ d ds, x.dat = some d ∧ y.ls = some ds ∧ SeqAt.shaped d = true ∧ SeqAt.shaped (.list ds) = true ∧ Q (.p (.bool (ds.any fun z => PyData.eqv z d)))
theorem li_inD : Li2 K (rInD K) rdInD := by
  rintro C ρ σ H0 H v u x y Qd Q R k e1 e2 ⟨d, ds, h1, h2, h3, h4, q⟩ post
  obtain ⟨a, vs, rfl, t1, d1⟩ := R.lstOf e2 h2
  exact ⟨d, ds, (R.datOf e1 h1).dp (nod_shaped h3), .lst (SqL.of t1) ((DtAll.mono wo_same d1).dp (by have := nod_shaped h4; simpa [PyData.hasDict] using this)), h3, h4, post _ H (.p (.bool _)) R (Kq.refl _ _) (.bl _) q⟩
/-- one sign in a text -/
def rdInS (neg : Bool) : D → D → (D → Prop) → Prop := fun x y Q => ∃ (c : Nat) (z : Str), x = .p (.str ⟨#[c]⟩) ∧ y = .p (.str z) ∧ Q (.p (.bool (if neg then !decide (c ∈ z.cps.toList) else decide (c ∈ z.cps.toList))))
def rdIx : D → D → (D → Prop) → Prop := fun x y Q => ∃ ds i d, x.sq = some ds ∧ y = .p (.int i) ∧ atI ds i = some d ∧ Q (.p d)
theorem atI_dt {H : Hp} {vs : List V} {ds : List PyData} {i : Int} {d : PyData} (h : DtAll H vs ds) (e : atI ds i = some d) : ∃ v, atI vs i = some v ∧ Dt H v d := by
  unfold atI at e ⊢
  rw [h.length]
  cases q : ixN ds.length i with
  | none => rw [q] at e; cases e
  | some j =>
    rw [q] at e
    exact h.of (show ds[j]? = some d from e)
def rIxSq (K : PySem.W.Frag) : R2 := fun x y H Q => rIxL K x y H Q ∨ rIxT K x y H Q
theorem ix_sq {X : Cx} : IxR X (rIxSq X.K) := ix_list.or ix_tup
theorem li_ix : Li2 K (rIxSq K) rdIx := by
  rintro C ρ σ H0 H v u x y Qd Q R k e1 e2 ⟨ds, i, d, h1, rfl, h3, q⟩ post
  obtain ⟨a, vs, rfl, t1, d1⟩ := R.sqOf e1 h1
  obtain ⟨w, h4, h5⟩ := atI_dt d1 h3
  have z := post w H (.p d) R (Kq.refl _ _) h5 q
  rcases t1 with t1 | t1
  · exact .inl ⟨a, vs, i, w, rfl, rel_int e2, t1, h4, z⟩
  · exact .inr ⟨a, vs, i, w, rfl, rel_int e2, t1, h4, z⟩
def rdIxS : D → D → (D → Prop) → Prop := fun x y Q => ∃ (z : Str) (i : Int) (c : Nat), x = .p (.str z) ∧ y = .p (.int i) ∧ z.length ≤ sizeLine ∧ atI z.cps.toList i = some c ∧ Q (.p (.str ⟨#[c]⟩))
theorem li_ixS : Li2 K rIxS rdIxS := by
  rintro C ρ σ H0 H v u x y Qd Q R k e1 e2 ⟨z, i, c, rfl, rfl, h3, h4, q⟩ post
  exact ⟨z, i, c, rel_str e1, rel_int e2, h3, h4, post _ H (.p (.str _)) R (Kq.refl _ _) (.str _) q⟩
end
section
variable {X : Cx} {a b : Expr} {ta tb : TED} {pos : Pos}
theorem fe_ix {r : R2} {rd : D → D → (D → Prop) → Prop} (hr : IxR X r) (l : Li2 X.K r rd) (ha : FE X a ta) (hb : FE X b tb) (hs : PlainIx b) : FE X (.Subscript a b pos) (dOp rd ta tb) :=
  (pe_ix hr ha hb hs).mo (up_op l)
abbrev TOD := Ro → (Option Int → Prop) → Prop
def upO (K : PySem.W.Frag) (t : TOD) : TO := fun σ H Q => ∃ C ρ Qd, Rep K C ρ σ H ∧ t ρ Qd ∧ ∀ o H', Rep K C ρ σ H' → Kq C.t H H' → Qd o → Q o H'
abbrev FO (X : Cx) (e : Option Expr) (t : TOD) : Prop := PO X e (upO X.K t)
theorem _root_.L2.PO.mo {e : Option Expr} {t t' : TO} (h : PO X e t) (m : ∀ σ H Q, t' σ H Q → t σ H Q) : PO X e t' := ⟨fun pins s σ H Q I hw => h.run pins s σ H Q I (m σ H Q hw)⟩
def dNoPart : TOD := fun _ Q => Q none
def dPart (t : TED) : TOD := fun ρ Q => t ρ fun x => ∃ i, x = .p (.int i) ∧ Q (some i)
theorem fo_none : FO X none dNoPart := by
  refine po_none.mo ?_
  rintro σ H Q ⟨C, ρ, Qd, R, h, post⟩
  exact post _ H R (Kq.refl _ _) h
theorem fo_some (h : FE X a ta) : FO X (some a) (dPart ta) := by
  refine (po_some h).mo ?_
  rintro σ H Q ⟨C, ρ, Qd, R, h, post⟩
  refine ⟨C, ρ, _, R, h, ?_⟩
  rintro v H' x R' k e ⟨i, rfl, q⟩
  exact ⟨i, rel_int e, post _ H' R' k q⟩
def cutD (xs : List PyData) (lo hi : Option Int) : List PyData := (xs.drop (HT.sIx xs.length 0 lo)).take (HT.sIx xs.length xs.length hi - HT.sIx xs.length 0 lo)
theorem cut_dt {H : Hp} {vs : List V} {ds : List PyData} (h : DtAll H vs ds) (lo hi : Option Int) : DtAll H (cutV vs lo hi) (cutD ds lo hi) := by
  unfold cutV cutD
  rw [h.length]
  exact (h.drop _).take _
theorem cutD_len (xs : List PyData) (lo hi : Option Int) : (cutD xs lo hi).length ≤ xs.length := by
  unfold cutD
  rw [List.length_take, List.length_drop]
  omega
def Li3 (K : PySem.W.Frag) (r : V → Option Int → Option Int → Hp → VK → Prop) (rd : D → Option Int → Option Int → (D → Prop) → Prop) : Prop := ∀ C ρ σ H0 H v x lo hi Qd Q, Rep K C ρ σ H → Kq C.t H0 H → RelE C ρ σ H0 H v x → rd x lo hi Qd →
  (∀ v' H' z, Rep K C ρ σ H' → Kq C.t H H' → RelE C ρ σ H H' v' z → Qd z → Q v' H') → r v lo hi H Q
def dSl (rd : D → Option Int → Option Int → (D → Prop) → Prop) (ta : TED) (tl th : TOD) : TED := fun ρ Q => ta ρ fun x => tl ρ fun l => th ρ fun u => rd x l u Q
theorem fe_slice {lo hi : Option Expr} {p2 : Pos} {tl th : TOD} {r : V → Option Int → Option Int → Hp → VK → Prop} {rd : D → Option Int → Option Int → (D → Prop) → Prop} (hr : SlR X r) (l : Li3 X.K r rd) (he : FE X a ta) (hl : FO X lo tl) (hu : FO X hi th) :
    FE X (.Subscript a (.Slice lo hi none p2) pos) (dSl rd ta tl th) := by
  refine (pe_slice hr he hl hu).mo ?_
  rintro σ H Q ⟨C, ρ, Qd, R, h, post⟩
  refine ⟨C, ρ, _, R, h, fun v H1 x R1 k1 e1 h1 => ⟨C, ρ, _, R1, h1, fun o H2 R2 k2 h2 => ⟨C, ρ, _, R2, h2, fun o2 H3 R3 k3 h3 => ?_⟩⟩⟩
  exact l C ρ σ H H3 v x o o2 Qd Q R3 ((k1.trans k2).trans k3) ((e1.mono R k1 k2).mono R (k1.trans k2) k3) h3 fun v' H4 z R4 k4 e4 q => post v' H4 z R4 (((k1.trans k2).trans k3).trans k4) (e4.back ((k1.trans k2).trans k3) R3) q
def rdSlT : D → Option Int → Option Int → (D → Prop) → Prop := fun x lo hi Q => ∃ ds, x = .p (.tuple ds) ∧ Q (.p (.tuple (cutD ds lo hi)))
theorem li_slT {K : PySem.W.Frag} : Li3 K (rSlG K) rdSlT := by
  rintro C ρ σ H0 H v x lo hi Qd Q R k e1 ⟨ds, rfl, q⟩ post
  obtain ⟨a, vs, rfl, t1, d1⟩ := R.tupOf e1
  refine ⟨a, vs, rfl, t1.sq, fun z => ?_, fun _ => R.newG (H0 := H0) (cut_dt d1 lo hi) q post⟩
  have e : cutD ds lo hi = ds := by
    unfold cutD
    rw [← d1.length, z.1, z.2, List.drop_zero, Nat.sub_zero, d1.length, List.take_length]
  rw [e] at q
  exact post _ H (.p (.tuple ds)) R (Kq.refl _ _) e1 q
def rdSlL : D → Option Int → Option Int → (D → Prop) → Prop := fun x lo hi Q => ∃ ds, x.ls = some ds ∧ ds.length ≤ sizeLine ∧ Q (.nw (cutD ds lo hi))
theorem li_slL {K : PySem.W.Frag} : Li3 K (rSlL K) rdSlL := by
  rintro C ρ σ H0 H v x lo hi Qd Q R k e1 ⟨ds, h1, hz, q⟩ post
  obtain ⟨a, vs, rfl, t1, d1⟩ := R.lstOf e1 h1
  exact ⟨a, vs, rfl, SqL.of t1, R.newL (H0 := H0) (cut_dt d1 lo hi) (Nat.le_trans (cutD_len _ _ _) hz) q post⟩
def dCB (rd : List D → (D → Prop) → Prop) (t : TAD) : TED := fun ρ Q => t ρ fun xs => rd xs Q
theorem up_cb {K : PySem.W.Frag} {r : List V → Hp → VK → Prop} {rd : List D → (D → Prop) → Prop} {t : TAD} (l : LiL K r rd) : ∀ σ H Q, up K (dCB rd t) σ H Q → tCB r (upA K t) σ H Q := by
  rintro σ H Q ⟨C, ρ, Qd, R, h, post⟩
  refine ⟨C, ρ, _, R, h, fun vs H1 xs R1 k1 e1 h1 => ?_⟩
  exact l C ρ σ H H1 vs xs Qd Q R1 k1 e1 h1 fun v' H3 z R3 k3 e3 q => post v' H3 z R3 (k1.trans k3) (e3.back k1 R1) q
variable {es : List Expr} {t : TAD} {x : Str} {p : Pos} {id T : String} {r : List V → Hp → VK → Prop} {rd : List D → (D → Prop) → Prop}
theorem fe_cb (hc : CallR X (.builtin id) r) (l : LiL X.K r rd) (hg : Gl X x) (hm : X.mg x = none) (hv : bootBuiltins x = some (.builtin id)) (ha : FA X (a :: es) t) (hn : x ≠ "__name__" := by decide) (hdb : (x == ("__debug__" : Str)) = false := by decide)
    (he : starEach (a :: es) X.env = (false, eval a X.env) :: starEach es X.env := by rfl) (hpl : (backTo pos (starEach es X.env)).any (·.1) = false := by rfl) : FE X (.Call (.Name x p) (a :: es) [] pos) (dCB rd t) :=
  (pe_callB hc hg hm hv ha hn hdb he hpl).mo (up_cb l)
theorem fe_ct (hc : CallR X (.type T) r) (l : LiL X.K r rd) (hg : Gl X x) (hm : X.mg x = none) (hv : bootBuiltins x = some (.type T)) (ha : FA X (a :: es) t) (hn : x ≠ "__name__" := by decide) (hdb : (x == ("__debug__" : Str)) = false := by decide)
    (he : starEach (a :: es) X.env = (false, eval a X.env) :: starEach es X.env := by rfl) (hpl : (backTo pos (starEach es X.env)).any (·.1) = false := by rfl) : FE X (.Call (.Name x p) (a :: es) [] pos) (dCB rd t) :=
  (pe_callTy hc hg hm hv ha hn hdb he hpl).mo (up_cb l)
end
section
variable {K : PySem.W.Frag}
theorem p1 {C : Cd} {ρ : Ro} {σ : L2.St} {H0 H : Hp} {vs : List V} {x : D} (h : Paired (RelE C ρ σ H0 H) vs [x]) : ∃ v, vs = [v] ∧ RelE C ρ σ H0 H v x := by
  cases h with
  | cons h t => cases t; exact ⟨_, rfl, h⟩
theorem p2 {C : Cd} {ρ : Ro} {σ : L2.St} {H0 H : Hp} {vs : List V} {x y : D} (h : Paired (RelE C ρ σ H0 H) vs [x, y]) : ∃ v u, vs = [v, u] ∧ RelE C ρ σ H0 H v x ∧ RelE C ρ σ H0 H u y := by
  cases h with
  | cons h t =>
    obtain ⟨u, rfl, h2⟩ := p1 t
    exact ⟨_, u, rfl, h, h2⟩
def rdLen : List D → (D → Prop) → Prop := fun xs Q => ∃ x ds, xs = [x] ∧ x.sq = some ds ∧ Q (.p (.int ds.length))
theorem li_len : LiL K (rLenS K) rdLen := by
  rintro C ρ σ H0 H vs xs Qd Q R k e0 ⟨x, ds, rfl, h, q⟩ post
  obtain ⟨v, rfl, e⟩ := p1 e0
  obtain ⟨a, us, rfl, t1, d1⟩ := R.sqOf e h
  exact ⟨a, us, rfl, t1, by rw [d1.length]; exact post _ H (.p (.int _)) R (Kq.refl _ _) (.int _) q⟩
def rdLenS : List D → (D → Prop) → Prop := fun xs Q => ∃ z : Str, xs = [.p (.str z)] ∧ z.length ≤ sizeLine ∧ Q (.p (.int z.length))
def rdMin : List D → (D → Prop) → Prop := fun xs Q => ∃ i j, xs = [.p (.int i), .p (.int j)] ∧ Q (.p (.int (min i j)))
theorem li_min : LiL K (fun xs H Q => ∃ i j, xs = [.int i, .int j] ∧ Q (.int (if j < i then j else i)) H) rdMin := by
  rintro C ρ σ H0 H vs xs Qd Q R k e ⟨i, j, rfl, q⟩ post
  obtain ⟨v, u, rfl, e1, e2⟩ := p2 e
  refine ⟨i, j, by rw [rel_int e1, rel_int e2], post _ H (.p (.int _)) R (Kq.refl _ _) (.int _) ?_⟩
  rw [show (if j < i then j else i) = min i j by split <;> omega]
  exact q
def b2d : Bool → Int | true => 1 | false => 0
def rdTupL : List D → (D → Prop) → Prop := fun xs Q => ∃ x ds, xs = [x] ∧ x.ls = some ds ∧ Q (.p (.tuple ds))
theorem li_tupL : LiL K (rTupG K) rdTupL := by
  rintro C ρ σ H0 H vs xs Qd Q R k e0 ⟨x, ds, rfl, h, q⟩ post
  obtain ⟨v, rfl, e⟩ := p1 e0
  obtain ⟨a, us, rfl, t1, d1⟩ := R.lstOf e h
  exact ⟨a, us, rfl, SqL.of t1, R.newG (H0 := H0) d1 q post⟩
theorem ints_dt {H : Hp} : ∀ {vs : List V} {ns : List Int}, DtAll H vs (ns.map PyData.int) → vs = ns.map V.int
  | vs, [], h => by cases h; rfl
  | vs, n :: ns, h => by
    cases h with
    | cons h t => cases h; rw [ints_dt t]; rfl
def rdSum : List D → (D → Prop) → Prop := fun xs Q => ∃ x, ∃ ns : List Int, xs = [x] ∧ x.ls = some (ns.map PyData.int) ∧ Q (.p (.int ns.sum))
theorem li_sum : LiL K (rSum K) rdSum := by
  rintro C ρ σ H0 H vs xs Qd Q R k e0 ⟨x, ns, rfl, h, q⟩ post
  obtain ⟨v, rfl, e⟩ := p1 e0
  obtain ⟨a, us, rfl, t1, d1⟩ := R.lstOf e h
  rw [ints_dt d1] at t1
  exact ⟨a, ns, rfl, SqL.of t1, post _ H (.p (.int _)) R (Kq.refl _ _) (.int _) q⟩
end
end My
namespace My
open PySem PySem.Spec PyProof.Rows L2
variable [TB]
section
variable {K : PySem.W.Frag} {C : Cd} {ρ : Ro} {σ : L2.St} {H H1 H2 H' : Hp} {v : V} {x : D}
theorem Rep.ownX (R : Rep K C ρ σ H) {p : Addr} (h : C.H0 p = none) : nx C.t p ∧ p ≠ C.t.2 := by
  have n : ∀ b, C.S0 b → p ≠ b := fun b hb e => by
    obtain ⟨o, q⟩ := R.s00 _ hb
    rw [← e, h] at q; cases q
  exact ⟨⟨n _ R.s1, fun q hq e => n _ (R.s3 q hq) e.symm⟩, n _ R.s2⟩
theorem Rep.step (R : Rep K C ρ σ H) (k : Kq C.t H H') (T : Tape K H' C.t) (tb : Tbs H') : Rep K C ρ σ H' where
  len := R.len
  val := fun i y e => by
    obtain ⟨v, h1, h2⟩ := R.val i y e
    refine ⟨v, h1, h2.mono rfl (fun _ a b => .inl ⟨a, b⟩) (R.kp k) (fun q vs ds e1 e2 h => ?_) fun c q n e => k c _ n e⟩
    subst e1 e2
    obtain ⟨q', vs', e3, _, _, h5, _⟩ := h2
    cases e3
    exact k q _ (R.ownX h5.1).1 h
  dis := R.dis
  tp := T
  ext := R.ext.trans k
  s1 := R.s1
  s2 := R.s2
  s0 := fun b hb => by
    by_cases e : nx C.t b
    · obtain ⟨xs, q⟩ := R.s0 b hb
      exact ⟨xs, k b _ e q⟩
    · by_cases e1 : b = C.t.1
      · obtain ⟨ys, q⟩ := T.lst
        exact ⟨_, e1 ▸ q⟩
      · have : ∃ p ∈ TB.T, p.1 = b := by
          refine Classical.byContradiction fun z => e ⟨e1, fun p hp e2 => z ⟨p, hp, e2⟩⟩
        obtain ⟨p, hp, rfl⟩ := this
        obtain ⟨ps, q⟩ := tb.at hp
        exact ⟨_, q⟩
  f0 := fun b hb => by
    by_cases e : nx C.t b
    · obtain ⟨xs, q⟩ := R.f0 b hb
      exact ⟨xs, k b _ e q⟩
    · by_cases e1 : b = C.t.1
      · obtain ⟨ys, q⟩ := T.lst
        exact ⟨_, e1 ▸ q⟩
      · have : ∃ p ∈ TB.T, p.1 = b := by
          refine Classical.byContradiction fun z => e ⟨e1, fun p hp e2 => z ⟨p, hp, e2⟩⟩
        obtain ⟨p, hp, rfl⟩ := this
        obtain ⟨ps, q⟩ := tb.at hp
        exact ⟨_, q⟩
  s00 := R.s00
  pin := fun q hq => PinD.mono (R.kp k) (R.pin q hq)
  tin := fun q hq => (R.tin q hq).kt fun o e => by
    refine k _ _ ⟨fun z => ?_, fun p hp z => ?_⟩ e
    · obtain ⟨ys, g⟩ := R.tp.lst
      rw [z, g] at e; cases e
    · obtain ⟨ps, g⟩ := R.tab.at hp
      rw [z, e] at g; cases g
  s3 := R.s3
  tab := tb
  tre := let ⟨φ, T⟩ := R.tre; ⟨φ, T.mono (R.kp k) (fun b o hb e => k b o (R.ownX (R.g0 b hb).2.1).1 e) fun _ z => z⟩
  g0 := fun b hb => let ⟨⟨o, e⟩, r⟩ := R.g0 b hb; ⟨⟨o, k b o (R.ownX r.1).1 e⟩, r⟩
/-- a slot takes what is no list of one's own -/
theorem ownAt_set {i : Nat} {y : D} (hy : ∀ ds, y ≠ .own ds) {b : Addr} (h : ownAt (ρ.set i (some y)) (σ.set i (some v)) b) : ownAt ρ σ b := by
  obtain ⟨j, ds, h1, h2⟩ := h
  by_cases e : i = j
  · subst e
    rw [List.getElem?_set] at h1
    split at h1
    · split at h1
      · injection h1 with h1; injection h1 with h1; exact (hy ds h1).elim
      · cases h1
    · exact absurd rfl (by assumption)
  · rw [List.getElem?_set_ne e] at h1 h2
    exact ⟨j, ds, h1, h2⟩
theorem bad_setY {i : Nat} {y : D} (hy : ∀ ds, y ≠ .own ds) {b : Addr} (h : bad C (ρ.set i (some y)) (σ.set i (some v)) b) : bad C ρ σ b := by
  rcases h with h | h | h | h
  · exact .inl h
  · exact .inr (.inl h)
  · exact .inr (.inr (.inl (ownAt_set hy h)))
  · exact .inr (.inr (.inr h))
theorem bad_set {i : Nat} {d : PyData} {b : Addr} (h : bad C (ρ.set i (some (.p d))) (σ.set i (some v)) b) : bad C ρ σ b := bad_setY (fun _ z => by cases z) h
/-- a slot takes data that stays, or a def -/
theorem Rep.setY (R : Rep K C ρ σ H) (i : Nat) {y : D} (hy : ∀ ds, y ≠ .own ds) (ht : ∀ m, y ≠ .ot m) (hbo : ∀ (p : Addr) (m : M), y ≠ D.bor p m) (h : RelS C (ρ.set i (some y)) (σ.set i (some v)) H v y) : Rep K C (ρ.set i (some y)) (σ.set i (some v)) H := by
  have s : Same (wo (bad C ρ σ) H) (wo (bad C (ρ.set i (some y)) (σ.set i (some v))) H) := wo_mono (fun _ z => bad_setY hy z) fun _ _ _ e => e
  have old : ∀ {j : Nat} {z : D}, (ρ.set i (some y))[j]? = some (some z) → (i = j ∧ z = y ∧ i < ρ.length) ∨ (i ≠ j ∧ ρ[j]? = some (some z)) := fun {j z} e => by
    by_cases ij : i = j
    · subst ij
      have hl : i < ρ.length := by
        rw [List.getElem?_set] at e
        simp only [if_true] at e
        split at e
        · assumption
        · cases e
      rw [List.getElem?_set_self hl] at e
      cases e
      exact .inl ⟨rfl, rfl, hl⟩
    · rw [List.getElem?_set_ne ij] at e
      exact .inr ⟨ij, e⟩
  refine ⟨by rw [List.length_set, List.length_set]; exact R.len, fun j z e => ?_, fun a b q ds es h1 h2 h3 h4 => ?_, R.tp, R.ext, R.s1, R.s2, R.s0, R.f0, R.s00, fun q hq => PinD.mono s (R.pin q hq), R.tin, R.s3, R.tab, ?_, fun b hb => ?_⟩
  · rcases old e with ⟨rfl, rfl, hl⟩ | ⟨ij, e⟩
    · exact ⟨v, by rw [List.getElem?_set_self (by rw [← R.len]; exact hl)], h⟩
    · obtain ⟨w, h1, h2⟩ := R.val j z e
      exact ⟨w, by rw [List.getElem?_set_ne ij]; exact h1, h2.mono rfl (fun _ a b => .inl ⟨a, b⟩) s (fun _ _ _ _ _ e => e) fun _ _ _ e => e⟩
  · rcases old h1 with ⟨rfl, z, _⟩ | ⟨n1, h1⟩
    · exact (hy _ z.symm).elim
    rcases old h2 with ⟨rfl, z, _⟩ | ⟨n2, h2⟩
    · exact (hy _ z.symm).elim
    rw [List.getElem?_set_ne n1] at h3
    rw [List.getElem?_set_ne n2] at h4
    exact R.dis a b q ds es h1 h2 h3 h4
  · obtain ⟨φ, T⟩ := R.tre
    have ob : ∀ {j : Nat} {p : Addr} {m : M}, (ρ.set i (some y))[j]? = some (some (D.bor p m)) → ρ[j]? = some (some (D.bor p m)) := fun {j p m} e => by
      rcases old e with ⟨rfl, z, _⟩ | ⟨n1, e⟩
      · exact (hbo _ _ z.symm).elim
      · exact e
    refine ⟨φ, fun j m e => ?_, fun a b m n c h1 h2 => ?_, fun j p m e => ⟨(T.bor j p m (ob e)).1.mono s fun _ _ _ e => e, (T.bor j p m (ob e)).2⟩, fun a p m b n h1 h2 => ?_, fun a p m b n h1 h2 => T.bb a p m b n (ob h1) (ob h2)⟩
    · rcases old e with ⟨rfl, z, _⟩ | ⟨n1, e⟩
      · exact (ht _ z.symm).elim
      · obtain ⟨w, h1, h2, h3⟩ := T.rel j m e
        exact ⟨w, by rw [List.getElem?_set_ne n1]; exact h1, h2.mono s fun _ _ _ e => e, h3⟩
    · rcases old h1 with ⟨rfl, z, _⟩ | ⟨n1, h1⟩
      · exact (ht _ z.symm).elim
      rcases old h2 with ⟨rfl, z, _⟩ | ⟨n2, h2⟩
      · exact (ht _ z.symm).elim
      exact T.dis a b m n c h1 h2
    · rcases old h2 with ⟨rfl, z, _⟩ | ⟨n2, h2⟩
      · exact (ht _ z.symm).elim
      exact T.db a p m b n (ob h1) h2
  · obtain ⟨h1, h2, h3, h4⟩ := R.g0 b hb
    exact ⟨h1, h2, h3, fun z => h4 (ownAt_set hy z)⟩
theorem Rep.setP (R : Rep K C ρ σ H) (i : Nat) {d : PyData} (h : Dt (wo (bad C ρ σ) H) v d) : Rep K C (ρ.set i (some (.p d))) (σ.set i (some v)) H :=
  R.setY i (fun _ z => by cases z) (fun _ z => by cases z) (fun _ _ z => by cases z) (Dt.mono (wo_mono (fun _ z => bad_set z) fun _ _ _ e => e) h)
theorem ownAt_new {i : Nat} {ds : List PyData} {p b : Addr} (h : ownAt (ρ.set i (some (.own ds))) (σ.set i (some (.ref p))) b) : ownAt ρ σ b ∨ b = p := by
  obtain ⟨j, es, h1, h2⟩ := h
  by_cases e : i = j
  · subst e
    rw [List.getElem?_set] at h2
    simp only [if_true] at h2
    split at h2
    · cases h2; exact .inr rfl
    · cases h2
  · rw [List.getElem?_set_ne e] at h1 h2
    exact .inl ⟨j, es, h1, h2⟩
/-- a slot takes a new list -/
theorem Rep.setN (R : Rep K C ρ σ H) (R1 : Rep K C ρ σ H1) (k : Kq C.t H H1) (i : Nat) {p : Addr} {vs : List V} {ds : List PyData} (hp : H p = none) (hp1 : H1 p = some (.lst vs)) (h : DtAll (wo (fun b => bad C ρ σ b ∨ b = p) H1) vs ds) (hz : ds.length ≤ sizeLine) :
    Rep K C (ρ.set i (some (.own ds))) (σ.set i (some (.ref p))) H1 := by
  have bn : ∀ b, bad C (ρ.set i (some (.own ds))) (σ.set i (some (.ref p))) b → bad C ρ σ b ∨ b = p := fun b z => by
    rcases z with z | z | z | z
    · exact .inl (.inl z)
    · exact .inl (.inr (.inl z))
    · rcases ownAt_new z with z | z
      · exact .inl (.inr (.inr (.inl z)))
      · exact .inr z
    · exact .inl (.inr (.inr (.inr z)))
  have s : Same (wo (bad C ρ σ) H) (wo (bad C (ρ.set i (some (.own ds))) (σ.set i (some (.ref p)))) H1) := fun a o e => by
    obtain ⟨e1, e2⟩ := wo_of e
    refine wo_mk (fun z => ?_) (k a o (R.nxb e1) e2)
    rcases bn a z with z | z
    · exact e1 z
    · rw [z, hp] at e2; cases e2
  have h0 : C.H0 p = none := by
    cases q : C.H0 p with
    | none => rfl
    | some o =>
      have := R.ext p o (R.t1 hp) q
      rw [hp] at this; cases this
  have ng : ¬ C.G p := fun z => by
    obtain ⟨⟨o, e⟩, _⟩ := R.g0 p z
    rw [hp] at e; cases e
  refine ⟨by rw [List.length_set, List.length_set]; exact R.len, fun j y e => ?_, fun a b q es fs h1 h2 h3 h4 => ?_, R1.tp, R1.ext, R1.s1, R1.s2, R1.s0, R1.f0, R1.s00, fun q hq => PinD.mono s (R.pin q hq), R1.tin, R1.s3, R1.tab, ?_, fun b hb => ?_⟩
  · by_cases ij : i = j
    · subst ij
      have hl : i < ρ.length := by
        rw [List.getElem?_set] at e
        simp only [if_true] at e
        split at e
        · assumption
        · cases e
      rw [List.getElem?_set_self hl] at e
      cases e
      refine ⟨.ref p, by rw [List.getElem?_set_self (by rw [← R.len]; exact hl)], p, vs, rfl, hp1, DtAll.mono (wo_mono bn fun _ _ _ e => e) h, ⟨h0, fun z => ?_⟩, hz⟩
      obtain ⟨xs, e⟩ := R.f0 p z
      rw [hp] at e; cases e
    · rw [List.getElem?_set_ne ij] at e
      obtain ⟨w, h1, h2⟩ := R.val j y e
      refine ⟨w, by rw [List.getElem?_set_ne ij]; exact h1, h2.mono rfl (fun _ a b => .inl ⟨a, b⟩) s (fun q us es e1 e2 e3 => ?_) fun c q n e => k c _ n e⟩
      subst e1 e2
      obtain ⟨_, _, e4, _, _, h5, _⟩ := h2
      cases e4
      exact k q _ (R.ownX h5.1).1 e3
  · by_cases ia : i = a
    · by_cases ib : i = b
      · rw [← ia, ← ib]
      · exfalso
        subst ia
        rw [List.getElem?_set] at h3
        simp only [if_true] at h3
        split at h3
        · cases h3
          rw [List.getElem?_set_ne ib] at h2 h4
          obtain ⟨w, e1, q, us, e2, e3, _⟩ := R.val b _ h2
          rw [h4] at e1; cases e1; cases e2
          rw [hp] at e3; cases e3
        · cases h3
    · by_cases ib : i = b
      · exfalso
        subst ib
        rw [List.getElem?_set] at h4
        simp only [if_true] at h4
        split at h4
        · cases h4
          rw [List.getElem?_set_ne ia] at h1 h3
          obtain ⟨w, e1, q, us, e2, e3, _⟩ := R.val a _ h1
          rw [h3] at e1; cases e1; cases e2
          rw [hp] at e3; cases e3
        · cases h4
      · rw [List.getElem?_set_ne ia] at h1 h3
        rw [List.getElem?_set_ne ib] at h2 h4
        exact R.dis a b q es fs h1 h2 h3 h4
  · obtain ⟨φ, T⟩ := R.tre
    have old : ∀ {j : Nat} {m : M}, (ρ.set i (some (.own ds)))[j]? = some (some (.ot m)) → i ≠ j ∧ ρ[j]? = some (some (.ot m)) := fun {j m} e => by
      by_cases ij : i = j
      · subst ij
        rw [List.getElem?_set] at e
        simp only [if_true] at e
        split at e <;> cases e
      · rw [List.getElem?_set_ne ij] at e
        exact ⟨ij, e⟩
    have ob : ∀ {j : Nat} {p : Addr} {m : M}, (ρ.set i (some (.own ds)))[j]? = some (some (D.bor p m)) → ρ[j]? = some (some (D.bor p m)) := fun {j p m} e => by
      by_cases ij : i = j
      · subst ij
        rw [List.getElem?_set] at e
        simp only [if_true] at e
        split at e <;> cases e
      · rw [List.getElem?_set_ne ij] at e
        exact e
    refine ⟨φ, fun j m e => ?_, fun a b m n c h1 h2 => T.dis a b m n c (old h1).2 (old h2).2, fun j p m e => ?_, fun a p m b n h1 h2 => T.db a p m b n (ob h1) (old h2).2, fun a p m b n h1 h2 => T.bb a p m b n (ob h1) (ob h2)⟩
    · obtain ⟨n1, e⟩ := old e
      obtain ⟨w, h1, h2, h3⟩ := T.rel j m e
      exact ⟨w, by rw [List.getElem?_set_ne n1]; exact h1, h2.mono s fun b hb o e => k b o (R.ownX (R.g0 b (h3 b hb)).2.1).1 e, h3⟩
    · obtain ⟨h2, h3⟩ := T.bor j p m (ob e)
      exact ⟨h2.mono s fun b hb o e => k b o (R.ownX (R.g0 b (by rw [List.mem_singleton.mp hb]; exact h3)).2.1).1 e, h3⟩
  · obtain ⟨h1, h2, h3, h4⟩ := R1.g0 b hb
    exact ⟨h1, h2, h3, fun z => (ownAt_new z).elim h4 fun e => ng (e ▸ hb)⟩
/-- an own list is changed -/
theorem Rep.put (R : Rep K C ρ σ H) {i : Nat} {p : Addr} {ds es : List PyData} {vs us : List V} (h1 : ρ[i]? = some (some (.own ds))) (h2 : σ[i]? = some (some (.ref p))) (hp : H p = some (.lst us)) (h : DtAll (wo (bad C ρ σ) H) vs es) (hz : es.length ≤ sizeLine) :
    Rep K C (ρ.set i (some (.own es))) σ (upd H p (.lst vs)) := by
  have ho : ∀ b, ownAt (ρ.set i (some (.own es))) σ b ↔ ownAt ρ σ b := fun b => by
    constructor
    · rintro ⟨j, fs, e1, e2⟩
      by_cases ij : i = j
      · subst ij; exact ⟨i, ds, h1, e2⟩
      · rw [List.getElem?_set_ne ij] at e1; exact ⟨j, fs, e1, e2⟩
    · rintro ⟨j, fs, e1, e2⟩
      by_cases ij : i = j
      · subst ij; exact ⟨i, es, by rw [List.getElem?_set_self (List.getElem?_eq_some_iff.mp h1).1], e2⟩
      · exact ⟨j, fs, by rw [List.getElem?_set_ne ij]; exact e1, e2⟩
  have hb : ∀ b, bad C (ρ.set i (some (.own es))) σ b ↔ bad C ρ σ b := fun b => by
    unfold bad
    rw [ho]
  have pw : ownAt ρ σ p := ⟨i, ds, h1, h2⟩
  have pb : bad C ρ σ p := .inr (.inr (.inl pw))
  obtain ⟨w, e1, q, us', e2, e3, e4, e5, e6⟩ := R.val i _ h1
  rw [h2] at e1; cases e1; cases e2
  have s : Same (wo (bad C ρ σ) H) (wo (bad C (ρ.set i (some (.own es))) σ) (upd H p (.lst vs))) := fun a o e => by
    obtain ⟨f1, f2⟩ := wo_of e
    exact wo_mk (fun z => f1 ((hb a).mp z)) (by rw [upd_ne (fun (z : a = p) => f1 (by rw [z]; exact pb))]; exact f2)
  have nt := R.ownX e5.1
  have gp : ∀ b, C.G b → b ≠ p := fun b hb z => (R.g0 b hb).2.2.2 (z ▸ pw)
  have se : ∀ b o, H b = some o → ∃ o', upd H p (.lst vs) b = some o' := fun b o e => by
    by_cases z : b = p
    · exact ⟨_, by rw [z]; exact upd_same⟩
    · exact ⟨o, by rw [upd_ne z]; exact e⟩
  have ot : ∀ {j : Nat} {m : M}, (ρ.set i (some (.own es)))[j]? = some (some (.ot m)) → ρ[j]? = some (some (.ot m)) := fun {j m} e => by
    by_cases ij : i = j
    · subst ij
      rw [List.getElem?_set_self (List.getElem?_eq_some_iff.mp h1).1] at e; cases e
    · rw [List.getElem?_set_ne ij] at e; exact e
  refine ⟨by rw [List.length_set]; exact R.len, fun j y e => ?_, fun a b q gs fs f1 f2 f3 f4 => ?_, R.tp.put nt.1.1 nt.2, fun b o n e => ?_, R.s1, R.s2, fun b hb' => ?_, fun b hb' => ?_, R.s00, fun q hq => PinD.mono s (R.pin q hq), fun q hq => (R.tin q hq).kt fun o e => by rw [upd_ne (fun z => by rw [z, hp] at e; cases e)]; exact e,
    R.s3, R.tab.put nt.1.2 (fun c q => by rw [hp]; exact fun z => lst_code (Option.some.inj z)), ?_, fun b hb' => ?_⟩
  · by_cases ij : i = j
    · subst ij
      rw [List.getElem?_set_self (List.getElem?_eq_some_iff.mp h1).1] at e
      cases e
      exact ⟨.ref p, h2, p, vs, rfl, upd_same, DtAll.mono s h, e5, hz⟩
    · rw [List.getElem?_set_ne ij] at e
      obtain ⟨w, g1, g2⟩ := R.val j y e
      refine ⟨w, g1, g2.mono rfl (fun _ a b => .inl ⟨a, b⟩) s (fun q us es' f1 f2 f3 => ?_) fun c q n e => by rw [upd_ne (fun z => by rw [z, hp] at e; exact lst_code (Option.some.inj e))]; exact e⟩
      subst f1 f2
      rw [upd_ne (fun z => ij ?_)]
      · exact f3
      · subst z
        exact R.dis i j q ds es' h1 e h2 g1
  · have old : ∀ {j : Nat} {gs : List PyData}, (ρ.set i (some (.own es)))[j]? = some (some (.own gs)) → ∃ gs', ρ[j]? = some (some (.own gs')) := fun {j gs} f => by
      by_cases ij : i = j
      · subst ij; exact ⟨ds, h1⟩
      · rw [List.getElem?_set_ne ij] at f; exact ⟨gs, f⟩
    obtain ⟨_, g1⟩ := old f1
    obtain ⟨_, g2⟩ := old f2
    exact R.dis a b q _ _ g1 g2 f3 f4
  · rw [upd_ne (fun z => by rw [z, e5.1] at e; cases e)]
    exact R.ext b o n e
  · obtain ⟨o, e⟩ := R.s0 b hb'
    exact se b o e
  · obtain ⟨o, e⟩ := R.f0 b hb'
    exact se b o e
  · obtain ⟨φ, T⟩ := R.tre
    have ob : ∀ {j : Nat} {p : Addr} {m : M}, (ρ.set i (some (.own es)))[j]? = some (some (D.bor p m)) → ρ[j]? = some (some (D.bor p m)) := fun {j p m} e => by
      by_cases ij : i = j
      · subst ij
        rw [List.getElem?_set] at e
        simp only [if_true] at e
        split at e <;> cases e
      · rw [List.getElem?_set_ne ij] at e
        exact e
    refine ⟨φ, fun j m e => ?_, fun a b m n c f1 f2 => T.dis a b m n c (ot f1) (ot f2), fun j q m e => ?_, fun a p m b n h1 h2 => T.db a p m b n (ob h1) (ot h2), fun a p m b n h1 h2 => T.bb a p m b n (ob h1) (ob h2)⟩
    · obtain ⟨w, g1, g2, g3⟩ := T.rel j m (ot e)
      exact ⟨w, g1, g2.mono s fun b hb' o e => by rw [upd_ne (gp b (g3 b hb'))]; exact e, g3⟩
    · obtain ⟨g2, g3⟩ := T.bor j q m (ob e)
      exact ⟨g2.mono s fun b hb' o e => by rw [List.mem_singleton.mp hb'] at e ⊢; rw [upd_ne (gp q g3)]; exact e, g3⟩
  · obtain ⟨⟨o, e⟩, g2, g3, g4⟩ := R.g0 b hb'
    exact ⟨se b o e, g2, g3, fun z => g4 ((ho b).mp z)⟩
/-- an own list is given away -/
theorem Rep.frz (R : Rep K C ρ σ H) {i : Nat} {ds : List PyData} (h1 : ρ[i]? = some (some (.own ds))) : Rep K C (ρ.set i (some (.p (.list ds)))) σ H := by
  obtain ⟨w, h2, p, us, rfl, e3, e4, e5, e6⟩ := R.val i _ h1
  have hs : σ.set i (some (.ref p)) = σ := by
    apply List.ext_getElem?
    intro j
    by_cases ij : i = j
    · subst ij
      rw [List.getElem?_set_self (List.getElem?_eq_some_iff.mp h2).1, h2]
    · rw [List.getElem?_set_ne ij]
  have pw : ownAt ρ σ p := ⟨i, ds, h1, h2⟩
  have hb : ∀ b, bad C (ρ.set i (some (.p (.list ds)))) σ b → bad C ρ σ b := fun b z => bad_set (v := .ref p) (by rw [hs]; exact z)
  have np : ¬ bad C (ρ.set i (some (.p (.list ds)))) σ p := fun z => by
    rcases z with z | z | ⟨j, es, f1, f2⟩ | z
    · obtain ⟨o, q⟩ := R.s00 p z
      rw [e5.1] at q; cases q
    · exact e5.2 z
    · by_cases ij : i = j
      · subst ij
        rw [List.getElem?_set_self (List.getElem?_eq_some_iff.mp h1).1] at f1
        cases f1
      · rw [List.getElem?_set_ne ij] at f1
        exact ij (R.dis i j p ds es h1 f1 h2 f2)
    · exact (R.g0 p z).2.2.2 pw
  have s : Same (wo (bad C ρ σ) H) (wo (bad C (ρ.set i (some (.p (.list ds)))) σ) H) := wo_mono hb fun _ _ _ e => e
  have z := R.setY (v := .ref p) i (y := .p (.list ds)) (fun _ z => by cases z) (fun _ z => by cases z) (fun _ _ z => by cases z) (by rw [hs]; exact .lst (wo_mk np e3) (DtAll.mono s e4))
  rw [hs] at z
  exact z
/-- a slot takes new lists and dicts of one's own -/
theorem Rep.setT (R : Rep K C ρ σ H) (R1 : Rep K C ρ σ H1) (k : Kq C.t H H1) (i : Nat) {m : M} {f : List Addr} (hf : ∀ b ∈ f, H b = none) (h : RelM H1 (fun b => bad C ρ σ b ∨ b ∈ f) v m f) :
    Rep K (C.gg fun b => C.G b ∨ b ∈ f) (ρ.set i (some (.ot m))) (σ.set i (some v)) H1 := by
  have hy : ∀ ds, D.ot m ≠ .own ds := fun _ z => by cases z
  have bn : ∀ b, bad (C.gg fun b => C.G b ∨ b ∈ f) (ρ.set i (some (.ot m))) (σ.set i (some v)) b → bad C ρ σ b ∨ b ∈ f := fun b z => by
    rcases z with z | z | z | z | z
    · exact .inl (.inl z)
    · exact .inl (.inr (.inl z))
    · exact .inl (.inr (.inr (.inl (ownAt_set hy z))))
    · exact .inl (.inr (.inr (.inr z)))
    · exact .inr z
  have h0 : ∀ p ∈ f, C.H0 p = none := fun p hp => by
    cases q : C.H0 p with
    | none => rfl
    | some o =>
      have := R.ext p o (R.t1 (hf p hp)) q
      rw [hf p hp] at this; cases this
  have s : Same (wo (bad C ρ σ) H) (wo (bad (C.gg fun b => C.G b ∨ b ∈ f) (ρ.set i (some (.ot m))) (σ.set i (some v))) H1) := fun a o e => by
    obtain ⟨e1, e2⟩ := wo_of e
    refine wo_mk (fun z => ?_) (k a o (R.nxb e1) e2)
    rcases bn a z with z | z
    · exact e1 z
    · rw [hf a z] at e2; cases e2
  have s1 : Same (wo (fun b => bad C ρ σ b ∨ b ∈ f) H1) (wo (bad (C.gg fun b => C.G b ∨ b ∈ f) (ρ.set i (some (.ot m))) (σ.set i (some v))) H1) := wo_mono bn fun _ _ _ e => e
  have old : ∀ {j : Nat} {z : D}, (ρ.set i (some (.ot m)))[j]? = some (some z) → (i = j ∧ z = .ot m ∧ i < ρ.length) ∨ (i ≠ j ∧ ρ[j]? = some (some z)) := fun {j z} e => by
    by_cases ij : i = j
    · subst ij
      have hl : i < ρ.length := by
        rw [List.getElem?_set] at e
        simp only [if_true] at e
        split at e
        · assumption
        · cases e
      rw [List.getElem?_set_self hl] at e
      cases e
      exact .inl ⟨rfl, rfl, hl⟩
    · rw [List.getElem?_set_ne ij] at e
      exact .inr ⟨ij, e⟩
  refine ⟨by rw [List.length_set, List.length_set]; exact R.len, fun j y e => ?_, fun a b q ds es h1 h2 h3 h4 => ?_, R1.tp, R1.ext, R1.s1, R1.s2, R1.s0, R1.f0, R1.s00, fun q hq => PinD.mono s (R.pin q hq), R1.tin, R1.s3, R1.tab, ?_, fun b hb => ?_⟩
  · rcases old e with ⟨rfl, rfl, hl⟩ | ⟨ij, e⟩
    · exact ⟨v, by rw [List.getElem?_set_self (by rw [← R.len]; exact hl)], trivial⟩
    · obtain ⟨w, h1, h2⟩ := R.val j y e
      refine ⟨w, by rw [List.getElem?_set_ne ij]; exact h1, h2.mono rfl (fun _ a b => .inl ⟨a, b⟩) s (fun q us es e1 e2 e3 => ?_) fun c q n e => k c _ n e⟩
      subst e1 e2
      obtain ⟨_, _, e4, _, _, h5, _⟩ := h2
      cases e4
      exact k q _ (R.ownX h5.1).1 e3
  · rcases old h1 with ⟨rfl, z, _⟩ | ⟨n1, h1⟩
    · cases z
    rcases old h2 with ⟨rfl, z, _⟩ | ⟨n2, h2⟩
    · cases z
    rw [List.getElem?_set_ne n1] at h3
    rw [List.getElem?_set_ne n2] at h4
    exact R.dis a b q ds es h1 h2 h3 h4
  · obtain ⟨φ, T⟩ := R.tre
    have gf : ∀ b, C.G b → b ∉ f := fun b hb z => by
      obtain ⟨⟨o, e⟩, _⟩ := R.g0 b hb
      rw [hf b z] at e; cases e
    have ob : ∀ {j : Nat} {p : Addr} {n : M}, (ρ.set i (some (.ot m)))[j]? = some (some (D.bor p n)) → ρ[j]? = some (some (D.bor p n)) := fun {j p n} e => by
      rcases old e with ⟨_, z, _⟩ | ⟨_, e⟩
      · cases z
      · exact e
    refine ⟨fun j => if j = i then f else φ j, fun j n e => ?_, fun a b n1 n2 c h1 h2 ne hc => ?_, fun j p n e => ?_, fun a p n b n2 h1 h2 hc => ?_, fun a p m b n h1 h2 => T.bb a p m b n (ob h1) (ob h2)⟩
    rotate_left 2
    · obtain ⟨g2, g3⟩ := T.bor j p n (ob e)
      exact ⟨g2.mono s fun b hb o e => k b o (R.ownX (R.g0 b (by rw [List.mem_singleton.mp hb]; exact g3)).2.1).1 e, .inl g3⟩
    · have g3 := (T.bor a p n (ob h1)).2
      by_cases z : b = i
      · rw [if_pos z] at hc
        exact gf p g3 hc
      · rw [if_neg z] at hc
        rcases old h2 with ⟨y, _⟩ | ⟨_, h2⟩
        · exact z y.symm
        · exact T.db a p n b n2 (ob h1) h2 hc
    · rcases old e with ⟨rfl, z, hl⟩ | ⟨ij, e⟩
      · cases z
        exact ⟨v, by rw [List.getElem?_set_self (by rw [← R.len]; exact hl)], by rw [if_pos rfl]; exact h.mono s1 fun _ _ _ e => e, fun b hb => .inr (by rw [if_pos rfl] at hb; exact hb)⟩
      · obtain ⟨w, h1, h2, h3⟩ := T.rel j n e
        rw [if_neg (fun z => ij z.symm)]
        exact ⟨w, by rw [List.getElem?_set_ne ij]; exact h1, h2.mono s fun b hb o e => k b o (R.ownX (R.g0 b (h3 b hb)).2.1).1 e, fun b hb => .inl (h3 b hb)⟩
    · have cl : ∀ {a : Nat} {n : M}, (ρ.set i (some (.ot m)))[a]? = some (some (.ot n)) → ∀ c, c ∈ (if a = i then f else φ a) → (a = i ∧ c ∈ f) ∨ (a ≠ i ∧ ρ[a]? = some (some (.ot n)) ∧ c ∈ φ a ∧ C.G c) := fun {a n} h c hc => by
        by_cases z : a = i
        · rw [if_pos z] at hc; exact .inl ⟨z, hc⟩
        · rw [if_neg z] at hc
          rcases old h with ⟨y, _⟩ | ⟨_, h⟩
          · exact (z y.symm).elim
          · obtain ⟨w, _, _, h3⟩ := T.rel a n h
            exact .inr ⟨z, h, hc, h3 c hc⟩
      intro hd
      rcases cl h1 c hc with ⟨x1, x2⟩ | ⟨x1, x2, x3, x4⟩
      · rcases cl h2 c hd with ⟨y1, y2⟩ | ⟨y1, y2, y3, y4⟩
        · exact ne (x1.trans y1.symm)
        · exact gf c y4 x2
      · rcases cl h2 c hd with ⟨y1, y2⟩ | ⟨y1, y2, y3, y4⟩
        · exact gf c x4 y2
        · exact T.dis a b n1 n2 c x2 y2 ne x3 y3
  · rcases hb with hb | hb
    · obtain ⟨h1, h2, h3, h4⟩ := R1.g0 b hb
      exact ⟨h1, h2, h3, fun z => h4 (ownAt_set hy z)⟩
    · refine ⟨h.some b hb, h0 b hb, fun z => ?_, fun z => ?_⟩
      · obtain ⟨o, e⟩ := R.f0 b z
        rw [hf b hb] at e; cases e
      · obtain ⟨o, e⟩ := R.badL (.inr (.inr (.inl (ownAt_set hy z))))
        rw [hf b hb] at e; cases e
/-- lists and dicts of one's own are given away -/
theorem Rep.frzT (R : Rep K C ρ σ H) {i : Nat} {m : M} (h1 : ρ[i]? = some (some (.ot m))) : ∃ G, Rep K (C.gg G) (ρ.set i (some (.p m.dat))) σ H := by
  obtain ⟨φ, T⟩ := R.tre
  obtain ⟨w, h2, h3, h4⟩ := T.rel i m h1
  have hs : σ.set i (some w) = σ := by
    apply List.ext_getElem?
    intro j
    by_cases ij : i = j
    · subst ij
      rw [List.getElem?_set_self (List.getElem?_eq_some_iff.mp h2).1, h2]
    · rw [List.getElem?_set_ne ij]
  have hl := (List.getElem?_eq_some_iff.mp h1).1
  refine ⟨fun b => C.G b ∧ b ∉ φ i, ?_⟩
  have hy : ∀ ds, D.p m.dat ≠ .own ds := fun _ z => by cases z
  have ow : ∀ b, ownAt (ρ.set i (some (.p m.dat))) σ b → ownAt ρ σ b := fun b z => ownAt_set (v := w) hy (by rw [hs]; exact z)
  have hb : ∀ b, bad (C.gg fun b => C.G b ∧ b ∉ φ i) (ρ.set i (some (.p m.dat))) σ b → bad C ρ σ b := fun b z => by
    rcases z with z | z | z | z
    · exact .inl z
    · exact .inr (.inl z)
    · exact .inr (.inr (.inl (ow b z)))
    · exact .inr (.inr (.inr z.1))
  have np : ∀ b ∈ φ i, ¬ bad (C.gg fun b => C.G b ∧ b ∉ φ i) (ρ.set i (some (.p m.dat))) σ b := fun b hbi z => by
    obtain ⟨g1, g2, g3, g4⟩ := R.g0 b (h4 b hbi)
    rcases z with z | z | z | z
    · obtain ⟨o, q⟩ := R.s00 b z
      rw [g2] at q; cases q
    · exact g3 z
    · exact g4 (ow b z)
    · exact z.2 hbi
  have s : Same (wo (bad C ρ σ) H) (wo (bad (C.gg fun b => C.G b ∧ b ∉ φ i) (ρ.set i (some (.p m.dat))) σ) H) := wo_mono hb fun _ _ _ e => e
  have old : ∀ {j : Nat} {z : D}, (ρ.set i (some (.p m.dat)))[j]? = some (some z) → (i = j ∧ z = .p m.dat) ∨ (i ≠ j ∧ ρ[j]? = some (some z)) := fun {j z} e => by
    by_cases ij : i = j
    · subst ij
      rw [List.getElem?_set_self hl] at e
      cases e
      exact .inl ⟨rfl, rfl⟩
    · rw [List.getElem?_set_ne ij] at e
      exact .inr ⟨ij, e⟩
  have ob : ∀ {j : Nat} {p : Addr} {n : M}, (ρ.set i (some (.p m.dat)))[j]? = some (some (D.bor p n)) → ρ[j]? = some (some (D.bor p n)) := fun {j p n} e => by
    rcases old e with ⟨_, z⟩ | ⟨_, e⟩
    · cases z
    · exact e
  refine ⟨by rw [List.length_set]; exact R.len, fun j y e => ?_, fun a b q gs fs f1 f2 f3 f4 => ?_, R.tp, R.ext, R.s1, R.s2, R.s0, R.f0, R.s00, fun q hq => PinD.mono s (R.pin q hq), R.tin, R.s3, R.tab, ⟨φ, fun j n e => ?_, fun a b n1 n2 c f1 f2 => ?_, fun j q n e => ?_, fun a q n b n2 f1 f2 => ?_, fun a q n b n2 f1 f2 => T.bb a q n b n2 (ob f1) (ob f2)⟩, fun b hb' => ?_⟩
  · rcases old e with ⟨rfl, rfl⟩ | ⟨ij, e⟩
    · exact ⟨w, h2, h3.dt hb np⟩
    · obtain ⟨w, g1, g2⟩ := R.val j y e
      exact ⟨w, g1, g2.mono rfl (fun _ a b => .inl ⟨a, b⟩) s (fun _ _ _ _ _ e => e) fun _ _ _ e => e⟩
  · rcases old f1 with ⟨_, z⟩ | ⟨_, f1⟩
    · cases z
    rcases old f2 with ⟨_, z⟩ | ⟨_, f2⟩
    · cases z
    exact R.dis a b q gs fs f1 f2 f3 f4
  · rcases old e with ⟨_, z⟩ | ⟨ij, e⟩
    · cases z
    obtain ⟨u, g1, g2, g3⟩ := T.rel j n e
    exact ⟨u, g1, g2.mono s fun _ _ _ e => e, fun b hb => ⟨g3 b hb, fun z => T.dis i j m n b h1 e ij z hb⟩⟩
  · rcases old f1 with ⟨_, z⟩ | ⟨_, f1⟩
    · cases z
    rcases old f2 with ⟨_, z⟩ | ⟨_, f2⟩
    · cases z
    exact T.dis a b n1 n2 c f1 f2
  · obtain ⟨g2, g3⟩ := T.bor j q n (ob e)
    exact ⟨g2.mono s fun _ _ _ e => e, g3, T.db j q n i m (ob e) h1⟩
  · rcases old f2 with ⟨_, z⟩ | ⟨_, f2⟩
    · cases z
    exact T.db a q n b n2 (ob f1) f2
  · obtain ⟨g1, g2, g3, g4⟩ := R.g0 b hb'.1
    exact ⟨g1, g2, g3, fun z => g4 (ow b z)⟩
/-- lists and dicts of one's own are changed: what is written stands among them -/
theorem Rep.putT0 (R : Rep K C ρ σ H) {φ : Nat → List Addr} (T : Trees C ρ σ H φ) {i : Nat} {m n : M} {o : HO} {p : Addr} (h1 : ρ[i]? = some (some (.ot m))) (h2 : σ[i]? = some (some v)) (hc : ∀ c q, H p ≠ some (LamX.CodeO c q)) (hf : ∀ u xs, H p ≠ some (.frz u (.tup xs)))
    (pf : p ∈ φ i) (g4 : RelM (upd H p o) (bad C ρ σ) v n (φ i)) : Rep K C (ρ.set i (some (.ot n))) σ (upd H p o) := by
  obtain ⟨w', g1, g2, g3⟩ := T.rel i m h1
  rw [h2] at g1; cases g1
  have pg := g3 p pf
  obtain ⟨⟨o0, hp⟩, p0, pF, pO⟩ := R.g0 p pg
  have hl := (List.getElem?_eq_some_iff.mp h1).1
  have ho : ∀ b, ownAt (ρ.set i (some (.ot n))) σ b ↔ ownAt ρ σ b := fun b => by
    constructor
    · rintro ⟨j, fs, e1, e2⟩
      by_cases ij : i = j
      · subst ij; rw [List.getElem?_set_self hl] at e1; cases e1
      · rw [List.getElem?_set_ne ij] at e1; exact ⟨j, fs, e1, e2⟩
    · rintro ⟨j, fs, e1, e2⟩
      by_cases ij : i = j
      · subst ij; rw [h1] at e1; cases e1
      · exact ⟨j, fs, by rw [List.getElem?_set_ne ij]; exact e1, e2⟩
  have hb : ∀ b, bad C (ρ.set i (some (.ot n))) σ b ↔ bad C ρ σ b := fun b => by
    unfold bad
    rw [ho]
  have pb : bad C ρ σ p := .inr (.inr (.inr pg))
  have s : Same (wo (bad C ρ σ) H) (wo (bad C (ρ.set i (some (.ot n))) σ) (upd H p o)) := fun a u e => by
    obtain ⟨f1, f2⟩ := wo_of e
    exact wo_mk (fun z => f1 ((hb a).mp z)) (by rw [upd_ne (fun (z : a = p) => f1 (by rw [z]; exact pb))]; exact f2)
  have nt := R.ownX p0
  have se : ∀ b u, H b = some u → ∃ o', upd H p o b = some o' := fun b u e => by
    by_cases z : b = p
    · exact ⟨_, by rw [z]; exact upd_same⟩
    · exact ⟨u, by rw [upd_ne z]; exact e⟩
  have old : ∀ {j : Nat} {z : D}, (ρ.set i (some (.ot n)))[j]? = some (some z) → (i = j ∧ z = .ot n) ∨ (i ≠ j ∧ ρ[j]? = some (some z)) := fun {j z} e => by
    by_cases ij : i = j
    · subst ij
      rw [List.getElem?_set_self hl] at e
      cases e
      exact .inl ⟨rfl, rfl⟩
    · rw [List.getElem?_set_ne ij] at e
      exact .inr ⟨ij, e⟩
  have ob : ∀ {j : Nat} {p : Addr} {k : M}, (ρ.set i (some (.ot n)))[j]? = some (some (D.bor p k)) → ρ[j]? = some (some (D.bor p k)) := fun {j p k} e => by
    rcases old e with ⟨_, z⟩ | ⟨_, e⟩
    · cases z
    · exact e
  refine ⟨by rw [List.length_set]; exact R.len, fun j y e => ?_, fun a b q gs fs f1 f2 f3 f4 => ?_, R.tp.put nt.1.1 nt.2, fun b u n e => ?_, R.s1, R.s2, fun b hb' => ?_, fun b hb' => ?_, R.s00, fun q hq => PinD.mono s (R.pin q hq), fun q hq => (R.tin q hq).kt fun o e => by rw [upd_ne (fun z => hf _ _ (by rw [← z]; exact e))]; exact e,
    R.s3, R.tab.put nt.1.2 hc, ⟨φ, fun j k e => ?_, fun a b n1 n2 c f1 f2 => ?_, fun j q k e => ?_, fun a q k b n2 f1 f2 => ?_, fun a q k b n2 f1 f2 => T.bb a q k b n2 (ob f1) (ob f2)⟩, fun b hb' => ?_⟩
  · rcases old e with ⟨rfl, rfl⟩ | ⟨ij, e⟩
    · exact ⟨v, h2, trivial⟩
    · obtain ⟨w, g1, g2⟩ := R.val j y e
      refine ⟨w, g1, g2.mono rfl (fun _ a b => .inl ⟨a, b⟩) s (fun q us es' f1 f2 f3 => ?_) fun c q n e => by rw [upd_ne (fun z => hc c q (by rw [← z]; exact e))]; exact e⟩
      subst f1 f2
      rw [upd_ne (fun z => pO (by subst z; exact ⟨j, es', e, g1⟩))]
      exact f3
  · rcases old f1 with ⟨_, z⟩ | ⟨_, f1⟩
    · cases z
    rcases old f2 with ⟨_, z⟩ | ⟨_, f2⟩
    · cases z
    exact R.dis a b q gs fs f1 f2 f3 f4
  · rw [upd_ne (fun z => by rw [z, p0] at e; cases e)]
    exact R.ext b u n e
  · obtain ⟨o, e⟩ := R.s0 b hb'
    exact se b o e
  · obtain ⟨o, e⟩ := R.f0 b hb'
    exact se b o e
  · rcases old e with ⟨rfl, z⟩ | ⟨ij, e⟩
    · cases z
      exact ⟨v, h2, g4.mono (wo_mono (fun b z => (hb b).mp z) fun _ _ _ e => e) fun _ _ _ e => e, g3⟩
    · obtain ⟨u, f1, f2, f3⟩ := T.rel j k e
      exact ⟨u, f1, f2.mono s fun b hb' o e' => by rw [upd_ne (fun z => T.dis i j m k p h1 e ij pf (by subst z; exact hb'))]; exact e', f3⟩
  · have up : ∀ {a : Nat} {k : M}, (ρ.set i (some (.ot n)))[a]? = some (some (.ot k)) → ∃ k', ρ[a]? = some (some (.ot k')) := fun {a k} f => by
      rcases old f with ⟨rfl, _⟩ | ⟨_, f⟩
      · exact ⟨m, h1⟩
      · exact ⟨k, f⟩
    obtain ⟨_, e1⟩ := up f1
    obtain ⟨_, e2⟩ := up f2
    exact T.dis a b _ _ c e1 e2
  · obtain ⟨g2, g3⟩ := T.bor j q k (ob e)
    exact ⟨g2.mono s fun b hb' o e' => by rw [List.mem_singleton.mp hb'] at e' ⊢; rw [upd_ne (fun z => T.db j q k i m (ob e) h1 (by rw [z]; exact pf))]; exact e', g3⟩
  · rcases old f2 with ⟨rfl, _⟩ | ⟨_, f2⟩
    · exact T.db a q k i m (ob f1) h1
    · exact T.db a q k b n2 (ob f1) f2
  · obtain ⟨⟨u, e⟩, g2, g3, g4⟩ := R.g0 b hb'
    exact ⟨se b u e, g2, g3, fun z => g4 ((ho b).mp z)⟩
/-- a list is being made at a new place -/
abbrev Cd.at (C : Cd) (p : Addr) : Cd := { C with F := fun b => C.F b ∨ b = p }
theorem bad_at {p b : Addr} : bad (C.at p) ρ σ b ↔ bad C ρ σ b ∨ b = p := by
  constructor
  · rintro (z | (z | z) | z | z)
    · exact .inl (.inl z)
    · exact .inl (.inr (.inl z))
    · exact .inr z
    · exact .inl (.inr (.inr (.inl z)))
    · exact .inl (.inr (.inr (.inr z)))
  · rintro ((z | z | z | z) | z)
    · exact .inl z
    · exact .inr (.inl (.inl z))
    · exact .inr (.inr (.inl z))
    · exact .inr (.inr (.inr z))
    · exact .inr (.inl (.inr z))
theorem Rep.open (R : Rep K C ρ σ H) {p : Addr} {o : HO} (hp : H p = none) : Rep K (C.at p) ρ σ (upd H p o) := by
  have s : Same (wo (bad C ρ σ) H) (wo (bad (C.at p) ρ σ) (upd H p o)) := fun a u e => by
    obtain ⟨f1, f2⟩ := wo_of e
    have n := ne_of_none f2 hp
    exact wo_mk (fun z => (bad_at.mp z).elim f1 n) (by rw [upd_ne n]; exact f2)
  have kp : ∀ b u, H b = some u → upd H p o b = some u := fun b u e => by rw [upd_ne (ne_of_none e hp)]; exact e
  refine ⟨R.len, fun j y e => ?_, R.dis, R.tp.new hp, R.ext.trans (Kq.new hp), R.s1, R.s2, fun b hb => ?_, fun b hb => ?_, R.s00, fun q hq => PinD.mono s (R.pin q hq), fun q hq => (R.tin q hq).kt fun o e => kp _ _ e, R.s3, R.tab.new hp, ?_, fun b hb => ?_⟩
  · obtain ⟨w, g1, g2⟩ := R.val j y e
    refine ⟨w, g1, ?_⟩
    cases y with
    | own ds =>
      obtain ⟨q, us, rfl, h3, h4, h5, h6⟩ := g2
      have n := ne_of_none h3 hp
      exact ⟨q, us, rfl, kp _ _ h3, DtAll.mono s h4, ⟨h5.1, fun z => z.elim h5.2 n⟩, h6⟩
    | p d => exact Dt.mono s g2
    | nw ds => exact g2
    | tape => exact g2
    | ot m => exact g2
    | nt m => exact g2
    | fv f F => exact ⟨g2.1, g2.2.mono s fun c q _ e => kp _ _ e⟩
    | bor p m => exact (show w = .ref p from g2)
  · obtain ⟨xs, e⟩ := R.s0 b hb
    exact ⟨xs, kp _ _ e⟩
  · rcases hb with hb | hb
    · obtain ⟨xs, e⟩ := R.f0 b hb
      exact ⟨xs, kp _ _ e⟩
    · exact ⟨o, by rw [hb]; exact upd_same⟩
  · obtain ⟨φ, T⟩ := R.tre
    exact ⟨φ, T.mono s (fun b o _ e => kp _ _ e) fun _ z => z⟩
  · obtain ⟨⟨u, e⟩, g2, g3, g4⟩ := R.g0 b hb
    exact ⟨⟨u, kp _ _ e⟩, g2, fun z => z.elim g3 (ne_of_none e hp), g4⟩
theorem Rep.shut {p : Addr} (R : Rep K (C.at p) ρ σ H) : Rep K C ρ σ H := by
  have s : Same (wo (bad (C.at p) ρ σ) H) (wo (bad C ρ σ) H) := wo_mono (fun _ z => bad_at.mpr (.inl z)) fun _ _ _ e => e
  refine ⟨R.len, fun j y e => ?_, R.dis, R.tp, R.ext, R.s1, R.s2, R.s0, fun b hb => R.f0 b (.inl hb), R.s00, fun q hq => PinD.mono s (R.pin q hq), R.tin, R.s3, R.tab, ?_, fun b hb => ?_⟩
  · obtain ⟨w, g1, g2⟩ := R.val j y e
    refine ⟨w, g1, ?_⟩
    cases y with
    | own ds =>
      obtain ⟨q, us, rfl, h3, h4, h5, h6⟩ := g2
      exact ⟨q, us, rfl, h3, DtAll.mono s h4, ⟨h5.1, fun z => h5.2 (.inl z)⟩, h6⟩
    | p d => exact Dt.mono s g2
    | nw ds => exact g2
    | tape => exact g2
    | ot m => exact g2
    | nt m => exact g2
    | fv f F => exact ⟨g2.1, g2.2.mono s fun _ _ _ e => e⟩
    | bor p m => exact (show w = .ref p from g2)
  · obtain ⟨φ, T⟩ := R.tre
    exact ⟨φ, T.mono s (fun b o _ e => e) fun _ z => z⟩
  · obtain ⟨g1, g2, g3, g4⟩ := R.g0 b hb
    exact ⟨g1, g2, fun z => g3 (.inl z), g4⟩
/-- what is made at the new place so far is written -/
theorem Rep.grow {p : Addr} {u o : HO} (R : Rep K (C.at p) ρ σ H) (hp : H p = some u) (hu : ∀ o t, u ≠ .frz o t) (hc : ∀ c q, H p ≠ some (LamX.CodeO c q)) (n0 : ¬ C.S0 p) (n1 : ¬ ownAt ρ σ p) (n2 : nx C.t p) (n3 : p ≠ C.t.2) (n4 : C.H0 p = none) : Rep K (C.at p) ρ σ (upd H p o) := by
  have s : Same (wo (bad (C.at p) ρ σ) H) (wo (bad (C.at p) ρ σ) (upd H p o)) := wo_mono (fun _ z => z) fun a o n e => by
    rw [upd_ne (fun z => n (bad_at.mpr (.inr z)))]; exact e
  have gp : ∀ b, C.G b → b ≠ p := fun b hb z => (R.g0 b hb).2.2.1 (.inr z)
  have ti : ∀ q ∈ C.tups, TupG (upd H p o) q.1 q.2 := fun q hq => (R.tin q hq).kt fun o e => by
    rw [upd_ne (fun z => ?_)]
    · exact e
    · rw [z, hp] at e
      exact (hu _ _ (Option.some.inj e)).elim
  refine ⟨R.len, fun j y e => ?_, R.dis, R.tp.put n2.1 n3, fun b o n e => ?_, R.s1, R.s2, fun b hb => ?_, fun b hb => ?_, R.s00, fun q hq => PinD.mono s (R.pin q hq), ti, R.s3, R.tab.put n2.2 hc, ?_, fun b hb => ?_⟩
  · obtain ⟨w, g1, g2⟩ := R.val j y e
    exact ⟨w, g1, g2.mono rfl (fun _ a b => .inl ⟨a, b⟩) s (fun q us es e1 e2 e3 => by subst e1 e2; rw [upd_ne (fun z => n1 (by subst z; exact ⟨j, es, e, g1⟩))]; exact e3) fun c q n e => by rw [upd_ne (fun z => hc c q (by rw [← z]; exact e))]; exact e⟩
  · rw [upd_ne (fun z => by rw [z, n4] at e; cases e)]
    exact R.ext b o n e
  · obtain ⟨xs, e⟩ := R.s0 b hb
    exact ⟨xs, by rw [upd_ne (fun (z : b = p) => n0 (by rw [← z]; exact hb))]; exact e⟩
  · by_cases z : b = p
    · exact ⟨o, by rw [z]; exact upd_same⟩
    · obtain ⟨xs, e⟩ := R.f0 b hb
      exact ⟨xs, by rw [upd_ne z]; exact e⟩
  · obtain ⟨φ, T⟩ := R.tre
    exact ⟨φ, T.mono s (fun b o hb e => by rw [upd_ne (gp b hb)]; exact e) fun _ z => z⟩
  · obtain ⟨⟨u, e⟩, g2, g3, g4⟩ := R.g0 b hb
    exact ⟨⟨u, by rw [upd_ne (gp b hb)]; exact e⟩, g2, g3, g4⟩
end
end My
namespace My
open PySem PySem.Spec PyProof.Rows L2
variable [TB]
structure EndsD where
  nx : Ro → Prop
  rt : D → Prop
  bk : Ro → Prop := fun _ => False
  ct : Ro → Prop := fun _ => False
abbrev TSD := EndsD → Ro → Prop
def RelR (C : Cd) (H : Hp) (v : V) : D → Prop
  | .p d => Dt (wo C.S0 H) v d
  | .nw ds => ∃ p vs, v = .ref p ∧ C.H0 p = none ∧ H p = some (.lst vs) ∧ DtAll (wo (fun b => C.S0 b ∨ b = p) H) vs ds ∧ ds.length ≤ sizeLine
  | _ => False
structure RetOk (K : PySem.W.Frag) (C : Cd) (v : V) (H : Hp) (x : D) : Prop where
  tp : Tape K H C.t
  ext : Kq C.t C.H0 H
  tab : Tbs H
  rel : RelR C H v x
structure Link (K : PySem.W.Frag) (C : Cd) (Dd : EndsD) (D : Ends) : Prop where
  nx' : ∀ G ρ σ H, Rep K (C.gg G) ρ σ H → Dd.nx ρ → D.nx σ H
  rt : ∀ v H x, RetOk K C v H x → Dd.rt x → D.rt v H
  bk' : ∀ G ρ σ H, Rep K (C.gg G) ρ σ H → Dd.bk ρ → D.bk σ H
  ct' : ∀ G ρ σ H, Rep K (C.gg G) ρ σ H → Dd.ct ρ → D.ct σ H
section
variable {K : PySem.W.Frag} {C : Cd} {Dd : EndsD} {De : Ends}
theorem Link.nx (L : Link K C Dd De) : ∀ ρ σ H, Rep K C ρ σ H → Dd.nx ρ → De.nx σ H := fun ρ σ H R q => L.nx' C.G ρ σ H R q
theorem Link.bk (L : Link K C Dd De) : ∀ ρ σ H, Rep K C ρ σ H → Dd.bk ρ → De.bk σ H := fun ρ σ H R q => L.bk' C.G ρ σ H R q
theorem Link.ct (L : Link K C Dd De) : ∀ ρ σ H, Rep K C ρ σ H → Dd.ct ρ → De.ct σ H := fun ρ σ H R q => L.ct' C.G ρ σ H R q
theorem RetOk.gg {v : V} {H : Hp} {x : D} {G : Addr → Prop} (r : RetOk K (C.gg G) v H x) : RetOk K C v H x := ⟨r.tp, r.ext, r.tab, r.rel⟩
/-- .. with other places of trees -/
theorem Link.gg (L : Link K C Dd De) (G : Addr → Prop) : Link K (C.gg G) Dd De := ⟨fun G' ρ σ H R q => L.nx' G' ρ σ H R q, fun v H x r q => L.rt v H x r.gg q, fun G' ρ σ H R q => L.bk' G' ρ σ H R q, fun G' ρ σ H R q => L.ct' G' ρ σ H R q⟩
end
def upS (K : PySem.W.Frag) (t : TSD) : TS := fun D σ H => ∃ C ρ Dd, Rep K C ρ σ H ∧ t Dd ρ ∧ Link K C Dd D
abbrev FS (X : Cx) (st : Stmt) (t : TSD) : Prop := PS X st (upS X.K t)
abbrev FSs (X : Cx) (st : List Stmt) (t : TSD) : Prop := PSs X st (upS X.K t)
section
variable {X : Cx} {st : Stmt} {sts : List Stmt} {t u : TSD}
def dNext : TSD := fun Dd ρ => Dd.nx ρ
def dSeq (t u : TSD) : TSD := fun Dd ρ => t { Dd with nx := u Dd } ρ
theorem fss_nil : FSs X [] dNext := by
  refine pss_nil.mo ?_
  rintro D σ H ⟨C, ρ, Dd, R, h, L⟩
  exact L.nx ρ σ H R h
theorem fss_cons (h1 : FS X st t) (h2 : FSs X sts u) : FSs X (st :: sts) (dSeq t u) := by
  refine (pss_cons h1 h2).mo ?_
  rintro D σ H ⟨C, ρ, Dd, R, h, L⟩
  exact ⟨C, ρ, _, R, h, fun G ρ' σ' H' R' q => ⟨C.gg G, ρ', Dd, R', q, L.gg G⟩, L.rt, L.bk', L.ct'⟩
theorem fss_one (h1 : FS X st t) : FSs X [st] t := pss_one h1
def dFz (i : Nat) (t : TSD) : TSD := fun Dd ρ => ∃ ds, ρ[i]? = some (some (.own ds)) ∧ t Dd (ρ.set i (some (.p (.list ds))))
theorem fss_fz (i : Nat) (h : FSs X sts t) : FSs X sts (dFz i t) := by
  refine PSs.mo h ?_
  rintro D σ H ⟨C, ρ, Dd, R, ⟨ds, e, h⟩, L⟩
  exact ⟨C, _, Dd, R.frz e, h, L⟩
def dPass : TSD := fun Dd ρ => Dd.nx ρ
def dBreak : TSD := fun Dd ρ => Dd.bk ρ
def dCont : TSD := fun Dd ρ => Dd.ct ρ
def dNever : TSD := fun _ _ => False
theorem fs_never : FS X st dNever := by
  refine ps_never.mo ?_
  rintro D σ H ⟨C, ρ, Dd, R, h, L⟩
  exact h
/-- names -/
def dSet (i : Nat) (te : TED) : TSD := fun Dd ρ => te ρ fun x => ∃ d, x.st = some d ∧ Dd.nx (ρ.set i (some (.p d)))
def dSetN (i : Nat) (te : TED) : TSD := fun Dd ρ => te ρ fun x => ∃ ds, x = .nw ds ∧ Dd.nx (ρ.set i (some (.own ds)))
theorem fs_setM {i : Nat} {te : TED} {t0 : TE} (h : PS X st (tAsg t0 (gName i))) (m : ∀ σ H Q, up X.K te σ H Q → t0 σ H Q) : FS X st (dSet i te) := by
  refine h.mo ?_
  rintro D σ H ⟨C, ρ, Dd, R, h, L⟩
  refine m _ _ _ ⟨C, ρ, _, R, h, ?_⟩
  rintro v H1 x R1 k e ⟨d, hs, q⟩
  exact L.nx _ _ _ (R1.setP i (R.stOf e hs)) q
theorem fs_setNM {i : Nat} {te : TED} {t0 : TE} (h : PS X st (tAsg t0 (gName i))) (m : ∀ σ H Q, up X.K te σ H Q → t0 σ H Q) : FS X st (dSetN i te) := by
  refine h.mo ?_
  rintro D σ H ⟨C, ρ, Dd, R, h, L⟩
  refine m _ _ _ ⟨C, ρ, _, R, h, ?_⟩
  rintro v H1 x R1 k e ⟨ds, rfl, q⟩
  obtain ⟨p, vs, rfl, h1, h2, h3, h4⟩ := e
  exact L.nx _ _ _ (R.setN R1 k i h1 h2 h3 h4) q
theorem fs_set {i : Nat} {te : TED} (h : PS X st (tAsg (up X.K te) (gName i))) : FS X st (dSet i te) := fs_setM h fun _ _ _ q => q
theorem fs_setN {i : Nat} {te : TED} (h : PS X st (tAsg (up X.K te) (gName i))) : FS X st (dSetN i te) := fs_setNM h fun _ _ _ q => q
def dAug (i : Nat) (te : TED) (rd : D → D → (D → Prop) → Prop) : TSD := fun Dd ρ => ∃ x, ρ[i]? = some (some x) ∧ te ρ fun y => rd x y fun z => ∃ d, z = .p d ∧ Dd.nx (ρ.set i (some (.p d)))
/-- an own list changed -/
def dApp (i : Nat) (ta : TAD) : TSD := fun Dd ρ => ∃ ds, ρ[i]? = some (some (.own ds)) ∧ ta ρ fun xs => ∃ x d, xs = [x] ∧ x.st = some d ∧ ds.length < sizeLine ∧ Dd.nx (ρ.set i (some (.own (ds ++ [d]))))
theorem fs_app {i : Nat} {ta : TAD} (h : PS X st (tDrop (tBM X.K "list" rAppend (tVar i) (upA X.K ta)))) : FS X st (dApp i ta) := by
  refine h.mo ?_
  rintro D σ H ⟨C, ρ, Dd, R, ⟨ds, e, h⟩, L⟩
  obtain ⟨v, h1, p, us, rfl, h2, _⟩ := R.val i _ e
  refine ⟨.ref p, h1, .inl ⟨rfl, us, SqL.of h2⟩, C, ρ, _, R, h, ?_⟩
  rintro vs H1 xs R1 k ea ⟨x, d, rfl, hs, hz, q⟩
  obtain ⟨v, rfl, e1⟩ := p1 ea
  obtain ⟨w, g1, q', us', e2, g2, g3, _⟩ := R1.val i _ e
  rw [h1] at g1; cases g1; cases e2
  refine ⟨p, us', v, rfl, rfl, g2, by rw [g3.length]; exact hz, ?_⟩
  exact L.nx _ _ _ (R1.put e h1 g2 (g3.snoc (R.stOf e1 hs)) (by simp; omega)) q
def dSetIx (i : Nat) (ti te : TED) : TSD := fun Dd ρ => ∃ ds, ρ[i]? = some (some (.own ds)) ∧ te ρ fun x => ∃ d, x.st = some d ∧ ti ρ fun y => ∃ k j, y = .p (.int k) ∧ ixN ds.length k = some j ∧ Dd.nx (ρ.set i (some (.own (ds.set j d))))
theorem Rep.s0n {K : PySem.W.Frag} {C : Cd} {ρ : Ro} {σ : L2.St} {H : Hp} (R : Rep K C ρ σ H) {p : Addr} (h : C.H0 p = none) : ¬ C.S0 p := fun z => by
  obtain ⟨o, q⟩ := R.s00 p z
  rw [h] at q; cases q
theorem Rep.h0n {K : PySem.W.Frag} {C : Cd} {ρ : Ro} {σ : L2.St} {H : Hp} (R : Rep K C ρ σ H) {p : Addr} (h : H p = none) : C.H0 p = none := by
  cases q : C.H0 p with
  | none => rfl
  | some o =>
    have := R.ext p o (R.t1 h) q
    rw [h] at this; cases this
def dRetN : TSD := fun Dd _ => Dd.rt (.p .none)
def dIf (c : TTD) (t u : TSD) : TSD := fun Dd ρ => c ρ fun b => if b = true then t Dd ρ else u Dd ρ
theorem fs_if {c : Expr} {a b : List Stmt} {tc : TTD} {pos} (hc : FT X c tc) (ha : FSs X a t) (hb : FSs X b u) : FS X (.If c a b pos) (dIf tc t u) := by
  refine (ps_if hc ha hb).mo ?_
  rintro D σ H ⟨C, ρ, Dd, R, h, L⟩
  refine ⟨C, ρ, _, R, h, fun k H1 R1 k1 q => ?_⟩
  cases k with
  | true => exact ⟨C, ρ, Dd, R1, by simpa using q, L⟩
  | false => exact ⟨C, ρ, Dd, R1, by simpa using q, L⟩
def dWhile (c : TTD) (tb : TSD) : TSD := fun Dd ρ => ∃ (W : Ro → Prop) (μ : Ro → Nat), W ρ ∧ ∀ ρ, W ρ → c ρ fun b => if b = true then tb { Dd with nx := fun ρ' => W ρ' ∧ μ ρ' < μ ρ, ct := fun ρ' => W ρ' ∧ μ ρ' < μ ρ, bk := Dd.nx } ρ else Dd.nx ρ
theorem fs_while {tc : TTD} (h : PS X st (tWhile (upT X.K tc) (upS X.K t))) : FS X st (dWhile tc t) := by
  refine h.mo ?_
  rintro D σ H ⟨C, ρ, Dd, R, ⟨W, μ, w0, hw⟩, L⟩
  refine ⟨fun m σ H => ∃ G ρ, Rep X.K (C.gg G) ρ σ H ∧ W ρ ∧ μ ρ = m, ⟨_, C.G, ρ, R, w0, rfl⟩, ?_⟩
  rintro m σ H ⟨G, ρ, R, w, rfl⟩
  refine ⟨C.gg G, ρ, _, R, hw ρ w, fun k H1 R1 k1 q => ?_⟩
  cases k with
  | true =>
    rw [if_pos rfl] at q ⊢
    refine ⟨fun σ' H' => ∃ G ρ', Rep X.K (C.gg G) ρ' σ' H' ∧ W ρ' ∧ μ ρ' < μ ρ, fun σ' H' ⟨G', ρ', R', w', l⟩ => ⟨_, l, G', ρ', R', w', rfl⟩, C.gg G, ρ, _, R1, q, ?_⟩
    exact ⟨fun G' ρ' σ' H' R' q => ⟨G', ρ', R', q.1, q.2⟩, fun v H x r q => L.rt v H x r.gg q, fun G' ρ' σ' H' R' q => L.nx' G' ρ' σ' H' R' q, fun G' ρ' σ' H' R' q => ⟨G', ρ', R', q.1, q.2⟩⟩
  | false =>
    rw [if_neg Bool.false_ne_true] at q ⊢
    exact L.nx' _ _ _ _ R1 q
end
inductive ItD where
  | one (d : PyData) | two (d e : PyData)
def RelI (K : PySem.W.Frag) (C : Cd) (ρ : Ro) (σ : L2.St) (H : Hp) (v : V) : ItD → Prop
  | .one d => Dt (wo (bad C ρ σ) H) v d
  | .two d e => ∃ T v1 v2, v = .ref T ∧ SqT K H T [v1, v2] ∧ Dt (wo (bad C ρ σ) H) v1 d ∧ Dt (wo (bad C ρ σ) H) v2 e
abbrev TGD := ItD → Ro → (Ro → Prop) → Prop
abbrev TGsD := List PyData → Ro → (Ro → Prop) → Prop
def Agr (l : List Nat) (σ σ' : L2.St) : Prop := σ'.length = σ.length ∧ ∀ j, j ∉ l → σ'[j]? = σ[j]?
def AgrD (l : List Nat) (σ σ' : Ro) : Prop := σ'.length = σ.length ∧ ∀ j, j ∉ l → σ'[j]? = σ[j]?
def upG (K : PySem.W.Frag) (l : List Nat) (g : TGD) : TG := fun v σ H Q => ∃ C ρ x Qd, Rep K C ρ σ H ∧ RelI K C ρ σ H v x ∧ g x ρ Qd ∧
  ∀ ρ' σ', Rep K C ρ' σ' H → Agr l σ σ' ∧ AgrD l ρ ρ' → Same (wo (bad C ρ σ) H) (wo (bad C ρ' σ') H) → Qd ρ' → Q σ' H
def upGs (K : PySem.W.Frag) (l : List Nat) (g : TGsD) : TGs := fun vs σ H Q => ∃ C ρ ds Qd, Rep K C ρ σ H ∧ DtAll (wo (bad C ρ σ) H) vs ds ∧ g ds ρ Qd ∧
  ∀ ρ' σ', Rep K C ρ' σ' H → Agr l σ σ' ∧ AgrD l ρ ρ' → Same (wo (bad C ρ σ) H) (wo (bad C ρ' σ') H) → Qd ρ' → Q σ' H
abbrev FG (X : Cx) (tg : Expr) (l : List Nat) (g : TGD) : Prop := PG X tg (upG X.K l g)
abbrev FGs (X : Cx) (tg : List Expr) (l : List Nat) (g : TGsD) : Prop := PGs X tg (upGs X.K l g)
theorem _root_.L2.PG.mo {X : Cx} {e : Expr} {t t' : TG} (h : PG X e t) (m : ∀ v σ H Q, t' v σ H Q → t v σ H Q) : PG X e t' := ⟨fun pins s σ H v u Q I r hw => h.run pins s σ H v u Q I r (m v σ H Q hw)⟩
theorem _root_.L2.PGs.mo {X : Cx} {e : List Expr} {t t' : TGs} (h : PGs X e t) (m : ∀ v σ H Q, t' v σ H Q → t v σ H Q) : PGs X e t' := ⟨fun pins s σ H v u Q I r hw => h.run pins s σ H v u Q I r (m v σ H Q hw)⟩
section
variable {X : Cx}
def gN (i : Nat) : TGD := fun x ρ Q => ∃ d, x = .one d ∧ Q (ρ.set i (some (.p d)))
theorem fg_name {e : Expr} {i : Nat} (h : PG X e (gName i)) : FG X e [i] (gN i) := by
  refine h.mo ?_
  rintro v σ H Q ⟨C, ρ, x, Qd, R, r, ⟨d, rfl, q⟩, post⟩
  refine post _ _ (R.setP i r) ⟨⟨by rw [List.length_set], fun j hj => ?_⟩, ⟨by rw [List.length_set], fun j hj => ?_⟩⟩ (wo_mono (fun _ z => bad_set z) fun _ _ _ e => e) q
  · rw [List.getElem?_set_ne (fun z => hj (by simp [z]))]
  · rw [List.getElem?_set_ne (fun z => hj (by simp [z]))]
def gsNil : TGsD := fun ds ρ Q => ds = [] ∧ Q ρ
def gsCons (g : TGD) (gs : TGsD) : TGsD := fun ds ρ Q => ∃ d r, ds = d :: r ∧ g (.one d) ρ fun ρ' => gs r ρ' Q
theorem fgs_nil : FGs X [] [] gsNil := by
  refine pgs_nil.mo ?_
  rintro vs σ H Q ⟨C, ρ, ds, Qd, R, r, ⟨rfl, q⟩, post⟩
  cases r
  exact ⟨rfl, post _ _ R ⟨⟨rfl, fun _ _ => rfl⟩, ⟨rfl, fun _ _ => rfl⟩⟩ (fun _ _ e => e) q⟩
theorem fgs_cons {e : Expr} {es : List Expr} {l l' : List Nat} {g : TGD} {gs : TGsD} (h : PGs X (e :: es) (gCons (upG X.K l g) (upGs X.K l' gs))) : FGs X (e :: es) (l ++ l') (gsCons g gs) := by
  refine h.mo ?_
  rintro vs σ H Q ⟨C, ρ, ds, Qd, R, r, ⟨d, rs, rfl, q⟩, post⟩
  cases r with
  | cons r1 r2 =>
    refine ⟨_, _, rfl, C, ρ, .one d, _, R, r1, q, fun ρ1 σ1 R1 a1 s1 q1 => ⟨C, ρ1, rs, _, R1, DtAll.mono s1 r2, q1, fun ρ2 σ2 R2 a2 s2 q2 => ?_⟩⟩
    refine post ρ2 σ2 R2 ⟨⟨a2.1.1.trans a1.1.1, fun j hj => ?_⟩, ⟨a2.2.1.trans a1.2.1, fun j hj => ?_⟩⟩ (fun a o e => s2 a o (s1 a o e)) q2
    · rw [List.mem_append] at hj
      rw [a2.1.2 j (fun z => hj (.inr z)), a1.1.2 j (fun z => hj (.inl z))]
    · rw [List.mem_append] at hj
      rw [a2.2.2 j (fun z => hj (.inr z)), a1.2.2 j (fun z => hj (.inl z))]
def gTp (n : Nat) (gs : TGsD) : TGD := fun x ρ Q => match x with
  | .one d => ∃ ds, d = .tuple ds ∧ ds.length = n ∧ gs ds ρ Q
  | .two d e => n = 2 ∧ gs [d, e] ρ Q
theorem fg_tup {e : Expr} {l : List Nat} {gs : TGsD} {n : Nat} (h : PG X e (gTup X.K n (upGs X.K l gs))) : FG X e l (gTp n gs) := by
  refine h.mo ?_
  rintro v σ H Q ⟨C, ρ, x, Qd, R, r, hg, post⟩
  cases x with
  | one d =>
    obtain ⟨ds, rfl, hl, hg⟩ := hg
    cases r with
    | tup t1 d1 =>
      exact ⟨_, _, rfl, t1.mo.sq, by rw [d1.length]; exact hl, C, ρ, ds, Qd, R, d1, hg, post⟩
  | two d e =>
    obtain ⟨rfl, hg⟩ := hg
    obtain ⟨T, v1, v2, rfl, h1, h2, h3⟩ := r
    exact ⟨T, _, rfl, h1, rfl, C, ρ, [d, e], Qd, R, .cons h2 (.cons h3 .nil), hg, post⟩
def dAsg (te : TED) (g : TGD) : TSD := fun Dd ρ => te ρ fun x => ∃ d, x.st = some d ∧ g (.one d) ρ Dd.nx
theorem fs_asg {st : Stmt} {te : TED} {l : List Nat} {g : TGD} (h : PS X st (tAsg (up X.K te) (upG X.K l g))) : FS X st (dAsg te g) := by
  refine h.mo ?_
  rintro D σ H ⟨C, ρ, Dd, R, h, L⟩
  refine ⟨C, ρ, _, R, h, ?_⟩
  rintro v H1 x R1 k1 e1 ⟨d, hd, q⟩
  exact ⟨C, ρ, .one d, _, R1, R.stOf e1 hd, q, fun ρ' σ' R' _ _ q => L.nx ρ' σ' H1 R' q⟩
def dPar (i j : Nat) (ta : TAD) : TSD := fun Dd ρ => ta ρ fun xs => ∃ x y d e, xs = [x, y] ∧ x.st = some d ∧ y.st = some e ∧ Dd.nx ((ρ.set i (some (.p d))).set j (some (.p e)))
theorem fs_par {st : Stmt} {i j : Nat} {ta : TAD} (h : PS X st (tPar i j (upA X.K ta))) : FS X st (dPar i j ta) := by
  refine h.mo ?_
  rintro D σ H ⟨C, ρ, Dd, R, h, L⟩
  refine ⟨C, ρ, _, R, h, ?_⟩
  rintro vs H1 xs R1 k1 e1 ⟨x, y, d, e, rfl, h1, h2, q⟩
  obtain ⟨v, u, rfl, g1, g2⟩ := p2 e1
  have R2 := R1.setP i (R.stOf g1 h1)
  exact ⟨v, u, rfl, L.nx _ _ _ (R2.setP j (Dt.mono (wo_mono (fun _ z => bad_set z) fun _ _ _ e => e) (R.stOf g2 h2))) q⟩
end
abbrev TID := Ro → (List ItD → Prop) → Prop
def Has (C : Cd) (w : Pn) : Prop := (∀ q ∈ w.1, q ∈ C.pins) ∧ ∀ q ∈ w.2, q ∈ C.tups
structure WalkD (K : PySem.W.Frag) (C : Cd) (pins : Pn) (J : It) (items : List ItD) : Prop where
  go : ∀ C' ρ σ H (i : Nat) x, C'.t = C.t → Has C' pins → Rep K C' ρ σ H → items[i]? = some x → J.go i H ∧ ∀ v H', J.yld i H v H' → Kq C'.t H H' ∧ Rep K C' ρ σ H' ∧ RelI K C' ρ σ H' v x
  stop : ∀ C' ρ σ H, C'.t = C.t → Has C' pins → Rep K C' ρ σ H → J.stop items.length H
def upI (K : PySem.W.Frag) (ti : TID) : TI := fun σ H R => ∃ C ρ Qd, Rep K C ρ σ H ∧ ti ρ Qd ∧ ∀ J H' items pins, Rep K (C.add pins) ρ σ H' → Kq C.t H H' → WalkD K C pins J items → Qd items → R J H'
abbrev FI (X : Cx) (tg it : Expr) (ti : TID) : Prop := PI X tg it (upI X.K ti)
theorem _root_.L2.PI.mo {X : Cx} {tg e : Expr} {t t' : TI} (h : PI X tg e t) (m : ∀ σ H Q, t' σ H Q → t σ H Q) : PI X tg e t' := ⟨fun pins s σ H Q I hw => h.run pins s σ H Q I (m σ H Q hw)⟩
section
variable {K : PySem.W.Frag} {C : Cd} {ρ : Ro} {σ : L2.St} {H : Hp}
theorem Rep.pinnedD (R : Rep K C ρ σ H) (w : Pn) (h : ∀ q ∈ w.1, PinD (wo (bad C ρ σ) H) q.1 q.2) (h2 : ∀ q ∈ w.2, TupG H q.1 q.2 := by intro _ h; cases h) : Rep K (C.add w) ρ σ H :=
  ⟨R.len, R.val, R.dis, R.tp, R.ext, R.s1, R.s2, R.s0, R.f0, R.s00, fun q hq => (List.mem_append.mp hq).elim (fun z => h q z) (R.pin q), fun q hq => (List.mem_append.mp hq).elim (h2 q) (R.tin q), R.s3, R.tab, let ⟨φ, T⟩ := R.tre; ⟨φ, T.rel, T.dis, T.bor, T.db, T.bb⟩, R.g0⟩
theorem Rep.pinned (R : Rep K C ρ σ H) (w : Pn) (h : ∀ q ∈ w.1, Dt (wo (bad C ρ σ) H) q.1 q.2) (h2 : ∀ q ∈ w.2, TupG H q.1 q.2 := by intro _ h; cases h) : Rep K (C.add w) ρ σ H := R.pinnedD w (fun q hq => .inl (h q hq)) h2
theorem Rep.unpin {w : Pn} (R : Rep K (C.add w) ρ σ H) : Rep K C ρ σ H :=
  ⟨R.len, R.val, R.dis, R.tp, R.ext, R.s1, R.s2, R.s0, R.f0, R.s00, fun q hq => R.pin q (List.mem_append_right _ hq), fun q hq => R.tin q (List.mem_append_right _ hq), R.s3, R.tab, let ⟨φ, T⟩ := R.tre; ⟨φ, T.rel, T.dis, T.bor, T.db, T.bb⟩, R.g0⟩
theorem has_add (w : Pn) : Has (C.add w) w := ⟨fun _ h => List.mem_append_left _ h, fun _ h => List.mem_append_left _ h⟩
theorem ones_get {ds : List PyData} {i : Nat} {x : ItD} (h : (ds.map ItD.one)[i]? = some x) : ∃ d, ds[i]? = some d ∧ x = .one d := by
  rw [List.getElem?_map] at h
  cases e : ds[i]? with
  | none => rw [e] at h; cases h
  | some d => rw [e] at h; exact ⟨d, rfl, (Option.some.inj h).symm⟩
end
section
variable {X : Cx} {tg it : Expr}
/-- range -/
def rngD (lo : Int) (n : Nat) : List ItD := (List.range n).map fun i => .one (.int (lo + (i : Nat)))
theorem rngD_len (lo : Int) (n : Nat) : (rngD lo n).length = n := by simp [rngD]
theorem rngD_get {lo : Int} {n i : Nat} {x : ItD} (h : (rngD lo n)[i]? = some x) : i < n ∧ x = .one (.int (lo + (i : Nat))) := by
  unfold rngD at h
  rw [List.getElem?_map] at h
  by_cases hi : i < n
  · rw [List.getElem?_range hi] at h
    exact ⟨hi, (Option.some.inj h).symm⟩
  · rw [List.getElem?_eq_none (by simpa using hi)] at h; cases h
theorem walk_rngD {K : PySem.W.Frag} {C : Cd} (lo : Int) (n : Nat) : WalkD K C ([], []) (Itr lo n) (rngD lo n) := by
  refine ⟨fun C' ρ σ H i x ht hp R hx => ?_, fun C' ρ σ H ht hp R => by rw [rngD_len]; exact Nat.le_refl n⟩
  obtain ⟨hi, rfl⟩ := rngD_get hx
  refine ⟨hi, ?_⟩
  rintro v H' ⟨rfl, rfl⟩
  exact ⟨Kq.refl _ _, R, .int _⟩
def dRng1 (ta : TAD) : TID := fun ρ Q => ta ρ fun xs => ∃ j : Int, xs = [.p (.int j)] ∧ -(2 ^ 62) ≤ j ∧ j < 2 ^ 62 ∧ Q (rngD 0 j.toNat)
def dRng2 (ta : TAD) : TID := fun ρ Q => ta ρ fun xs => ∃ i j : Int, xs = [.p (.int i), .p (.int j)] ∧ (-(2 ^ 62) ≤ i ∧ i < 2 ^ 62 ∧ -(2 ^ 62) ≤ j ∧ j < 2 ^ 62) ∧ Q (rngD i (j - i).toNat)
theorem fi_rng1 {ta : TAD} (h : PI X tg it (iRng1 (upA X.K ta))) : FI X tg it (dRng1 ta) := by
  refine h.mo ?_
  rintro σ H R' ⟨C, ρ, Qd, R, h, post⟩
  refine ⟨C, ρ, _, R, h, ?_⟩
  rintro vs H1 xs R1 k1 e1 ⟨j, rfl, h1, h2, q⟩
  obtain ⟨v, rfl, e⟩ := p1 e1
  exact ⟨j, by rw [rel_int e], h1, h2, post _ H1 _ ([], []) R1 k1 (walk_rngD _ _) q⟩
/-- signs of a text -/
def chD (z : Str) : List ItD := z.cps.toList.map fun c => .one (.str ⟨#[c]⟩)
/-- enumerate -/
def enD (ds : List PyData) : List ItD := (List.range ds.length).map fun i => .two (.int (i : Nat)) (ds.getD i .none)
theorem enD_len (ds : List PyData) : (enD ds).length = ds.length := by simp [enD]
theorem enD_get {ds : List PyData} {i : Nat} {x : ItD} (h : (enD ds)[i]? = some x) : ∃ d, ds[i]? = some d ∧ x = .two (.int (i : Nat)) d := by
  unfold enD at h
  rw [List.getElem?_map] at h
  by_cases hi : i < ds.length
  · rw [List.getElem?_range hi] at h
    refine ⟨ds[i], List.getElem?_eq_getElem hi, ?_⟩
    have := (Option.some.inj h).symm
    rw [this]
    show ItD.two _ (ds.getD i .none) = _
    rw [List.getD_eq_getElem?_getD, List.getElem?_eq_getElem hi]
    rfl
  · rw [List.getElem?_eq_none (by simpa using hi)] at h; cases h
theorem pairI {K : PySem.W.Frag} {C : Cd} {ρ : Ro} {σ : L2.St} {H : Hp} (R : Rep K C ρ σ H) {T : Addr} {v1 v2 : V} {d e : PyData} (hT : H T = none) (h1 : Dt (wo (bad C ρ σ) H) v1 d) (h2 : Dt (wo (bad C ρ σ) H) v2 e) :
    Kq C.t H (upd H T (.tup [v1, v2])) ∧ Rep K C ρ σ (upd H T (.tup [v1, v2])) ∧ RelI K C ρ σ (upd H T (.tup [v1, v2])) (.ref T) (.two d e) :=
  ⟨Kq.new hT, R.lay hT, T, v1, v2, rfl, SqT.of upd_same, Dt.mono (R.kp (Kq.new hT)) h1, Dt.mono (R.kp (Kq.new hT)) h2⟩
end
end My
namespace My
open PySem PySem.Spec PyProof.Rows L2
variable [TB]
def forW (g : TGD) (tb : TSD) (Dd : EndsD) : List ItD → Ro → Prop
  | [], ρ => Dd.nx ρ
  | x :: xs, ρ => g x ρ fun ρ2 => tb { Dd with nx := forW g tb Dd xs, ct := forW g tb Dd xs, bk := Dd.nx } ρ2
def dFor (ti : TID) (g : TGD) (tb : TSD) : TSD := fun Dd ρ => ti ρ fun items => forW g tb Dd items ρ
theorem Link.add {K : PySem.W.Frag} {C : Cd} {Dd : EndsD} {D : Ends} (w : Pn) (L : Link K C Dd D) : Link K (C.add w) Dd D :=
  ⟨fun G ρ σ H R q => L.nx' G ρ σ H (Rep.unpin (C := C.gg G) (w := w) R) q, fun v H x r q => L.rt v H x ⟨r.tp, r.ext, r.tab, r.rel⟩ q, fun G ρ σ H R q => L.bk' G ρ σ H (Rep.unpin (C := C.gg G) (w := w) R) q, fun G ρ σ H R q => L.ct' G ρ σ H (Rep.unpin (C := C.gg G) (w := w) R) q⟩
section
variable {X : Cx} {st : Stmt}
theorem fs_for {ti : TID} {l : List Nat} {g : TGD} {tb : TSD} (h : PS X st (tFor (upI X.K ti) (upG X.K l g) (upS X.K tb))) : FS X st (dFor ti g tb) := by
  refine h.mo ?_
  rintro D σ H ⟨C, ρ, Dd, R, h, L⟩
  refine ⟨C, ρ, _, R, h, ?_⟩
  rintro J H1 items pins R1 k1 wk q
  have LA := L.add pins
  refine ⟨fun i m σ H => m = items.length - i ∧ i ≤ items.length ∧ ∃ G ρ, Rep X.K ((C.add pins).gg G) ρ σ H ∧ forW g tb Dd (items.drop i) ρ, ⟨_, rfl, Nat.zero_le _, _, ρ, R1, by simpa using q⟩, ?_⟩
  rintro i m σ H ⟨rfl, hi, G, ρ, R, q⟩
  by_cases hlt : i < items.length
  · right
    rw [List.drop_eq_getElem_cons hlt] at q
    obtain ⟨go, hy⟩ := wk.go ((C.add pins).gg G) ρ σ H i _ rfl (has_add pins) R (List.getElem?_eq_getElem hlt)
    refine ⟨go, fun σ' H' => ∃ G ρ', Rep X.K ((C.add pins).gg G) ρ' σ' H' ∧ forW g tb Dd (items.drop (i + 1)) ρ', ?_, ?_⟩
    · rintro σ' H' ⟨G', ρ', R', q'⟩
      exact ⟨items.length - (i + 1), by omega, rfl, hlt, G', ρ', R', q'⟩
    · intro x H' y
      obtain ⟨k2, R2, r2⟩ := hy x H' y
      refine ⟨(C.add pins).gg G, ρ, items[i], _, R2, r2, q, fun ρ3 σ3 R3 _ _ q3 => ⟨(C.add pins).gg G, ρ3, _, R3, q3, ?_⟩⟩
      exact ⟨fun G' ρ4 σ4 H4 R4 q4 => ⟨G', ρ4, R4, q4⟩, fun v H x r q => LA.rt v H x r.gg q, fun G' ρ4 σ4 H4 R4 q4 => LA.nx' G' ρ4 σ4 H4 R4 q4, fun G' ρ4 σ4 H4 R4 q4 => ⟨G', ρ4, R4, q4⟩⟩
  · left
    have e : i = items.length := by omega
    subst e
    rw [List.drop_length] at q
    exact ⟨wk.stop ((C.add pins).gg G) ρ σ H rfl (has_add pins) R, LA.nx' G ρ σ H R q⟩
end
/-- by an invariant -/
theorem forW_inv {g : TGD} {tb : TSD} {Dd : EndsD} {items : List ItD} {ρ : Ro} (P : Nat → Ro → Prop) (h0 : P 0 ρ)
    (hs : ∀ i x ρ (K : Ro → Prop), items[i]? = some x → P i ρ → (∀ ρ', P (i + 1) ρ' → K ρ') → g x ρ fun ρ2 => tb { Dd with nx := K, ct := K, bk := Dd.nx } ρ2)
    (hd : ∀ ρ, P items.length ρ → Dd.nx ρ) : forW g tb Dd items ρ := by
  have go : ∀ (n i : Nat) (ρ : Ro), items.length - i = n → i ≤ items.length → P i ρ → forW g tb Dd (items.drop i) ρ := by
    intro n
    induction n with
    | zero =>
      intro i ρ e hi p
      have e : i = items.length := by omega
      subst e
      rw [List.drop_length]
      exact hd ρ p
    | succ n ih =>
      intro i ρ e hi p
      have hlt : i < items.length := by omega
      rw [List.drop_eq_getElem_cons hlt]
      exact hs i _ ρ _ (List.getElem?_eq_getElem hlt) p fun ρ' p' => ih (i + 1) ρ' (by omega) hlt p'
  exact go _ 0 ρ rfl (Nat.zero_le _) h0
/-- by an invariant that speaks of what was walked and what is left -/
theorem forW_pre {g : TGD} {tb : TSD} {Dd : EndsD} {items : List ItD} {ρ : Ro} (P : List ItD → List ItD → Ro → Prop) (h0 : P [] items ρ)
    (hs : ∀ pre x post ρ (K : Ro → Prop), items = pre ++ x :: post → P pre (x :: post) ρ → (∀ ρ', P (pre ++ [x]) post ρ' → K ρ') → g x ρ fun ρ2 => tb { Dd with nx := K, ct := K, bk := Dd.nx } ρ2)
    (hd : ∀ ρ, P items [] ρ → Dd.nx ρ) : forW g tb Dd items ρ := by
  have go : ∀ (post pre : List ItD) (ρ : Ro), items = pre ++ post → P pre post ρ → forW g tb Dd post ρ := by
    intro post
    induction post with
    | nil =>
      intro pre ρ e p
      rw [List.append_nil] at e
      subst e
      exact hd ρ p
    | cons x post ih =>
      intro pre ρ e p
      exact hs pre x post ρ _ e p fun ρ' p' => ih (pre ++ [x]) ρ' (by rw [e]; simp) p'
  exact go items [] ρ rfl h0
def elW (g : TGD) (tt : TTD) (te : TED) (x : ItD) (ρ0 : Ro) (K : Option PyData → Prop) : Prop :=
  g x ρ0 fun ρ2 => tt ρ2 fun b => if b = true then te ρ2 fun y => ∃ d, y.st = some d ∧ K (some d) else K none
def lcW (el : ItD → (Option PyData → Prop) → Prop) : List ItD → List PyData → (List PyData → Prop) → Prop
  | [], acc, Q => Q acc
  | x :: xs, acc, Q => el x fun o => match o with
    | none => lcW el xs acc Q
    | some d => acc.length < sizeLine ∧ lcW el xs (acc ++ [d]) Q
def dWipe (ρ : Ro) : List Nat → Ro
  | [] => ρ
  | v :: vs => (dWipe ρ vs).set v none
def dLc (ti : TID) (g : TGD) (tt : TTD) (te : TED) (vs : List Nat) : TED := fun ρ Q => ti ρ fun items => lcW (fun x K => elW g tt te x (dWipe ρ vs) K) items [] fun acc => Q (.nw acc)
def dYes : TTD := fun _ Q => Q true
/-- by an invariant -/
theorem lcW_inv {el : ItD → (Option PyData → Prop) → Prop} {Q : List PyData → Prop} {items : List ItD} (P : Nat → List PyData → Prop) (h0 : P 0 [])
    (hs : ∀ i x acc (K : Option PyData → Prop), items[i]? = some x → P i acc → (P (i + 1) acc → K none) → (∀ d, P (i + 1) (acc ++ [d]) → K (some d)) → el x K) (hz : items.length ≤ sizeLine)
    (hd : ∀ acc, P items.length acc → Q acc) : lcW el items [] Q := by
  have go : ∀ (n i : Nat) (acc : List PyData), items.length - i = n → i ≤ items.length → acc.length ≤ i → P i acc → lcW el (items.drop i) acc Q := by
    intro n
    induction n with
    | zero =>
      intro i acc e hi _ p
      have e : i = items.length := by omega
      subst e
      rw [List.drop_length]
      exact hd acc p
    | succ n ih =>
      intro i acc e hi ha p
      have hlt : i < items.length := by omega
      rw [List.drop_eq_getElem_cons hlt]
      refine hs i _ acc _ (List.getElem?_eq_getElem hlt) p (fun p' => ih (i + 1) acc (by omega) hlt (by omega) p') (fun d p' => ⟨by omega, ih (i + 1) _ (by omega) hlt (by simp; omega) p'⟩)
  exact go _ 0 [] rfl (Nat.zero_le _) (Nat.le_refl _) h0
section
variable {K : PySem.W.Frag} {C : Cd} {ρ : Ro} {σ : L2.St} {H H1 H2 H' : Hp}
theorem dWipe_len : ∀ {vs : List Nat}, (dWipe ρ vs).length = ρ.length
  | [] => rfl
  | v :: vs => by unfold dWipe; rw [List.length_set, dWipe_len]
theorem dWipe_some {i : Nat} {x : D} : ∀ {vs : List Nat}, (dWipe ρ vs)[i]? = some (some x) → ρ[i]? = some (some x) ∧ i ∉ vs
  | [], h => ⟨h, by simp⟩
  | v :: vs, h => by
    unfold dWipe at h
    by_cases hi : v = i
    · subst hi
      rw [List.getElem?_set] at h
      simp only [if_true] at h
      split at h <;> cases h
    · rw [List.getElem?_set_ne hi] at h
      obtain ⟨a, b⟩ := dWipe_some h
      exact ⟨a, by simp [b]; exact fun z => hi z.symm⟩
theorem wipe_ne {i : Nat} : ∀ {vs : List Nat}, i ∉ vs → (wipe σ vs)[i]? = σ[i]?
  | [], _ => rfl
  | v :: vs, h => by
    simp at h
    unfold wipe
    rw [List.getElem?_set_ne (fun z => h.1 z.symm), wipe_ne h.2]
theorem dWipe_ne {i : Nat} : ∀ {vs : List Nat}, i ∉ vs → (dWipe ρ vs)[i]? = ρ[i]?
  | [], _ => rfl
  | v :: vs, h => by
    simp at h
    unfold dWipe
    rw [List.getElem?_set_ne (fun z => h.1 z.symm), dWipe_ne h.2]
/-- a block's own names are wiped -/
abbrev Cd.wp (C : Cd) (ρ : Ro) (σ : L2.St) (vs : List Nat) : Cd := { C with F := fun b => C.F b ∨ ∃ i ∈ vs, ∃ ds, ρ[i]? = some (some (.own ds)) ∧ σ[i]? = some (some (.ref b)) }
theorem bad_wp {vs : List Nat} {b : Addr} : bad (C.wp ρ σ vs) (dWipe ρ vs) (wipe σ vs) b ↔ bad C ρ σ b := by
  constructor
  · rintro (z | (z | ⟨i, _, ds, h1, h2⟩) | ⟨i, ds, h1, h2⟩ | z)
    · exact .inl z
    · exact .inr (.inl z)
    · exact .inr (.inr (.inl ⟨i, ds, h1, h2⟩))
    · obtain ⟨h3, h4⟩ := dWipe_some h1
      rw [wipe_ne h4] at h2
      exact .inr (.inr (.inl ⟨i, ds, h3, h2⟩))
    · exact .inr (.inr (.inr z))
  · rintro (z | z | ⟨i, ds, h1, h2⟩ | z)
    · exact .inl z
    · exact .inr (.inl (.inl z))
    · by_cases hi : i ∈ vs
      · exact .inr (.inl (.inr ⟨i, hi, ds, h1, h2⟩))
      · exact .inr (.inr (.inl ⟨i, ds, by rw [dWipe_ne hi]; exact h1, by rw [wipe_ne hi]; exact h2⟩))
    · exact .inr (.inr (.inr z))
theorem own_wp {vs : List Nat} {b : Addr} (h : ownAt (dWipe ρ vs) (wipe σ vs) b) : ownAt ρ σ b := by
  obtain ⟨i, ds, h1, h2⟩ := h
  obtain ⟨h3, h4⟩ := dWipe_some h1
  rw [wipe_ne h4] at h2
  exact ⟨i, ds, h3, h2⟩
theorem Rep.wiped (R : Rep K C ρ σ H) (vs : List Nat) : Rep K (C.wp ρ σ vs) (dWipe ρ vs) (wipe σ vs) H := by
  have s : Same (wo (bad C ρ σ) H) (wo (bad (C.wp ρ σ vs) (dWipe ρ vs) (wipe σ vs)) H) := wo_mono (fun _ z => bad_wp.mp z) fun _ _ _ e => e
  refine ⟨by rw [dWipe_len, wipe_length]; exact R.len, fun i y e => ?_, fun i j b ds es h1 h2 h3 h4 => ?_, R.tp, R.ext, R.s1, R.s2, R.s0, fun b hb => ?_, R.s00, fun q hq => PinD.mono s (R.pin q hq), R.tin, R.s3, R.tab, ?_, fun b hb => ?_⟩
  · obtain ⟨e1, e2⟩ := dWipe_some e
    obtain ⟨w, g1, g2⟩ := R.val i y e1
    refine ⟨w, by rw [wipe_ne e2]; exact g1, ?_⟩
    cases y with
    | p d => exact Dt.mono s g2
    | own ds =>
      obtain ⟨q, us, rfl, h3, h4, h5, h6⟩ := g2
      refine ⟨q, us, rfl, h3, DtAll.mono s h4, ⟨h5.1, ?_⟩, h6⟩
      rintro (z | ⟨j, hj, es, f1, f2⟩)
      · exact h5.2 z
      · have := R.dis i j q ds es e1 f1 g1 f2
        subst this
        exact e2 hj
    | nw ds => exact g2
    | tape => exact g2
    | ot m => exact g2
    | nt m => exact g2
    | fv f F => exact ⟨g2.1, g2.2.mono s fun _ _ _ e => e⟩
    | bor p m => exact (show w = .ref p from g2)
  · obtain ⟨e1, n1⟩ := dWipe_some h1
    obtain ⟨e2, n2⟩ := dWipe_some h2
    rw [wipe_ne n1] at h3
    rw [wipe_ne n2] at h4
    exact R.dis i j b ds es e1 e2 h3 h4
  · rcases hb with z | ⟨j, hj, es, f1, f2⟩
    · exact R.f0 b z
    · exact R.badL (.inr (.inr (.inl ⟨j, es, f1, f2⟩)))
  · obtain ⟨φ, T⟩ := R.tre
    refine ⟨φ, fun i m e => ?_, fun a b m n c h1 h2 => T.dis a b m n c (dWipe_some h1).1 (dWipe_some h2).1, fun i p m e => ⟨(T.bor i p m (dWipe_some e).1).1.mono s fun _ _ _ e => e, (T.bor i p m (dWipe_some e).1).2⟩, fun a p m b n h1 h2 => T.db a p m b n (dWipe_some h1).1 (dWipe_some h2).1, fun a p m b n h1 h2 => T.bb a p m b n (dWipe_some h1).1 (dWipe_some h2).1⟩
    obtain ⟨e1, e2⟩ := dWipe_some e
    obtain ⟨w, g1, g2, g3⟩ := T.rel i m e1
    exact ⟨w, by rw [wipe_ne e2]; exact g1, g2.mono s fun _ _ _ e => e, g3⟩
  · obtain ⟨h1, h2, h3, h4⟩ := R.g0 b hb
    refine ⟨h1, h2, ?_, fun z => h4 (own_wp z)⟩
    rintro (z | ⟨j, hj, es, f1, f2⟩)
    · exact h3 z
    · exact h4 ⟨j, es, f1, f2⟩
theorem wipe_agr {l vs : List Nat} {σ2 : L2.St} (a : Agr l (wipe σ vs) σ2) (hl : ∀ j ∈ l, j ∈ vs) : wipe σ2 vs = wipe σ vs := by
  apply List.ext_getElem?
  intro i
  by_cases hi : i ∈ vs
  · have none_at : ∀ (τ : L2.St) (ws : List Nat), i ∈ ws → (wipe τ ws)[i]? = if i < τ.length then some none else none := by
      intro τ ws
      induction ws with
      | nil => intro h; cases h
      | cons v ws ih =>
        intro h
        unfold wipe
        by_cases e : v = i
        · subst e
          rw [List.getElem?_set]
          simp [wipe_length]
        · rw [List.getElem?_set_ne e]
          exact ih ((List.mem_cons.mp h).resolve_left fun z => e z.symm)
    rw [none_at σ2 vs hi, none_at σ vs hi]
    have := a.1
    rw [wipe_length] at this
    rw [this]
  · rw [wipe_ne hi, a.2 i (fun z => hi (hl i z)), wipe_ne hi]
theorem up_lc {ti : TID} {l : List Nat} {g : TGD} {tt : TTD} {te : TED} {vs : List Nat} (hl : ∀ j ∈ l, j ∈ vs) : ∀ σ H Q, up K (dLc ti g tt te vs) σ H Q → tLc (upI K ti) (upG K l g) (upT K tt) (up K te) vs σ H Q := by
  rintro σ H Q ⟨C, ρ, Qd, R, h, post⟩
  refine ⟨C, ρ, _, R, h, ?_⟩
  rintro J H1 items pins R1 k1 wk q D hD
  refine ⟨fun i m Hc => m = items.length - i ∧ i ≤ items.length ∧ Kq C.t H1 Hc ∧ ∃ acc us, Rep K ((C.add pins).at D) ρ σ Hc ∧ Hc D = some (.lst us) ∧ DtAll (wo (bad ((C.add pins).at D) ρ σ) Hc) us acc ∧
      acc.length ≤ sizeLine ∧ lcW (fun x K => elW g tt te x (dWipe ρ vs) K) (items.drop i) acc fun acc => Qd (.nw acc),
    ⟨_, rfl, Nat.zero_le _, Kq.new hD, [], [], R1.open hD, upd_same, .nil, Nat.zero_le _, by simpa using q⟩, ?_⟩
  rintro i m Hc ⟨rfl, hi, kc, acc, us, RD, hDc, hacc, hz, q⟩
  have hD0 : H D = none := k1.free (R1.t1 hD) hD
  have hH0 : C.H0 D = none := R.h0n hD0
  by_cases hlt : i < items.length
  · right
    rw [List.drop_eq_getElem_cons hlt] at q
    obtain ⟨go, hy⟩ := wk.go ((C.add pins).at D) ρ σ Hc i _ rfl (has_add pins) RD (List.getElem?_eq_getElem hlt)
    refine ⟨go, fun H' => i < items.length ∧ Kq C.t H1 H' ∧ ∃ acc us, Rep K ((C.add pins).at D) ρ σ H' ∧ H' D = some (.lst us) ∧ DtAll (wo (bad ((C.add pins).at D) ρ σ) H') us acc ∧
      acc.length ≤ sizeLine ∧ lcW (fun x K => elW g tt te x (dWipe ρ vs) K) (items.drop (i + 1)) acc fun acc => Qd (.nw acc), ?_, ?_⟩
    · rintro H' ⟨h1, h2, h3⟩
      exact ⟨items.length - (i + 1), by omega, rfl, h1, h2, h3⟩
    · intro x H' y
      obtain ⟨k2, R2, r2⟩ := hy x H' y
      have k2 : Kq C.t Hc H' := k2
      have R2w := R2.wiped vs
      have s0 : Same (wo (bad ((C.add pins).at D) ρ σ) H') (wo (bad (((C.add pins).at D).wp ρ σ vs) (dWipe ρ vs) (wipe σ vs)) H') := wo_mono (fun _ z => bad_wp.mp z) fun _ _ _ e => e
      have rI : RelI K (((C.add pins).at D).wp ρ σ vs) (dWipe ρ vs) (wipe σ vs) H' x items[i] := by
        revert r2
        generalize items[i] = z
        intro r2
        cases z with
        | one d => exact Dt.mono s0 r2
        | two d e =>
          obtain ⟨T, v1, v2, e1, e2, e3, e4⟩ := r2
          exact ⟨T, v1, v2, e1, e2, Dt.mono s0 e3, Dt.mono s0 e4⟩
      refine ⟨((C.add pins).at D).wp ρ σ vs, dWipe ρ vs, items[i], _, R2w, rI, q, fun ρ2 σ2 R3 a3 s3 q3 => ⟨wipe_agr a3.1 hl, ?_⟩⟩
      refine ⟨((C.add pins).at D).wp ρ σ vs, ρ2, _, R3, q3, fun b H3 R4 k4 q4 => ?_⟩
      have k4 : Kq C.t H' H3 := k4
      have nDt : nx C.t D := R1.t1 hD
      cases b with
      | false =>
        rw [if_neg Bool.false_ne_true] at q4
        show (if false = true then _ else _)
        rw [if_neg Bool.false_ne_true]
        have k : Kq C.t Hc H3 := k2.trans k4
        have RD' := RD.step (C := (C.add pins).at D) k R4.tp R4.tab
        exact ⟨hlt, kc.trans k, acc, us, RD', k D _ nDt hDc, DtAll.mono (RD.kp (C := (C.add pins).at D) k) hacc, hz, q4⟩
      | true =>
        rw [if_pos rfl] at q4
        show (if true = true then _ else _)
        rw [if_pos rfl]
        refine ⟨((C.add pins).at D).wp ρ σ vs, ρ2, _, R4, q4, ?_⟩
        rintro v H4 y R5 k5 e5 ⟨d, hd, hz', q5⟩
        have k5 : Kq C.t H3 H4 := k5
        have k : Kq C.t Hc H4 := (k2.trans k4).trans k5
        have RD' := RD.step (C := (C.add pins).at D) k R5.tp R5.tab
        have hD4 : H4 D = some (.lst us) := k D _ nDt hDc
        have n1 : ¬ ownAt ρ σ D := by
          rintro ⟨j, ds, f1, f2⟩
          obtain ⟨w, g1, p, ws, rfl, g3, g4, g5, g6⟩ := RD'.val j _ f1
          rw [f2] at g1
          cases g1
          exact g5.2 (.inr rfl)
        have n0 : ¬ C.S0 D := R.s0n hH0
        have n3 : D ≠ C.t.2 := fun z => n0 (z ▸ R.s2)
        have hR : Rep K ((C.add pins).at D) ρ σ (upd H4 D (.lst (us ++ [v]))) := Rep.grow (C := C.add pins) RD' hD4 (fun _ _ z => by cases z) (fun c q => by rw [hD4]; exact fun z => lst_code (Option.some.inj z)) n0 n1 nDt n3 hH0
        have bd : bad ((C.add pins).at D) ρ σ D := .inr (.inl (.inr rfl))
        have s1 : Same (wo (bad ((C.add pins).at D) ρ σ) H4) (wo (bad ((C.add pins).at D) ρ σ) (upd H4 D (.lst (us ++ [v])))) := fun a o e => by
          obtain ⟨f1, f2⟩ := wo_of e
          exact wo_mk f1 (by rw [upd_ne (fun z => f1 (by rw [z]; exact bd))]; exact f2)
        have s2 : Same (wo (bad (((C.add pins).at D).wp ρ σ vs) ρ2 σ2) H4) (wo (bad ((C.add pins).at D) ρ σ) H4) := wo_mono (fun b z => by
          rcases bad_wp.mpr z with z | z | ⟨j, ds, f1, f2⟩ | z
          · exact .inl z
          · exact .inr (.inl z)
          rotate_left
          · exact .inr (.inr (.inr z))
          · have nj := (dWipe_some f1).2
            exact .inr (.inr (.inl ⟨j, ds, by rw [a3.2.2 j (fun z => nj (hl j z))]; exact f1, by rw [a3.1.2 j (fun z => nj (hl j z))]; exact f2⟩))) fun _ _ _ e => e
        have gd := Dt.mono s1 (Dt.mono s2 (R4.stOf e5 hd))
        have ga := DtAll.mono s1 (DtAll.mono (RD.kp (C := (C.add pins).at D) k) hacc)
        refine ⟨us, hD4, by rw [ga.length]; exact hz', hlt, fun b o nb e => ?_, acc ++ [d], us ++ [v], hR, upd_same, ga.snoc gd, by simp; omega, q5⟩
        rw [upd_ne (ne_of_none e hD)]
        exact (kc.trans k) b o nb e
  · left
    have e : i = items.length := by omega
    subst e
    rw [List.drop_length] at q
    refine ⟨wk.stop ((C.add pins).at D) ρ σ Hc rfl (has_add pins) RD, post (.ref D) Hc (.nw acc) RD.shut.unpin (k1.trans kc) ⟨D, us, rfl, hD0, hDc, DtAll.mono (wo_mono (fun b z => ?_) fun _ _ _ e => e) hacc, hz⟩ q⟩
    exact bad_at.mpr (z.elim (fun z => .inl z) .inr)
end
end My
namespace My
open PySem PySem.Spec PyProof.Rows L2
variable [TB]
section
variable {X : Cx} {pos : Pos}
abbrev FTs (X : Cx) (ifs : List Expr) (t : TTD) : Prop := PTs X ifs (upT X.K t)
theorem fts_nil : FTs X [] dYes := by
  refine ⟨fun pins s σ H Q I h => pts_nil.run pins s σ H Q I ?_⟩
  obtain ⟨C, ρ, Qd, R, h, post⟩ := h
  exact post true H R (Kq.refl _ _) h
theorem fts_one {c : Expr} {t : TTD} (h : FT X c t) : FTs X [c] t := pts_one h
theorem fe_lc {elt tg iter : Expr} {ifs : List Expr} {scope : Scope} {own : List (Str × Nat)} {ti : TID} {l : List Nat} {g : TGD} {tt : TTD} {te : TED} (hc : X.calm = true) (hN : X.N.Nodup) (hi : FI X tg iter ti) (ok : BlkOk X.N X.env.scope scope own)
    (hg : ∀ (s : Shared) (H : Hp) (C : Addr) (cl : List (Str × Addr)) (fp : List Addr), FG (X.blk s H scope (compEnvC scope cl C X.env) fp) tg l g) (ht : ∀ (s : Shared) (H : Hp) (C : Addr) (cl : List (Str × Addr)) (fp : List Addr), FTs (X.blk s H scope (compEnvC scope cl C X.env) fp) ifs tt)
    (he : ∀ (s : Shared) (H : Hp) (C : Addr) (cl : List (Str × Addr)) (fp : List Addr), FE (X.blk s H scope (compEnvC scope cl C X.env) fp) elt te) (hl : ∀ j ∈ l, j ∈ own.map (·.2)) (hs : ∀ x, foldedSetIterable iter X.env x = pure x := by intro _; rfl) :
    FE X (.ListComp elt [⟨tg, iter, ifs, 0⟩] scope pos) (dLc ti g tt te (own.map (·.2))) :=
  (pe_lc hc hN hi ok hg ht he hs).mo (up_lc hl)
theorem fs_setLc {i : Nat} {y : Str} {py : Pos} {elt tg iter : Expr} {ifs : List Expr} {scope : Scope} {own : List (Str × Nat)} {spos : Pos} {ti : TID} {l : List Nat} {g : TGD} {tt : TTD} {te : TED} (hc : X.calm = true) (hN : X.N.Nodup) (hy : X.N[i]? = some y) (hyl : X.env.scope.names.lookup y = some .local)
    (hsw : swapsWith (.ListComp elt [⟨tg, iter, ifs, 0⟩] scope pos) (some (.Name y py)) spos.line X.env = pure true) (hi : FI X tg iter ti) (ok : BlkOk X.N X.env.scope scope own)
    (hg : ∀ (s : Shared) (H : Hp) (C : Addr) (cl : List (Str × Addr)) (fp : List Addr), FG (X.blk s H scope (compEnvC scope cl C X.env) fp) tg l g) (ht : ∀ (s : Shared) (H : Hp) (C : Addr) (cl : List (Str × Addr)) (fp : List Addr), FTs (X.blk s H scope (compEnvC scope cl C X.env) fp) ifs tt)
    (he : ∀ (s : Shared) (H : Hp) (C : Addr) (cl : List (Str × Addr)) (fp : List Addr), FE (X.blk s H scope (compEnvC scope cl C X.env) fp) elt te) (hl : ∀ j ∈ l, j ∈ own.map (·.2)) (hs : ∀ x, foldedSetIterable iter X.env x = pure x := by intro _; rfl) :
    FS X (.Assign [.Name y py] (.ListComp elt [⟨tg, iter, ifs, 0⟩] scope pos) spos) (dSet i (dLc ti g tt te (own.map (·.2)))) :=
  fs_setM (ps_setLc hc hN hy hyl hsw hi ok hg ht he hs) (up_lc hl)
end
abbrev SpD := List D → (D → Prop) → Prop
/-- as an argument -/
def D.arg : D → Option D
  | .p d => some (.p d) | .nw ds => some (.p (.list ds)) | .tape => some .tape | .nt m => some (.p m.dat) | .fv f I => some (.fv f I) | _ => none
def argAll : List D → Option (List D)
  | [] => some []
  | x :: xs => match x.arg, argAll xs with
    | some d, some ds => some (d :: ds)
    | _, _ => none
def RelA (t : TA2) (S0 : Addr → Prop) (H : Hp) (v : V) : D → Prop
  | .p d => Dt (wo S0 H) v d | .tape => v = .ref t.1 | .fv f I => v = .ref f ∧ FnsAt t S0 H I | _ => False
def RelB (S0 : Addr → Prop) (H H' : Hp) (v : V) : D → Prop
  | .p d => Dt (wo S0 H') v d
  | .nw ds => ∃ p vs, v = .ref p ∧ H p = none ∧ H' p = some (.lst vs) ∧ DtAll (wo (fun b => S0 b ∨ b = p) H') vs ds ∧ ds.length ≤ sizeLine
  | _ => False
def spU (K : PySem.W.Frag) (n : Nat) (S : SpD) : Sp := fun vs H Q _ => ∃ (t : TA2) (S0 : Addr → Prop) (xs : List D) (Qd : D → Prop), Tape K H t ∧ Tbs H ∧ S0 t.1 ∧ S0 t.2 ∧ (∀ p ∈ TB.T, S0 p.1) ∧ (∀ b, S0 b → ∃ o, H b = some o) ∧
  Paired (RelA t S0 H) vs xs ∧ xs.length = n ∧ S xs Qd ∧ ∀ v H' x, Tape K H' t → Tbs H' → Kq t H H' → RelB S0 H H' v x → Qd x → Q v H'
theorem spU_len {K : PySem.W.Frag} {n : Nat} {S : SpD} {ps : List Str} (hn : ps.length = n) : ∀ vs H Q E, spU K n S vs H Q E → vs.length = ps.length := by
  rintro vs H Q E ⟨t, S0, xs, Qd, _, _, _, _, _, _, h, hl, _⟩
  rw [h.length, hl, hn]
def dCall (n : Nat) (S : SpD) (t : TAD) : TED := fun ρ Q => t ρ fun xs => ∃ ys, argAll xs = some ys ∧ ys.length = n ∧ S ys Q
section
variable {K : PySem.W.Frag} {C : Cd} {ρ : Ro} {σ : L2.St} {H H1 H2 H' : Hp}
theorem up_call {n : Nat} {S : SpD} {t : TAD} : ∀ σ H Q, up K (dCall n S t) σ H Q → tCall (spU K n S) [] E0 (upA K t) σ H Q := by
  rintro σ H Q ⟨C, ρ, Qd, R, h, post⟩
  refine ⟨C, ρ, _, R, h, fun vs H1 xs R1 k1 e => ?_⟩
  rintro ⟨ys, ha, hn, hs⟩
  show spU K n S (vs ++ []) H1 Q E0
  rw [List.append_nil]
  refine ⟨C.t, bad C ρ σ, ys, _, R1.tp, R1.tab, R1.badT, .inl R1.s2, fun p hp => .inl (R1.s3 p hp), fun b hb => R1.badL hb, ?_, hn, hs, fun v H2 x T tb k r q => post v H2 x (R1.step k T tb) (k1.trans k) ?_ q⟩
  · have go : ∀ {vs : List V} {xs ys : List D}, Paired (RelE C ρ σ H H1) vs xs → argAll xs = some ys → Paired (RelA C.t (bad C ρ σ) H1) vs ys := by
      intro vs xs
      induction xs generalizing vs with
      | nil => intro ys h e; cases h; cases e; exact .nil
      | cons x xs ih =>
        intro ys h e
        cases h with
        | cons h t =>
          unfold argAll at e
          cases e1 : x.arg with
          | none => simp [e1] at e
          | some d =>
            cases e2 : argAll xs with
            | none => simp [e1, e2] at e
            | some ds =>
              simp [e1, e2] at e
              subst e
              refine .cons ?_ (ih t e2)
              cases x with
              | p d => cases e1; exact h
              | own ds => cases e1
              | nw ds => cases e1; exact R.stOf h rfl
              | tape => cases e1; exact h
              | ot m => cases e1
              | nt m => cases e1; exact R.stOf h rfl
              | fv f F => cases e1; exact h
              | bor p m => cases e1
    exact go e ha
  · cases x with
    | p d => exact r
    | own ds => exact r.elim
    | nw ds =>
      obtain ⟨p, us, rfl, h1, h2, h3, h4⟩ := r
      exact ⟨p, us, rfl, k1.free (R1.t1 h1) h1, h2, h3, h4⟩
    | _ => exact r.elim
end
section
variable {X : Cx} {n k : Nat} {ps : List Str} {S : SpD} {x : Str} {p pos : Pos} {e : Expr} {es : List Expr} {t : TAD}
theorem fe_call (gd : X.A.guards = some []) (C : CalG X.prog X.w X.K X.mg X.base k x ps (spU X.K n S)) (hr : Room k X.A) (hg : Gl X x)
    (ha : FA X (e :: es) t) (hdb : (x == ("__debug__" : Str)) = false := by decide)
    (he : starEach (e :: es) X.env = (false, eval e X.env) :: starEach es X.env := by rfl)
    (hpl : (backTo pos (starEach es X.env)).any (·.1) = false := by rfl) :
    FE X (.Call (.Name x p) (e :: es) [] pos) (dCall n S t) := (pe_calG gd C hr hg ha hdb he hpl).mo up_call
end
def iniR : List D → Nat → Ro
  | [], m => List.replicate m none
  | x :: xs, m => some x :: iniR xs m
theorem iniR_eq : ∀ (xs : List D) (m : Nat), iniR xs m = xs.map some ++ List.replicate m none
  | [], m => rfl
  | x :: xs, m => by unfold iniR; rw [iniR_eq xs m]; rfl
/-- what is wanted of a body -/
def endsOf (Q : D → Prop) : EndsD := { nx := fun _ => Q (.p .none), rt := Q }
theorem fn_start {K : PySem.W.Frag} {t : TSD} {n m : Nat} {S : SpD} {N : List Str} {vs : List V} {H : Hp} {Q : VK} {E : XK}
    (hN : N.length = n + m) (hs : ∀ xs Qd, S xs Qd → t (endsOf Qd) (iniR xs m)) (h : spU K n S vs H Q E) :
    upS K t { nx := fun _ h => Q .non h, rt := Q } (L2.start N vs) H := by
  obtain ⟨t0, S0, xs, Qd, T, tb, s1, s2, s3, s0, hv, hl, hS, post⟩ := h
  have hvl : vs.length = n := by rw [hv.length, hl]
  refine ⟨⟨t0, S0, fun _ => False, H, [], [], fun _ => False⟩, iniR xs m, endsOf Qd, ?_, hs xs Qd hS, ?_⟩
  · have nown : ∀ (i : Nat) (ds : List PyData), (iniR xs m)[i]? ≠ some (some (.own ds)) := by
      intro i ds e
      rw [iniR_eq] at e
      by_cases hi : i < xs.length
      · rw [List.getElem?_append_left (by simpa using hi), List.getElem?_map] at e
        cases e1 : xs[i]? with
        | none => rw [e1] at e; cases e
        | some x =>
          rw [e1] at e
          simp at e
          subst e
          obtain ⟨v, e2, r⟩ := paired_get hv e1
          exact r
      · rw [List.getElem?_append_right (by simpa using hi), List.getElem?_replicate] at e
        split at e <;> cases e
    have ntree : ∀ (i : Nat) (tm : M), (iniR xs m)[i]? ≠ some (some (.ot tm)) := by
      intro i tm e
      rw [iniR_eq] at e
      by_cases hi : i < xs.length
      · rw [List.getElem?_append_left (by simpa using hi), List.getElem?_map] at e
        cases e1 : xs[i]? with
        | none => rw [e1] at e; cases e
        | some x =>
          rw [e1] at e
          simp at e
          subst e
          obtain ⟨v, e2, r⟩ := paired_get hv e1
          exact r
      · rw [List.getElem?_append_right (by simpa using hi), List.getElem?_replicate] at e
        split at e <;> cases e
    have nbor : ∀ (i : Nat) (q : Addr) (tm : M), (iniR xs m)[i]? ≠ some (some (D.bor q tm)) := by
      intro i q tm e
      rw [iniR_eq] at e
      by_cases hi : i < xs.length
      · rw [List.getElem?_append_left (by simpa using hi), List.getElem?_map] at e
        cases e1 : xs[i]? with
        | none => rw [e1] at e; cases e
        | some x =>
          rw [e1] at e
          simp at e
          subst e
          obtain ⟨v, e2, r⟩ := paired_get hv e1
          exact r
      · rw [List.getElem?_append_right (by simpa using hi), List.getElem?_replicate] at e
        split at e <;> cases e
    have hbad : ∀ b, bad ⟨t0, S0, fun _ => False, H, [], [], fun _ => False⟩ (iniR xs m) (L2.start N vs) b ↔ S0 b := fun b => by
      constructor
      · rintro (z | z | ⟨i, ds, h1, _⟩ | z)
        · exact z
        · exact z.elim
        · exact (nown i ds h1).elim
        · exact z.elim
      · exact .inl
    refine ⟨?_, fun i x e => ?_, fun i j b ds es h1 => (nown i ds h1).elim, T, Kq.refl _ _, s1, s2, s0, fun b z => z.elim, fun b z => ?_, (by intro q hq; cases hq), (by intro q hq; cases hq), s3, tb, ⟨fun _ => [], fun i m e => (ntree i m e).elim, fun i j m n b h1 => (ntree i m h1).elim, fun i p m e => (nbor i p m e).elim, fun i p m j n h1 => (nbor i p m h1).elim, fun i p m j n h1 => (nbor i p m h1).elim⟩, fun b z => z.elim⟩
    · rw [iniR_eq, List.length_append, List.length_map, List.length_replicate]
      unfold L2.start
      rw [List.length_append, List.length_map, List.length_replicate]
      omega
    · rw [iniR_eq] at e
      by_cases hi : i < xs.length
      · rw [List.getElem?_append_left (by simpa using hi), List.getElem?_map] at e
        cases e1 : xs[i]? with
        | none => rw [e1] at e; cases e
        | some y =>
          rw [e1] at e
          simp at e
          subst e
          obtain ⟨v, e2, r⟩ := paired_get hv e1
          refine ⟨v, ?_, ?_⟩
          · unfold L2.start
            rw [List.getElem?_append_left (by rw [List.length_map]; omega), List.getElem?_map, e2]
            rfl
          · cases y with
            | p d => exact Dt.mono (wo_mono (fun b z => (hbad b).mp z) fun _ _ _ e => e) r
            | tape => exact r
            | fv f I => exact ⟨r.1, r.2.mono (wo_mono (fun b z => (hbad b).mp z) fun _ _ _ e => e) fun _ _ _ e => e⟩
            | _ => exact r.elim
      · rw [List.getElem?_append_right (by simpa using hi), List.getElem?_replicate] at e
        split at e <;> cases e
    · obtain ⟨ys, e⟩ := s0 b z
      exact ⟨_, e⟩
  · refine ⟨fun G ρ σ H' R q => ?_, fun v H' x r q => ?_, fun _ _ _ _ _ q => q.elim, fun _ _ _ _ _ q => q.elim⟩
    · exact post .non H' (.p .none) R.tp R.tab R.ext .non q
    · refine post v H' x r.tp r.tab r.ext ?_ q
      have rr := r.rel
      cases x with
      | p d => exact rr
      | nw ds => exact rr
      | _ => exact rr.elim
where
  paired_get : ∀ {F : V → D → Prop} {vs : List V} {xs : List D} {i : Nat} {x : D}, Paired F vs xs → xs[i]? = some x → ∃ v, vs[i]? = some v ∧ F v x
    | _, _, _, _, _, .nil, e => by simp at e
    | _, _, _, 0, _, .cons h _, e => by simp at e; subst e; exact ⟨_, rfl, h⟩
    | _, _, _, i + 1, _, .cons _ t, e => by
      obtain ⟨d, h1, h2⟩ := paired_get (i := i) t (by simpa using e)
      exact ⟨d, by simpa using h1, h2⟩
theorem fn_body {X : Cx} {body : List Stmt} {t : TSD} {n m : Nat} {S : SpD} {N : List Str} {vs : List V} {H : Hp} {Q : VK} {E : XK}
    (hb : FSs X body t) (hN : N.length = n + m) (hs : ∀ xs Qd, S xs Qd → t (endsOf Qd) (iniR xs m)) (h : spU X.K n S vs H Q E) :
    ∃ t, PSs X body t ∧ t { nx := fun _ h => Q .non h, rt := Q } (L2.start N vs) H := ⟨_, hb, fn_start hN hs h⟩
/-- a def keeps its promise -/
theorem Df.calU {P : Program} {w : World} {K : PySem.W.Frag} {mg : Str → Option Value} {base : Heap} {x : Str} {st : Stmt} {N ps : List Str} {k n m : Nat} {S : SpD} {t : TSD} (D : Df K mg x st ps) (sc : FnScope N ps (defScope st))
    (hn : ps.length = n) (hN : N.length = n + m) (hs : ∀ xs Qd, S xs Qd → t (endsOf Qd) (iniR xs m))
    (hb : ∀ (f : Addr) (cdv : Value) (A : Around) (o : List Env) (s : Shared) (H : Hp) (E : XK),
      Room k (A.deeper (envOfC x (defScope st) s.heap.objs.size f cdv)) → A.guards = some [] →
      FSs (cxOf CX0 P w K mg base N x (defScope st) f cdv A o s H E).nox (defBody st) t) :
    CalG P w K mg base (k + 1) x ps (spU K n S) := by
  refine D.calG sc (spU_len hn) (fun f cdv A o s H vs Q E hr hg h => ?_)
  exact fn_body (hb f cdv A o s H E hr hg) hN hs h
end My
namespace My
open PySem PySem.Spec PyProof.Rows L2
variable [TB]
abbrev RD2 := D → D → (D → Prop) → Prop
theorem orOp {X : Cx} {f : Value → Value → Sem Value} {r1 r2 : R2} (h1 : OpR X f r1) (h2 : OpR X f r2) : OpR X f (fun x y H Q => r1 x y H Q ∨ r2 x y H Q) := by
  intro pins s σ H x y v u Q I rx ry h
  rcases h with h | h
  · exact h1 pins s σ H x y v u Q I rx ry h
  · exact h2 pins s σ H x y v u Q I rx ry h
theorem orLi {K : PySem.W.Frag} {r1 r2 : R2} {d1 d2 : RD2} (h1 : Li2 K r1 d1) (h2 : Li2 K r2 d2) : Li2 K (fun x y H Q => r1 x y H Q ∨ r2 x y H Q) (fun x y Q => d1 x y Q ∨ d2 x y Q) := by
  intro C ρ σ H0 H v u x y Qd Q R k e1 e2 h post
  rcases h with h | h
  · exact .inl (h1 C ρ σ H0 H v u x y Qd Q R k e1 e2 h post)
  · exact .inr (h2 C ρ σ H0 H v u x y Qd Q R k e1 e2 h post)
theorem Li2.mo {K : PySem.W.Frag} {r : R2} {d d' : RD2} (h : Li2 K r d) (m : ∀ x y Q, d' x y Q → d x y Q) : Li2 K r d' := by
  intro C ρ σ H0 H v u x y Qd Q R k e1 e2 q post
  exact h C ρ σ H0 H v u x y Qd Q R k e1 e2 (m _ _ _ q) post
theorem orCa {X : Cx} {f : Value} {r1 r2 : List V → Hp → VK → Prop} (h1 : CallR X f r1) (h2 : CallR X f r2) : CallR X f (fun xs H Q => r1 xs H Q ∨ r2 xs H Q) := by
  intro pins s σ H xs us Q I r h
  rcases h with h | h
  · exact h1 pins s σ H xs us Q I r h
  · exact h2 pins s σ H xs us Q I r h
theorem orLL {K : PySem.W.Frag} {r1 r2 : List V → Hp → VK → Prop} {d1 d2 : List D → (D → Prop) → Prop} (h1 : LiL K r1 d1) (h2 : LiL K r2 d2) : LiL K (fun x H Q => r1 x H Q ∨ r2 x H Q) (fun x Q => d1 x Q ∨ d2 x Q) := by
  intro C ρ σ H0 H vs xs Qd Q R k e h post
  rcases h with h | h
  · exact .inl (h1 C ρ σ H0 H vs xs Qd Q R k e h post)
  · exact .inr (h2 C ρ σ H0 H vs xs Qd Q R k e h post)
theorem LiL.mo {K : PySem.W.Frag} {r : List V → Hp → VK → Prop} {d d' : List D → (D → Prop) → Prop} (h : LiL K r d) (m : ∀ x Q, d' x Q → d x Q) : LiL K r d' := by
  intro C ρ σ H0 H vs xs Qd Q R k e q post
  exact h C ρ σ H0 H vs xs Qd Q R k e (m _ _ q) post
theorem orSl {K : PySem.W.Frag} {r1 r2 : V → Option Int → Option Int → Hp → VK → Prop} {d1 d2 : D → Option Int → Option Int → (D → Prop) → Prop} (h1 : Li3 K r1 d1) (h2 : Li3 K r2 d2) : Li3 K (fun x l u H Q => r1 x l u H Q ∨ r2 x l u H Q) (fun x l u Q => d1 x l u Q ∨ d2 x l u Q) := by
  intro C ρ σ H0 H v x lo hi Qd Q R k e h post
  rcases h with h | h
  · exact .inl (h1 C ρ σ H0 H v x lo hi Qd Q R k e h post)
  · exact .inr (h2 C ρ σ H0 H v x lo hi Qd Q R k e h post)
theorem Li3.mo {K : PySem.W.Frag} {r : V → Option Int → Option Int → Hp → VK → Prop} {d d' : D → Option Int → Option Int → (D → Prop) → Prop} (h : Li3 K r d) (m : ∀ x l u Q, d' x l u Q → d x l u Q) : Li3 K r d' := by
  intro C ρ σ H0 H v x lo hi Qd Q R k e q post
  exact h C ρ σ H0 H v x lo hi Qd Q R k e (m _ _ _ _ q) post
def bAdd (x y : D) (Q : D → Prop) : Prop := match x.ls, y.ls with
  | some ds, some es => ds.length + es.length ≤ sizeLine ∧ Q (.nw (ds ++ es))
  | _, _ => match x, y with
    | .p (.int i), .p (.int j) => Q (.p (.int (i + j)))
    | .p (.str i), .p (.str j) => i.length + j.length ≤ sizeLine ∧ Q (.p (.str (i ++ j)))
    | .p (.tuple ds), .p (.tuple es) => ds.length + es.length ≤ sizeLine ∧ Q (.p (.tuple (ds ++ es)))
    | _, _ => False
section
variable {X : Cx} {a b : Expr} {ta tb : TED} {pos : Pos}
theorem fe_add (ha : FE X a ta) (hb : FE X b tb) : FE X (.BinOp a .Add b pos) (dOp bAdd ta tb) := by
  refine fe_op (orOp op_add (orOp op_add_str (orOp op_catG op_cat))) ((orLi li_I0 (orLi li_catS (orLi li_cat li_catL))).mo ?_) ha hb
  intro x y Q h
  unfold bAdd at h
  split at h
  · exact .inr (.inr (.inr ⟨_, _, by assumption, by assumption, h.1, h.2⟩))
  · split at h
    · exact .inl ⟨_, _, rfl, rfl, h⟩
    · exact .inr (.inl ⟨_, _, rfl, rfl, h.1, h.2⟩)
    · exact .inr (.inr (.inl ⟨_, _, rfl, rfl, h.1, h.2⟩))
    · exact h.elim
theorem DtAll.flat {H : Hp} {vs : List V} {ds : List PyData} (h : DtAll H vs ds) : ∀ n : Nat, DtAll H (List.replicate n vs).flatten (List.replicate n ds).flatten
  | 0 => .nil
  | n + 1 => by
    rw [List.replicate_succ, List.replicate_succ, List.flatten_cons, List.flatten_cons]
    exact h.append (DtAll.flat h n)
def bMul (x y : D) (Q : D → Prop) : Prop := match x.ls, y with
  | some ds, .p (.int k) => (-(2 ^ 63) ≤ k ∧ k < 2 ^ 63 ∧ ds.length * k.toNat ≤ sizeLine) ∧ Q (.nw (List.replicate k.toNat ds).flatten)
  | _, _ => match x, y with
    | .p (.int i), .p (.int j) => CMul i j ∧ Q (.p (.int (i * j)))
    | .p (.tuple ds), .p (.int k) => (2 ≤ k ∧ k ≤ 1000 ∧ ds.length ≤ 1000) ∧ Q (.p (.tuple (List.replicate k.toNat ds).flatten))
    | _, _ => False
def bI (c : Int → Int → Prop) (g : Int → Int → Int) (x y : D) (Q : D → Prop) : Prop := match x, y with
  | .p (.int i), .p (.int j) => c i j ∧ Q (.p (.int (g i j)))
  | _, _ => False
def bI0 (g : Int → Int → Int) (x y : D) (Q : D → Prop) : Prop := match x, y with
  | .p (.int i), .p (.int j) => Q (.p (.int (g i j)))
  | _, _ => False
theorem bI0_of {g : Int → Int → Int} : ∀ x y Q, bI0 g x y Q → rdI0 (fun i j => .int (g i j)) x y Q := by
  intro x y Q h
  unfold bI0 at h
  split at h
  · exact ⟨_, _, rfl, rfl, h⟩
  · exact h.elim
def bSub := bI0 fun i j => i - j
def bMod := bI (fun _ j => 0 < j) fun i j => i % j
def bDiv := bI CDiv fun i j => i / j
def bPow := bI CPow fun i j => i ^ j.toNat
def bShl := bI CShl fun i j => i * 2 ^ j.toNat
def bShr := bI (fun _ j => 0 ≤ j) fun i j => i / 2 ^ j.toNat
def bAnd := bI0 Builtin.bitAnd
def bOr := bI0 Builtin.bitOr
def bXor := bI0 Builtin.bitXor
theorem fe_sub (ha : FE X a ta) (hb : FE X b tb) : FE X (.BinOp a .Sub b pos) (dOp bSub ta tb) := fe_op op_sub (li_I0.mo bI0_of) ha hb
def uI (g : Int → Int) (x : D) (Q : D → Prop) : Prop := match x with
  | .p (.int i) => Q (.p (.int (g i)))
  | _ => False
theorem Li1.mo {K : PySem.W.Frag} {r : V → Hp → VK → Prop} {d d' : D → (D → Prop) → Prop} (h : Li1 K r d) (m : ∀ x Q, d' x Q → d x Q) : Li1 K r d' := by
  intro C ρ σ H0 H v x Qd Q R k e1 q post
  exact h C ρ σ H0 H v x Qd Q R k e1 (m _ _ q) post
def uNeg := uI fun i => -i
def uInv := uI Builtin.bitNot
def eqOk (d e : PyData) : Bool := sc2 d e || (SeqAt.shaped d && SeqAt.shaped e)
theorem sceq_eqv {d e : PyData} (h : sc2 d e = true) : sceq d e = PyData.eqv d e := by
  cases d <;> cases e <;> first | (simp [sc2] at h; done) | (simp only [sceq, PyData.eqv]; done) | (simp only [sceq, PyData.eqv]; rw [Bool.eq_iff_iff]; simp)
def bEqN (neg : Bool) (x y : D) (Q : D → Prop) : Prop := match x.dat, y.dat with
  | some d, some e => eqOk d e = true ∧ Q (.p (.bool (if neg = true then !PyData.eqv d e else PyData.eqv d e)))
  | _, _ => False
theorem sc2_p {x y : D} {d e : PyData} (hx : x.dat = some d) (hy : y.dat = some e) (h : sc2 d e = true) : x = .p d ∧ y = .p e := by
  constructor
  · cases x with
    | p d' => cases hx; rfl
    | own ds => cases hx; cases e <;> simp [sc2] at h
    | nw ds => cases hx; cases e <;> simp [sc2] at h
    | tape => cases hx
    | ot m => cases m <;> cases hx <;> cases e <;> simp [sc2] at h
    | nt m => cases m <;> cases hx <;> cases e <;> simp [sc2] at h
    | fv f F => cases hx
    | bor p m => cases hx
  · cases y with
    | p d' => cases hy; rfl
    | own ds => cases hy; cases d <;> simp [sc2] at h
    | nw ds => cases hy; cases d <;> simp [sc2] at h
    | tape => cases hy
    | ot m => cases m <;> cases hy <;> cases d <;> simp [sc2] at h
    | nt m => cases m <;> cases hy <;> cases d <;> simp [sc2] at h
    | fv f F => cases hy
    | bor p m => cases hy
theorem bEq_of : ∀ x y Q, bEqN false x y Q → rdEq x y Q ∨ rdEqD x y Q := by
  intro x y Q h
  unfold bEqN at h
  split at h
  · rename_i d e hd he
    obtain ⟨h1, q⟩ := h
    rw [if_neg Bool.false_ne_true] at q
    unfold eqOk at h1
    cases s : sc2 d e with
    | true =>
      obtain ⟨rfl, rfl⟩ := sc2_p hd he s
      exact .inl ⟨d, e, rfl, rfl, s, by rw [sceq_eqv s]; exact q⟩
    | false =>
      rw [s] at h1
      simp at h1
      exact .inr ⟨d, e, hd, he, h1.1, h1.2, q⟩
  · exact h.elim
theorem bNe_of : ∀ x y Q, bEqN true x y Q → rdNe x y Q ∨ rdNeD x y Q := by
  intro x y Q h
  unfold bEqN at h
  split at h
  · rename_i d e hd he
    obtain ⟨h1, q⟩ := h
    rw [if_pos rfl] at q
    unfold eqOk at h1
    cases s : sc2 d e with
    | true =>
      obtain ⟨rfl, rfl⟩ := sc2_p hd he s
      exact .inl ⟨d, e, rfl, rfl, s, by rw [sceq_eqv s]; exact q⟩
    | false =>
      rw [s] at h1
      simp at h1
      exact .inr ⟨d, e, hd, he, h1.1, h1.2, q⟩
  · exact h.elim
abbrev bEq := bEqN false
abbrev bNe := bEqN true
/-- the rule of a comparison, by its values -/
structure CmpU (X : Cx) (op : CmpOp) (rd : RD2) : Prop where
  ex : ∃ r, OpR X (compareOp op) r ∧ Li2 X.K r rd
theorem cu_eq (hu : X.A.units + 64 < cLine) : CmpU X .Eq bEq := ⟨_, orOp op_eq (op_eqD hu), (orLi li_eq li_eqD).mo bEq_of⟩
theorem cu_ne (hu : X.A.units + 64 < cLine) : CmpU X .NotEq bNe := ⟨_, orOp op_ne (op_neD hu), (orLi li_ne li_neD).mo bNe_of⟩
theorem fe_cu {op : CmpOp} {rd : RD2} (c : CmpU X op rd) (ha : FE X a ta) (hb : FE X b tb) (hm : behindInMarks op b = false) : FE X (.Compare a [op] [b] pos) (dOp rd ta tb) := by
  obtain ⟨r, h1, h2⟩ := c.ex
  exact fe_cmp h1 h2 ha hb hm
theorem ft_cu {op : CmpOp} {rd : RD2} (c : CmpU X op rd) (ha : FE X a ta) (hb : FE X b tb) (hm : behindInMarks op b = false) : FT X (.Compare a [op] [b] pos) (dTest (dOp rd ta tb)) := by
  obtain ⟨r, h1, h2⟩ := c.ex
  exact ft_cmp h1 h2 ha hb hm
def bLt (x y : D) (Q : D → Prop) : Prop := match x, y with
  | .p (.int i), .p (.int j) => Q (.p (.bool (decide (i < j))))
  | .p (.str i), .p (.str j) => Q (.p (.bool (decide (i.cps.toList < j.cps.toList))))
  | .p (.tuple d), .p (.tuple e) => (PySem.W.alike (.tuple d) (.tuple e) = true ∧ (PyData.tuple d).depth ≤ 30 ∧ (PyData.tuple d).hasDict = false ∧ (PyData.tuple e).hasDict = false) ∧ Q (.p (.bool (PySem.W.dataLt (.tuple d) (.tuple e))))
  | _, _ => False
theorem cu_lt (hu : X.A.units + 64 < cLine) : CmpU X .Lt bLt := by
  refine ⟨_, orOp op_lt (orOp op_lt_str (op_ltD hu)), (orLi li_B0 (orLi li_ltS li_ltD)).mo ?_⟩
  intro x y Q h
  unfold bLt at h
  split at h
  · exact .inl ⟨_, _, rfl, rfl, h⟩
  · exact .inr (.inl ⟨_, _, rfl, rfl, trivial, h⟩)
  · exact .inr (.inr ⟨_, _, rfl, rfl, h.1.1, (fun z => nomatch z), h.1.2.1, h.1.2.2, h.2⟩)
  · exact h.elim
theorem li_S {K : PySem.W.Frag} {g : Str → Str → Bool} : Li2 K (fun x y H Q => ∃ i j, x = .str i ∧ y = .str j ∧ Q (.bl (g i j)) H) (rdS (fun _ _ => True) fun i j => .bool (g i j)) := by
  rintro C ρ σ H0 H v u x y Qd Q R k e1 e2 ⟨i, j, rfl, rfl, _, q⟩ post
  exact ⟨i, j, rel_str e1, rel_str e2, post _ H (.p (.bool _)) R (Kq.refl _ _) (.bl _) q⟩
def bIS (g : Int → Int → Bool) (s : Str → Str → Bool) (x y : D) (Q : D → Prop) : Prop := match x, y with
  | .p (.int i), .p (.int j) => Q (.p (.bool (g i j)))
  | .p (.str i), .p (.str j) => Q (.p (.bool (s i j)))
  | _, _ => False
theorem bIS_of {g : Int → Int → Bool} {s : Str → Str → Bool} : ∀ x y Q, bIS g s x y Q → rdI0 (fun i j => .bool (g i j)) x y Q ∨ rdS (fun _ _ => True) (fun i j => .bool (s i j)) x y Q := by
  intro x y Q h
  unfold bIS at h
  split at h
  · exact .inl ⟨_, _, rfl, rfl, h⟩
  · exact .inr ⟨_, _, rfl, rfl, trivial, h⟩
  · exact h.elim
def bLe := bIS (fun i j => decide (i ≤ j)) fun i j => !decide (j.cps.toList < i.cps.toList)
def bGt := bIS (fun i j => decide (j < i)) fun i j => decide (j.cps.toList < i.cps.toList)
def bGe := bIS (fun i j => decide (j ≤ i)) fun i j => !decide (i.cps.toList < j.cps.toList)
theorem cu_gt : CmpU X .Gt bGt := ⟨_, orOp op_gt op_gt_str, (orLi li_B0 li_S).mo bIS_of⟩
def bIs (x y : D) (Q : D → Prop) : Prop := match y with
  | .p .none => Q (.p (.bool x.isNone))
  | _ => False
def bIsnt (x y : D) (Q : D → Prop) : Prop := match y with
  | .p .none => Q (.p (.bool (!x.isNone)))
  | _ => False
theorem cu_is : CmpU X .Is bIs := by
  refine ⟨_, op_isN, li_isN.mo ?_⟩
  intro x y Q h
  unfold bIs at h
  split at h
  · exact ⟨rfl, h⟩
  · exact h.elim
theorem cu_isnt : CmpU X .IsNot bIsnt := by
  refine ⟨_, op_notN, li_notN.mo ?_⟩
  intro x y Q h
  unfold bIsnt at h
  split at h
  · exact ⟨rfl, h⟩
  · exact h.elim
theorem li_inS {K : PySem.W.Frag} : Li2 K (fun x y H Q => ∃ (c : Nat) (z : Str), x = .str ⟨#[c]⟩ ∧ y = .str z ∧ Q (.bl (decide (c ∈ z.cps.toList))) H) (rdInS false) := by
  rintro C ρ σ H0 H v u x y Qd Q R k e1 e2 ⟨c, z, rfl, rfl, q⟩ post
  exact ⟨c, z, rel_str e1, rel_str e2, post _ H (.p (.bool _)) R (Kq.refl _ _) (.bl _) q⟩
/-- x in y: a sign in a text; flat things; things of any depth in a list -/
def inOk (x y : D) (d : PyData) (ds : List PyData) : Prop := (x = .p d ∧ fl d = true ∧ ds.all fl = true) ∨ (y.ls = some ds ∧ SeqAt.shaped d = true ∧ SeqAt.shaped (.list ds) = true)
def bInN (neg : Bool) (x y : D) (Q : D → Prop) : Prop := match y with
  | .p (.str z) => match x with
    | .p (.str a) => match a.cps.toList with
      | [c] => Q (.p (.bool (if neg = true then !decide (c ∈ z.cps.toList) else decide (c ∈ z.cps.toList))))
      | _ => False
    | _ => False
  | y => match x.dat, y.sq with
    | some d, some ds => inOk x y d ds ∧ Q (.p (.bool (if neg = true then !(ds.any fun z => PyData.eqv z d) else ds.any fun z => PyData.eqv z d)))
    | _, _ => False
theorem one_sign {a : Str} {c : Nat} (h : a.cps.toList = [c]) : a = ⟨#[c]⟩ := by
  cases a with
  | mk arr =>
    have : arr = #[c] := by
      apply Array.ext'
      simpa using h
    rw [this]
theorem cu_in (hu : X.A.units + 65 < cLine) : CmpU X .In (bInN false) := by
  refine ⟨_, orOp op_in_sign (orOp op_in_seq (op_inD hu)), (orLi li_inS (orLi (li_in false) li_inD)).mo ?_⟩
  intro x y Q h
  unfold bInN at h
  split at h
  · split at h
    · split at h
      · rename_i c e
        exact .inl ⟨c, _, by rw [one_sign e], rfl, h⟩
      · exact h.elim
    · exact h.elim
  · split at h
    · obtain ⟨(⟨h1, h2, h3⟩ | ⟨h1, h2, h3⟩), q⟩ := h
      · exact .inr (.inl ⟨_, _, h1, by assumption, h2, h3, q⟩)
      · exact .inr (.inr ⟨_, _, by assumption, h1, h2, h3, q⟩)
    · exact h.elim
end
end My
namespace My
open PySem PySem.Spec PyProof.Rows L2
variable [TB]
def bIx (x y : D) (Q : D → Prop) : Prop := match x, y with
  | .p (.str z), .p (.int i) => z.length ≤ sizeLine ∧ ∃ c, atI z.cps.toList i = some c ∧ Q (.p (.str ⟨#[c]⟩))
  | x, .p (.int i) => match x.sq with
    | some ds => ∃ d, atI ds i = some d ∧ Q (.p d)
    | _ => False
  | _, _ => False
section
variable {X : Cx} {a b : Expr} {ta tb : TED} {pos : Pos}
theorem fe_bix (ha : FE X a ta) (hb : FE X b tb) (hs : PlainIx b) : FE X (.Subscript a b pos) (dOp bIx ta tb) := by
  refine fe_ix (IxR.or ix_sq ix_str) ((orLi li_ix li_ixS).mo ?_) ha hb hs
  intro x y Q h
  unfold bIx at h
  split at h
  · obtain ⟨h1, c, h2, q⟩ := h
    exact .inr ⟨_, _, c, rfl, rfl, h1, h2, q⟩
  · split at h
    · obtain ⟨d, h2, q⟩ := h
      exact .inl ⟨_, _, d, by assumption, rfl, h2, q⟩
    · exact h.elim
  · exact h.elim
def bSl (x : D) (lo hi : Option Int) (Q : D → Prop) : Prop := match x with
  | .p (.str z) => z.length ≤ sizeLine ∧ Q (.p (.str (cutS z lo hi)))
  | .p (.tuple ds) => Q (.p (.tuple (cutD ds lo hi)))
  | x => match x.ls with
    | some ds => ds.length ≤ sizeLine ∧ Q (.nw (cutD ds lo hi))
    | _ => False
def rdSlS : D → Option Int → Option Int → (D → Prop) → Prop := fun x lo hi Q => ∃ z : Str, x = .p (.str z) ∧ z.length ≤ sizeLine ∧ Q (.p (.str (cutS z lo hi)))
theorem li_slS {K : PySem.W.Frag} : Li3 K rSlS rdSlS := by
  rintro C ρ σ H0 H v x lo hi Qd Q R k e1 ⟨z, rfl, h1, q⟩ post
  exact ⟨z, rel_str e1, h1, post _ H (.p (.str _)) R (Kq.refl _ _) (.str _) q⟩
theorem fe_bsl {lo hi : Option Expr} {p2 : Pos} {tl th : TOD} (he : FE X a ta) (hl : FO X lo tl) (hu : FO X hi th) : FE X (.Subscript a (.Slice lo hi none p2) pos) (dSl bSl ta tl th) := by
  refine fe_slice (SlR.or sl_str (SlR.or sl_tupG sl_list)) ((orSl li_slS (orSl li_slT li_slL)).mo ?_) he hl hu
  intro x lo hi Q h
  unfold bSl at h
  split at h
  · exact .inl ⟨_, rfl, h.1, h.2⟩
  · exact .inr (.inl ⟨_, rfl, h⟩)
  · split at h
    · exact .inr (.inr ⟨_, by assumption, h.1, h.2⟩)
    · exact h.elim
end
def c1 (f : D → (D → Prop) → Prop) (xs : List D) (Q : D → Prop) : Prop := match xs with
  | [x] => f x Q
  | _ => False
def c2 (f : D → D → (D → Prop) → Prop) (xs : List D) (Q : D → Prop) : Prop := match xs with
  | [x, y] => f x y Q
  | _ => False
theorem c1_of {f : D → (D → Prop) → Prop} {g : List D → (D → Prop) → Prop} (h : ∀ x Q, f x Q → g [x] Q) : ∀ xs Q, c1 f xs Q → g xs Q := by
  intro xs Q q
  unfold c1 at q
  split at q
  · exact h _ _ q
  · exact q.elim
theorem c2_of {f : D → D → (D → Prop) → Prop} {g : List D → (D → Prop) → Prop} (h : ∀ x y Q, f x y Q → g [x, y] Q) : ∀ xs Q, c2 f xs Q → g xs Q := by
  intro xs Q q
  unfold c2 at q
  split at q
  · exact h _ _ _ q
  · exact q.elim
def kLen (x : D) (Q : D → Prop) : Prop := match x with
  | .p (.str z) => z.length ≤ sizeLine ∧ Q (.p (.int z.length))
  | x => match x.sq with
    | some ds => Q (.p (.int ds.length))
    | _ => False
section
variable {X : Cx} {a : Expr} {es : List Expr} {t : TAD} {p pos : Pos}
theorem li_lenS {K : PySem.W.Frag} : LiL K (fun xs H Q => ∃ z, xs = [.str z] ∧ z.length ≤ sizeLine ∧ Q (.int z.length) H) rdLenS := by
  rintro C ρ σ H0 H vs xs Qd Q R k e0 ⟨z, rfl, h1, q⟩ post
  obtain ⟨v, rfl, e⟩ := p1 e0
  exact ⟨z, by rw [rel_str e], h1, post _ H (.p (.int _)) R (Kq.refl _ _) (.int _) q⟩
/-- the rule of a built-in function, of a built-in type -/
structure BuU (X : Cx) (f : Value) (rd : List D → (D → Prop) → Prop) : Prop where
  ex : ∃ r, CallR X f r ∧ LiL X.K r rd
theorem bu_len : BuU X (.builtin "len") (c1 kLen) := by
  refine ⟨_, orCa call_lenK call_len_str, (orLL li_len li_lenS).mo (c1_of ?_)⟩
  intro x Q h
  unfold kLen at h
  split at h
  · exact .inr ⟨_, rfl, h.1, h.2⟩
  · split at h
    · exact .inl ⟨_, _, rfl, by assumption, h⟩
    · exact h.elim
def kTup (x : D) (Q : D → Prop) : Prop := match x with
  | .p (.tuple ds) => Q (.p (.tuple ds))
  | x => match x.ls with
    | some ds => Q (.p (.tuple ds))
    | _ => False
def rTupSame (K : PySem.W.Frag) : List V → Hp → VK → Prop := fun xs H Q => ∃ p ys, xs = [.ref p] ∧ SqT K H p ys ∧ Q (.ref p) H
theorem call_tupSame : CallR X (.type "tuple") (rTupSame X.K) := by
  intro pins s σ H xs us Q I r h
  obtain ⟨p, ys, h1, h2, q⟩ := h
  exact call_tupK pins s σ H xs us Q I r ⟨p, ys, h1, .inr ⟨h2, q⟩⟩
theorem li_tupSame {K : PySem.W.Frag} : LiL K (rTupSame K) (fun xs Q => ∃ ds, xs = [.p (.tuple ds)] ∧ Q (.p (.tuple ds))) := by
  rintro C ρ σ H0 H vs xs Qd Q R k e0 ⟨ds, rfl, q⟩ post
  obtain ⟨v, rfl, e⟩ := p1 e0
  obtain ⟨a, vs, rfl, t1, d1⟩ := R.tupOf e
  exact ⟨a, vs, rfl, t1.sq, post _ H (.p (.tuple ds)) R (Kq.refl _ _) e q⟩
theorem bu_tup : BuU X (.type "tuple") (c1 kTup) := by
  refine ⟨_, orCa call_tupG call_tupSame, (orLL li_tupL li_tupSame).mo (c1_of ?_)⟩
  intro x Q h
  unfold kTup at h
  split at h
  · exact .inr ⟨_, rfl, h⟩
  · split at h
    · exact .inl ⟨_, _, rfl, by assumption, h⟩
    · exact h.elim
def kLis (x : D) (Q : D → Prop) : Prop := match x.sq with
  | some ds => ds.length ≤ sizeLine ∧ Q (.nw ds)
  | _ => False
def kInt (x : D) (Q : D → Prop) : Prop := match x with
  | .p (.int i) => Q (.p (.int i))
  | .p (.bool b) => Q (.p (.int (b2d b)))
  | _ => False
def kAbs (x : D) (Q : D → Prop) : Prop := match x with
  | .p (.int i) => Q (.p (.int i.natAbs))
  | _ => False
def kMax (x y : D) (Q : D → Prop) : Prop := match x, y with
  | .p (.int i), .p (.int j) => Q (.p (.int (max i j)))
  | _, _ => False
def kMin (x y : D) (Q : D → Prop) : Prop := match x, y with
  | .p (.int i), .p (.int j) => Q (.p (.int (min i j)))
  | _, _ => False
theorem bu_min (hc : X.calm = true) : BuU X (.builtin "min") (c2 kMin) := by
  refine ⟨_, call_min2 hc, li_min.mo (c2_of ?_)⟩
  intro x y Q h
  unfold kMin at h
  split at h
  · exact ⟨_, _, rfl, h⟩
  · exact h.elim
def repOk (d : PyData) : Prop := d.showable = true ∧ d.hasDict = false ∧ d.depth ≤ 40 ∧ d.shown.length ≤ sizeLine
def kRep (x : D) (Q : D → Prop) : Prop := match x.dat with
  | some d => repOk d ∧ Q (.p (.str d.shown))
  | _ => False
def intsOf : List PyData → Option (List Int)
  | [] => some []
  | .int i :: r => (intsOf r).map (i :: ·)
  | _ => none
def boolsOf : List PyData → Option (List Bool)
  | [] => some []
  | .bool i :: r => (boolsOf r).map (i :: ·)
  | _ => none
def strsOf : List PyData → Option (List Str)
  | [] => some []
  | .str i :: r => (strsOf r).map (i :: ·)
  | _ => none
theorem intsOf_eq : ∀ {ds : List PyData} {ns : List Int}, intsOf ds = some ns → ds = ns.map PyData.int
  | [], ns, h => by cases h; rfl
  | d :: ds, ns, h => by
    cases d <;> simp [intsOf] at h
    obtain ⟨r, h1, rfl⟩ := h
    rw [intsOf_eq h1]; rfl
theorem intsOf_map : ∀ ns : List Int, intsOf (ns.map PyData.int) = some ns
  | [] => rfl
  | n :: ns => by simp [intsOf, intsOf_map ns]
theorem boolsOf_map : ∀ ns : List Bool, boolsOf (ns.map PyData.bool) = some ns
  | [] => rfl
  | n :: ns => by simp [boolsOf, boolsOf_map ns]
def kSum (x : D) (Q : D → Prop) : Prop := match x.ls with
  | some ds => match intsOf ds with
    | some ns => Q (.p (.int ns.sum))
    | _ => False
  | _ => False
def kAny (x : D) (Q : D → Prop) : Prop := match x.ls with
  | some ds => match boolsOf ds with
    | some ns => Q (.p (.bool (ns.any id)))
    | _ => False
  | _ => False
def kAll (x : D) (Q : D → Prop) : Prop := match x.ls with
  | some ds => match boolsOf ds with
    | some ns => Q (.p (.bool (ns.all id)))
    | _ => False
  | _ => False
theorem bu_sum (hc : X.calm = true) : BuU X (.builtin "sum") (c1 kSum) := by
  refine ⟨_, cr_sum hc, li_sum.mo (c1_of ?_)⟩
  intro x Q h
  unfold kSum at h
  split at h
  · split at h
    · rename_i ds e1 _ ns e2
      exact ⟨_, ns, rfl, by rw [← intsOf_eq e2]; exact e1, h⟩
    · exact h.elim
  · exact h.elim
theorem fe_bu {x : Str} {rd : List D → (D → Prop) → Prop} {id : String} (hc : BuU X (.builtin id) rd) (hg : Gl X x) (hm : X.mg x = none) (hv : bootBuiltins x = some (.builtin id)) (ha : FA X (a :: es) t) (hn : x ≠ "__name__" := by decide) (hdb : (x == ("__debug__" : Str)) = false := by decide)
    (he : starEach (a :: es) X.env = (false, eval a X.env) :: starEach es X.env := by rfl) (hpl : (backTo pos (starEach es X.env)).any (·.1) = false := by rfl) : FE X (.Call (.Name x p) (a :: es) [] pos) (dCB rd t) := by
  obtain ⟨r, h1, h2⟩ := hc.ex
  exact fe_cb h1 h2 hg hm hv ha hn hdb he hpl
theorem fe_but {x : Str} {rd : List D → (D → Prop) → Prop} {T : String} (hc : BuU X (.type T) rd) (hg : Gl X x) (hm : X.mg x = none) (hv : bootBuiltins x = some (.type T)) (ha : FA X (a :: es) t) (hn : x ≠ "__name__" := by decide) (hdb : (x == ("__debug__" : Str)) = false := by decide)
    (he : starEach (a :: es) X.env = (false, eval a X.env) :: starEach es X.env := by rfl) (hpl : (backTo pos (starEach es X.env)).any (·.1) = false := by rfl) : FE X (.Call (.Name x p) (a :: es) [] pos) (dCB rd t) := by
  obtain ⟨r, h1, h2⟩ := hc.ex
  exact fe_ct h1 h2 hg hm hv ha hn hdb he hpl
end
end My
namespace My
open PySem PySem.Spec PyProof.Rows L2
variable [TB]
def isiB (T : String) : D → Option Bool
  | .p (.tuple _) => kitB "tuple" T
  | .p (.list _) => kitB "list" T
  | .p (.str _) => kitB "str" T
  | .p (.int _) => kitB "int" T
  | .p (.bool _) => kitB "bool" T
  | .p .none => kitB "NoneType" T
  | .own _ => kitB "list" T
  | .nw _ => kitB "list" T
  | _ => none
def dIsi (T : String) (ta : TED) : TED := fun ρ Q => ta ρ fun x => ∃ b, isiB T x = some b ∧ Q (.p (.bool b))
section
variable {X : Cx} {pos : Pos}
theorem tyX_of {K : PySem.W.Frag} {C : Cd} {ρ : Ro} {σ : L2.St} {H0 H : Hp} {v : V} {x : D} {T : String} {b : Bool} (R : Rep K C ρ σ H) (e : RelE C ρ σ H0 H v x) (h : isiB T x = some b) : ∃ t, TyX K H v t ∧ PySem.W.kitOne K t (.type T) = some b := by
  have lst : ∀ (p : Addr) (us : List V), H p = some (.lst us) → kitB "list" T = some b → ∃ t, TyX K H (.ref p) t ∧ PySem.W.kitOne K t (.type T) = some b := fun p us hp hk =>
    ⟨_, .base (.lst hp), kit_ty hk⟩
  cases x with
  | p d =>
    cases e with
    | non => exact ⟨_, .base .non, kit_ty h⟩
    | bl c => exact ⟨_, .base (.bl c), kit_ty h⟩
    | int i => exact ⟨_, .base (.int i), kit_ty h⟩
    | str z => exact ⟨_, .base (.str z), kit_ty h⟩
    | tup h1 h2 =>
      obtain ⟨o, h3, _⟩ := h1.mo
      exact ⟨_, .fTuple h3, kit_ty h⟩
    | lst h1 h2 => exact lst _ _ (wo_of h1).2 h
    | dic h1 h2 h3 h4 => cases h
  | own ds =>
    obtain ⟨p, us, rfl, h2, _⟩ := R.ofOwn e
    exact lst _ _ h2 h
  | nw ds =>
    obtain ⟨p, us, rfl, _, h2, _⟩ := e
    exact lst _ _ h2 h
  | _ => cases h
theorem fe_isi {a : Expr} {ta : TED} {T : Str} {Ts : String} {p p2 : Pos} (hg : Gl X "isinstance") (hm : X.mg "isinstance" = none) (ha : FE X a ta) (hT : PE X (.Name T p2) (tC (.ty Ts)))
    (he : starEach [a, .Name T p2] X.env = (false, eval a X.env) :: starEach [.Name T p2] X.env := by rfl) (hpl : (backTo pos (starEach [.Name T p2] X.env)).any (·.1) = false := by rfl)
    (he2 : starEach [.Name T p2] X.env = (false, eval (.Name T p2) X.env) :: starEach [] X.env := by rfl) :
    FE X (.Call (.Name "isinstance" p) [a, .Name T p2] [] pos) (dIsi Ts ta) := by
  refine (pe_callB (id := "isinstance") (r := rIsi X.K) call_isi hg hm (by decide +kernel) (pa_cons ha (pa_cons hT pa_nil he2) he) (by decide) (by decide) he hpl).mo ?_
  rintro σ H Q ⟨C, ρ, Qd, R, h, post⟩
  refine ⟨C, ρ, _, R, h, ?_⟩
  rintro v H1 x R1 k1 e ⟨b, hb, q⟩
  obtain ⟨t, h1, h2⟩ := tyX_of R1 e hb
  exact ⟨v, .ty Ts, t, .type Ts, b, rfl, .ty Ts, h1, h2, post _ H1 (.p (.bool b)) R1 k1 (.bl _) q⟩
def kJoin (s : Str) (y : D) (Q : D → Prop) : Prop := match y.sq with
  | some ds => match strsOf ds with
    | some ys => (ys.map (·.length)).sum + ys.length * s.length ≤ 16777216 ∧ Q (.p (.str (Txt.join s ys)))
    | _ => False
  | _ => False
def dJoin (ta tb : TED) : TED := fun ρ Q => ta ρ fun x => match x with
  | .p (.str s) => tb ρ fun y => kJoin s y Q
  | _ => False
def dBits (ta : TED) : TED := fun ρ Q => ta ρ fun x => match x with
  | .p (.int i) => Q (.p (.int (Builtin.Int.intBits i : Nat)))
  | _ => False
def ixOf (d : PyData) : List PyData → Option Nat
  | [] => none
  | e :: r => if PyData.eqv e d = true then some 0 else (ixOf d r).map (· + 1)
def kIndex (x y : D) (Q : D → Prop) : Prop := match x, y with
  | .p (.tuple ds), .p (.str z) => (strsOf ds).isSome = true ∧ ∃ j, ixOf (.str z) ds = some j ∧ Q (.p (.int (j : Nat)))
  | x, .p d => match x.ls with
    | some ds => (fl d = true ∧ ds.all fl = true) ∧ ∃ j, ixOf d ds = some j ∧ Q (.p (.int (j : Nat)))
    | _ => False
  | _, _ => False
def dIndex (ta tb : TED) : TED := fun ρ Q => ta ρ fun x => x.sq.isSome = true ∧ tb ρ fun y => kIndex x y Q
end
end My
namespace My
open PySem PySem.Spec PyProof.Rows L2
variable [TB]
section
variable {X : Cx} {tg it : Expr} {pos : Pos}
theorem keyL {K : PySem.W.Frag} {a : Addr} {ds : List PyData} {w : Pn} (hm : (V.ref a, PyData.list ds) ∈ w.1) {C' : Cd} {ρ : Ro} {σ : L2.St} {H : Hp} (hp : Has C' w) (R : Rep K C' ρ σ H) : ∃ us, SqL K H a us ∧ DtAll (wo (bad C' ρ σ) H) us ds := by
  have z := (R.pin _ (hp.1 _ hm)).lst
  cases z with
  | lst t2 d2 => exact ⟨_, SqL.of (wo_of t2).2, d2⟩
theorem keyT {K : PySem.W.Frag} {a : Addr} {ds : List PyData} {w : Pn} (hm : (V.ref a, PyData.tuple ds) ∈ w.1) {C' : Cd} {ρ : Ro} {σ : L2.St} {H : Hp} (hp : Has C' w) (R : Rep K C' ρ σ H) : ∃ us, SqT K H a us ∧ DtAll (wo (bad C' ρ σ) H) us ds := by
  have z := (R.pin _ (hp.1 _ hm)).tup
  cases z with
  | tup t2 d2 => exact ⟨_, t2.mo.sq, d2⟩
theorem wdL {K : PySem.W.Frag} {C : Cd} {a : Addr} {ds : List PyData} : WalkD K C ([(V.ref a, PyData.list ds)], []) (Itl K a) (ds.map ItD.one) := by
  refine ⟨fun C' ρ' σ' H' i x ht hp R' hx => ?_, fun C' ρ' σ' H' ht hp R' => ?_⟩
  · obtain ⟨us, s1, s2⟩ := keyL (List.mem_singleton.mpr rfl) hp R'
    obtain ⟨d, hd, rfl⟩ := ones_get hx
    obtain ⟨w, hw, s3⟩ := s2.of hd
    refine ⟨⟨us, w, s1, hw⟩, ?_⟩
    rintro v H2 ⟨rfl, y⟩
    have := y us s1
    rw [hw] at this; cases this
    exact ⟨Kq.refl _ _, R', s3⟩
  · obtain ⟨us, s1, s2⟩ := keyL (List.mem_singleton.mpr rfl) hp R'
    exact ⟨us, s1, by rw [List.length_map, s2.length]; exact Nat.le_refl _⟩
theorem wdT {K : PySem.W.Frag} {C : Cd} {a : Addr} {ds : List PyData} : WalkD K C ([(V.ref a, PyData.tuple ds)], []) (Itt K a) (ds.map ItD.one) := by
  refine ⟨fun C' ρ' σ' H' i x ht hp R' hx => ?_, fun C' ρ' σ' H' ht hp R' => ?_⟩
  · obtain ⟨us, s1, s2⟩ := keyT (List.mem_singleton.mpr rfl) hp R'
    obtain ⟨d, hd, rfl⟩ := ones_get hx
    obtain ⟨w, hw, s3⟩ := s2.of hd
    refine ⟨⟨us, w, s1, hw⟩, ?_⟩
    rintro v H2 ⟨rfl, y⟩
    have := y us s1
    rw [hw] at this; cases this
    exact ⟨Kq.refl _ _, R', s3⟩
  · obtain ⟨us, s1, s2⟩ := keyT (List.mem_singleton.mpr rfl) hp R'
    exact ⟨us, s1, by rw [List.length_map, s2.length]; exact Nat.le_refl _⟩
theorem wdS {K : PySem.W.Frag} {C : Cd} {z : Str} : WalkD K C ([], []) (Its z) (chD z) := by
  refine ⟨fun C' ρ' σ' H' i x ht hp R' hx => ?_, fun C' ρ' σ' H' ht hp R' => ?_⟩
  · unfold chD at hx
    rw [List.getElem?_map] at hx
    cases e : z.cps.toList[i]? with
    | none => rw [e] at hx; cases hx
    | some c =>
      rw [e] at hx
      cases hx
      obtain ⟨hi, _⟩ := List.getElem?_eq_some_iff.mp e
      refine ⟨show i < z.cps.size by simpa using hi, ?_⟩
      rintro v H2 ⟨rfl, c', h1, rfl⟩
      rw [← Array.getElem?_toList, e] at h1
      cases h1
      exact ⟨Kq.refl _ _, R', .str _⟩
  · show z.cps.size ≤ _
    unfold chD
    rw [List.length_map, Array.length_toList]
    exact Nat.le_refl _
def iAny (K : PySem.W.Frag) (tl : TE) : TI := fun σ H R => tl σ H fun x H1 => (∃ a xs, x = .ref a ∧ SqL K H1 a xs ∧ R (Itl K a) H1) ∨ (∃ a xs, x = .ref a ∧ SqT K H1 a xs ∧ R (Itt K a) H1) ∨ ∃ z, x = .str z ∧ R (Its z) H1
theorem pi_any {l : Expr} {tl : TE} (hl : PE X l tl) : PI X tg l (iAny X.K tl) := by
  constructor
  intro pins s σ H R I h
  refine thn (hl.run pins s σ H _ I h) ?_
  rintro v s1 ⟨x, H1, I1, r1, (⟨a, xs, rfl, hq, q⟩ | ⟨a, xs, rfl, hq, q⟩ | ⟨z, rfl, q⟩)⟩
  · cases r1
    obtain ⟨us, rv, p, hz⟩ := I1.list hq
    exact wpAny_pyIter_list p.isList (pi_one (tk := s1.toks) I1 _ (turn_list a _) ⟨_, Heap.get?_push_size _ rfl, rfl, rfl⟩ q)
  · cases r1
    obtain ⟨us, rv, p, hz⟩ := I1.tuple hq
    exact wpAny_pyIter_tuple (show s1.heap.IsTuple a us.toArray from p) (pi_one (tk := s1.toks) I1 _ (turn_tuple a _) ⟨_, Heap.get?_push_size _ rfl, rfl, rfl⟩ q)
  · obtain ⟨t, rfl⟩ := r1
    cases ha : z.cps.all (· < 128)
    · exact wpAny_pyIter_wide ha (pi_one (tk := s1.toks) I1 _ (turn_str _ z t "str_iterator" (.inr rfl)) ⟨_, Heap.get?_push_size _ rfl, rfl, rfl⟩ q)
    · exact wpAny_pyIter_ascii ha (pi_one (tk := s1.toks) I1 _ (turn_str _ z t "str_ascii_iterator" (.inl rfl)) ⟨_, Heap.get?_push_size _ rfl, rfl, rfl⟩ q)
/-- for .. in e -/
def itOf : D → Option (List ItD)
  | .p (.tuple ds) => some (ds.map ItD.one)
  | .p (.list ds) => some (ds.map ItD.one)
  | .nw ds => some (ds.map ItD.one)
  | .p (.str z) => some (chD z)
  | _ => none
def dItV (te : TED) : TID := fun ρ Q => te ρ fun x => match itOf x with
  | some items => Q items
  | _ => False
theorem fi_any {te : TED} (h : FE X it te) : FI X tg it (dItV te) := by
  refine (pi_any h).mo ?_
  rintro σ H R' ⟨C, ρ, Qd, R, h, post⟩
  refine ⟨C, ρ, _, R, h, ?_⟩
  intro v H1 x R1 k1 e1 h1
  have lst : ∀ ds, x.st = some (.list ds) → Qd (ds.map ItD.one) → (∃ a xs, v = .ref a ∧ SqL X.K H1 a xs ∧ R' (Itl X.K a) H1) := fun ds hs q => by
    have g := R.stOf e1 hs
    cases g with
    | lst t1 d1 =>
      rename_i a vs
      refine ⟨a, vs, rfl, SqL.of (wo_of t1).2, post _ H1 _ ([(.ref a, .list ds)], []) (R1.pinned _ fun q hq => ?_) k1 wdL q⟩
      rw [List.mem_singleton.mp hq]; exact .lst t1 d1
  cases x with
  | p d =>
    cases d with
    | tuple ds =>
      cases e1 with
      | tup t1 d1 =>
        rename_i a vs
        refine .inr (.inl ⟨a, vs, rfl, t1.mo.sq, post _ H1 _ ([(.ref a, .tuple ds)], []) (R1.pinned _ fun q hq => ?_) k1 wdT h1⟩)
        rw [List.mem_singleton.mp hq]; exact .tup t1 d1
    | list ds => exact .inl (lst ds rfl h1)
    | str z => exact .inr (.inr ⟨z, rel_str e1, post _ H1 _ ([], []) R1 k1 wdS h1⟩)
    | none => exact h1.elim
    | bool b => exact h1.elim
    | int i => exact h1.elim
    | dict kvs => exact h1.elim
  | own ds => exact h1.elim
  | nw ds => exact .inl (lst ds rfl h1)
  | _ => exact h1.elim
def rvOf : D → Option (List PyData)
  | .p (.tuple ds) => some ds
  | .p (.list ds) => some ds
  | .nw ds => some ds
  | _ => none
def dRv (te : TED) : TID := fun ρ Q => te ρ fun x => match rvOf x with
  | some ds => Q (ds.reverse.map ItD.one)
  | _ => False
def zipD : List PyData → List PyData → List ItD
  | d :: ds, e :: es => .two d e :: zipD ds es
  | _, _ => []
def zipOf : List D → Option (List ItD)
  | [x, y] => match x.st, y.st with
    | some (.list ds), some (.list es) => some (zipD ds es)
    | some (.tuple ds), some (.tuple es) => some (zipD ds es)
    | _, _ => none
  | _ => none
def dZip (ta : TAD) : TID := fun ρ Q => ta ρ fun xs => match zipOf xs with
  | some items => Q items
  | _ => False
end
end My
namespace My
open PySem PySem.Spec PyProof.Rows L2
variable [TB]
section
variable {X : Cx} {pos : Pos}
def iEnA (K : PySem.W.Frag) (ta : TA) : TI := fun σ H R => ta σ H fun vs H1 => (∃ a xs, vs = [.ref a] ∧ SqL K H1 a xs ∧ R (Ite K a) H1) ∨ (∃ a xs, vs = [.ref a] ∧ SqT K H1 a xs ∧ R (IteT K a xs) H1) ∨ ∃ z, vs = [.str z] ∧ R (IteS z) H1
theorem pi_enA {e : Expr} {ta : TA} {p tpos : Pos} {elts : List Expr} {kk : Nat} (hg : Gl X "enumerate") (hm : X.mg "enumerate" = none) (ha : PA X [e] ta) (hs : starEach [e] X.env = [(false, eval e X.env)] := by rfl) :
    PI X (.Tuple elts kk tpos) (.Call (.Name "enumerate" p) [e] [] pos) (iEnA X.K ta) := by
  constructor
  intro pins s σ H R I h
  refine Call_ (ld_blt I hg hm boot_enumerate (PyProof.Rows.callWith_type1 (thn (ha.run pos pins s σ H _ I h) ?_) hs rfl))
  rintro us s1 ⟨vs, H1, I1, r1, h1⟩
  have two : ∀ {h' : Heap} {b : Addr}, b ∈ [s1.heap.objs.size + 1, s1.heap.objs.size] → FpOk X pins H1 b := fun {h' b} hb => by
    have hle : s1.heap.objs.size ≤ b := by
      rcases List.mem_cons.mp hb with z | z
      · rw [z]; exact Nat.le_add_right _ _
      · rw [List.mem_singleton.mp z]; exact Nat.le_refl _
    exact I1.fpOk hle (I1.hok.fresh hle)
  rcases h1 with ⟨a, xs, rfl, hq, q⟩ | ⟨a, xs, rfl, hq, q⟩ | ⟨z, rfl, q⟩
  · obtain ⟨u, rfl, r⟩ := vals1 r1
    cases r
    obtain ⟨its, rv, p', hz⟩ := I1.list hq
    refine call_enumerate_list p'.isList fun h' he hit hsz hk => wpAny_pyIter_enum he ?_
    have J : Inv X pins σ H1 { s1 with heap := h' } := I1.kept (t' := s1.toks) hk
    exact ⟨s1.heap.objs.size + 1, [s1.heap.objs.size + 1, s1.heap.objs.size], _, _, H1, rfl, J, turn_enum a (s1.heap.objs.size + 1) s1.heap.objs.size,
      ⟨⟨.none, he⟩, hit, Nat.succ_ne_self _⟩, fun b hb => two (h' := h') hb, q⟩
  · obtain ⟨u, rfl, r⟩ := vals1 r1
    cases r
    obtain ⟨its, rv, p', hz⟩ := I1.tuple hq
    refine call_enum1 (begins_tuple a its.toArray) p' fun h' he hit hsz hk => wpAny_pyIter_enum he ?_
    have J : Inv X pins σ H1 { s1 with heap := h' } := I1.kept (t' := s1.toks) hk
    exact ⟨s1.heap.objs.size + 1, [s1.heap.objs.size + 1, s1.heap.objs.size], _, _, H1, rfl, J, turn_enT a (s1.heap.objs.size + 1) s1.heap.objs.size xs,
      ⟨Nat.zero_le _, ⟨.none, he⟩, ⟨_, hit, rfl, rfl⟩, Nat.succ_ne_self _⟩, fun b hb => two (h' := h') hb, q⟩
  · obtain ⟨u, rfl, t, rfl⟩ := vals1 r1
    refine call_enumerate_str ?_
    intro h1 he hit hsz hk
    refine wpAny_pyIter_enum he ?_
    have J : Inv X pins σ H1 { s1 with heap := h1 } := I1.kept (t' := s1.toks) hk
    exact ⟨s1.heap.objs.size + 1, [s1.heap.objs.size + 1, s1.heap.objs.size], _, _, H1, rfl, J, turn_enS z t (s1.heap.objs.size + 1) s1.heap.objs.size,
      ⟨Nat.zero_le _, ⟨.none, he⟩, hit, Nat.succ_ne_self _⟩, fun b hb => two (h' := h1) hb, q⟩
/-- the signs of a text -/
def chs (z : Str) : List PyData := z.cps.toList.map fun c => .str ⟨#[c]⟩
def enOf : List D → Option (List ItD)
  | [.p (.tuple ds)] => some (enD ds)
  | [.p (.list ds)] => some (enD ds)
  | [.nw ds] => some (enD ds)
  | [.p (.str z)] => some (enD (chs z))
  | _ => none
def dEnA (ta : TAD) : TID := fun ρ Q => ta ρ fun xs => match enOf xs with
  | some items => Q items
  | _ => False
theorem fi_enA {e : Expr} {ta : TAD} {p tpos : Pos} {elts : List Expr} {kk : Nat} (hg : Gl X "enumerate") (hm : X.mg "enumerate" = none) (ha : FA X [e] ta) (hs : starEach [e] X.env = [(false, eval e X.env)] := by rfl) :
    FI X (.Tuple elts kk tpos) (.Call (.Name "enumerate" p) [e] [] pos) (dEnA ta) := by
  refine (pi_enA hg hm ha hs).mo ?_
  rintro σ H R' ⟨C, ρ, Qd, R, h, post⟩
  refine ⟨C, ρ, _, R, h, ?_⟩
  intro vs H1 xs R1 k1 e1 h1
  have lst : ∀ x ds, xs = [x] → x.st = some (.list ds) → Qd (enD ds) → (∃ (a : Addr) (xs : List V), vs = [.ref a] ∧ SqL X.K H1 a xs ∧ R' (Ite X.K a) H1) := fun x ds hx hs q => by
    subst hx
    obtain ⟨v, rfl, e⟩ := p1 e1
    have g := R.stOf e hs
    cases g with
    | lst t1 d1 =>
      rename_i a ws
      refine ⟨a, ws, rfl, SqL.of (wo_of t1).2, post _ H1 (enD ds) ([(.ref a, .list ds)], []) (R1.pinned _ (fun q hq => ?_)) k1 ?_ q⟩
      · rw [List.mem_singleton.mp hq]; exact .lst t1 d1
      · refine ⟨fun C' ρ' σ' H' i x ht hp R' hx => ?_, fun C' ρ' σ' H' ht hp R' => ?_⟩
        · obtain ⟨us, s1, s2⟩ := keyL (List.mem_singleton.mpr rfl) hp R'
          obtain ⟨d, hd, rfl⟩ := enD_get hx
          obtain ⟨w, hw, s3⟩ := s2.of hd
          refine ⟨⟨us, w, s1, hw⟩, ?_⟩
          rintro v H2 ⟨T, y, rfl, hT, rfl, hy⟩
          have := hy us s1
          rw [hw] at this; cases this
          exact pairI R' hT (.int _) s3
        · obtain ⟨us, s1, s2⟩ := keyL (List.mem_singleton.mpr rfl) hp R'
          exact ⟨us, s1, by rw [enD_len, s2.length]; exact Nat.le_refl _⟩
  cases ho : enOf xs with
  | none => rw [ho] at h1; exact h1.elim
  | some items =>
    rw [ho] at h1
    unfold enOf at ho
    split at ho
    · rename_i ds
      cases ho
      obtain ⟨v, rfl, e⟩ := p1 e1
      cases e with
      | tup t1 d1 =>
        rename_i a ws
        have pq : ∀ {C' : Cd} {ρ : Ro} {σ : L2.St} {H : Hp}, Has C' ((ws.zip ds), [(a, ws)]) → Rep X.K C' ρ σ H → TupG H a ws ∧ ∀ (i : Nat) w d, ws[i]? = some w → ds[i]? = some d → Dt (wo (bad C' ρ σ) H) w d := fun {C' ρ σ H} hp R => by
          refine ⟨R.tin _ (hp.2 _ (List.mem_singleton.mpr rfl)), fun i w d h1 h2 => (R.pin (w, d) (hp.1 _ ?_)).dt (d1.real h2)⟩
          exact List.mem_of_getElem? (i := i) (by rw [List.getElem?_zip_eq_some]; exact ⟨h1, h2⟩)
        refine .inr (.inl ⟨a, ws, rfl, t1.mo.sq, post _ H1 (enD ds) ((ws.zip ds), [(a, ws)]) (R1.pinned _ (fun q hq => ?_) (fun q hq => ?_)) k1 ?_ h1⟩)
        · obtain ⟨i, hi⟩ := List.mem_iff_getElem?.mp hq
          obtain ⟨w, d⟩ := q
          rw [List.getElem?_zip_eq_some] at hi
          obtain ⟨d', g1, g2⟩ := d1.get hi.1
          have : d' = d := Option.some.inj (g1.symm.trans hi.2)
          rw [← this]; exact g2
        · rw [List.mem_singleton.mp hq]; exact t1.mo
        · refine ⟨fun C' ρ' σ' H' i x ht hp R' hx => ?_, fun C' ρ' σ' H' ht hp R' => ?_⟩
          · obtain ⟨d, hd, rfl⟩ := enD_get hx
            obtain ⟨w, hw, _⟩ := d1.of hd
            obtain ⟨g1, g2⟩ := pq hp R'
            refine ⟨⟨g1.sq, (List.getElem?_eq_some_iff.mp hw).1⟩, ?_⟩
            rintro v H2 ⟨T, y, rfl, hT, rfl, hy⟩
            rw [hw] at hy; cases hy
            exact pairI R' hT (.int _) (g2 i w d hw hd)
          · obtain ⟨g1, _⟩ := pq hp R'
            exact ⟨g1.sq, by rw [enD_len, d1.length]; exact Nat.le_refl _⟩
    · cases ho; exact .inl (lst _ _ rfl rfl h1)
    · cases ho; exact .inl (lst _ _ rfl rfl h1)
    · rename_i z
      cases ho
      obtain ⟨v, rfl, e⟩ := p1 e1
      refine .inr (.inr ⟨z, by rw [rel_str e], post _ H1 _ ([], []) R1 k1 ⟨fun C' ρ' σ' H' i x ht hp R' hx => ?_, fun C' ρ' σ' H' ht hp R' => ?_⟩ h1⟩)
      · obtain ⟨d, hd, rfl⟩ := enD_get hx
        unfold chs at hd
        rw [List.getElem?_map] at hd
        cases ec : z.cps.toList[i]? with
        | none => rw [ec] at hd; cases hd
        | some c =>
          rw [ec] at hd
          cases hd
          obtain ⟨hi, _⟩ := List.getElem?_eq_some_iff.mp ec
          refine ⟨show i < z.cps.size by simpa using hi, ?_⟩
          rintro v H2 ⟨T, c', rfl, hT, rfl, hc⟩
          rw [← Array.getElem?_toList, ec] at hc
          cases hc
          exact pairI R' hT (.int _) (.str _)
      · show z.cps.size ≤ _
        rw [enD_len]
        unfold chs
        rw [List.length_map, Array.length_toList]
        exact Nat.le_refl _
    · cases ho
def rngC (lo c : Int) (n : Nat) : List ItD := (List.range n).map fun i => .one (.int (lo + (i : Nat) * c))
def dRng3 (ta : TAD) : TID := fun ρ Q => ta ρ fun xs => ∃ (i j c : Int) (n : Nat), xs = [.p (.int i), .p (.int j), .p (.int c)] ∧ RgC i j c n ∧ Q (rngC i c n)
theorem p3 {C : Cd} {ρ : Ro} {σ : L2.St} {H0 H : Hp} {vs : List V} {x y z : D} (h : Paired (RelE C ρ σ H0 H) vs [x, y, z]) : ∃ v u w, vs = [v, u, w] ∧ RelE C ρ σ H0 H v x ∧ RelE C ρ σ H0 H u y ∧ RelE C ρ σ H0 H w z := by
  cases h with
  | cons h t =>
    obtain ⟨u, w, rfl, h2, h3⟩ := p2 t
    exact ⟨_, u, w, rfl, h, h2, h3⟩
def dChain (r r' : RD2) (ta tb tc : TED) : TED := fun ρ Q => ta ρ fun x => tb ρ fun y => r x y fun z => match z with
  | .p (.bool k) => if k = true then tc ρ fun w => r' y w Q else Q (.p (.bool false))
  | _ => False
def dStar (te : TED) (t : TAD) : TAD := fun ρ Q => te ρ fun x => match x.st with
  | some (.tuple ds) => t ρ fun xs => Q (ds.map D.p ++ xs)
  | some (.list ds) => t ρ fun xs => Q (ds.map D.p ++ xs)
  | _ => False
end
end My
namespace My
open PySem PySem.Spec PyProof.Rows L2
variable [TB]
section
variable {K : PySem.W.Frag} {C : Cd} {ρ : Ro} {σ : L2.St} {H H1 H2 H' : Hp}
theorem Rep.growF {p : Addr} {us vs : List V} (R : Rep K C ρ σ H) (hF : C.F p) (hp : H p = some (.lst us)) (n0 : ¬ C.S0 p) (n2 : nx C.t p) (n3 : p ≠ C.t.2) (n4 : C.H0 p = none) : Rep K C ρ σ (upd H p (.lst vs)) := by
  have bp : bad C ρ σ p := .inr (.inl hF)
  have s : Same (wo (bad C ρ σ) H) (wo (bad C ρ σ) (upd H p (.lst vs))) := wo_mono (fun _ z => z) fun a o n e => by
    rw [upd_ne (fun (z : a = p) => n (by rw [z]; exact bp))]; exact e
  have gp : ∀ b, C.G b → b ≠ p := fun b hb z => (R.g0 b hb).2.2.1 (z ▸ hF)
  refine ⟨R.len, fun j y e => ?_, R.dis, R.tp.put n2.1 n3, fun b o n e => ?_, R.s1, R.s2, fun b hb => ?_, fun b hb => ?_, R.s00, fun q hq => PinD.mono s (R.pin q hq), fun q hq => (R.tin q hq).kt fun o e => by rw [upd_ne (fun z => by rw [z, hp] at e; cases e)]; exact e,
    R.s3, R.tab.put n2.2 (fun c q => by rw [hp]; exact fun z => lst_code (Option.some.inj z)), ?_, fun b hb => ?_⟩
  · obtain ⟨w, g1, g2⟩ := R.val j y e
    refine ⟨w, g1, g2.mono rfl (fun _ a b => .inl ⟨a, b⟩) s (fun q us es e1 e2 e3 => ?_) fun c q n e => by rw [upd_ne (fun z => by rw [z, hp] at e; exact lst_code (Option.some.inj e))]; exact e⟩
    subst e1 e2
    obtain ⟨_, _, e4, _, _, h5, _⟩ := g2
    cases e4
    rw [upd_ne (fun z => h5.2 (by rw [z]; exact hF))]; exact e3
  · rw [upd_ne (fun z => by rw [z, n4] at e; cases e)]
    exact R.ext b o n e
  · obtain ⟨xs, e⟩ := R.s0 b hb
    exact ⟨xs, by rw [upd_ne (fun (z : b = p) => n0 (by rw [← z]; exact hb))]; exact e⟩
  · by_cases z : b = p
    · exact ⟨_, by rw [z]; exact upd_same⟩
    · obtain ⟨xs, e⟩ := R.f0 b hb
      exact ⟨xs, by rw [upd_ne z]; exact e⟩
  · obtain ⟨φ, T⟩ := R.tre
    exact ⟨φ, T.mono s (fun b o hb e => by rw [upd_ne (gp b hb)]; exact e) fun _ z => z⟩
  · obtain ⟨⟨u, e⟩, g2, g3, g4⟩ := R.g0 b hb
    exact ⟨⟨u, by rw [upd_ne (gp b hb)]; exact e⟩, g2, g3, g4⟩
theorem bad_agr {l vs : List Nat} {ρ2 : Ro} {σ2 : L2.St} (hl : ∀ j ∈ l, j ∈ vs) (a : Agr l (wipe σ vs) σ2) (d : AgrD l (dWipe ρ vs) ρ2) {b : Addr} (h : bad C (dWipe ρ vs) (wipe σ vs) b) : bad C ρ2 σ2 b := by
  rcases h with z | z | ⟨j, ds, f1, f2⟩ | z
  · exact .inl z
  · exact .inr (.inl z)
  · have nj := (dWipe_some f1).2
    exact .inr (.inr (.inl ⟨j, ds, by rw [d.2 j (fun z => nj (hl j z))]; exact f1, by rw [a.2 j (fun z => nj (hl j z))]; exact f2⟩))
  · exact .inr (.inr (.inr z))
def el2W (g : TGD) (tt : TTD) (ti1 : TID) (g1 : TGD) (tt1 : TTD) (te : TED) (vs1 : List Nat) (x : ItD) (ρ0 : Ro) (acc : List PyData) (K : List PyData → Prop) : Prop :=
  g x ρ0 fun ρ2 => tt ρ2 fun b => if b = true then ti1 ρ2 fun items1 => lcW (fun y K => elW g1 tt1 te y (dWipe ρ2 vs1) K) items1 acc K else K acc
def lcF (el : ItD → List PyData → (List PyData → Prop) → Prop) : List ItD → List PyData → (List PyData → Prop) → Prop
  | [], acc, Q => Q acc
  | x :: xs, acc, Q => el x acc fun acc' => lcF el xs acc' Q
def dLc2 (ti : TID) (g : TGD) (tt : TTD) (ti1 : TID) (g1 : TGD) (tt1 : TTD) (te : TED) (vs vs1 : List Nat) : TED := fun ρ Q => ti ρ fun items => lcF (fun x acc K => el2W g tt ti1 g1 tt1 te vs1 x (dWipe ρ vs) acc K) items [] fun acc => Q (.nw acc)
theorem up_lc2 {ti ti1 : TID} {l l1 : List Nat} {g g1 : TGD} {tt tt1 : TTD} {te : TED} {vs vs1 : List Nat} (hl : ∀ j ∈ l, j ∈ vs) (hl1 : ∀ j ∈ l1, j ∈ vs1) : ∀ σ H Q, up K (dLc2 ti g tt ti1 g1 tt1 te vs vs1) σ H Q →
    tLc2 (upI K ti) (upG K l g) (upT K tt) (upI K ti1) (upG K l1 g1) (upT K tt1) (up K te) vs vs1 σ H Q := by
  rintro σ H Q ⟨C, ρ, Qd, R, h, post⟩
  refine ⟨C, ρ, _, R, h, ?_⟩
  rintro J H1 items pins R1 k1 wk q D hD
  have hD0 : H D = none := k1.free (R1.t1 hD) hD
  have hH0 : C.H0 D = none := R.h0n hD0
  have nDt : nx C.t D := R1.t1 hD
  have n0 : ¬ C.S0 D := R.s0n hH0
  have n3 : D ≠ C.t.2 := fun z => n0 (z ▸ R.s2)
  refine ⟨fun i m Hc => m = items.length - i ∧ i ≤ items.length ∧ Kq C.t H1 Hc ∧ ∃ acc us, Rep K ((C.add pins).at D) ρ σ Hc ∧ Hc D = some (.lst us) ∧ DtAll (wo (bad ((C.add pins).at D) ρ σ) Hc) us acc ∧
      acc.length ≤ sizeLine ∧ lcF (fun x acc K => el2W g tt ti1 g1 tt1 te vs1 x (dWipe ρ vs) acc K) (items.drop i) acc fun acc => Qd (.nw acc),
    ⟨_, rfl, Nat.zero_le _, Kq.new hD, [], [], R1.open hD, upd_same, .nil, Nat.zero_le _, by simpa using q⟩, ?_⟩
  rintro i m Hc ⟨rfl, hi, kc, acc, us, RD, hDc, hacc, hz, q⟩
  by_cases hlt : i < items.length
  · right
    rw [List.drop_eq_getElem_cons hlt] at q
    obtain ⟨go, hy⟩ := wk.go ((C.add pins).at D) ρ σ Hc i _ rfl (has_add pins) RD (List.getElem?_eq_getElem hlt)
    let Nx : Hp → Prop := fun H' => i < items.length ∧ Kq C.t H1 H' ∧ ∃ acc us, Rep K ((C.add pins).at D) ρ σ H' ∧ H' D = some (.lst us) ∧ DtAll (wo (bad ((C.add pins).at D) ρ σ) H') us acc ∧
      acc.length ≤ sizeLine ∧ lcF (fun x acc K => el2W g tt ti1 g1 tt1 te vs1 x (dWipe ρ vs) acc K) (items.drop (i + 1)) acc fun acc => Qd (.nw acc)
    refine ⟨go, Nx, ?_, ?_⟩
    · rintro H' ⟨h1, h2, h3⟩
      exact ⟨items.length - (i + 1), by omega, rfl, h1, h2, h3⟩
    · intro x H' y
      obtain ⟨k2, R2, r2⟩ := hy x H' y
      have k2 : Kq C.t Hc H' := k2
      have R2w := R2.wiped vs
      have s0 : Same (wo (bad ((C.add pins).at D) ρ σ) H') (wo (bad (((C.add pins).at D).wp ρ σ vs) (dWipe ρ vs) (wipe σ vs)) H') := wo_mono (fun _ z => bad_wp.mp z) fun _ _ _ e => e
      have rI : RelI K (((C.add pins).at D).wp ρ σ vs) (dWipe ρ vs) (wipe σ vs) H' x items[i] := by
        revert r2
        generalize items[i] = z
        intro r2
        cases z with
        | one d => exact Dt.mono s0 r2
        | two d e =>
          obtain ⟨T, v1, v2, e1, e2, e3, e4⟩ := r2
          exact ⟨T, v1, v2, e1, e2, Dt.mono s0 e3, Dt.mono s0 e4⟩
      refine ⟨((C.add pins).at D).wp ρ σ vs, dWipe ρ vs, items[i], _, R2w, rI, q, fun ρ2 σ2 R3 a3 s3 q3 => ⟨wipe_agr a3.1 hl, ?_⟩⟩
      refine ⟨((C.add pins).at D).wp ρ σ vs, ρ2, _, R3, q3, fun b H3 R4 k4 q4 => ?_⟩
      have k4 : Kq C.t H' H3 := k4
      have k := k2.trans k4
      have RD3 := RD.step (C := (C.add pins).at D) k R4.tp R4.tab
      have ha3 : DtAll (wo (bad ((C.add pins).at D) ρ σ) H3) us acc := DtAll.mono (RD.kp (C := (C.add pins).at D) k) hacc
      cases b with
      | false =>
        rw [if_neg Bool.false_ne_true] at q4
        show (if false = true then _ else _)
        rw [if_neg Bool.false_ne_true]
        exact ⟨hlt, kc.trans k, acc, us, RD3, k D _ nDt hDc, ha3, hz, q4⟩
      | true =>
        rw [if_pos rfl] at q4
        show (if true = true then _ else _)
        rw [if_pos rfl]
        refine ⟨((C.add pins).at D).wp ρ σ vs, ρ2, _, R4, q4, ?_⟩
        rintro J1 H4 items1 pins1 R5 k5 wk1 q5
        have k5 : Kq C.t H3 H4 := k5
        refine ⟨fun j m Hd => m = items1.length - j ∧ j ≤ items1.length ∧ Kq C.t H1 Hd ∧ ∃ acc us, Rep K ((C.add pins).at D) ρ σ Hd ∧ Rep K ((((C.add pins).at D).wp ρ σ vs).add pins1) ρ2 σ2 Hd ∧ Hd D = some (.lst us) ∧
          DtAll (wo (bad ((C.add pins).at D) ρ σ) Hd) us acc ∧ acc.length ≤ sizeLine ∧
          lcW (fun y K => elW g1 tt1 te y (dWipe ρ2 vs1) K) (items1.drop j) acc fun acc' => lcF (fun x acc K => el2W g tt ti1 g1 tt1 te vs1 x (dWipe ρ vs) acc K) (items.drop (i + 1)) acc' fun acc => Qd (.nw acc), ?_, ?_⟩
        · have kk := k.trans k5
          exact ⟨_, rfl, Nat.zero_le _, kc.trans kk, acc, us, RD.step (C := (C.add pins).at D) kk R5.tp R5.tab, R5, kk D _ nDt hDc, DtAll.mono (RD.kp (C := (C.add pins).at D) kk) hacc, hz, by simpa using q5⟩
        · rintro j m Hd ⟨rfl, hj, kd, acc, us, RDd, R2d, hDd, haccd, hzd, qd⟩
          by_cases hjt : j < items1.length
          · right
            rw [List.drop_eq_getElem_cons hjt] at qd
            obtain ⟨go1, hy1⟩ := wk1.go ((((C.add pins).at D).wp ρ σ vs).add pins1) ρ2 σ2 Hd j _ rfl (has_add pins1) R2d (List.getElem?_eq_getElem hjt)
            refine ⟨go1, fun H' => j < items1.length ∧ Kq C.t H1 H' ∧ ∃ acc us, Rep K ((C.add pins).at D) ρ σ H' ∧ Rep K ((((C.add pins).at D).wp ρ σ vs).add pins1) ρ2 σ2 H' ∧ H' D = some (.lst us) ∧
              DtAll (wo (bad ((C.add pins).at D) ρ σ) H') us acc ∧ acc.length ≤ sizeLine ∧
              lcW (fun y K => elW g1 tt1 te y (dWipe ρ2 vs1) K) (items1.drop (j + 1)) acc fun acc' => lcF (fun x acc K => el2W g tt ti1 g1 tt1 te vs1 x (dWipe ρ vs) acc K) (items.drop (i + 1)) acc' fun acc => Qd (.nw acc), ?_, ?_⟩
            · rintro H' ⟨h1, h2⟩
              exact ⟨items1.length - (j + 1), by omega, rfl, h1, h2⟩
            · intro x H5 y
              obtain ⟨k6, R6, r6⟩ := hy1 x H5 y
              have k6 : Kq C.t Hd H5 := k6
              have R6w := R6.wiped vs1
              have s6 : Same (wo (bad ((((C.add pins).at D).wp ρ σ vs).add pins1) ρ2 σ2) H5) (wo (bad (((((C.add pins).at D).wp ρ σ vs).add pins1).wp ρ2 σ2 vs1) (dWipe ρ2 vs1) (wipe σ2 vs1)) H5) := wo_mono (fun _ z => bad_wp.mp z) fun _ _ _ e => e
              have rI6 : RelI K (((((C.add pins).at D).wp ρ σ vs).add pins1).wp ρ2 σ2 vs1) (dWipe ρ2 vs1) (wipe σ2 vs1) H5 x items1[j] := by
                revert r6
                generalize items1[j] = z
                intro r6
                cases z with
                | one d => exact Dt.mono s6 r6
                | two d e =>
                  obtain ⟨T, v1, v2, e1, e2, e3, e4⟩ := r6
                  exact ⟨T, v1, v2, e1, e2, Dt.mono s6 e3, Dt.mono s6 e4⟩
              refine ⟨((((C.add pins).at D).wp ρ σ vs).add pins1).wp ρ2 σ2 vs1, dWipe ρ2 vs1, items1[j], _, R6w, rI6, qd, fun ρ3 σ3 R7 a7 s7 q7 => ⟨wipe_agr a7.1 hl1, ?_⟩⟩
              refine ⟨((((C.add pins).at D).wp ρ σ vs).add pins1).wp ρ2 σ2 vs1, ρ3, _, R7, q7, fun b H6 R8 k8 q8 => ?_⟩
              have k8 : Kq C.t H5 H6 := k8
              cases b with
              | false =>
                rw [if_neg Bool.false_ne_true] at q8
                show (if false = true then _ else _)
                rw [if_neg Bool.false_ne_true]
                have kz := k6.trans k8
                exact ⟨hjt, kd.trans kz, acc, us, RDd.step (C := (C.add pins).at D) kz R8.tp R8.tab, R2d.step (C := (((C.add pins).at D).wp ρ σ vs).add pins1) kz R8.tp R8.tab, kz D _ nDt hDd,
                  DtAll.mono (RDd.kp (C := (C.add pins).at D) kz) haccd, hzd, q8⟩
              | true =>
                rw [if_pos rfl] at q8
                show (if true = true then _ else _)
                rw [if_pos rfl]
                refine ⟨((((C.add pins).at D).wp ρ σ vs).add pins1).wp ρ2 σ2 vs1, ρ3, _, R8, q8, ?_⟩
                rintro v H7 yv R9 k9 e9 ⟨d, hd, hz', q9⟩
                have k9 : Kq C.t H6 H7 := k9
                have kz := (k6.trans k8).trans k9
                have hD7 : H7 D = some (.lst us) := kz D _ nDt hDd
                have RD7 := RDd.step (C := (C.add pins).at D) kz R9.tp R9.tab
                have R27 := R2d.step (C := (((C.add pins).at D).wp ρ σ vs).add pins1) kz R9.tp R9.tab
                have RDn := RD7.growF (C := (C.add pins).at D) (vs := us ++ [v]) (.inr rfl) hD7 n0 nDt n3 hH0
                have R2n := R27.growF (C := (((C.add pins).at D).wp ρ σ vs).add pins1) (vs := us ++ [v]) (.inl (.inr rfl)) hD7 n0 nDt n3 hH0
                have bd : bad ((C.add pins).at D) ρ σ D := .inr (.inl (.inr rfl))
                have s1 : Same (wo (bad ((C.add pins).at D) ρ σ) H7) (wo (bad ((C.add pins).at D) ρ σ) (upd H7 D (.lst (us ++ [v])))) := fun a o e => by
                  obtain ⟨f1, f2⟩ := wo_of e
                  exact wo_mk f1 (by rw [upd_ne (fun z => f1 (by rw [z]; exact bd))]; exact f2)
                have s2 : Same (wo (bad (((((C.add pins).at D).wp ρ σ vs).add pins1).wp ρ2 σ2 vs1) ρ3 σ3) H7) (wo (bad ((C.add pins).at D) ρ σ) H7) := wo_mono (fun b z => by
                  have z2 : bad (((C.add pins).at D).wp ρ σ vs) ρ2 σ2 b := bad_agr hl a3.1 a3.2 (bad_wp.mpr z)
                  have z3 : bad ((((C.add pins).at D).wp ρ σ vs).add pins1) ρ2 σ2 b := z2
                  exact bad_agr hl1 a7.1 a7.2 (bad_wp.mpr z3)) fun _ _ _ e => e
                have gd := Dt.mono s1 (Dt.mono s2 (R8.stOf e9 hd))
                have ga := DtAll.mono s1 (DtAll.mono (RDd.kp (C := (C.add pins).at D) kz) haccd)
                refine ⟨us, hD7, by rw [ga.length]; exact hz', hjt, ?_, acc ++ [d], us ++ [v], RDn, R2n, upd_same, ga.snoc gd, by simp; omega, q9⟩
                intro b o nb e
                rw [upd_ne (ne_of_none e hD)]
                exact (kd.trans kz) b o nb e
          · left
            have e : j = items1.length := by omega
            subst e
            rw [List.drop_length] at qd
            exact ⟨wk1.stop ((((C.add pins).at D).wp ρ σ vs).add pins1) ρ2 σ2 Hd rfl (has_add pins1) R2d, hlt, kd, acc, us, RDd, hDd, haccd, hzd, qd⟩
  · left
    have e : i = items.length := by omega
    subst e
    rw [List.drop_length] at q
    refine ⟨wk.stop ((C.add pins).at D) ρ σ Hc rfl (has_add pins) RD, post (.ref D) Hc (.nw acc) RD.shut.unpin (k1.trans kc) ⟨D, us, rfl, hD0, hDc, DtAll.mono (wo_mono (fun b z => ?_) fun _ _ _ e => e) hacc, hz⟩ q⟩
    exact bad_at.mpr (z.elim (fun z => .inl z) .inr)
end
end My
namespace My
open PySem PySem.Spec PyProof.Rows L2
variable [TB]
section
variable {X : Cx} {pos : Pos}
theorem fe_lc2 {elt tg iter tg1 iter1 : Expr} {ifs ifs1 : List Expr} {scope : Scope} {own : List (Str × Nat)} {vs1 : List Nat} {ti ti1 : TID} {l l1 : List Nat} {g g1 : TGD} {tt tt1 : TTD} {te : TED} (hc : X.calm = true) (hN : X.N.Nodup) (hi : FI X tg iter ti) (ok : BlkOk X.N X.env.scope scope own) (hv : ∀ i ∈ vs1, i ∈ own.map (·.2))
    (hg : ∀ (s : Shared) (H : Hp) (C : Addr) (cl : List (Str × Addr)) (fp : List Addr), FG (X.blk s H scope (compEnvC scope cl C X.env) fp) tg l g) (ht : ∀ (s : Shared) (H : Hp) (C : Addr) (cl : List (Str × Addr)) (fp : List Addr), FTs (X.blk s H scope (compEnvC scope cl C X.env) fp) ifs tt)
    (hi1 : ∀ (s : Shared) (H : Hp) (C : Addr) (cl : List (Str × Addr)) (fp : List Addr), FI (X.blk s H scope (compEnvC scope cl C X.env) fp) tg1 iter1 ti1)
    (hg1 : ∀ (s : Shared) (H : Hp) (C : Addr) (cl : List (Str × Addr)) (fp : List Addr), FG (X.blk s H scope (compEnvC scope cl C X.env) fp) tg1 l1 g1) (ht1 : ∀ (s : Shared) (H : Hp) (C : Addr) (cl : List (Str × Addr)) (fp : List Addr), FTs (X.blk s H scope (compEnvC scope cl C X.env) fp) ifs1 tt1)
    (he : ∀ (s : Shared) (H : Hp) (C : Addr) (cl : List (Str × Addr)) (fp : List Addr), FE (X.blk s H scope (compEnvC scope cl C X.env) fp) elt te) (hl : ∀ j ∈ l, j ∈ own.map (·.2)) (hl1 : ∀ j ∈ l1, j ∈ vs1) (hs : ∀ x, foldedSetIterable iter X.env x = pure x := by intro _; rfl) (hs1 : ∀ env x, foldedSetIterable iter1 env x = pure x := by intro _ _; rfl) :
    FE X (.ListComp elt [⟨tg, iter, ifs, 0⟩, ⟨tg1, iter1, ifs1, 0⟩] scope pos) (dLc2 ti g tt ti1 g1 tt1 te (own.map (·.2)) vs1) :=
  (pe_lc2 hc hN hi ok hv hg ht hi1 hg1 ht1 he hs hs1).mo (up_lc2 hl hl1)
def dRetU (te : TED) : TSD := fun Dd ρ => te ρ fun x => match x with
  | .p d => Dd.rt (.p d)
  | .own ds => Dd.rt (.nw ds)
  | .nw ds => Dd.rt (.nw ds)
  | .ot m => Dd.rt (.p m.dat)
  | .nt m => Dd.rt (.p m.dat)
  | _ => False
theorem up_retU {K : PySem.W.Frag} {te : TED} : ∀ D σ H, upS K (dRetU te) D σ H → tRet (up K te) D σ H := by
  rintro D σ H ⟨C, ρ, Dd, R, h, L⟩
  refine ⟨C, ρ, _, R, h, fun v H1 x R1 k1 e1 q => ?_⟩
  have s : Same (wo (bad C ρ σ) H1) (wo C.S0 H1) := wo_mono (fun _ z => .inl z) fun _ _ _ e => e
  cases x with
  | p d => exact L.rt v H1 (.p d) ⟨R1.tp, R1.ext, R1.tab, Dt.mono s e1⟩ q
  | own ds =>
    refine L.rt v H1 (.nw ds) ⟨R1.tp, R1.ext, R1.tab, ?_⟩ q
    obtain ⟨i, f1, f2⟩ := e1
    obtain ⟨w, g1, p, us, rfl, g2, g3, g4, g5⟩ := R1.val i _ f1
    rw [f2] at g1; cases g1
    refine ⟨p, us, rfl, g4.1, g2, DtAll.mono (wo_mono (fun b z => ?_) fun _ _ _ e => e) g3, g5⟩
    rcases z with z | z
    · exact .inl z
    · exact .inr (.inr (.inl ⟨i, ds, f1, by rw [z]; exact f2⟩))
  | nw ds =>
    refine L.rt v H1 (.nw ds) ⟨R1.tp, R1.ext, R1.tab, ?_⟩ q
    obtain ⟨p, vs, rfl, h1, h2, h3, h4⟩ := e1
    exact ⟨p, vs, rfl, R.h0n h1, h2, DtAll.mono (wo_mono (fun b z => z.elim (fun z => .inl (.inl z)) .inr) fun _ _ _ e => e) h3, h4⟩
  | tape => exact q.elim
  | ot m =>
    refine L.rt v H1 (.p m.dat) ⟨R1.tp, R1.ext, R1.tab, ?_⟩ q
    obtain ⟨f, h1, h2⟩ := R1.ofTree e1
    exact h1.dt (fun _ z => .inl z) fun b hb => R1.s0n (R1.g0 b (h2 b hb)).2.1
  | nt m =>
    refine L.rt v H1 (.p m.dat) ⟨R1.tp, R1.ext, R1.tab, ?_⟩ q
    obtain ⟨f, h1, h2⟩ := e1
    exact h2.dt (fun _ z => .inl (.inl z)) fun b hb => R.s0n (R.h0n (h1 b hb))
  | fv f F => exact q.elim
  | bor p m => exact q.elim
theorem fs_retU {st : Stmt} {te : TED} (h : PS X st (tRet (up X.K te))) : FS X st (dRetU te) := h.mo up_retU
/-- l.extend(e) -/
def dExt (i : Nat) (ta : TAD) : TSD := fun Dd ρ => ∃ ds, ρ[i]? = some (some (.own ds)) ∧ ta ρ fun xs => match xs with
  | [x] => match x.st with
    | some (.tuple es) => ds.length + es.length ≤ sizeLine ∧ Dd.nx (ρ.set i (some (.own (ds ++ es))))
    | some (.list es) => ds.length + es.length ≤ sizeLine ∧ Dd.nx (ρ.set i (some (.own (ds ++ es))))
    | _ => False
  | _ => False
/-- name = l.pop() -/
def dPop (j i : Nat) : TSD := fun Dd ρ => ∃ ds d, ρ[i]? = some (some (.own (ds ++ [d]))) ∧ Dd.nx ((ρ.set i (some (.own ds))).set j (some (.p d)))
/-- a = b = e -/
def dAsg2 (te : TED) (g1 g2 : TGD) : TSD := fun Dd ρ => te ρ fun x => ∃ d, x.st = some d ∧ g1 (.one d) ρ fun ρ1 => g2 (.one d) ρ1 Dd.nx
/-- an expression for nothing -/
def dExpr (te : TED) : TSD := fun Dd ρ => te ρ fun _ => Dd.nx ρ
theorem fe_gi {x : Str} {u : Int} {t : Tok} (hg : Gl X x) (hm : X.mg x = some (.int u t)) (hd : (x == ("__debug__" : Str)) = false := by decide) : FE X (.Name x pos) (dC (.int u)) := fe_c (pe_glob (v := .int u) hg hm ⟨_, rfl⟩ hd) fun _ => .int _
end
end My
namespace My
open PySem PySem.Spec PyProof.Rows L2
variable [TB]
theorem Room.u65 {k : Nat} {A : Around} (r : Room k A) : A.units + 65 < cLine := by have := r.un; omega
section
variable {X : Cx} {pos : Pos}
/-- [::-1] -/
def dRevU (ta : TED) : TED := fun ρ Q => ta ρ fun x => match x with
  | .p (.tuple ds) => Q (.p (.tuple ds.reverse))
  | x => match x.ls with
    | some ds => ds.length ≤ sizeLine ∧ Q (.nw ds.reverse)
    | _ => False
theorem fe_giE {x : Str} {u : Int} (hg : Gl X x) (hm : ∃ t, X.mg x = some (.int u t)) (hd : (x == ("__debug__" : Str)) = false := by decide) : FE X (.Name x pos) (dC (.int u)) := by
  obtain ⟨t, hm⟩ := hm
  exact fe_gi hg hm hd
end
def s1 (S : D → (D → Prop) → Prop) : SpD := fun xs Q => match xs with
  | [a] => S a Q
  | _ => False
def s2 (S : D → D → (D → Prop) → Prop) : SpD := fun xs Q => match xs with
  | [a, b] => S a b Q
  | _ => False
def s3 (S : D → D → D → (D → Prop) → Prop) : SpD := fun xs Q => match xs with
  | [a, b, c] => S a b c Q
  | _ => False
def s4 (S : D → D → D → D → (D → Prop) → Prop) : SpD := fun xs Q => match xs with
  | [a, b, c, d] => S a b c d Q
  | _ => False
def s5 (S : D → D → D → D → D → (D → Prop) → Prop) : SpD := fun xs Q => match xs with
  | [a, b, c, d, e] => S a b c d e Q
  | _ => False
def s6 (S : D → D → D → D → D → D → (D → Prop) → Prop) : SpD := fun xs Q => match xs with
  | [a, b, c, d, e, f] => S a b c d e f Q
  | _ => False
def s7 (S : D → D → D → D → D → D → D → (D → Prop) → Prop) : SpD := fun xs Q => match xs with
  | [a, b, c, d, e, f, g] => S a b c d e f g Q
  | _ => False
theorem s1_on {S : D → (D → Prop) → Prop} {P : List D → (D → Prop) → Prop} (h : ∀ a Q, S a Q → P [a] Q) : ∀ xs Q, s1 S xs Q → P xs Q := by
  intro xs Q q; unfold s1 at q; split at q
  · exact h _ _ q
  · exact q.elim
theorem s2_on {S : D → D → (D → Prop) → Prop} {P : List D → (D → Prop) → Prop} (h : ∀ a b Q, S a b Q → P [a, b] Q) : ∀ xs Q, s2 S xs Q → P xs Q := by
  intro xs Q q; unfold s2 at q; split at q
  · exact h _ _ _ q
  · exact q.elim
theorem s3_on {S : D → D → D → (D → Prop) → Prop} {P : List D → (D → Prop) → Prop} (h : ∀ a b c Q, S a b c Q → P [a, b, c] Q) : ∀ xs Q, s3 S xs Q → P xs Q := by
  intro xs Q q; unfold s3 at q; split at q
  · exact h _ _ _ _ q
  · exact q.elim
theorem s5_on {S : D → D → D → D → D → (D → Prop) → Prop} {P : List D → (D → Prop) → Prop} (h : ∀ a b c d e Q, S a b c d e Q → P [a, b, c, d, e] Q) : ∀ xs Q, s5 S xs Q → P xs Q := by
  intro xs Q q; unfold s5 at q; split at q
  · exact h _ _ _ _ _ _ q
  · exact q.elim
end My
namespace My
open PySem PySem.Spec PyProof.Rows L2
variable [TB]
def S_draw (t m : D) (Q : D → Prop) : Prop := t = .tape ∧ ∃ n : Int, m = .p (.int n) ∧ n < 100000000 ∧ ∀ v : Nat, (v : Int) < max n 1 → Q (.p (.int (v : Nat)))
section
variable {P : Program} {w : World} {K : PySem.W.Frag} {mg : Str → Option Value} {base : Heap} {k : Nat} {x : Str} {ps : List Str} {sp sp2 : Sp}
theorem Cal.toG (C : Cal P w K mg base k x ps sp) (ln : ∀ vs H Q E, sp2 vs H Q E → vs.length = ps.length) (m : ∀ vs H Q E, sp2 vs H Q E → sp vs H Q E) : CalG P w K mg base k x ps sp2 := by
  obtain ⟨f, fd, F, h1, h2, h3⟩ := C.ex
  have G := FnG.of F
  exact ⟨f, fd, ⟨ln, fun A o s H ar us vs Q E a b c d e q => G.go A o s H ar us vs Q E a b c d e (m _ _ _ _ q)⟩, h1, h2, h3⟩
theorem draw_up (C : Cal P w K mg base k "_law_draw" ["tape", "many"] (spDraw K)) : CalG P w K mg base k "_law_draw" ["tape", "many"] (spU K 2 (s2 S_draw)) := by
  refine C.toG (spU_len rfl) ?_
  rintro vs H Q E ⟨t, S0, xs, Qd, T, tb, _, _, _, _, hv, hl, hS, post⟩
  unfold s2 at hS
  split at hS
  · obtain ⟨rfl, n, rfl, hn, hq⟩ := hS
    cases hv with
    | cons h1 hv =>
      cases hv with
      | cons h2 hv =>
        cases hv
        have h1 : _ = V.ref t.1 := h1
        subst h1
        cases h2
        refine ⟨t, n, rfl, T, hn, fun v H' h0 hlt hk _ hT => ?_⟩
        have tb' : Tbs H' := fun p hp => by
          obtain ⟨ps, h1, h2, h3⟩ := tb p hp
          obtain ⟨ys, hy⟩ := T.lst
          have ne : ∀ {b : Addr} {u : HO}, H b = some u → (∀ xs, u ≠ .lst xs) → H' b = some u := fun {b u} e n => hk b _ (fun z => by rw [z, hy] at e; cases e; exact n _ rfl) e
          refine ⟨ps, ne h1 (fun _ z => by cases z), h2, fun pos cv hcv => ?_⟩
          obtain ⟨c, e1, e2⟩ := h3 pos cv hcv
          exact ⟨c, e1, ne e2 fun xs z => lst_code z.symm⟩
        have := post (.int v) H' (.p (.int v)) hT tb' (Kq.of hk) (.int v)
        refine this ?_
        have e : ((v.toNat : Nat) : Int) = v := Int.toNat_of_nonneg h0
        rw [← e]
        exact hq v.toNat (by omega)
  · exact hS.elim
end
/-- a def that calls itself -/
theorem Df.calR {P : Program} {w : World} {K : PySem.W.Frag} {mg : Str → Option Value} {base : Heap} {x : Str} {st : Stmt} {N ps : List Str} {k n m : Nat} {SPm : Nat → SpD} {t : SpD → TSD} (D : Df K mg x st ps) (sc : FnScope N ps (defScope st))
    (hn : ps.length = n) (hN : N.length = n + m) (z : ∀ xs Q, ¬ SPm 0 xs Q) (hs : ∀ j xs Qd, SPm (j + 1) xs Qd → t (SPm j) (endsOf Qd) (iniR xs m))
    (hb : ∀ j, CalG P w K mg base (k + 1 + j) x ps (spU K n (SPm j)) → ∀ (f : Addr) (cdv : Value) (A : Around) (o : List Env) (s : Shared) (H : Hp) (E : XK),
      Room (k + 1 + j) (A.deeper (envOfC x (defScope st) s.heap.objs.size f cdv)) → A.guards = some [] →
      FSs (cxOf CX0 P w K mg base N x (defScope st) f cdv A o s H E).nox (defBody st) (t (SPm j))) :
    ∀ j, CalG P w K mg base (k + 1 + j) x ps (spU K n (SPm j))
  | 0 => by
    refine D.calG sc (spU_len hn) (fun f cdv A o s H vs Q E hr hg h => ?_)
    obtain ⟨_, _, xs, Qd, _, _, _, _, _, _, _, _, hS, _⟩ := h
    exact (z xs Qd hS).elim
  | j + 1 => by
    have ih := Df.calR D sc hn hN z hs hb j
    exact D.calU sc hn hN (hs j) (hb j ih)
/-- the law's own text behind its tape -/
def endsLaw : EndsD := { nx := fun _ => False, rt := fun x => x = .p (.bool true) }
def iniLaw (n : Nat) : Ro := none :: some .tape :: List.replicate n none
/-- .. where the tables stand -/
def spLawT (K : PySem.W.Frag) : Sp := fun vs H Q _ => ∃ (a : Addr) (ns : List Int), vs = [.ref a] ∧ SqL K H a (ns.map V.int) ∧ ns.length ≤ 63 ∧ Tbs H ∧ ∀ H', Q (.bl true) H'
theorem law_body {X : Cx} {st : Stmt} {sts : List Stmt} {t : TSD} {N : List Str} {n : Nat} {vs : List V} {H : Hp} {Q : VK} {E : XK}
    (h1 : PS X st (tAsg (tCall (spTape X.K) [] E0 (tCons (tVar 0) tNil)) (gName 1))) (h2 : FSs X sts t) (hN : N.length = n + 2) (pf : t endsLaw (iniLaw n)) (h : spLawT X.K vs H Q E) :
    ∃ t, PSs X (st :: sts) t ∧ t { nx := fun _ h => Q .non h, rt := Q } (L2.start N vs) H := by
  obtain ⟨a, ns, rfl, hS, hl, tb, q⟩ := h
  have es : L2.start N [V.ref a] = some (V.ref a) :: none :: List.replicate n none := by
    unfold L2.start
    rw [hN]
    show some (V.ref a) :: List.replicate (n + 2 - 1) none = _
    rw [show n + 2 - 1 = n + 1 by omega, List.replicate_succ]
  rw [es]
  refine ⟨_, pss_cons h1 h2, .ref a, rfl, a, ns, rfl, hS, hl, fun tt H' hs hn T => ?_⟩
  have hT := T.ex
  obtain ⟨ns', p', n', s', g1, g2, g3, g4, g5, g6⟩ := hT
  have tb' : Tbs H' := tb.ext hs
  refine ⟨⟨tt, fun b => b = tt.1 ∨ b = tt.2 ∨ ∃ p ∈ TB.T, p.1 = b, fun _ => False, H', [], [], fun _ => False⟩, iniLaw n, endsLaw, ?_, pf, ?_⟩
  · have e : (some (V.ref a) :: none :: List.replicate n none).set 1 (some (V.ref tt.1)) = some (V.ref a) :: some (V.ref tt.1) :: List.replicate n none := rfl
    rw [e]
    have none_of : ∀ {j : Nat} {y : D}, (List.replicate n (none : Option D))[j]? ≠ some (some y) := by
      intro j y h
      rw [List.getElem?_replicate] at h
      split at h <;> cases h
    have nt : ∀ (i : Nat) (m : M), (iniLaw n)[i]? ≠ some (some (.ot m)) := by
      intro i m e
      match i with
      | 0 => cases e
      | 1 => cases e
      | j + 2 => exact (none_of e).elim
    have nb : ∀ (i : Nat) (q : Addr) (m : M), (iniLaw n)[i]? ≠ some (some (D.bor q m)) := by
      intro i q m e
      match i with
      | 0 => cases e
      | 1 => cases e
      | j + 2 => exact (none_of e).elim
    refine ⟨by simp [iniLaw], fun i y e => ?_, fun i j b ds es h1 h2 _ _ => ?_, T, Kq.refl _ _, .inl rfl, .inr (.inl rfl), ?_, fun b z => z.elim, ?_, (by intro q hq; cases hq), (by intro q hq; cases hq), fun p hp => .inr (.inr ⟨p, hp, rfl⟩), tb', ⟨fun _ => [], fun i m e => (nt i m e).elim, fun i j m n b h1 => (nt i m h1).elim, fun i p m e => (nb i p m e).elim, fun i p m j n h1 => (nb i p m h1).elim, fun i p m j n h1 => (nb i p m h1).elim⟩, fun b z => z.elim⟩
    · match i with
      | 0 => cases e
      | 1 => cases e; exact ⟨_, rfl, rfl⟩
      | j + 2 => exact (none_of e).elim
    · match i with
      | 0 => cases h1
      | 1 => cases h1
      | k + 2 => exact (none_of h1).elim
    · rintro b (rfl | rfl | ⟨p, hp, rfl⟩)
      · exact ⟨_, g1⟩
      · exact ⟨_, g3⟩
      · exact let ⟨ps, e⟩ := tb'.at hp; ⟨_, e⟩
    · rintro b (rfl | rfl | ⟨p, hp, rfl⟩)
      · exact ⟨_, g1⟩
      · exact ⟨_, g3⟩
      · exact let ⟨ps, e⟩ := tb'.at hp; ⟨_, e⟩
  · refine ⟨fun _ _ _ _ _ z => z.elim, fun v H2 x r hx => ?_, fun _ _ _ _ _ z => z.elim, fun _ _ _ _ _ z => z.elim⟩
    have hx : x = .p (.bool true) := hx
    subst hx
    have rr := r.rel
    cases rr
    exact q H2
end My
namespace My
open PySem PySem.Spec PyProof.Rows L2
variable [TB]
def D.view : D → Option D
  | .p d => some (.p d) | .nw ds => some (.p (.list ds)) | .own ds => some (.p (.list ds)) | .tape => some .tape | .ot m => some (.p m.dat) | .nt m => some (.p m.dat) | .fv f I => some (.fv f I) | .bor _ _ => none
def viewAll : List D → Option (List D)
  | [] => some []
  | x :: xs => match x.view, viewAll xs with
    | some d, some ds => some (d :: ds)
    | _, _ => none
def dCallV (n : Nat) (S : SpD) (t : TAD) : TED := fun ρ Q => t ρ fun xs => ∃ ys, viewAll xs = some ys ∧ ys.length = n ∧ S ys fun x => ∃ d, x = .p d ∧ fl d = true ∧ Q (.p d)
end My
namespace My
open PySem PySem.Spec PyProof.Rows L2
section
variable {P : Program} {w : World} {K : PySem.W.Frag} {mg : Str → Option Value} {base : Heap} {X : CXT} {k : Nat} {f : Addr} {fd : FuncData} {ps : List Str} {sp sp2 : Sp}
/-- a promise that asks for less, of one that asks for more -/
theorem FnG.to (F : FnG P w K mg base X k f fd ps sp) (m : ∀ vs H Q E, sp2 vs H Q E → sp vs H Q E) : FnG P w K mg base X k f fd ps sp2 :=
  ⟨fun vs H Q E h => F.ln vs H Q E (m _ _ _ _ h), fun A o s H ar us vs Q E a b c d e q => F.go A o s H ar us vs Q E a b c d e (m _ _ _ _ q)⟩
end
end My
namespace My
open PySem PySem.Spec PyProof.Rows L2
variable [TB]
/-- what is made becomes a tree -/
def D.mt : D → Option M
  | .p d => some (.leaf d) | .nw ds => some (.lst (ds.map .leaf)) | .nt m => some m | _ => none
section
variable {K : PySem.W.Frag} {C : Cd} {ρ : Ro} {σ : L2.St} {H H1 H2 H' : Hp} {v : V} {x : D} {m : M}
theorem RelMs.leaves {B : Addr → Prop} : ∀ {vs : List V} {ds : List PyData}, DtAll (wo B H) vs ds → RelMs H B vs (ds.map .leaf) []
  | _, _, .nil => .nil
  | _, _, .cons h t => by
    have := RelMs.cons (.leaf h) (RelMs.leaves t) (fun b hb => by cases hb)
    exact this
theorem RelE.mT (R : Rep K C ρ σ H) (e : RelE C ρ σ H H' v x) (hm : x.mt = some m) : ∃ f : List Addr, (∀ b ∈ f, H b = none) ∧ RelM H' (fun b => bad C ρ σ b ∨ b ∈ f) v m f := by
  cases x with
  | p d =>
    cases hm
    exact ⟨[], (fun b hb => by cases hb), .leaf (Dt.mono (wo_mono (fun b z => z.elim id fun y => by cases y) fun _ _ _ e => e) e)⟩
  | nw ds =>
    cases hm
    obtain ⟨p, vs, rfl, h1, h2, h3, h4⟩ := e
    refine ⟨[p], fun b hb => by rw [List.mem_singleton.mp hb]; exact h1, .lst h2 (RelMs.leaves (DtAll.mono (wo_mono (fun b z => z.elim .inl fun y => .inr (List.mem_singleton.mp y)) fun _ _ _ e => e) h3)) (by simp)⟩
  | nt m =>
    cases hm
    exact e
  | own ds => cases hm
  | tape => cases hm
  | ot m => cases hm
  | fv f F => cases hm
  | bor p m => cases hm
abbrev Cd.fl (C : Cd) (L : List Addr) : Cd := { C with F := fun b => C.F b ∨ b ∈ L }
theorem fl_nil : C.fl [] = C := by
  have : (fun b => C.F b ∨ b ∈ ([] : List Addr)) = C.F := funext fun b => propext ⟨fun z => z.elim id fun y => (by cases y), .inl⟩
  unfold Cd.fl
  rw [this]
theorem fl_at {p : Addr} {L : List Addr} : (C.fl L).at p = C.fl (p :: L) := by
  unfold Cd.fl Cd.at
  have : (fun b => (C.F b ∨ b ∈ L) ∨ b = p) = (fun b => C.F b ∨ b ∈ p :: L) := funext fun b => propext (by rw [List.mem_cons, or_assoc, or_comm (a := b ∈ L)])
  rw [this]
theorem fl_in {p : Addr} {L : List Addr} (h : p ∈ L) : (C.fl L).at p = C.fl L := by
  unfold Cd.fl Cd.at
  have : (fun b => (C.F b ∨ b ∈ L) ∨ b = p) = (fun b => C.F b ∨ b ∈ L) := funext fun b => propext ⟨fun z => z.elim id fun y => .inr (y ▸ h), .inl⟩
  rw [this]
theorem fl_fl {L N : List Addr} : (C.fl L).fl N = C.fl (L ++ N) := by
  unfold Cd.fl
  have : (fun b => (C.F b ∨ b ∈ L) ∨ b ∈ N) = (fun b => C.F b ∨ b ∈ L ++ N) := funext fun b => propext (by rw [List.mem_append, or_assoc])
  rw [this]
theorem bad_fl {L : List Addr} {b : Addr} : bad (C.fl L) ρ σ b ↔ bad C ρ σ b ∨ b ∈ L := by
  constructor
  · rintro (z | (z | z) | z | z)
    · exact .inl (.inl z)
    · exact .inl (.inr (.inl z))
    · exact .inr z
    · exact .inl (.inr (.inr (.inl z)))
    · exact .inl (.inr (.inr (.inr z)))
  · rintro ((z | z | z | z) | z)
    · exact .inl z
    · exact .inr (.inl (.inl z))
    · exact .inr (.inr (.inl z))
    · exact .inr (.inr (.inr z))
    · exact .inr (.inl (.inr z))
/-- new places are set apart -/
theorem Rep.fadd {L : List Addr} (R0 : Rep K C ρ σ H) (R : Rep K C ρ σ H') (k : Kq C.t H H') (hf : ∀ b ∈ L, H b = none) (hs : ∀ b ∈ L, ∃ o, H' b = some o) : Rep K (C.fl L) ρ σ H' := by
  have s : Same (wo (bad C ρ σ) H) (wo (bad (C.fl L) ρ σ) H') := fun a u e => by
    obtain ⟨f1, f2⟩ := wo_of e
    exact wo_mk (fun z => (bad_fl.mp z).elim f1 fun y => by rw [hf a y] at f2; cases f2) (k a u (R0.nxb f1) f2)
  have nl : ∀ b, b ∈ L → C.H0 b = none := fun b hb => R0.h0n (hf b hb)
  refine ⟨R.len, fun j y e => ?_, R.dis, R.tp, R.ext, R.s1, R.s2, R.s0, fun b hb => hb.elim (R.f0 b) (hs b), R.s00, fun q hq => PinD.mono s (R0.pin q hq), R.tin, R.s3, R.tab, ?_, fun b hb => ?_⟩
  · obtain ⟨w, g1, g2⟩ := R0.val j y e
    refine ⟨w, g1, ?_⟩
    cases y with
    | own ds =>
      obtain ⟨q, us, rfl, h3, h4, h5, h6⟩ := g2
      exact ⟨q, us, rfl, k q _ (R0.ownX h5.1).1 h3, DtAll.mono s h4, ⟨h5.1, fun z => z.elim h5.2 fun y => by rw [hf q y] at h3; cases h3⟩, h6⟩
    | p d => exact Dt.mono s g2
    | nw ds => exact g2
    | tape => exact g2
    | ot m => exact g2
    | nt m => exact g2
    | fv f F => exact ⟨g2.1, g2.2.mono s fun c q n e => k c _ n e⟩
    | bor p m => exact (show _ = V.ref p from g2)
  · obtain ⟨φ, T⟩ := R0.tre
    exact ⟨φ, T.mono s (fun b o hb e => k b o (R0.ownX (R0.g0 b hb).2.1).1 e) fun _ z => z⟩
  · obtain ⟨g1, g2, g3, g4⟩ := R.g0 b hb
    refine ⟨g1, g2, fun z => z.elim g3 fun y => ?_, g4⟩
    obtain ⟨o, e⟩ := (R0.g0 b hb).1
    rw [hf b y] at e; cases e
theorem Rep.unfl : ∀ {L : List Addr}, Rep K (C.fl L) ρ σ H → Rep K C ρ σ H
  | [], R => by rw [fl_nil] at R; exact R
  | p :: L, R => by rw [← fl_at] at R; exact Rep.unfl R.shut
theorem RelMs.snoc {B : Addr → Prop} {w : V} {n : M} {g : List Addr} (h2 : RelM H B w n g) : ∀ {vs : List V} {ms : List M} {f : List Addr}, RelMs H B vs ms f → (∀ b ∈ f, b ∉ g) → RelMs H B (vs ++ [w]) (ms ++ [n]) (f ++ g)
  | _, _, _, .nil, _ => by
    have := RelMs.cons h2 .nil (fun b _ hb => by cases hb)
    rw [List.append_nil] at this
    exact this
  | _, _, _, .cons h t d, hd => by
    rw [List.append_assoc]
    exact .cons h (RelMs.snoc h2 t fun b hb => hd b (List.mem_append_right _ hb)) fun b hb hc => by
      rcases List.mem_append.mp hc with hc | hc
      · exact d b hb hc
      · exact hd b (List.mem_append_left _ hb) hc
end
def lcM (el : ItD → (Option M → Prop) → Prop) : List ItD → List M → (List M → Prop) → Prop
  | [], acc, Q => Q acc
  | x :: xs, acc, Q => el x fun o => match o with
    | none => lcM el xs acc Q
    | some d => acc.length < sizeLine ∧ lcM el xs (acc ++ [d]) Q
def elM (g : TGD) (tt : TTD) (te : TED) (x : ItD) (ρ : Ro) (K : Option M → Prop) : Prop := g x ρ fun ρ2 => tt ρ2 fun b => if b = true then te ρ2 fun y => ∃ m, y.mt = some m ∧ K (some m) else K none
/-- a comprehension whose items are new lists -/
def dLcT (ti : TID) (g : TGD) (tt : TTD) (te : TED) (vs : List Nat) : TED := fun ρ Q => ti ρ fun items => lcM (fun x K => elM g tt te x (dWipe ρ vs) K) items [] fun acc => Q (.nt (.lst acc))
section
variable {K : PySem.W.Frag} {C : Cd} {ρ : Ro} {σ : L2.St} {H H1 H2 H' : Hp}
theorem up_lcT {ti : TID} {l : List Nat} {g : TGD} {tt : TTD} {te : TED} {vs : List Nat} (hl : ∀ j ∈ l, j ∈ vs) : ∀ σ H Q, up K (dLcT ti g tt te vs) σ H Q → tLc (upI K ti) (upG K l g) (upT K tt) (up K te) vs σ H Q := by
  rintro σ H Q ⟨C, ρ, Qd, R, h, post⟩
  refine ⟨C, ρ, _, R, h, ?_⟩
  rintro J H1 items pins R1 k1 wk q D hD
  have hD0 : H D = none := k1.free (R1.t1 hD) hD
  have hH0 : C.H0 D = none := R.h0n hD0
  refine ⟨fun i m Hc => m = items.length - i ∧ i ≤ items.length ∧ Kq C.t H1 Hc ∧ ∃ acc us f, Rep K ((C.add pins).fl (D :: f)) ρ σ Hc ∧ Hc D = some (.lst us) ∧ RelMs Hc (fun b => bad C ρ σ b ∨ b ∈ D :: f) us acc f ∧ D ∉ f ∧ (∀ b ∈ f, H b = none) ∧
      acc.length ≤ sizeLine ∧ lcM (fun x K => elM g tt te x (dWipe ρ vs) K) (items.drop i) acc fun acc => Qd (.nt (.lst acc)),
    ⟨_, rfl, Nat.zero_le _, Kq.new hD, [], [], [], ?_, upd_same, .nil, by simp, by simp, Nat.zero_le _, by simpa using q⟩, ?_⟩
  · have := R1.open hD (o := .lst [])
    rw [show (C.add pins).at D = (C.add pins).fl [D] by rw [← fl_at, fl_nil]] at this
    exact this
  rintro i m Hc ⟨rfl, hi, kc, acc, us, f, RD, hDc, hacc, nf, fn, hz, q⟩
  have bdl : ∀ b, bad ((C.add pins).fl (D :: f)) ρ σ b ↔ bad C ρ σ b ∨ b ∈ D :: f := fun b => bad_fl
  by_cases hlt : i < items.length
  · right
    rw [List.drop_eq_getElem_cons hlt] at q
    obtain ⟨go, hy⟩ := wk.go ((C.add pins).fl (D :: f)) ρ σ Hc i _ rfl (has_add pins) RD (List.getElem?_eq_getElem hlt)
    refine ⟨go, fun H' => i < items.length ∧ Kq C.t H1 H' ∧ ∃ acc us f, Rep K ((C.add pins).fl (D :: f)) ρ σ H' ∧ H' D = some (.lst us) ∧ RelMs H' (fun b => bad C ρ σ b ∨ b ∈ D :: f) us acc f ∧ D ∉ f ∧ (∀ b ∈ f, H b = none) ∧
      acc.length ≤ sizeLine ∧ lcM (fun x K => elM g tt te x (dWipe ρ vs) K) (items.drop (i + 1)) acc fun acc => Qd (.nt (.lst acc)), ?_, ?_⟩
    · rintro H' ⟨h1, h2, h3⟩
      exact ⟨items.length - (i + 1), by omega, rfl, h1, h2, h3⟩
    · intro x H' y
      obtain ⟨k2, R2, r2⟩ := hy x H' y
      have k2 : Kq C.t Hc H' := k2
      have R2w := R2.wiped vs
      have s0 : Same (wo (bad ((C.add pins).fl (D :: f)) ρ σ) H') (wo (bad (((C.add pins).fl (D :: f)).wp ρ σ vs) (dWipe ρ vs) (wipe σ vs)) H') := wo_mono (fun _ z => bad_wp.mp z) fun _ _ _ e => e
      have rI : RelI K (((C.add pins).fl (D :: f)).wp ρ σ vs) (dWipe ρ vs) (wipe σ vs) H' x items[i] := by
        revert r2
        generalize items[i] = z
        intro r2
        cases z with
        | one d => exact Dt.mono s0 r2
        | two d e =>
          obtain ⟨T, v1, v2, e1, e2, e3, e4⟩ := r2
          exact ⟨T, v1, v2, e1, e2, Dt.mono s0 e3, Dt.mono s0 e4⟩
      refine ⟨((C.add pins).fl (D :: f)).wp ρ σ vs, dWipe ρ vs, items[i], _, R2w, rI, q, fun ρ2 σ2 R3 a3 s3 q3 => ⟨wipe_agr a3.1 hl, ?_⟩⟩
      refine ⟨((C.add pins).fl (D :: f)).wp ρ σ vs, ρ2, _, R3, q3, fun b H3 R4 k4 q4 => ?_⟩
      have k4 : Kq C.t H' H3 := k4
      have nDt : nx C.t D := R1.t1 hD
      have nft : ∀ b ∈ f, nx C.t b := fun b hb => R.t1 (fn b hb)
      have bw : ∀ b, bad ((C.add pins).fl (D :: f)) ρ σ b → bad (((C.add pins).fl (D :: f)).wp ρ σ vs) ρ2 σ2 b := fun b z => by
        rcases (bad_wp (C := (C.add pins).fl (D :: f)) (vs := vs)).mpr z with z | z | ⟨j, ds, f1, f2⟩ | z
        · exact .inl z
        · exact .inr (.inl z)
        · have nj := (dWipe_some f1).2
          exact .inr (.inr (.inl ⟨j, ds, by rw [a3.2.2 j (fun z => nj (hl j z))]; exact f1, by rw [a3.1.2 j (fun z => nj (hl j z))]; exact f2⟩))
        · exact .inr (.inr (.inr z))
      cases b with
      | false =>
        rw [if_neg Bool.false_ne_true] at q4
        show (if false = true then _ else _)
        rw [if_neg Bool.false_ne_true]
        have k : Kq C.t Hc H3 := k2.trans k4
        have RD' := RD.step (C := (C.add pins).fl (D :: f)) k R4.tp R4.tab
        refine ⟨hlt, kc.trans k, acc, us, f, RD', k D _ nDt hDc, hacc.mono ?_ (fun b hb o e => k b o (nft b hb) e), nf, fn, hz, q4⟩
        exact wo_mono (fun _ z => z) fun a o n e => k a o (RD.nxb fun z => n ((bdl a).mp z)) e
      | true =>
        rw [if_pos rfl] at q4
        show (if true = true then _ else _)
        rw [if_pos rfl]
        refine ⟨((C.add pins).fl (D :: f)).wp ρ σ vs, ρ2, _, R4, q4, ?_⟩
        rintro v H4 y R5 k5 e5 ⟨d, hd, hz', q5⟩
        have k5 : Kq C.t H3 H4 := k5
        have k : Kq C.t Hc H4 := (k2.trans k4).trans k5
        have RD' := RD.step (C := (C.add pins).fl (D :: f)) k R5.tp R5.tab
        obtain ⟨gg, gn, gm⟩ := e5.mT R4 hd
        have hD4 : H4 D = some (.lst us) := k D _ nDt hDc
        -- the new places
        have gn0 : ∀ b ∈ gg, Hc b = none := fun b hb => (k2.trans k4).free (R4.t1 (gn b hb)) (gn b hb)
        have gn1 : ∀ b ∈ gg, H b = none := fun b hb => (k1.trans kc).free (R.tab.nx R.tp ((k1.trans kc).free (RD.t1 (gn0 b hb)) (gn0 b hb))) (gn0 b hb)
        have gf : ∀ b ∈ gg, b ≠ D ∧ b ∉ f := fun b hb => ⟨fun z => (by rw [← z, gn0 b hb] at hDc; cases hDc), fun z => by
          obtain ⟨o, e⟩ := hacc.some b z
          rw [gn0 b hb] at e; cases e⟩
        have hR0 := RD.fadd RD' k gn0 (fun b hb => gm.some b hb)
        rw [fl_fl, List.cons_append] at hR0
        have n1 : ¬ ownAt ρ σ D := by
          rintro ⟨j, ds, f1, f2⟩
          obtain ⟨w, g1, p, ws, rfl, g3, g4, g5, g6⟩ := RD'.val j _ f1
          rw [f2] at g1
          cases g1
          exact g5.2 (.inr List.mem_cons_self)
        have n0 : ¬ C.S0 D := R.s0n hH0
        have n3 : D ≠ C.t.2 := fun z => n0 (z ▸ R.s2)
        have inn : D ∈ D :: (f ++ gg) := List.mem_cons_self
        rw [← fl_in (C := C.add pins) inn] at hR0
        have hR : Rep K (((C.add pins).fl (D :: (f ++ gg))).at D) ρ σ (upd H4 D (.lst (us ++ [v]))) := Rep.grow (C := (C.add pins).fl (D :: (f ++ gg))) hR0 hD4 (fun _ _ z => by cases z) (fun c q => by rw [hD4]; exact fun z => lst_code (Option.some.inj z)) n0 n1 nDt n3 hH0
        rw [fl_in (C := C.add pins) inn] at hR
        have eD : ∀ {a : Addr} {o : HO}, a ≠ D → H4 a = some o → upd H4 D (.lst (us ++ [v])) a = some o := fun n e => by rw [upd_ne n]; exact e
        have hm1 : RelMs (upd H4 D (.lst (us ++ [v]))) (fun b => bad C ρ σ b ∨ b ∈ D :: (f ++ gg)) us acc f := by
          refine hacc.mono (fun a o e => ?_) (fun b hb o e => eD (fun z => nf (z ▸ hb)) (k b o (nft b hb) e))
          obtain ⟨f1, f2⟩ := wo_of e
          refine wo_mk (fun z => ?_) (eD (fun z => f1 (.inr (z ▸ List.mem_cons_self))) (k a o (RD.nxb fun z => f1 ((bdl a).mp z)) f2))
          rcases z with z | z
          · exact f1 (.inl z)
          · rcases List.mem_cons.mp z with z | z
            · exact f1 (.inr (z ▸ List.mem_cons_self))
            · rcases List.mem_append.mp z with z | z
              · exact f1 (.inr (List.mem_cons_of_mem _ z))
              · rw [gn0 a z] at f2; cases f2
        have hm2 : RelM (upd H4 D (.lst (us ++ [v]))) (fun b => bad C ρ σ b ∨ b ∈ D :: (f ++ gg)) v d gg := by
          refine gm.mono (fun a o e => ?_) (fun b hb o e => eD (gf b hb).1 e)
          obtain ⟨f1, f2⟩ := wo_of e
          refine wo_mk (fun z => f1 ?_) (eD (fun z => f1 (.inl (bw a ((bdl a).mpr (.inr (z ▸ List.mem_cons_self)))))) f2)
          rcases z with z | z
          · exact .inl (bw a ((bdl a).mpr (.inl z)))
          · rcases List.mem_cons.mp z with z | z
            · exact .inl (bw a ((bdl a).mpr (.inr (z ▸ List.mem_cons_self))))
            · rcases List.mem_append.mp z with z | z
              · exact .inl (bw a ((bdl a).mpr (.inr (List.mem_cons_of_mem _ z))))
              · exact .inr z
        refine ⟨us, hD4, by rw [hacc.len]; exact hz', hlt, fun b o nb e => ?_, acc ++ [d], us ++ [v], f ++ gg, hR, upd_same, hm1.snoc hm2 (fun b hb hc => (gf b hc).2 hb), ?_, ?_, by simp; omega, q5⟩
        · rw [upd_ne (ne_of_none e hD)]
          exact (kc.trans k) b o nb e
        · intro z
          rcases List.mem_append.mp z with z | z
          · exact nf z
          · exact (gf D z).1 rfl
        · intro b hb
          rcases List.mem_append.mp hb with z | z
          · exact fn b z
          · exact gn1 b z
  · left
    have e : i = items.length := by omega
    subst e
    rw [List.drop_length] at q
    refine ⟨wk.stop ((C.add pins).fl (D :: f)) ρ σ Hc rfl (has_add pins) RD, post (.ref D) Hc (.nt (.lst acc)) RD.unfl.unpin (k1.trans kc) ⟨D :: f, ?_, .lst hDc hacc nf⟩ q⟩
    intro b hb
    rcases List.mem_cons.mp hb with z | z
    · rw [z]; exact hD0
    · exact fn b z
end
end My
namespace My
open PySem PySem.Spec PyProof.Rows L2
variable [TB]
section
variable {K : PySem.W.Frag} {C : Cd} {ρ : Ro} {σ : L2.St} {H H1 H2 H' : Hp} {v : V} {x : D} {m : M}
theorem rels_get {B : Addr → Prop} : ∀ {vs : List V} {ms : List M} {f : List Addr} {n : Nat} {m : M}, RelMs H B vs ms f → ms[n]? = some m → ∃ v g, vs[n]? = some v ∧ RelM H B v m g ∧ ∀ b ∈ g, b ∈ f
  | _, _, _, _, _, .nil, e => by simp at e
  | _, _, _, 0, _, .cons h t d, e => by
    simp at e; subst e
    exact ⟨_, _, rfl, h, fun b hb => List.mem_append_left _ hb⟩
  | _, _, _, n + 1, _, .cons h t d, e => by
    obtain ⟨v, g, h1, h2, h3⟩ := rels_get (n := n) t (by simpa using e)
    exact ⟨v, g, by simpa using h1, h2, fun b hb => List.mem_append_right _ (h3 b hb)⟩
/-- one of the things within is written anew, at its places -/
theorem rels_set {B : Addr → Prop} {H' : Hp} {m' : M} : ∀ {vs : List V} {ms : List M} {f : List Addr} {n : Nat} {m : M}, RelMs H B vs ms f → ms[n]? = some m →
    (∀ (v : V) (g : List Addr), vs[n]? = some v → RelM H B v m g → (∀ b ∈ g, b ∈ f) → RelM H' B v m' g ∧ ∀ b o, b ∉ g → H b = some o → H' b = some o) → (∀ b ∈ f, B b) → (∀ b o, ¬ B b → H b = some o → H' b = some o) → RelMs H' B vs (ms.set n m') f
  | _, _, _, _, _, .nil, e, _, _, _ => by simp at e
  | _, _, _, 0, _, .cons h t d, e, w, hb, k => by
    simp at e; subst e
    obtain ⟨h', kp⟩ := w _ _ rfl h fun b hb => List.mem_append_left _ hb
    exact .cons h' (t.mono (wo_mono (fun _ z => z) k) fun b hb o e => kp b o (fun z => d b z hb) e) d
  | _, _, _, n + 1, _, .cons (f := f1) (g := g1) h t d, e, w, hb, k => by
    have e : _ := (by simpa using e : _[n]? = some _)
    have := rels_set (n := n) t e (fun v g h1 h2 h3 => w v g (by simpa using h1) h2 fun b hb => List.mem_append_right _ (h3 b hb)) (fun b hx => hb b (List.mem_append_right _ hx)) k
    obtain ⟨v, g, q1, q2, q3⟩ := rels_get t e
    obtain ⟨_, kp⟩ := w v g (by simpa using q1) q2 fun b hb => List.mem_append_right _ (q3 b hb)
    refine .cons (h.mono (wo_mono (fun _ z => z) k) fun b hb o e => kp b o (fun z => d b hb (q3 b z)) e) this d
/-- a leaf is written anew -/
theorem rels_leaf {B : Addr → Prop} {w : V} {e' : PyData} (hw : Dt (wo B H) w e') : ∀ {vs : List V} {ms : List M} {f : List Addr} {k : Nat} {d : PyData}, RelMs H B vs ms f → ms[k]? = some (.leaf d) → RelMs H B (vs.set k w) (ms.set k (.leaf e')) f
  | _, _, _, _, _, .nil, e => by simp at e
  | _, _, _, 0, _, .cons h t d, e => by
    simp at e; subst e
    cases h
    exact .cons (.leaf hw) t d
  | _, _, _, k + 1, _, .cons h t d, e => .cons h (rels_leaf hw (k := k) t (by simpa using e)) d
end
def dSetT (i : Nat) (te : TED) : TSD := fun Dd ρ => te ρ fun x => ∃ m, x.mt = some m ∧ Dd.nx (ρ.set i (some (.ot m)))
def dFzT (i : Nat) (t : TSD) : TSD := fun Dd ρ => ∃ m, ρ[i]? = some (some (.ot m)) ∧ t Dd (ρ.set i (some (.p m.dat)))
/-- one of a list's own lists gets another name, at which it is written -/
def dAli (i j n k : Nat) (te : TED) (t : TSD) : TSD := fun Dd ρ => ∃ ms ns, ρ[i]? = some (some (.ot (.lst ms))) ∧ i ≠ j ∧ j < ρ.length ∧ ms[n]? = some (.lst ns) ∧ te (ρ.set j none) fun x => ∃ d d0, x.st = some d ∧ ns[k]? = some (.leaf d0) ∧
  t Dd ((ρ.set j none).set i (some (.ot (.lst (ms.set n (.lst (ns.set k (.leaf d))))))))
section
variable {X : Cx} {st st2 : Stmt} {sts : List Stmt} {t u : TSD}
theorem fs_setTM {i : Nat} {te : TED} {t0 : TE} (h : PS X st (tAsg t0 (gName i))) (m : ∀ σ H Q, up X.K te σ H Q → t0 σ H Q) : FS X st (dSetT i te) := by
  refine h.mo ?_
  rintro D σ H ⟨C, ρ, Dd, R, h, L⟩
  refine m _ _ _ ⟨C, ρ, _, R, h, ?_⟩
  rintro v H1 x R1 k e ⟨n, hm, q⟩
  obtain ⟨f, h1, h2⟩ := e.mT R hm
  exact (L.gg _).nx _ _ _ (R.setT R1 k i h1 h2) q
theorem fs_setT {i : Nat} {te : TED} (h : PS X st (tAsg (up X.K te) (gName i))) : FS X st (dSetT i te) := fs_setTM h fun _ _ _ q => q
theorem fss_fzT (i : Nat) (h : FSs X sts t) : FSs X sts (dFzT i t) := by
  refine PSs.mo h ?_
  rintro D σ H ⟨C, ρ, Dd, R, ⟨m, e, h⟩, L⟩
  obtain ⟨G, R'⟩ := R.frzT e
  exact ⟨C.gg G, _, Dd, R', h, L.gg G⟩
theorem fs_setLcT {i : Nat} {y : Str} {py : Pos} {elt tg iter : Expr} {ifs : List Expr} {scope : Scope} {own : List (Str × Nat)} {spos : Pos} {ti : TID} {l : List Nat} {g : TGD} {tt : TTD} {te : TED} (hc : X.calm = true) (hN : X.N.Nodup) (hy : X.N[i]? = some y) (hyl : X.env.scope.names.lookup y = some .local)
    (hsw : swapsWith (.ListComp elt [⟨tg, iter, ifs, 0⟩] scope pos) (some (.Name y py)) spos.line X.env = pure true) (hi : FI X tg iter ti) (ok : BlkOk X.N X.env.scope scope own)
    (hg : ∀ (s : Shared) (H : Hp) (C : Addr) (cl : List (Str × Addr)) (fp : List Addr), FG (X.blk s H scope (compEnvC scope cl C X.env) fp) tg l g) (ht : ∀ (s : Shared) (H : Hp) (C : Addr) (cl : List (Str × Addr)) (fp : List Addr), FTs (X.blk s H scope (compEnvC scope cl C X.env) fp) ifs tt)
    (he : ∀ (s : Shared) (H : Hp) (C : Addr) (cl : List (Str × Addr)) (fp : List Addr), FE (X.blk s H scope (compEnvC scope cl C X.env) fp) elt te) (hl : ∀ j ∈ l, j ∈ own.map (·.2)) (hs : ∀ x, foldedSetIterable iter X.env x = pure x := by intro _; rfl) :
    FS X (.Assign [.Name y py] (.ListComp elt [⟨tg, iter, ifs, 0⟩] scope pos) spos) (dSetT i (dLcT ti g tt te (own.map (·.2)))) :=
  fs_setTM (ps_setLc hc hN hy hyl hsw hi ok hg ht he hs) (up_lcT hl)
theorem fe_lcT {elt tg iter : Expr} {ifs : List Expr} {scope : Scope} {own : List (Str × Nat)} {ti : TID} {l : List Nat} {g : TGD} {tt : TTD} {te : TED} (hc : X.calm = true) (hN : X.N.Nodup) (hi : FI X tg iter ti) (ok : BlkOk X.N X.env.scope scope own)
    (hg : ∀ (s : Shared) (H : Hp) (C : Addr) (cl : List (Str × Addr)) (fp : List Addr), FG (X.blk s H scope (compEnvC scope cl C X.env) fp) tg l g) (ht : ∀ (s : Shared) (H : Hp) (C : Addr) (cl : List (Str × Addr)) (fp : List Addr), FTs (X.blk s H scope (compEnvC scope cl C X.env) fp) ifs tt)
    (he : ∀ (s : Shared) (H : Hp) (C : Addr) (cl : List (Str × Addr)) (fp : List Addr), FE (X.blk s H scope (compEnvC scope cl C X.env) fp) elt te) (hl : ∀ j ∈ l, j ∈ own.map (·.2)) (hs : ∀ x, foldedSetIterable iter X.env x = pure x := by intro _; rfl) :
    FE X (.ListComp elt [⟨tg, iter, ifs, 0⟩] scope pos) (dLcT ti g tt te (own.map (·.2))) :=
  (pe_lc hc hN hi ok hg ht he hs).mo (up_lcT hl)
end
end My
namespace My
open PySem PySem.Spec PyProof.Rows L2
def rDIn (w : World) (neg : Bool) : R2 := fun y x H Q => ∃ a kvs k, x = .ref a ∧ IsDic w H a kvs ∧ UniK H kvs y k ∧ Q (.bl (if neg = true then !(fnd kvs k).isSome else (fnd kvs k).isSome)) H
def rDIx (w : World) : R2 := fun x y H Q => ∃ a kvs k v, x = .ref a ∧ IsDic w H a kvs ∧ UniK H kvs y k ∧ fnd kvs k = some v ∧ Q v H
def rDSet (w : World) : V → V → V → Hp → (Hp → Prop) → Prop := fun o i v H Q => ∃ a kvs k, o = .ref a ∧ IsDic w H a kvs ∧ UniK H kvs i k ∧ kvs.length < sizeLine ∧ ((kvs.map (·.1)).Nodup → ∀ ep, Q (upd H a (DicO w a (putD kvs k i v) ep)))
def rDGet (w : World) : V → List V → Hp → VK → Prop := fun x xs H Q => ∃ a kvs k y, x = .ref a ∧ IsDic w H a kvs ∧ UniK H kvs y k ∧ ((xs = [y] ∧ Q ((fnd kvs k).getD .non) H) ∨ ∃ d, xs = [y, d] ∧ Q ((fnd kvs k).getD d) H)
section
variable {X : Cx}
theorem op_dNotIn (hu : X.A.units + 9 < cLine) : OpR X (compareOp .NotIn) (rDIn X.w true) := by
  intro pins s σ H x y v u Q I rx ry h
  obtain ⟨a, kvs, k, rfl, e, U, q⟩ := h
  cases ry
  exact dc_notIn hu I e U rx fun s' I' => ⟨.bl _, H, I', rfl, q⟩
theorem set_dic (hu : X.A.units + 9 < cLine) : PSet X (rDSet X.w) := by
  intro pins s σ H o i v ov iv u Q I ro ri rv h
  obtain ⟨a, kvs, k, rfl, e, U, hl, q⟩ := h
  cases ro
  exact dc_set hu I e U hl ri rv fun ep s' I' => ⟨_, I', q (dc_raw I e).n ep⟩
theorem mt_dget (hu : X.A.units + 9 < cLine) : MtM X "dict.get" (rDGet X.w) := by
  intro pins s σ H x xs v us Q I rx rs h
  obtain ⟨a, kvs, k, y, rfl, e, U, h⟩ := h
  cases rx
  rcases h with ⟨rfl, q⟩ | ⟨d, rfl, q⟩
  · cases rs with
    | cons r1 rs =>
      cases rs
      exact dc_get1 hu I e U r1 fun w' s' I' rw' => ⟨_, H, I', rw', q⟩
  · cases rs with
    | cons r1 rs =>
      cases rs with
      | cons r2 rs =>
        cases rs
        exact dc_get2 hu I e U r1 r2 fun w' s' I' rw' => ⟨_, H, I', rw', q⟩
/-- d[y] -/
theorem pe_dix {o i : Expr} {td ty : TE} {pos : Pos} (hu : X.A.units + 9 < cLine) (ho : PE X o td) (hi : PE X i ty) (hs : NoSl i) : PE X (.Subscript o i pos) (tOp (rDIx X.w) td ty) := by
  constructor
  intro pins s σ H Q I h
  refine subD_of PySem.F.slot_dict_getitem.lookup hs (thn (ho.run pins s σ H _ I h) ?_)
  rintro u s1 ⟨x, H1, I1, rx, q1⟩
  refine thn (hi.run pins s1 σ H1 _ I1 q1) ?_
  rintro iv s2 ⟨y, H2, I2, ry, a, kvs, k, v, rfl, e, U, g, q2⟩
  cases rx
  exact ⟨(dc_raw I2 e).typeIs, dc_get hu I2 e U g ry fun w' s3 I3 rw' => ⟨v, H2, I3, rw', q2⟩⟩
/-- d.m(..) -/
def tDM (w : World) (r : V → List V → Hp → VK → Prop) (to : TE) (t : TA) : TE := fun σ H Q => to σ H fun x H1 => (∃ a kvs, x = .ref a ∧ IsDic w H1 a kvs) ∧ t σ H1 fun xs H2 => r x xs H2 Q
theorem pe_dm {o e : Expr} {es : List Expr} {name : Str} {id : String} {r : V → List V → Hp → VK → Prop} {to : TE} {t : TA} {apos cpos : Pos} (slot : Slot "dict" name id) (hty : typeOf (.builtin id) = pure (.type "method_descriptor")) (hm : MtM X id r) (ho : PE X o to) (ha : PA X (e :: es) t)
    (hbase : attributeBase o name X.env (eval o X.env) = eval o X.env := by rfl)
    (hfw : ((backTo cpos (starEach (e :: es) X.env)).all (fun x => !x.1) && (backToKw cpos (keywordEach [] X.env)).all (fun x => x.1.isSome) && decide
      ((e :: es).length + ([] : List Keyword).length + (if ([] : List Keyword).isEmpty then 0 else 1) < 30)) = true := by rfl)
    (hln : (apos.endLine == cpos.line) = true := by rfl) (hs : starEach (e :: es) X.env = (false, eval e X.env) :: starEach es X.env := by rfl)
    (hpl : (backTo cpos (starEach es X.env)).any (·.1) = false := by rfl) :
    PE X (.Call (.Attribute o name apos) (e :: es) [] cpos) (tDM X.w r to t) := by
  constructor
  intro pins s σ H Q I h
  refine wpAny_Call_method_late hbase hfw hln rfl (thn (ho.run pins s σ H _ I h) ?_)
  rintro v s1 ⟨x, H1, I1, r1, ⟨a, kvs, rfl, e⟩, q1⟩
  cases r1
  have R := dc_raw I1 e
  refine ⟨"dict", id, PySem.F.plainAttrs_dict, slot, hty, R.typeIs, R.noDict, ?_⟩
  have hA := ha.run cpos pins s1 σ H1 _ I1 q1
  rw [hs] at hA ⊢
  refine Calls.callWith_builtin (by show (false || (backTo cpos (starEach es X.env)).any (·.1)) = false; rw [hpl]; rfl) (Calls.evalArgs_plain (thn hA ?_))
  rintro us s2 ⟨vs, H2, I2, r2, q2⟩
  exact hm pins s2 σ H2 (.ref a) vs (.ref a) us Q I2 rfl r2 q2
/-- {} -/
def tDNew (w : World) : TE := fun _ H Q => ∀ p ep, H p = none → Q (.ref p) (upd H p (DicO w p [] ep))
theorem dic_empty (w : World) (h : Heap) (hb : sysModules < h.objs.size) : RawD w (h.push { cls := .type "dict", data := .dict #[] }) h.objs.size [] :=
  ⟨Nat.zero_le _, beq_eq_false_iff_ne.mpr (Ne.symm (Nat.ne_of_lt hb)), List.nodup_nil, _, #[], 0, Heap.get?_push_size _ rfl, ⟨rfl, rfl, rfl⟩, rfl, .nil⟩
theorem pe_dnew {pos : Pos} : PE X (.Dict [] [] pos) (tDNew X.w) := by
  constructor
  intro pins s σ H Q I h
  exact wpAny_Dict_empty ⟨.ref s.heap.objs.size, _, I.laid (a := s.heap.objs.size) (o := DicO X.w s.heap.objs.size [] 0) (t' := s.toks) (fun _ _ q => Heap.get?_push_of_some _ q) (Nat.le_refl _) ((dic_empty X.w s.heap I.big).ok2 ⟨_, _, Heap.get?_push_size _ rfl, rfl⟩), rfl, h _ 0 (I.hok.fresh (Nat.le_refl _))⟩
/-- dict(pairs) of a tuple -/
def mxK (kvs : List (Key × V)) : KVs := kvs.map fun p => ((mixF p.1).1, (mixF p.1).2, p.2)
theorem mx_rel {P : Program} {w : World} {kvs : List (Key × V)} {vs : List (Key × Value)} (r : KV kvs vs) : Paired (mixE P w).Rel (mxK kvs) vs := by
  unfold KV at r
  induction r with
  | nil => exact .nil
  | @cons p q ps qs h t ih =>
    obtain ⟨h1, h2⟩ := h
    unfold mxK
    rw [List.map_cons]
    refine .cons ⟨?_, ?_, h2⟩ ih
    · rw [← h1]; obtain ⟨k, v⟩ := p; cases k <;> rfl
    · rw [← h1]; obtain ⟨k, v⟩ := p; cases k <;> rfl
end
end My
namespace My
open PySem PySem.Spec PyProof.Rows L2
variable [TB]
def dsort (d : PyData) : Nat := match d with
  | .int _ => 1
  | .str _ => 1
  | .bool _ => 2
  | .tuple ds => match canon (.tuple ds) with
    | some k => if k.depth ≤ 8 then 3 else 0
    | none => 0
  | _ => 0
/-- the keys and this one are of one sort -/
def uniB (ks : List PyData) (d : PyData) : Bool := (dsort d != 0) && ks.all fun q => dsort q == dsort d
/-- the place of a key -/
def kIx : List PyData → PyData → Option Nat
  | [], _ => none
  | q :: ks, d => if canon q = canon d then some 0 else (kIx ks d).map (· + 1)
def D.dks : D → Option (List PyData × List M)
  | .ot (.dic ks ms) => some (ks, ms) | .nt (.dic ks ms) => some (ks, ms) | .p (.dict ds) => some (ds.map (·.1), ds.map fun q => .leaf q.2) | .bor _ (.dic ks ms) => some (ks, ms) | _ => none
mutual
theorem keyAt_of {H : Hp} : ∀ {v : V} {d : PyData} {k : NestedKey}, Dt H v d → canon d = some k → KeyAt H v k
  | _, _, _, .non, e => by rw [canon] at e; cases e; exact .non
  | _, _, _, .bl b, e => by rw [canon] at e; cases e; exact .bl b
  | _, _, _, .int i, e => by rw [canon] at e; cases e; exact .int i
  | _, _, _, .str x, e => by rw [canon] at e; cases e; exact .str x
  | _, _, _, .tup (ds := ds) h ha, e => by
    rw [canon] at e
    cases q : canons ds with
    | none => rw [q] at e; cases e
    | some ks => rw [q] at e; cases e; exact .tup h (keysAt_of ha q)
  | _, _, _, .lst _ _, e => by rw [canon] at e; cases e
  | _, _, _, .dic _ _ _ _, e => by rw [canon] at e; cases e
theorem keysAt_of {H : Hp} : ∀ {vs : List V} {ds : List PyData} {ks : List NestedKey}, DtAll H vs ds → canons ds = some ks → KeysAt H vs ks
  | _, _, _, .nil, e => by rw [canons] at e; cases e; exact .nil
  | _, _, _, .cons (d := d) (ds := ds) h t, e => by
    rw [canons] at e
    cases q : canon d with
    | none => rw [q] at e; cases e
    | some k =>
      cases r : canons ds with
      | none => rw [q, r] at e; cases e
      | some ks =>
        rw [q, r] at e
        cases e
        exact .cons (keyAt_of h q) (keysAt_of t r)
end
theorem keyAt_wo {B : Addr → Prop} {H : Hp} {v : V} {d : PyData} {k : NestedKey} (h : Dt (wo B H) v d) (e : canon d = some k) : KeyAt H v k := (keyAt_of h e).mono fun _ _ _ e => wo_same _ _ e
theorem dsort_tup (ds : List PyData) : dsort (.tuple ds) = match canon (.tuple ds) with
    | some k => if k.depth ≤ 8 then 3 else 0
    | none => 0 := rfl
theorem dsort_30 (ds : List PyData) : dsort (.tuple ds) = 3 ∨ dsort (.tuple ds) = 0 := by
  rw [dsort_tup]
  split
  · split
    · exact .inl rfl
    · exact .inr rfl
  · exact .inr rfl
theorem dsort_canon {d : PyData} (h : dsort d ≠ 0) : ∃ k, canon d = some k := by
  cases d with
  | int i => exact ⟨_, by rw [canon]⟩
  | str x => exact ⟨_, by rw [canon]⟩
  | bool b => exact ⟨_, by rw [canon]⟩
  | tuple ds =>
    rw [dsort_tup] at h
    split at h
    · exact ⟨_, by assumption⟩
    · exact (h rfl).elim
  | none => exact (h rfl).elim
  | list ds => exact (h rfl).elim
  | dict ds => exact (h rfl).elim
/-- a key of a sort -/
theorem sort_key {B : Addr → Prop} {H : Hp} {y : V} {d : PyData} {k : NestedKey} (h : Dt (wo B H) y d) (e : canon d = some k) :
    (dsort d = 1 → ∃ k', k = (mixF k').1 ∧ y = (mixF k').2) ∧ (dsort d = 2 → ∃ k', k = (booF k').1 ∧ y = (booF k').2) ∧ (dsort d = 3 → (∃ b, y = .ref b) ∧ KeyAt H y k ∧ k.depth ≤ 8) := by
  refine ⟨fun s => ?_, fun s => ?_, fun s => ?_⟩
  · cases h with
    | int i => rw [canon] at e; cases e; exact ⟨.inl i, rfl, rfl⟩
    | str x => rw [canon] at e; cases e; exact ⟨.inr x, rfl, rfl⟩
    | @tup _ _ ds _ _ => rcases dsort_30 ds with z | z <;> rw [z] at s <;> cases s
    | _ => cases s
  · cases h with
    | bl b => rw [canon] at e; cases e; exact ⟨b, rfl, rfl⟩
    | @tup _ _ ds _ _ => rcases dsort_30 ds with z | z <;> rw [z] at s <;> cases s
    | _ => cases s
  · have hk := keyAt_wo h e
    cases h with
    | tup ht _ =>
      refine ⟨⟨_, rfl⟩, hk, ?_⟩
      rw [dsort_tup, e] at s
      simp only at s
      split at s
      · assumption
      · cases s
    | _ => cases s
theorem each_key {B : Addr → Prop} {H : Hp} {n : Nat} : ∀ {kvs : KVs} {ks : List PyData}, DtAll (wo B H) (kvs.map (·.2.1)) ks → ks.map canon = kvs.map (fun q => some q.1) → (∀ q ∈ ks, dsort q = n) →
    ∀ p ∈ kvs, ∃ q, Dt (wo B H) p.2.1 q ∧ canon q = some p.1 ∧ dsort q = n
  | [], _, _, _, _, p, hp => by cases hp
  | p :: kvs, ks, h, e, hn, q, hq => by
    rw [List.map_cons] at h
    cases h with
    | cons h t =>
      rw [List.map_cons, List.map_cons] at e
      injection e with e1 e2
      rcases List.mem_cons.mp hq with rfl | hq
      · exact ⟨_, h, e1, hn _ List.mem_cons_self⟩
      · exact each_key t e2 (fun z hz => hn z (List.mem_cons_of_mem _ hz)) q hq
theorem uni_of {B : Addr → Prop} {H : Hp} {kvs : KVs} {ks : List PyData} {y : V} {d : PyData} {k : NestedKey} (h : DtAll (wo B H) (kvs.map (·.2.1)) ks) (e : ks.map canon = kvs.map (fun q => some q.1)) (hy : Dt (wo B H) y d) (ek : canon d = some k) (u : uniB ks d = true) : UniK H kvs y k := by
  unfold uniB at u
  rw [Bool.and_eq_true, bne_iff_ne] at u
  obtain ⟨u0, u1⟩ := u
  have un : ∀ q ∈ ks, dsort q = dsort d := fun q hq => by
    have := List.all_eq_true.mp u1 q hq
    simpa using this
  have all := each_key h e un
  have s3 : dsort d = 1 ∨ dsort d = 2 ∨ dsort d = 3 := by
    cases d with
    | int i => exact .inl rfl
    | str x => exact .inl rfl
    | bool b => exact .inr (.inl rfl)
    | tuple ds => exact (dsort_30 ds).elim (fun z => .inr (.inr z)) fun z => (u0 z).elim
    | none => exact (u0 rfl).elim
    | list ds => exact (u0 rfl).elim
    | dict ds => exact (u0 rfl).elim
  obtain ⟨k1, k2, k3⟩ := sort_key hy ek
  rcases s3 with s | s | s
  · obtain ⟨k', rfl, rfl⟩ := k1 s
    exact .mix k' fun p hp => let ⟨q, a, b, c⟩ := all p hp; (sort_key a b).1 (c.trans s)
  · obtain ⟨k', rfl, rfl⟩ := k2 s
    exact .boo k' fun p hp => let ⟨q, a, b, c⟩ := all p hp; (sort_key a b).2.1 (c.trans s)
  · obtain ⟨⟨b, rfl⟩, k4, k5⟩ := k3 s
    exact .tup k4 k5 fun p hp => let ⟨q, a, b, c⟩ := all p hp; (sort_key a b).2.2 (c.trans s)
theorem fnd_ix {d : PyData} {k : NestedKey} (ek : canon d = some k) : ∀ {kvs : KVs} {ks : List PyData}, ks.map canon = kvs.map (fun q => some q.1) →
    (kIx ks d = none → fnd kvs k = none) ∧ ∀ j, kIx ks d = some j → ∃ v, (kvs.map (·.2.2))[j]? = some v ∧ fnd kvs k = some v
  | [], [], _ => ⟨fun _ => rfl, fun j e => by cases e⟩
  | p :: kvs, [], e => by cases e
  | [], q :: ks, e => by cases e
  | p :: kvs, q :: ks, e => by
    rw [List.map_cons, List.map_cons] at e
    injection e with e1 e2
    obtain ⟨h1, h2⟩ := fnd_ix ek e2
    have hc : (canon q = canon d) ↔ p.1 = k := by rw [e1, ek]; exact ⟨fun z => Option.some.inj z, fun z => congrArg some z⟩
    unfold kIx
    by_cases hh : p.1 = k
    · rw [if_pos (hc.mpr hh)]
      refine ⟨fun z => (by cases z), fun j z => ?_⟩
      cases z
      refine ⟨p.2.2, rfl, ?_⟩
      unfold fnd
      rw [List.find?_cons, decide_eq_true hh]; rfl
    · rw [if_neg (fun z => hh (hc.mp z))]
      have ef : fnd (p :: kvs) k = fnd kvs k := by
        unfold fnd
        rw [List.find?_cons, decide_eq_false hh]
      rw [ef]
      refine ⟨fun z => h1 (by cases w : kIx ks d with | none => rfl | some j => rw [w] at z; cases z), fun j z => ?_⟩
      cases w : kIx ks d with
      | none => rw [w] at z; cases z
      | some i =>
        rw [w] at z
        cases z
        obtain ⟨v, g1, g2⟩ := h2 i w
        exact ⟨v, by simpa using g1, g2⟩
section
variable {K : PySem.W.Frag} {C : Cd} {ρ : Ro} {σ : L2.St} {H H1 H2 H' : Hp} {v u : V} {x y : D}
structure DicAt (C : Cd) (ρ : Ro) (σ : L2.St) (H : Hp) (v : V) (ks : List PyData) (ms : List M) : Prop where
  ex : ∃ a kvs, v = .ref a ∧ IsDic TB.w H a kvs ∧ DtAll (wo (bad C ρ σ) H) (kvs.map (·.2.1)) ks ∧ ks.map canon = kvs.map (fun q => some q.1) ∧ ∀ (j : Nat) (e : PyData), ms[j]? = some (M.leaf e) → ∃ v, (kvs.map (·.2.2))[j]? = some v ∧ Dt (wo (bad C ρ σ) H) v e
theorem leaf_of {B : Addr → Prop} {vs : List V} {ms : List M} {f : List Addr} (h : RelMs H B vs ms f) {j : Nat} {e : PyData} (g : ms[j]? = some (.leaf e)) : ∃ v, vs[j]? = some v ∧ Dt (wo B H) v e := by
  obtain ⟨v, _, h1, h2, _⟩ := rels_get h g
  cases h2
  exact ⟨v, h1, by assumption⟩
theorem Rep.dicOf (R : Rep K C ρ σ H') {ks : List PyData} {ms : List M} (h : RelE C ρ σ H H' v x) (e : x.dks = some (ks, ms)) : DicAt C ρ σ H' v ks ms := by
  cases x with
  | ot m =>
    obtain ⟨f, h1, h2⟩ := R.ofTree h
    cases m with
    | dic ks' ms' =>
      cases e
      cases h1 with
      | dic a b c d n => exact ⟨_, _, rfl, a, b, c, fun j e g => leaf_of d g⟩
    | leaf d => cases e
    | lst ms => cases e
  | nt m =>
    obtain ⟨f, h1, h2⟩ := h
    cases m with
    | dic ks' ms' =>
      cases e
      have s : Same (wo (fun b => bad C ρ σ b ∨ b ∈ f) H') (wo (bad C ρ σ) H') := wo_mono (fun _ z => .inl z) fun _ _ _ e => e
      cases h2 with
      | dic a b c d n =>
        refine ⟨_, _, rfl, a, DtAll.mono s b, c, fun j e g => ?_⟩
        obtain ⟨v, g1, g2⟩ := leaf_of d g
        exact ⟨v, g1, Dt.mono s g2⟩
    | leaf d => cases e
    | lst ms => cases e
  | p d =>
    cases d with
    | dict ds =>
      cases e
      cases h with
      | dic a b c d =>
        refine ⟨_, _, rfl, a.mono fun o e => wo_same _ _ e, b, by rw [List.map_map]; exact d, fun j e g => ?_⟩
        rw [List.getElem?_map] at g
        cases q : ds[j]? with
        | none => rw [q] at g; cases g
        | some z =>
          rw [q] at g
          cases g
          obtain ⟨v, g1, g2⟩ := c.of (i := j) (d := z.2) (by rw [List.getElem?_map, q]; rfl)
          exact ⟨v, g1, g2⟩
    | _ => cases e
  | own ds => cases e
  | nw ds => cases e
  | tape => cases e
  | fv f F => cases e
  | bor p m =>
    obtain ⟨i, e1, e2⟩ := h
    obtain ⟨w, g1, g2⟩ := R.val i _ e1
    rw [e2] at g1; cases g1
    obtain rfl : v = .ref p := g2
    obtain ⟨φ, T⟩ := R.tre
    have g := (T.bor i p _ e1).1
    cases m with
    | dic ks' ms' =>
      cases e
      cases g with
      | dic a b c d n => exact ⟨_, _, rfl, a, b, c, fun j e g => leaf_of d g⟩
    | leaf d => cases e
    | lst ms => cases e
end
def bInD (neg : Bool) (x y : D) (Q : D → Prop) : Prop := match x with
  | .p d => match y.dks with
    | some (ks, _) => uniB ks d = true ∧ Q (.p (.bool (if neg = true then !(kIx ks d).isSome else (kIx ks d).isSome)))
    | _ => False
  | _ => False
def bDx (x y : D) (Q : D → Prop) : Prop := match y with
  | .p d => match x.dks with
    | some (ks, ms) => uniB ks d = true ∧ ∃ j e, kIx ks d = some j ∧ ms[j]? = some (.leaf e) ∧ Q (.p e)
    | _ => False
  | _ => False
/-- the value at a key, or another -/
def kAt (ks : List PyData) (ms : List M) (d : PyData) (e0 : PyData) (Q : D → Prop) : Prop := match kIx ks d with
  | some j => ∃ e, ms[j]? = some (.leaf e) ∧ Q (.p e)
  | none => Q (.p e0)
def dGet (ta : TED) (ts : TAD) : TED := fun ρ Q => ta ρ fun x => x.dks.isSome = true ∧ ts ρ fun xs => match x.dks, xs with
  | some (ks, ms), [.p d] => uniB ks d = true ∧ kAt ks ms d .none Q
  | some (ks, ms), [.p d, z] => uniB ks d = true ∧ ∃ e0, z.st = some e0 ∧ kAt ks ms d e0 Q
  | _, _ => False
section
variable {K : PySem.W.Frag}
theorem uni_some {ks : List PyData} {d : PyData} (u : uniB ks d = true) : ∃ k, canon d = some k := by
  unfold uniB at u
  rw [Bool.and_eq_true, bne_iff_ne] at u
  exact dsort_canon u.1
theorem li_inDic (neg : Bool) : Li2 K (rDIn TB.w neg) (bInD neg) := by
  rintro C ρ σ H0 H v u x y Qd Q R k e1 e2 h post
  cases x with
  | p d =>
    unfold bInD at h
    cases q : y.dks with
    | none => rw [q] at h; exact h.elim
    | some p =>
      obtain ⟨ks, ms⟩ := p
      rw [q] at h
      obtain ⟨u1, h⟩ := h
      obtain ⟨k, ek⟩ := uni_some u1
      obtain ⟨a, kvs, rfl, g1, g2, g3, g4⟩ := (R.dicOf e2 q).ex
      refine ⟨a, kvs, k, rfl, g1, uni_of g2 g3 e1 ek u1, post _ H (.p (.bool _)) R (Kq.refl _ _) (.bl _) ?_⟩
      have f := fnd_ix ek g3
      have : (fnd kvs k).isSome = (kIx ks d).isSome := by
        cases w : kIx ks d with
        | none => rw [f.1 w]; rfl
        | some j => obtain ⟨v, _, e⟩ := f.2 j w; rw [e]; rfl
      rw [this]
      exact h
  | _ => exact h.elim
theorem li_dix : Li2 K (rDIx TB.w) bDx := by
  rintro C ρ σ H0 H v u x y Qd Q R k e1 e2 h post
  cases y with
  | p d =>
    unfold bDx at h
    cases q : x.dks with
    | none => rw [q] at h; exact h.elim
    | some p =>
      obtain ⟨ks, ms⟩ := p
      rw [q] at h
      obtain ⟨u1, j, e, h1, h2, h⟩ := h
      obtain ⟨k, ek⟩ := uni_some u1
      obtain ⟨a, kvs, rfl, g1, g2, g3, g4⟩ := (R.dicOf e1 q).ex
      obtain ⟨w, w1, w2⟩ := (fnd_ix ek g3).2 j h1
      obtain ⟨w', w3, w4⟩ := g4 j e h2
      rw [w1] at w3; cases w3
      exact ⟨a, kvs, k, w, rfl, g1, uni_of g2 g3 e2 ek u1, w2, post w H (.p e) R (Kq.refl _ _) w4 h⟩
  | _ => exact h.elim
end
section
variable {X : Cx} {a b o e : Expr} {es : List Expr} {ta tb : TED} {t : TAD} {pos p : Pos}
theorem cu_notInD (hw : X.w = TB.w) (hu : X.A.units + 65 < cLine) : CmpU X .NotIn (bInD true) := ⟨_, op_dNotIn (by omega), by rw [hw]; exact li_inDic true⟩
theorem fe_dix (hw : X.w = TB.w) (hu : X.A.units + 65 < cLine) (ha : FE X a ta) (hb : FE X b tb) (hs : NoSl b) : FE X (.Subscript a b pos) (dOp bDx ta tb) :=
  (pe_dix (by omega) ha hb hs).mo (up_op (by rw [hw]; exact li_dix))
theorem fe_dget {apos cpos : Pos} (hw : X.w = TB.w) (hu : X.A.units + 65 < cLine) (ho : FE X o ta) (ha : FA X (e :: es) t)
    (hbase : attributeBase o "get" X.env (eval o X.env) = eval o X.env := by rfl)
    (hfw : ((backTo cpos (starEach (e :: es) X.env)).all (fun x => !x.1) && (backToKw cpos (keywordEach [] X.env)).all (fun x => x.1.isSome) && decide
      ((e :: es).length + ([] : List Keyword).length + (if ([] : List Keyword).isEmpty then 0 else 1) < 30)) = true := by rfl)
    (hln : (apos.endLine == cpos.line) = true := by rfl) (hs : starEach (e :: es) X.env = (false, eval e X.env) :: starEach es X.env := by rfl)
    (hpl : (backTo cpos (starEach es X.env)).any (·.1) = false := by rfl) : FE X (.Call (.Attribute o "get" apos) (e :: es) [] cpos) (dGet ta t) := by
  refine (pe_dm PySem.F.slot_dict_get PySem.F.type_dict_get (mt_dget (by omega)) ho ha hbase hfw hln hs hpl).mo ?_
  rw [hw]
  rintro σ H Q ⟨C, ρ, Qd, R, h, post⟩
  refine ⟨C, ρ, _, R, h, ?_⟩
  rintro v H1 x R1 k1 e1 ⟨h1, h2⟩
  cases q : x.dks with
  | none => rw [q] at h1; cases h1
  | some pr =>
    obtain ⟨ks, ms⟩ := pr
    refine ⟨let ⟨a, kvs, ev, g1, _⟩ := (R1.dicOf e1 q).ex; ⟨a, kvs, ev, g1⟩, C, ρ, _, R1, h2, ?_⟩
    rintro vs H2 xs R2 k2 es h3
    rw [q] at h3
    have e2 : RelE C ρ σ H H2 v x := RelE.mono R k1 k2 e1
    obtain ⟨a, kvs, ev, g1, g2, g3, g4⟩ := (R2.dicOf e2 q).ex
    have fin : ∀ {d : PyData} {y w0 : V} {k : NestedKey} {e0 : PyData}, canon d = some k → Dt (wo (bad C ρ σ) H2) w0 e0 → kAt ks ms d e0 Qd → Q ((fnd kvs k).getD w0) H2 := fun {d y w0 k e0} ek hw0 hk => by
      unfold kAt at hk
      have f := fnd_ix ek g3
      cases w : kIx ks d with
      | none =>
        rw [w] at hk
        rw [f.1 w]
        exact post w0 H2 (.p e0) R2 (k1.trans k2) hw0 hk
      | some j =>
        rw [w] at hk
        obtain ⟨e, h5, h6⟩ := hk
        obtain ⟨z, w1, w2⟩ := f.2 j w
        obtain ⟨z', w3, w4⟩ := g4 j e h5
        rw [w1] at w3; cases w3
        rw [w2]
        exact post z H2 (.p e) R2 (k1.trans k2) w4 h6
    cases es with
    | nil => exact h3.elim
    | @cons v1 x1 vs xs c1 ct =>
      cases ct with
      | nil =>
        cases x1 with
        | p d =>
          obtain ⟨u1, h4⟩ := h3
          obtain ⟨k, ek⟩ := uni_some u1
          exact ⟨a, kvs, k, v1, ev, g1, uni_of g2 g3 c1 ek u1, .inl ⟨rfl, fin (y := v1) ek .non h4⟩⟩
        | _ => exact h3.elim
      | @cons v2 x2 vs xs c2 ct =>
        cases ct with
        | nil =>
          cases x1 with
          | p d =>
            obtain ⟨u1, e0, h4, h5⟩ := h3
            obtain ⟨k, ek⟩ := uni_some u1
            exact ⟨a, kvs, k, v1, ev, g1, uni_of g2 g3 c1 ek u1, .inr ⟨v2, rfl, fin (y := v1) ek (R1.stOf c2 h4) h5⟩⟩
          | _ => exact h3.elim
        | cons _ _ =>
          cases x1 <;> exact h3.elim
end
end My
namespace My
open PySem PySem.Spec PyProof.Rows L2
variable [TB]
def keyD : Key → PyData
  | .inl i => .int i
  | .inr x => .str x
def pairsOf : List PyData → Option (List (Key × PyData))
  | [] => some []
  | .tuple [.int i, v] :: r => (pairsOf r).map ((.inl i, v) :: ·)
  | .tuple [.str x, v] :: r => (pairsOf r).map ((.inr x, v) :: ·)
  | _ => none
/-- dict(pairs) -/
def kDict (x : D) (Q : D → Prop) : Prop := match x with
  | .p (.tuple ds) => match pairsOf ds with
    | some ps => (ps.map (·.1)).Nodup ∧ Q (.nt (.dic (ps.map fun p => keyD p.1) (ps.map fun p => .leaf p.2)))
    | _ => False
  | _ => False
end My
namespace My
open PySem PySem.Spec PyProof.Rows L2
section
variable {X : Cx}
theorem mx_ok {kvs : List (Key × V)} {H : Hp} {h : Heap} {a : Addr} (ok : HOk X.prog X.w H h) (e : H a = some (.dK kvs)) : RawD X.w h a (mxK kvs) := by
  obtain ⟨z, s, vs, r, d⟩ := dk_of ok e
  exact Emb.raw (m := mixE X.prog X.w) (mx_rel r) d (by unfold mxK; rw [List.length_map]; exact z) s
theorem retype {pins : List (Addr × Obj)} {σ : L2.St} {H : Hp} {s : Shared} {a : Addr} {kvs : List (Key × V)} (I : Inv X pins σ H s) (e : H a = some (.dK kvs)) : ∃ ep, Inv X pins σ (upd H a (DicO X.w a (mxK kvs) ep)) s := by
  have R := mx_ok I.hok e
  obtain ⟨ep, he⟩ := R.ep
  exact ⟨ep, d_write (t' := s.toks) I (by rw [e]; exact True.intro) ⟨rfl, fun _ _ => rfl⟩ (let ⟨o, _, _, h1, _⟩ := R.ex; ⟨o, h1⟩) (R.ok2 he)⟩
end
end My
namespace My
open PySem PySem.Spec PyProof.Rows L2
variable [TB]
/-- with a value at a key -/
def putM (ks : List PyData) (ms : List M) (d e : PyData) : M := match kIx ks d with
  | some j => .dic ks (ms.set j (.leaf e))
  | none => .dic (ks ++ [d]) (ms ++ [.leaf e])
def dNewD : TED := fun _ Q => Q (.nt (.dic [] []))
def dSetD (i : Nat) (tk tv : TED) : TSD := fun Dd ρ => ∃ ks ms, ρ[i]? = some (some (.ot (.dic ks ms))) ∧ tv ρ fun x => ∃ e, x.st = some e ∧ tk ρ fun y => ∃ d, y = .p d ∧ uniB ks d = true ∧ ms.length < sizeLine ∧ (∀ j, kIx ks d = some j → ∃ e0, ms[j]? = some (.leaf e0)) ∧ Dd.nx (ρ.set i (some (.ot (putM ks ms d e))))
section
variable {K : PySem.W.Frag} {C : Cd} {ρ : Ro} {σ : L2.St} {H H1 H2 H' : Hp} {v : V} {x : D}
theorem kvs_any {kvs : KVs} {ks : List PyData} {d : PyData} {k : NestedKey} (ek : canon d = some k) (e : ks.map canon = kvs.map (fun q => some q.1)) : (kvs.any fun p => decide (p.1 = k)) = (kIx ks d).isSome := by
  rw [fnd_any]
  have f := fnd_ix ek e
  cases w : kIx ks d with
  | none => rw [f.1 w]; rfl
  | some j => obtain ⟨v, _, g⟩ := f.2 j w; rw [g]; rfl
theorem putAt_vals {kvs : KVs} {k : NestedKey} {v : V} : ∀ {ks : List PyData} {d : PyData}, canon d = some k → ks.map canon = kvs.map (fun q => some q.1) → (kvs.map (·.1)).Nodup → ∀ j, kIx ks d = some j →
    (kvs.map fun p => if p.1 = k then (p.1, p.2.1, v) else p).map (·.2.2) = (kvs.map (·.2.2)).set j v := by
  intro ks d ek e nd j hj
  induction kvs generalizing ks j with
  | nil => cases ks with
    | nil => cases hj
    | cons q ks => cases e
  | cons p kvs ih =>
    cases ks with
    | nil => cases e
    | cons q ks =>
      rw [List.map_cons, List.map_cons] at e
      injection e with e1 e2
      rw [List.map_cons] at nd
      obtain ⟨n1, n2⟩ := List.nodup_cons.mp nd
      unfold kIx at hj
      rw [e1, ek] at hj
      by_cases hp : p.1 = k
      · rw [if_pos (by rw [hp])] at hj
        cases hj
        rw [List.map_cons, List.map_cons, if_pos hp, List.map_cons, List.set_cons_zero]
        have same : (kvs.map fun p => if p.1 = k then (p.1, p.2.1, v) else p) = kvs := by
          refine (List.map_congr_left fun q hq => ?_).trans (List.map_id _)
          rw [if_neg (fun z => n1 (by rw [hp, ← z]; exact List.mem_map.mpr ⟨q, hq, rfl⟩))]
          rfl
        rw [same]
      · rw [if_neg (fun z => hp (Option.some.inj z))] at hj
        cases w : kIx ks d with
        | none => rw [w] at hj; cases hj
        | some i =>
          rw [w] at hj
          cases hj
          rw [List.map_cons, List.map_cons, if_neg hp, List.map_cons, List.set_cons_succ, ih e2 n2 i w]
theorem putAt_keys (kvs : KVs) (k : NestedKey) (v : V) : (kvs.map fun p => if p.1 = k then (p.1, p.2.1, v) else p).map (·.1) = kvs.map (·.1) ∧ (kvs.map fun p => if p.1 = k then (p.1, p.2.1, v) else p).map (·.2.1) = kvs.map (·.2.1) := by
  constructor
  · rw [List.map_map]; exact List.map_congr_left fun p _ => by show (if p.1 = k then (p.1, p.2.1, v) else p).1 = p.1; split <;> rfl
  · rw [List.map_map]; exact List.map_congr_left fun p _ => by show (if p.1 = k then (p.1, p.2.1, v) else p).2.1 = p.2.1; split <;> rfl
theorem dic_code {w : World} {p c : Addr} {kvs : KVs} {q : Str} {en : Nat} : DicO w p kvs en ≠ LamX.CodeO c q := fun z => by
  unfold DicO LamX.CodeO at z
  injection z with z
  let oc : Obj := { cls := .none, data := .fields #[.none, .str q 0] }
  let h0 : Heap := { objs := (List.replicate (c + p + 1) oc).toArray }
  have ha : ∀ a, a < c + p + 1 → h0.objs[a]? = some oc := fun a ha => by
    show (List.replicate (c + p + 1) oc).toArray[a]? = some oc
    rw [List.getElem?_toArray, List.getElem?_replicate, if_pos ha]
  have hg : ∀ a, a < c + p + 1 → h0.get? a = some oc := fun a h => by
    unfold Heap.get?
    rw [ha a h]
  have code : ∃ (oc : Obj) (vs : Array Value) (t : Tok), h0.get? c = some oc ∧ oc.data = .fields vs ∧ vs[1]? = some (.str q t) := ⟨oc, _, 0, hg c (Nat.lt_succ_of_le (Nat.le_add_right _ _)), rfl, rfl⟩
  rw [← congrFun z h0] at code
  obtain ⟨⟨_, _, _, o, es, ep, g1, _, g3, _⟩, _⟩ := code
  rw [hg p (Nat.lt_succ_of_le (Nat.le_add_left _ _))] at g1
  cases g1
  cases g3
/-- the dict that is written -/
theorem rel_put {B : Addr → Prop} {w : World} {p : Addr} {kvs : KVs} {ks : List PyData} {ms : List M} {f : List Addr} {y v : V} {d e : PyData} {k : NestedKey} {en : Nat} (hw : w = TB.w) (nd : (kvs.map (·.1)).Nodup)
    (hk : DtAll (wo B H) (kvs.map (·.2.1)) ks) (hc : ks.map canon = kvs.map (fun q => some q.1)) (hs : RelMs H B (kvs.map (·.2.2)) ms f) (nf : p ∉ f) (bp : B p) (hf : ∀ b ∈ f, B b)
    (ek : canon d = some k) (hy : Dt (wo B H) y d) (hv : Dt (wo B H) v e) (old : ∀ j, kIx ks d = some j → ∃ e0, ms[j]? = some (.leaf e0)) :
    RelM (upd H p (DicO w p (putD kvs k y v) en)) B (.ref p) (putM ks ms d e) (p :: f) := by
  subst hw
  have s : Same (wo B H) (wo B (upd H p (DicO TB.w p (putD kvs k y v) en))) := fun a o q => by
    obtain ⟨f1, f2⟩ := wo_of q
    exact wo_mk f1 (by rw [upd_ne (fun z => f1 (by rw [z]; exact bp))]; exact f2)
  have keep : ∀ b ∈ f, ∀ o, H b = some o → upd H p (DicO TB.w p (putD kvs k y v) en) b = some o := fun b hb o q => by rw [upd_ne (fun z => nf (by rw [← z]; exact hb))]; exact q
  unfold putM
  cases w : kIx ks d with
  | some j =>
    have ep : putD kvs k y v = kvs.map fun p => if p.1 = k then (p.1, p.2.1, v) else p := by
      unfold putD
      rw [kvs_any ek hc, w]; rfl
    obtain ⟨e0, he0⟩ := old j w
    obtain ⟨k1, k2⟩ := putAt_keys kvs k v
    have sm : ∀ l : KVs, l.map (fun q => some q.1) = (l.map (·.1)).map some := fun l => by rw [List.map_map]; rfl
    have a1 : (putD kvs k y v).map (·.2.1) = kvs.map (·.2.1) := by rw [ep, k2]
    have a2 : (putD kvs k y v).map (fun q => some q.1) = kvs.map (fun q => some q.1) := by rw [ep, sm, sm, k1]
    have a3 : (putD kvs k y v).map (·.2.2) = (kvs.map (·.2.2)).set j v := by rw [ep, putAt_vals ek hc nd j w]
    refine .dic (kvs := putD kvs k y v) ⟨_, upd_same⟩ ?_ ?_ ?_ nf
    · rw [a1]; exact DtAll.mono s hk
    · rw [a2, hc]
    · rw [a3]; exact (rels_leaf hv hs he0).mono s keep
  | none =>
    have ep : putD kvs k y v = kvs ++ [(k, y, v)] := by
      unfold putD
      rw [kvs_any ek hc, w]; rfl
    have a1 : (putD kvs k y v).map (·.2.1) = kvs.map (·.2.1) ++ [y] := by rw [ep, List.map_append]; rfl
    have a2 : (putD kvs k y v).map (fun q => some q.1) = kvs.map (fun q => some q.1) ++ [some k] := by rw [ep, List.map_append]; rfl
    have a3 : (putD kvs k y v).map (·.2.2) = kvs.map (·.2.2) ++ [v] := by rw [ep, List.map_append]; rfl
    refine .dic (kvs := putD kvs k y v) ⟨_, upd_same⟩ ?_ ?_ ?_ nf
    · rw [a1]; exact (DtAll.mono s hk).snoc (Dt.mono s hy)
    · rw [a2, List.map_append, hc, List.map_singleton, ek]
    · rw [a3]
      have := (hs.mono s keep).snoc (w := v) (n := M.leaf e) (g := []) (.leaf (Dt.mono s hv)) (fun _ _ hb => by cases hb)
      rw [List.append_nil] at this
      exact this
end
section
variable {X : Cx} {st : Stmt} {pos : Pos}
theorem fe_dnew (hw : X.w = TB.w) : FE X (.Dict [] [] pos) dNewD := by
  refine pe_dnew.mo ?_
  rw [hw]
  rintro σ H Q ⟨C, ρ, Qd, R, h, post⟩ p en hp
  refine post _ _ (.nt (.dic [] [])) (R.lay hp) (Kq.new hp) ⟨[p], fun b hb => by rw [List.mem_singleton.mp hb]; exact hp, .dic (kvs := []) ⟨_, upd_same⟩ .nil rfl .nil (by simp)⟩ h
theorem fs_setD {i : Nat} {tk tv : TED} (hw : X.w = TB.w) (h : PS X st (tAsg (up X.K tv) (gSub (tVar i) (up X.K tk) (rDSet X.w)))) : FS X st (dSetD i tk tv) := by
  rw [hw] at h
  refine h.mo ?_
  rintro D σ H ⟨C, ρ, Dd, R, ⟨ks, ms, e, h⟩, L⟩
  refine ⟨C, ρ, _, R, h, ?_⟩
  rintro v H1 x R1 k1 e1 ⟨ev, hs, h2⟩
  have g := R.stOf e1 hs
  obtain ⟨w, h1, _⟩ := R.val i _ e
  refine ⟨w, h1, C, ρ, _, R1, h2, ?_⟩
  rintro u H2 y R2 k2 e2 ⟨d, rfl, un, hz, old, q⟩
  obtain ⟨φ, T⟩ := R2.tre
  obtain ⟨w', g1, g2, g3⟩ := T.rel i _ e
  rw [h1] at g1; cases g1
  obtain ⟨p, kvs, f, rfl, hp, hk, hc, hm, nf, ef⟩ : ∃ p kvs f, w = .ref p ∧ IsDic TB.w H2 p kvs ∧ DtAll (wo (bad C ρ σ) H2) (kvs.map (·.2.1)) ks ∧ ks.map canon = kvs.map (fun q => some q.1) ∧ RelMs H2 (bad C ρ σ) (kvs.map (·.2.2)) ms f ∧ p ∉ f ∧ φ i = p :: f := by
    generalize φ i = ff at g2
    cases g2 with
    | dic a b c d n => exact ⟨_, _, _, rfl, a, b, c, d, n, rfl⟩
  obtain ⟨k, ek⟩ := uni_some un
  have gd := Dt.mono (R1.kp k2) g
  have pG : C.G p := g3 p (by rw [ef]; exact List.mem_cons_self)
  have hl : kvs.length = ms.length := by have := hm.len; rwa [List.length_map] at this
  refine ⟨p, kvs, k, rfl, hp, uni_of hk hc e2 ek un, by rw [hl]; exact hz, fun nd en => ?_⟩
  obtain ⟨en0, hp⟩ := hp
  refine L.nx _ _ _ (R2.putT0 T e h1 (fun c q z => ?_) (fun a xs z => ?_) (by rw [ef]; exact List.mem_cons_self) (by rw [ef]; exact rel_put rfl nd hk hc hm nf (.inr (.inr (.inr pG))) (fun b hb => .inr (.inr (.inr (g3 b (by rw [ef]; exact List.mem_cons_of_mem _ hb))))) ek e2 gd old)) q
  · rw [hp] at z; exact dic_code (Option.some.inj z)
  · rw [hp] at z; cases z
end
end My
namespace My
open PySem PySem.Spec PyProof.Rows L2
variable [TB]
def putA (acc : List (Key × PyData)) (k : Key) (e : PyData) : List (Key × PyData) := if acc.any (fun p => decide (p.1 = k)) then acc.map (fun p => if p.1 = k then (p.1, e) else p) else acc ++ [(k, e)]
def lcD (el : ItD → (Option (Key × PyData) → Prop) → Prop) : List ItD → List (Key × PyData) → (List (Key × PyData) → Prop) → Prop
  | [], acc, Q => Q acc
  | x :: xs, acc, Q => el x fun o => match o with
    | none => lcD el xs acc Q
    | some p => acc.length < sizeLine ∧ lcD el xs (putA acc p.1 p.2) Q
def elD (g : TGD) (tt : TTD) (tk tv : TED) (x : ItD) (ρ : Ro) (K : Option (Key × PyData) → Prop) : Prop := g x ρ fun ρ2 => tt ρ2 fun b => if b = true then tk ρ2 fun y => ∃ k, y = .p (keyD k) ∧ tv ρ2 fun z => ∃ e, z.st = some e ∧ K (some (k, e)) else K none
def dicA (acc : List (Key × PyData)) : M := .dic (acc.map fun p => keyD p.1) (acc.map fun p => .leaf p.2)
def dDc (ti : TID) (g : TGD) (tt : TTD) (tk tv : TED) (vs : List Nat) : TED := fun ρ Q => ti ρ fun items => lcD (fun x K => elD g tt tk tv x (dWipe ρ vs) K) items [] fun acc => Q (.nt (dicA acc))
section
variable {K : PySem.W.Frag} {C : Cd} {ρ : Ro} {σ : L2.St} {H H1 H2 H' : Hp}
def RelK (B : Addr → Prop) (H : Hp) : List (Key × V) → List (Key × PyData) → Prop := Paired fun p q => p.1 = q.1 ∧ Dt (wo B H) p.2 q.2
theorem RelK.mono {B B' : Addr → Prop} (s : Same (wo B H) (wo B' H')) : ∀ {kvs : List (Key × V)} {acc : List (Key × PyData)}, RelK B H kvs acc → RelK B' H' kvs acc
  | _, _, .nil => .nil
  | _, _, .cons h t => .cons ⟨h.1, Dt.mono s h.2⟩ (RelK.mono s t)
theorem RelK.any {B : Addr → Prop} (k : Key) : ∀ {kvs : List (Key × V)} {acc : List (Key × PyData)}, RelK B H kvs acc → (kvs.any fun kv => decide (kv.1 = k)) = acc.any fun p => decide (p.1 = k)
  | _, _, .nil => rfl
  | _, _, .cons h t => by rw [List.any_cons, List.any_cons, RelK.any k t, h.1]
theorem RelK.put {B : Addr → Prop} {kvs : List (Key × V)} {acc : List (Key × PyData)} {k : Key} {v : V} {e : PyData} (r : RelK B H kvs acc) (hv : Dt (wo B H) v e) : RelK B H (putK kvs k v) (putA acc k e) := by
  unfold putK putA
  rw [r.any k]
  split
  · rename_i hq
    clear hq
    induction r with
    | nil => exact .nil
    | @cons p q ps qs h t ih =>
      rw [List.map_cons, List.map_cons]
      refine .cons ?_ ih
      by_cases z : p.1 = k
      · rw [if_pos z, if_pos (h.1 ▸ z)]
        exact ⟨h.1, hv⟩
      · rw [if_neg z, if_neg (h.1 ▸ z)]
        exact h
  · exact Paired.snoc r ⟨rfl, hv⟩
theorem RelK.keys {B : Addr → Prop} : ∀ {kvs : List (Key × V)} {acc : List (Key × PyData)}, RelK B H kvs acc → kvs.map (·.1) = acc.map (·.1) ∧ DtAll (wo B H) (kvs.map (·.2)) (acc.map (·.2))
  | _, _, .nil => ⟨rfl, .nil⟩
  | _, _, .cons h t => by
    obtain ⟨h1, h2⟩ := RelK.keys t
    exact ⟨by rw [List.map_cons, List.map_cons, h1, h.1], .cons h.2 h2⟩
end
end My
namespace My
open PySem PySem.Spec PyProof.Rows L2
variable [TB]
def dDisp1 (tk tv : TED) : TED := fun ρ Q => tk ρ fun y => ∃ k, y = .p (keyD k) ∧ tv ρ fun z => ∃ e, z.st = some e ∧ Q (.nt (dicA [(k, e)]))
section
variable {X : Cx} {pos : Pos}
theorem set_dicU (hu : X.A.units + 65 < cLine) : PSet X (rDSet X.w) := set_dic (by omega)
end
end My
namespace My
open PySem PySem.Spec PyProof.Rows L2
section
variable {prog : Program} {w : World} {K : Type} [DecidableEq K] {knd : KeyKind prog w K} {A : Around} {E : Value → Shared → Prop} {s : Shared}
/-- a key that is not there yet -/
theorem absent_pairs {d : Addr} {kvs : List (K × Value)} {k : K} {key x : Value} {Q : Value → Shared → Prop} (hkey : knd.is k key = true) (hm : s.heap.DictOf knd d kvs) (hn : valueAt kvs k = none) (hz : kvs.length ≤ sizeLine)
    (q : ∀ h', h'.DictOf knd d (kvs ++ [(k, x)]) → Heap.SameBut d s.heap h' → Q x { s with heap := h', toks := s.toks + 1 }) : wpAny (model prog w) A (dictSetDefault d key x) Q E s := by
  have no : k ∉ kvs.map (·.1) := fun z => by
    obtain ⟨p, hp, e⟩ := List.mem_map.mp z
    unfold valueAt at hn
    rw [Option.map_eq_none_iff, List.find?_eq_none] at hn
    exact hn p hp (decide_eq_true e)
  obtain ⟨o, es, ep, g1, g2, g3, g4, g5, g6⟩ := hm
  have le : es.size ≤ sizeLine := by
    have := g5.length
    rw [← Array.length_toList]
    omega
  have nf : (es.findIdx? fun e => knd.is k e.key) = none := by
    have t := g5.findIdx k
    have u : (kvs.findIdx? fun kv => decide (kv.1 = k)) = none := List.findIdx?_eq_none_iff.mpr fun p hp => decide_eq_false fun e => no (List.mem_map.mpr ⟨p, hp, e⟩)
    rw [u] at t
    rw [← t]
    cases es
    simp
  unfold dictSetDefault
  try with_reducible refine wpAny_holding ?_
  refine wpAny_bind (knd.pyHash hkey (wpAny_bind (wpAny_dictFind_of (s := { s with toks := s.toks + 1 }) hkey g1 g3 g4 ?_)))
  rw [nf]
  refine wpAny_bind (wpAny_rule (wpAny_bind (wpAny_updateDictKeys (hz := le) (s := { s with toks := s.toks + 1 }) g1 g3 (wpAny_pure (q _ ⟨_, _, ep + 1, Heap.get?_update_self _ g1 (Obj.isFreed_of_dict (Obj.data_mapDictKeys g3 _)), g2.mapDictKeys _, Obj.data_mapDictKeys g3 _, g4.push hkey _, ?_, ?_⟩ (Heap.SameBut.update ..))))))
  · have := g5.append hkey (knd.hash k) x
    cases es
    simpa using this
  · rw [List.map_append, List.map_singleton]
    exact List.nodup_append.mpr ⟨g6, by simp, fun a ha b hb e => no ((show a = k from e.trans (List.mem_singleton.mp hb)) ▸ ha)⟩
/-- one that is there -/
theorem present_pairs {d : Addr} {kvs : List (K × Value)} {k : K} {key x v : Value} {Q : Value → Shared → Prop} (hkey : knd.is k key = true) (hm : s.heap.DictOf knd d kvs) (hv : valueAt kvs k = some v) (hz : s.heap.DictLe d sizeLine)
    (q : Q v { s with toks := s.toks + 1 }) : wpAny (model prog w) A (dictSetDefault d key x) Q E s :=
  wpAny_dictSetDefault_of (hz := hz) hkey hm.mapOf (fun v' e => by rw [hv] at e; cases e; exact q) fun e => by rw [hv] at e; cases e
theorem le_of {d : Addr} {kvs : List (K × Value)} (hm : s.heap.DictOf knd d kvs) (hz : kvs.length ≤ sizeLine) : s.heap.DictLe d sizeLine := by
  obtain ⟨o, es, ep, g1, g2, g3, g4, g5, g6⟩ := hm
  intro o' es' ep' h1 h2
  rw [g1] at h1
  cases h1
  rw [g3] at h2
  cases h2
  have := g5.length
  rw [← Array.length_toList]
  omega
theorem meets_sd {d : Addr} {k : K} {key x : Value} (hkey : knd.is k key = true) (hd : (d == sysModules) = false) :
    MeetsIn prog w (Builtin.«dict.setdefault» ⟨[.ref d, key, x], []⟩) (fun _ R s => ∃ kvs, s.heap.DictOf knd d kvs ∧ kvs.length ≤ sizeLine ∧ (∀ v, valueAt kvs k = some v → R (.ok (.ret v)) { s with toks := s.toks + 1 }) ∧
      (valueAt kvs k = none → ∀ h', h'.DictOf knd d (kvs ++ [(k, x)]) → Heap.SameBut d s.heap h' → R (.ok (.ret x)) { s with heap := h', toks := s.toks + 1 })) :=
  .of_wp fun A R s ⟨kvs, hm, hz, q1, q2⟩ => by
    unfold Builtin.«dict.setdefault»
    refine wpAny_bind ?_
    unfold Builtin.Dict.keyAndDefault
    refine wpAny_bind (wpAny_notOrdered_dict hm.typeIs (wpAny_pure ?_))
    show wpAny _ _ (if (d == sysModules) = true then _ else (dictSetDefault d key x >>= _)) _ _ s
    rw [if_neg (by rw [hd]; exact Bool.false_ne_true)]
    refine wpAny_bind ?_
    cases e : valueAt kvs k with
    | some v => exact present_pairs hkey hm e (le_of hm hz) (wpAny_pure ⟨v, rfl, q1 v e⟩)
    | none => exact absent_pairs hkey hm e hz fun h' g1 g2 => wpAny_pure ⟨x, rfl, q2 e h' g1 g2⟩
end
/-- d.setdefault(y, x) -/
def rDSd (w : World) : V → List V → Hp → VK → Prop := fun o xs H Q => ∃ a kvs k y x, o = .ref a ∧ xs = [y, x] ∧ IsDic w H a kvs ∧ UniK H kvs y k ∧ kvs.length < sizeLine ∧ (∀ v, fnd kvs k = some v → Q v H) ∧
  (fnd kvs k = none → ∀ ep, Q x (upd H a (DicO w a (kvs ++ [(k, y, x)]) ep)))
section
variable {X : Cx}
theorem mt_sd (hu : X.A.units + 9 < cLine) : MtM X "dict.setdefault" (rDSd X.w) := by
  intro pins s σ H o xs v us Q I ro rs h
  obtain ⟨a, kvs, k, y, x, rfl, rfl, e, U, hl, q1, q2⟩ := h
  cases ro
  cases rs with
  | @cons _ u _ _ ry rs =>
    cases rs with
    | @cons _ r _ _ rx rs =>
      cases rs
      have R := dc_raw I e
      have hz : (kvs ++ [(k, y, x)]).length ≤ sizeLine := by rw [List.length_append, List.length_singleton]; omega
      have fin : ∀ (h' : Heap) (t' : Nat), RawD X.w h' a (kvs ++ [(k, y, x)]) → Heap.SameBut a s.heap h' → ∃ ep, Inv X pins σ (upd H a (DicO X.w a (kvs ++ [(k, y, x)]) ep)) { s with heap := h', toks := t' } := fun h' t' R' hs =>
        let ⟨ep, he⟩ := R'.ep; ⟨ep, d_write I (by obtain ⟨_, e⟩ := e; rw [e]; exact True.intro) hs (let ⟨o, _, _, h1, _⟩ := R'.ex; ⟨o, h1⟩) (R'.ok2 he)⟩
      have put : fnd kvs k = none → putD kvs k y x = kvs ++ [(k, y, x)] := fun hn => by
        unfold putD
        rw [fnd_any, hn]; rfl
      have some' : ∀ {v' : Value}, RelO (fnd kvs k) (some v') → ∃ v, fnd kvs k = some v ∧ RelV v v' := fun {v'} r => by
        cases q : fnd kvs k with
        | none => rw [q] at r; exact r.elim
        | some v => rw [q] at r; exact ⟨v, rfl, r⟩
      have none' : RelO (fnd kvs k) (none : Option Value) → fnd kvs k = none := fun r => by
        cases q : fnd kvs k with
        | none => rfl
        | some v => rw [q] at r; exact r.elim
      cases U with
      | mix k hk =>
        obtain ⟨vs, r1, dd⟩ := Emb.dict (m := mixE X.prog X.w) R hk
        have rf := Emb.find (m := mixE X.prog X.w) r1 k
        refine call_meetsIn PySem.F.slot_dict_setdefault dd.typeIs PySem.F.entry_dict_setdefault (PySem.F.args_dict_setdefault_3 _ _ _) (meets_sd (knd := mixKind X.prog X.w) (k := k) (((mixE X.prog X.w).is k u).mpr ry) R.s) ⟨vs, dd, by rw [← Paired.length r1]; exact R.z, fun v' ev => ?_, fun ev h' dd' hs => ?_⟩
        · rw [ev] at rf
          obtain ⟨v, e1, e2⟩ := some' rf
          exact ⟨v, H, I.tok _, e2, q1 v e1⟩
        · rw [ev] at rf
          have en := none' rf
          have rp := Emb.put (m := mixE X.prog X.w) r1 k rx
          have es : stored vs k r = vs ++ [(k, r)] := by
            unfold stored
            rw [← Emb.any (m := mixE X.prog X.w) r1 k, fnd_any, show fnd kvs ((mixE X.prog X.w).f k).1 = none from en]; rfl
          rw [es, show putD kvs ((mixE X.prog X.w).f k).1 ((mixE X.prog X.w).f k).2 x = _ from put en] at rp
          exact let ⟨ep, i⟩ := fin h' _ (Emb.raw (m := mixE X.prog X.w) rp dd' hz R.s) hs; ⟨x, _, i, rx, q2 en ep⟩
      | boo k hk =>
        obtain ⟨vs, r1, dd⟩ := Emb.dict (m := booE X.prog X.w) R hk
        have rf := Emb.find (m := booE X.prog X.w) r1 k
        refine call_meetsIn PySem.F.slot_dict_setdefault dd.typeIs PySem.F.entry_dict_setdefault (PySem.F.args_dict_setdefault_3 _ _ _) (meets_sd (knd := PpSet.boolK X.prog X.w) (k := k) (((booE X.prog X.w).is k u).mpr ry) R.s) ⟨vs, dd, by rw [← Paired.length r1]; exact R.z, fun v' ev => ?_, fun ev h' dd' hs => ?_⟩
        · rw [ev] at rf
          obtain ⟨v, e1, e2⟩ := some' rf
          exact ⟨v, H, I.tok _, e2, q1 v e1⟩
        · rw [ev] at rf
          have en := none' rf
          have rp := Emb.put (m := booE X.prog X.w) r1 k rx
          have es : stored vs k r = vs ++ [(k, r)] := by
            unfold stored
            rw [← Emb.any (m := booE X.prog X.w) r1 k, fnd_any, show fnd kvs ((booE X.prog X.w).f k).1 = none from en]; rfl
          rw [es, show putD kvs ((booE X.prog X.w).f k).1 ((booE X.prog X.w).f k).2 x = _ from put en] at rp
          exact let ⟨ep, i⟩ := fin h' _ (Emb.raw (m := booE X.prog X.w) rp dd' hz R.s) hs; ⟨x, _, i, rx, q2 en ep⟩
      | @tup b _ hk hd hks =>
        obtain ⟨xs, r1, dd⟩ := tup_dict I.hok R hks
        have rf := tup_find r1 k
        cases (show u = Value.ref _ from ry)
        refine call_meetsIn PySem.F.slot_dict_setdefault dd.typeIs PySem.F.entry_dict_setdefault (PySem.F.args_dict_setdefault_3 _ _ _) (meetsH_dict_setdefault (nestedKind X.prog X.w) a _ R.s r) ⟨room9 (A := X.A) hu, k, xs, ⟨hk.nested I.hok rfl, hd⟩, dd, by rw [← Paired.length r1]; exact R.z, fun p ep => ?_, fun en h' dd' hs => ?_⟩
        · rw [ep] at rf
          obtain ⟨v, e1, e2⟩ := some' rf
          exact ⟨v, H, I.tok _, e2, q1 v e1⟩
        · rw [en] at rf
          have en' := none' rf
          have rp := tup_put r1 k (b := b) rx
          rw [put en'] at rp
          exact let ⟨ep, i⟩ := fin h' _ (tup_raw rp dd' hz R.s) hs; ⟨x, _, i, rx, q2 en' ep⟩
end
end My
namespace My
open PySem PySem.Spec PyProof.Rows L2
variable [TB]
section
variable {K : PySem.W.Frag} {C : Cd} {ρ : Ro} {σ : L2.St} {H H1 H2 H' : Hp} {v : V} {x : D}
/-- a tree is written, and takes a new place -/
theorem Rep.putTG (R : Rep K C ρ σ H) (R1 : Rep K C ρ σ H1) (k : Kq C.t H H1) {φ : Nat → List Addr} (T : Trees C ρ σ H φ) {i : Nat} {m n : M} {o : HO} {p l : Addr} (h1 : ρ[i]? = some (some (.ot m))) (h2 : σ[i]? = some (some v)) (hc : ∀ c q, H1 p ≠ some (LamX.CodeO c q)) (hf : ∀ u xs, H1 p ≠ some (.frz u (.tup xs)))
    (pf : p ∈ φ i) (hl : H l = none) (hl1 : ∃ u, H1 l = some u) (g4 : RelM (upd H1 p o) (fun b => bad C ρ σ b ∨ b = l) v n (φ i ++ [l])) : Rep K (C.gg fun b => C.G b ∨ b = l) (ρ.set i (some (.ot n))) σ (upd H1 p o) ∧ Trees (C.gg fun b => C.G b ∨ b = l) (ρ.set i (some (.ot n))) σ (upd H1 p o) (fun j => if j = i then φ i ++ [l] else φ j) := by
  obtain ⟨w', g1, g2, g3⟩ := T.rel i m h1
  rw [h2] at g1; cases g1
  have pg := g3 p pf
  obtain ⟨⟨o0, hp⟩, p0, pF, pO⟩ := R.g0 p pg
  have hli := (List.getElem?_eq_some_iff.mp h1).1
  have l0 : C.H0 l = none := R.h0n hl
  have lb : ¬ bad C ρ σ l := R.badN hl
  have pl : p ≠ l := fun z => by rw [z, hl] at hp; cases hp
  have ho : ∀ b, ownAt (ρ.set i (some (.ot n))) σ b ↔ ownAt ρ σ b := fun b => by
    constructor
    · rintro ⟨j, fs, e1, e2⟩
      by_cases ij : i = j
      · subst ij; rw [List.getElem?_set_self hli] at e1; cases e1
      · rw [List.getElem?_set_ne ij] at e1; exact ⟨j, fs, e1, e2⟩
    · rintro ⟨j, fs, e1, e2⟩
      by_cases ij : i = j
      · subst ij; rw [h1] at e1; cases e1
      · exact ⟨j, fs, by rw [List.getElem?_set_ne ij]; exact e1, e2⟩
  have hb : ∀ b, bad (C.gg fun b => C.G b ∨ b = l) (ρ.set i (some (.ot n))) σ b ↔ bad C ρ σ b ∨ b = l := fun b => by
    unfold bad
    rw [ho]
    constructor
    · rintro (z | z | z | z | z)
      · exact .inl (.inl z)
      · exact .inl (.inr (.inl z))
      · exact .inl (.inr (.inr (.inl z)))
      · exact .inl (.inr (.inr (.inr z)))
      · exact .inr z
    · rintro ((z | z | z | z) | z)
      · exact .inl z
      · exact .inr (.inl z)
      · exact .inr (.inr (.inl z))
      · exact .inr (.inr (.inr (.inl z)))
      · exact .inr (.inr (.inr (.inr z)))
  have pb : bad C ρ σ p := .inr (.inr (.inr pg))
  have s : Same (wo (bad C ρ σ) H) (wo (bad (C.gg fun b => C.G b ∨ b = l) (ρ.set i (some (.ot n))) σ) (upd H1 p o)) := fun a u e => by
    obtain ⟨f1, f2⟩ := wo_of e
    refine wo_mk (fun z => ((hb a).mp z).elim f1 fun y => by rw [y, hl] at f2; cases f2) (by rw [upd_ne (fun (z : a = p) => f1 (by rw [z]; exact pb))]; exact k a u (R.nxb f1) f2)
  have nt := R.ownX p0
  have se : ∀ b u, H1 b = some u → ∃ o', upd H1 p o b = some o' := fun b u e => by
    by_cases z : b = p
    · exact ⟨_, by rw [z]; exact upd_same⟩
    · exact ⟨u, by rw [upd_ne z]; exact e⟩
  have old : ∀ {j : Nat} {z : D}, (ρ.set i (some (.ot n)))[j]? = some (some z) → (i = j ∧ z = .ot n) ∨ (i ≠ j ∧ ρ[j]? = some (some z)) := fun {j z} e => by
    by_cases ij : i = j
    · subst ij
      rw [List.getElem?_set_self hli] at e
      cases e
      exact .inl ⟨rfl, rfl⟩
    · rw [List.getElem?_set_ne ij] at e
      exact .inr ⟨ij, e⟩
  have up : ∀ {a : Nat} {k : M}, (ρ.set i (some (.ot n)))[a]? = some (some (.ot k)) → ∃ k', ρ[a]? = some (some (.ot k')) := fun {a k} f => by
    rcases old f with ⟨rfl, _⟩ | ⟨_, f⟩
    · exact ⟨m, h1⟩
    · exact ⟨k, f⟩
  have lφ : ∀ (a : Nat) (k : M), ρ[a]? = some (some (.ot k)) → l ∉ φ a := fun a k e z => by
    obtain ⟨u, _, _, f3⟩ := T.rel a k e
    obtain ⟨⟨o, q⟩, _⟩ := R.g0 l (f3 l z)
    rw [hl] at q; cases q
  have tr : Trees (C.gg fun b => C.G b ∨ b = l) (ρ.set i (some (.ot n))) σ (upd H1 p o) (fun j => if j = i then φ i ++ [l] else φ j) := by
    have ob : ∀ {j : Nat} {q : Addr} {k : M}, (ρ.set i (some (.ot n)))[j]? = some (some (D.bor q k)) → ρ[j]? = some (some (D.bor q k)) := fun {j q k} e => by
      rcases old e with ⟨_, z⟩ | ⟨_, e⟩
      · cases z
      · exact e
    refine ⟨fun j z e => ?_, fun a b n1 n2 c f1 f2 ne hca => ?_, fun j q z e => ?_, fun a q z b n2 f1 f2 hcb => ?_, fun a q z b n2 f1 f2 => T.bb a q z b n2 (ob f1) (ob f2)⟩
    rotate_left 2
    · obtain ⟨g2, g3⟩ := T.bor j q z (ob e)
      exact ⟨g2.mono s fun b hb' o e' => by rw [List.mem_singleton.mp hb'] at e' ⊢; rw [upd_ne (fun y => T.db j q z i m (ob e) h1 (by rw [y]; exact pf))]; exact k q o (R.ownX (R.g0 q g3).2.1).1 e', .inl g3⟩
    · have g3 := (T.bor a q z (ob f1)).2
      have hql : q ≠ l := fun y => by
        obtain ⟨⟨o, e⟩, _⟩ := R.g0 q g3
        rw [y, hl] at e; cases e
      by_cases hbb : b = i
      · rw [if_pos hbb] at hcb
        rcases List.mem_append.mp hcb with hcb | hcb
        · exact T.db a q z i m (ob f1) h1 hcb
        · exact hql (List.mem_singleton.mp hcb)
      · rw [if_neg hbb] at hcb
        obtain ⟨z2, e2⟩ := up f2
        exact T.db a q z b _ (ob f1) e2 hcb
    · rcases old e with ⟨rfl, z⟩ | ⟨ij, e⟩
      · cases z
        refine ⟨v, h2, by rw [if_pos rfl]; exact g4.mono (wo_mono (fun b z => (hb b).mp z) fun _ _ _ e => e) fun _ _ _ e => e, fun b hbb => ?_⟩
        rw [if_pos rfl] at hbb
        rcases List.mem_append.mp hbb with hbb | hbb
        · exact .inl (g3 b hbb)
        · exact .inr (List.mem_singleton.mp hbb)
      · obtain ⟨u, f1, f2, f3⟩ := T.rel j z e
        rw [if_neg (fun z => ij z.symm)]
        exact ⟨u, f1, f2.mono s fun b hb' o e' => by rw [upd_ne (fun y => T.dis i j m z p h1 e ij pf (by subst y; exact hb'))]; exact k b o (R.ownX (R.g0 b (f3 b hb')).2.1).1 e', fun b hb' => .inl (f3 b hb')⟩
    · obtain ⟨z1, e1⟩ := up f1
      obtain ⟨z2, e2⟩ := up f2
      intro hcb
      by_cases ha : a = i
      · by_cases hbb : b = i
        · exact ne (ha.trans hbb.symm)
        · rw [if_pos ha] at hca
          rw [if_neg hbb] at hcb
          rcases List.mem_append.mp hca with hca | hca
          · exact T.dis i b m _ c h1 e2 (fun z => hbb z.symm) hca hcb
          · rw [List.mem_singleton.mp hca] at hcb
            exact lφ b _ e2 hcb
      · rw [if_neg ha] at hca
        by_cases hbb : b = i
        · rw [if_pos hbb] at hcb
          rcases List.mem_append.mp hcb with hcb | hcb
          · exact T.dis a i _ m c e1 h1 ha hca hcb
          · rw [List.mem_singleton.mp hcb] at hca
            exact lφ a _ e1 hca
        · rw [if_neg hbb] at hcb
          exact T.dis a b _ _ c e1 e2 ne hca hcb
  refine ⟨⟨by rw [List.length_set]; exact R.len, fun j y e => ?_, fun a b q gs fs f1 f2 f3 f4 => ?_, R1.tp.put nt.1.1 nt.2, fun b u n e => ?_, R1.s1, R1.s2, fun b hb' => ?_, fun b hb' => ?_, R1.s00, fun q hq => PinD.mono s (R.pin q hq), fun q hq => (R1.tin q hq).kt fun o e => by rw [upd_ne (fun z => hf _ _ (by rw [← z]; exact e))]; exact e,
    R1.s3, R1.tab.put nt.1.2 hc, ⟨_, tr⟩, fun b hb' => ?_⟩, tr⟩
  · rcases old e with ⟨rfl, rfl⟩ | ⟨ij, e⟩
    · exact ⟨v, h2, trivial⟩
    · obtain ⟨w, g1, g2⟩ := R.val j y e
      refine ⟨w, g1, g2.mono rfl (fun _ a b => .inl ⟨a, b⟩) s (fun q us es' f1 f2 f3 => ?_) fun c q n e => by rw [upd_ne (fun z => hc c q (by rw [← z]; exact k c _ n e))]; exact k c _ n e⟩
      subst f1 f2
      obtain ⟨_, _, e4, _, _, h5, _⟩ := g2
      cases e4
      rw [upd_ne (fun z => pO (by subst z; exact ⟨j, es', e, g1⟩))]
      exact k q _ (R.ownX h5.1).1 f3
  · rcases old f1 with ⟨_, z⟩ | ⟨_, f1⟩
    · cases z
    rcases old f2 with ⟨_, z⟩ | ⟨_, f2⟩
    · cases z
    exact R.dis a b q gs fs f1 f2 f3 f4
  · rw [upd_ne (fun z => by rw [z, p0] at e; cases e)]
    exact R1.ext b u n e
  · obtain ⟨o, e⟩ := R1.s0 b hb'
    exact se b o e
  · obtain ⟨o, e⟩ := R1.f0 b hb'
    exact se b o e
  · rcases hb' with hb' | hb'
    · obtain ⟨⟨u, e⟩, g2, g3, g4⟩ := R1.g0 b hb'
      exact ⟨se b u e, g2, g3, fun z => g4 ((ho b).mp z)⟩
    · subst hb'
      obtain ⟨u, e⟩ := hl1
      exact ⟨se b u e, l0, fun z => lb (.inr (.inl z)), fun z => lb (.inr (.inr (.inl ((ho b).mp z))))⟩
theorem bad_grow {i : Nat} {m n : M} {l : Addr} (h1 : ρ[i]? = some (some (.ot m))) {b : Addr} : bad (C.gg fun b => C.G b ∨ b = l) (ρ.set i (some (.ot n))) σ b ↔ bad C ρ σ b ∨ b = l := by
  have hli := (List.getElem?_eq_some_iff.mp h1).1
  have ho : ownAt (ρ.set i (some (.ot n))) σ b ↔ ownAt ρ σ b := by
    constructor
    · rintro ⟨j, fs, e1, e2⟩
      by_cases ij : i = j
      · subst ij; rw [List.getElem?_set_self hli] at e1; cases e1
      · rw [List.getElem?_set_ne ij] at e1; exact ⟨j, fs, e1, e2⟩
    · rintro ⟨j, fs, e1, e2⟩
      by_cases ij : i = j
      · subst ij; rw [h1] at e1; cases e1
      · exact ⟨j, fs, by rw [List.getElem?_set_ne ij]; exact e1, e2⟩
  unfold bad
  rw [ho]
  constructor
  · rintro (z | z | z | z | z)
    · exact .inl (.inl z)
    · exact .inl (.inr (.inl z))
    · exact .inl (.inr (.inr (.inl z)))
    · exact .inl (.inr (.inr (.inr z)))
    · exact .inr z
  · rintro ((z | z | z | z) | z)
    · exact .inl z
    · exact .inr (.inl z)
    · exact .inr (.inr (.inl z))
    · exact .inr (.inr (.inr (.inl z)))
    · exact .inr (.inr (.inr (.inr z)))
mutual
theorem tpo_of : ∀ {d : PyData} {k : NestedKey}, canon d = some k → tpo d = true
  | .none, _, _ => rfl
  | .bool _, _, _ => rfl
  | .int _, _, _ => rfl
  | .str _, _, _ => rfl
  | .tuple ds, _, e => by
    rw [canon] at e
    cases q : canons ds with
    | none => rw [q] at e; cases e
    | some ks => exact tpos_of q
  | .list _, _, e => by rw [canon] at e; cases e
  | .dict _, _, e => by rw [canon] at e; cases e
theorem tpos_of : ∀ {ds : List PyData} {ks : List NestedKey}, canons ds = some ks → tpo.tpoAll ds = true
  | [], _, _ => rfl
  | d :: ds, _, e => by
    rw [canons] at e
    cases q : canon d with
    | none => rw [q] at e; cases e
    | some k =>
      cases r : canons ds with
      | none => rw [q, r] at e; cases e
      | some ks =>
        unfold tpo.tpoAll
        rw [tpo_of q, tpos_of r]; rfl
end
end
end My
namespace My
open PySem PySem.Spec PyProof.Rows L2
theorem ent_keys {w : World} : ∀ {kvs : KVs} {es : List DictEntry}, Paired (EntR w) kvs es → Vals (kvs.map (·.2.1)) (es.map (·.key))
  | _, _, .nil => .nil
  | _, _, .cons h t => .cons h.2.1 (ent_keys t)
section
variable {X : Cx}
theorem call_listO (hcalm : X.calm = true) : CallR X (.type "list") (fun xs H Q => ∃ (a : Addr) (kvs : KVs), xs = [.ref a] ∧ IsDic X.w H a kvs ∧ ∀ p, H p = none → Q (.ref p) (upd H p (.lst (kvs.map (·.2.1))))) := by
  intro pins s σ H xs us Q I r q
  obtain ⟨a, kvs, rfl, hd, q⟩ := q
  obtain ⟨u, rfl, rx⟩ := vals1 r
  cases rx
  have R := dc_raw I hd
  obtain ⟨o, es, ep, g1, g2, g3, g4⟩ := R.ex
  have le : kvs.length = es.size := by rw [Paired.length g4, Array.length_toList]
  refine PySem.W.kdl_call (PySem.KdlSrc.rawDict (ep := ep) R.s) (I.ok.hd hcalm) ⟨o, g1, g2, g3⟩ (by rw [← le]; exact R.z) fun h' tk acc c' hk hD hacc => ?_
  have ea : acc.toList = es.toList.map (·.key) := by
    apply List.ext_getElem?
    intro j
    rw [Array.getElem?_toList, List.getElem?_map, Array.getElem?_toList]
    cases e : acc[j]? with
    | none =>
      have : es.size ≤ j := by rw [← hacc.1]; exact Array.getElem?_eq_none_iff.mp e
      rw [Array.getElem?_eq_none this]; rfl
    | some v =>
      obtain ⟨hi, ev⟩ := hacc.2 j v e
      rw [Array.getElem?_eq_getElem hi, ev]; rfl
  have hv : Vals (kvs.map (·.2.1)) acc.toList := by rw [ea]; exact ent_keys g4
  exact ⟨.ref s.heap.objs.size, upd H s.heap.objs.size (.lst (kvs.map (·.2.1))), I.laid (t' := tk) hk (Nat.le_refl _)
    (show ObjOk X.prog X.w _ _ _ (.lst (kvs.map (·.2.1))) from ⟨by rw [List.length_map]; exact R.z, acc.toList, c', hv, by rw [Array.toArray_toList]; exact hD⟩), rfl, q _ (I.hok.fresh (Nat.le_refl _))⟩
end
variable [TB]
def kLiD (x : D) (Q : D → Prop) : Prop := match x.dks with
  | some (ks, _) => ks.length ≤ sizeLine ∧ Q (.nw ks)
  | _ => False
theorem li_liD {K : PySem.W.Frag} : LiL K (fun xs H Q => ∃ (a : Addr) (kvs : KVs), xs = [.ref a] ∧ IsDic TB.w H a kvs ∧ ∀ p, H p = none → Q (.ref p) (upd H p (.lst (kvs.map (·.2.1))))) (c1 kLiD) := by
  intro C ρ σ H0 H vs xs Qd Q R k e0 h post
  unfold c1 at h
  split at h
  · rename_i x
    obtain ⟨v, rfl, e⟩ := p1 e0
    unfold kLiD at h
    split at h
    · rename_i ks ms hd
      obtain ⟨a, kvs, rfl, g1, g2, _⟩ := (R.dicOf e hd).ex
      exact ⟨a, kvs, rfl, g1, R.newL (H0 := H0) g2 h.1 h.2 post⟩
    · exact h.elim
  · exact h.elim
theorem bu_liD {X : Cx} (hw : X.w = TB.w) (hc : X.calm = true) : BuU X (.type "list") (c1 kLiD) := ⟨_, call_listO hc, by rw [hw]; exact li_liD⟩
theorem mt_sdU {X : Cx} (hu : X.A.units + 65 < cLine) : MtM X "dict.setdefault" (rDSd X.w) := mt_sd (by omega)
end My
namespace My
open PySem PySem.Spec PyProof.Rows L2
section
variable {X : Cx}
theorem swD_true {kx vx : Expr} {gs : List Comprehension} {scope : Scope} {pos py : Pos} {y : Str} {l : Nat} {env : Env} (hk : env.scope.kind = .function) (hy : env.scope.names.lookup y = some .local) (hl : (py.line == pos.line) = true)
    (ha : (scope.names.any fun (n, k) => n == y && (k == .local || k == .cell)) = false) : swapsWith (.DictComp kx vx gs scope pos) (some (.Name y py)) l env = pure true := by
  have fnk : env.blockKind = .function := by
    unfold Env.blockKind
    rw [hk]; rfl
  have loc : env.kindOf y = some .local := hy
  unfold swapsWith
  simp only [fnk, loc, ha, Expr.pos, hl]
  rfl
end
variable [TB]
end My
namespace My
open PySem PySem.Spec PyProof.Rows L2
abbrev GG := List PyData → (PyData → Prop) → Prop
/-- the functions that a def got, with what they promise -/
structure CT where
  ct : Addr → FnI → GG → Prop
def ctNone : CT := ⟨fun _ _ _ => False⟩
def ctAdd (c : CT) (f : Addr) (I : FnI) (g : GG) : CT := ⟨fun f' I' g' => c.ct f' I' g' ∨ (f' = f ∧ I' = I ∧ g' = g)⟩
variable [TB]
def spG (K : PySem.W.Frag) (I : FnI) (g : GG) : Sp := fun vs H Q _ => ∃ (t : TA2) (S0 : Addr → Prop) (ds : List PyData) (Qd : PyData → Prop), Tape K H t ∧ Tbs H ∧ S0 t.1 ∧ S0 t.2 ∧ (∀ p ∈ TB.T, S0 p.1) ∧ (∀ b, S0 b → ∃ o, H b = some o) ∧
  DtAll (wo S0 H) vs ds ∧ FnsAt t S0 H I ∧ g ds Qd ∧ ∀ v H' d, Tape K H' t → Tbs H' → Kq t H H' → Dt (wo S0 H') v d → Qd d → Q v H'
/-- the function at f keeps this promise -/
structure FnC (P : Program) (w : World) (K : PySem.W.Frag) (mg : Str → Option Value) (base : Heap) (k : Nat) (f : Addr) (I : FnI) (g : GG) : Prop where
  own : ∃ F, (f, F) ∈ I.fns
  run : ∀ (A : Around) (outer : List Env) (s : Shared) (H : Hp) (us : List Value) (vs : List V) (Q : VK) (E : XK), Room k A → A.guards = some [] → Env0 P w K mg base A outer s H → Vals vs us → spG K I g vs H Q E →
    codeAny (model P w) A (.call (.ref f) ⟨us, []⟩) (CR CX0 outer P w H s Q E) s
def CtOk (c : CT) (P : Program) (w : World) (K : PySem.W.Frag) (mg : Str → Option Value) (base : Heap) (k : Nat) : Prop := ∀ f I g, c.ct f I g → FnC P w K mg base k f I g
theorem ctNone_ok {P : Program} {w : World} {K : PySem.W.Frag} {mg : Str → Option Value} {base : Heap} {k : Nat} : CtOk ctNone P w K mg base k := fun _ _ _ h => h.elim
theorem CtOk.add {c : CT} {P : Program} {w : World} {K : PySem.W.Frag} {mg : Str → Option Value} {base : Heap} {k : Nat} {f : Addr} {I : FnI} {g : GG} (h : CtOk c P w K mg base k) (n : FnC P w K mg base k f I g) : CtOk (ctAdd c f I g) P w K mg base k := by
  rintro f' I' g' (z | ⟨rfl, rfl, rfl⟩)
  · exact h _ _ _ z
  · exact n
theorem FnC.mono {P : Program} {w : World} {K : PySem.W.Frag} {mg : Str → Option Value} {base : Heap} {j k : Nat} {f : Addr} {I : FnI} {g : GG} (F : FnC P w K mg base j f I g) (h : j ≤ k) : FnC P w K mg base k f I g :=
  ⟨F.own, fun A o s H us vs Q E hr => F.run A o s H us vs Q E (hr.mono h)⟩
theorem CtOk.mono {c : CT} {P : Program} {w : World} {K : PySem.W.Frag} {mg : Str → Option Value} {base : Heap} {j k : Nat} (C : CtOk c P w K mg base j) (h : j ≤ k) : CtOk c P w K mg base k := fun f I g z => (C f I g z).mono h
/-- f(..): f at the slot i -/
def dCallF (c : CT) (i : Nat) (ta : TAD) : TED := fun ρ Q => ∃ f I g, ρ[i]? = some (some (.fv f I)) ∧ c.ct f I g ∧ ta ρ fun xs => ∃ ds, stAll xs = some ds ∧ g ds fun d => Q (.p d)
section
variable {X : Cx} {c : CT} {k j i : Nat} {x : Str} {p pos : Pos} {e : Expr} {es : List Expr} {t : TAD}
theorem fnOb_get {P : Program} {w : World} {H : Hp} {h : Heap} {f : Addr} {F : FF} (ok : HOk P w H h) (e : H f = some (FnOb f F)) : ∃ (od : Option Addr) (sl : Array (Option Value)) (fd : FuncData), F.φ fd ∧ h.get? f = some (⟨.type "function", od, .func fd, sl⟩ : Obj) := (ok f _ e).1
theorem fnOb_at {P : Program} {w : World} {H : Hp} {h : Heap} {f : Addr} {F : FF} (ok : HOk P w H h) (e : H f = some (FnOb f F)) : PySem.W.FnAt f h := by
  obtain ⟨od, sl, fd, _, e⟩ := fnOb_get ok e
  exact ⟨_, od, _, sl, e⟩
theorem FnsAt.of {t : TA2} {S : Addr → Prop} {H : Hp} {I : FnI} (h : FnsAt t S H I) {f : Addr} {F : FF} (m : (f, F) ∈ I.fns) : H f = some (FnOb f F) := (wo_of (h.fn _ m).1).2
theorem fe_callF (gd : X.A.guards = some []) (hw : X.w = TB.w) (hc : CtOk c X.prog TB.w X.K X.mg X.base k) (hr : Room k X.A) (hN : X.N[i]? = some x) (hv : Vis X.env.scope x) (ha : FA X (e :: es) t)
    (hd : (x == ("__debug__" : Str)) = false := by decide) (hcd : (x == ("__classdict__" : Str)) = false := by decide)
    (he : starEach (e :: es) X.env = (false, eval e X.env) :: starEach es X.env := by rfl) (hpl : (backTo pos (starEach es X.env)).any (·.1) = false := by rfl) :
    FE X (.Call (.Name x p) (e :: es) [] pos) (dCallF c i t) := by
  refine ⟨fun pins s σ H Q I h => ?_⟩
  obtain ⟨C, ρ, Qd, R, ⟨f, In, g, h1, h2, h3⟩, post⟩ := h
  have Fc := hc f In g h2
  rw [← hw] at Fc
  obtain ⟨F, hm⟩ := Fc.own
  obtain ⟨v0, e1, e2, e3⟩ := R.val i _ h1
  have e2 : v0 = .ref f := e2
  subst e2
  refine wpAny_Call_Name_kw (thn ((pe_var (pos := p) hN hv hd hcd).run pins s σ H (fun v H1 => v = .ref f ∧ H1 = H) I ⟨.ref f, e1, rfl, rfl⟩) fun u s1 ⟨v, H1, I1, r1, q1⟩ => ?_)
  obtain ⟨ev, eH⟩ := q1
  subst ev
  rw [eH] at I1
  obtain rfl : u = Value.ref f := r1
  refine PySem.W.callWith_F (first := []) (fnOb_at I1.hok (e3.of hm)) (thn (ha.run pos pins s1 σ H (fun vs H1 => Rep X.K C ρ σ H1 ∧ Kq C.t H H1 ∧ ∃ xs ds, Paired (RelE C ρ σ H H1) vs xs ∧ stAll xs = some ds ∧ g ds fun d => Qd (.p d)) I1 ⟨C, ρ, _, R, h3, fun vs H1 xs R1 k1 e q => ?_⟩) fun us s2 hx => ?_) he hpl
  · obtain ⟨ds, q1, q2⟩ := q
    exact ⟨R1, k1, xs, ds, e, q1, q2⟩
  obtain ⟨vs, H2, I2, r, R2, k2, xs, ds, q1, q2, q3⟩ := hx
  obtain ⟨v1, g1, g2, g3⟩ := R2.val i _ h1
  refine ⟨fnOb_at I2.hok (g3.of hm), ?_⟩
  show wpAny _ _ (call (.ref f) us) _ _ _
  refine wpAny_call (codeAny_mono (Fc.run X.A X.stack s2 H2 us vs Q E0 hr gd I2.env0 r ?_) fun rr s3 hq => ?_)
  · refine ⟨C.t, bad C ρ σ, ds, _, R2.tp, R2.tab, R2.badT, .inl R2.s2, fun p hp => .inl (R2.s3 p hp), fun b hb => R2.badL hb, stAll_ok R q1 q2, g3, q3, fun v H3 d T tb k3 dt q => ?_⟩
    exact post v H3 (.p d) (R2.step k3 T tb) (k2.trans k3) dt q
  · cases rr with
    | error e => exact (show False from hq).elim
    | ok fl =>
      cases fl with
      | ret u => exact I2.after hq
      | next => exact False.elim hq
      | brk => exact False.elim hq
      | cont => exact False.elim hq
end
end My
namespace My
open PySem PySem.Spec PyProof.Rows L2
variable [TB]
section
variable {X : Cx} {pins : List (Addr × Obj)} {σ : L2.St} {H : Hp} {s : Shared}
/-- what stands behind the making of a function at f -/
structure Mk1 (X : Cx) (pins : List (Addr × Obj)) (σ : L2.St) (H H1 : Hp) (s1 : Shared) (P f : Addr) (F : FF) : Prop where
  inv : Inv X pins σ H1 s1
  kp : ∀ b o, b ≠ P → H b = some o → H1 b = some o
  tab : Tbs H1
  fr : H f = none
  fn : H1 f = some (FnOb f F)
  cd : H1 F.c = some (LamX.CodeO F.c F.qual)
theorem inv_fnOb {F : FF} {fd : FuncData} {t' : Nat} (I : Inv X pins σ H s) (h : F.φ fd) :
    Inv X pins σ (upd H s.heap.objs.size (FnOb s.heap.objs.size F)) { s with heap := s.heap.push { cls := .type "function", data := .func fd }, toks := t' } := by
  have e := Heap.get?_push_size s.heap (o := ({ cls := .type "function", data := .func fd } : Obj)) rfl
  exact I.laid (fun b u q => Heap.get?_push_of_some _ q) (Nat.le_refl _) ⟨⟨_, _, fd, h, e⟩, ⟨_, e⟩, fun h1 h2 ⟨od, sl, fd', a, z⟩ st => ⟨od, sl, fd', a, st _ z⟩⟩
/-- its code object stood in the table -/
theorem made_hit {c' P : Addr} {q : Str} {φ : FuncData → Prop} {fd : FuncData} {h' : Heap} {tk : Tok} (I : Inv X pins σ H s) (hT : Tbs H) (hco : H c' = some (LamX.CodeO c' q))
    (hx : ∀ b o, s.heap.get? b = some o → h'.get? b = some o) (hf : φ fd) :
    ∃ H1, Mk1 X pins σ H H1 { s with heap := h'.push { cls := .type "function", data := .func fd }, toks := tk } P h'.objs.size ⟨φ, q, c'⟩ := by
  have I1 : Inv X pins σ H { s with heap := h', toks := tk } := I.kept hx
  have nF : H h'.objs.size = none := I1.hok.fresh (Nat.le_refl _)
  have up : ∀ b o, H b = some o → upd H h'.objs.size (FnOb h'.objs.size ⟨φ, q, c'⟩) b = some o := fun b o e => by rw [upd_ne (ne_of_none e nF)]; exact e
  exact ⟨_, inv_fnOb (F := ⟨φ, q, c'⟩) (t' := tk) I1 hf, fun b o _ e => up b o e, hT.ext up, nF, upd_same, up _ _ hco⟩
/-- its code object is new -/
theorem made_new {c' P : Addr} {nm : Nat → Nat → Str} {ps : Array Value} {pos : Pos} {q : Str} {φ : FuncData → Prop} {fd : FuncData} {h' : Heap} {tk : Tok} (I : Inv X pins σ H s) (hT : Tbs H) (hP : H P = some (.tbl ps)) (ht : TriplesOk ps.toList)
    (ha : ∀ (pos : Pos) (cv : Value), codeAmong pos ps.toList = some cv → ∃ c, cv = .ref c ∧ H c = some (LamX.CodeO c (nm pos.line pos.col))) (hn : nm pos.line pos.col = q) (hu : ∀ p ∈ TB.T, p.1 = P → p.2 = nm)
    (hx : Heap.ExtBut P s.heap h') (hge : s.heap.objs.size ≤ c') (hlt : c' < h'.objs.size) (hrec : h'.CodeRec (.ref c') q) (htb : h'.get? P = some (PySem.W.tabObj (ps ++ #[rawInt pos.line, rawInt pos.col, .ref c']))) (hf : φ fd) :
    ∃ H1, Mk1 X pins σ H H1 { s with heap := h'.push { cls := .type "function", data := .func fd }, toks := tk } P h'.objs.size ⟨φ, q, c'⟩ := by
  obtain ⟨c2, oc, vs, t, e2, hoc, hd, hv⟩ := hrec
  cases e2
  have nC : H c' = none := I.hok.fresh hge
  have J := LamX.inv_table (t' := tk) (more := #[rawInt pos.line, rawInt pos.col, .ref c']) (h' := h') I hP (fun b o hb e => hx b o hb e) htb hge ⟨oc, vs, t, hoc, hd, hv⟩
  generalize hH2 : upd (upd H P (.tbl (ps ++ #[rawInt pos.line, rawInt pos.col, .ref c']))) c' (LamX.CodeO c' q) = H2 at J
  have a1 : ∀ b o, b ≠ P → H b = some o → H2 b = some o := fun b o n e => by
    rw [← hH2, upd_ne (ne_of_none e nC), upd_ne n]; exact e
  have a2 : H2 c' = some (LamX.CodeO c' q) := by rw [← hH2]; exact upd_same
  have a3 : H2 P = some (.tbl (ps ++ #[rawInt pos.line, rawInt pos.col, .ref c'])) := by
    rw [← hH2, upd_ne (ne_of_none hP nC)]; exact upd_same
  have cP : ∀ c x, H c = some (LamX.CodeO c x) → c ≠ P := fun c x e z => by
    rw [z, hP] at e
    exact LamX.codeO_ne ps (Option.some.inj e).symm
  have eL : (ps ++ #[rawInt pos.line, rawInt pos.col, .ref c']).toList = ps.toList ++ [rawInt pos.line, rawInt pos.col, .ref c'] := by simp
  have t2 : Tbs H2 := fun p hp => by
    by_cases hb : p.1 = P
    · rw [hu p hp hb, hb]
      refine ⟨_, a3, by rw [eL]; exact PySem.TriplesOk_snoc _ _ _ _ ht, fun p' cv hcv => ?_⟩
      rw [eL] at hcv
      rcases NdefX.among_app2 _ ht hcv with z | ⟨z, z1, z2⟩
      · obtain ⟨c0, e1, e2⟩ := ha p' cv z
        exact ⟨c0, e1, a1 _ _ (cP _ _ e2) e2⟩
      · exact ⟨c', z, by rw [← z1, ← z2, hn]; exact a2⟩
    · obtain ⟨ps', b1, b2, b3⟩ := hT p hp
      refine ⟨ps', a1 _ _ hb b1, b2, fun p' cv hcv => ?_⟩
      obtain ⟨c0, e1, e2⟩ := b3 p' cv hcv
      exact ⟨c0, e1, a1 _ _ (cP _ _ e2) e2⟩
  have n2 : H2 h'.objs.size = none := J.hok.fresh (Nat.le_refl _)
  have up : ∀ b o, H2 b = some o → upd H2 h'.objs.size (FnOb h'.objs.size ⟨φ, q, c'⟩) b = some o := fun b o e => by rw [upd_ne (ne_of_none e n2)]; exact e
  exact ⟨_, inv_fnOb (F := ⟨φ, q, c'⟩) (t' := tk) J hf, fun b o n e => up b o (a1 b o n e), t2.ext up, I.hok.fresh (Nat.le_trans hge (Nat.le_of_lt hlt)), upd_same, up _ _ a2⟩
/-- what the maker's table asks -/
structure Mkr (X : Cx) (c P : Addr) (nm : Nat → Nat → Str) : Prop where
  tb : LamX.TabB X.base X.mg c P
  code : X.env.code = .ref c
  mem : (P, nm) ∈ TB.T
  uni : ∀ p ∈ TB.T, p.1 = P → p.2 = nm
def lamφ (qual : Str) (params : Arguments) (body : Expr) (scope : Scope) (cl : List (Str × Addr)) (c' : Addr) : FuncData → Prop := fun fd => ∃ pm ctv : Value, fd = PySem.W.kla_fn "<lambda>" qual params body scope cl pm (.ref c') ctv
theorem lam_make {nm : Nat → Nat → Str} {c P : Addr} {params : Arguments} {body : Expr} {scope : Scope} {pos : Pos} {E : Value → Shared → Prop} {Q : Value → Shared → Prop} (I : Inv X pins σ H s) (M : Mkr X c P nm) (hT : Tbs H) (hn : nm pos.line pos.col = X.env.qual ++ "<lambda>")
    (hdef : defaultsOf params X.env = ([], [])) (hfree : ∀ y ∈ scope.names, y.2 = .free → ∃ c, X.env.cells.lookup y.1 = some c)
    (h : ∀ (f c' : Addr) (H1 : Hp) (s' : Shared), Mk1 X pins σ H H1 s' P f ⟨lamφ (X.env.qual ++ "<lambda>") params body scope (cloFrom X.env.cells scope.names []) c', X.env.qual ++ "<lambda>", c'⟩ → Q (.ref f) s') :
    wpAny (model X.prog X.w) X.A (eval (.Lambda params body scope pos) X.env) Q E s := by
  obtain ⟨ps, hP, ht, ha⟩ := (show NdefX.TabN H P nm from hT _ M.mem)
  have bP : s.heap.BuiltinsAt X.mg P := M.tb.bm.keeps I.bk
  have gP := I.hok P _ hP
  refine PySem.W.kla_eval hdef ?_
  cases hc : codeAmong pos ps.toList with
  | none =>
    refine PySem.W.kla_makeFunction (mg := X.mg) (c := c) (P := P) (ps := ps) (closure_ok hfree) I.ok.glob (I.mod.glob.keeps I.bk) M.code (M.tb.code.keeps I.bk) gP ht hc M.tb.gP bP fun c' ctv h' tk hx hge hlt hrec htb => ?_
    obtain ⟨H1, m⟩ := made_new (φ := lamφ (X.env.qual ++ "<lambda>") params body scope (cloFrom X.env.cells scope.names []) c') (tk := tk) I hT hP ht ha hn M.uni hx hge hlt hrec htb ⟨(X.mg "__name__").getD .none, ctv, rfl⟩
    exact h _ _ _ _ m
  | some cv =>
    obtain ⟨c', rfl, hco⟩ := ha pos cv hc
    rw [hn] at hco
    refine PySem.W.kla_makeFunctionHit (mg := X.mg) (c := c) (P := P) (ps := ps) (closure_ok hfree) I.ok.glob (I.mod.glob.keeps I.bk) M.code (M.tb.code.keeps I.bk) gP ht hc bP fun ctv h' tk hx hsz => ?_
    obtain ⟨H1, m⟩ := made_hit (P := P) (φ := lamφ (X.env.qual ++ "<lambda>") params body scope (cloFrom X.env.cells scope.names []) c') (tk := tk) I hT hco hx ⟨(X.mg "__name__").getD .none, ctv, rfl⟩
    exact h _ _ _ _ m
end
/-- the functions that a frame makes, by their number in the text -/
class FR where
  fm : Nat → Addr → FF
variable [FR]
def dMk (L : Nat) : TED := fun _ Q => ∀ f c', Q (.fv f ⟨[(f, FR.fm L c')], []⟩)
def dMkS (i L : Nat) : TSD := fun Dd ρ => ∀ f c', Dd.nx (ρ.set i (some (.fv f ⟨[(f, FR.fm L c')], []⟩)))
section
variable {X : Cx} {pins : List (Addr × Obj)} {σ : L2.St} {H H1 : Hp} {s1 : Shared}
theorem Mk1.rep {C : Cd} {ρ : Ro} {P f : Addr} {F : FF} {nm : Nat → Nat → Str} (m : Mk1 X pins σ H H1 s1 P f F) (hm : (P, nm) ∈ TB.T) (R : Rep X.K C ρ σ H) : Rep X.K C ρ σ H1 ∧ Kq C.t H H1 ∧ RelE C ρ σ H H1 (.ref f) (.fv f ⟨[(f, F)], []⟩) := by
  have bP : bad C ρ σ P := .inl (R.s3 _ hm)
  have k : Kq C.t H H1 := fun b o n e => m.kp b o (fun z => n.2 _ hm z.symm) e
  have T1 : Tape X.K H1 C.t := by
    obtain ⟨ns, p, n, st, h1, h2, h3, h4⟩ := R.tp.ex
    obtain ⟨ps, hP, _⟩ := (show NdefX.TabN H P nm from R.tab _ hm)
    have ne : ∀ b xs, H b = some (.lst xs) → b ≠ P := fun b xs e z => by rw [z, hP] at e; cases e
    exact ⟨ns, p, n, st, m.kp _ _ (ne _ _ h1) h1, h2, m.kp _ _ (ne _ _ h3) h3, h4⟩
  have R1 := R.step k T1 m.tab
  refine ⟨R1, k, rfl, fun q hq => ?_, fun q hq => by cases hq⟩
  rcases List.mem_singleton.mp hq with rfl
  refine ⟨wo_mk (R.badN m.fr) m.fn, m.cd, ⟨fun z => ?_, fun p hp z => ?_⟩⟩
  · obtain ⟨ys, e⟩ := T1.lst
    rw [← z, m.cd] at e
    exact lst_code (Option.some.inj e).symm
  · obtain ⟨ps, e⟩ := m.tab.at hp
    rw [z, m.cd] at e
    exact LamX.codeO_ne ps (Option.some.inj e)
/-- lambda ..: .. -/
theorem fe_lam {nm : Nat → Nat → Str} {c P : Addr} {params : Arguments} {body : Expr} {scope : Scope} {pos : Pos} {L : Nat} (M : Mkr X c P nm) (hn : nm pos.line pos.col = X.env.qual ++ "<lambda>")
    (hF : ∀ c', FR.fm L c' = ⟨lamφ (X.env.qual ++ "<lambda>") params body scope (cloFrom X.env.cells scope.names []) c', X.env.qual ++ "<lambda>", c'⟩)
    (hdef : defaultsOf params X.env = ([], [])) (hfree : ∀ y ∈ scope.names, y.2 = .free → X.env.scope.names.lookup y.1 = some .cell ∨ X.env.scope.names.lookup y.1 = some .free) :
    FE X (.Lambda params body scope pos) (dMk L) := by
  refine ⟨fun pins s σ H Q I h => ?_⟩
  obtain ⟨C, ρ, Qd, R, h, post⟩ := h
  refine lam_make I M R.tab hn hdef (fun y hy e => (hfree y hy e).elim (fun z => I.ok.has _ (.inl z)) fun z => I.ok.has _ (.inr z)) fun f c' H1 s' m => ?_
  obtain ⟨R1, k, r⟩ := m.rep M.mem R
  rw [← hF c'] at r
  exact ⟨.ref f, H1, m.inv, rfl, post _ _ _ R1 k r (h f c')⟩
end
end My
namespace My
open PySem PySem.Spec PyProof.Rows L2
variable [TB]
/-- a cell's value as the function's body sees it -/
def capR (I : FnI) (w : V) : D → Prop
  | .p d => (w, d) ∈ I.pn
  | .fv f I' => w = .ref f ∧ (∀ q ∈ I'.fns, q ∈ I.fns) ∧ ∀ q ∈ I'.pn, q ∈ I.pn
  | _ => False
theorem capR_to {t : TA2} {S0 : Addr → Prop} {H : Hp} {I : FnI} (h : FnsAt t S0 H I) {w : V} {x : D} (c : capR I w x) : RelA t S0 H w x := by
  cases x with
  | p d => exact h.pn _ c
  | fv f I' => exact ⟨c.1, fun q hq => h.fn q (c.2.1 q hq), fun q hq => h.pn q (c.2.2 q hq)⟩
  | _ => exact c.elim
theorem dts_to {t : TA2} {S0 : Addr → Prop} {H : Hp} : ∀ {vs : List V} {ds : List PyData}, DtAll (wo S0 H) vs ds → Paired (RelA t S0 H) vs (ds.map .p)
  | _, _, .nil => .nil
  | _, _, .cons h r => .cons h (dts_to r)
theorem pair_app2 {α β : Type} {F : α → β → Prop} : ∀ {a c : List α} {b d : List β}, Paired F a b → Paired F c d → Paired F (a ++ c) (b ++ d)
  | _, _, _, _, .nil, h => h
  | _, _, _, _, .cons h r, k => .cons h (pair_app2 r k)
def SGU (n : Nat) (caps : List D) (g : GG) : SpD := fun xs Qd => ∃ ds Q0, xs = ds.map .p ++ caps ∧ ds.length = n ∧ g ds Q0 ∧ Qd = fun x => ∃ d, x.st = some d ∧ Q0 d
theorem spG_U {K : PySem.W.Frag} {I : FnI} {g : GG} {n : Nat} {caps : List D} {vs ws : List V} {H : Hp} {Q : VK} {E : XK} (hn : ∀ ds Q, g ds Q → ds.length = n) (hc : Paired (capR I) ws caps) (h : spG K I g vs H Q E) : spU K (n + caps.length) (SGU n caps g) (vs ++ ws) H Q E := by
  obtain ⟨t, S0, ds, Qd, T, tb, s1, s2, s3, s0, hv, hI, hg, post⟩ := h
  refine ⟨t, S0, ds.map .p ++ caps, _, T, tb, s1, s2, s3, s0, pair_app2 (dts_to hv) (pmap2 (fun _ _ c => capR_to hI c) hc), ?_, ⟨ds, Qd, rfl, hn _ _ hg, hg, rfl⟩, ?_⟩
  · rw [List.length_append, List.length_map, hn _ _ hg]
  · rintro v H' x T' tb' k r ⟨d, hd, q⟩
    refine post v H' d T' tb' k ?_ q
    cases x with
    | p d' => cases hd; exact r
    | nw es =>
      cases hd
      obtain ⟨p, us, rfl, h1, h2, h3, _⟩ := r
      refine .lst (wo_mk (fun z => ?_) h2) (DtAll.mono (wo_mono (fun _ z => .inl z) fun _ _ _ e => e) h3)
      obtain ⟨o, e⟩ := s0 _ z
      rw [h1] at e; cases e
    | _ => exact r.elim
/-- what the captured cells hold, for good -/
structure CellsB (base : Heap) (cl : List (Str × Addr)) (fr : List Str) (ws : List V) : Prop where
  len : ws.length = fr.length
  all : ∀ y c, cl.lookup y = some c → ∃ v, base.IsCell c v
  inj : ∀ x y c, cl.lookup x = some c → cl.lookup y = some c → x = y
  has : ∀ (i : Nat) (y : Str) (w : V), fr[i]? = some y → ws[i]? = some w → ∃ c u, cl.lookup y = some c ∧ L2.RelV w u ∧ base.IsCell c (some u)
theorem CellsB.at {P : Program} {w : World} {K : PySem.W.Frag} {mg : Str → Option Value} {base : Heap} {A : Around} {outer : List Env} {s : Shared} {H : Hp} {cl : List (Str × Addr)} {fr : List Str} {ws : List V} (C : CellsB base cl fr ws) (e0 : Env0 P w K mg base A outer s H) : NdefX.CellsAt cl fr (ws.map some) s.heap H := by
  have kp : ∀ c v, base.IsCell c v → H c = none ∧ s.heap.IsCell c v := fun c v ⟨o, h1, h2⟩ => ⟨(e0.bs c o h1).2, o, (e0.bs c o h1).1, h2⟩
  refine ⟨by rw [List.length_map]; exact C.len, fun y c e => ?_, C.inj, fun i y e => ?_⟩
  · obtain ⟨v, z⟩ := C.all y c e
    exact ⟨(kp _ _ z).1, v, (kp _ _ z).2⟩
  · have hi : i < ws.length := by rw [C.len]; exact (List.getElem?_eq_some_iff.mp e).1
    obtain ⟨c, u, h1, h2, h3⟩ := C.has i y ws[i] e (List.getElem?_eq_getElem hi)
    refine ⟨c, h1, fun v ev => ?_⟩
    rw [List.getElem?_map, List.getElem?_eq_getElem hi] at ev
    cases ev
    exact ⟨u, h2, (kp _ _ h3).2⟩
theorem startF_eq {N : List Str} {vs ws : List V} : NdefX.startF N vs (ws.map some) = L2.start N (vs ++ ws) := by
  unfold NdefX.startF L2.start
  rw [List.map_append, List.append_assoc, List.length_map, List.length_append, Nat.sub_sub]
abbrev nfOf (name qual : Str) (params : Arguments) (scope : Scope) (cl : List (Str × Addr)) (c' : Addr) : NdefX.NF := ⟨name, qual, params, [], scope, cl, c'⟩
section
variable {P : Program} {K : PySem.W.Frag} {mg : Str → Option Value} {base : Heap} {N ps fr : List Str} {name qual : Str} {params : Arguments} {scope : Scope} {cl : List (Str × Addr)} {c' f : Addr} {ws : List V} {caps : List D} {I : FnI} {g : GG} {n m k : Nat}
theorem fnC_lam {body : Expr} {te : TED} (S : NdefX.NScope N ps fr scope) (hps : ps.length = n) (hN : N.length = n + caps.length + m) (hb : ∀ (pm ctv : Value) (us : List Value), us.length = ps.length → bindArgs (PySem.W.kla_fn "<lambda>" qual params body scope cl pm (.ref c') ctv) ⟨us, []⟩ = pure (ps.zip us))
    (hI : (f, (⟨lamφ qual params body scope cl c', qual, c'⟩ : FF)) ∈ I.fns) (hC : CellsB base cl fr ws) (hc : Paired (capR I) ws caps) (hn : ∀ ds Q, g ds Q → ds.length = n)
    (hbody : ∀ (A : Around) (outer : List Env) (s : Shared) (H : Hp) (E : XK), Room k (A.deeper (NdefX.envF (nfOf "<lambda>" qual params scope cl c') f s.heap.objs.size)) → A.guards = some [] → FE (NdefX.ncx CX0 P TB.w K mg base N (nfOf "<lambda>" qual params scope cl c') f A outer s H E) body te)
    (pf : ∀ ds Qd, g ds Qd → dRetU te (endsOf fun x => ∃ d, x.st = some d ∧ Qd d) (iniR (ds.map .p ++ caps) m)) : FnC P TB.w K mg base (k + 1) f I g := by
  refine ⟨⟨_, hI⟩, fun A outer s H us vs Q E hr hgd e0 r hsp => ?_⟩
  have hU := spG_U hn hc hsp
  have hl : vs.length = ps.length := by
    obtain ⟨t0, S0, ds, Qd, _, _, _, _, _, _, hv, _, hg, _⟩ := hsp
    rw [hv.length, hn _ _ hg, hps]
  obtain ⟨t9, S9, hI'⟩ : ∃ t S0, FnsAt t S0 H I := let ⟨t, S0, _, _, _, _, _, _, _, _, _, z, _⟩ := hsp; ⟨t, S0, z⟩
  have lim : s.heap.NoLimit := e0.mod.nolimit.keeps fun b o e => (e0.bs b o e).1
  obtain ⟨od, sl, fd, ⟨pm, ctv, rfl⟩, ho⟩ := fnOb_get e0.hok (hI'.of hI)
  have C := hC.at e0
  refine PySem.W.kla_callFunE hr.depth ho rfl S.co S.gen rfl (NdefX.codeO_at e0.hok (hI'.fn _ hI).2.1) ?_
  rw [hb pm ctv us (by rw [← r.length]; exact hl)]
  refine wpAny_pure (wpAny_newFunctionEnv S.nocell (fun ⟨n, _⟩ hy => S.par n (List.of_mem_zip hy).1) (fun h₁ hns hsb => ⟨lim.fresh _ hsb, ?_⟩) S.kind)
  show codeAny _ _ (.expr body (NdefX.envF (nfOf "<lambda>" qual params scope cl c') f s.heap.objs.size)) _ _
  have kp : ∀ b o, s.heap.get? b = some o → h₁.get? b = some o := fun b o e => hsb.extBut b o (Nat.ne_of_lt (Heap.lt_size e)) (Heap.get?_push_of_some _ e)
  have I0 : Inv (NdefX.ncx CX0 P TB.w K mg base N (nfOf "<lambda>" qual params scope cl c') f A outer s H E) [] (NdefX.startF N vs (ws.map some)) H { s with heap := h₁, toks := s.toks + (ps.zip us).length } := NdefX.inv_startN S hr.hd e0 hl r C hns kp
  rw [startF_eq] at I0
  have up0 := up_retU _ _ _ (fn_start (K := K) (t := dRetU te) (N := N) hN (fun xs Qd h => by
    obtain ⟨ds, Q0, rfl, _, hg, rfl⟩ := h
    exact pf ds Q0 hg) hU)
  refine PySem.W.kla_codeExpr (wpAny_mono ((hbody A outer s H E (hr.deeper _) hgd).run [] _ _ H Q I0 up0) (fun u s' hs => ?_) fun e s' hs => hs)
  obtain ⟨v, H', J, rv, q⟩ := hs
  exact ⟨v, H', J.os, J.bare, J.base, J.hok, rv, q⟩
end
end My
namespace My
open PySem PySem.Spec PyProof.Rows L2
def Sub (b b' : Heap) : Prop := ∀ a o, b.get? a = some o → b'.get? a = some o
theorem Sub.refl (b : Heap) : Sub b b := fun _ _ h => h
theorem Sub.trans {a b c : Heap} (x : Sub a b) (y : Sub b c) : Sub a c := fun p o h => y p o (x p o h)
theorem Sub.tabB {b b' : Heap} {mg : Str → Option Value} {c P : Addr} (x : Sub b b') (T : LamX.TabB b mg c P) : LamX.TabB b' mg c P := ⟨T.code.keeps x, T.bm.keeps x, T.gP⟩
/-- what is not in it -/
def offB (base : Heap) (cl : List (Str × Addr)) : Hp := fun b => if (base.get? b).isSome = true ∨ b ∈ cl.map (·.2) then none else some (.tup [])
def cellB (X : Cx) (s : Shared) : Heap := hidT s.heap (offB X.base X.env.cells)
section
variable {X : Cx} {pins : List (Addr × Obj)} {σ : L2.St} {H : Hp} {s : Shared}
theorem cellB_sub (I : Inv X pins σ H s) : Sub X.base (cellB X s) := fun b o e => hidT_get (I.bk b o e) (if_pos (.inl (by rw [e]; rfl)))
theorem cellB_cell (I : Inv X pins σ H s) {y : Str} {c : Addr} (h : X.env.cells.lookup y = some c) {o : Obj} (e : s.heap.get? c = some o) : (cellB X s).get? c = some o :=
  hidT_get e (if_pos (.inr (List.mem_map.mpr ⟨(y, c), PySem.mem_of_lookup h, rfl⟩)))
/-- every cell of the frame is found by its name -/
def CellsNm (X : Cx) : Prop := ∀ p ∈ X.env.cells, ∃ y, X.env.cells.lookup y = some p.2
theorem cellB_of (I : Inv X pins σ H s) (hn : CellsNm X) {b : Addr} {o : Obj} (e : (cellB X s).get? b = some o) : s.heap.get? b = some o ∧ H b = none := by
  obtain ⟨e1, e2⟩ := of_hidT e
  refine ⟨e1, ?_⟩
  unfold offB at e2
  split at e2
  · rename_i h
    rcases h with h | h
    · obtain ⟨o', ho⟩ := Option.isSome_iff_exists.mp h
      exact (I.bs b o' ho).2
    · obtain ⟨p, hp, rfl⟩ := List.mem_map.mp h
      obtain ⟨y, hy⟩ := hn p hp
      exact I.freeC y _ hy
  · cases e2
theorem cell_nofr (I : Inv X pins σ H s) (hfn : ∀ y, X.fn y = true) {y : Str} {c : Addr} (h : X.env.cells.lookup y = some c) : c ∉ frs X.stack := fun z => by
  have lo : ∀ b ∈ frs X.outer, b < X.s_0.heap.objs.size := fun b hb => by
    obtain ⟨_, o, e, _⟩ := I.ok.funs.mem hb
    exact Heap.lt_size e
  have ge : X.s_0.heap.objs.size ≤ c := I.ok.cab y c (hfn y) h
  have out : c ∉ frs X.outer := fun z => Nat.lt_irrefl _ (Nat.lt_of_lt_of_le (lo c z) ge)
  rcases I.ok.stk with e | ⟨e, e2⟩
  · rw [e] at z; exact out z
  · rw [e] at z
    unfold frs at z
    rw [List.filterMap_cons, e2] at z
    rcases List.mem_cons.mp z with z | z
    · obtain ⟨m, ⟨o, es, ep, ho, hd, _⟩, _⟩ := I.loc
      obtain ⟨v, o', ho', hd'⟩ := I.cell y c h
      rw [z, ho] at ho'
      cases ho'
      rw [hd] at hd'
      cases hd'
    · exact out z
theorem funFr_of {h base base' : Heap} : ∀ {l : List Env}, h.FunFrames base l → (∀ b ∈ frs l, base.get? b = none → base'.get? b = none) → h.FunFrames base' l
  | [], _, _ => trivial
  | env :: rest, hl, k => by
    obtain ⟨hk, ⟨L, o, hf, hn, ho, hd⟩, hr⟩ := hl
    have e : frs (env :: rest) = L :: frs rest := by unfold frs; rw [List.filterMap_cons, hf]
    exact ⟨hk, ⟨L, o, hf, k L (by rw [e]; exact List.mem_cons_self) hn, ho, hd⟩, funFr_of hr fun b hb => k b (by rw [e]; exact List.mem_cons_of_mem _ hb)⟩
theorem cellB_env (I : Inv X pins σ H s) (hfn : ∀ y, X.fn y = true) (hn : CellsNm X) : Env0 X.prog X.w X.K X.mg (cellB X s) X.A X.stack s H := by
  have k := cellB_sub I
  have M := I.ok.mod
  refine ⟨I.ok.frames, ⟨M.kin.keeps k, M.glob.keeps k, let ⟨mb, h1, h2⟩ := M.blt; ⟨mb, h1.keeps k, h2⟩, M.nolimit.keeps k⟩, fun b o e => cellB_of I hn e, Nat.le_of_eq (hidT_size _ _), funFr_of I.stack fun b hb n => ?_, I.stkFree, I.hok, I.bare⟩
  cases q : (cellB X s).get? b with
  | none => rfl
  | some o =>
    exfalso
    obtain ⟨_, e2⟩ := of_hidT q
    unfold offB at e2
    split at e2
    · rename_i h
      rcases h with h | h
      · rw [n] at h; cases h
      · obtain ⟨p, hp, rfl⟩ := List.mem_map.mp h
        obtain ⟨y, hy⟩ := hn p hp
        exact cell_nofr I hfn hy hb
    · cases e2
end
end My
namespace My
open PySem PySem.Spec PyProof.Rows L2
variable [TB]
/-- a function of the text: its number, the slots of what it captured, its locals, its parameters, its body -/
structure LamR where
  L : Nat
  js : List Nat
  m : Nat
  ar : Nat
  t : CT → TSD
abbrev EnL := List (Addr × FnI)
def EnL.get (en : EnL) (f : Addr) : Option FnI := (en.find? fun q => q.1 == f).map (·.2)
theorem EnL.get_mem {en : EnL} {f : Addr} {I : FnI} (h : en.get f = some I) : (f, I) ∈ en := by
  unfold EnL.get at h
  cases q : en.find? (fun q => q.1 == f) with
  | none => rw [q] at h; cases h
  | some z =>
    rw [q] at h
    cases h
    have e : z.1 = f := beq_iff_eq.mp (List.find?_some (p := fun q : Addr × FnI => q.1 == f) q)
    have := List.mem_of_find?_eq_some q
    rw [← e]
    exact this
/-- as it is seen within -/
def enr (en : EnL) : D → Option D
  | .p d => some (.p d)
  | .fv f _ => (en.get f).map (.fv f)
  | _ => none
def capsOf (en : EnL) (ρ : Ro) : List Nat → Option (List D)
  | [] => some []
  | j :: js => match ρ[j]? with
    | some (some x) => match enr en x, capsOf en ρ js with
      | some y, some ys => some (y :: ys)
      | _, _ => none
    | _ => none
/-- as an argument -/
def D.argE (en : EnL) : D → Option D
  | .fv f _ => (en.get f).map (.fv f)
  | x => x.arg
def argAllE (en : EnL) : List D → Option (List D)
  | [] => some []
  | x :: xs => match x.argE en, argAllE en xs with
    | some d, some ds => some (d :: ds)
    | _, _ => none
section
variable [FR]
/-- the functions one by one, each with what it promises -/
def regs : List LamR → CT → EnL → Ro → List D → (CT → EnL → Prop) → Prop
  | [], c, en, _, _, K => K c en
  | r :: rs, c, en, ρ, xs, K => ∃ f c', (some (.fv f ⟨[(f, FR.fm r.L c')], []⟩) ∈ ρ ∨ .fv f ⟨[(f, FR.fm r.L c')], []⟩ ∈ xs) ∧ ∃ caps, capsOf en ρ r.js = some caps ∧ ∃ g : GG,
      (∀ ds Qd, g ds Qd → ds.length = r.ar ∧ r.t c (endsOf fun x => ∃ d, x.st = some d ∧ Qd d) (iniR (ds.map .p ++ caps) r.m)) ∧ ∀ I, regs rs (ctAdd c f I g) ((f, I) :: en) ρ xs K
def dCallC (n : Nat) (rs : List LamR) (dd : List PyData) (S : CT → SpD) (ta : TAD) : TED := fun ρ Q => ta ρ fun xs => regs rs ctNone [] ρ xs fun c en => ∃ ys, argAllE en xs = some ys ∧ (ys ++ dd.map D.p).length = n ∧ S c (ys ++ dd.map D.p) Q
end
section
variable {K : PySem.W.Frag} {C : Cd} {ρ : Ro} {σ : L2.St} {H0 H : Hp}
/-- the captured slots, by their values -/
theorem caps_ok (R : Rep K C ρ σ H) {en : EnL} (hen : ∀ q ∈ en, FnsAt C.t (bad C ρ σ) H q.2) : ∀ {js : List Nat} {caps : List D}, capsOf en ρ js = some caps → ∃ (ws : List V) (I : FnI), Paired (fun j w => σ[j]? = some (some w)) js ws ∧ Paired (capR I) ws caps ∧ FnsAt C.t (bad C ρ σ) H I
  | [], caps, h => by cases h; exact ⟨[], ⟨[], []⟩, .nil, .nil, (⟨fun q hq => (by cases hq), fun q hq => (by cases hq)⟩ : FnsAt C.t (bad C ρ σ) H ⟨[], []⟩)⟩
  | j :: js, caps, h => by
    unfold capsOf at h
    cases e : ρ[j]? with
    | none => rw [e] at h; cases h
    | some x0 =>
      cases x0 with
      | none => rw [e] at h; cases h
      | some x =>
        rw [e] at h
        simp only at h
        cases e1 : enr en x with
        | none => rw [e1] at h; cases h
        | some y =>
          cases e2 : capsOf en ρ js with
          | none => rw [e1, e2] at h; cases h
          | some ys =>
            rw [e1, e2] at h
            cases h
            obtain ⟨ws, I, a1, a2, a3⟩ := caps_ok R hen e2
            obtain ⟨v, b1, b2⟩ := R.val j x e
            have up : ∀ {w : V} {z : D} {J : FnI}, (∀ q ∈ I.fns, q ∈ J.fns) → (∀ q ∈ I.pn, q ∈ J.pn) → capR I w z → capR J w z := fun {w z J} u1 u2 c => by
              cases z with
              | p d => exact u2 _ c
              | fv f I' => exact ⟨c.1, fun q hq => u1 _ (c.2.1 q hq), fun q hq => u2 _ (c.2.2 q hq)⟩
              | _ => exact c.elim
            cases x with
            | p d =>
              cases e1
              refine ⟨v :: ws, ⟨I.fns, (v, d) :: I.pn⟩, .cons b1 a1, .cons List.mem_cons_self (pmap2 (fun _ _ c => up (J := ⟨I.fns, (v, d) :: I.pn⟩) (fun q hq => hq) (fun q hq => List.mem_cons_of_mem _ hq) c) a2), a3.fn, fun q hq => ?_⟩
              rcases List.mem_cons.mp hq with rfl | hq
              · exact b2
              · exact a3.pn q hq
            | fv f I0 =>
              have e1 : (en.get f).map (D.fv f) = some y := e1
              cases e3 : en.get f with
              | none => rw [e3] at e1; cases e1
              | some If =>
                rw [e3] at e1
                cases e1
                have hf := hen _ (EnL.get_mem e3)
                obtain ⟨rfl, _⟩ := b2
                refine ⟨.ref f :: ws, ⟨If.fns ++ I.fns, If.pn ++ I.pn⟩, .cons b1 a1, .cons ⟨rfl, fun q hq => List.mem_append_left _ hq, fun q hq => List.mem_append_left _ hq⟩ (pmap2 (fun _ _ c => up (J := ⟨If.fns ++ I.fns, If.pn ++ I.pn⟩) (fun q hq => List.mem_append_right _ hq) (fun q hq => List.mem_append_right _ hq) c) a2), fun q hq => ?_, fun q hq => ?_⟩
                · exact (List.mem_append.mp hq).elim (hf.fn q) (a3.fn q)
                · exact (List.mem_append.mp hq).elim (hf.pn q) (a3.pn q)
            | _ => cases e1
theorem argsE_ok {H1 : Hp} (R : Rep K C ρ σ H) {en : EnL} (hen : ∀ q ∈ en, FnsAt C.t (bad C ρ σ) H1 q.2) : ∀ {vs : List V} {xs ys : List D}, Paired (RelE C ρ σ H H1) vs xs → argAllE en xs = some ys → Paired (RelA C.t (bad C ρ σ) H1) vs ys
  | _, _, _, .nil, e => by cases e; exact .nil
  | _, _, _, .cons (b := x) (l₂ := xs) h t, e => by
    unfold argAllE at e
    cases e1 : x.argE en with
    | none => simp [e1] at e
    | some d =>
      cases e2 : argAllE en xs with
      | none => simp [e1, e2] at e
      | some ds =>
        simp [e1, e2] at e
        subst e
        refine .cons ?_ (argsE_ok R hen t e2)
        cases x with
        | p d => cases e1; exact h
        | own ds => cases e1
        | nw ds => cases e1; exact R.stOf h rfl
        | tape => cases e1; exact h
        | ot m => cases e1
        | nt m => cases e1; exact R.stOf h rfl
        | bor p m => cases e1
        | fv f F =>
          have e1 : (en.get f).map (D.fv f) = some d := e1
          cases e3 : en.get f with
          | none => rw [e3] at e1; cases e1
          | some If =>
            rw [e3] at e1
            cases e1
            exact ⟨h.1, hen _ (EnL.get_mem e3)⟩
end
def flV : PyData → Option V
  | .none => some .non | .bool b => some (.bl b) | .int i => some (.int i) | .str x => some (.str x) | _ => none
theorem flV_dt {d : PyData} {v : V} (h : flV d = some v) (H : Hp) : Dt H v d := by
  cases d <;> cases h <;> constructor
/-- as CalG, of a call in which the last parameters take their defaults -/
structure CalD (P : Program) (w : World) (K : PySem.W.Frag) (mg : Str → Option Value) (base : Heap) (k : Nat) (x : Str) (ps : List Str) (dd : List PyData) (sp : Sp) : Prop where
  ex : ∃ (f : Addr) (fd : FuncData) (dvs : List V) (ds : List Value), FnG P w K mg base CX0 k f fd ps sp ∧ mg x = some (.ref f) ∧ PySem.W.keepIn K (.ref f) = true ∧ dd.map flV = dvs.map some ∧ Vals dvs ds ∧ Binds K fd ps ds
theorem dd_rel {t : TA2} {S0 : Addr → Prop} {H : Hp} : ∀ {dd : List PyData} {dvs : List V}, dd.map flV = dvs.map some → Paired (RelA t S0 H) dvs (dd.map D.p)
  | [], [], _ => .nil
  | [], _ :: _, e => by cases e
  | _ :: _, [], e => by cases e
  | d :: dd, v :: dvs, e => by
    rw [List.map_cons, List.map_cons, List.cons.injEq] at e
    exact .cons (flV_dt e.1 _) (dd_rel e.2)
/-- each function of the text keeps what its body shows -/
structure RegOk [FR] (X : Cx) (k : Nat) (r : LamR) : Prop where
  ex : ∃ (scope : Scope) (fr : List Str), (∀ y ∈ scope.names, y.2 = .free → X.env.scope.names.lookup y.1 = some .cell ∨ X.env.scope.names.lookup y.1 = some .free) ∧ (∀ y ∈ fr, (y, NameKind.free) ∈ scope.names) ∧ r.js.map (fun j => X.N[j]?) = fr.map some ∧
    ∀ (kk : Nat) (base : Heap) (c : CT) (f c' : Addr) (ws : List V) (caps : List D) (I : FnI) (g : GG), k ≤ kk → Sub X.base base → CtOk c X.prog TB.w X.K X.mg base kk → (f, FR.fm r.L c') ∈ I.fns → CellsB base (cloFrom X.env.cells scope.names []) fr ws → Paired (capR I) ws caps → caps.length = r.js.length →
      (∀ ds Q, g ds Q → ds.length = r.ar) → (∀ ds Qd, g ds Qd → r.t c (endsOf fun x => ∃ d, x.st = some d ∧ Qd d) (iniR (ds.map .p ++ caps) r.m)) → FnC X.prog TB.w X.K X.mg base (kk + 1) f I g
section
variable [FR] {X : Cx} {pins : List (Addr × Obj)} {σ : L2.St} {H0 H : Hp} {s : Shared} {C : Cd} {ρ : Ro} {k : Nat}
theorem cellsB_of (I : Inv X pins σ H s) {scope : Scope} {fr : List Str} {js : List Nat} {ws : List V} (hfree : ∀ y ∈ scope.names, y.2 = .free → X.env.scope.names.lookup y.1 = some .cell ∨ X.env.scope.names.lookup y.1 = some .free) (hfr : ∀ y ∈ fr, (y, NameKind.free) ∈ scope.names) (hjs : js.map (fun j => X.N[j]?) = fr.map some)
    (hw : Paired (fun j w => σ[j]? = some (some w)) js ws) : CellsB (cellB X s) (cloFrom X.env.cells scope.names []) fr ws := by
  have cp := NdefX.Caps.made I.ok hfree hfr hjs
  have ca := NdefX.cells_of I cp
  have cl : ∀ y c, (cloFrom X.env.cells scope.names []).lookup y = some c → ∀ v, s.heap.IsCell c v → (cellB X s).IsCell c v := fun y c e v ⟨o, h1, h2⟩ => ⟨o, cellB_cell I (cp.sub y c e) h1, h2⟩
  have hl : js.length = fr.length := by
    have := congrArg List.length hjs
    rwa [List.length_map, List.length_map] at this
  refine ⟨by rw [← hw.length, hl], fun y c e => ?_, ca.inj, fun i y w e1 e2 => ?_⟩
  · obtain ⟨_, v, z⟩ := ca.all y c e
    exact ⟨v, cl y c e v z⟩
  · obtain ⟨c, h1, h2⟩ := ca.has i y e1
    have get : ∀ {js : List Nat} {ws : List V} {i : Nat}, Paired (fun j w => σ[j]? = some (some w)) js ws → ws[i]? = some w → ∃ j, js[i]? = some j ∧ σ[j]? = some (some w) := by
      intro js ws i h
      induction h generalizing i with
      | nil => intro e; cases e
      | cons h t ih =>
        intro e
        cases i with
        | zero => cases e; exact ⟨_, rfl, h⟩
        | succ i => exact ih e
    obtain ⟨j, j1, j2⟩ := get hw e2
    obtain ⟨u, r, z⟩ := h2 w (by rw [List.getElem?_map, j1]; exact congrArg some (NdefX.slotAt_of j2))
    exact ⟨c, u, h1, r, cl y c h1 _ z⟩
theorem regs_ok (I : Inv X pins σ H s) (R : Rep X.K C ρ σ H) (R0 : Rep X.K C ρ σ H0) {vs : List V} {xs : List D} (hx : Paired (RelE C ρ σ H0 H) vs xs) {Kc : CT → EnL → Prop} : ∀ {rs : List LamR} {kk : Nat} {c : CT} {en : EnL}, k ≤ kk → (∀ r ∈ rs, RegOk X k r) → CtOk c X.prog TB.w X.K X.mg (cellB X s) kk → (∀ q ∈ en, FnsAt C.t (bad C ρ σ) H q.2) → regs rs c en ρ xs Kc →
    ∃ c en, CtOk c X.prog TB.w X.K X.mg (cellB X s) (kk + rs.length) ∧ (∀ q ∈ en, FnsAt C.t (bad C ρ σ) H q.2) ∧ Kc c en
  | [], kk, c, en, _, _, hc, hen, h => ⟨c, en, hc, hen, h⟩
  | r :: rs, kk, c, en, hkk, hr, hc, hen, h => by
    obtain ⟨f, c', hf, caps, hcap, g, hg, hn⟩ := h
    obtain ⟨ws, I1, w1, w2, w3⟩ := caps_ok R hen hcap
    have hF : FnsAt C.t (bad C ρ σ) H ⟨[(f, FR.fm r.L c')], []⟩ := by
      rcases hf with hf | hf
      · obtain ⟨i, hi⟩ := List.mem_iff_getElem?.mp hf
        obtain ⟨v, _, e⟩ := R.val i _ hi
        exact e.2
      · have fnd : ∀ {vs : List V} {xs : List D} {x : D}, Paired (RelE C ρ σ H0 H) vs xs → x ∈ xs → ∃ v, RelE C ρ σ H0 H v x := by
          intro vs xs x h
          induction h with
          | nil => intro e; cases e
          | cons h t ih => intro e; cases e with
            | head => exact ⟨_, h⟩
            | tail _ e => exact ih e
        obtain ⟨v, e⟩ := fnd hx hf
        exact e.2
    obtain ⟨scope, fr, h1, h2, h3, h4⟩ := (hr r List.mem_cons_self).ex
    have hI : FnsAt C.t (bad C ρ σ) H ⟨(f, FR.fm r.L c') :: I1.fns, I1.pn⟩ := ⟨fun q hq => (List.mem_cons.mp hq).elim (fun e => hF.fn q (by rw [e]; exact List.mem_singleton.mpr rfl)) (w3.fn q), w3.pn⟩
    have lc : caps.length = r.js.length := by rw [← w2.length, ← w1.length]
    have Fc := h4 kk (cellB X s) c f c' ws caps ⟨(f, FR.fm r.L c') :: I1.fns, I1.pn⟩ g hkk (cellB_sub I) hc List.mem_cons_self (cellsB_of I h1 h2 h3 w1)
      (pmap2 (fun w z q => by
        cases z with
        | p d => exact q
        | fv f' I' => exact ⟨q.1, fun y hy => List.mem_cons_of_mem _ (q.2.1 y hy), q.2.2⟩
        | _ => exact q.elim) w2) lc (fun ds Q z => (hg ds Q z).1) (fun ds Q z => (hg ds Q z).2)
    have := regs_ok I R R0 hx (kk := kk + 1) (by omega) (fun r' hr' => hr r' (List.mem_cons_of_mem _ hr')) ((hc.mono (Nat.le_succ _)).add Fc) (fun q hq => (List.mem_cons.mp hq).elim (fun e => by rw [e]; exact hI) (hen q)) (hn _)
    rw [show kk + 1 + rs.length = kk + (r :: rs).length by rw [List.length_cons]; omega] at this
    exact this
end
section
variable [FR] {X : Cx} {n k k0 kc : Nat} {ps : List Str} {rs : List LamR} {dd : List PyData} {S : CT → SpD} {x : Str} {p pos : Pos} {e : Expr} {es : List Expr} {t : TAD}
theorem fe_callC (gd : X.A.guards = some []) (hw : X.w = TB.w) (hfn : ∀ y, X.fn y = true) (hnm : CellsNm X) (hC : ∀ base c, Sub X.base base → CtOk c X.prog TB.w X.K X.mg base kc → CalD X.prog X.w X.K X.mg base k x ps dd (spU X.K n (S c))) (hR : ∀ r ∈ rs, RegOk X k0 r) (hk0 : k0 + rs.length ≤ kc) (hr : Room k X.A) (hg : Gl X x)
    (ha : FA X (e :: es) t) (hdb : (x == ("__debug__" : Str)) = false := by decide)
    (he : starEach (e :: es) X.env = (false, eval e X.env) :: starEach es X.env := by rfl)
    (hpl : (backTo pos (starEach es X.env)).any (·.1) = false := by rfl) :
    FE X (.Call (.Name x p) (e :: es) [] pos) (dCallC n rs dd S t) := by
  refine ⟨fun pins s σ H Q I h => ?_⟩
  obtain ⟨C, ρ, Qd, R, h, post⟩ := h
  obtain ⟨f, fd0, dvs0, ds0, F0, hm, hk, hv0, hd0, hb0⟩ := (hC X.base ctNone (Sub.refl _) ctNone_ok).ex
  refine wpAny_Call_Name_kw (ld_glob I hg hm ?_ hdb)
  refine PySem.W.callWith_K (h₀ := X.base) I.ok.mod.kin hk
    (thn (ha.run pos pins s σ H (fun vs H1 => Rep X.K C ρ σ H1 ∧ Kq C.t H H1 ∧ ∃ xs, Paired (RelE C ρ σ H H1) vs xs ∧ regs rs ctNone [] ρ xs fun c en => ∃ ys, argAllE en xs = some ys ∧ (ys ++ dd.map D.p).length = n ∧ S c (ys ++ dd.map D.p) Qd) I ⟨C, ρ, _, R, h, fun vs H1 xs R1 k1 e q => ⟨R1, k1, xs, e, q⟩⟩) ?_) he hpl
  rintro us s1 ⟨vs, H1, I1, r, R1, k1, xs, hx, hq⟩
  refine ⟨I1.kIn, ?_⟩
  obtain ⟨c, en, hc, hen, ys, y1, y2, y3⟩ := regs_ok I1 R1 R hx (Nat.le_refl k0) hR ctNone_ok (fun q hq => by cases hq) hq
  obtain ⟨f', fd, dvs, ds, F, hm', hk', hv, hd, hb⟩ := (hC (cellB X s1) c (cellB_sub I1) (hc.mono hk0)).ex
  rw [hm] at hm'
  cases hm'
  have hsp : spU X.K n (S c) (vs ++ dvs) H1 Q E0 := by
    refine ⟨C.t, bad C ρ σ, ys ++ dd.map D.p, _, R1.tp, R1.tab, R1.badT, .inl R1.s2, fun p hp => .inl (R1.s3 p hp), fun b hb => R1.badL hb, pair_app2 (argsE_ok R hen hx y1) (dd_rel hv), y2, y3, fun v H2 x T tb k r q => post v H2 x (R1.step k T tb) (k1.trans k) ?_ q⟩
    cases x with
    | p d => exact r
    | own ds => exact r.elim
    | nw ds =>
      obtain ⟨p, us, rfl, h1, h2, h3, h4⟩ := r
      exact ⟨p, us, rfl, k1.free (R1.t1 h1) h1, h2, h3, h4⟩
    | _ => exact r.elim
  have r2 := Vals.append r hd
  have hl : (us ++ ds).length = ps.length := by
    rw [← r2.length]
    exact F.ln _ _ _ _ hsp
  refine wpAny_call (codeAny_mono (F.go X.A X.stack s1 H1 ⟨us, []⟩ (us ++ ds) (vs ++ dvs) Q E0 hr gd (cellB_env I1 hfn hnm) (hb s1 us I1.kIn hl) r2 hsp) fun rr s2 hq => ?_)
  cases rr with
  | error e => exact (show False from hq).elim
  | ok fl =>
    cases fl with
    | ret u => exact I1.after hq
    | next => exact False.elim hq
    | brk => exact False.elim hq
    | cont => exact False.elim hq
end
end My
namespace My
open PySem PySem.Spec PyProof.Rows L2
theorem nd_lookup : ∀ {l : List (Str × Addr)} {p : Str × Addr}, (l.map (·.1)).Nodup → p ∈ l → l.lookup p.1 = some p.2
  | [], _, _, h => by cases h
  | (x, a) :: l, p, nd, h => by
    rw [List.map_cons, List.nodup_cons] at nd
    rcases List.mem_cons.mp h with rfl | h
    · rw [List.lookup_cons, beq_self_eq_true]
    · have ne : (p.1 == x) = false := by
        rw [beq_eq_false_iff_ne]
        intro z
        exact nd.1 (z ▸ List.mem_map.mpr ⟨p, h, rfl⟩)
      rw [List.lookup_cons, ne]
      exact nd_lookup nd.2 h
theorem cellsNm_of {X : Cx} {sc : Scope} {n : Nat} (e : X.env.cells = cellsFrom n sc.names []) (h : ((cellsFrom 0 sc.names []).map (·.1)).Nodup) : CellsNm X := fun p hp => by
  refine ⟨p.1, nd_lookup ?_ hp⟩
  rw [e, PyProof.Rows.cellsFrom_names sc.names n 0 [] [] rfl]
  exact h
/-- a def of the text whose code object has a table -/
structure DfM (K : PySem.W.Frag) (mg : Str → Option Value) (x : Str) (st : Stmt) (ps : List Str) (c : Addr) : Prop where
  ex : ∃ (f : Addr) (od an : Option Addr) (sl : Array (Option Value)) (oc kV dc pm ct : Value), K.lookup f = some ⟨oc, od, .func (PySem.W.fnOf x x (defArgs st) (defBody st) (defScope st) .none kV dc pm an (.ref c) ct), sl⟩ ∧
    PySem.W.codeIn K (.ref c) x = true ∧ mg x = some (.ref f) ∧ PySem.W.keepIn K (.ref f) = true ∧ Binds K (PySem.W.fnOf x x (defArgs st) (defBody st) (defScope st) .none kV dc pm an (.ref c) ct) ps []
theorem dfM_mk {K : PySem.W.Frag} {h : Heap} {mg : Str → Option Value} {x : Str} {st : Stmt} {ps : List Str} {f c : Addr}
    {od an : Option Addr} {sl : Array (Option Value)} {oc kV dc pm cd ct : Value} (X : K.In h) (G : h.Ns mainGlobals mg)
    (a : PySem.W.nsIn K mainGlobals x = some (some (.ref f)))
    (l : K.lookup f = some ⟨oc, od, .func (PySem.W.fnOf x x (defArgs st) (defBody st) (defScope st) .none kV dc pm an cd ct), sl⟩)
    (hcd : cd = .ref c) (cc : PySem.W.codeIn K cd x = true) (k : PySem.W.keepIn K (.ref f) = true)
    (hb : ∀ (kV doc pm : Value) (an : Option Addr) (cdv ct : Value) (us : List Value), us.length = ps.length →
      bindArgs (PySem.W.fnOf x x (defArgs st) (defBody st) (defScope st) .none kV doc pm an cdv ct) ⟨us, []⟩ = pure (ps.zip us)) :
    DfM K mg x st ps c := by
  subst hcd
  exact ⟨f, od, an, sl, oc, kV, dc, pm, ct, l, cc, PySem.W.mg_of X G a, k, (fun_mk l cc k).binds hb⟩
variable [TB]
theorem DfM.calU {P : Program} {K : PySem.W.Frag} {mg : Str → Option Value} {base : Heap} {x : Str} {st : Stmt} {N ps : List Str} {c : Addr} {k n m : Nat} {S : SpD} {t : FR → TSD} (D : DfM K mg x st ps c) (sc : FnScope N ps (defScope st))
    (hn : ps.length = n) (hN : N.length = n + m) (hs : ∀ (F : FR) xs Qd, S xs Qd → t F (endsOf Qd) (iniR xs m))
    (hb : ∀ (f : Addr) (A : Around) (o : List Env) (s : Shared) (H : Hp) (E : XK),
      Room k (A.deeper (envOfC x (defScope st) s.heap.objs.size f (.ref c))) → A.guards = some [] →
      ∃ F : FR, FSs (cxOf CX0 P TB.w K mg base N x (defScope st) f (.ref c) A o s H E).nox (defBody st) (t F)) :
    CalG P TB.w K mg base (k + 1) x ps (spU K n S) := by
  obtain ⟨f, od, an, sl, oc, kV, dc, pm, ct, lk, hcd, hm, hk, hbn⟩ := D.ex
  refine ⟨f, _, ⟨spU_len hn, fun A o s H ar us vs Q E hr hgd e0 hbd r hsp => ?_⟩, hm, hk, hbn⟩
  have hl := spU_len hn _ _ _ _ hsp
  have KX : K.In s.heap := e0.mod.kin.keeps fun b ob e => (e0.bs b ob e).1
  have lim : s.heap.NoLimit := e0.mod.nolimit.keeps fun b ob e => (e0.bs b ob e).1
  have hkd : ∀ y ∈ ps.zip us, (defScope st).names.lookup y.1 = some .local ∨
      ((defScope st).names.lookup y.1 = some .cell ∧
        ((cellsFrom (s.heap.objs.size + 1) (defScope st).names []).lookup y.1).isSome = true) := by
    rintro ⟨n, v⟩ hy
    have hp := sc.par n (List.of_mem_zip hy).1
    rcases hp with q | q
    · left; exact q
    · right; exact ⟨q, PySem.W.cellsFrom_some _ _ _ (.inl q)⟩
  refine codeAny_call_function hr.depth (KX _ _ lk) rfl sc.co sc.gen rfl
    (PySem.W.codeRec_of KX hcd) (hbd _ _ _ _ ?_)
  refine wpAny_newFunctionEnv_cells sc.kind hkd
    fun env he s1 x => ?_
  subst he
  refine ⟨lim.keeps x.toInCall.keep, codeAny_func ?_⟩
  obtain ⟨F, hF⟩ := hb f A o s H E (hr.deeper _) hgd
  obtain ⟨t', h1, h2⟩ := fn_body hF hN (hs F) hsp
  have I := inv_start (CX := CX0) (E := E) sc hr.hd e0 hl r x
  refine wpAny_mono (h1.nox.run [] s1 (start N vs) H _ I h2)
    (fun fl s2 h2 => ?_) fun e s2 h2 => h2
  cases fl with
  | ret u =>
    obtain ⟨v, σ2, H2, J, rv, q⟩ := h2
    exact ⟨v, H2, J.os, J.bare, J.base, J.hok, rv, q⟩
  | next =>
    obtain ⟨σ2, H2, J, q⟩ := h2
    exact ⟨.non, H2, J.os, J.bare, J.base, J.hok, rfl, q⟩
  | brk =>
    obtain ⟨_, _, _, q⟩ := h2
    exact q.elim
  | cont =>
    obtain ⟨_, _, _, q⟩ := h2
    exact q.elim
end My
namespace My
open PySem PySem.Spec PyProof.Rows L2
def stE : Stmt → PySem.Expr
  | .Assign _ v _ => v
  | .Return (some v) _ => v
  | .Expr v _ => v
  | .If t _ _ _ => t
  | _ => .Constant .none 0 ⟨0, 0, 0, 0⟩
def kidE : PySem.Expr → Nat → PySem.Expr
  | .Call _ as _ _, n => as.getD n (.Constant .none 0 ⟨0, 0, 0, 0⟩)
  | .Subscript v _ _, _ => v
  | .Tuple es _ _, n => es.getD n (.Constant .none 0 ⟨0, 0, 0, 0⟩)
  | e, _ => e
def lamA : PySem.Expr → Arguments
  | .Lambda a _ _ _ => a
  | _ => ⟨[], [], none, [], [], none, []⟩
def lamB : PySem.Expr → PySem.Expr
  | .Lambda _ b _ _ => b
  | e => e
def lamSc : PySem.Expr → Scope
  | .Lambda _ _ s _ => s
  | _ => ⟨.function, [], false, false, []⟩
variable [TB]
abbrev lamFF (env : Env) (params : Arguments) (body : PySem.Expr) (scope : Scope) (c' : Addr) : FF := ⟨lamφ (env.qual ++ "<lambda>") params body scope (cloFrom env.cells scope.names []) c', env.qual ++ "<lambda>", c'⟩
section
variable [FR] {X : Cx} {k L ar m : Nat} {js : List Nat} {t : CT → TSD} {ps fr N : List Str} {params : Arguments} {scope : Scope}
theorem regOk_lam {body : PySem.Expr} {te : CT → TED} (hw : X.w = TB.w) (hfree : NdefX.ndefB X.env.scope scope fr = true) (hjs : js.map (fun j => X.N[j]?) = fr.map some) (hF : ∀ c', FR.fm L c' = lamFF X.env params body scope c') (S : NdefX.NScope N ps fr scope) (hps : ps.length = ar) (hN : N.length = ar + js.length + m)
    (hb : ∀ (qual : Str) (cl : List (Str × Addr)) (c' : Addr) (pm ctv : Value) (us : List Value), us.length = ps.length → bindArgs (PySem.W.kla_fn "<lambda>" qual params body scope cl pm (.ref c') ctv) ⟨us, []⟩ = pure (ps.zip us)) (ht : ∀ c, t c = dRetU (te c))
    (hbody : ∀ (kk : Nat) (base : Heap) (c : CT), k ≤ kk → Sub X.base base → CtOk c X.prog TB.w X.K X.mg base kk → ∀ (c' f : Addr) (A : Around) (outer : List Env) (s : Shared) (H : Hp) (E : XK), Room kk (A.deeper (NdefX.envF (nfOf "<lambda>" (X.env.qual ++ "<lambda>") params scope (cloFrom X.env.cells scope.names []) c') f s.heap.objs.size)) → A.guards = some [] →
      FE (NdefX.ncx CX0 X.prog TB.w X.K X.mg base N (nfOf "<lambda>" (X.env.qual ++ "<lambda>") params scope (cloFrom X.env.cells scope.names []) c') f A outer s H E) body (te c)) : RegOk X k ⟨L, js, m, ar, t⟩ := by
  refine ⟨scope, fr, NdefX.ndef_free hfree, NdefX.ndef_fr hfree, hjs, fun kk base c f c' ws caps I g hk hs hc hI hC hcap hcl hn pf => ?_⟩
  have hI : (f, FR.fm L c') ∈ I.fns := hI
  rw [hF c'] at hI
  have hcl : caps.length = js.length := hcl
  refine fnC_lam (n := ar) (m := m) S hps (by rw [hcl]; exact hN) (fun pm ctv us hl => hb _ _ _ pm ctv us hl) hI hC hcap hn (fun A outer s H E hr gd => hbody kk base c hk hs hc c' f A outer s H E hr gd) fun ds Qd h => ?_
  have := pf ds Qd h
  rw [← ht c]
  exact this
theorem reg_nil : ∀ r ∈ ([] : List LamR), RegOk X k r := fun r h => by cases h
theorem reg_cons {r : LamR} {rs : List LamR} (h : RegOk X k r) (hs : ∀ r ∈ rs, RegOk X k r) : ∀ r' ∈ r :: rs, RegOk X k r' := fun r' hr => (List.mem_cons.mp hr).elim (fun e => e ▸ h) (hs r')
end
structure DfD (K : PySem.W.Frag) (mg : Str → Option Value) (x kw : Str) (st : Stmt) (ps : List Str) (n : Nat) (d : PyData) : Prop where
  ex : ∃ (f : Addr) (fd : FuncData) (v : V) (u : Value), Fun K x x st f fd ∧ mg x = some (.ref f) ∧ flV d = some v ∧ RelV v u ∧ Binds K fd ps [u] ∧ KBn K fd ps n [kw] (fun us ws => us ++ ws) (fun vs zs => vs ++ zs)
theorem dfD_mk {K : PySem.W.Frag} {h : Heap} {mg : Str → Option Value} {x kw : Str} {st : Stmt} {ps : List Str} {n : Nat} {f D : Addr} {d : PyData} {v : V} {u : Value}
    {od an : Option Addr} {sl : Array (Option Value)} {oc dc pm cd ct : Value} (X : K.In h) (G : h.Ns mainGlobals mg)
    (e : PySem.W.nsIn K mainGlobals x = some (some (.ref f)))
    (l : K.lookup f = some ⟨oc, od, .func (PySem.W.fnOf x x (defArgs st) (defBody st) (defScope st) .none (.ref D) dc pm an cd ct), sl⟩)
    (c : PySem.W.codeIn K cd x = true) (k : PySem.W.keepIn K (.ref f) = true) (kd : PySem.W.nsIn K D kw = some (some u)) (hv : flV d = some v) (hu : RelV v u) (hn : n + 1 = ps.length)
    (h0 : ∀ (D : Addr) (doc pm : Value) (an : Option Addr) (cdv ct : Value) (us ks : List Value), us.length = n → ks.length = 1 →
      KwChain D ([kw].zip ks) (bindArgs (PySem.W.fnOf x x (defArgs st) (defBody st) (defScope st) .none (.ref D) doc pm an cdv ct) ⟨us, []⟩) (ps.zip (us ++ ks)))
    (h1 : ∀ (kV doc pm : Value) (an : Option Addr) (cdv ct : Value) (us ws : List Value), us.length = n → ws.length = 1 →
      bindArgs (PySem.W.fnOf x x (defArgs st) (defBody st) (defScope st) .none kV doc pm an cdv ct) ⟨us, [kw].zip ws⟩ = pure (ps.zip (us ++ ws))) :
    DfD K mg x kw st ps n d := by
  refine ⟨f, _, v, u, fun_mk l c k, PySem.W.mg_of X G e, hv, hu, fun s us X hlen => ?_, ⟨fun s us ws _ l1 l2 => .of_eq (h1 _ _ _ _ _ _ us ws l1 l2), fun r1 r2 => r1.append r2⟩⟩
  have l2 : us.length = n := by
    rw [List.length_append, List.length_singleton] at hlen
    omega
  refine BindsTo.of_looks fun M => KwChain.looks X (fun q hq => ?_) (h0 D dc pm an cd ct us [u] l2 rfl)
  rw [show q = (kw, u) by simpa using hq]
  exact kd
theorem DfD.calU {P : Program} {w : World} {K : PySem.W.Frag} {mg : Str → Option Value} {base : Heap} {x kw : Str} {st : Stmt} {N ps : List Str} {n0 k n m : Nat} {d : PyData} {S : SpD} {t : TSD} (D : DfD K mg x kw st ps n0 d) (sc : FnScope N ps (defScope st))
    (hn : ps.length = n) (hN : N.length = n + m) (hs : ∀ xs Qd, S xs Qd → t (endsOf Qd) (iniR xs m))
    (hb : ∀ (f : Addr) (cdv : Value) (A : Around) (o : List Env) (s : Shared) (H : Hp) (E : XK),
      Room k (A.deeper (envOfC x (defScope st) s.heap.objs.size f cdv)) → A.guards = some [] →
      FSs (cxOf CX0 P w K mg base N x (defScope st) f cdv A o s H E).nox (defBody st) t) :
    CalD P w K mg base (k + 1) x ps [d] (spU K n S) := by
  obtain ⟨f, fd, v, u, F, hm, hv, hu, hbn, _⟩ := D.ex
  refine ⟨f, fd, [v], [u], okG F sc (spU_len hn) (fun cdv A o s H vs Q E hr hg h => ?_), hm, F.kp, by rw [List.map_cons, hv]; rfl, .cons hu .nil, hbn⟩
  obtain ⟨t', h1, h2⟩ := fn_body (hb f cdv A o s H E hr hg) hN hs h
  exact ⟨t', h1.nox, h2⟩
end My
namespace My
open PySem PySem.Spec PyProof.Rows L2
theorem uniq_fst {α β : Type} {T : List (α × β)} (h : (T.map (·.1)).Nodup) : ∀ p ∈ T, ∀ q ∈ T, p.1 = q.1 → p = q := by
  induction T with
  | nil => intro p hp; cases hp
  | cons a T ih =>
    have h2 := List.nodup_cons.mp h
    intro p hp q hq e
    rcases List.mem_cons.mp hp with rfl | hp
    · rcases List.mem_cons.mp hq with rfl | hq
      · rfl
      · exact absurd (List.mem_map.mpr ⟨q, hq, e.symm⟩) h2.1
    · rcases List.mem_cons.mp hq with z | hq
      · exact (h2.1 (by show a.1 ∈ T.map (·.1); rw [← z, ← e]; exact List.mem_map_of_mem (f := (·.1)) hp)).elim
      · exact ih h2.2 p hp q hq e
/-- the words of a code object, its table -/
structure CodeW (vs : Array Value) (c P : Addr) : Prop where
  tab : vs[11]? = some (.ref P)
  tabD : vs.getD 11 .none = .ref P
  file : ∃ f t, vs.getD 18 .none = .str f t
  flags : ∃ f t, vs.getD 7 .none = .int f t
  inF : ∃ b, vs.getD 9 .none = .bool b
  txt : ∃ n t, vs.getD 10 .none = .int n t
  ne : c ≠ P
theorem codeHd_mk {K : PySem.W.Frag} {h : Heap} {c P : Addr} {od : Option Addr} {vs : Array Value} {sl : Array (Option Value)} (X : K.In h) (l : K.lookup c = some ⟨.type "code", od, .fields vs, sl⟩) (W : CodeW vs c P) : PySem.W.CodeHd h c P := by
  obtain ⟨f, tf, e1⟩ := W.file
  obtain ⟨fl, tg, e2⟩ := W.flags
  obtain ⟨b, e3⟩ := W.inF
  obtain ⟨n, tt, e4⟩ := W.txt
  exact ⟨_, vs, f, tf, fl, tg, b, n, tt, X _ _ l, rfl, rfl, W.tab, W.tabD, e1, e2, e3, e4, W.ne⟩
theorem callGT {P : Program} {w : World} {K : PySem.W.Frag} {mg mb : Str → Option Value} {k : Nat} {fa a : Addr} {cs : List (Addr × Addr)}
    {fd : FuncData} {x : Str} {sp : Sp} {s1 : Shared} {vs : List Value} {ns : List Int}
    (KX : K.In s1.heap) (hns : s1.heap.Ns mainGlobals mg) (hb : s1.heap.Ns builtinsNs mb)
    (hbb : ∀ y : Str, y ≠ "__name__" → mb y = bootBuiltins y) (hlim : s1.heap.NoLimit) (hg : s1.gens = #[])
    (tE : ∀ p ∈ cs, s1.heap.get? p.2 = some (PySem.W.tabObj #[])) (tK : ∀ p ∈ cs, K.lookup p.2 = none) (tC : ∀ p ∈ cs, PySem.W.CodeHd s1.heap p.1 p.2)
    (hm : ∃ (bm : Addr) (ob : Obj), mg "__builtins__" = some (.ref bm) ∧ bm ≠ builtinsNs ∧ s1.heap.get? bm = some ob ∧ ob.cls = .type "module" ∧ ob.dict = some builtinsNs ∧ ob.data = .plain)
    (ha : s1.heap.get? a = some { cls := .type "list", data := .seq vs.toArray }) (hi : IntsAre vs ns)
    (hl : ns.length ≤ sizeLine) (hr : Room k callerA)
    (F : ∀ base : Heap, K.In base → base.Ns mainGlobals mg → (∀ p ∈ cs, LamX.TabB base mg p.1 p.2) → FnG P w K mg base CX0 k fa fd [x] sp)
    (hbind : ∀ (s : Shared) (u : Value), BindsTo s fd ⟨[u], []⟩ [(x, u)])
    (hsp : ∀ H : Hp, (∀ p ∈ cs, H p.2 = some (.tbl #[])) → SqL K H a (ns.map V.int) → sp [.ref a] H (fun v _ => v = .bl true) fun _ _ _ => False) :
    codeAny (model P w) callerA (.call (.ref fa) ⟨[.ref a], []⟩)
      (fun r t => r = .ok (.ret (.bool true)) ∧ OldK s1.heap t.heap ∧ t.os = s1.os ∧ AllBare t.gens) s1 := by
  have rv := vals_ints hi
  have lv := hi.length
  -- the places of the tables
  obtain ⟨TS, hTS⟩ : ∃ TS : List Addr, TS = cs.map (·.2) := ⟨_, rfl⟩
  have inT : ∀ p ∈ cs, p.2 ∈ TS := fun p hp => by rw [hTS]; exact List.mem_map.mpr ⟨p, hp, rfl⟩
  have ofT : ∀ b ∈ TS, ∃ p ∈ cs, p.2 = b := fun b z => by rw [hTS] at z; obtain ⟨p, hp, e⟩ := List.mem_map.mp z; exact ⟨p, hp, e⟩
  have atT : ∀ b ∈ TS, s1.heap.get? b = some (PySem.W.tabObj #[]) := fun b z => by obtain ⟨p, hp, rfl⟩ := ofT b z; exact tE p hp
  have aT : a ∉ TS := fun z => by
    have q := atT a z
    rw [ha] at q
    cases (congrArg Obj.data (Option.some.inj q) : Data.seq vs.toArray _ = Data.fields #[])
  have core : ∀ H : Hp, (∀ b ∈ TS, H b = some (.tbl #[])) → (∀ b, b ∉ TS → H b = none ∨ ∃ o xs, H b = some (.frz o (.lst xs))) → SqL K H a (ns.map V.int) → HOk P w H s1.heap → (∀ b, H b ≠ none → b = a ∨ b ∈ TS) →
      (H a ≠ none → K.lookup a = none) → codeAny (model P w) callerA (.call (.ref fa) ⟨[.ref a], []⟩)
      (fun r t => r = .ok (.ret (.bool true)) ∧ OldK s1.heap t.heap ∧ t.os = s1.os ∧ AllBare t.gens) s1 := by
    intro H hT hO hS hok hA hK
    have bo : ∀ {b : Addr} {o : Obj}, s1.heap.get? b = some o → H b = none → (hidT s1.heap H).get? b = some o :=
      fun e n => hidT_get e n
    -- what is neither the script nor a table is not tracked
    have un : ∀ {b : Addr} {o : Obj}, s1.heap.get? b = some o → o ≠ { cls := .type "list", data := .seq vs.toArray } → o ≠ PySem.W.tabObj #[] → H b = none := by
      intro b o e n1 n2
      by_cases q : H b = none
      · exact q
      · rcases hA b q with z | z
        · rw [z, ha] at e
          exact (n1 (Option.some.inj e).symm).elim
        · rw [atT b z] at e
          exact (n2 (Option.some.inj e).symm).elim
    have noA : ∀ {b : Addr} {o : Obj} {es : Array DictEntry} {ep : Nat}, s1.heap.get? b = some o →
        o.data = .dict es ep → H b = none := fun e d => un e (fun z => by rw [z] at d; cases d) fun z => by rw [z] at d; cases d
    have nsK : ∀ {b : Addr} {m : Str → Option Value}, s1.heap.Ns b m → (hidT s1.heap H).Ns b m := by
      rintro b m ⟨o, es, ep, e, d, r⟩
      exact ⟨o, es, ep, bo e (noA e d), d, r⟩
    have kb : K.In (hidT s1.heap H) := by
      intro b o e
      refine bo (KX b o e) ?_
      by_cases q : H b = none
      · exact q
      · rcases hA b q with z | z
        · rw [z] at e q
          rw [hK q] at e
          cases e
        · obtain ⟨p, hp, rfl⟩ := ofT b z
          rw [tK p hp] at e
          cases e
    have hM : Mod K mg (hidT s1.heap H) := by
      obtain ⟨mc, h1, h2⟩ := hlim
      exact ⟨kb, nsK hns, ⟨mb, nsK hb, hbb⟩, ⟨mc, nsK h1, h2⟩⟩
    have tB : ∀ p ∈ cs, LamX.TabB (hidT s1.heap H) mg p.1 p.2 := by
      intro p hp
      refine ⟨?_, ?_, fun z => ?_⟩
      · obtain ⟨o, us, file, tf, flags, tg, inF, text, tt, e1, r1, r2, r3, rest⟩ := tC p hp
        refine ⟨o, us, file, tf, flags, tg, inF, text, tt, bo e1 (un e1 (fun z => ?_) fun z => ?_), r1, r2, r3, rest⟩
        · rw [z] at r2; cases r2
        · rw [z] at r2
          cases r2
          simp at r3
      · obtain ⟨bm, ob, b1, b2, b3, b4, b5, b6⟩ := hm
        refine ⟨bm, ob, b1, b2, fun q => ?_, fun q => ?_, bo b3 (un b3 (fun z => ?_) fun z => ?_), b4, b5, b6⟩
        · obtain ⟨o, es, ep, e, hd, _⟩ := hns
          rw [q, e] at b3
          cases b3
          rw [hd] at b6
          cases b6
        · rw [q, tE p hp] at b3
          cases b3
          cases b6
        · rw [z] at b6; cases b6
        · rw [z] at b6; cases b6
      · obtain ⟨o, es, ep, e, hd, _⟩ := hns
        rw [z, tE p hp] at e
        cases e
        cases hd
    have e0 : Env0 P w K mg (hidT s1.heap H) callerA [] s1 H :=
      ⟨rfl, hM, fun b o e => of_hidT e, Nat.le_of_eq (hidT_size _ _), trivial,
        fun b z => absurd (show b ∈ ([] : List Addr) from z) (by simp), hok, .of_eq hg⟩
    refine codeAny_mono ((F _ kb (nsK hns) tB).go callerA [] s1 H ⟨[.ref a], []⟩ [.ref a] [.ref a] _ _ hr rfl e0
      (hbind s1 (.ref a)) (.cons rfl .nil) (hsp H (fun p hp => hT _ (inT p hp)) hS)) fun r t h => ?_
    cases r with
    | error e => exact h.elim
    | ok fl =>
      cases fl with
      | next => exact h.elim
      | brk => exact h.elim
      | cont => exact h.elim
      | ret u =>
        obtain ⟨v, H2, os, bare, un2, hok2, r2, q⟩ := h
        have q2 : v = .bl true := q
        subst q2
        obtain rfl : u = Value.bool true := r2
        have stay : ∀ b o, b ∉ TS → s1.heap.get? b = some o → t.heap.get? b = some o := fun b o nb e => by
          rcases hO b nb with z | ⟨ob, xs, z⟩
          · exact un2.keep b o e z (fun y => absurd (show b ∈ ([] : List Addr) from y) (by simp)) (by simp)
          · have e1 := (hok b _ z).1
            have e2 := (hok2 b _ (un2.frzs b ob _ z)).1
            rw [e] at e1
            cases e1
            exact e2
        have grow : ∀ b ∈ TS, ∃ more : Array Value, t.heap.get? b = some (PySem.W.tabObj more) := fun b hb => by
          obtain ⟨more, z⟩ := un2.tbls b #[] (hT b hb)
          exact ⟨_, hok2 b _ z⟩
        refine ⟨rfl, ⟨fun b o e => ?_, fun b o e => ?_⟩, os, bare⟩
        · by_cases hb : b ∈ TS
          · obtain ⟨more, hm⟩ := grow b hb
            obtain ⟨p, hp, rfl⟩ := ofT b hb
            rw [tE p hp] at e
            cases e
            exact .inr (.inl ⟨((tC p hp).tab (tE p hp)).isCodeTable, rfl, #[], more, rfl, by rw [Array.empty_append]; exact hm⟩)
          · exact .inl (stay b o hb e)
        · by_cases hb : b ∈ TS
          · obtain ⟨more, hm⟩ := grow b hb
            exact ⟨_, hm⟩
          · exact ⟨o, stay b o hb e⟩
  by_cases hk : K.lookup a = none
  · obtain ⟨H, hH⟩ : ∃ H : Hp, H = fun b => if b = a then some (.frz { cls := .type "list", data := .seq vs.toArray }
        (.lst (ns.map V.int))) else if b ∈ TS then some (.tbl #[]) else none := ⟨_, rfl⟩
    have h1 : H a = some (.frz { cls := .type "list", data := .seq vs.toArray } (.lst (ns.map V.int))) := by rw [hH]; exact if_pos rfl
    have h2 : ∀ b, b ≠ a → b ∈ TS → H b = some (.tbl #[]) := fun b n z => by rw [hH]; exact (if_neg n).trans (if_pos z)
    have h3 : ∀ b, b ≠ a → b ∉ TS → H b = none := fun b n z => by rw [hH]; exact (if_neg n).trans (if_neg z)
    have nT : ∀ b ∈ TS, b ≠ a := fun b z e => aT (e ▸ z)
    refine core H (fun b z => h2 b (nT b z) z) (fun b nb => ?_) (.inl (.inr ⟨_, h1⟩)) (fun b u z => ?_) (fun b z => ?_) fun _ => hk
    · by_cases h : b = a
      · exact .inr ⟨_, _, by rw [h]; exact h1⟩
      · exact .inl (h3 b h nb)
    · by_cases h : b = a
      · rw [h, h1] at z
        cases z
        rw [h]
        exact ⟨ha, by rw [List.length_map]; exact hl, vs, _, rv, ha⟩
      · by_cases hb : b ∈ TS
        · rw [h2 b h hb] at z
          cases z
          exact atT b hb
        · rw [h3 b h hb] at z; cases z
    · by_cases h : b = a
      · exact .inl h
      · by_cases hb : b ∈ TS
        · exact .inr hb
        · exact absurd (h3 b h hb) z
  · obtain ⟨o, ho⟩ := Option.ne_none_iff_exists'.mp hk
    have e := KX a o ho
    rw [ha] at e
    cases e
    refine core (fun b => if b ∈ TS then some (.tbl #[]) else none) (fun b z => if_pos z) (fun b nb => .inl (if_neg nb)) (.inr ⟨_, vs.toArray, _, ho, rfl, rfl, rfl, ?_, ?_⟩)
      (fun b u z => ?_) (fun b z => ?_) fun z => absurd (show (if a ∈ TS then some (HO.tbl #[]) else none) = none from if_neg aT) z
    · rw [List.size_toArray, lv]; exact hl
    · simpa using rv
    · by_cases hb : b ∈ TS
      · cases (if_pos hb).symm.trans z
        exact atT b hb
      · cases (if_neg hb).symm.trans z
    · by_cases hb : b ∈ TS
      · exact .inr hb
      · exact absurd (if_neg hb) z
/-- the end, where tables grow -/
theorem walkGT {l : PySem.W.OpenLaw} {n k : Nat} {q : Program} {loose : List Str} {XP : (Str → Option Value) → Heap → Prop}
    {YP : World → Heap → Prop} {d : DefRec} {K : Params → PySem.W.Frag} {x : Str} {ts : List Addr}
    (hn : l.most = some n) (hn2 : n ≤ sizeLine) (h63 : n ≤ 63) (hdf : d.params.defaults = []) (hr : Room k callerA)
    (hY : ∀ (w : World) (h : Heap), YP w h → (K w.params).In h ∧ ∀ P ∈ ts, h.get? P = some (PySem.W.tabObj #[])) (tK : ∀ w : World, (ts.all fun P => ((K w.params).lookup P).isNone) = true)
    (F : ∀ (w : World) (mg : Str → Option Value) (fa : Addr) (h : Heap), (K w.params).In h → h.Ns mainGlobals mg →
      mg d.name = some (.ref fa) → ∃ (fd : FuncData) (cs : List (Addr × Addr)) (T : TB), TB.w = w ∧ (∀ p ∈ cs, p.2 ∈ ts) ∧ (∀ p ∈ cs, PySem.W.CodeHd h p.1 p.2) ∧ (∀ p ∈ T.T, ∃ c, (c, p.1) ∈ cs) ∧
        (∀ (s : Shared) (u : Value), BindsTo s fd ⟨[u], []⟩ [(x, u)]) ∧ ∀ base : Heap, (K w.params).In base →
          base.Ns mainGlobals mg → (∀ p ∈ cs, LamX.TabB base mg p.1 p.2) → FnG l.prog w (K w.params) mg base CX0 k fa fd [x] (spLawT (K w.params))) :
    PySem.W.WalkO q loose XP YP l.row.toRowW d [] (fun f vs => PySem.call f vs) := by
  refine Att.attach_call hn hdf ?_
  intro w s0 s1 mg mb fa o pm cd doc a vs ns G Y ho hd hcd hmg hobj hints hlen hg
  obtain ⟨KX, hT⟩ := hY w _ Y
  obtain ⟨fd, cs, T, hTw, h1, h2, h3, hb, hF⟩ := F w mg fa _ KX G.T.g hmg
  have hk := List.all_eq_true.mp (tK w)
  refine callGT KX G.T.g G.T.b G.T.builtins G.T.nolimit hg (fun p hp => hT _ (h1 p hp)) (fun p hp => by simpa using hk _ (h1 p hp)) h2 G.T.bmain hobj hints (Nat.le_trans hlen hn2) hr hF hb
    fun H hH hS => ⟨a, ns, rfl, hS, Nat.le_trans hlen h63, fun p hp => ?_, fun _ => rfl⟩
  obtain ⟨c, hc⟩ := h3 p hp
  exact NdefX.TabN.nil (hH _ hc)
end My
namespace My
open PySem PySem.Spec PyProof.Rows L2
variable [TB]
/-- the keys are of one sort -/
def uniL : List PyData → Bool
  | [] => true
  | d :: ks => uniB (d :: ks) d
def kLenD (x : D) (Q : D → Prop) : Prop := match x.dks with
  | some (ks, _) => uniL ks = true ∧ Q (.p (.int ks.length))
  | _ => kLen x Q
theorem e_lenD {ks : List PyData} {ms : List M} {Q : D → Prop} : kLenD (.ot (.dic ks ms)) Q = (uniL ks = true ∧ Q (.p (.int ks.length))) := rfl
section
variable {X : Cx} {K : PySem.W.Frag}
theorem UniK.uni {H : Hp} {kvs : KVs} {y : V} {k : NestedKey} (h : UniK H kvs y k) : Uni H kvs := by
  cases h with
  | mix k h => exact .mix h
  | boo k h => exact .boo h
  | tup _ _ h => exact .tup h
end
end My
namespace My
open PySem PySem.Spec PyProof.Rows L2
variable [TB]
def dAliV (i j ia : Nat) (te tk : TED) (t : TSD) : TSD := fun Dd ρ => ∃ (ms ns : List M) (n : Nat), ρ[i]? = some (some (.ot (.lst ms))) ∧ i ≠ j ∧ j < ρ.length ∧ ρ[ia]? = some (some (.p (.int ((n : Nat) : Int)))) ∧ ms[n]? = some (.lst ns) ∧ te (ρ.set j none) fun x => ∃ d, x.st = some d ∧ tk (ρ.set j none) fun y => ∃ (k : Nat) (d0 : PyData), y = .p (.int ((k : Nat) : Int)) ∧ ns[k]? = some (.leaf d0) ∧
  t Dd ((ρ.set j none).set i (some (.ot (.lst (ms.set n (.lst (ns.set k (.leaf d))))))))
theorem e_aliV {i j ia : Nat} {te tk : TED} {t : TSD} {Dd : EndsD} {ρ : Ro} : dAliV i j ia te tk t Dd ρ = ∃ (ms ns : List M) (n : Nat), ρ[i]? = some (some (.ot (.lst ms))) ∧ i ≠ j ∧ j < ρ.length ∧ ρ[ia]? = some (some (.p (.int ((n : Nat) : Int)))) ∧ ms[n]? = some (.lst ns) ∧ te (ρ.set j none) fun x => ∃ d, x.st = some d ∧ tk (ρ.set j none) fun y => ∃ (k : Nat) (d0 : PyData), y = .p (.int ((k : Nat) : Int)) ∧ ns[k]? = some (.leaf d0) ∧
  t Dd ((ρ.set j none).set i (some (.ot (.lst (ms.set n (.lst (ns.set k (.leaf d)))))))) := rfl
end My
namespace My
open PySem PySem.Spec PyProof.Rows L2
variable [TB]
def dIndexD (ta tb : TED) : TED := fun ρ Q => ta ρ fun x => ∃ ds, x.ls = some ds ∧ tb ρ fun y => ∃ d j, y = .p d ∧ SeqAt.shaped d = true ∧ SeqAt.shaped (.list ds) = true ∧ (PyData.list ds).hasDict = false ∧ d.hasDict = false ∧ ixOf d ds = some j ∧ Q (.p (.int ((j : Nat) : Int)))
theorem e_indexD {ta tb : TED} {ρ : Ro} {Q : D → Prop} : dIndexD ta tb ρ Q = ta ρ fun x => ∃ ds, x.ls = some ds ∧ tb ρ fun y => ∃ d j, y = .p d ∧ SeqAt.shaped d = true ∧ SeqAt.shaped (.list ds) = true ∧ (PyData.list ds).hasDict = false ∧ d.hasDict = false ∧ ixOf d ds = some j ∧ Q (.p (.int ((j : Nat) : Int))) := rfl
end My
namespace My
open PySem PySem.Spec PyProof.Rows L2
variable [TB]
section
variable {X : Cx} {pos : Pos}
def dIndexE (ta tb : TED) : TED := fun ρ Q => ta ρ fun x => ∃ ds, (x.ls = some ds ∨ x = .p (.tuple ds)) ∧ tb ρ fun y => ∃ d j, y = .p d ∧ SeqAt.shaped d = true ∧ SeqAt.shaped (.list ds) = true ∧ (PyData.list ds).hasDict = false ∧ d.hasDict = false ∧ ixOf d ds = some j ∧ Q (.p (.int ((j : Nat) : Int)))
theorem e_indexE {ta tb : TED} {ρ : Ro} {Q : D → Prop} : dIndexE ta tb ρ Q = ta ρ fun x => ∃ ds, (x.ls = some ds ∨ x = .p (.tuple ds)) ∧ tb ρ fun y => ∃ d j, y = .p d ∧ SeqAt.shaped d = true ∧ SeqAt.shaped (.list ds) = true ∧ (PyData.list ds).hasDict = false ∧ d.hasDict = false ∧ ixOf d ds = some j ∧ Q (.p (.int ((j : Nat) : Int))) := rfl
end
end My
set_option maxHeartbeats 4000000
namespace My
open PySem PySem.Spec PyProof.Rows L2
variable [TB]
/-- tuple * n, n at least 1 -/
def bMulX (x y : D) (Q : D → Prop) : Prop := match x, y with
  | .p (.tuple ds), .p (.int k) => (1 ≤ k ∧ k ≤ 1000 ∧ ds.length ≤ 1000) ∧ Q (.p (.tuple (List.replicate k.toNat ds).flatten))
  | _, _ => bMul x y Q
theorem e_mulX {ds : List PyData} {k : Int} {Q : D → Prop} : bMulX (.p (.tuple ds)) (.p (.int k)) Q = ((1 ≤ k ∧ k ≤ 1000 ∧ ds.length ≤ 1000) ∧ Q (.p (.tuple (List.replicate k.toNat ds).flatten))) := rfl
end My
namespace My
open PySem PySem.Spec PyProof.Rows L2
section
variable {X : Cx} {pins : List (Addr × Obj)} {σ : L2.St} {H : Hp} {s : Shared} {a : Addr} {kvs : KVs} {y v : V} {k : NestedKey} {u r : Value} {A : Around} {E : Value → Shared → Prop}
theorem dc_dset {Q : Unit → Shared → Prop} (hu : A.units + 9 < cLine) (I : Inv X pins σ H s) (e : IsDic X.w H a kvs) (U : UniK H kvs y k) (hl : kvs.length < sizeLine) (ry : RelV y u) (rv : RelV v r)
    (h : ∀ en s', Inv X pins σ (upd H a (DicO X.w a (putD kvs k y v) en)) s' → Q () s') : wpAny (model X.prog X.w) A (dictSet a u r) Q E s := by
  have R := dc_raw I e
  have hz : (putD kvs k y v).length ≤ sizeLine := by have := putD_len kvs k y v; omega
  have fin : ∀ (h' : Heap) (t' : Nat), RawD X.w h' a (putD kvs k y v) → Heap.SameBut a s.heap h' → ∃ en, Inv X pins σ (upd H a (DicO X.w a (putD kvs k y v) en)) { s with heap := h', toks := t' } := fun h' t' R' hs =>
    let ⟨en, he⟩ := R'.ep; ⟨en, d_write I (by obtain ⟨_, e⟩ := e; rw [e]; exact True.intro) hs (let ⟨o, _, _, h1, _⟩ := R'.ex; ⟨o, h1⟩) (R'.ok2 he)⟩
  cases U with
  | mix k hk =>
    obtain ⟨vs, r1, dd⟩ := Emb.dict (m := mixE X.prog X.w) R hk
    exact wpAny_dictSet_pairs (hsz := by rw [← Paired.length r1]; exact R.z) (((mixE X.prog X.w).is k u).mpr ry) dd fun h' dd' hs => let ⟨en, i⟩ := fin _ _ (Emb.raw (m := mixE X.prog X.w) (Emb.put r1 k rv) dd' hz R.s) hs; h en _ i
  | boo k hk =>
    obtain ⟨vs, r1, dd⟩ := Emb.dict (m := booE X.prog X.w) R hk
    exact wpAny_dictSet_pairs (hsz := by rw [← Paired.length r1]; exact R.z) (((booE X.prog X.w).is k u).mpr ry) dd fun h' dd' hs => let ⟨en, i⟩ := fin _ _ (Emb.raw (m := booE X.prog X.w) (Emb.put r1 k rv) dd' hz R.s) hs; h en _ i
  | tup hk hd hks =>
    obtain ⟨xs, r1, dd⟩ := tup_dict I.hok R hks
    cases (show u = Value.ref _ from ry)
    exact wpAny_dictSet_heap (knd := nestedKind X.prog X.w) (hsz := by rw [← Paired.length r1]; exact R.z) (by show A.units + 8 < cLine; omega) ⟨hk.nested I.hok rfl, hd⟩ dd fun h' dd' hs => let ⟨en, i⟩ := fin _ _ (tup_raw (tup_put r1 k rv) dd' hz R.s) hs; h en _ i
end
section
variable {X : Cx} {pos : Pos}
def tDispK (w : World) (tk tv : TE) : TE := fun σ H Q => ∀ p en, H p = none → tk σ (upd H p (DicO w p [] en)) fun y H1 => tv σ H1 fun z H2 => H2 p = some (DicO w p [] en) ∧ ∃ k, UniK H2 [] y k ∧ ∀ en, Q (.ref p) (upd H2 p (DicO w p (putD [] k y z) en))
theorem pe_dispK {k v : Expr} {tk tv : TE} (hu : X.A.units + 9 < cLine) (hk : PE X k tk) (hv : PE X v tv) : PE X (.Dict [some k] [v] pos) (tDispK X.w tk tv) := by
  refine ⟨fun pins s σ H Q I q => ?_⟩
  have hn := I.hok.fresh (Nat.le_refl s.heap.objs.size)
  have I0 := I.laid (a := s.heap.objs.size) (o := .dK []) (h' := s.heap.push { cls := .type "dict", data := .dict #[] }) (t' := s.toks) (fun _ _ q => Heap.get?_push_of_some _ q) (Nat.le_refl _) (dk_empty s.heap I.big)
  obtain ⟨en, I1⟩ := retype I0 (a := s.heap.objs.size) (kvs := []) upd_same
  have eu : upd (upd H s.heap.objs.size (.dK [])) s.heap.objs.size (DicO X.w s.heap.objs.size (mxK []) en) = upd H s.heap.objs.size (DicO X.w s.heap.objs.size [] en) := by
    funext b
    by_cases hb : b = s.heap.objs.size
    · subst hb; rw [upd_same, upd_same]; rfl
    · rw [upd_ne hb, upd_ne hb, upd_ne hb]
  rw [eu] at I1
  have sh : (evalEachOpt [some k] X.env).zip ((evalEach [v] X.env).map fun x => do let x ← x; standAt pos; pure x) = [((eval k X.env), (do let x ← eval v X.env; standAt pos; pure x))].map fun p => (some p.1, p.2) := rfl
  rw [arm_eval_Dict, sh, dictDisplay_pairs _ (by simp) (by simp)]
  refine wpAny_bind (wpAny_standAt (wpAny_bind ?_))
  unfold subDict
  refine wpAny_bind (wpAny_alloc ?_)
  refine wpAny_bind (wpAny_holding ?_)
  rw [if_pos (by simp)]
  refine wpAny_bind (evalPairs_cons (thn (hk.run pins _ σ _ _ I1 (q _ en hn)) ?_))
  rintro ku s1 ⟨y, H1, J1, ry, q1⟩
  refine wpAny_bind (thn (hv.run pins s1 σ H1 _ J1 q1) ?_)
  rintro vu s2 ⟨z, H2, J2, rz, e2, key, U, q2⟩
  refine wpAny_bind (wpAny_standAt (wpAny_pure (evalPairs_nil ?_)))
  refine wpAny_holding ?_
  rw [List.forIn_cons]
  dsimp only
  refine wpAny_bind (wpAny_bind (wpAny_bind (dc_dset (kvs := []) hu J2 ⟨_, e2⟩ U (by show 0 < sizeLine; decide) ry rz fun en2 s3 J3 => wpAny_pure ?_)))
  dsimp only
  rw [List.forIn_nil]
  exact wpAny_pure (wpAny_pure (wpAny_pure (wpAny_pure ⟨.ref s.heap.objs.size, _, J3, rfl, q2 en2⟩)))
end
variable [TB]
def dDispK (tk tv : TED) : TED := fun ρ Q => tk ρ fun y => ∃ d, y = .p d ∧ uniB [] d = true ∧ tv ρ fun z => ∃ e, z.st = some e ∧ Q (.nt (.dic [d] [.leaf e]))
theorem e_dispK {tk tv : TED} {ρ : Ro} {Q : D → Prop} : dDispK tk tv ρ Q = tk ρ fun y => ∃ d, y = .p d ∧ uniB [] d = true ∧ tv ρ fun z => ∃ e, z.st = some e ∧ Q (.nt (.dic [d] [.leaf e])) := rfl
section
variable {K : PySem.W.Frag} {C : Cd} {ρ : Ro} {σ : L2.St} {H H1 H2 H' : Hp}
theorem up_dispK {tk tv : TED} : ∀ σ H Q, up K (dDispK tk tv) σ H Q → tDispK TB.w (up K tk) (up K tv) σ H Q := by
  rintro σ H Q ⟨C, ρ, Qd, R, h, post⟩ p en0 hp
  have hH0 : C.H0 p = none := R.h0n hp
  have np : nx C.t p := R.t1 hp
  refine ⟨C.at p, ρ, _, R.open hp (o := DicO TB.w p [] en0), h, ?_⟩
  rintro yv H1 y R1 k1 e1 ⟨d, rfl, un, h1⟩
  have k1 : Kq C.t (upd H p (DicO TB.w p [] en0)) H1 := k1
  refine ⟨C.at p, ρ, _, R1, h1, ?_⟩
  rintro zv H2 z R2 k2 e2 ⟨e, hs, q⟩
  have k2 : Kq C.t H1 H2 := k2
  have gz := R1.stOf e2 hs
  have gy : Dt (wo (bad (C.at p) ρ σ) H2) yv d := Dt.mono (R1.kp k2) e1
  have p2 : H2 p = some (DicO TB.w p [] en0) := k2 p _ np (k1 p _ np upd_same)
  obtain ⟨key, ek⟩ := uni_some un
  refine ⟨p2, key, uni_of (ks := []) .nil rfl gy ek un, fun en => ?_⟩
  have n1 : ¬ ownAt ρ σ p := by
    rintro ⟨j, ds, f1, f2⟩
    obtain ⟨w, g1, p', ws, rfl, g3, g4, g5, g6⟩ := R2.val j _ f1
    rw [f2] at g1
    cases g1
    exact g5.2 (.inr rfl)
  have n0 : ¬ C.S0 p := R.s0n hH0
  have n3 : p ≠ C.t.2 := fun z => n0 (z ▸ R.s2)
  have hR : Rep K (C.at p) ρ σ (upd H2 p (DicO TB.w p (putD [] key yv zv) en)) := Rep.grow R2 p2 (fun _ _ z => by cases z) (fun c q => by rw [p2]; exact fun z => dic_code (Option.some.inj z)) n0 n1 np n3 hH0
  have kq : Kq C.t H (upd H2 p (DicO TB.w p (putD [] key yv zv) en)) := fun b o n e => by
    have nb : b ≠ p := fun z => by rw [z, hp] at e; cases e
    rw [upd_ne nb]
    exact k2 b o n (k1 b o n (by rw [upd_ne nb]; exact e))
  have s : Same (wo (bad (C.at p) ρ σ) H2) (wo (fun b => bad C ρ σ b ∨ b ∈ [p]) H2) := fun a o e => by
    obtain ⟨f1, f2⟩ := wo_of e
    exact wo_mk (fun z => f1 (bad_at.mpr (z.elim .inl fun z => .inr (List.mem_singleton.mp z)))) f2
  have old : ∀ j : Nat, kIx ([] : List PyData) d = some j → ∃ e0, ([] : List M)[j]? = some (.leaf e0) := fun j hj => by cases hj
  refine post (.ref p) _ (.nt (.dic [d] [.leaf e])) hR.shut kq ⟨[p], fun b hb => by rw [List.mem_singleton.mp hb]; exact hp, ?_⟩ q
  exact rel_put (B := fun b => bad C ρ σ b ∨ b ∈ [p]) (kvs := []) (ks := []) (ms := []) (f := []) (d := d) (e := e) rfl (by simp) .nil rfl .nil (by simp) (.inr (by simp)) (fun b hb => by cases hb) ek (Dt.mono s gy) (Dt.mono s gz) old
end
section
variable {X : Cx} {pos : Pos}
theorem fe_dispK {k v : Expr} {tk tv : TED} (hw : X.w = TB.w) (hu : X.A.units + 65 < cLine) (hk : FE X k tk) (hv : FE X v tv) : FE X (.Dict [some k] [v] pos) (dDispK tk tv) := by
  have := pe_dispK (pos := pos) (by omega) hk hv
  rw [hw] at this
  exact this.mo up_dispK
end
end My
set_option maxHeartbeats 1000000
namespace My
open PySem PySem.Spec PyProof.Rows L2
/-- what stands behind the tests of the clause ahead of d -/
def clW (M : Model) (A : Around) (elt : Expr) (gens : List Comprehension) (scope : Scope) (pos : Pos) (d : Nat) (acc : Value) (env : Env) (G : Shared → Prop) (E : Value → Shared → Prop) (s : Shared) : Prop :=
  match gens[d]? with
  | some g => wpAny M A (eval g.iter env) (fun x s4 => wpAny M A (pyIter x) (fun it1 s5 => codeAny M A (.compStart (.ListComp elt gens scope pos) d it1 acc env) (fun r s' => match r with | .ok _ => G s' | .error _ => False) s5) E s4) E s
  | none => wpAny M A (eval elt env) (fun x s4 => wpAny M A (call (.builtin "list.append") [acc, x]) (fun _ s5 => G s5) E s4) E s
/-- its source is plain -/
def ClPl (gens : List Comprehension) (d : Nat) (env : Env) : Prop := ∀ g, gens[d]? = some g → g.is_async = 0 ∧ ∀ x, foldedSetIterable g.iter env x = pure x
/-- σ' knows what σ knows outside vs -/
def KeepO (vs : List Nat) (σ σ' : L2.St) : Prop := σ'.length = σ.length ∧ ∀ (j : Nat) v, (wipe σ vs)[j]? = some (some v) → σ'[j]? = some (some v)
abbrev TC := Addr → L2.St → Hp → (Hp → Prop) → Prop
/-- Y: the block's context -/
structure PCl (Y : Cx) (elt : Expr) (gens : List Comprehension) (scope : Scope) (pos : Pos) (vs : List Nat) (d : Nat) (t : TC) : Prop where
  pl : ClPl gens d Y.env
  run : ∀ (D : Addr) (pins : List (Addr × Obj)) (s : Shared) (σ : L2.St) (H : Hp) (Nx : Hp → Prop) (G : Shared → Prop) (E : Value → Shared → Prop), Inv Y pins σ H s → t D σ H Nx →
    (∀ s' σ' H', Inv Y pins σ' H' s' → KeepO vs σ σ' → Nx H' → G s') → (∀ e s', Y.xe e s' → E e s') → clW (model Y.prog Y.w) Y.A elt gens scope pos d (.ref D) Y.env G E s
end My
namespace My
open PySem PySem.Spec PyProof.Rows L2
variable [TB]
abbrev TCD := Ro → List PyData → (List PyData → Prop) → Prop
def KqD (t : TA2) (D : Addr) (H H' : Hp) : Prop := ∀ b o, nx t b → b ≠ D → H b = some o → H' b = some o
theorem KqD.refl (t : TA2) (D : Addr) (H : Hp) : KqD t D H H := fun _ _ _ _ e => e
theorem KqD.trans {t : TA2} {D : Addr} {H H1 H2 : Hp} (a : KqD t D H H1) (b : KqD t D H1 H2) : KqD t D H H2 := fun c o n d e => b c o n d (a c o n d e)
theorem KqD.of {t : TA2} {D : Addr} {H H' : Hp} (k : Kq t H H') : KqD t D H H' := fun b o n _ e => k b o n e
/-- the place of the list that is made -/
structure Plc (C : Cd) (D : Addr) (B : Addr → Prop) (ρ : Ro) (σ : L2.St) : Prop where
  f : C.F D
  n0 : ¬ C.S0 D
  n2 : nx C.t D
  n3 : D ≠ C.t.2
  n4 : C.H0 D = none
  b : B D
  sub : ∀ b, B b → bad C ρ σ b
  out : ∀ b, ¬ B b → nx C.t b ∧ b ≠ D
section
variable {K : PySem.W.Frag} {C : Cd} {ρ : Ro} {σ : L2.St} {H H1 H2 H' : Hp} {D : Addr} {B : Addr → Prop}
theorem Plc.same (P : Plc C D B ρ σ) (k : KqD C.t D H H') : Same (wo B H) (wo B H') := wo_mono (fun _ z => z) fun a o n e => k a o (P.out a n).1 (P.out a n).2 e
def dClNil (te : TED) : TCD := fun ρ acc Kd => te ρ fun x => ∃ d, x.st = some d ∧ acc.length < sizeLine ∧ Kd (acc ++ [d])
/-- one turn of a clause -/
def elC (g : TGD) (tt : TTD) (vs : List Nat) (tr : TCD) (x : ItD) (ρ0 : Ro) (acc : List PyData) (Kd : List PyData → Prop) : Prop := g x ρ0 fun ρ2 => tt ρ2 fun b => if b = true then tr ρ2 acc Kd else Kd acc
def dClCons (ti : TID) (g : TGD) (tt : TTD) (vs : List Nat) (tr : TCD) : TCD := fun ρ acc Kd => ti ρ fun items => lcF (fun x acc K => elC g tt vs tr x (dWipe ρ vs) acc K) items acc Kd
def dLcN (ti : TID) (g : TGD) (tt : TTD) (vs : List Nat) (tr : TCD) : TED := fun ρ Q => ti ρ fun items => lcF (fun x acc K => elC g tt vs tr x (dWipe ρ vs) acc K) items [] fun acc => Q (.nw acc)
theorem Plc.add (P : Plc C D B ρ σ) (w : Pn) : Plc (C.add w) D B ρ σ := ⟨P.f, P.n0, P.n2, P.n3, P.n4, P.b, P.sub, P.out⟩
theorem rel_wp {vs : List Nat} {x : V} {z : ItD} (h : RelI K C ρ σ H x z) : RelI K (C.wp ρ σ vs) (dWipe ρ vs) (wipe σ vs) H x z := by
  have s0 : Same (wo (bad C ρ σ) H) (wo (bad (C.wp ρ σ vs) (dWipe ρ vs) (wipe σ vs)) H) := wo_mono (fun _ z => bad_wp.mp z) fun _ _ _ e => e
  cases z with
  | one d => exact Dt.mono s0 h
  | two d e =>
    obtain ⟨T, v1, v2, e1, e2, e3, e4⟩ := h
    exact ⟨T, v1, v2, e1, e2, Dt.mono s0 e3, Dt.mono s0 e4⟩
end
section
variable {X : Cx} {pos : Pos}
theorem _root_.L2.PCl.mo {Y : Cx} {elt : Expr} {gens : List Comprehension} {scope : Scope} {pos : Pos} {vs : List Nat} {d : Nat} {t t' : TC} (h : PCl Y elt gens scope pos vs d t) (m : ∀ D σ H Nx, t' D σ H Nx → t D σ H Nx) : PCl Y elt gens scope pos vs d t' :=
  ⟨h.pl, fun D pins s σ H Nx G E I hw => h.run D pins s σ H Nx G E I (m D σ H Nx hw)⟩
end
end My
set_option maxHeartbeats 4000000
namespace My
open PySem PySem.Spec PyProof.Rows L2
variable [TB]
abbrev leaves (ds : List PyData) : M := .lst (ds.map M.leaf)
section
variable {X : Cx} {st : Stmt}
/-- x[i] = v of a lent list -/
def dSetIxB (i : Nat) (ti te : TED) : TSD := fun Dd ρ => ∃ p ms, ρ[i]? = some (some (.bor p (.lst ms))) ∧ te ρ fun x => ∃ d, x.st = some d ∧ ti ρ fun y => ∃ k j, y = .p (.int k) ∧ ixN (M.dats ms).length k = some j ∧ Dd.nx (ρ.set i (some (.bor p (leaves ((M.dats ms).set j d)))))
end
end My
set_option maxHeartbeats 4000000
namespace My
open PySem PySem.Spec PyProof.Rows L2
variable [TB]
abbrev SpMD := List D → (D → List M → Prop) → Prop
def RelN (t : TA2) (B : Addr → Prop) (H : Hp) (v : V) : D → Prop
  | .p d => Dt (wo B H) v d | .tape => v = .ref t.1 | .fv f I => v = .ref f ∧ FnsAt t B H I | .bor p m => v = .ref p ∧ RelM H B (.ref p) m [p] | _ => False
/-- what the slots of the lent things hold -/
def outs : List D → Ro → List M → Prop
  | [], _, ms => ms = []
  | x :: xs, ρ, ms => match x with
    | .bor p _ => ∃ m ms' ρ', ρ = some (.bor p m) :: ρ' ∧ ms = m :: ms' ∧ outs xs ρ' ms'
    | _ => ∃ y ρ', ρ = y :: ρ' ∧ outs xs ρ' ms
structure LinkB (K : PySem.W.Frag) (r : Nat) (C : Cd) (Dd : EndsD) (D : Ends) : Prop where
  nx' : ∀ G ρ σ H, Rep K (C.gg G) ρ σ H → Dd.nx ρ → ∃ v, σ[r]? = some (some v) ∧ D.rt v H
  rt : ∀ x, ¬ Dd.rt x
  bk' : ∀ ρ, ¬ Dd.bk ρ
  ct' : ∀ ρ, ¬ Dd.ct ρ
def endsM (r : Nat) (xs : List D) (Q : D → List M → Prop) : EndsD := { nx := fun ρ => ∃ d ms, ρ[r]? = some (some (.p d)) ∧ outs xs ρ ms ∧ Q (.p d) ms, rt := fun _ => False }
end My
set_option maxHeartbeats 4000000
namespace My
open PySem PySem.Spec PyProof.Rows L2
variable [TB]
inductive AD where
  | v (x : D) | s (j : Nat) | t (ds : List PyData)
def slotsOf : List AD → List Nat
  | [] => [] | .s j :: as => j :: slotsOf as | .v _ :: as => slotsOf as | .t _ :: as => slotsOf as
def nT : List AD → Nat
  | [] => 0 | .t _ :: as => nT as + 1 | .v _ :: as => nT as | .s _ :: as => nT as
abbrev TLD := Ro → (List AD → Prop) → Prop
def dLN : TLD := fun _ Q => Q []
def dLV (te : TED) (tr : TLD) : TLD := fun ρ Q => te ρ fun x => ∃ y, x.arg = some y ∧ tr ρ fun as => Q (.v y :: as)
def dLS (j : Nat) (tr : TLD) : TLD := fun ρ Q => (∃ ds, ρ[j]? = some (some (.own ds))) ∧ tr ρ fun as => Q (.s j :: as)
def dLT (te : TED) : TLD := fun ρ Q => te ρ fun x => ∃ ds, x = .nw ds ∧ Q [.t ds]
def lendK : List AD → Ro → (List D → Prop) → Prop
  | [], _, K => K []
  | .v y :: as, ρ, K => lendK as ρ fun xs => K (y :: xs)
  | .s j :: as, ρ, K => ∃ ds, ρ[j]? = some (some (.own ds)) ∧ ∀ p, lendK as ρ fun xs => K (.bor p (leaves ds) :: xs)
  | .t ds :: as, ρ, K => ∀ p, lendK as ρ fun xs => K (.bor p (leaves ds) :: xs)
def backK : List AD → List M → Ro → (Ro → Prop) → Prop
  | [], _, ρ, K => K ρ
  | .v _ :: as, ms, ρ, K => backK as ms ρ K
  | .s j :: as, m :: ms, ρ, K => ∃ es, m = leaves es ∧ es.length ≤ sizeLine ∧ backK as ms (ρ.set j (some (.own es))) K
  | .s _ :: _, [], _, _ => False
  | .t _ :: as, _ :: ms, ρ, K => backK as ms ρ K
  | .t _ :: _, [], _, _ => False
abbrev TMD := Ro → (D → Ro → Prop) → Prop
def dCallM (n : Nat) (S : SpMD) (tl : TLD) : TMD := fun ρ Q => tl ρ fun as => as.length = n ∧ (slotsOf as).Nodup ∧ lendK as ρ fun xs => S xs fun x ms => backK as ms ρ fun ρ' => Q x ρ'
section
variable {K : PySem.W.Frag} {C : Cd} {ρ ρ' : Ro} {σ : L2.St} {H H1 H2 H' : Hp} {fs : List Addr}
inductive Lent (C : Cd) (ρ : Ro) (σ : L2.St) (H1 : Hp) (fs : List Addr) : List AD → List D → List V → Prop
  | nil : Lent C ρ σ H1 fs [] [] []
  | v {x as xs v vs} : RelN C.t (fun b => bad C ρ σ b ∨ b ∈ fs) H1 v x → (∀ p m, x ≠ .bor p m) → Lent C ρ σ H1 fs as xs vs → Lent C ρ σ H1 fs (.v x :: as) (x :: xs) (v :: vs)
  | s {j p ds as xs vs} : ρ[j]? = some (some (.own ds)) → σ[j]? = some (some (.ref p)) → Lent C ρ σ H1 fs as xs vs → Lent C ρ σ H1 fs (.s j :: as) (.bor p (leaves ds) :: xs) (.ref p :: vs)
  | t {p us ds as xs vs} : fs = [p] → H1 p = some (.lst us) → DtAll (wo (fun b => bad C ρ σ b ∨ b ∈ fs) H1) us ds → Lent C ρ σ H1 fs as xs vs → Lent C ρ σ H1 fs (.t ds :: as) (.bor p (leaves ds) :: xs) (.ref p :: vs)
theorem Lent.len {as : List AD} {xs : List D} {vs : List V} (h : Lent C ρ σ H1 fs as xs vs) : xs.length = as.length := by
  induction h with
  | nil => rfl
  | v _ _ _ ih => simp [ih]
  | s _ _ _ ih => simp [ih]
  | t _ _ _ _ ih => simp [ih]
end
section
variable {X : Cx} {n k : Nat} {ps : List Str} {S : SpMD} {x : Str} {p pos pos2 : Pos} {e : Expr} {es : List Expr} {tl : TLD} {t u : TSD} {a b : List Stmt} {tm : TMD}
/-- a test that changes -/
def dIfM (tm : TMD) (t u : TSD) : TSD := fun Dd ρ => tm ρ fun x ρ' => ∃ b, x = .p (.bool b) ∧ if b = true then t Dd ρ' else u Dd ρ'
end
end My
namespace My
open PySem PySem.Spec PyProof.Rows L2
variable [TB]
def m3 (S : D → D → D → (D → List M → Prop) → Prop) : SpMD := fun xs Q => match xs with
  | [a, b, c] => S a b c Q
  | _ => False
def m4 (S : D → D → D → D → (D → List M → Prop) → Prop) : SpMD := fun xs Q => match xs with
  | [a, b, c, d] => S a b c d Q
  | _ => False
def m5 (S : D → D → D → D → D → (D → List M → Prop) → Prop) : SpMD := fun xs Q => match xs with
  | [a, b, c, d, e] => S a b c d e Q
  | _ => False
def m6 (S : D → D → D → D → D → D → (D → List M → Prop) → Prop) : SpMD := fun xs Q => match xs with
  | [a, b, c, d, e, f] => S a b c d e f Q
  | _ => False
end My
set_option maxHeartbeats 4000000
set_option maxHeartbeats 4000000
namespace My
open PySem PySem.Spec PyProof.Rows L2
structure DfK (K : PySem.W.Frag) (mg : Str → Option Value) (x kw : Str) (st : Stmt) (ps : List Str) (n : Nat) : Prop where
  ex : ∃ (f : Addr) (fd : FuncData), Fun K x x st f fd ∧ mg x = some (.ref f) ∧ KBn K fd ps n [kw] (fun us ws => us ++ ws) (fun vs zs => vs ++ zs)
structure CalK (P : Program) (w : World) (K : PySem.W.Frag) (mg : Str → Option Value) (base : Heap) (k : Nat) (x kw : Str) (ps : List Str) (n : Nat) (sp : Sp) : Prop where
  ex : ∃ (f : Addr) (fd : FuncData), FnG P w K mg base CX0 k f fd ps sp ∧ mg x = some (.ref f) ∧ PySem.W.keepIn K (.ref f) = true ∧ KBn K fd ps n [kw] (fun us ws => us ++ ws) (fun vs zs => vs ++ zs)
variable [TB]
theorem DfK.calU {P : Program} {w : World} {K : PySem.W.Frag} {mg : Str → Option Value} {base : Heap} {x kw : Str} {st : Stmt} {N ps : List Str} {n0 k n m : Nat} {S : SpD} {t : TSD} (D : DfK K mg x kw st ps n0) (sc : FnScope N ps (defScope st))
    (hn : ps.length = n) (hN : N.length = n + m) (hs : ∀ xs Qd, S xs Qd → t (endsOf Qd) (iniR xs m))
    (hb : ∀ (f : Addr) (cdv : Value) (A : Around) (o : List Env) (s : Shared) (H : Hp) (E : XK),
      Room k (A.deeper (envOfC x (defScope st) s.heap.objs.size f cdv)) → A.guards = some [] →
      FSs (cxOf CX0 P w K mg base N x (defScope st) f cdv A o s H E).nox (defBody st) t) :
    CalK P w K mg base (k + 1) x kw ps n0 (spU K n S) := by
  obtain ⟨f, fd, F, hm, hbn⟩ := D.ex
  refine ⟨f, fd, okG F sc (spU_len hn) (fun cdv A o s H vs Q E hr hg h => ?_), hm, F.kp, hbn⟩
  obtain ⟨t', h1, h2⟩ := fn_body (hb f cdv A o s H E hr hg) hN hs h
  exact ⟨t', h1.nox, h2⟩
def dCallK (n : Nat) (S : SpD) (t : TAD) (te : TED) : TED := fun ρ Q => t ρ fun xs => te ρ fun y => xs.length = n ∧ ∃ ys, argAll (xs ++ [y]) = some ys ∧ S ys Q
end My
set_option maxHeartbeats 4000000
namespace My
open PySem PySem.Spec PyProof.Rows L2
variable [TB]
section
variable {X : Cx} {pos : Pos}
def dRev2 (ta : TED) : TED := fun ρ Q => ta ρ fun x => match x.ls with
  | some ds => ds.length ≤ sizeLine ∧ Q (.nw (ds.take (ds.length - 1)).reverse)
  | _ => False
end
end My
namespace My
open PySem PySem.Spec PyProof.Rows L2
variable [TB]
section
variable {ρ : Ro} {Dd : EndsD} {t u : TSD} {ta tb tc : TED} {tt tt' : TTD} {ar : TAD} {Q : D → Prop} {Qb : Bool → Prop} {Qa : List D → Prop} {Qo : Option Int → Prop} {Qr : Ro → Prop} {Qi : List ItD → Prop} {i j n : Nat} {rd : RD2} {d e : PyData} {x y : D}
theorem e_seq : dSeq t u Dd ρ = t { Dd with nx := u Dd } ρ := rfl
theorem e_var : dVar i ρ Q = ∃ x, ρ[i]? = some (some x) ∧ Q x := rfl
theorem e_c : dC d ρ Q = Q (.p d) := rfl
theorem e_op : dOp rd ta tb ρ Q = ta ρ fun x => tb ρ fun y => rd x y Q := rfl
theorem e_un {r : D → (D → Prop) → Prop} : dUn r ta ρ Q = ta ρ fun x => r x Q := rfl
theorem e_test : dTest ta ρ Qb = ta ρ fun x => ∃ k, x = .p (.bool k) ∧ Qb k := rfl
theorem e_tru : dTru ta ρ Qb = ta ρ fun x => ∃ k, x.tru = some k ∧ x.tok ∧ Qb k := rfl
theorem e_notT : dNotT tt ρ Qb = tt ρ fun c => Qb (!c) := rfl
theorem e_andT : dAndT tt tt' ρ Qb = tt ρ fun c => if c = true then tt' ρ Qb else Qb false := rfl
theorem e_orT : dOrT tt tt' ρ Qb = tt ρ fun c => if c = true then Qb true else tt' ρ Qb := rfl
theorem e_notV : dNotV ta ρ Q = ta ρ fun x => ∃ c, x = .p (.bool c) ∧ Q (.p (.bool (!c))) := rfl
theorem e_andV : dAndV ta tb ρ Q = ta ρ fun x => ∃ c, x = .p (.bool c) ∧ if c = true then tb ρ Q else Q (.p (.bool false)) := rfl
theorem e_orV : dOrV ta tb ρ Q = ta ρ fun x => ∃ c, x = .p (.bool c) ∧ if c = true then Q (.p (.bool true)) else tb ρ Q := rfl
theorem e_ifE : dIfE tt ta tb ρ Q = tt ρ fun c => if c = true then ta ρ Q else tb ρ Q := rfl
theorem e_nil : dNil ρ Qa = Qa [] := rfl
theorem e_cons : dCons ta ar ρ Qa = ta ρ fun x => ar ρ fun xs => Qa (x :: xs) := rfl
theorem e_star : dStar ta ar ρ Qa = ta ρ fun x => match x.st with
  | some (.tuple ds) => ar ρ fun xs => Qa (ds.map D.p ++ xs)
  | some (.list ds) => ar ρ fun xs => Qa (ds.map D.p ++ xs)
  | _ => False := rfl
theorem e_tup : dTup ar ρ Q = ar ρ fun xs => ∃ ds, stAll xs = some ds ∧ ds.length ≤ sizeLine ∧ Q (.p (.tuple ds)) := rfl
theorem e_lst : dLst ar ρ Q = ar ρ fun xs => ∃ ds, stAll xs = some ds ∧ ds.length ≤ sizeLine ∧ Q (.nw ds) := rfl
theorem e_cb {r : List D → (D → Prop) → Prop} : dCB r ar ρ Q = ar ρ fun xs => r xs Q := rfl
theorem e_call {S : SpD} : dCall n S ar ρ Q = ar ρ fun xs => ∃ ys, argAll xs = some ys ∧ ys.length = n ∧ S ys Q := rfl
theorem e_nopart : dNoPart ρ Qo = Qo none := rfl
theorem e_part : dPart ta ρ Qo = ta ρ fun x => ∃ i, x = .p (.int i) ∧ Qo (some i) := rfl
theorem e_sl {r : D → Option Int → Option Int → (D → Prop) → Prop} {tl th : TOD} : dSl r ta tl th ρ Q = ta ρ fun x => tl ρ fun l => th ρ fun u => r x l u Q := rfl
theorem e_revU : dRevU ta ρ Q = ta ρ fun x => match x with
  | .p (.tuple ds) => Q (.p (.tuple ds.reverse))
  | x => match x.ls with
    | some ds => ds.length ≤ sizeLine ∧ Q (.nw ds.reverse)
    | _ => False := rfl
theorem e_isi {T : String} : dIsi T ta ρ Q = ta ρ fun x => ∃ b, isiB T x = some b ∧ Q (.p (.bool b)) := rfl
theorem e_join : dJoin ta tb ρ Q = ta ρ fun x => match x with
  | .p (.str s) => tb ρ fun y => kJoin s y Q
  | _ => False := rfl
theorem e_bits : dBits ta ρ Q = ta ρ fun x => match x with
  | .p (.int i) => Q (.p (.int (Builtin.Int.intBits i : Nat)))
  | _ => False := rfl
theorem e_index : dIndex ta tb ρ Q = ta ρ fun x => x.sq.isSome = true ∧ tb ρ fun y => kIndex x y Q := rfl
theorem e_chain {r r' : RD2} : dChain r r' ta tb tc ρ Q = ta ρ fun x => tb ρ fun y => r x y fun z => match z with
  | .p (.bool k) => if k = true then tc ρ fun w => r' y w Q else Q (.p (.bool false))
  | _ => False := rfl
theorem e_lc {ti : TID} {g : TGD} {vs : List Nat} : dLc ti g tt ta vs ρ Q = ti ρ fun items => lcW (fun x K => elW g tt ta x (dWipe ρ vs) K) items [] fun acc => Q (.nw acc) := rfl
theorem e_yes : dYes ρ Qb = Qb true := rfl
theorem e_el {g : TGD} {z : ItD} {K : Option PyData → Prop} : elW g tt ta z ρ K = g z ρ fun ρ2 => tt ρ2 fun b => if b = true then ta ρ2 fun y => ∃ d, y.st = some d ∧ K (some d) else K none := rfl
theorem e_lc2 {ti ti1 : TID} {g g1 : TGD} {vs vs1 : List Nat} : dLc2 ti g tt ti1 g1 tt' ta vs vs1 ρ Q = ti ρ fun items => lcF (fun x acc K => el2W g tt ti1 g1 tt' ta vs1 x (dWipe ρ vs) acc K) items [] fun acc => Q (.nw acc) := rfl
theorem e_set : dSet i ta Dd ρ = ta ρ fun x => ∃ d, x.st = some d ∧ Dd.nx (ρ.set i (some (.p d))) := rfl
theorem e_setN : dSetN i ta Dd ρ = ta ρ fun x => ∃ ds, x = .nw ds ∧ Dd.nx (ρ.set i (some (.own ds))) := rfl
theorem e_if : dIf tt t u Dd ρ = tt ρ fun b => if b = true then t Dd ρ else u Dd ρ := rfl
theorem e_next : dNext Dd ρ = Dd.nx ρ := rfl
theorem e_ret : dRetU ta Dd ρ = ta ρ fun x => match x with
  | .p d => Dd.rt (.p d)
  | .own ds => Dd.rt (.nw ds)
  | .nw ds => Dd.rt (.nw ds)
  | .ot m => Dd.rt (.p m.dat)
  | .nt m => Dd.rt (.p m.dat)
  | _ => False := rfl
theorem e_retN : dRetN Dd ρ = Dd.rt (.p .none) := rfl
theorem e_app : dApp i ar Dd ρ = ∃ ds, ρ[i]? = some (some (.own ds)) ∧ ar ρ fun xs => ∃ x d, xs = [x] ∧ x.st = some d ∧ ds.length < sizeLine ∧ Dd.nx (ρ.set i (some (.own (ds ++ [d])))) := rfl
theorem e_ext : dExt i ar Dd ρ = ∃ ds, ρ[i]? = some (some (.own ds)) ∧ ar ρ fun xs => match xs with
  | [x] => match x.st with
    | some (.tuple es) => ds.length + es.length ≤ sizeLine ∧ Dd.nx (ρ.set i (some (.own (ds ++ es))))
    | some (.list es) => ds.length + es.length ≤ sizeLine ∧ Dd.nx (ρ.set i (some (.own (ds ++ es))))
    | _ => False
  | _ => False := rfl
theorem e_setIx : dSetIx i ta tb Dd ρ = ∃ ds, ρ[i]? = some (some (.own ds)) ∧ tb ρ fun x => ∃ d, x.st = some d ∧ ta ρ fun y => ∃ k j, y = .p (.int k) ∧ ixN ds.length k = some j ∧ Dd.nx (ρ.set i (some (.own (ds.set j d)))) := rfl
theorem e_aug : dAug i ta rd Dd ρ = ∃ x, ρ[i]? = some (some x) ∧ ta ρ fun y => rd x y fun z => ∃ d, z = .p d ∧ Dd.nx (ρ.set i (some (.p d))) := rfl
theorem e_fz : dFz i t Dd ρ = ∃ ds, ρ[i]? = some (some (.own ds)) ∧ t Dd (ρ.set i (some (.p (.list ds)))) := rfl
theorem e_pop : dPop j i Dd ρ = ∃ ds d, ρ[i]? = some (some (.own (ds ++ [d]))) ∧ Dd.nx ((ρ.set i (some (.own ds))).set j (some (.p d))) := rfl
theorem e_asg {g : TGD} : dAsg ta g Dd ρ = ta ρ fun x => ∃ d, x.st = some d ∧ g (.one d) ρ Dd.nx := rfl
theorem e_asg2 {g1 g2 : TGD} : dAsg2 ta g1 g2 Dd ρ = ta ρ fun x => ∃ d, x.st = some d ∧ g1 (.one d) ρ fun ρ1 => g2 (.one d) ρ1 Dd.nx := rfl
theorem e_par : dPar i j ar Dd ρ = ar ρ fun xs => ∃ x y d e, xs = [x, y] ∧ x.st = some d ∧ y.st = some e ∧ Dd.nx ((ρ.set i (some (.p d))).set j (some (.p e))) := rfl
theorem e_expr : dExpr ta Dd ρ = ta ρ fun _ => Dd.nx ρ := rfl
theorem e_pass : dPass Dd ρ = Dd.nx ρ := rfl
theorem e_break : dBreak Dd ρ = Dd.bk ρ := rfl
theorem e_cont : dCont Dd ρ = Dd.ct ρ := rfl
theorem e_gN {z : ItD} : gN i z ρ Qr = ∃ d, z = .one d ∧ Qr (ρ.set i (some (.p d))) := rfl
theorem e_gNil {ds : List PyData} : gsNil ds ρ Qr = (ds = [] ∧ Qr ρ) := rfl
theorem e_gCons {g : TGD} {gs : TGsD} {ds : List PyData} : gsCons g gs ds ρ Qr = ∃ d r, ds = d :: r ∧ g (.one d) ρ fun ρ' => gs r ρ' Qr := rfl
theorem e_gTp1 {gs : TGsD} : gTp n gs (.one d) ρ Qr = ∃ ds, d = .tuple ds ∧ ds.length = n ∧ gs ds ρ Qr := rfl
theorem e_gTp2 {gs : TGsD} : gTp n gs (.two d e) ρ Qr = (n = 2 ∧ gs [d, e] ρ Qr) := rfl
theorem e_for {ti : TID} {g : TGD} : dFor ti g t Dd ρ = ti ρ fun items => forW g t Dd items ρ := rfl
theorem e_itV : dItV ta ρ Qi = ta ρ fun x => match itOf x with
  | some items => Qi items
  | _ => False := rfl
theorem e_rng1 : dRng1 ar ρ Qi = ar ρ fun xs => ∃ j : Int, xs = [.p (.int j)] ∧ -(2 ^ 62) ≤ j ∧ j < 2 ^ 62 ∧ Qi (rngD 0 j.toNat) := rfl
theorem e_rng2 : dRng2 ar ρ Qi = ar ρ fun xs => ∃ i j : Int, xs = [.p (.int i), .p (.int j)] ∧ (-(2 ^ 62) ≤ i ∧ i < 2 ^ 62 ∧ -(2 ^ 62) ≤ j ∧ j < 2 ^ 62) ∧ Qi (rngD i (j - i).toNat) := rfl
theorem e_rng3 : dRng3 ar ρ Qi = ar ρ fun xs => ∃ (i j c : Int) (n : Nat), xs = [.p (.int i), .p (.int j), .p (.int c)] ∧ RgC i j c n ∧ Qi (rngC i c n) := rfl
theorem e_enA : dEnA ar ρ Qi = ar ρ fun xs => match enOf xs with
  | some items => Qi items
  | _ => False := rfl
theorem e_zip : dZip ar ρ Qi = ar ρ fun xs => match zipOf xs with
  | some items => Qi items
  | _ => False := rfl
theorem e_rv : dRv ta ρ Qi = ta ρ fun x => match rvOf x with
  | some ds => Qi (ds.reverse.map ItD.one)
  | _ => False := rfl
theorem e_endN : (endsOf Q).nx ρ = Q (.p .none) := rfl
theorem e_endR : (endsOf Q).rt = Q := rfl
theorem e_lawR : endsLaw.rt x = (x = .p (.bool true)) := rfl
theorem e_lawN : endsLaw.nx ρ = False := rfl
end
/-- a text by its signs -/
def tx (l : List Nat) : Str := ⟨l.toArray⟩
theorem tx_len (l : List Nat) : (tx l).length = l.length := by simp [tx, Str.length]
theorem tx_app (a b : List Nat) : tx a ++ tx b = tx (a ++ b) := by
  show Str.mk (a.toArray ++ b.toArray) = _
  simp [tx]
theorem tx_list (l : List Nat) : (tx l).cps.toList = l := by simp [tx]
theorem tx_one (c : Nat) : (⟨#[c]⟩ : Str) = tx [c] := rfl
theorem tx_inj {a b : List Nat} : tx a = tx b ↔ a = b := by
  constructor
  · intro h
    have := congrArg (fun s : Str => s.cps.toList) h
    simpa [tx] using this
  · rintro rfl; rfl
local macro_rules | `(tactic| walk_at "ev") => `(tactic| simp only [e_seq, e_var, e_c, e_op, e_un, e_test, e_tru, e_notT, e_andT, e_orT, e_notV, e_andV, e_orV, e_ifE, e_nil, e_cons, e_star, e_tup, e_lst, e_cb, e_call, e_nopart, e_part, e_sl, e_revU, e_isi, e_join, e_bits, e_index, e_chain, e_lc, e_yes, e_el, e_lc2, e_set, e_setN, e_if, e_next, e_ret, e_retN, e_app, e_ext, e_setIx, e_aug, e_fz, e_pop, e_asg, e_asg2, e_par, e_expr, e_pass, e_break, e_cont, e_gN, e_gNil, e_gCons, e_gTp1, e_gTp2, e_for, e_itV, e_rng1, e_rng2, e_rng3, e_enA, e_zip, e_rv, e_endN, e_endR, e_lawR, e_lawN])
end My
namespace My
open PySem PySem.Spec PyProof.Rows L2
variable [TB]
/-- an item at a place -/
theorem atI_cast {α : Type} (l : List α) (i : Nat) : atI l (i : Int) = l[i]? := by
  unfold atI ixN
  rw [if_pos (by omega)]
  by_cases h : i < l.length
  · rw [if_pos (by omega)]
    simp
  · rw [if_neg (by omega), List.getElem?_eq_none (by omega)]
    rfl
theorem atI_add {α : Type} (l : List α) (i j : Nat) : atI l ((i : Int) + (j : Int)) = l[i + j]? := by
  rw [← atI_cast, Int.natCast_add]
theorem get_of {α : Type} {l : List α} {i : Nat} (h : i < l.length) : l[i]? = some l[i] := List.getElem?_eq_getElem h
end My
namespace My
open PySem PySem.Spec PyProof.Rows L2
variable [TB]
section
variable {i j : Int} {x y : Str} {b c : Bool}
theorem eqOk_ii : eqOk (.int i) (.int j) = true := rfl
theorem eqOk_ss : eqOk (.str x) (.str y) = true := rfl
theorem eqOk_bb : eqOk (.bool b) (.bool c) = true := rfl
theorem eqOk_nn : eqOk .none .none = true := rfl
theorem eqOk_ni : eqOk .none (.int i) = true := rfl
theorem eqOk_in : eqOk (.int i) .none = true := rfl
theorem eqOk_ns : eqOk .none (.str x) = true := rfl
theorem eqOk_sn : eqOk (.str x) .none = true := rfl
theorem eqv_ii : PyData.eqv (.int i) (.int j) = decide (i = j) := by rw [PyData.eqv]; exact Bool.eq_iff_iff.mpr (by simp)
theorem eqv_ss : PyData.eqv (.str x) (.str y) = decide (x = y) := by rw [PyData.eqv]; exact Bool.eq_iff_iff.mpr (by simp)
theorem eqv_bb : PyData.eqv (.bool b) (.bool c) = (b == c) := by rw [PyData.eqv]
theorem eqv_nn : PyData.eqv .none .none = true := by rw [PyData.eqv]
theorem eqv_ni : PyData.eqv .none (.int i) = false := by rw [PyData.eqv]
theorem eqv_in : PyData.eqv (.int i) .none = false := by rw [PyData.eqv]
theorem eqv_ns : PyData.eqv .none (.str x) = false := by rw [PyData.eqv]
theorem eqv_sn : PyData.eqv (.str x) .none = false := by rw [PyData.eqv]
end
end My
namespace My
variable [TB]
theorem while_on {tc : TTD} {tb : TSD} {Dd : EndsD} {ρ : Ro} (W : Ro → Prop) (μ : Ro → Nat) (h0 : W ρ) (h : ∀ ρ, W ρ → tc ρ fun b => if b = true then tb { Dd with nx := fun ρ' => W ρ' ∧ μ ρ' < μ ρ, ct := fun ρ' => W ρ' ∧ μ ρ' < μ ρ, bk := Dd.nx } ρ else Dd.nx ρ) : dWhile tc tb Dd ρ := ⟨W, μ, h0, h⟩
end My
namespace My
open PySem PySem.Spec PyProof.Rows L2
variable [TB]
theorem e_callV {n : Nat} {S : SpD} {ar : TAD} {ρ : Ro} {Q : D → Prop} : dCallV n S ar ρ Q = ar ρ fun xs => ∃ ys, viewAll xs = some ys ∧ ys.length = n ∧ S ys fun x => ∃ d, x = .p d ∧ fl d = true ∧ Q (.p d) := rfl
theorem fl_i {i : Int} : fl (.int i) = true := rfl
theorem fl_s {i : Str} : fl (.str i) = true := rfl
theorem fl_b {i : Bool} : fl (.bool i) = true := rfl
theorem fl_n : fl .none = true := rfl
end My
namespace My
open PySem PySem.Spec PyProof.Rows L2
variable [TB]
section
variable {α : Type} {a b c d : α} {l : List α}
theorem atI_0 : atI (a :: l) 0 = some a := by rw [show (0 : Int) = ((0 : Nat) : Int) from rfl, atI_cast]; rfl
theorem atI_1 : atI (a :: b :: l) 1 = some b := by rw [show (1 : Int) = ((1 : Nat) : Int) from rfl, atI_cast]; rfl
theorem atI_2 : atI (a :: b :: c :: l) 2 = some c := by rw [show (2 : Int) = ((2 : Nat) : Int) from rfl, atI_cast]; rfl
theorem atI_3 : atI (a :: b :: c :: d :: l) 3 = some d := by rw [show (3 : Int) = ((3 : Nat) : Int) from rfl, atI_cast]; rfl
end
end My
namespace My
variable [TB]
theorem e_gNil' {ρ : Ro} {Q : Ro → Prop} : gsNil [] ρ Q = Q ρ := propext ⟨fun h => h.2, fun h => ⟨rfl, h⟩⟩
theorem e_gCons' {g : TGD} {gs : TGsD} {d : PySem.PyData} {r : List PySem.PyData} {ρ : Ro} {Q : Ro → Prop} : gsCons g gs (d :: r) ρ Q = g (.one d) ρ fun ρ' => gs r ρ' Q :=
  propext ⟨fun ⟨_, _, e, h⟩ => by cases e; exact h, fun h => ⟨d, r, rfl, h⟩⟩
theorem e_gTp1' {gs : TGsD} {n : Nat} {ds : List PySem.PyData} {ρ : Ro} {Q : Ro → Prop} : gTp n gs (.one (.tuple ds)) ρ Q = (ds.length = n ∧ gs ds ρ Q) :=
  propext ⟨fun ⟨_, e, h⟩ => by cases e; exact h, fun h => ⟨ds, rfl, h⟩⟩
theorem e_gN' {i : Nat} {d : PySem.PyData} {ρ : Ro} {Q : Ro → Prop} : gN i (.one d) ρ Q = Q (ρ.set i (some (.p d))) := propext ⟨fun ⟨_, e, h⟩ => by cases e; exact h, fun h => ⟨d, rfl, h⟩⟩
end My
set_option maxHeartbeats 4000000
namespace My
open PySem PySem.Spec PyProof.Rows L2
variable [TB]
section
variable {H : Hp} {B : Addr → Prop} {x : V} {d : PyData}
theorem rels_app_leaf (hx : Dt (wo B H) x d) : ∀ {vs : List V} {ms : List M} {f : List Addr}, RelMs H B vs ms f → RelMs H B (vs ++ [x]) (ms ++ [.leaf d]) f
  | _, _, _, .nil => by
    have := RelMs.cons (RelM.leaf hx) (RelMs.nil (H := H) (B := B)) (by intro b hb; cases hb)
    exact this
  | _, _, _, .cons h t n => .cons h (rels_app_leaf hx t) n
/-- the list at p takes one more -/
theorem appM {v : V} {ks : List M} {g : List Addr} (h : RelM H B v (.lst ks) g) (hb : ∀ b ∈ g, B b) : ∃ p xs, v = .ref p ∧ H p = some (.lst xs) ∧ p ∈ g ∧ xs.length = ks.length ∧
    ∀ (x : V) (d : PyData), Dt (wo B H) x d → RelM (upd H p (.lst (xs ++ [x]))) B v (.lst (ks ++ [.leaf d])) g := by
  cases h with
  | @lst p vs _ f hp hs n =>
    refine ⟨p, vs, rfl, hp, List.mem_cons_self, hs.len, fun x d hx => ?_⟩
    have pB : B p := hb p List.mem_cons_self
    have s : Same (wo B H) (wo B (upd H p (.lst (vs ++ [x])))) := wo_mono (fun _ z => z) fun a o na e => by rw [upd_ne (fun z => na (by rw [z]; exact pB))]; exact e
    have hs' := hs.mono s fun b hb' o e => by rw [upd_ne (fun z => n (by rw [← z]; exact hb'))]; exact e
    exact .lst upd_same (rels_app_leaf (Dt.mono s hx) hs') n
/-- .. within a list -/
theorem liftM {v : V} {ms : List M} {f : List Addr} {a : Nat} {m1 m1' : M} {p : Addr} {o : HO} (h : RelM H B v (.lst ms) f) (hb : ∀ b ∈ f, B b) (e : ms[a]? = some m1)
    (U : ∀ u g, RelM H B u m1 g → (∀ b ∈ g, b ∈ f) → (∃ q vs, v = .ref q ∧ H q = some (.lst vs) ∧ vs[a]? = some u) → p ∈ g ∧ RelM (upd H p o) B u m1' g) : RelM (upd H p o) B v (.lst (ms.set a m1')) f := by
  cases h with
  | @lst q vs _ f hp hs n =>
    obtain ⟨u, g, h1, h2, h3⟩ := rels_get hs e
    obtain ⟨pg, _⟩ := U u g h2 (fun b hb' => List.mem_cons_of_mem _ (h3 b hb')) ⟨q, vs, rfl, hp, h1⟩
    have pB : B p := hb p (List.mem_cons_of_mem _ (h3 p pg))
    have hq : q ≠ p := fun z => n (z ▸ h3 p pg)
    refine .lst (by rw [upd_ne hq]; exact hp) (rels_set hs e (fun v' g' e1 r1 g1 => ?_) (fun b hb' => hb b (List.mem_cons_of_mem _ hb')) (fun b u nb e1 => by rw [upd_ne (fun z => nb (by rw [z]; exact pB))]; exact e1)) n
    obtain ⟨pg', r2⟩ := U v' g' r1 (fun b hb' => List.mem_cons_of_mem _ (g1 b hb')) ⟨q, vs, rfl, hp, e1⟩
    exact ⟨r2, fun b u nb e2 => by rw [upd_ne (fun z => nb (by rw [z]; exact pg'))]; exact e2⟩
theorem headM {q : Addr} {ms : List M} {f : List Addr} (h : RelM H B (.ref q) (.lst ms) f) : q ∈ f := by
  cases h with
  | lst _ _ _ => exact List.mem_cons_self
theorem getM {v : V} {ms : List M} {f : List Addr} {a : Nat} {m1 : M} (h : RelM H B v (.lst ms) f) (e : ms[a]? = some m1) : ∃ q vs u g, v = .ref q ∧ H q = some (.lst vs) ∧ vs[a]? = some u ∧ RelM H B u m1 g ∧ ∀ b ∈ g, b ∈ f := by
  cases h with
  | @lst q vs _ f hp hs n =>
    obtain ⟨u, g, h1, h2, h3⟩ := rels_get hs e
    exact ⟨q, vs, u, g, rfl, hp, h1, h2, fun b hb => List.mem_cons_of_mem _ (h3 b hb)⟩
end
def dAppP1 (i ja : Nat) (ta : TAD) : TSD := fun Dd ρ => ∃ (ms : List M) (a : Nat) (ls : List M), ρ[i]? = some (some (.ot (.lst ms))) ∧ ρ[ja]? = some (some (.p (.int (a : Nat)))) ∧ ms[a]? = some (.lst ls) ∧
  ta ρ fun xs => ∃ x d, xs = [x] ∧ x.st = some d ∧ ls.length < sizeLine ∧ Dd.nx (ρ.set i (some (.ot (.lst (ms.set a (.lst (ls ++ [.leaf d])))))))
def dAppP2 (i ja jb : Nat) (ta : TAD) : TSD := fun Dd ρ => ∃ (ms : List M) (a : Nat) (ls : List M) (b : Nat) (ks : List M), ρ[i]? = some (some (.ot (.lst ms))) ∧ ρ[ja]? = some (some (.p (.int (a : Nat)))) ∧ ms[a]? = some (.lst ls) ∧ ρ[jb]? = some (some (.p (.int (b : Nat)))) ∧ ls[b]? = some (.lst ks) ∧
  ta ρ fun xs => ∃ x d, xs = [x] ∧ x.st = some d ∧ ks.length < sizeLine ∧ Dd.nx (ρ.set i (some (.ot (.lst (ms.set a (.lst (ls.set b (.lst (ks ++ [.leaf d])))))))))
section
variable {X : Cx} {st : Stmt} {i ja jb : Nat} {ta : TAD}
theorem fs_appP1 (h : PS X st (tDrop (tBM X.K "list" rAppend (tOp (rIxL X.K) (tVar i) (tVar ja)) (upA X.K ta)))) : FS X st (dAppP1 i ja ta) := by
  refine h.mo ?_
  rintro D σ H ⟨C, ρ, Dd, R, ⟨ms, a, ls, e, ea, e1, h⟩, L⟩
  obtain ⟨φ, T⟩ := R.tre
  obtain ⟨v, g1, g2, g3⟩ := T.rel i _ e
  obtain ⟨w, gw, hw⟩ := R.val ja _ ea
  have hw : w = .int (a : Nat) := by cases hw; rfl
  subst hw
  obtain ⟨q, vs, u, g, rfl, h1, h2, h3, h4⟩ := getM g2 e1
  obtain ⟨p, xs, rfl, h5, h6, h7, h8⟩ := appM h3 fun b hb => .inr (.inr (.inr (g3 b (h4 b hb))))
  refine ⟨_, g1, _, gw, q, vs, a, .ref p, rfl, rfl, SqL.of h1, by rw [atI_cast]; exact h2, .inl ⟨rfl, xs, SqL.of h5⟩, C, ρ, _, R, h, ?_⟩
  rintro us H1 ys R1 k ey ⟨x, d, rfl, hs, hz, q'⟩
  obtain ⟨y, rfl, ey2⟩ := p1 ey
  have keep : ∀ b, C.G b → ∀ o, H b = some o → H1 b = some o := fun b hb o z => k b o (R.ownX (R.g0 b hb).2.1).1 z
  have T1 : Trees C ρ σ H1 φ := T.mono (R.kp k) (fun b o hb z => keep b hb o z) fun _ z => z
  obtain ⟨v', g1', g2', g3'⟩ := T1.rel i _ e
  rw [g1] at g1'; cases g1'
  have hp1 := keep p (g3 p (h4 p h6)) _ h5
  refine ⟨p, xs, y, rfl, rfl, hp1, by rw [h7]; exact hz, ?_⟩
  have dx := R.stOf ey2 hs
  refine L.nx _ _ _ (R1.putT0 T1 e g1 (fun c q z => by rw [hp1] at z; exact lst_code (Option.some.inj z)) (fun u xs z => by rw [hp1] at z; cases z) (h4 p h6) ?_) q'
  refine liftM g2' (fun b hb => .inr (.inr (.inr (g3' b hb)))) e1 fun u' g' r1 r2 r3 => ?_
  obtain ⟨q2, vs2, z1, z2, z3⟩ := r3
  cases z1
  rw [keep q (g3 q (headM g2)) _ h1] at z2
  cases z2
  rw [h2] at z3; cases z3
  obtain ⟨p', xs', e3, h5', h6', h7', h8'⟩ := appM r1 fun b hb => .inr (.inr (.inr (g3' b (r2 b hb))))
  cases e3
  rw [hp1] at h5'; cases h5'
  exact ⟨h6', h8' y d dx⟩
theorem fs_appP2 (h : PS X st (tDrop (tBM X.K "list" rAppend (tOp (rIxL X.K) (tOp (rIxL X.K) (tVar i) (tVar ja)) (tVar jb)) (upA X.K ta)))) : FS X st (dAppP2 i ja jb ta) := by
  refine h.mo ?_
  rintro D σ H ⟨C, ρ, Dd, R, ⟨ms, a, ls, b, ks, e, ea, e1, eb, e2, h⟩, L⟩
  obtain ⟨φ, T⟩ := R.tre
  obtain ⟨v, g1, g2, g3⟩ := T.rel i _ e
  obtain ⟨w, gw, hw⟩ := R.val ja _ ea
  have hw : w = .int (a : Nat) := by cases hw; rfl
  subst hw
  obtain ⟨w, gw2, hw⟩ := R.val jb _ eb
  have hw : w = .int (b : Nat) := by cases hw; rfl
  subst hw
  obtain ⟨q, vs, u, g, rfl, h1, h2, h3, h4⟩ := getM g2 e1
  obtain ⟨q2, vs2, u2, gg, rfl, k1, k2, k3, k4⟩ := getM h3 e2
  obtain ⟨p, xs, rfl, h5, h6, h7, h8⟩ := appM k3 fun b hb => .inr (.inr (.inr (g3 b (h4 b (k4 b hb)))))
  refine ⟨_, g1, _, gw, q, vs, a, .ref q2, rfl, rfl, SqL.of h1, by rw [atI_cast]; exact h2, _, gw2, q2, vs2, b, .ref p, rfl, rfl, SqL.of k1, by rw [atI_cast]; exact k2, .inl ⟨rfl, xs, SqL.of h5⟩, C, ρ, _, R, h, ?_⟩
  rintro us H1 ys R1 k ey ⟨x, d, rfl, hs, hz, q'⟩
  obtain ⟨y, rfl, ey2⟩ := p1 ey
  have keep : ∀ b, C.G b → ∀ o, H b = some o → H1 b = some o := fun b hb o z => k b o (R.ownX (R.g0 b hb).2.1).1 z
  have T1 : Trees C ρ σ H1 φ := T.mono (R.kp k) (fun b o hb z => keep b hb o z) fun _ z => z
  obtain ⟨v', g1', g2', g3'⟩ := T1.rel i _ e
  rw [g1] at g1'; cases g1'
  have pin : p ∈ φ i := h4 p (k4 p h6)
  have hp1 := keep p (g3 p pin) _ h5
  refine ⟨p, xs, y, rfl, rfl, hp1, by rw [h7]; exact hz, ?_⟩
  have dx := R.stOf ey2 hs
  refine L.nx _ _ _ (R1.putT0 T1 e g1 (fun c q z => by rw [hp1] at z; exact lst_code (Option.some.inj z)) (fun u xs z => by rw [hp1] at z; cases z) pin ?_) q'
  have h1' := keep q (g3 q (headM g2)) _ h1
  have k1' := keep q2 (g3 q2 (h4 q2 (headM h3))) _ k1
  refine liftM g2' (fun b hb => .inr (.inr (.inr (g3' b hb)))) e1 fun u' g' r1 r2 r3 => ?_
  obtain ⟨q3, vs3, z1, z2, z3⟩ := r3
  cases z1
  rw [h1'] at z2
  cases z2
  rw [h2] at z3; cases z3
  have inner := liftM (p := p) (o := .lst (xs ++ [y])) (m1' := .lst (ks ++ [.leaf d])) r1 (fun b hb => .inr (.inr (.inr (g3' b (r2 b hb))))) e2 fun u2 g2 s1 s2 s3 => by
    obtain ⟨q4, vs4, z1, z2, z3⟩ := s3
    cases z1
    rw [k1'] at z2
    cases z2
    rw [k2] at z3; cases z3
    obtain ⟨p', xs', e3, h5', h6', h7', h8'⟩ := appM s1 fun b hb => .inr (.inr (.inr (g3' b (r2 b (s2 b hb)))))
    cases e3
    rw [hp1] at h5'; cases h5'
    exact ⟨h6', h8' y d dx⟩
  refine ⟨?_, inner⟩
  obtain ⟨q5, vs5, u5, g5, y1, y2, y3, y4, y5⟩ := getM r1 e2
  cases y1
  rw [k1'] at y2; cases y2
  rw [k2] at y3; cases y3
  obtain ⟨p', xs', e3, h5', h6', _⟩ := appM y4 fun b hb => .inr (.inr (.inr (g3' b (r2 b (y5 b hb)))))
  cases e3
  exact y5 _ h6'
end
end My
set_option maxHeartbeats 4000000
namespace My
open PySem PySem.Spec PyProof.Rows L2
variable [TB]
/-- a, b = l.pop() -/
def dPopG (i : Nat) (g : TGD) : TSD := fun Dd ρ => ∃ ds d, ρ[i]? = some (some (.own (ds ++ [d]))) ∧ g (.one d) (ρ.set i (some (.own ds))) Dd.nx
section
variable {X : Cx}
theorem fs_popG {st : Stmt} {i : Nat} {l : List Nat} {g : TGD} (h : PS X st (tAsg (tBM0 X.K "list" rPop (tVar i)) (upG X.K l g))) : FS X st (dPopG i g) := by
  refine h.mo ?_
  rintro D σ H ⟨C, ρ, Dd, R, ⟨ds, d, e, q⟩, L⟩
  obtain ⟨v, h1, p, us, rfl, h2, h3, h4, h5⟩ := R.val i _ e
  have hl : us.length = ds.length + 1 := by rw [h3.length]; simp
  have hne : us ≠ [] := fun z => by rw [z] at hl; simp at hl
  obtain ⟨w, hw, hd⟩ := h3.of (i := ds.length) (d := d) (by simp)
  have e1 : us[us.length - 1]? = some w := by rw [hl]; exact hw
  refine ⟨.ref p, h1, .inl ⟨rfl, us, SqL.of h2⟩, p, us, w, rfl, rfl, h2, e1, ?_⟩
  have dr : DtAll (wo (bad C ρ σ) H) us.dropLast ds := by
    have := h3.take (us.length - 1)
    rw [List.dropLast_eq_take]
    have e2 : (ds ++ [d]).take (us.length - 1) = ds := by rw [hl]; simp
    rw [e2] at this
    exact this
  have R2 := R.put e h1 h2 dr (by simp at h5; omega)
  have pb : bad C ρ σ p := .inr (.inr (.inl ⟨i, _, e, h1⟩))
  have hd2 : Dt (wo (bad C (ρ.set i (some (.own ds))) σ) (upd H p (.lst us.dropLast))) w d := by
    refine Dt.mono (fun a o ea => ?_) hd
    obtain ⟨f1, f2⟩ := wo_of ea
    refine wo_mk (fun z => f1 ?_) (by rw [upd_ne (fun (z : a = p) => f1 (by rw [z]; exact pb))]; exact f2)
    rcases z with z | z | ⟨m, es, g1, g2⟩ | z
    · exact .inl z
    · exact .inr (.inl z)
    · by_cases im : i = m
      · subst im; exact .inr (.inr (.inl ⟨i, _, e, g2⟩))
      · rw [List.getElem?_set_ne im] at g1; exact .inr (.inr (.inl ⟨m, es, g1, g2⟩))
    · exact .inr (.inr (.inr z))
  exact ⟨C, ρ.set i (some (.own ds)), .one d, _, R2, hd2, q, fun ρ' σ' R' _ _ q => L.nx ρ' σ' _ R' q⟩
end
end My
set_option maxHeartbeats 4000000
namespace My
open PySem PySem.Spec PyProof.Rows L2
variable [TB]
def tf : PyData → Bool
  | .tuple ds => ds.all fl
  | d => fl d
def D.vw : D → Option D
  | .ot _ => none
  | x => x.view
def vwAll : List D → Option (List D)
  | [] => some []
  | x :: xs => match x.vw, vwAll xs with
    | some d, some ds => some (d :: ds)
    | _, _ => none
def dCallW (n : Nat) (S : SpD) (t : TAD) : TED := fun ρ Q => t ρ fun xs => ∃ ys, vwAll xs = some ys ∧ ys.length = n ∧ S ys fun x => ∃ d, x = .p d ∧ tf d = true ∧ Q (.p d)
theorem e_callW {n : Nat} {S : SpD} {ar : TAD} {ρ : Ro} {Q : D → Prop} : dCallW n S ar ρ Q = ar ρ fun xs => ∃ ys, vwAll xs = some ys ∧ ys.length = n ∧ S ys fun x => ∃ d, x = .p d ∧ tf d = true ∧ Q (.p d) := rfl
end My
set_option maxHeartbeats 1000000
namespace My
open PySem PySem.Spec PyProof.Rows L2
/-- one more entry, when the test says so; then Nx -/
def dkPut (w : World) (D : Addr) (tk tv : TE) (σ : L2.St) (Nx : Hp → Prop) (H : Hp) : Prop := tk σ H fun y H4 => tv σ H4 fun z H5 => ∃ kvs k, IsDic w H5 D kvs ∧ UniK H5 kvs y k ∧ kvs.length < sizeLine ∧ ((kvs.map (·.1)).Nodup → ∀ en, Nx (upd H5 D (DicO w D (putD kvs k y z) en)))
/-- D: the new dict -/
def tDk (w : World) (wi : TI) (g : TG) (tt : TT) (tk tv : TE) (vs : List Nat) : TE := fun σ H Q => wi σ H fun J H1 => ∀ D, H1 D = none → ∃ W : Nat → Nat → Hp → Prop, (∃ m, W 0 m (upd H1 D (DicO w D [] 0))) ∧ ∀ i m H, W i m H →
  (J.stop i H ∧ Q (.ref D) H) ∨ (J.go i H ∧ ∃ Nx : Hp → Prop, (∀ H', Nx H' → ∃ m', m' < m ∧ W (i + 1) m' H') ∧ ∀ x H', J.yld i H x H' → g x (wipe σ vs) H' fun σ2 H2 => wipe σ2 vs = wipe σ vs ∧ tt σ2 H2 fun b H3 => if b = true then dkPut w D tk tv σ2 Nx H3 else Nx H3)
section
variable {X : Cx}
theorem dk_core {pins : List (Addr × Obj)} {s : Shared} {σ : L2.St} {H : Hp} {Q : VK} {kx vx tg iter : Expr} {ifs : List Expr} {scope : Scope} {own : List (Str × Nat)} {pos pos' : Pos} {wi : TI} {g : TG} {tt : TT} {tk tv : TE} {use : Option (Value → Sem Unit)} {Qf : Value → Shared → Prop}
    (hc : X.calm = true) (hN : X.N.Nodup) (hu : X.A.units + 9 < cLine) (I : Inv X pins σ H s) (hi : PI X tg iter wi) (ok : BlkOk X.N X.env.scope scope own)
    (hg : ∀ (s : Shared) (H : Hp) (C : Addr) (cl : List (Str × Addr)) (fp : List Addr), PG (X.blk s H scope (compEnvC scope cl C X.env) fp) tg g) (ht : ∀ (s : Shared) (H : Hp) (C : Addr) (cl : List (Str × Addr)) (fp : List Addr), PTs (X.blk s H scope (compEnvC scope cl C X.env) fp) ifs tt)
    (hk : ∀ (s : Shared) (H : Hp) (C : Addr) (cl : List (Str × Addr)) (fp : List Addr), PE (X.blk s H scope (compEnvC scope cl C X.env) fp) kx tk) (hv : ∀ (s : Shared) (H : Hp) (C : Addr) (cl : List (Str × Addr)) (fp : List Addr), PE (X.blk s H scope (compEnvC scope cl C X.env) fp) vx tv) (hs : ∀ x, foldedSetIterable iter X.env x = pure x)
    (h : tDk X.w wi g tt tk tv (own.map (·.2)) σ H Q)
    (hRR : ∀ D C s' m H', Inv X pins σ H' s' → Q (.ref D) H' → s'.heap.Ns C m → FpOk X pins H' C → compPost (model X.prog X.w) X.A X.xe use Qf (.ref D) C (.ok .next) s') :
    wpAny (model X.prog X.w) X.A (comprehension (.DictComp kx vx [⟨tg, iter, ifs, 0⟩] scope pos) scope X.env pos' newDict false (eval iter X.env) use) Qf X.xe s := by
  have hfree : ∀ y ∈ scope.names, y.2 = .free → ∃ c, X.env.cells.lookup y.1 = some c := fun y hy e =>
    (ok.free y hy e).elim (fun k => I.ok.has _ (.inl k)) fun k => I.ok.has _ (.inr k)
  refine wpAny_comprehension_free (use := use) rfl hs (closure_ok hfree) ok.kind (fun y hy e => by rw [ok.uniq y hy, e])
    (thn (hi.run pins s σ H _ I h) fun xv s1 hx => thn hx fun itv s2 h2 => ?_)
  obtain ⟨it, fp, tn, J, H2, e, I2, T, st2, f2, q⟩ := h2
  subst e
  refine wpAny_newObj_type (newEnv_comp ?_)
  generalize hD : s2.heap.objs.size = D
  have hDn : H2 D = none := I2.hok.fresh (Nat.le_of_eq hD)
  obtain ⟨W, ⟨m0, w0⟩, turn⟩ := q D hDn
  generalize hs3 : ({ s2 with heap := s2.heap.push { cls := .type "dict", data := .dict #[] } } : Shared) = s3
  have I3 : Inv X pins σ (upd H2 D (DicO X.w D [] 0)) s3 := by
    subst hD
    rw [← hs3]
    exact I2.laid (t' := s2.toks) (fun b o e => Heap.get?_push_of_some _ e) (Nat.le_refl _) ((dic_empty X.w s2.heap I2.big).ok2 ⟨_, _, Heap.get?_push_size _ rfl, rfl⟩)
  have h3 : s3.heap = s2.heap.push { cls := .type "dict", data := .dict #[] } := by rw [← hs3]
  have f3 : ∀ b ∈ fp, FpOk X pins (upd H2 D (DicO X.w D [] 0)) b ∧ b < s3.heap.objs.size := fun b hb => by
    obtain ⟨o, e, _⟩ := T.obj _ _ st2 b hb
    have hlt := Heap.lt_size e
    refine ⟨⟨?_, (f2 b hb).2⟩, by rw [h3, Heap.size_push]; exact Nat.lt_succ_of_lt hlt⟩
    rw [upd_ne (by rw [← hD]; exact Nat.ne_of_lt hlt)]
    exact (f2 b hb).1
  have st3 : tn 0 s3.heap := T.keep _ _ _ st2 fun b _ o e => by rw [h3]; exact Heap.get?_push_of_some _ e
  have I4 := block_start I3 ok hN f3
  have pg := hg s3 (upd H2 D (DicO X.w D [] 0)) s3.heap.objs.size (cellsFrom (s3.heap.objs.size + 1) scope.names (cloFrom X.env.cells scope.names [])) fp
  have pt := ht s3 (upd H2 D (DicO X.w D [] 0)) s3.heap.objs.size (cellsFrom (s3.heap.objs.size + 1) scope.names (cloFrom X.env.cells scope.names [])) fp
  have pk := hk s3 (upd H2 D (DicO X.w D [] 0)) s3.heap.objs.size (cellsFrom (s3.heap.objs.size + 1) scope.names (cloFrom X.env.cells scope.names [])) fp
  have pv := hv s3 (upd H2 D (DicO X.w D [] 0)) s3.heap.objs.size (cellsFrom (s3.heap.objs.size + 1) scope.names (cloFrom X.env.cells scope.names [])) fp
  show codeAny _ _ (.compStart (.DictComp kx vx [⟨tg, iter, ifs, 0⟩] scope pos) 0 (.ref it) (.ref D) (compEnvC scope (cellsFrom (s3.heap.objs.size + 1) scope.names (cloFrom X.env.cells scope.names [])) s3.heap.objs.size X.env)) (compPost (model X.prog X.w) X.A X.xe use Qf (.ref D) s3.heap.objs.size)
    { s3 with heap := pushCells (s3.heap.push { cls := .type "dict", data := .dict #[] }) scope.names }
  have nfp : ∀ b ∈ fp, (upd H2 D (DicO X.w D [] 0)) b = none := fun b hb => (f3 b hb).1.1
  have cL : (compEnvC scope (cellsFrom (s3.heap.objs.size + 1) scope.names (cloFrom X.env.cells scope.names [])) s3.heap.objs.size X.env).locals = s3.heap.objs.size := rfl
  generalize hce : compEnvC scope (cellsFrom (s3.heap.objs.size + 1) scope.names (cloFrom X.env.cells scope.names [])) s3.heap.objs.size X.env = ce at I4 pg pt pk pv cL ⊢
  generalize hH3 : upd H2 D (DicO X.w D [] 0) = H3 at I3 I4 pg pt pk pv w0 nfp f3
  generalize hs4 : ({ s3 with heap := pushCells (s3.heap.push { cls := .type "dict", data := .dict #[] }) scope.names } : Shared) = s4 at I4 ⊢
  have st4 : tn 0 s4.heap := T.keep _ _ _ st3 fun b _ o e => by rw [← hs4]; exact pushCells_keeps _ _ _ _ (Heap.get?_push_of_some _ e)
  have stat : ∀ {σ' : L2.St} {H' : Hp} {s' : Shared}, Inv (X.blk s3 H3 scope ce fp) [] σ' H' s' → (∀ b ∈ fp, H' b = none) → ∀ b ∈ fp, FpOk (X.blk s3 H3 scope ce fp) [] H' b := fun {σ' H' s'} I' hn b hb =>
    ⟨hn b hb, (I'.ok.exf b hb).1, I'.ok.exfs b hb, .inl hb, fun x c e => (I'.ok.exf b hb).2 x c e, fun p hp => absurd (show p ∈ ([] : List (Addr × Obj)) ++ [] from hp) (by simp)⟩
  have loop : codeAny (model X.prog X.w) X.A (.compLoop (.DictComp kx vx [⟨tg, iter, ifs, 0⟩] scope pos) 0 (.ref it) (.ref D) ce) (compPost (model X.prog X.w) X.A X.xe use Qf (.ref D) s3.heap.objs.size) s4 := by
    refine L2.compLoop_anyD (fun n s' => ∃ i H', Inv (X.blk s3 H3 scope ce fp) [] (wipe σ (own.map (·.2))) H' s' ∧ tn i s'.heap ∧ (∀ b ∈ fp, H' b = none) ∧ W i n H') ?_ m0 ⟨0, H3, I4, st4, nfp, w0⟩
    rintro n s5 ⟨i, H5, I5, st5, n5, w5⟩
    rcases turn i n H5 w5 with ⟨stop, qq⟩ | ⟨go, Nx, hNx, step⟩
    · refine thnF (T.done (X.blk s3 H3 scope ce fp) rfl rfl rfl hc i [] s5 _ H5 (fun _ _ => False) I5 (stat I5 n5) st5 stop) fun r s6 ⟨hr, I6⟩ => ?_
      subst hr
      have I7 : Inv X pins σ H5 s6 := I3.call' (ch := fp) I6.os I6.base I6.hok I6.bare fun b hb =>
        ⟨(f3 b hb).1.2.2.2.1, (f3 b hb).1.2.1, (f3 b hb).1.2.2.2.2.1, (f3 b hb).1.2.2.2.2.2⟩
      have nC : H5 s3.heap.objs.size = none := by
        have z : H5 ce.locals = none := I6.free
        rwa [cL] at z
      obtain ⟨m, hn, _⟩ := I6.loc
      have hn : s6.heap.Ns ce.locals m := hn
      rw [cL] at hn
      exact hRR D s3.heap.objs.size s6 m H5 I7 qq hn (I3.fpOk (Nat.le_refl _) nC)
    · refine thnF (T.item (X.blk s3 H3 scope ce fp) rfl rfl rfl hc i [] s5 _ H5 (fun _ _ => False) I5 (stat I5 n5) st5 go) fun r s6 ⟨u, hr1, h6⟩ => ?_
      subst hr1
      refine thnF h6 fun _ s7 ⟨x, H7, I7, r7, y7, st7, n7⟩ => ?_
      have I7' := I7.pinned (stat I7 n7) (T.obj _ _ st7)
      refine thnF (pg.run _ s7 _ H7 x u _ I7' r7 (step x H7 y7)) fun _ s8 ⟨σ8, H8, I8, hw8, q8⟩ => ?_
      refine thnF (pt.run _ s8 σ8 H8 _ I8 q8) fun b s9 ⟨H9, I9, q9⟩ => ?_
      have fin : ∀ {s' : Shared} {H' : Hp}, Inv (X.blk s3 H3 scope ce fp) ([] ++ pinsAt fp s7.heap) σ8 H' s' → Nx H' →
          ∃ m, m < n ∧ ∃ i H', Inv (X.blk s3 H3 scope ce fp) [] (wipe σ (own.map (·.2))) H' s' ∧ tn i s'.heap ∧ (∀ b ∈ fp, H' b = none) ∧ W i m H' := fun {s' H'} I' nx => by
        obtain ⟨m', hm, w'⟩ := hNx H' nx
        have pin' : ∀ b ∈ fp, ∀ o, s7.heap.get? b = some o → s'.heap.get? b = some o ∧ H' b = none := fun b hb o e =>
          let z := I'.pin (b, o) (List.mem_append_right _ (List.mem_append_right _ (mem_pinsAt hb e)))
          ⟨z.1, z.2.1⟩
        refine ⟨m', hm, i + 1, H', (I'.unpinned (pins := [])).weak ?_ (fun j v e => ?_), T.keep _ _ _ st7 fun b hb o e => (pin' b hb o e).1, fun b hb => ?_, w'⟩
        · rw [← wipe_length σ8 (own.map (·.2)), hw8]
        · rw [← hw8] at e
          exact (wipe_some e).1
        · obtain ⟨o, e, _⟩ := T.obj _ _ st7 b hb
          exact (pin' b hb o e).2
      cases b with
      | false =>
        simp only [Bool.false_eq_true, if_false] at q9 ⊢
        exact fin I9 q9
      | true =>
        simp only [if_true] at q9 ⊢
        refine thnF (pk.run _ s9 σ8 H9 _ I9 q9) fun z s10 ⟨yk, H10, I10, r10, q10⟩ => thnF (pv.run _ s10 σ8 H10 _ I10 q10) fun z2 s11 ⟨yv, H11, I11, r11, kvs, k, hD11, un11, hz11, nx⟩ => ?_
        exact dc_dset (X := X.blk s3 H3 scope ce fp) hu I11 hD11 un11 hz11 r10 r11 fun en s12 I12 => fin I12 (nx (dc_raw I11 hD11).n en)
  exact codeAny_compStart_dict loop (T.self X.A 0 _ _ _ st4 loop)
end
variable [TB]
def putP (acc : List PyData × List PyData) (d e : PyData) : List PyData × List PyData := match kIx acc.1 d with
  | some j => (acc.1, acc.2.set j e)
  | none => (acc.1 ++ [d], acc.2 ++ [e])
def lcK (el : ItD → (Option (PyData × PyData) → Prop) → Prop) : List ItD → List PyData × List PyData → (List PyData × List PyData → Prop) → Prop
  | [], acc, Q => Q acc
  | x :: xs, acc, Q => el x fun o => match o with
    | none => lcK el xs acc Q
    | some p => uniB acc.1 p.1 = true ∧ acc.1.length < sizeLine ∧ lcK el xs (putP acc p.1 p.2) Q
def elK (g : TGD) (tt : TTD) (tk tv : TED) (x : ItD) (ρ : Ro) (K : Option (PyData × PyData) → Prop) : Prop := g x ρ fun ρ2 => tt ρ2 fun b => if b = true then tk ρ2 fun y => ∃ k, y = .p k ∧ tv ρ2 fun z => ∃ e, z.st = some e ∧ K (some (k, e)) else K none
def dicP (acc : List PyData × List PyData) : M := .dic acc.1 (acc.2.map .leaf)
def dDk (ti : TID) (g : TGD) (tt : TTD) (tk tv : TED) (vs : List Nat) : TED := fun ρ Q => ti ρ fun items => lcK (fun x K => elK g tt tk tv x (dWipe ρ vs) K) items ([], []) fun acc => Q (.nt (dicP acc))
theorem putP_M (acc : List PyData × List PyData) (d e : PyData) : putM acc.1 (acc.2.map .leaf) d e = dicP (putP acc d e) := by
  unfold putM putP dicP
  cases kIx acc.1 d with
  | some j => simp only [List.map_set]
  | none => simp only [List.map_append, List.map_cons, List.map_nil]
theorem putP_len {acc : List PyData × List PyData} {d e : PyData} (h : acc.1.length = acc.2.length) : (putP acc d e).1.length = (putP acc d e).2.length ∧ (putP acc d e).1.length ≤ acc.1.length + 1 := by
  unfold putP
  cases kIx acc.1 d with
  | some j => exact ⟨by rw [List.length_set]; exact h, Nat.le_succ _⟩
  | none => exact ⟨by rw [List.length_append, List.length_append, h]; rfl, by rw [List.length_append]; exact Nat.le_refl _⟩
theorem kIx_lt : ∀ {ks : List PyData} {d : PyData} {j : Nat}, kIx ks d = some j → j < ks.length
  | [], d, j, h => by cases h
  | q :: ks, d, j, h => by
    unfold kIx at h
    split at h
    · cases h; exact Nat.succ_pos _
    · cases w : kIx ks d with
      | none => rw [w] at h; cases h
      | some i => rw [w] at h; cases h; exact Nat.succ_lt_succ (kIx_lt w)
section
variable {K : PySem.W.Frag} {C : Cd} {ρ : Ro} {σ : L2.St} {H H1 H2 H' : Hp}
theorem relM_dic {B : Addr → Prop} {p : Addr} {ks : List PyData} {ms : List M} {f : List Addr} (h : RelM H B (.ref p) (.dic ks ms) f) : ∃ kvs f', f = p :: f' ∧ IsDic TB.w H p kvs ∧ DtAll (wo B H) (kvs.map (·.2.1)) ks ∧ ks.map canon = kvs.map (fun q => some q.1) ∧ RelMs H B (kvs.map (·.2.2)) ms f' ∧ p ∉ f' := by
  cases h with
  | dic a b c d n => exact ⟨_, _, rfl, a, b, c, d, n⟩
theorem up_dk {ti : TID} {l : List Nat} {g : TGD} {tt : TTD} {tk tv : TED} {vs : List Nat} (hl : ∀ j ∈ l, j ∈ vs) : ∀ σ H Q, up K (dDk ti g tt tk tv vs) σ H Q → tDk TB.w (upI K ti) (upG K l g) (upT K tt) (up K tk) (up K tv) vs σ H Q := by
  rintro σ H Q ⟨C, ρ, Qd, R, h, post⟩
  refine ⟨C, ρ, _, R, h, ?_⟩
  rintro J H1 items pins R1 k1 wk q D hD
  have hD0 : H D = none := k1.free (R1.t1 hD) hD
  have hH0 : C.H0 D = none := R.h0n hD0
  have nDt : nx C.t D := R1.t1 hD
  have n0 : ¬ C.S0 D := R.s0n hH0
  have n3 : D ≠ C.t.2 := fun z => n0 (z ▸ R.s2)
  have bd : bad ((C.add pins).at D) ρ σ D := .inr (.inl (.inr rfl))
  -- what holds ahead of a turn
  refine ⟨fun i m Hc => m = items.length - i ∧ i ≤ items.length ∧ Kq C.t H1 Hc ∧ ∃ acc : List PyData × List PyData, Rep K ((C.add pins).at D) ρ σ Hc ∧ RelM Hc (bad ((C.add pins).at D) ρ σ) (.ref D) (dicP acc) [D] ∧ acc.1.length = acc.2.length ∧
      acc.1.length ≤ sizeLine ∧ lcK (fun x K => elK g tt tk tv x (dWipe ρ vs) K) (items.drop i) acc fun acc => Qd (.nt (dicP acc)),
    ⟨_, rfl, Nat.zero_le _, Kq.new hD, ([], []), R1.open hD, .dic (kvs := []) ⟨_, upd_same⟩ .nil rfl .nil (by simp), rfl, Nat.zero_le _, by simpa using q⟩, ?_⟩
  rintro i m Hc ⟨rfl, hi, kc, acc, RD, hacc, hll, hz, q⟩
  by_cases hlt : i < items.length
  · right
    rw [List.drop_eq_getElem_cons hlt] at q
    obtain ⟨go, hy⟩ := wk.go ((C.add pins).at D) ρ σ Hc i _ rfl (has_add pins) RD (List.getElem?_eq_getElem hlt)
    refine ⟨go, fun H' => i < items.length ∧ Kq C.t H1 H' ∧ ∃ acc : List PyData × List PyData, Rep K ((C.add pins).at D) ρ σ H' ∧ RelM H' (bad ((C.add pins).at D) ρ σ) (.ref D) (dicP acc) [D] ∧ acc.1.length = acc.2.length ∧
      acc.1.length ≤ sizeLine ∧ lcK (fun x K => elK g tt tk tv x (dWipe ρ vs) K) (items.drop (i + 1)) acc fun acc => Qd (.nt (dicP acc)), ?_, ?_⟩
    · rintro H' ⟨h1, h2, h3⟩
      exact ⟨items.length - (i + 1), by omega, rfl, h1, h2, h3⟩
    · intro x H' y
      obtain ⟨k2, R2, r2⟩ := hy x H' y
      have k2 : Kq C.t Hc H' := k2
      refine ⟨((C.add pins).at D).wp ρ σ vs, dWipe ρ vs, items[i], _, R2.wiped vs, rel_wp r2, q, fun ρ2 σ2 R3 a3 s3 q3 => ⟨wipe_agr a3.1 hl, ?_⟩⟩
      refine ⟨((C.add pins).at D).wp ρ σ vs, ρ2, _, R3, q3, fun b H3 R4 k4 q4 => ?_⟩
      have k4 : Kq C.t H' H3 := k4
      have keep : ∀ {Ha Hb : Hp}, Kq C.t Ha Hb → ∀ b ∈ [D], ∀ o, Ha b = some o → Hb b = some o := fun k b hb o e => by
        rw [List.mem_singleton.mp hb] at e ⊢
        exact k D o nDt e
      cases b with
      | false =>
        rw [if_neg Bool.false_ne_true] at q4
        show (if false = true then _ else _)
        rw [if_neg Bool.false_ne_true]
        have k : Kq C.t Hc H3 := k2.trans k4
        exact ⟨hlt, kc.trans k, acc, RD.step (C := (C.add pins).at D) k R4.tp R4.tab, hacc.mono (RD.kp (C := (C.add pins).at D) k) (keep k), hll, hz, q4⟩
      | true =>
        rw [if_pos rfl] at q4
        show (if true = true then _ else _)
        rw [if_pos rfl]
        refine ⟨((C.add pins).at D).wp ρ σ vs, ρ2, _, R4, q4, ?_⟩
        rintro yv H4 y R5 k5 e5 ⟨d, rfl, q5⟩
        have k5 : Kq C.t H3 H4 := k5
        refine ⟨((C.add pins).at D).wp ρ σ vs, ρ2, _, R5, q5, ?_⟩
        rintro zv H5 z R6 k6 e6 ⟨ev, hev, un, hz', q6⟩
        have k6 : Kq C.t H4 H5 := k6
        have k : Kq C.t Hc H5 := ((k2.trans k4).trans k5).trans k6
        have RD' := RD.step (C := (C.add pins).at D) k R6.tp R6.tab
        obtain ⟨kvs, f', ef, hD5, hk5, hc5, hm5, nf5⟩ := relM_dic (hacc.mono (RD.kp (C := (C.add pins).at D) k) (keep k))
        obtain rfl : f' = [] := by cases ef; rfl
        have n1 : ¬ ownAt ρ σ D := by
          rintro ⟨j, ds, f1, f2⟩
          obtain ⟨w, g1, p, ws, rfl, g3, g4, g5, g6⟩ := RD'.val j _ f1
          rw [f2] at g1
          cases g1
          exact g5.2 (.inr rfl)
        have sb : ∀ Hx : Hp, Same (wo (bad (((C.add pins).at D).wp ρ σ vs) ρ2 σ2) Hx) (wo (bad ((C.add pins).at D) ρ σ) Hx) := fun Hx => wo_mono (fun b z => by
          rcases bad_wp.mpr z with z | z | ⟨j, ds, f1, f2⟩ | z
          · exact .inl z
          · exact .inr (.inl z)
          rotate_left
          · exact .inr (.inr (.inr z))
          · have nj := (dWipe_some f1).2
            exact .inr (.inr (.inl ⟨j, ds, by rw [a3.2.2 j (fun z => nj (hl j z))]; exact f1, by rw [a3.1.2 j (fun z => nj (hl j z))]; exact f2⟩))) fun _ _ _ e => e
        have gy : Dt (wo (bad ((C.add pins).at D) ρ σ) H5) yv d := Dt.mono (sb H5) (Dt.mono (R5.kp (C := ((C.add pins).at D).wp ρ σ vs) k6) e5)
        have gv : Dt (wo (bad ((C.add pins).at D) ρ σ) H5) zv ev := Dt.mono (sb H5) (R5.stOf e6 hev)
        obtain ⟨key, ek⟩ := uni_some un
        have hkl : kvs.length = acc.1.length := by have := hk5.length; rwa [List.length_map] at this
        refine ⟨kvs, key, hD5, uni_of hk5 hc5 gy ek un, by rw [hkl]; exact hz', fun nd en => ?_⟩
        obtain ⟨en0, hD5⟩ := hD5
        have hR : Rep K ((C.add pins).at D) ρ σ (upd H5 D (DicO TB.w D (putD kvs key yv zv) en)) := Rep.grow (C := C.add pins) RD' hD5 (fun _ _ z => by cases z) (fun c q => by rw [hD5]; exact fun z => dic_code (Option.some.inj z)) n0 n1 nDt n3 hH0
        have rel := rel_put (en := en) rfl nd hk5 hc5 hm5 nf5 bd (fun b hb => by cases hb) ek gy gv fun j hj => by
          have hj2 : j < acc.2.length := by rw [← hll]; exact kIx_lt hj
          exact ⟨acc.2[j], by rw [List.getElem?_map, List.getElem?_eq_getElem hj2]; rfl⟩
        rw [putP_M] at rel
        obtain ⟨p1, p2⟩ := putP_len (d := d) (e := ev) hll
        refine ⟨hlt, fun b o nb e => ?_, putP acc d ev, hR, rel, p1, by omega, q6⟩
        rw [upd_ne (ne_of_none e hD)]
        exact (kc.trans k) b o nb e
  · left
    have e : i = items.length := by omega
    subst e
    rw [List.drop_length] at q
    have kq : Kq C.t H Hc := k1.trans kc
    refine ⟨wk.stop ((C.add pins).at D) ρ σ Hc rfl (has_add pins) RD, post (.ref D) Hc (.nt (dicP acc)) RD.shut.unpin kq ⟨[D], fun b hb => by rw [List.mem_singleton.mp hb]; exact hD0, ?_⟩ q⟩
    exact hacc.mono (wo_mono (fun b z => bad_at.mpr (z.elim (fun z => .inl z) fun z => .inr (List.mem_singleton.mp z))) fun _ _ _ e => e) fun _ _ _ e => e
end
end My
namespace My
open PySem PySem.Spec PyProof.Rows L2
section
variable {X : Cx}
theorem ps_setDkX {i : Nat} {y : Str} {py : Pos} {kx vx tg iter : Expr} {ifs : List Expr} {scope : Scope} {own : List (Str × Nat)} {pos spos : Pos} {wi : TI} {g : TG} {tt : TT} {tk tv : TE} (hc : X.calm = true) (hN : X.N.Nodup) (hu : X.A.units + 9 < cLine) (hy : X.N[i]? = some y) (hyl : X.env.scope.names.lookup y = some .local)
    (hsw : swapsWith (.DictComp kx vx [⟨tg, iter, ifs, 0⟩] scope pos) (some (.Name y py)) spos.line X.env = pure true) (hi : PI X tg iter wi) (ok : BlkOk X.N X.env.scope scope own)
    (hg : ∀ (s : Shared) (H : Hp) (C : Addr) (cl : List (Str × Addr)) (fp : List Addr), PG (X.blk s H scope (compEnvC scope cl C X.env) fp) tg g) (ht : ∀ (s : Shared) (H : Hp) (C : Addr) (cl : List (Str × Addr)) (fp : List Addr), PTs (X.blk s H scope (compEnvC scope cl C X.env) fp) ifs tt)
    (hk : ∀ (s : Shared) (H : Hp) (C : Addr) (cl : List (Str × Addr)) (fp : List Addr), PE (X.blk s H scope (compEnvC scope cl C X.env) fp) kx tk) (hv : ∀ (s : Shared) (H : Hp) (C : Addr) (cl : List (Str × Addr)) (fp : List Addr), PE (X.blk s H scope (compEnvC scope cl C X.env) fp) vx tv) (hs : ∀ x, foldedSetIterable iter X.env x = pure x := by intro _; rfl) :
    PS X (.Assign [.Name y py] (.DictComp kx vx [⟨tg, iter, ifs, 0⟩] scope pos) spos) (tAsg (tDk X.w wi g tt tk tv (own.map (·.2))) (gName i)) := by
  constructor
  intro pins s σ H D I h
  have h : tDk X.w wi g tt tk tv (own.map (·.2)) σ H (fun v H1 => gName i v σ H1 D.nx) := h
  rw [exec_Assign_Name_used _ _ _ _ hsw]
  refine wpAny_bind (wpAny_standAt (wpAny_bind ?_))
  show wpAny _ X.A (do let _ ← comprehension (.DictComp kx vx [⟨tg, iter, ifs, 0⟩] scope pos) scope X.env (firstIterPos [⟨tg, iter, ifs, 0⟩] pos) newDict false (eval iter X.env) (some (assign (.Name y py) X.env))) _ _ s
  refine wpAny_bind (thn (dk_core (Qf := fun _ s' => SP X pins D .next s') hc hN hu I hi ok hg ht hk hv hs h ?_) fun _ s' hq => wpAny_pure (wpAny_pure hq))
  rintro L C s' m H' I' q hn ⟨f0, f1, f2, f3, f4, f5⟩
  show wpAny _ _ (assign (.Name y py) X.env (.ref L)) _ _ _
  refine wpAny_assign_Name (store_ok2 (v := V.ref L) I' hN hy (.inl hyl) rfl ?_ (.inr hyl))
  rintro s2 I2 ⟨b, sb, hb⟩
  have apart : C ≠ b := hb.elim (fun z => by rw [z]; exact f1) fun z e => f4 y b z e.symm
  refine ⟨m, hn.sameBut sb apart, fun h3 sb3 => ⟨_, _, I2.turned (t' := s2.toks) (fun b o hb e => (sb3.2 b hb).trans e) f0 f1 f3 f4 f5, q⟩⟩
end
variable [TB]
section
variable {X : Cx}
theorem fs_setDk {i : Nat} {y : Str} {py pos : Pos} {kx vx tg iter : Expr} {ifs : List Expr} {scope : Scope} {own : List (Str × Nat)} {spos : Pos} {ti : TID} {l : List Nat} {g : TGD} {tt : TTD} {tk tv : TED} (hw : X.w = TB.w) (hu1 : X.A.units + 65 < cLine) (hc : X.calm = true) (hN : X.N.Nodup) (hy : X.N[i]? = some y) (hyl : X.env.scope.names.lookup y = some .local)
    (hsw : swapsWith (.DictComp kx vx [⟨tg, iter, ifs, 0⟩] scope pos) (some (.Name y py)) spos.line X.env = pure true) (hi : FI X tg iter ti) (ok : BlkOk X.N X.env.scope scope own)
    (hg : ∀ (s : Shared) (H : Hp) (C : Addr) (cl : List (Str × Addr)) (fp : List Addr), FG (X.blk s H scope (compEnvC scope cl C X.env) fp) tg l g) (ht : ∀ (s : Shared) (H : Hp) (C : Addr) (cl : List (Str × Addr)) (fp : List Addr), FTs (X.blk s H scope (compEnvC scope cl C X.env) fp) ifs tt)
    (hk : ∀ (s : Shared) (H : Hp) (C : Addr) (cl : List (Str × Addr)) (fp : List Addr), FE (X.blk s H scope (compEnvC scope cl C X.env) fp) kx tk) (hv : ∀ (s : Shared) (H : Hp) (C : Addr) (cl : List (Str × Addr)) (fp : List Addr), FE (X.blk s H scope (compEnvC scope cl C X.env) fp) vx tv) (hl : ∀ j ∈ l, j ∈ own.map (·.2)) (hs : ∀ x, foldedSetIterable iter X.env x = pure x := by intro _; rfl) :
    FS X (.Assign [.Name y py] (.DictComp kx vx [⟨tg, iter, ifs, 0⟩] scope pos) spos) (dSetT i (dDk ti g tt tk tv (own.map (·.2)))) := by
  have := ps_setDkX (kx := kx) (vx := vx) (g := upG X.K l g) (tt := upT X.K tt) (tk := up X.K tk) (tv := up X.K tv) hc hN (by omega) hy hyl hsw hi ok hg ht hk hv hs
  rw [hw] at this
  exact fs_setTM this (up_dk hl)
end
end My
set_option maxHeartbeats 1000000
namespace MyS
open PySem PySem.W PySem.Calls PyProof.Rows PySem.Spec Srt DT
section
variable {prog : Program} {w : World} {A : Around} {E : Value → Shared → Prop} {s : Shared} {T : String} {r d : Addr} {n : Nat} {P : Nat → Value → Prop} {OK : Heap → Prop}
/-- what a walk gives, as a list -/
theorem collectK {R : List Value → Shared → Prop} (K : KdlSrc prog w T r d n P OK) (hh : A.handled = none) (hok : OK s.heap) (hn : n ≤ sizeLine)
    (h : ∀ (h' : Heap) (tk : Nat) (vs : List Value), (∀ b o, s.heap.get? b = some o → h'.get? b = some o) → s.heap.objs.size < h'.objs.size → vs.length = n → (∀ j v, vs[j]? = some v → P j v) → R vs { s with heap := h', toks := tk }) :
    wpAny (model prog w) A (collect (.ref r)) R E s := by
  obtain ⟨hr, hd⟩ := K.there _ hok
  unfold collect
  refine wpAny_bind (wpAny_runValue (codeAny_builtin entry_proto_collect' ?_))
  rw [Around.under_plainId PySem.F.plain_proto_collect _]
  show wpAny _ A.in1 (newList [] >>= fun l => again (.builtin "list.__iadd__" ⟨[l, .ref r], []⟩)) _ _ s
  refine wpAny_bind (wpAny_newObj_type (wpAny_pure ⟨plainId_quiet PySem.F.plain_list_iadd _, codeAny_builtin entry_list_iadd' ?_⟩))
  rw [Around.under_plainId PySem.F.plain_list_iadd _]
  have new : (s.heap.push { cls := .type "list", data := .seq ([] : List Value).toArray }).get? s.heap.objs.size = some { cls := .type "list", data := .seq #[] } := Heap.get?_push_size _ rfl
  show wpAny _ A.in1 (Builtin.List.listExtendWith (.ref s.heap.objs.size) (.ref r) (.ref s.heap.objs.size)) _ _ _
  have key := kdl_extend (A := A) (s := { s with heap := s.heap.push { cls := .type "list", data := .seq ([] : List Value).toArray } })
    (R := fun (q : Result) (s' : Shared) => ∃ (h' : Heap) (tk : Nat) (acc' : Array Value) (c' : Nat), q = .ok (.ret (.ref s.heap.objs.size)) ∧ s' = { s with heap := h', toks := tk } ∧
      (∀ b o, s.heap.get? b = some o → h'.get? b = some o) ∧ h'.get? s.heap.objs.size = some { cls := .type "list", dict := none, data := .seq acc' c', slots := #[] } ∧ ItemsOf P acc' n)
    K hh (K.keep _ _ hok fun b _ o e => Heap.get?_push_of_some _ e) s.heap.objs.size (Nat.ne_of_gt hr) (Nat.ne_of_gt hd) (.ref s.heap.objs.size) 0 new
    (fun h' tk acc' c' hk hS' hacc => ⟨h', tk, acc', c', rfl, rfl, fun b o e => hk b o (Nat.ne_of_lt (Heap.lt_size e)) (Heap.get?_push_of_some _ e), hS', hacc⟩) hn
  have fin : ∀ {h' : Heap} {acc' : Array Value} {c' tk : Nat}, (∀ b o, s.heap.get? b = some o → h'.get? b = some o) → h'.get? s.heap.objs.size = some { cls := .type "list", dict := none, data := .seq acc' c', slots := #[] } → ItemsOf P acc' n → R acc'.toList { s with heap := h', toks := tk } :=
    fun hk hS' hacc => h _ _ _ hk (Heap.lt_size hS') (by rw [Array.length_toList]; exact hacc.1) fun j v e => hacc.2 j v (by rw [← Array.getElem?_toList]; exact e)
  refine wpAny_mono key (fun f s' x => ?_) fun e s' x => ?_
  · cases f with
    | done f =>
      obtain ⟨h', tk, acc', c', e, rfl, hk, hS', hacc⟩ := x
      cases e
      show wpAny _ A (load s.heap.objs.size >>= _) _ _ _
      exact wpAny_bind (wpAny_load hS' (wpAny_pure (fin hk hS' hacc)))
    | again c₁ =>
      refine ⟨x.1, codeAny_mono x.2 fun q s₂ y => ?_⟩
      obtain ⟨h', tk, acc', c', rfl, rfl, hk, hS', hacc⟩ := y
      show wpAny _ A (load s.heap.objs.size >>= _) _ _ _
      exact wpAny_bind (wpAny_load hS' (wpAny_pure (fin hk hS' hacc)))
  · obtain ⟨h', tk, acc', c', e, _⟩ := x
    cases e
open SrtO in
/-- sorted of what a walk gives -/
theorem sortedK {ltv : Value → Value → Bool} {Q : Value → Shared → Prop} (O : Swo ltv) (K : KdlSrc prog w T r d n P OK) (hh : A.handled = none) (hok : OK s.heap) (hn : n ≤ sizeLine)
    (hS : ∀ (h₁ : Heap) (tk : Nat) (a : Addr) (vs : List Value), vs.length = n → (∀ j v, vs[j]? = some v → P j v) → 2 ≤ vs.length → h₁.get? a = some (seqObj "list" vs.toArray 0) → (∀ b o, s.heap.get? b = some o → b ≠ a ∧ h₁.get? b = some o) → SortableO prog w A.in1.in1 { s with heap := h₁, toks := tk } a vs ltv)
    (h : ∀ (h' : Heap) (tk : Nat) (a : Addr) (vs out : List Value), vs.length = n → (∀ j v, vs[j]? = some v → P j v) → Srtd ltv out → Stb ltv out vs → (∀ b o, s.heap.get? b = some o → h'.get? b = some o) → s.heap.objs.size ≤ a → (∃ n, h'.get? a = some (seqObj "list" out.toArray n)) → Q (.ref a) { s with heap := h', toks := tk }) :
    wpAny (model prog w) A (call (.builtin "sorted") [.ref r]) Q E s := by
  refine Calls.call_function_entry kind_sorted plain_sorted entry_sorted (args_sorted1 _) ?_
  unfold Builtin.«sorted»
  refine wpAny_bind (m := checkCount "sorted" 1 1 _) (wpAny_pure ?_)
  refine wpAny_bind (collectK K (by first | exact hh | rfl) hok hn fun h1 tk vs k1 lt1 hl hP => ?_)
  refine wpAny_bind (wpAny_newList ?_ (by rw [hl]; exact hn))
  have at1 : (h1.push (seqObj "list" vs.toArray 0)).get? h1.objs.size = some (seqObj "list" vs.toArray 0) := Heap.get?_push_size _ rfl
  have keep : ∀ b o, s.heap.get? b = some o → b ≠ h1.objs.size ∧ (h1.push (seqObj "list" vs.toArray 0)).get? b = some o := fun b o q => by
    have q' := k1 b o q
    exact ⟨Nat.ne_of_lt (Heap.lt_size q'), Heap.get?_push_of_some _ q'⟩
  show wpAny _ _ _ _ _ { s with heap := h1.push (seqObj "list" vs.toArray 0), toks := tk }
  refine wpAny_bind (wpAny_holding (wpAny_call_entry slot_list_sort ⟨_, at1, rfl⟩ entry_list_sort (list_sort_ord O at1 (by rw [hl]; exact hn) (fun h2 => hS _ tk _ vs hl hP h2 at1 keep) fun out hs hb => ⟨_, rfl, ?_⟩) (args_list_sort _)))
  refine wpAny_pure ⟨_, rfl, h _ tk _ vs out hl hP hs hb (fun b o q => ?_) (Nat.le_of_lt lt1) ?_⟩
  · obtain ⟨ne, e⟩ := keep b o q
    rw [sortedHeap_old ne (Heap.lt_size e)]
    exact e
  · exact sortedHeap_at at1
end
end MyS
set_option maxHeartbeats 1000000
namespace MyS
open PySem PySem.W PySem.Calls PyProof.Rows PySem.Spec Srt SrtO
section
variable {prog : Program} {w : World} {A : Around} {E : Value → Shared → Prop} {s : Shared} {Q : Bool → Shared → Prop}
/-- two tuples of ints, of any lengths -/
theorem lexI {b fin : Bool} {xs ys : List Value} {ns ms : List Int} (hx : IntsAre xs ns) : ∀ (i : Nat) {ys : List Value} {ms : List Int}, IntsAre ys ms → fin = decide (ns.length < ms.length) → Q (HT.lexLt ns ms) s → KatLex prog w A b fin Q (xs.zip ys) i s := by
  induction hx with
  | nil =>
    intro i ys ms hy hf h
    cases hy with
    | nil => exact kat_nil (by rw [hf]; exact h)
    | cons q u hy => exact kat_nil (by rw [hf]; exact h)
  | @cons p t xs ns hx ih =>
    intro i ys ms hy hf h
    cases hy with
    | nil => exact kat_nil (by rw [hf]; exact h)
    | @cons q u ys ms hy =>
      show KatLex prog w A b fin Q ((Value.int p t, Value.int q u) :: xs.zip ys) i s
      rw [HT.lexLt_cons] at h
      refine kat_cons (wpAny_eqBool_int ?_)
      by_cases e : p = q
      · rw [show (p == q) = true from beq_iff_eq.mpr e]
        rw [if_pos e] at h
        refine kat_yes (ih (i + 1) hy ?_ h)
        rw [hf, List.length_cons, List.length_cons]
        exact decide_eq_decide.mpr (by omega)
      · rw [show (p == q) = false from beq_eq_false_iff_ne.mpr e]
        rw [if_neg e] at h
        exact kat_no (TS.oneLt_ints _ h)
theorem tupI_cmp {vs : List Value} {k : Value → List Int} (hp : ∀ v ∈ vs, TS.TupInts s.heap v (k v)) : Cmp prog w A s (tuples' true) (fun p => p.1 ∈ vs) (lt2 fun v u => HT.lexLt (k v) (k u)) := by
  intro p q hm hm'
  obtain ⟨a, xs, e1, ⟨o, ho, hc, n, hd⟩, i1⟩ := hp _ hm
  obtain ⟨c, ys, e2, ⟨o2, ho2, hc2, n2, hd2⟩, i2⟩ := hp _ hm'
  show wpAny (model prog w) A (keyLt' (tuples' true) p.1 q.1) (fun r s' => s' = s ∧ r = HT.lexLt (k p.1) (k q.1)) (fun _ _ => False) s
  rw [e1] at i1
  rw [e2] at i2
  rw [e1, e2]
  refine kat_lt ho hd ho2 hd2 (lexI (ys := ys.toList) (ms := k (.ref c)) i1 0 i2 ?_ ⟨rfl, rfl⟩)
  have l1 := i1.length
  have l2 := i2.length
  rw [Array.length_toList] at l1 l2
  exact decide_eq_decide.mpr (by omega)
theorem tupI_firsts {h : Heap} : ∀ {vs : List Value}, (∀ v ∈ vs, ∃ ns, ns ≠ [] ∧ TS.TupInts h v ns) → ∃ fs : List Value, KatTups h vs fs ∧ fs.length = vs.length ∧ ∀ f ∈ fs, ∃ x t, f = Value.int x t
  | [], _ => ⟨[], KatTups.nil, rfl, fun _ hm => by cases hm⟩
  | v :: vs, hp => by
    obtain ⟨fs, g1, g2, g3⟩ := tupI_firsts (vs := vs) fun v' hm => hp v' (List.mem_cons_of_mem _ hm)
    obtain ⟨ns, hn, a, xs, rfl, ⟨o, ho, hc, n, hd⟩, i⟩ := hp v List.mem_cons_self
    cases q : xs.toList with
    | nil =>
      rw [q] at i
      cases i
      exact (hn rfl).elim
    | cons y ys =>
      obtain ⟨m, t, hy⟩ := i.all y (by rw [q]; exact List.mem_cons_self)
      refine ⟨y :: fs, KatTups.cons ho hc hd ?_ g1, congrArg (· + 1) g2, fun f hf => ?_⟩
      · rw [← Array.getElem?_toList, q]; rfl
      · rcases List.mem_cons.mp hf with rfl | hf
        · exact ⟨m, t, hy⟩
        · exact g3 f hf
theorem tupI_sortable {a : Addr} {vs : List Value} {k : Value → List Int} (h0 : 0 < vs.length) (hp : ∀ v ∈ vs, k v ≠ [] ∧ TS.TupInts s.heap v (k v)) (ha : ∀ o, s.heap.get? a = some o → o.cls ≠ .type "tuple") : SortableO prog w A s a vs fun v u => HT.lexLt (k v) (k u) := by
  intro h' keep
  have hp' : ∀ v ∈ vs, TS.TupInts h' v (k v) := fun v hm => (hp v hm).2.keeps fun b o e c => keep b o (fun z => by subst z; exact ha o e c) e
  obtain ⟨fs, g1, g2, g3⟩ := tupI_firsts fun v hm => ⟨_, (hp v hm).1, hp' v hm⟩
  refine ⟨tuples' true, fun Q E hq => ?_, tupI_cmp hp'⟩
  refine kat_kind (T := .type "int") g1 (by omega) (fun f hm => ?_) (by rfl) ?_
  · obtain ⟨x, t, rfl⟩ := g3 f hm
    exact Looks.now
  · rw [show (Value.type "int" != Value.type "tuple") = true from by first | decide +kernel | rfl | decide]
    exact hq
end
end MyS
namespace My
open PySem PySem.Spec PyProof.Rows L2
def numV : V → Int
  | .int i => i
  | _ => 0
/-- the ints of a tuple that is known -/
def rowV (H : Hp) (v : V) : List Int := match v with
  | .ref t => match H t with
    | some (.frz _ (.tup xs)) => xs.map numV
    | _ => []
  | _ => []
theorem rowV_of {H : Hp} {t : Addr} {ns : List Int} (h : TupG H t (ns.map V.int)) : rowV H (.ref t) = ns := by
  obtain ⟨o, e, _⟩ := h
  unfold rowV
  simp only [e, List.map_map]
  exact (List.map_congr_left fun x _ => rfl).trans (List.map_id _)
theorem intsAre_of : ∀ {ns : List Int} {us : List Value}, Vals (ns.map V.int) us → IntsAre us ns
  | [], _, .nil => .nil
  | n :: ns, _, .cons r t => by
    obtain ⟨k, rfl⟩ := r
    exact .cons n k (intsAre_of t)
/-- what is sorted: the list's items, or the dict's keys -/
def rSrtT (K : PySem.W.Frag) (w : World) : List V → Hp → VK → Prop := fun vs H Q => ∃ (a : Addr) (xs : List V), vs = [.ref a] ∧ (SqL K H a xs ∨ ∃ kvs : KVs, IsDic w H a kvs ∧ xs = kvs.map (·.2.1)) ∧
  (∀ x ∈ xs, ∃ t ns, x = .ref t ∧ ns ≠ [] ∧ TupG H t (ns.map V.int)) ∧
  ∀ ys p, ys.Perm xs → (ys.map (rowV H)).Pairwise (fun x y => HT.lexLt y x = false) → H p = none → Q (.ref p) (upd H p (.lst ys))
section
variable {X : Cx}
theorem cr_srtT (hc : X.calm = true) : CallR X (.builtin "sorted") (rSrtT X.K X.w) := by
  intro pins s σ H vs us Q I r h
  obtain ⟨a, xs, rfl, hs, hx, q⟩ := h
  obtain ⟨u, rfl, ru⟩ := vals1 r
  obtain rfl : u = Value.ref a := ru
  -- what stands in the list, value by value
  have tup : ∀ {vs : List Value}, Vals xs vs → xs = vs.map backV ∧ ∀ u ∈ vs, rowV H (backV u) ≠ [] ∧ (∃ a, u = Value.ref a) ∧ TS.TupInts s.heap u (rowV H (backV u)) := fun {vs} rv => by
    obtain ⟨e1, e2⟩ := refs_back rv fun x m => by
      obtain ⟨t, _, e, _⟩ := hx x m
      exact ⟨t, e⟩
    refine ⟨e1, fun u hu => ?_⟩
    obtain ⟨t, rfl⟩ := e2 u hu
    obtain ⟨t', ns, e, hn, ht⟩ := hx (.ref t) (by rw [e1]; exact List.mem_map.mpr ⟨_, hu, rfl⟩)
    cases e
    rw [show backV (Value.ref t) = V.ref t from rfl, rowV_of ht]
    obtain ⟨its, r2, p2, hz2⟩ := I.tuple ht.sq
    exact ⟨hn, ⟨t, rfl⟩, t, its.toArray, rfl, p2, intsAre_of r2⟩
  have fin : ∀ {vs out : List Value} {h' : Heap} {tk : Nat} {d : Addr}, Vals xs vs → xs.length ≤ sizeLine → SrtO.Srtd (fun v u => HT.lexLt (rowV H (backV v)) (rowV H (backV u))) out → SrtO.Stb (fun v u => HT.lexLt (rowV H (backV v)) (rowV H (backV u))) out vs →
      (∀ b o, s.heap.get? b = some o → h'.get? b = some o) → s.heap.objs.size ≤ d → (∃ n, h'.get? d = some (seqObj "list" out.toArray n)) → EP X pins σ Q (.ref d) { s with heap := h', toks := tk } := fun {vs out h' tk d} rv hz h1 h2 kp hd hn => by
    obtain ⟨e1, e2⟩ := tup rv
    obtain ⟨n, hn⟩ := hn
    have h3 : ∀ u ∈ out, ∃ a, u = Value.ref a := fun u hu => (e2 u (h2.perm.mem_iff.mp hu)).2.1
    have hp : (out.map backV).Perm xs := by rw [e1]; exact h2.perm.map backV
    refine ⟨.ref d, upd H d (.lst (out.map backV)), I.laid (t' := tk) kp hd ⟨?_, out, n, vals_back h3, hn⟩, rfl, q _ d hp ?_ (I.hok.fresh hd)⟩
    · rw [hp.length_eq]; exact hz
    · rw [List.map_map]
      exact List.pairwise_map.mpr h1
  have srt : ∀ {vs : List Value} {h₁ : Heap} {tk : Nat} {c : Addr} {A : Around}, Vals xs vs → 2 ≤ vs.length → h₁.get? c = some (seqObj "list" vs.toArray 0) → (∀ b o, s.heap.get? b = some o → b ≠ c ∧ h₁.get? b = some o) →
      SrtO.SortableO X.prog X.w A { s with heap := h₁, toks := tk } c vs (fun v u => HT.lexLt (rowV H (backV v)) (rowV H (backV u))) := fun {vs h₁ tk c A} rv h2 hc kk => by
    obtain ⟨_, e2⟩ := tup rv
    refine MyS.tupI_sortable (s := { s with heap := h₁, toks := tk }) (by omega) (fun v hm => ⟨(e2 v hm).1, (e2 v hm).2.2.keeps fun b o e _ => (kk b o e).2⟩) fun o e => ?_
    have e' : some o = some (seqObj "list" vs.toArray 0) := e.symm.trans hc
    cases e'
    exact fun c => absurd (Value.type.inj c) (by decide)
  have O : SrtO.Swo (fun v u : Value => HT.lexLt (rowV H (backV v)) (rowV H (backV u))) := NtL.swo_lexL fun v => rowV H (backV v)
  rcases hs with hs | ⟨kvs, hd, rfl⟩
  · obtain ⟨its, rv, hl, hz⟩ := I.list hs
    refine SrtO.sorted_ord O hl.isList (by rw [← rv.length]; exact hz) (fun h2 h₁ c hc kk => srt (tk := s.toks) rv h2 hc kk) fun out h1 h2 => ?_
    exact fin (tk := s.toks) rv hz h1 h2 (fun b o e => sortedAll_old e) (Nat.le_succ _) (sortedAll_at s.heap its out.toArray)
  · have R := dc_raw I hd
    obtain ⟨o, es, ep, g1, g2, g3, g4⟩ := R.ex
    have le : kvs.length = es.size := by rw [Paired.length g4, Array.length_toList]
    have vals : ∀ {vs : List Value}, vs.length = es.size → (∀ j v, vs[j]? = some v → ∃ hi : j < es.size, v = es[j].key) → Vals (kvs.map (·.2.1)) vs := fun {vs} hl hP => by
      have ea : vs = es.toList.map (·.key) := by
        apply List.ext_getElem?
        intro j
        rw [List.getElem?_map, show es.toList[j]? = es[j]? from Array.getElem?_toList]
        cases e : vs[j]? with
        | none =>
          have : es.size ≤ j := by rw [← hl]; exact List.getElem?_eq_none_iff.mp e
          rw [Array.getElem?_eq_none this]; rfl
        | some v =>
          obtain ⟨hi, ev⟩ := hP j v e
          rw [Array.getElem?_eq_getElem hi, ev]; rfl
      rw [ea]
      exact ent_keys g4
    refine MyS.sortedK O (PySem.KdlSrc.rawDict (ep := ep) R.s) (I.ok.hd hc) ⟨o, g1, g2, g3⟩ (by rw [← le]; exact R.z) (fun h₁ tk c vs hl hP h2 hc kk => srt (vals hl hP) h2 hc kk) fun h' tk c vs out hl hP h1 h2 kp hd' hn => ?_
    exact fin (vals hl hP) (by rw [List.length_map]; exact R.z) h1 h2 kp hd' hn
end
variable [TB]
def rowI (ns : List Int) : PyData := .tuple (ns.map .int)
def rowsOf : List PyData → Option (List (List Int))
  | [] => some []
  | .tuple ds :: es => match intsOf ds, rowsOf es with
    | some ns, some r => some (ns :: r)
    | _, _ => none
  | _ :: _ => none
theorem rowsOf_eq : ∀ {ds : List PyData} {nss : List (List Int)}, rowsOf ds = some nss → ds = nss.map rowI
  | [], nss, h => by cases h; rfl
  | d :: ds, nss, h => by
    cases d with
    | tuple es =>
      unfold rowsOf at h
      split at h
      · rename_i ns r e1 e2
        cases h
        rw [List.map_cons, ← rowsOf_eq e2, rowI, ← intsOf_eq e1]
      · cases h
    | _ => cases h
theorem rowsOf_map : ∀ nss : List (List Int), rowsOf (nss.map rowI) = some nss
  | [] => rfl
  | ns :: nss => by
    show (match intsOf (ns.map .int), rowsOf (nss.map rowI) with
      | some ns, some r => some (ns :: r)
      | _, _ => none) = some (ns :: nss)
    rw [rowsOf_map nss, intsOf_map]
def D.srt (x : D) : Option (List PyData) := match x.ls with
  | some ds => some ds
  | none => x.dks.map (·.1)
def kSrtT (x : D) (Q : D → Prop) : Prop := match x.srt with
  | some ds => match rowsOf ds with
    | some nss => (∀ ns ∈ nss, ns ≠ []) ∧ nss.length ≤ sizeLine ∧ ∀ nss' : List (List Int), nss'.Perm nss → nss'.Pairwise (fun x y => HT.lexLt y x = false) → Q (.nw (nss'.map rowI))
    | none => False
  | _ => False
theorem rows_dt {B : Addr → Prop} {H : Hp} : ∀ {vs : List V} {nss : List (List Int)}, DtAll (wo B H) vs (nss.map rowI) → vs.map (rowV H) = nss ∧ ∀ v ∈ vs, ∃ t ns, v = .ref t ∧ ns ∈ nss ∧ TupG H t (ns.map V.int) ∧ Dt (wo B H) v (rowI ns)
  | vs, [], h => by cases h; exact ⟨rfl, fun _ m => by cases m⟩
  | vs, ns :: nss, h => by
    cases h with
    | cons h t =>
      obtain ⟨h1, h2⟩ := rows_dt t
      have h0 := h
      cases h with
      | tup ht ha =>
        rw [ints_dt ha] at ht
        have ht := ht.mo
        refine ⟨by rw [List.map_cons, h1, rowV_of ht], fun v m => ?_⟩
        rcases List.mem_cons.mp m with rfl | m
        · exact ⟨_, ns, rfl, List.mem_cons_self, ht, h0⟩
        · obtain ⟨t', ns', a, b, c, d⟩ := h2 v m
          exact ⟨t', ns', a, List.mem_cons_of_mem _ b, c, d⟩
def rdSrtT : List D → (D → Prop) → Prop := fun xs Q => ∃ x, ∃ nss : List (List Int), xs = [x] ∧ x.srt = some (nss.map rowI) ∧ (∀ ns ∈ nss, ns ≠ []) ∧ nss.length ≤ sizeLine ∧ ∀ nss' : List (List Int), nss'.Perm nss → nss'.Pairwise (fun x y => HT.lexLt y x = false) → Q (.nw (nss'.map rowI))
theorem li_srtT {K : PySem.W.Frag} : LiL K (rSrtT K TB.w) rdSrtT := by
  rintro C ρ σ H0 H vs xs Qd Q R k e0 ⟨x, nss, rfl, hx, hne, hz, q⟩ post
  obtain ⟨v, rfl, e⟩ := p1 e0
  obtain ⟨a, us, rfl, hs, hd⟩ : ∃ a us, v = .ref a ∧ (SqL K H a us ∨ ∃ kvs : KVs, IsDic TB.w H a kvs ∧ us = kvs.map (·.2.1)) ∧ DtAll (wo (bad C ρ σ) H) us (nss.map rowI) := by
    unfold D.srt at hx
    split at hx
    · rename_i ds e1
      cases hx
      obtain ⟨a, us, rfl, t1, d1⟩ := R.lstOf e e1
      exact ⟨a, us, rfl, .inl (SqL.of t1), d1⟩
    · cases q : x.dks with
      | none => rw [q] at hx; cases hx
      | some z =>
        obtain ⟨ks, ms⟩ := z
        rw [q] at hx
        cases hx
        obtain ⟨a, kvs, rfl, g1, g2, _⟩ := (R.dicOf e q).ex
        exact ⟨a, _, rfl, .inr ⟨kvs, g1, rfl⟩, g2⟩
  obtain ⟨h1, h2⟩ := rows_dt hd
  refine ⟨a, us, rfl, hs, fun x m => ?_, fun ys p hp hs' hpn => ?_⟩
  · obtain ⟨t, ns, a, b, c, _⟩ := h2 x m
    exact ⟨t, ns, a, hne ns b, c⟩
  · have hp2 : (ys.map (rowV H)).Perm nss := by rw [← h1]; exact hp.map _
    have dt : DtAll (wo (bad C ρ σ) H) ys ((ys.map (rowV H)).map rowI) := by
      have : ∀ l : List V, (∀ v ∈ l, v ∈ us) → DtAll (wo (bad C ρ σ) H) l ((l.map (rowV H)).map rowI) := by
        intro l
        induction l with
        | nil => exact fun _ => .nil
        | cons v l ih =>
          intro hm
          refine .cons ?_ (ih fun u hu => hm u (List.mem_cons_of_mem _ hu))
          obtain ⟨t, ns, a, _, c, d⟩ := h2 v (hm v List.mem_cons_self)
          rw [a, rowV_of c, ← a]
          exact d
      exact this ys fun v hv => hp.mem_iff.mp hv
    exact R.newL (H0 := H0) dt (by rw [List.length_map, hp2.length_eq]; exact hz) (q _ hp2 hs') post p hpn
theorem bu_srtT {X : Cx} (hw : X.w = TB.w) (hc : X.calm = true) : BuU X (.builtin "sorted") (c1 kSrtT) := by
  refine ⟨_, cr_srtT hc, ?_⟩
  rw [hw]
  refine li_srtT.mo (c1_of ?_)
  intro x Q h
  unfold kSrtT at h
  split at h
  · rename_i ds e1
    split at h
    · rename_i nss e2
      exact ⟨_, nss, rfl, by rw [← rowsOf_eq e2]; exact e1, h⟩
    · exact h.elim
  · exact h.elim
end My
set_option maxHeartbeats 1000000
namespace My
open PySem PySem.Spec PyProof.Rows RT L2
variable [TB]
def dListRng (te : TED) : TED := fun ρ Q => te ρ fun x => ∃ n : Int, x = .p (.int n) ∧ -(2 ^ 62) ≤ n ∧ n.toNat ≤ sizeLine ∧ Q (.nw ((List.range n.toNat).map fun i => .int ((i : Nat) : Int)))
theorem e_listRng {te : TED} {ρ : Ro} {Q : D → Prop} : dListRng te ρ Q = te ρ fun x => ∃ n : Int, x = .p (.int n) ∧ -(2 ^ 62) ≤ n ∧ n.toNat ≤ sizeLine ∧ Q (.nw ((List.range n.toNat).map fun i => .int ((i : Nat) : Int))) := rfl
end My
set_option maxHeartbeats 1000000
namespace My
open PySem PySem.Spec PyProof.Rows RT L2
variable [TB]
theorem nolen_zp : typeLookup (.type "zip") "__len__" = pure none := by rw [typeLookup_type, builtinLookup_eq_fast]; kernel_rfl
theorem nohint_zp : typeLookup (.type "zip") "__length_hint__" = pure none := by rw [typeLookup_type, builtinLookup_eq_fast]; kernel_rfl
section
variable {prog : Program} {w : World} {A : Around} {E : Value → Shared → Prop} {s : Shared}
/-- the walk over two tuples -/
structure ZS (h : Heap) (z TI TO i1 i2 l1 l2 : Addr) (xs ys : Array Value) (i : Nat) : Prop where
  zp : IsZip h z TI TO .none ∨ ∃ T f o, IsZipHeld h z TI TO T f ∧ h.get? T = some o ∧ T ≠ z ∧ T ≠ TO ∧ T ≠ i1 ∧ T ≠ i2
  ti : IsPair h TI (.ref i1) (.ref i2)
  to : ∃ a b, IsPair h TO a b
  j1 : h.IsTupleIter i1 l1 i
  j2 : h.IsTupleIter i2 l2 i
  t1 : h.IsTuple l1 xs
  t2 : h.IsTuple l2 ys
variable {z TI TO i1 i2 l1 l2 : Addr} {xs ys : Array Value} {i : Nat}
theorem ZS.at {h h' : Heap} (Z : ZS h z TI TO i1 i2 l1 l2 xs ys i) (k : ∀ b o, h.get? b = some o → h'.get? b = some o) : ZS h' z TI TO i1 i2 l1 l2 xs ys i := by
  refine ⟨?_, k _ _ Z.ti, ?_, Z.j1.at fun o e => k _ o e, Z.j2.at fun o e => k _ o e, Z.t1.at fun o e => k _ o e, Z.t2.at fun o e => k _ o e⟩
  · rcases Z.zp with q | ⟨T, f, o, q, e, n⟩
    · exact .inl (k _ _ q)
    · exact .inr ⟨T, f, o, k _ _ q, k _ _ e, n⟩
  · obtain ⟨a, b, q⟩ := Z.to
    exact ⟨a, b, k _ _ q⟩
theorem zs_item (D : ZipApart z TI TO i1 i2 l1 l2) (Z : ZS s.heap z TI TO i1 i2 l1 l2 xs ys i) {x y : Value} (hx : xs[i]? = some x) (hy : ys[i]? = some y) {Q : Option Value → Shared → Prop}
    (hQ : ∀ g, ZS g z TI TO i1 i2 l1 l2 xs ys (i + 1) → IsPair g s.heap.objs.size x y → (∀ c o, c ≠ z → c ≠ TO → c ≠ i1 → c ≠ i2 → s.heap.get? c = some o → g.get? c = some o) → Q (some (.ref s.heap.objs.size)) { s with heap := g }) :
    wpAny (model prog w) A (pyNext (.ref z)) Q E s := by
  obtain ⟨hz, hTI, ⟨a, b, hTO⟩, h1, h2, hl1, hl2⟩ := Z
  have lt : ∀ {c o}, s.heap.get? c = some o → s.heap.objs.size ≠ c := fun e => Nat.ne_of_gt (Heap.lt_size e)
  have nz : s.heap.objs.size ≠ z := by rcases hz with q | ⟨T, f, o, q, _⟩ <;> exact lt q
  have nTO := lt hTO
  have n1 : s.heap.objs.size ≠ i1 := by obtain ⟨_, e, _⟩ := h1; exact lt e
  have n2 : s.heap.objs.size ≠ i2 := by obtain ⟨_, e, _⟩ := h2; exact lt e
  rcases hz with hz | ⟨T, f, oT, hz, hT, nt⟩
  · refine RZ.pyNext_zipT_item D hz hTI hTO h1 h2 hl1 hl2 hx hy fun g a1 a2 a3 a4 a5 a6 hk => hQ g ⟨.inr ⟨_, false, _, a1, a5, nz, nTO, n1, n2⟩, hk _ _ D.TIz D.TITO D.TIi1 D.TIi2 hTI, ⟨_, _, a2⟩, a3, a4, ?_, ?_⟩ a5 hk
    · exact hl1.at fun o e => hk _ o D.l1z D.l1TO D.l1i1 D.l1i2 e
    · exact hl2.at fun o e => hk _ o D.l2z D.l2TO D.l2i1 D.l2i2 e
  · have hTy : s.TypeIs (.ref z) "zip" := ⟨_, hz, rfl⟩
    unfold pyNext
    refine wpAny_bind (wpAny_attempt (wpAny_callSpecial?_slot (name := Str.ofString "__next__") hTy F.slot_zip_next
      (wpAny_call_entry F.slot_zip_next hTy F.entry_zip_next ?_ (F.args_zip_next_1 _))))
    show wpAny _ _ (field (.ref z) 2 >>= _) _ _ _
    refine wpAny_bind (wpAny_field hz rfl (x := .bool false) rfl ?_)
    show wpAny _ _ (field (.ref z) 3 >>= _) _ _ _
    refine wpAny_bind (wpAny_field hz rfl (x := .ref TI) rfl ?_)
    refine wpAny_bind (wpAny_seqItems hTI rfl ?_)
    show wpAny _ _ (Builtin.SmallTypes.ownedTupleIsFree (.ref z) >>= _) _ _ _
    refine wpAny_bind (wpAny_tupleHeld_zip hz hT fun g1 hz1 hs1 => ?_)
    simp only [Bool.false_eq_true, if_false]
    refine wpAny_bind ?_
    rw [← Array.forIn_toList]
    simp only [List.forIn_cons, List.forIn_nil]
    refine wpAny_bind (wpAny_bind (wpAny_holding ?_))
    show wpAny _ _ (Builtin.SmallTypes.nextOf (.ref i1) >>= _) _ _ _
    refine wpAny_bind (RZ.nextOf_tuple_item (s := { s with heap := g1 }) (h1.extBut hs1.extBut D.i1z) (hl1.extBut hs1.extBut D.l1z) hx fun g2 k1 hs2 => wpAny_pure ?_)
    refine wpAny_pure ?_
    refine wpAny_bind (wpAny_bind (wpAny_holding ?_))
    show wpAny _ _ (Builtin.SmallTypes.nextOf (.ref i2) >>= _) _ _ _
    refine wpAny_bind (RZ.nextOf_tuple_item (s := { s with heap := g2 }) ((h2.extBut hs1.extBut D.i2z).extBut hs2.extBut D.i12.symm) ((hl2.extBut hs1.extBut D.l2z).extBut hs2.extBut D.l2i1) hy fun g3 k2 hs3 => wpAny_pure ?_)
    refine wpAny_pure (wpAny_pure ?_)
    show wpAny _ _ (newTuple [x, y] >>= _) _ _ _
    refine wpAny_bind (wpAny_newTuple ?_)
    have hsz : g3.objs.size = s.heap.objs.size := by rw [hs3.1, hs2.1, hs1.1]
    have hk : ∀ c o, c ≠ z → c ≠ i1 → c ≠ i2 → s.heap.get? c = some o → g3.get? c = some o := fun c o c1 c2 c3 e => hs3.extBut _ _ c3 (hs2.extBut _ _ c2 (hs1.extBut _ _ c1 e))
    refine wpAny_pure ⟨_, rfl, wpAny_pure ?_⟩
    show Q (some (.ref g3.objs.size)) _
    have hp : IsPair (g3.push { cls := .type "tuple", data := .seq #[x, y] }) g3.objs.size x y := Heap.get?_push_size _ rfl
    have up : ∀ c o, g3.get? c = some o → (g3.push { cls := .type "tuple", data := .seq #[x, y] }).get? c = some o := fun c o e => Heap.get?_push_of_some _ e
    rw [hsz] at hp ⊢
    refine hQ _ ⟨.inr ⟨T, true, _, up _ _ (hs3.extBut _ _ D.i2z.symm (hs2.extBut _ _ D.i1z.symm hz1)), up _ _ (hk _ _ nt.1 nt.2.2.1 nt.2.2.2 hT), nt⟩, up _ _ (hk _ _ D.TIz D.TIi1 D.TIi2 hTI), ⟨a, b, up _ _ (hk _ _ D.TOz D.TOi1 D.TOi2 hTO)⟩, ?_, ?_, ?_, ?_⟩ hp fun c o c1 c2 c3 c4 e => up _ _ (hk c o c1 c3 c4 e)
    · exact (k1.extBut hs3.extBut D.i12).at fun o e => up _ o e
    · exact k2.at fun o e => up _ o e
    · exact hl1.at fun o e => up _ o (hk _ o D.l1z D.l1i1 D.l1i2 e)
    · exact hl2.at fun o e => up _ o (hk _ o D.l2z D.l2i1 D.l2i2 e)
theorem zs_end (hh : A.handled = none) (D : ZipApart z TI TO i1 i2 l1 l2) (Z : ZS s.heap z TI TO i1 i2 l1 l2 xs ys i) (he : xs[i]? = none ∨ ys[i]? = none) {Q : Option Value → Shared → Prop}
    (hQ : ∀ g, (∀ c o, c ≠ z → c ≠ TO → c ≠ i1 → c ≠ i2 → s.heap.get? c = some o → g.get? c = some o) → Q none { s with heap := g }) : wpAny (model prog w) A (pyNext (.ref z)) Q E s := by
  obtain ⟨hz, hTI, ⟨a, b, hTO⟩, h1, h2, hl1, hl2⟩ := Z
  rcases hz with hz | ⟨T, f, oT, hz, hT, nt⟩
  · exact RZ.pyNext_zipT_end hh D hz hTI hTO h1 h2 hl1 hl2 he hQ
  · have hTy : s.TypeIs (.ref z) "zip" := ⟨_, hz, rfl⟩
    have fin : ∀ (g : Heap) (e : Addr), (∀ c o, c ≠ z → c ≠ i1 → c ≠ i2 → s.heap.get? c = some o → g.get? c = some o) → (∃ o, g.get? e = some o ∧ o.cls = .type "StopIteration") →
        wpAny (model prog w) A (isInstance (.ref e) (.type "StopIteration") >>= fun b => if b = true then pure none else throw (.ref e)) Q E { s with heap := g } := fun g e hk ⟨o, ho, hc⟩ =>
      wpAny_bind (wpAny_isInstance (T := "StopIteration") (b := true) ⟨o, ho, hc⟩ isSubtype_stop (wpAny_pure (hQ g fun c o c1 c2 c3 c4 e => hk c o c1 c3 c4 e)))
    unfold pyNext
    refine wpAny_bind (wpAny_attempt (wpAny_callSpecial?_slot (name := Str.ofString "__next__") hTy F.slot_zip_next
      (wpAny_call_entry F.slot_zip_next hTy F.entry_zip_next ?_ (F.args_zip_next_1 _))))
    show wpAny _ _ (field (.ref z) 2 >>= _) _ _ _
    refine wpAny_bind (wpAny_field hz rfl (x := .bool false) rfl ?_)
    show wpAny _ _ (field (.ref z) 3 >>= _) _ _ _
    refine wpAny_bind (wpAny_field hz rfl (x := .ref TI) rfl ?_)
    refine wpAny_bind (wpAny_seqItems hTI rfl ?_)
    show wpAny _ _ (Builtin.SmallTypes.ownedTupleIsFree (.ref z) >>= _) _ _ _
    refine wpAny_bind (wpAny_tupleHeld_zip hz hT fun g1 hz1 hs1 => ?_)
    simp only [Bool.false_eq_true, if_false]
    refine wpAny_bind ?_
    rw [← Array.forIn_toList]
    simp only [List.forIn_cons, List.forIn_nil]
    refine wpAny_bind (wpAny_bind (wpAny_holding ?_))
    show wpAny _ _ (Builtin.SmallTypes.nextOf (.ref i1) >>= _) _ _ _
    cases hx : xs[i]? with
    | none =>
      refine wpAny_bind (RZ.nextOf_tuple_end (s := { s with heap := g1 }) hh (h1.extBut hs1.extBut D.i1z) (hl1.extBut hs1.extBut D.l1z) hx fun g2 e hs2 he => ?_)
      exact fin g2 e (fun c o c1 c2 _ x => hs2 _ _ c2 (hs1.extBut _ _ c1 x)) he
    | some x =>
      have hy : ys[i]? = none := by rcases he with h | h; rw [hx] at h; cases h; exact h
      refine wpAny_bind (RZ.nextOf_tuple_item (s := { s with heap := g1 }) (h1.extBut hs1.extBut D.i1z) (hl1.extBut hs1.extBut D.l1z) hx fun g2 k1 hs2 => wpAny_pure ?_)
      refine wpAny_pure ?_
      refine wpAny_bind (wpAny_bind (wpAny_holding ?_))
      show wpAny _ _ (Builtin.SmallTypes.nextOf (.ref i2) >>= _) _ _ _
      refine wpAny_bind (RZ.nextOf_tuple_end (s := { s with heap := g2 }) hh ((h2.extBut hs1.extBut D.i2z).extBut hs2.extBut D.i12.symm) ((hl2.extBut hs1.extBut D.l2z).extBut hs2.extBut D.l2i1) hy fun g3 e hs3 he => ?_)
      exact fin g3 e (fun c o c1 c2 c3 x => hs3 _ _ c3 (hs2.extBut _ _ c2 (hs1.extBut _ _ c1 x))) he
theorem zip_iter {z : Addr} (hT : s.TypeIs (.ref z) "zip") {Q : Value → Shared → Prop} (q : Q (.ref z) s) : wpAny (model prog w) A (pyIter (.ref z)) Q E s := by
  refine wpAny_pyIter_slot hT F.slot_zip_iter
    (wpAny_call_entry F.slot_zip_iter hT F.entry_zip_iter ?_ (F.args_zip_iter_1 _))
  show wpAny _ _ (ret (.ref z)) _ _ s
  exact wpAny_pure ⟨_, rfl, "zip", _, hT, F.slot_zip_next.lookup, q⟩
end
section
variable {X : Cx} {pins : List (Addr × Obj)} {σ : L2.St} {H0 : Hp} {z TI TO i1 i2 l1 l2 S : Addr} {xs ys : List V}
theorem fp_upd {H : Hp} {b a : Addr} {o : HO} (f : FpOk X pins H b) (n : b ≠ a) : FpOk X pins (upd H a o) b := ⟨by rw [upd_ne n]; exact f.1, f.2⟩
/-- the pairs so far -/
structure ZG (H0 H : Hp) (S : Addr) (xs ys : List V) (ts : List Addr) (i : Nat) : Prop where
  ext : ∀ b o, H0 b = some o → H b = some o
  lst : H S = some (.lst (ts.map V.ref))
  len : ts.length = i
  at_ : ∀ (j : Nat) (T : Addr), ts[j]? = some T → ∃ x y, TupG H T [x, y] ∧ xs[j]? = some x ∧ ys[j]? = some y ∧ H0 T = none ∧ T ≠ S
theorem zs_loop {A : Around} (hh : A.handled = none) (D : ZipApart z TI TO i1 i2 l1 l2) {us vs : List Value} (rx : Vals xs us) (ry : Vals ys vs) (n : Nat) (hn : n = min xs.length ys.length) (hz : n ≤ sizeLine) (h0S : H0 S = none) (res : Value) {R : Result → Shared → Prop}
    (hR : ∀ s' H' ts, Inv X pins σ H' s' → ZG H0 H' S xs ys ts n → R (.ok (.ret res)) s') :
    ∀ (k i : Nat) (s : Shared) (H : Hp) (ts : List Addr), n - i = k → i ≤ n → Inv X pins σ H s → ZS s.heap z TI TO i1 i2 l1 l2 us.toArray vs.toArray i → (∀ b ∈ [z, TI, TO, i1, i2], FpOk X pins H b) → ZG H0 H S xs ys ts i →
      codeAny (model X.prog X.w) A (.builtin "list.extend.loop" ⟨[.ref S, .ref z, res], []⟩) R s := by
  have lx := rx.length
  have ly := ry.length
  intro k
  induction k with
  | zero =>
    intro i s H ts hk hi I Z hf G
    have hin : i = n := by omega
    refine codeAny_builtin F.entry_extend_loop ?_
    rw [Around.under_plainId F.plain_extend_loop _]
    show wpAny _ A.in1 (pyNext (.ref z) >>= _) _ _ s
    refine wpAny_bind (zs_end (A := A.in1) hh D Z ?_ fun g hk => ?_)
    · rcases Nat.le_total xs.length ys.length with h | h
      · exact .inl (by simp; omega)
      · exact .inr (by simp; omega)
    · refine wpAny_pure ?_
      rw [hin] at G
      refine hR _ H ts (I.turnedL (t' := s.toks) (ch := [z, TI, TO, i1, i2]) (fun c o hb q => hk c o (fun e => hb (by simp [e])) (fun e => hb (by simp [e])) (fun e => hb (by simp [e])) (fun e => hb (by simp [e])) q) hf) G
  | succ k ih =>
    intro i s H ts hk hi I Z hf G
    have hlt : i < n := by omega
    have hix : i < us.length := by omega
    have hiy : i < vs.length := by omega
    obtain ⟨ux, hux, rux⟩ := rx.get (i := i) (List.getElem?_eq_getElem (by omega))
    obtain ⟨uy, huy, ruy⟩ := ry.get (i := i) (List.getElem?_eq_getElem (by omega))
    refine codeAny_builtin F.entry_extend_loop ?_
    rw [Around.under_plainId F.plain_extend_loop _]
    show wpAny _ A.in1 (pyNext (.ref z) >>= _) _ _ s
    refine wpAny_bind (zs_item D Z (x := ux) (y := uy) (by simpa using hux) (by simpa using huy) fun g Zg hp hk2 => ?_)
    have I1 : Inv X pins σ (upd H s.heap.objs.size (.frz { cls := .type "tuple", data := .seq [ux, uy].toArray } (.tup [xs[i], ys[i]]))) { s with heap := g } :=
      I.turnedNew (t' := s.toks) (ch := [z, TI, TO, i1, i2]) (fun c o hb q => hk2 c o (fun e => hb (by simp [e])) (fun e => hb (by simp [e])) (fun e => hb (by simp [e])) (fun e => hb (by simp [e])) q) hf (Nat.le_refl _)
        ⟨hp, by show 2 ≤ sizeLine; decide, [ux, uy], .cons rux (.cons ruy .nil), ⟨_, hp, rfl, _, rfl⟩⟩
    have hnew : H s.heap.objs.size = none := I.hok.fresh (Nat.le_refl _)
    generalize hH1 : upd H s.heap.objs.size (.frz { cls := .type "tuple", data := .seq [ux, uy].toArray } (.tup [xs[i], ys[i]])) = H1 at I1
    have e1 : ∀ b o, H b = some o → H1 b = some o := fun b o e => by rw [← hH1, upd_ne (ne_of_none e hnew)]; exact e
    have hS1 : H1 S = some (.lst (ts.map V.ref)) := e1 _ _ G.lst
    have tg : TupG H1 s.heap.objs.size [xs[i], ys[i]] := by rw [← hH1]; exact TupG.mk ⟨rfl, rfl, rfl⟩
    obtain ⟨zz, its, nn, r, hl, e⟩ := I1.lstM hS1
    show wpAny _ A.in1 (updateSeq S (·.push (Value.ref s.heap.objs.size)) >>= _) _ _ _
    have szl : its.length = i := by rw [← r.length, List.length_map, G.len]
    have I2 : Inv X pins σ (upd H1 S (.lst (ts.map V.ref ++ [.ref s.heap.objs.size]))) { s with heap := g.update S (Obj.mapSeq (·.push (Value.ref s.heap.objs.size))) } :=
      I1.lset (its' := its ++ [Value.ref s.heap.objs.size]) (t' := s.toks) hS1 e (by simp) (r.append (.cons (show RelV (V.ref s.heap.objs.size) (Value.ref s.heap.objs.size) from rfl) .nil)) (by rw [List.length_append, List.length_map, G.len]; show i + 1 ≤ sizeLine; omega)
    have nS : s.heap.objs.size ≠ S := fun q => by
      have := G.lst
      rw [← q, hnew] at this; cases this
    have fS : ∀ b ∈ [z, TI, TO, i1, i2], b ≠ S := fun b hb q => by
      have := (hf b hb).1
      rw [q, G.lst] at this; cases this
    have lt : ∀ b ∈ [z, TI, TO, i1, i2], b ≠ s.heap.objs.size := fun b hb => by
      have hl : ∀ {c o}, s.heap.get? c = some o → c ≠ s.heap.objs.size := fun e => Nat.ne_of_lt (Heap.lt_size e)
      have hb' : b = z ∨ b = TI ∨ b = TO ∨ b = i1 ∨ b = i2 := by simpa using hb
      rcases hb' with q | q | q | q | q
      · rw [q]; rcases Z.zp with q | ⟨T, f, o, q, _⟩ <;> exact hl q
      · rw [q]; exact hl Z.ti
      · rw [q]; obtain ⟨_, _, e⟩ := Z.to; exact hl e
      · rw [q]; obtain ⟨_, e, _⟩ := Z.j1; exact hl e
      · rw [q]; obtain ⟨_, e, _⟩ := Z.j2; exact hl e
    refine wpAny_bind (wpAny_updateSeq (s := { s with heap := g }) e rfl (wpAny_pure ⟨plainId_quiet F.plain_extend_loop _, ?_⟩) (by rw [List.size_toArray]; omega) (by simp; omega))
    refine ih (i + 1) _ (upd H1 S (.lst ((ts ++ [s.heap.objs.size]).map V.ref))) (ts ++ [s.heap.objs.size]) (by omega) hlt ?_ ?_ (fun b hb => ?_) ⟨fun b o e => ?_, upd_same, ?_, fun j T hj => ?_⟩
    · rw [List.map_append]; exact I2
    · -- the list is none of the walk's things
      have hsS : ∀ c o, c ≠ S → g.get? c = some o → (g.update S (Obj.mapSeq (·.push (Value.ref s.heap.objs.size)))).get? c = some o := fun c o hc q => (Heap.get?_update_other _ _ (Ne.symm hc)).trans q
      have nl1 : l1 ≠ S := fun q => by
        obtain ⟨ol, hol, hcl, _⟩ := Zg.t1
        rw [q, e] at hol; cases hol; simp at hcl
      have nl2 : l2 ≠ S := fun q => by
        obtain ⟨ol, hol, hcl, _⟩ := Zg.t2
        rw [q, e] at hol; cases hol; simp at hcl
      have f := fun b hb => fS b hb
      refine ⟨?_, hsS _ _ (f TI (by simp)) Zg.ti, ?_, Zg.j1.at fun o q => hsS _ o (f i1 (by simp)) q, Zg.j2.at fun o q => hsS _ o (f i2 (by simp)) q, Zg.t1.at fun o q => hsS _ o nl1 q, Zg.t2.at fun o q => hsS _ o nl2 q⟩
      · rcases Zg.zp with q | ⟨T, f', o, q, eT, nt⟩
        · exact .inl (hsS _ _ (f z (by simp)) q)
        · obtain ⟨oS, hoS⟩ : ∃ o, (g.update S (Obj.mapSeq (·.push (Value.ref s.heap.objs.size)))).get? S = some o := ⟨_, Heap.get?_update_self _ e rfl⟩
          by_cases hT : T = S
          · exact .inr ⟨T, f', oS, hsS _ _ (f z (by simp)) q, by rw [hT]; exact hoS, nt⟩
          · exact .inr ⟨T, f', o, hsS _ _ (f z (by simp)) q, hsS _ _ hT eT, nt⟩
      · obtain ⟨a, b, q⟩ := Zg.to
        exact ⟨a, b, hsS _ _ (f TO (by simp)) q⟩
    · refine fp_upd ?_ (fS b hb)
      rw [← hH1]
      exact fp_upd (hf b hb) (lt b hb)
    · rw [upd_ne (fun q => by rw [q, h0S] at e; cases e)]
      exact e1 _ _ (G.ext _ _ e)
    · rw [List.length_append, List.length_singleton, G.len]
    · have keepT : ∀ {T : Addr} {x y : V}, T ≠ S → TupG H1 T [x, y] → TupG (upd H1 S (.lst ((ts ++ [s.heap.objs.size]).map V.ref))) T [x, y] := fun hT t => t.kt fun o e => by rw [upd_ne hT]; exact e
      have h0n : H0 s.heap.objs.size = none := by
        cases q : H0 s.heap.objs.size with
        | none => rfl
        | some o => rw [G.ext _ _ q] at hnew; cases hnew
      rw [List.getElem?_append] at hj
      split at hj
      · obtain ⟨x, y, t, h1, h2, h3, h4⟩ := G.at_ j T hj
        exact ⟨x, y, keepT h4 (t.kt fun o e => e1 _ _ e), h1, h2, h3, h4⟩
      · rename_i hjl
        have : j = i := by
          have := (List.getElem?_eq_some_iff.mp hj).1
          simp at this
          have := G.len
          omega
        subst this
        have : T = s.heap.objs.size := by
          rw [G.len, Nat.sub_self] at hj
          simpa using hj.symm
        subst this
        exact ⟨_, _, keepT nS tg, List.getElem?_eq_getElem (by omega), List.getElem?_eq_getElem (by omega), h0n, nS⟩
/-- the list is made, the walk begins -/
theorem zs_init {A : Around} (hh : A.handled = none) (D : ZipApart z TI TO i1 i2 l1 l2) {us vs : List Value} (rx : Vals xs us) (ry : Vals ys vs) (n : Nat) (hn : n = min xs.length ys.length) (hz : n ≤ sizeLine) (h0S : H0 S = none) {R : Result → Shared → Prop}
    (hR : ∀ s' H' ts, Inv X pins σ H' s' → ZG H0 H' S xs ys ts n → R (.ok (.ret .none)) s') {s : Shared} {H : Hp}
    (I : Inv X pins σ H s) (Z : ZS s.heap z TI TO i1 i2 l1 l2 us.toArray vs.toArray 0) (hf : ∀ b ∈ [z, TI, TO, i1, i2], FpOk X pins H b) (G : ZG H0 H S xs ys [] 0) :
    wpAny (model X.prog X.w) A.in1 (Builtin.«list.__init__» ⟨[.ref S, .ref z], []⟩)
      (fun fin s' => match fin with | .done f => R (.ok f) s' | .again c' => c'.quiet = true ∧ codeAny (model X.prog X.w) A c' R s') (fun e s' => R (.error e) s') s := by
  obtain ⟨zz, its, nn, r, hl, e⟩ := I.lstM G.lst
  have fS : ∀ b ∈ [z, TI, TO, i1, i2], b ≠ S := fun b hb q => by
    have := (hf b hb).1
    rw [q, G.lst] at this; cases this
  have hS : s.heap.get? S = some { cls := .type "list", data := .seq its.toArray nn } := e
  -- the list's own object may change
  have zput : ∀ (g : Heap), (∀ c o, c ≠ S → s.heap.get? c = some o → g.get? c = some o) → (∃ o, g.get? S = some o) → ZS g z TI TO i1 i2 l1 l2 us.toArray vs.toArray 0 := fun g hk ⟨oS, hoS⟩ => by
    have nl1 : l1 ≠ S := fun q => by
      obtain ⟨ol, hol, hcl, _⟩ := Z.t1
      rw [q, hS] at hol; cases hol; simp at hcl
    have nl2 : l2 ≠ S := fun q => by
      obtain ⟨ol, hol, hcl, _⟩ := Z.t2
      rw [q, hS] at hol; cases hol; simp at hcl
    refine ⟨?_, hk _ _ (fS TI (by simp)) Z.ti, ?_, Z.j1.at fun o q => hk _ o (fS i1 (by simp)) q, Z.j2.at fun o q => hk _ o (fS i2 (by simp)) q, Z.t1.at fun o q => hk _ o nl1 q, Z.t2.at fun o q => hk _ o nl2 q⟩
    · rcases Z.zp with q | ⟨T, f', o, q, eT, nt⟩
      · exact .inl (hk _ _ (fS z (by simp)) q)
      · by_cases hT : T = S
        · exact .inr ⟨T, f', oS, hk _ _ (fS z (by simp)) q, by rw [hT]; exact hoS, nt⟩
        · exact .inr ⟨T, f', o, hk _ _ (fS z (by simp)) q, hk _ _ hT eT, nt⟩
    · obtain ⟨a, b, q⟩ := Z.to
      exact ⟨a, b, hk _ _ (fS TO (by simp)) q⟩
  have hTz : ∀ {s' : Shared}, ZS s'.heap z TI TO i1 i2 l1 l2 us.toArray vs.toArray 0 → s'.TypeIs (.ref z) "zip" := fun Z => by
    rcases Z.zp with q | ⟨T, f, o, q, _⟩ <;> exact ⟨_, q, rfl⟩
  have i0 : its = [] := by
    cases its with
    | nil => rfl
    | cons _ _ => simp at hl
  subst i0
  show wpAny _ _ (do let old ← Builtin.List.listItems (.ref S); Builtin.List.listUpdate (.ref S) (fun _ => #[]); letGo old.toList.reverse; Builtin.List.listExtendWith (.ref S) (.ref z) .none) _ _ s
  refine wpAny_bind ?_
  unfold Builtin.List.listItems
  refine wpAny_bind (wpAny_seqItems hS rfl (wpAny_pure ?_))
  show wpAny _ _ (updateSeq S (fun _ => #[]) >>= fun _ => _) _ _ s
  have I1 : Inv X pins σ (upd H S (.lst [])) { s with heap := s.heap.update S (Obj.mapSeq fun _ => #[]) } := I.lset (its' := []) (t' := s.toks) G.lst e rfl .nil (Nat.zero_le _)
  have hS1 := Heap.get?_update_self (Obj.mapSeq fun _ => (#[] : Array Value)) hS rfl
  refine wpAny_bind (wpAny_updateSeq hS rfl ?_)
  refine wpAny_bind (wpAny_letGo ?_)
  generalize hg1 : s.heap.update S (Obj.mapSeq fun _ => (#[] : Array Value)) = g1 at I1 hS1
  have k1 : ∀ c o, c ≠ S → s.heap.get? c = some o → g1.get? c = some o := fun c o hc q => by rw [← hg1]; exact (Heap.get?_update_other _ _ (Ne.symm hc)).trans q
  have Z1 := zput g1 k1 ⟨_, hS1⟩
  have nSz : S ≠ z := fun q => fS z (by simp) q.symm
  have hd1 : Builtin.List.listSameRef (.ref S) (.ref z) = false := by simp [Builtin.List.listSameRef, nSz]
  unfold Builtin.List.listExtendWith
  refine wpAny_bind (wpAny_typeOf (hTz (s' := { s with heap := g1 }) Z1) ?_)
  rw [if_neg (by rw [hd1]; decide)]
  have hit : ∀ {Q : Value → Shared → Prop} {E : Value → Shared → Prop}, Q (.ref z) { s with heap := g1 } → wpAny (model X.prog X.w) A.in1 (pyIter (.ref z)) Q E { s with heap := g1 } := fun {Q E} q => by
    have hT : ({ s with heap := g1 } : Shared).TypeIs (.ref z) "zip" := hTz Z1
    exact zip_iter hT q
  refine wpAny_bind (hit ?_)
  refine wpAny_bind (wpAny_holding ?_)
  unfold Builtin.List.listLengthHint
  refine wpAny_bind (wpAny_specialOf (hTz (s' := { s with heap := g1 }) Z1) nolen_zp ?_)
  show wpAny _ A.in1 (specialOf (Value.ref z) (Str.ofString "__length_hint__") >>= _) _ _ _
  refine wpAny_bind (wpAny_specialOf (hTz (s' := { s with heap := g1 }) Z1) nohint_zp ?_)
  refine wpAny_pure ?_
  show wpAny _ A.in1 (rule "list.extend.makes-room" >>= fun _ => Builtin.List.listTouch (.ref S) >>= fun _ => again (.builtin "list.extend.loop" ⟨[.ref S, .ref z, .none], []⟩)) _ _ _
  refine wpAny_bind (wpAny_rule ?_)
  refine wpAny_bind ?_
  show wpAny _ A.in1 (updateSeq S (·.push .none) >>= fun _ => updateSeq S (·.pop)) _ _ _
  refine wpAny_bind (wpAny_updateSeq (s := { s with heap := g1 }) hS1 rfl ?_)
  have hS2 := Heap.get?_update_self (Obj.mapSeq (·.push Value.none)) hS1 rfl
  refine wpAny_updateSeq (s := { s with heap := g1.update S (Obj.mapSeq (·.push Value.none)) }) hS2 rfl ?_
  have hS3 := Heap.get?_update_self (Obj.mapSeq (·.pop)) hS2 rfl
  have k2 : ∀ c o, c ≠ S → s.heap.get? c = some o → ((g1.update S (Obj.mapSeq (·.push Value.none))).update S (Obj.mapSeq (·.pop))).get? c = some o := fun c o hc q =>
    (Heap.get?_update_other _ _ (Ne.symm hc)).trans ((Heap.get?_update_other _ _ (Ne.symm hc)).trans (k1 c o hc q))
  refine wpAny_pure ⟨plainId_quiet F.plain_extend_loop _, zs_loop hh D rx ry n hn hz h0S .none hR n 0 _ (upd H S (.lst [])) [] (by omega) (Nat.zero_le _) ?_ (zput _ k2 ⟨_, hS3⟩) (fun b hb => fp_upd (hf b hb) (fS b hb)) ⟨fun b o q => ?_, upd_same, rfl, fun j T hj => by simp at hj⟩⟩
  · obtain ⟨_, its1, n1, r1, hl1, e1⟩ := I1.lstM (l := S) (xs := []) upd_same
    have := I1.write (x := S) (e := S) (o := .lst []) (t' := s.toks) (h' := (g1.update S (Obj.mapSeq (·.push Value.none))).update S (Obj.mapSeq (·.pop))) (by rw [upd_same]; exact True.intro) (.inl rfl)
      (fun c o hc q => (Heap.get?_update_other _ _ (Ne.symm hc)).trans ((Heap.get?_update_other _ _ (Ne.symm hc)).trans q)) ⟨_, hS3⟩ ⟨Nat.zero_le _, [], _, .nil, hS3⟩
    have eu : upd (upd H S (.lst [])) S (.lst []) = upd H S (.lst []) := by
      funext a
      by_cases h : a = S
      · subst h; rw [upd_same, upd_same]
      · rw [upd_ne h, upd_ne h]
    rw [eu] at this
    exact this
  · rw [upd_ne (fun q' => by rw [q', h0S] at q; cases q)]
    exact G.ext _ _ q
end
section
variable {X : Cx}
def tListZip (ta : TA) : TE := fun σ H Q => ta σ H fun vs H1 => ∃ a b xs ys, vs = [.ref a, .ref b] ∧ TupG H1 a xs ∧ TupG H1 b ys ∧ ∀ H2 l ts, H1 l = none → ZG H1 H2 l xs ys ts (min xs.length ys.length) → Q (.ref l) H2
theorem pe_listZip {e e2 : Expr} {ta : TA} {p p2 pos pos2 : Pos} (hc : X.calm = true) (hg : Gl X "list") (hm : X.mg "list" = none) (hg2 : Gl X "zip") (hm2 : X.mg "zip" = none) (ha : PA X [e, e2] ta)
    (hs : starEach [e, e2] X.env = (false, eval e X.env) :: starEach [e2] X.env := by rfl) (hpl : (backTo pos2 (starEach [e2] X.env)).any (·.1) = false := by rfl)
    (hs2 : starEach [.Call (.Name "zip" p2) [e, e2] [] pos2] X.env = (false, eval (.Call (.Name "zip" p2) [e, e2] [] pos2) X.env) :: starEach [] X.env := by rfl) :
    PE X (.Call (.Name "list" p) [.Call (.Name "zip" p2) [e, e2] [] pos2] [] pos) (tListZip ta) := by
  refine ⟨fun pins s σ H Q I h => ?_⟩
  refine Call_ (ld_blt I hg hm boot_list (PyProof.Rows.callWith_type1 (args_cons (Call_ (ld_blt I hg2 hm2 PyProof.Rows.boot_zip (PyProof.Rows.callWith_type1
    (thn (ha.run pos2 pins s σ H _ I h) fun us s1 ⟨vs, H1, I1, r1, q1⟩ => ?_) hs hpl))) hs2) hs2 rfl))
  obtain ⟨a, b, xs, ys, ex, ta, tb, q⟩ := q1
  subst ex
  cases r1 with
  | cons r rr =>
    cases rr with
    | cons r' rr =>
      cases rr
      cases r
      cases r'
      have fresh5 : ∀ c, c ∈ [s1.heap.objs.size + 4, s1.heap.objs.size + 2, s1.heap.objs.size + 3, s1.heap.objs.size, s1.heap.objs.size + 1] → FpOk X pins H1 c := fun c hcm => by
        have hle : s1.heap.objs.size ≤ c := by
          simp only [List.mem_cons, List.not_mem_nil, or_false] at hcm
          omega
        exact I1.fpOk hle (I1.hok.fresh hle)
      obtain ⟨its, rv, p1, z1⟩ := I1.tuple ta.sq
      obtain ⟨its2, rv2, p2', z2⟩ := I1.tuple tb.sq
      obtain ⟨o1, ho1, _⟩ := id p1
      obtain ⟨o2, ho2, _⟩ := id p2'
      refine RZ.call_zipT (show s1.heap.IsTuple a its.toArray from p1) (show s1.heap.IsTuple b its2.toArray from p2') fun g hz hTI hTO h1 h2 hsz hk => args_nil ?_
      have I2 : Inv X pins σ H1 { s1 with heap := g } := I1.kept (t' := s1.toks) hk
      have D := PySem.W.ktu_apart s1.heap.objs.size a b (Heap.lt_size ho1) (Heap.lt_size ho2)
      have Z : ZS g (s1.heap.objs.size + 4) (s1.heap.objs.size + 2) (s1.heap.objs.size + 3) s1.heap.objs.size (s1.heap.objs.size + 1) a b its.toArray its2.toArray 0 :=
        ⟨.inl hz, hTI, ⟨_, _, hTO⟩, h1, h2, Heap.IsTuple.at p1 fun o e => hk _ o e, Heap.IsTuple.at p2' fun o e => hk _ o e⟩
      have hS : (g.push { cls := .type "list", data := .seq #[] }).get? g.objs.size = some { cls := .type "list", data := .seq #[] } := Heap.get?_push_size _ rfl
      have h0S : H1 g.objs.size = none := I2.hok.fresh (Nat.le_refl _)
      have kp : ∀ c o, g.get? c = some o → (g.push { cls := .type "list", data := .seq #[] }).get? c = some o := fun c o e => Heap.get?_push_of_some _ e
      have I3 : Inv X pins σ (upd H1 g.objs.size (.lst [])) { s1 with heap := g.push { cls := .type "list", data := .seq #[] } } :=
        I2.laid (t' := s1.toks) kp (Nat.le_refl _) ⟨Nat.zero_le _, [], _, .nil, hS⟩
      have nb : ∀ c ∈ [s1.heap.objs.size + 4, s1.heap.objs.size + 2, s1.heap.objs.size + 3, s1.heap.objs.size, s1.heap.objs.size + 1], c ≠ g.objs.size := fun c hcm => by
        rw [hsz]
        simp only [List.mem_cons, List.not_mem_nil, or_false] at hcm
        omega
      refine callType_codes (Q₁ := fun obj s₁ => obj = .ref g.objs.size ∧ s₁ = { s1 with heap := g.push { cls := .type "list", data := .seq #[] } }) F.called_list (F.typeCall_list_1 _) F.entry_list_init
        (code_list_new _ ⟨rfl, rfl⟩) fun obj s₁ h₁ => ?_
      obtain ⟨rfl, rfl⟩ := h₁
      refine ⟨⟨_, hS, rfl⟩, F.args_list_init_2 _ _, zs_init (A := X.A.in1) (I1.ok.hd hc) D rv rv2 _ rfl (Nat.le_trans (Nat.min_le_left _ _) z1) h0S (fun s' H' ts I' G' => ?_) I3 (Z.at kp) (fun c hcm => fp_upd (fresh5 c hcm) (nb c hcm))
        ⟨fun c o e => by rw [upd_ne (ne_of_none e h0S)]; exact e, upd_same, rfl, fun j T hj => by simp at hj⟩⟩
      exact ⟨rfl, .ref g.objs.size, H', I', rfl, q H' _ ts h0S G'⟩
end
section
variable {X : Cx} {a b : Expr} {pos : Pos}
def pairD (d e : PyData) : PyData := .tuple [d, e]
def dListZip (t : TAD) : TED := fun ρ Q => t ρ fun xs => ∃ ds es, xs = [.p (.tuple ds), .p (.tuple es)] ∧ (ds.length ≤ sizeLine ∨ es.length ≤ sizeLine) ∧ Q (.nw (List.zipWith pairD ds es))
theorem e_listZip {t : TAD} {ρ : Ro} {Q : D → Prop} : dListZip t ρ Q = t ρ fun xs => ∃ ds es, xs = [.p (.tuple ds), .p (.tuple es)] ∧ (ds.length ≤ sizeLine ∨ es.length ≤ sizeLine) ∧ Q (.nw (List.zipWith pairD ds es)) := rfl
theorem zip_dt {H0 H' : Hp} {S : Addr} {B : Addr → Prop} {vs us : List V} {ts : List Addr} {n : Nat} (G : ZG H0 H' S vs us ts n) (hn : n = min vs.length us.length) (h0S : H0 S = none) (hB : ∀ b, B b → H0 b ≠ none) {ds es : List PyData}
    (d : DtAll (wo B H0) vs ds) (e : DtAll (wo B H0) us es) : DtAll (wo (fun b => B b ∨ b = S) H') (ts.map V.ref) (List.zipWith pairD ds es) := by
  have ld := d.length
  have le := e.length
  have s : H0 S = none → Same (wo B H0) (wo (fun b => B b ∨ b = S) H') := fun h0 a o q => by
    obtain ⟨n1, q1⟩ := wo_of q
    exact wo_mk (fun z => z.elim n1 fun z => by rw [z, h0] at q1; cases q1) (G.ext _ _ q1)
  have at' : ∀ (j : Nat) (T : Addr), ts[j]? = some T → ∃ x, (List.zipWith pairD ds es)[j]? = some x ∧ Dt (wo (fun b => B b ∨ b = S) H') (.ref T) x := fun j T hj => by
    obtain ⟨x, y, t, h1, h2, h3, h4⟩ := G.at_ j T hj
    obtain ⟨dx, g1, g2⟩ := d.get h1
    obtain ⟨dy, g3, g4⟩ := e.get h2
    refine ⟨pairD dx dy, by rw [List.getElem?_zipWith, g1, g3], ?_⟩
    have nT : ¬ (B T ∨ T = S) := fun z => z.elim (fun z => hB T z h3) h4
    exact .tup (t.kt fun o e => wo_mk nT e) (.cons (Dt.mono (s h0S) g2) (.cons (Dt.mono (s h0S) g4) .nil))
  have lz : (List.zipWith pairD ds es).length = ts.length := by rw [List.length_zipWith, G.len, hn, ld, le]
  have go : ∀ (ts : List Addr) (xs : List PyData), xs.length = ts.length → (∀ (j : Nat) (T : Addr), ts[j]? = some T → ∃ x, xs[j]? = some x ∧ Dt (wo (fun b => B b ∨ b = S) H') (.ref T) x) → DtAll (wo (fun b => B b ∨ b = S) H') (ts.map V.ref) xs := by
    intro ts
    induction ts with
    | nil =>
      intro xs hl _
      cases xs with
      | nil => exact .nil
      | cons _ _ => simp at hl
    | cons T ts ih =>
      intro xs hl h
      cases xs with
      | nil => simp at hl
      | cons x xs =>
        obtain ⟨x', h1, h2⟩ := h 0 T rfl
        cases h1
        exact .cons h2 (ih xs (by simpa using hl) fun j T hj => by simpa using h (j + 1) T (by simpa using hj))
  exact go ts _ lz at'
theorem fe_listZip {p p2 pos2 : Pos} {t : TAD} (hc : X.calm = true) (hg : Gl X "list") (hm : X.mg "list" = none) (hg2 : Gl X "zip") (hm2 : X.mg "zip" = none) (ha : FA X [a, b] t)
    (hs : starEach [a, b] X.env = (false, eval a X.env) :: starEach [b] X.env := by rfl) (hpl : (backTo pos2 (starEach [b] X.env)).any (·.1) = false := by rfl)
    (hs2 : starEach [.Call (.Name "zip" p2) [a, b] [] pos2] X.env = (false, eval (.Call (.Name "zip" p2) [a, b] [] pos2) X.env) :: starEach [] X.env := by rfl) :
    FE X (.Call (.Name "list" p) [.Call (.Name "zip" p2) [a, b] [] pos2] [] pos) (dListZip t) := by
  refine (pe_listZip hc hg hm hg2 hm2 ha hs hpl hs2).mo ?_
  rintro σ H Q ⟨C, ρ, Qd, R, h, post⟩
  refine ⟨C, ρ, _, R, h, ?_⟩
  rintro vs H1 xs R1 k1 e1 ⟨ds, es, rfl, hz, q⟩
  obtain ⟨v, u, rfl, e2, e3⟩ := My.p2 e1
  obtain ⟨l1, us1, rfl, t1, d1⟩ := R1.tupOf e2
  obtain ⟨l2, us2, rfl, t2, d2⟩ := R1.tupOf e3
  refine ⟨l1, l2, us1, us2, rfl, t1, t2, fun H2 l ts h0 G => ?_⟩
  have kq : Kq C.t H1 H2 := fun c o _ e => G.ext c o e
  have R2 : Rep X.K C ρ σ H2 := R1.step kq (R1.tp.same G.ext) (R1.tab.ext G.ext)
  have rl : RelE C ρ σ H1 H2 (.ref l) (.nw (List.zipWith pairD ds es)) := by
    refine ⟨l, _, rfl, h0, G.lst, zip_dt G rfl h0 (fun c z => ?_) d1 d2, ?_⟩
    · obtain ⟨o, q⟩ := R1.badL z
      rw [q]; exact fun z => by cases z
    · rw [List.length_zipWith]; omega
  exact post _ _ _ R2 (k1.trans kq) (rl.back k1 R1) q
end
end My
set_option maxHeartbeats 1000000
namespace My
open PySem PySem.Spec PyProof.Rows L2
variable [TB]
def forB (i : Nat) (p : Addr) (ds : List PyData) (g : TGD) (tb : TSD) (Dd : EndsD) : List PyData → Ro → Prop
  | [], ρ => ρ[i]? = some (some (.bor p (leaves ds))) ∧ Dd.nx (ρ.set i (some (.own ds)))
  | x :: xs, ρ => ρ[i]? = some (some (.bor p (leaves ds))) ∧ g (.one x) ρ fun ρ2 => tb { Dd with nx := forB i p ds g tb Dd xs, ct := forB i p ds g tb Dd xs, bk := fun ρ' => ρ'[i]? = some (some (.bor p (leaves ds))) ∧ Dd.nx (ρ'.set i (some (.own ds))) } ρ2
def dForO (i : Nat) (g : TGD) (tb : TSD) : TSD := fun Dd ρ => ∃ ds, ρ[i]? = some (some (.own ds)) ∧ ∀ p, forB i p ds g tb Dd ds (ρ.set i (some (.bor p (leaves ds))))
end My
set_option maxHeartbeats 1000000
namespace My
open PySem PySem.Spec PyProof.Rows L2
variable [TB]
section
variable {X : Cx} {st : Stmt} {sts : List Stmt} {t u : TSD} {r : Nat}
/-- from here on the dict at slot i is lent -/
def dLendT (i : Nat) (t : TSD) : TSD := fun Dd ρ => ∃ ks es : List PyData, ρ[i]? = some (some (.ot (.dic ks (es.map .leaf)))) ∧ ∀ p, t Dd (ρ.set i (some (.bor p (.dic ks (es.map .leaf)))))
/-- d[k] = v of a lent dict -/
def dSetDB (i : Nat) (tk tv : TED) : TSD := fun Dd ρ => ∃ p ks ms, ρ[i]? = some (some (.bor p (.dic ks ms))) ∧ tv ρ fun x => ∃ e, x.st = some e ∧ tk ρ fun y => ∃ d, y = .p d ∧ uniB ks d = true ∧ ms.length < sizeLine ∧ (∀ j, kIx ks d = some j → ∃ e0, ms[j]? = some (.leaf e0)) ∧ Dd.nx (ρ.set i (some (.bor p (putM ks ms d e))))
theorem LinkB.gg {K : PySem.W.Frag} {C : Cd} {Dd : EndsD} {D : Ends} (L : LinkB K r C Dd D) (G : Addr → Prop) : LinkB K r (C.gg G) Dd D := ⟨fun G' ρ σ H R q => L.nx' G' ρ σ H R q, L.rt, L.bk', L.ct'⟩
end
abbrev TLB := Ro → (List D → Nat → Addr → M → Prop) → Prop
def dBL (j : Nat) : TLB := fun ρ Q => ∃ p m, ρ[j]? = some (some (.bor p m)) ∧ Q [] j p m
def dBV (te : TED) (tr : TLB) : TLB := fun ρ Q => te ρ fun x => ∃ y, x.arg = some y ∧ tr ρ fun xs j p m => Q (y :: xs) j p m
def dCallB (n : Nat) (S : SpMD) (tl : TLB) : TMD := fun ρ Q => tl ρ fun xs j p m => xs.length + 1 = n ∧ S (xs ++ [.bor p m]) fun x ms => ∃ m', ms = [m'] ∧ Q x (ρ.set j (some (.bor p m')))
section
variable {X : Cx} {n k : Nat} {ps : List Str} {S : SpMD} {x : Str} {p pos : Pos} {e : Expr} {es : List Expr} {tl : TLB} {tm : TMD} {st : Stmt}
/-- x.extend(f(..)), f changes what it is lent -/
def dExtM (i : Nat) (tm : TMD) : TSD := fun Dd ρ => (∃ ds, ρ[i]? = some (some (.own ds))) ∧ tm ρ fun x ρ' => ∃ ds es : List PyData, ρ'[i]? = some (some (.own ds)) ∧ x = .p (.list es) ∧ ds.length + es.length ≤ sizeLine ∧ Dd.nx (ρ'.set i (some (.own (ds ++ es))))
end
end My
set_option maxHeartbeats 1000000
namespace My
open PySem PySem.Spec PyProof.Rows L2
variable [TB]
def kSrtDS (x : D) (Q : D → Prop) : Prop := match x.dks with
  | some (ks, _) => match strsOf ks with
    | some xs => xs.length ≤ sizeLine ∧ ∀ ys : List Str, ys.Perm xs → sortedS ys = true → Q (.nw (ys.map PyData.str))
    | none => False
  | _ => False
end My
namespace My
open PySem PySem.Spec PyProof.Rows L2
variable [TB]
/-- what is given: a function as some entry has it -/
def argR (en : EnL) : D → D → Prop
  | .fv f _, y => ∃ I, (f, I) ∈ en ∧ y = .fv f I
  | x, y => x.arg = some y
section
variable [FR]
def dCallR (n : Nat) (rs : List LamR) (dd : List PyData) (S : CT → SpD) (ta : TAD) : TED := fun ρ Q => ta ρ fun xs => regs rs ctNone [] ρ xs fun c en => ∃ ys, Paired (argR en) xs ys ∧ (ys ++ dd.map D.p).length = n ∧ S c (ys ++ dd.map D.p) Q
end
section
variable [FR] {n : Nat} {rs : List LamR} {dd : List PyData} {S : CT → SpD} {ta : TAD} {ρ : Ro} {Q : D → Prop}
theorem e_callR : dCallR n rs dd S ta ρ Q = ta ρ fun xs => regs rs ctNone [] ρ xs fun c en => ∃ ys, Paired (argR en) xs ys ∧ (ys ++ dd.map D.p).length = n ∧ S c (ys ++ dd.map D.p) Q := rfl
end
end My
set_option maxHeartbeats 4000000
namespace My
open PySem PySem.Spec PyProof.Rows L2
variable [TB]
section
variable [FR]
def dCallCK (n : Nat) (rs : List LamR) (S : CT → SpD) (t : TAD) (te : TED) : TED := fun ρ Q => t ρ fun xs => te ρ fun y => xs.length + 1 = n ∧ regs rs ctNone [] ρ xs fun c en => ∃ ys, argAllE en (xs ++ [y]) = some ys ∧ S c ys Q
end
section
variable [FR] {n : Nat} {rs : List LamR} {S : CT → SpD} {ta : TAD} {te : TED} {ρ : Ro} {Q : D → Prop}
theorem e_callCK : dCallCK n rs S ta te ρ Q = ta ρ fun xs => te ρ fun y => xs.length + 1 = n ∧ regs rs ctNone [] ρ xs fun c en => ∃ ys, argAllE en (xs ++ [y]) = some ys ∧ S c ys Q := rfl
end
end My
namespace My
open PySem PySem.Spec PyProof.Rows L2
variable [TB]
def kGcd (x y : D) (Q : D → Prop) : Prop := match x, y with
  | .p (.int i), .p (.int j) => Q (.p (.int ((Nat.gcd i.natAbs j.natAbs : Nat) : Int)))
  | _, _ => False
section
variable {i j : Int} {Q : D → Prop}
theorem k_gcd : kGcd (.p (.int i)) (.p (.int j)) Q = Q (.p (.int ((Nat.gcd i.natAbs j.natAbs : Nat) : Int))) := rfl
end
end My
set_option maxHeartbeats 1000000
namespace My
open PySem PySem.Spec PyProof.Rows L2
variable [TB]
theorem DtAll.erase {H : Hp} {vs : List V} {ds : List PyData} (n : Nat) (h : DtAll H vs ds) : DtAll H (vs.eraseIdx n) (ds.eraseIdx n) := by
  rw [List.eraseIdx_eq_take_drop_succ, List.eraseIdx_eq_take_drop_succ]
  exact (h.take n).append (h.drop (n + 1))
end My
set_option maxHeartbeats 4000000
set_option maxHeartbeats 1000000
namespace My
open PySem PySem.Spec PyProof.Rows L2
/-- turns over a dict: n entries, of each what g says -/
def ItX (g : NestedKey × V × V → V) (w : World) (d : Addr) (n ep : Nat) : It :=
  ⟨fun i H => (∃ kvs, H d = some (DicO w d kvs ep)) ∧ (∃ kvs, IsDic w H d kvs ∧ kvs.length = n) ∧ i < n, fun i H x H' => H' = H ∧ ∀ kvs, IsDic w H d kvs → (kvs[i]?).map g = some x,
    fun i H => (∃ kvs, H d = some (DicO w d kvs ep)) ∧ (∃ kvs, IsDic w H d kvs ∧ kvs.length = n) ∧ n ≤ i⟩
theorem raw_here {P : Program} {w w' : World} {H : Hp} {h : Heap} {d : Addr} {kvs : KVs} {ep : Nat} (ok : HOk P w' H h) (e : H d = some (DicO w d kvs ep)) : ∃ es, h.DictRaw d es ep ∧ (d == sysModules) = false := by
  obtain ⟨⟨R, o, es, g1, g2⟩, _⟩ := ok d _ e
  obtain ⟨o', es', ep', f1, f2, f3, _⟩ := R.ex
  rw [g1] at f1
  cases f1
  exact ⟨es, ⟨o, g1, f2, g2⟩, R.s⟩
theorem raw_any {P : Program} {w w' : World} {H : Hp} {h : Heap} {d : Addr} {kvs : KVs} {es : Array DictEntry} {ep : Nat} (ok : HOk P w' H h) (m : h.DictRaw d es ep) (e : IsDic w H d kvs) : Paired (EntR w) kvs es.toList := by
  obtain ⟨o, es', ep', f1, f2, f3, f4⟩ := (dic_at ok e).ex
  obtain ⟨o1, g1, _, g3⟩ := m
  rw [g1] at f1
  cases f1
  rw [g3] at f3
  cases f3
  exact f4
theorem ent_at {w : World} : ∀ {kvs : KVs} {es : List DictEntry} {i : Nat} {e : DictEntry}, Paired (EntR w) kvs es → es[i]? = some e → ∃ p, kvs[i]? = some p ∧ EntR w p e
  | _, _, _, _, .nil, z => by simp at z
  | _, _, 0, _, .cons h _, z => by simp at z; subst z; exact ⟨_, rfl, h⟩
  | _, _, i + 1, _, .cons _ t, z => by
    obtain ⟨p, h1, h2⟩ := ent_at (i := i) t (by simpa using z)
    exact ⟨p, by simpa using h1, h2⟩
section
variable {P : Program} {w : World} {K : PySem.W.Frag} {tg : Expr} {d : Addr} {n ep : Nat}
theorem turn_kX (it : Addr) : Turn P w K tg (ItX (·.2.1) w d n ep) [it] it (fun i h => h.IsKeyIter it d i n ep) where
  mem := List.mem_singleton.mpr rfl
  obj := fun _ _ r b hb => let ⟨o, g1, _, g3⟩ := r; ⟨o, by rw [List.mem_singleton.mp hb]; exact g1, fun v z => by rw [g3] at z; cases z⟩
  keep := fun _ _ _ r f => let ⟨o, g1, g2⟩ := r; ⟨o, f it (List.mem_singleton.mpr rfl) o g1, g2⟩
  item := fun X eP ew eK calm i pins s σ H E I fr r go => by
    subst eP ew eK
    obtain ⟨⟨kvs, e1⟩, ⟨kvs2, e2, ln⟩, lt⟩ := go
    obtain ⟨es, m, _⟩ := raw_here I.hok e1
    have pr := raw_any I.hok m e2
    have sz : es.size = n := by rw [← ln, ← Array.length_toList]; exact (Paired.length pr).symm
    obtain ⟨a0, a1, _, a3, a4, a5⟩ := fr it (List.mem_singleton.mpr rfl)
    have r := sz.symm ▸ r
    have hi : i < es.size := by omega
    have at' : es.toList[i]? = some es[i] := by rw [Array.getElem?_toList, Array.getElem?_eq_getElem hi]
    obtain ⟨q, q1, q2⟩ := ent_at pr at'
    refine wpAny_pyNext_keys_item_raw r m hi fun h2 r2 same => ?_
    have J := I.turned (t' := s.toks) (fun b ob hb z => (same.2 b hb).trans z) a0 a1 a3 a4 a5
    obtain ⟨ob, b1, b2, b3⟩ := id r2
    refine ⟨es[i].key, rfl, go_of (s := { s with heap := h2 }) b1 b2 b3 (by decide) ⟨q.2.1, H, J, q2.2.1, ⟨rfl, fun kvs3 e3 => ?_⟩, sz ▸ r2, fun b hb => (fr b hb).1⟩⟩
    obtain ⟨q', g1, g2⟩ := ent_at (raw_any I.hok m e3) at'
    rw [g1]
    exact congrArg some (RelV.inj g2.2.1 q2.2.1)
  done := fun X eP ew eK calm i pins s σ H E I fr r st => by
    subst eP ew eK
    obtain ⟨⟨kvs, e1⟩, ⟨kvs2, e2, ln⟩, le⟩ := st
    obtain ⟨es, m, _⟩ := raw_here I.hok e1
    have sz : es.size = n := by rw [← ln, ← Array.length_toList]; exact (Paired.length (raw_any I.hok m e2)).symm
    obtain ⟨a0, a1, _, a3, a4, a5⟩ := fr it (List.mem_singleton.mpr rfl)
    have r := sz.symm ▸ r
    exact wpAny_pyNext_keys_end_raw (I.ok.hd calm) r m (by omega) fun h2 ex => ⟨rfl, I.turned (t' := s.toks) (fun b ob hb z => ex b ob hb z) a0 a1 a3 a4 a5⟩
  self := fun _ _ _ _ _ r h => wpAny_pyIter_keyiter r h
end
/-- the keys of a dict, its values -/
def iKeyX (w : World) (td : TE) : TI := fun σ H R => td σ H fun x H1 => ∃ d kvs ep, x = .ref d ∧ H1 d = some (DicO w d kvs ep) ∧ R (ItX (·.2.1) w d kvs.length ep) H1
section
variable {X : Cx} {tg e : Expr} {td : TE} {apos cpos : Pos}
theorem pi_keyX (he : PE X e td) : PI X tg e (iKeyX X.w td) := by
  refine ⟨fun pins s σ H R I q => thn (he.run pins s σ H _ I q) fun v s1 ⟨x, H1, J, rx, d, kvs, ep, ex, hd, r⟩ => ?_⟩
  subst ex
  cases rx
  obtain ⟨es, m, sy⟩ := raw_here J.hok hd
  have sz : es.size = kvs.length := by rw [← Array.length_toList]; exact (Paired.length (raw_any J.hok m ⟨ep, hd⟩)).symm
  refine wpAny_pyIter_dict_raw sy m (pi_one (tk := s1.toks) J _ (turn_kX _) ⟨_, Heap.get?_push_size _ rfl, rfl, ?_⟩ r)
  rw [sz]
  rfl
end
end My
set_option maxHeartbeats 1000000
namespace My
open PySem PySem.Spec PyProof.Rows L2
variable [TB]
def dIKey (te : TED) : TID := fun ρ Q => te ρ fun x => ∃ ds : List (PyData × PyData), x = .p (.dict ds) ∧ Q (ds.map fun q => .one q.1)
def dIVal (te : TED) : TID := fun ρ Q => te ρ fun x => ∃ ds : List (PyData × PyData), x = .p (.dict ds) ∧ Q (ds.map fun q => .one q.2)
section
variable {X : Cx} {tg it : Expr} {te : TED}
theorem wdX {K : PySem.W.Frag} {C : Cd} {a : Addr} {ds : List (PyData × PyData)} {n ep : Nat} (g : NestedKey × V × V → V) (f : PyData × PyData → PyData) (real : ∀ ep, PyData.dict ds ≠ ghost ep) (hn : n = ds.length)
    (hg : ∀ (H : Hp) (kvs : KVs), DtAll H (kvs.map (·.2.1)) (ds.map (·.1)) → DtAll H (kvs.map (·.2.2)) (ds.map (·.2)) → DtAll H (kvs.map g) (ds.map f)) :
    WalkD K C ([(V.ref a, .dict ds), (V.ref a, ghost ep)], []) (ItX g TB.w a n ep) (ds.map fun q => .one (f q)) := by
  have look : ∀ {C' : Cd} {ρ : Ro} {σ : L2.St} {H : Hp}, Has C' ([(V.ref a, PyData.dict ds), (V.ref a, ghost ep)], []) → Rep K C' ρ σ H → (∃ kvs, H a = some (DicO TB.w a kvs ep)) ∧ ∃ kvs, IsDic TB.w H a kvs ∧ kvs.length = n ∧ DtAll (wo (bad C' ρ σ) H) (kvs.map g) (ds.map f) := fun {C' ρ σ H} hp R => by
    obtain ⟨kvs2, e2⟩ := (R.pin _ (hp.1 (V.ref a, ghost ep) (by simp))).ep
    have d1 := (R.pin _ (hp.1 (V.ref a, PyData.dict ds) (by simp))).dt real
    refine ⟨⟨kvs2, (wo_of e2).2⟩, ?_⟩
    cases d1 with
    | @dic _ kvs _ h1 h2 h3 _ =>
      refine ⟨kvs, h1.mono fun o e => (wo_of e).2, ?_, hg _ _ h2 h3⟩
      have := h2.length
      rw [List.length_map, List.length_map] at this
      rw [hn, this]
  refine ⟨fun C' ρ σ H i x ht hp R hx => ?_, fun C' ρ σ H ht hp R => ?_⟩
  · obtain ⟨l1, kvs, l2, l3, l4⟩ := look hp R
    rw [List.getElem?_map] at hx
    obtain ⟨q, hq, rfl⟩ := Option.map_eq_some_iff.mp hx
    have hi := (List.getElem?_eq_some_iff.mp hq).1
    refine ⟨⟨l1, ⟨kvs, l2, l3⟩, by omega⟩, ?_⟩
    rintro v H' ⟨rfl, hy⟩
    have hy := hy kvs l2
    obtain ⟨u, hu, du⟩ := l4.of (i := i) (d := f q) (by rw [List.getElem?_map, hq]; rfl)
    rw [List.getElem?_map] at hu
    rw [hu] at hy
    cases hy
    exact ⟨Kq.refl _ _, R, du⟩
  · obtain ⟨l1, kvs, l2, l3, _⟩ := look hp R
    exact ⟨l1, ⟨kvs, l2, l3⟩, by rw [List.length_map]; omega⟩
theorem fi_keyX (hw : X.w = TB.w) (h : FE X it te) : FI X tg it (dIKey te) := by
  have h' := pi_keyX (tg := tg) h
  rw [hw] at h'
  refine h'.mo ?_
  rintro σ H R' ⟨C, ρ, Qd, R, h, post⟩
  refine ⟨C, ρ, _, R, h, ?_⟩
  rintro v H1 x R1 k1 e1 ⟨ds, rfl, q⟩
  have e1 : Dt (wo (bad C ρ σ) H1) v (.dict ds) := e1
  have real := e1.real
  cases e1 with
  | @dic a kvs _ h1 h2 h3 h4 =>
    obtain ⟨ep, hd⟩ := id h1
    have ln := h2.length
    rw [List.length_map, List.length_map] at ln
    refine ⟨a, kvs, ep, rfl, (wo_of hd).2, post _ H1 _ ([(V.ref a, .dict ds), (V.ref a, ghost ep)], []) (R1.pinnedD _ (fun q hq => ?_)) k1 (wdX (·.2.1) (·.1) real ln fun _ _ x _ => x) q⟩
    simp only [List.mem_cons, List.not_mem_nil, or_false] at hq
    rcases hq with rfl | rfl
    · exact .inl (.dic h1 h2 h3 h4)
    · exact .inr ⟨a, ep, kvs, rfl, rfl, hd⟩
end
section
variable {ρ : Ro} {te : TED} {Q : List ItD → Prop}
theorem e_iKey : dIKey te ρ Q = te ρ fun x => ∃ ds : List (PyData × PyData), x = .p (.dict ds) ∧ Q (ds.map fun q => .one q.1) := rfl
theorem e_iVal : dIVal te ρ Q = te ρ fun x => ∃ ds : List (PyData × PyData), x = .p (.dict ds) ∧ Q (ds.map fun q => .one q.2) := rfl
end
end My
set_option maxHeartbeats 1000000
namespace My
open PySem PySem.Spec PyProof.Rows L2
variable [TB]
/-- the dict within -/
def sdIn (ks : List PyData) (ms : List M) (d : PyData) : List PyData × List M := match kIx ks d with
  | some j => match ms[j]? with
    | some (.dic ks2 ms2) => (ks2, ms2)
    | _ => ([], [])
  | none => ([], [])
def sdMidD (ks : List PyData) (ms : List M) (d : PyData) : M := match kIx ks d with
  | some _ => .dic ks ms
  | none => .dic (ks ++ [d]) (ms ++ [.dic [] []])
def sdFinD (ks : List PyData) (ms : List M) (d c e : PyData) : M := match kIx ks d with
  | some j => .dic ks (ms.set j (putM (sdIn ks ms d).1 (sdIn ks ms d).2 c e))
  | none => .dic (ks ++ [d]) (ms ++ [putM [] [] c e])
def dSdSet (i : Nat) (tk tj tv : TED) : TSD := fun Dd ρ => ∃ ks ms, ρ[i]? = some (some (.ot (.dic ks ms))) ∧ tv ρ fun x => ∃ e, x.st = some e ∧ tk ρ fun z => ∃ d, z = .p d ∧ uniB ks d = true ∧ ms.length < sizeLine ∧ (∀ j, kIx ks d = some j → ∃ ks2 ms2, ms[j]? = some (.dic ks2 ms2)) ∧
  tj (ρ.set i (some (.ot (sdMidD ks ms d)))) fun y => ∃ c, y = .p c ∧ uniB (sdIn ks ms d).1 c = true ∧ (sdIn ks ms d).2.length < sizeLine ∧ (∀ j, kIx (sdIn ks ms d).1 c = some j → ∃ e0, (sdIn ks ms d).2[j]? = some (.leaf e0)) ∧ Dd.nx (ρ.set i (some (.ot (sdFinD ks ms d c e))))
/-- one of the things within, and how it is put back -/
theorem rels_at {B : Addr → Prop} {H : Hp} : ∀ {vs : List V} {ms : List M} {f : List Addr} {n : Nat} {m : M}, RelMs H B vs ms f → ms[n]? = some m → ∃ v g, vs[n]? = some v ∧ RelM H B v m g ∧ (∀ b ∈ g, b ∈ f) ∧
    ∀ (m' : M) (H' : Hp), RelM H' B v m' g → (∀ b o, b ∉ g → H b = some o → H' b = some o) → (∀ b o, ¬ B b → H b = some o → H' b = some o) → RelMs H' B vs (ms.set n m') f
  | _, _, _, _, _, .nil, e => by simp at e
  | _, _, _, 0, _, .cons h t d, e => by
    simp at e; subst e
    exact ⟨_, _, rfl, h, fun b hb => List.mem_append_left _ hb, fun m' H' h' kp k => .cons h' (t.mono (wo_mono (fun _ z => z) k) fun b hb o e => kp b o (fun z => d b z hb) e) d⟩
  | _, _, _, n + 1, _, .cons h t d, e => by
    obtain ⟨v, g, h1, h2, h3, h4⟩ := rels_at (n := n) t (by simpa using e)
    exact ⟨v, g, by simpa using h1, h2, fun b hb => List.mem_append_right _ (h3 b hb), fun m' H' h' kp k => .cons (h.mono (wo_mono (fun _ z => z) k) fun b hb o e => kp b o (fun z => d b hb (h3 b z)) e) (h4 m' H' h' kp k) d⟩
section
variable {X : Cx} {st : Stmt}
theorem fs_sdSet {i : Nat} {tk tj tv : TED} (hw : X.w = TB.w) (h : PS X st (tAsg (up X.K tv) (gSub (tDM X.w (rDSd X.w) (tVar i) (upA X.K (dCons tk (dCons dNewD dNil)))) (up X.K tj) (rDSet X.w)))) : FS X st (dSdSet i tk tj tv) := by
  rw [hw] at h
  refine h.mo ?_
  rintro D σ Hs ⟨C, ρ, Dd, Rs, ⟨ks, ms, e, h⟩, L⟩
  refine ⟨C, ρ, _, Rs, h, ?_⟩
  rintro xv H x R k0 e0 ⟨ev, hs, h⟩
  have gv := Rs.stOf e0 hs
  obtain ⟨φ, T⟩ := R.tre
  obtain ⟨w, g1, g2, g3⟩ := T.rel i _ e
  obtain ⟨a, kvs, f, rfl, hp, hk, hc, hm, nf, ef⟩ : ∃ p kvs f, w = .ref p ∧ IsDic TB.w H p kvs ∧ DtAll (wo (bad C ρ σ) H) (kvs.map (·.2.1)) ks ∧ ks.map canon = kvs.map (fun q => some q.1) ∧ RelMs H (bad C ρ σ) (kvs.map (·.2.2)) ms f ∧ p ∉ f ∧ φ i = p :: f := by
    generalize φ i = ff at g2
    cases g2 with
    | dic a b c d n => exact ⟨_, _, _, rfl, a, b, c, d, n, rfl⟩
  have aG : C.G a := g3 a (by rw [ef]; exact List.mem_cons_self)
  have fG : ∀ b ∈ f, C.G b := fun b hb => g3 b (by rw [ef]; exact List.mem_cons_of_mem _ hb)
  have li : i < ρ.length := (List.getElem?_eq_some_iff.mp e).1
  have set_same : ρ.set i (some (.ot (.dic ks ms))) = ρ := by
    apply List.ext_getElem?
    intro j
    by_cases ij : i = j
    · subst ij; rw [List.getElem?_set_self li, e]
    · rw [List.getElem?_set_ne ij]
  refine ⟨.ref a, g1, ⟨a, kvs, rfl, hp⟩, C, ρ, (fun xs => match xs with
    | [y, .nt (.dic [] [])] => ∃ d, y = .p d ∧ uniB ks d = true ∧ ms.length < sizeLine ∧ (∀ j, kIx ks d = some j → ∃ ks2 ms2, ms[j]? = some (.dic ks2 ms2)) ∧
        tj (ρ.set i (some (.ot (sdMidD ks ms d)))) fun y => ∃ c, y = .p c ∧ uniB (sdIn ks ms d).1 c = true ∧ (sdIn ks ms d).2.length < sizeLine ∧ (∀ j, kIx (sdIn ks ms d).1 c = some j → ∃ e0, (sdIn ks ms d).2[j]? = some (.leaf e0)) ∧ Dd.nx (ρ.set i (some (.ot (sdFinD ks ms d c ev))))
    | _ => False), R, h, ?_⟩
  rintro vs H1 xs R1 k1 es hq
  split at hq
  · rename_i y
    obtain ⟨d, rfl, un, hz, old, ht⟩ := hq
    cases es with
    | @cons yv _ _ _ e1 es =>
      cases es with
      | @cons lv _ _ _ e2 es =>
        cases es
        obtain ⟨lp, en1, rfl, hl, hl1⟩ : ∃ lp en, lv = .ref lp ∧ H lp = none ∧ H1 lp = some (DicO TB.w lp [] en) := by
          obtain ⟨fl, fn, fr⟩ := e2
          cases fr with
          | @dic p kv2 _ _ f2 a1 b1 c1 d1 n1 =>
            obtain ⟨en, a1⟩ := a1
            cases kv2 with
            | nil => exact ⟨p, en, rfl, fn p List.mem_cons_self, a1⟩
            | cons q l => cases b1
        obtain ⟨k, ek⟩ := uni_some un
        have fx := fnd_ix ek hc
        have s01 := R.kp k1
        have gv1 := Dt.mono s01 gv
        have keep1 : ∀ b, C.G b → ∀ o, H b = some o → H1 b = some o := fun b hb o z => k1 b o (R.ownX (R.g0 b hb).2.1).1 z
        obtain ⟨en0, hp⟩ := hp
        have hp1 := keep1 a aG _ hp
        have hk1 := DtAll.mono s01 hk
        have hm1 : RelMs H1 (bad C ρ σ) (kvs.map (·.2.2)) ms f := hm.mono s01 fun b hb o z => keep1 b (fG b hb) o z
        have hkl : kvs.length = ms.length := by have := hm.len; rwa [List.length_map] at this
        have T1 : Trees C ρ σ H1 φ := T.mono s01 (fun b o hb z => keep1 b hb o z) fun _ z => z
        refine ⟨a, kvs, k, yv, .ref lp, rfl, rfl, ⟨_, hp1⟩, uni_of hk1 hc e1 ek un, by rw [hkl]; exact hz, fun v hv => ?_, fun hn en => ?_⟩
        · -- it is there
          cases w : kIx ks d with
          | none => rw [fx.1 w] at hv; cases hv
          | some j =>
            obtain ⟨v', w1, w2⟩ := fx.2 j w
            rw [hv] at w2; cases w2
            obtain ⟨ks2, ms2, o1⟩ := old j w
            have ein : sdIn ks ms d = (ks2, ms2) := by unfold sdIn; rw [w]; simp only [o1]
            rw [ein] at ht
            obtain ⟨v2, g, r1, r2, r3, _⟩ := rels_at hm1 o1
            rw [w1] at r1; cases r1
            obtain ⟨q, f3, rfl, rfl⟩ : ∃ q f3, v = .ref q ∧ g = q :: f3 := by
              cases r2 with
              | dic _ _ _ _ _ => exact ⟨_, _, rfl, rfl⟩
            clear r2
            have qf : q ∈ f := r3 q List.mem_cons_self
            have aq : a ≠ q := fun z => nf (z ▸ qf)
            have em : sdMidD ks ms d = .dic ks ms := by unfold sdMidD; rw [w]
            rw [em, set_same] at ht
            refine ⟨C, ρ, _, R1, ht, ?_⟩
            rintro cv H2 y R2 k2 e3 ⟨c, rfl, unc, hzc, oldc, qq⟩
            obtain ⟨kc, ekc⟩ := uni_some unc
            have s12 := R1.kp k2
            have keep2 : ∀ b, C.G b → ∀ o, H1 b = some o → H2 b = some o := fun b hb o z => k2 b o (R1.ownX (R1.g0 b hb).2.1).1 z
            have T2 : Trees C ρ σ H2 φ := T1.mono s12 (fun b o hb z => keep2 b hb o z) fun _ z => z
            have hm2 : RelMs H2 (bad C ρ σ) (kvs.map (·.2.2)) ms f := hm1.mono s12 fun b hb o z => keep2 b (fG b hb) o z
            have hk2 := DtAll.mono s12 hk1
            have gv2 := Dt.mono s12 gv1
            obtain ⟨v3, g4, t1, r22, t3, back⟩ := rels_at hm2 o1
            rw [w1] at t1; cases t1
            obtain ⟨kvs2, f4, hq2, hkq, hcq, hmq, nfq, rfl⟩ : ∃ kvs2 f4, IsDic TB.w H2 q kvs2 ∧ DtAll (wo (bad C ρ σ) H2) (kvs2.map (·.2.1)) ks2 ∧ ks2.map canon = kvs2.map (fun z => some z.1) ∧ RelMs H2 (bad C ρ σ) (kvs2.map (·.2.2)) ms2 f4 ∧ q ∉ f4 ∧ g4 = q :: f4 := by
              cases r22 with
              | dic a b c d n => exact ⟨_, _, a, b, c, d, n, rfl⟩
            have hl2 : kvs2.length = ms2.length := by have := hmq.len; rwa [List.length_map] at this
            have qb : bad C ρ σ q := .inr (.inr (.inr (fG q qf)))
            refine ⟨q, kvs2, kc, rfl, hq2, uni_of hkq hcq e3 ekc unc, by rw [hl2]; exact hzc, fun nd en => ?_⟩
            obtain ⟨enq, hq2⟩ := hq2
            have s22 : Same (wo (bad C ρ σ) H2) (wo (bad C ρ σ) (upd H2 q (DicO TB.w q (putD kvs2 kc cv xv) en))) := fun b o z => by
              obtain ⟨f1, f2⟩ := wo_of z
              exact wo_mk f1 (by rw [upd_ne (fun y => f1 (by rw [y]; exact qb))]; exact f2)
            have efin : sdFinD ks ms d c ev = .dic ks (ms.set j (putM ks2 ms2 c ev)) := by unfold sdFinD; rw [w, ein]
            refine L.nx _ _ _ (R2.putT0 T2 (n := sdFinD ks ms d c ev) e g1 (fun c s z => by rw [hq2] at z; exact dic_code (Option.some.inj z)) (fun u t z => by rw [hq2] at z; cases z) (by rw [ef]; exact List.mem_cons_of_mem _ qf) ?_) qq
            rw [ef, efin]
            refine .dic ⟨_, by rw [upd_ne aq]; exact keep2 a aG _ hp1⟩ (DtAll.mono s22 hk2) hc (back _ _ (rel_put rfl nd hkq hcq hmq nfq qb (fun b hb => .inr (.inr (.inr (fG b (t3 b (List.mem_cons_of_mem _ hb)))))) ekc e3 gv2 oldc) (fun b o nb ho => by rw [upd_ne (fun y => nb (by rw [y]; exact List.mem_cons_self))]; exact ho) (fun b o nb ho => by rw [upd_ne (fun y => nb (by rw [y]; exact qb))]; exact ho)) nf
        · have w : kIx ks d = none := by
            cases q : kIx ks d with
            | none => rfl
            | some j => obtain ⟨v, _, z⟩ := fx.2 j q; rw [hn] at z; cases z
          have ein : sdIn ks ms d = ([], []) := by unfold sdIn; rw [w]
          rw [ein] at ht
          have al : a ≠ lp := fun z => by rw [z, hl] at hp; cases hp
          have hl2 : upd H1 a (DicO TB.w a (kvs ++ [(k, yv, .ref lp)]) en) lp = some (DicO TB.w lp [] en1) := by rw [upd_ne (fun z => al z.symm)]; exact hl1
          have ab : bad C ρ σ a := .inr (.inr (.inr aG))
          have S0 : Same (wo (bad C ρ σ) H) (wo (fun b => bad C ρ σ b ∨ b = lp) (upd H1 a (DicO TB.w a (kvs ++ [(k, yv, .ref lp)]) en))) := fun b o z => by
            obtain ⟨f1, f2⟩ := wo_of z
            exact wo_mk (fun y => y.elim f1 fun y => by rw [y, hl] at f2; cases f2) (by rw [upd_ne (fun y => f1 (by rw [y]; exact ab))]; exact k1 b o (R.nxb f1) f2)
          have KF0 : KF (wo (bad C ρ σ) H1) (wo (fun b => bad C ρ σ b ∨ b = lp) (upd H1 a (DicO TB.w a (kvs ++ [(k, yv, .ref lp)]) en))) := fun b o u z => by
            obtain ⟨f1, f2⟩ := wo_of z
            refine wo_mk (fun y => y.elim f1 fun y => ?_) (by rw [upd_ne (fun y => f1 (by rw [y]; exact ab))]; exact f2)
            rw [y, hl1] at f2
            cases f2
          have lf : lp ∉ f := fun z => by obtain ⟨o, y⟩ := hm.some lp z; rw [hl] at y; cases y
          have keepH : ∀ b ∈ f, ∀ o, H b = some o → upd H1 a (DicO TB.w a (kvs ++ [(k, yv, .ref lp)]) en) b = some o := fun b hb o z => by rw [upd_ne (fun y => nf (by rw [← y]; exact hb))]; exact keep1 b (fG b hb) o z
          have kk : DtAll (wo (fun b => bad C ρ σ b ∨ b = lp) (upd H1 a (DicO TB.w a (kvs ++ [(k, yv, .ref lp)]) en))) ((kvs ++ [(k, yv, V.ref lp)]).map (·.2.1)) (ks ++ [d]) := by
            rw [List.map_append]
            exact (DtAll.mono S0 hk).snoc (Dt.tpo KF0 e1 (tpo_of ek))
          have kc : (ks ++ [d]).map canon = (kvs ++ [(k, yv, V.ref lp)]).map fun q => some q.1 := by
            rw [List.map_append, List.map_append, hc, List.map_singleton, List.map_singleton, ek]
          have km := hm.mono S0 keepH
          have nf2 : a ∉ f ++ [lp] := fun z => (List.mem_append.mp z).elim nf fun z => al (List.mem_singleton.mp z)
          have g4 : RelM (upd H1 a (DicO TB.w a (kvs ++ [(k, yv, .ref lp)]) en)) (fun b => bad C ρ σ b ∨ b = lp) (.ref a) (.dic (ks ++ [d]) (ms ++ [.dic [] []])) (φ i ++ [lp]) := by
            rw [ef]
            refine .dic (f := f ++ [lp]) (kvs := kvs ++ [(k, yv, .ref lp)]) ⟨_, upd_same⟩ kk kc ?_ nf2
            rw [List.map_append]
            exact km.snoc (.dic (kvs := []) (f := []) ⟨_, hl2⟩ .nil rfl .nil (by simp)) fun b hb hc => lf (by rw [List.mem_singleton.mp hc] at hb; exact hb)
          obtain ⟨R2, T2⟩ := R.putTG R1 k1 T (n := .dic (ks ++ [d]) (ms ++ [.dic [] []])) e g1 (fun c s z => by rw [hp1] at z; exact dic_code (Option.some.inj z)) (fun u t z => by rw [hp1] at z; cases z) (by rw [ef]; exact List.mem_cons_self) hl ⟨_, hl1⟩ g4
          have em : sdMidD ks ms d = .dic (ks ++ [d]) (ms ++ [.dic [] []]) := by unfold sdMidD; rw [w]
          rw [em] at ht
          refine ⟨_, _, _, R2, ht, ?_⟩
          rintro cv H3 y R3 k3 e3 ⟨c, rfl, unc, hzc, oldc, qq⟩
          obtain ⟨kcc, ekc⟩ := uni_some unc
          have s23 := R2.kp k3
          have keep3 : ∀ b, (C.G b ∨ b = lp) → ∀ o, upd H1 a (DicO TB.w a (kvs ++ [(k, yv, .ref lp)]) en) b = some o → H3 b = some o := fun b hb o z => k3 b o (R2.ownX (R2.g0 b hb).2.1).1 z
          have T3 := T2.mono s23 (fun b o hb z => keep3 b hb o z) fun _ z => z
          have l3 : H3 lp = some (DicO TB.w lp [] en1) := keep3 lp (.inr rfl) _ hl2
          have bg : ∀ b, bad (C.gg fun b => C.G b ∨ b = lp) (ρ.set i (some (.ot (.dic (ks ++ [d]) (ms ++ [.dic [] []]))))) σ b ↔ bad C ρ σ b ∨ b = lp := fun b => bad_grow e
          have lb : bad (C.gg fun b => C.G b ∨ b = lp) (ρ.set i (some (.ot (.dic (ks ++ [d]) (ms ++ [.dic [] []]))))) σ lp := (bg lp).mpr (.inr rfl)
          have S1 : Same (wo (fun b => bad C ρ σ b ∨ b = lp) (upd H1 a (DicO TB.w a (kvs ++ [(k, yv, .ref lp)]) en))) (wo (bad (C.gg fun b => C.G b ∨ b = lp) (ρ.set i (some (.ot (.dic (ks ++ [d]) (ms ++ [.dic [] []]))))) σ) H3) := fun b o z => by
            obtain ⟨f1, f2⟩ := wo_of z
            exact s23 b o (wo_mk (fun y => f1 ((bg b).mp y)) f2)
          have gv3 : Dt (wo (bad (C.gg fun b => C.G b ∨ b = lp) (ρ.set i (some (.ot (.dic (ks ++ [d]) (ms ++ [.dic [] []]))))) σ) H3) xv ev := Dt.mono S1 (Dt.mono S0 gv)
          have e' : (ρ.set i (some (.ot (.dic (ks ++ [d]) (ms ++ [.dic [] []])))))[i]? = some (some (.ot (.dic (ks ++ [d]) (ms ++ [.dic [] []])))) := List.getElem?_set_self li
          have efin : sdFinD ks ms d c ev = .dic (ks ++ [d]) (ms ++ [putM [] [] c ev]) := by unfold sdFinD; rw [w]
          refine ⟨lp, [], kcc, rfl, ⟨_, l3⟩, uni_of (ks := []) .nil rfl e3 ekc unc, by show 0 < 16777216; decide, fun nd en2 => ?_⟩
          have S2 : Same (wo (bad (C.gg fun b => C.G b ∨ b = lp) (ρ.set i (some (.ot (.dic (ks ++ [d]) (ms ++ [.dic [] []]))))) σ) H3) (wo (bad (C.gg fun b => C.G b ∨ b = lp) (ρ.set i (some (.ot (.dic (ks ++ [d]) (ms ++ [.dic [] []]))))) σ) (upd H3 lp (DicO TB.w lp (putD [] kcc cv xv) en2))) := fun b o z => by
            obtain ⟨f1, f2⟩ := wo_of z
            exact wo_mk f1 (by rw [upd_ne (fun y => f1 (by rw [y]; exact lb))]; exact f2)
          have fin := R3.putT0 T3 (n := sdFinD ks ms d c ev) (o := DicO TB.w lp (putD [] kcc cv xv) en2) (p := lp) e' g1 (fun c s z => by rw [l3] at z; exact dic_code (Option.some.inj z)) (fun u t z => by rw [l3] at z; cases z) (by rw [if_pos rfl]; exact List.mem_append_right _ (List.mem_singleton.mpr rfl)) (by
            rw [if_pos rfl, ef, efin]
            refine .dic (f := f ++ [lp]) (kvs := kvs ++ [(k, yv, .ref lp)]) ⟨_, by rw [upd_ne al]; exact keep3 a (.inl aG) _ upd_same⟩ (DtAll.mono S2 (DtAll.mono S1 kk)) kc ?_ nf2
            rw [List.map_append]
            refine RelMs.snoc (g := [lp]) (rel_put (ks := []) (ms := []) (kvs := []) (f := []) rfl nd .nil rfl .nil (by simp) lb (fun b hb => nomatch hb) ekc e3 gv3 (fun j z => nomatch z)) ((km.mono S1 fun b hb o z => keep3 b (.inl (fG b hb)) o z).mono S2 fun b hb o z => by rw [upd_ne (fun y => lf (by rw [← y]; exact hb))]; exact z) fun b hb hc => lf (by rw [List.mem_singleton.mp hc] at hb; exact hb))
          rw [List.set_set] at fin
          exact (L.gg _).nx _ _ _ fin qq
  · exact hq.elim
end
end My
set_option maxHeartbeats 1000000
namespace My
open PySem PySem.Spec PyProof.Rows L2
variable [TB]
theorem rows_ks {B : Addr → Prop} {H : Hp} : ∀ {vs : List V} {nss : List (List Int)}, DtAll (wo B H) vs (nss.map rowI) → ∃ ks : List (Addr × List Int), vs = ks.map (fun p => V.ref p.1) ∧ nss = ks.map (·.2) ∧ ∀ p ∈ ks, TupG H p.1 (p.2.map V.int) ∧ Dt (wo B H) (.ref p.1) (rowI p.2)
  | vs, [], h => by cases h; exact ⟨[], rfl, rfl, fun _ m => nomatch m⟩
  | vs, ns :: nss, h => by
    cases h with
    | cons h t =>
      obtain ⟨ks, h1, h2, h3⟩ := rows_ks t
      have h0 := h
      cases h with
      | @tup a _ _ ht ha =>
        rw [ints_dt ha] at ht
        refine ⟨(a, ns) :: ks, by rw [List.map_cons, ← h1], by rw [List.map_cons, ← h2], fun p m => ?_⟩
        rcases List.mem_cons.mp m with rfl | m
        · exact ⟨ht.mo, h0⟩
        · exact h3 p m
/-- sorted, each once -/
def dSrtSet (t : TAD) : TED := fun ρ Q => t ρ fun xs => ∃ x, ∃ nss : List (List Int), ∃ (d : Nat) (B : Int), xs = [x] ∧ x.ls = some (nss.map rowI) ∧ nss.length < 64 ∧ 1 ≤ d ∧ (∀ ns ∈ nss, ns.length = d ∧ ∀ m ∈ ns, 0 ≤ m ∧ m < B) ∧
  ∀ nss' : List (List Int), nss'.Nodup → (∀ ns, ns ∈ nss' ↔ ns ∈ nss) → nss'.Pairwise (fun x y => TS.code B x ≤ TS.code B y) → Q (.nw (nss'.map rowI))
section
variable {X : Cx} {a : Expr} {p p2 pos pos2 : Pos} {t : TAD}
theorem fe_srtSet (hw : X.w = TB.w) (hc : X.calm = true) (hu : X.A.units + 64 < cLine) (hg : Gl X "sorted") (hm : X.mg "sorted" = none) (hg2 : Gl X "set") (hm2 : X.mg "set" = none) (ha : FA X [a] t)
    (he : starEach [.Call (.Name "set" p2) [a] [] pos2] X.env = (false, eval (.Call (.Name "set" p2) [a] [] pos2) X.env) :: starEach [] X.env := by rfl) (hpl : (backTo pos (starEach [] X.env)).any (·.1) = false := by rfl)
    (he2 : starEach [a] X.env = (false, eval a X.env) :: starEach [] X.env := by rfl) (hpl2 : (backTo pos2 (starEach [] X.env)).any (·.1) = false := by rfl) :
    FE X (.Call (.Name "sorted" p) [.Call (.Name "set" p2) [a] [] pos2] [] pos) (dSrtSet t) := by
  have h1 := pe_callTy (x := "set") (p := p2) (pos := pos2) (cr_setOfT hc hu) hg2 hm2 PyProof.Rows.boot_set ha (by decide) (by decide) he2 hpl2
  have h2 := pe_callB (x := "sorted") (p := p) (pos := pos) (cr_sortedT hc) hg hm (by decide +kernel) (pa_cons h1 pa_nil he) (by decide) (by decide) he hpl
  refine h2.mo ?_
  rintro σ H Q ⟨C, ρ, Qd, R, h, post⟩
  refine ⟨C, ρ, _, R, h, ?_⟩
  rintro vs H1 xs R1 k1 e1 ⟨x, nss, d, B, rfl, hx, h64, hd, hB, q⟩
  obtain ⟨v, rfl, e2⟩ := My.p1 e1
  obtain ⟨l, us, rfl, hl, hds⟩ := R1.lstOf e2 hx
  obtain ⟨ks, rfl, rfl, hks⟩ := rows_ks hds
  rw [List.length_map] at h64
  refine ⟨l, ks, rfl, SqL.of hl, fun p m => TupG.sq (hks p m).1, h64, fun c L hc' hL hK => ?_⟩
  have k2 : ∀ b o, H1 b = some o → upd H1 c (SetTO X.prog X.w c L) b = some o := fun b o z => by rw [upd_ne (ne_of_none z hc')]; exact z
  refine ⟨c, L, d, B, rfl, upd_same, fun p m => TupG.sq ((hks p (hL p m)).1.kt fun o z => k2 _ _ z), hd, fun p m => hB p.2 (List.mem_map.mpr ⟨p, hL p m, rfl⟩), fun L' r hp hn _ hs hr => ?_⟩
  have kc : Kq C.t H1 (upd H1 c (SetTO X.prog X.w c L)) := Kq.new hc'
  have R2 : Rep X.K C ρ σ (upd H1 c (SetTO X.prog X.w c L)) := R1.lay hc'
  have dt : DtAll (wo (bad C ρ σ) (upd H1 c (SetTO X.prog X.w c L))) (L'.map fun z => V.ref z.1) ((L'.map (·.2)).map rowI) := by
    have : ∀ M : List (Addr × List Int), (∀ z ∈ M, z ∈ ks) → DtAll (wo (bad C ρ σ) (upd H1 c (SetTO X.prog X.w c L))) (M.map fun z => V.ref z.1) ((M.map (·.2)).map rowI) := by
      intro M
      induction M with
      | nil => exact fun _ => .nil
      | cons z M ih => exact fun hm => .cons (Dt.mono (R1.kp kc) (hks z (hm z List.mem_cons_self)).2) (ih fun y hy => hm y (List.mem_cons_of_mem _ hy))
    exact this L' fun z hz => hL z (hp.mem_iff.mp hz)
  have hlen : L'.length ≤ ks.length := by
    have h1 : ((L'.map (·.2)).length ≤ (ks.map (·.2)).length) := by
      have hsub : ∀ ns ∈ L'.map (·.2), ns ∈ ks.map (·.2) := fun ns h => by
        obtain ⟨z, hz, rfl⟩ := List.mem_map.mp h
        exact List.mem_map.mpr ⟨z, hL z (hp.mem_iff.mp hz), rfl⟩
      exact List.Nodup.length_le_of_subset hn hsub
    rwa [List.length_map, List.length_map] at h1
  refine R2.newL (H0 := H) dt (by rw [List.length_map, List.length_map]; show _ ≤ 16777216; omega) (q _ hn (fun ns => ⟨fun h => ?_, fun h => ?_⟩) (List.pairwise_map.mpr hs)) (fun v' H' z R' k' e' q' => post v' H' z R' (k1.trans (kc.trans k')) (e'.back (k1.trans kc) R2) q') r hr
  · obtain ⟨z, hz, rfl⟩ := List.mem_map.mp h
    exact List.mem_map.mpr ⟨z, hL z (hp.mem_iff.mp hz), rfl⟩
  · obtain ⟨z, hz, rfl⟩ := List.mem_map.mp h
    obtain ⟨y, hy, e⟩ := List.mem_map.mp (hK z hz)
    exact List.mem_map.mpr ⟨y, hp.mem_iff.mpr hy, e⟩
end
end My
set_option maxHeartbeats 1000000
namespace My
open PySem PySem.Spec PyProof.Rows L2
theorem zip_fst2 : ∀ {us : List V} {ds : List PyData}, us.length = ds.length → (us.zip ds).map (·.1) = us ∧ (us.zip ds).map (·.2) = ds
  | [], [], _ => ⟨rfl, rfl⟩
  | u :: us, d :: ds, h => by
    obtain ⟨h1, h2⟩ := zip_fst2 (us := us) (ds := ds) (by simpa using h)
    exact ⟨by rw [List.zip_cons_cons, List.map_cons, h1], by rw [List.zip_cons_cons, List.map_cons, h2]⟩
def rSrtA (K : PySem.W.Frag) : List V → Hp → VK → Prop := fun vs H Q => ∃ (a : Addr) (bs : List (V × PyData)), vs = [.ref a] ∧ SqL K H a (bs.map (·.1)) ∧ DpAll K H (bs.map (·.1)) (bs.map (·.2)) ∧ PySem.W.AllAlike (bs.map (·.2)) ∧ PySem.W.Sortable (bs.map (·.2)) ∧ (∀ b ∈ bs, b.2.depth ≤ 30) ∧
  ∀ p, H p = none → Q (.ref p) (upd H p (.lst ((bs.mergeSort (PySem.W.dataLe false fun b => b.2)).map (·.1))))
section
variable {X : Cx}
theorem cr_srtA (hu : X.A.units + 64 < cLine) : CallR X (.builtin "sorted") (rSrtA X.K) := by
  intro pins s σ H vs us Q I r h
  obtain ⟨a, bs, rfl, hs, hd, hal, hk, hdp, q⟩ := h
  obtain ⟨u, rfl, ru⟩ := vals1 r
  obtain rfl : u = Value.ref a := ru
  obtain ⟨its, rv, hl, hz⟩ := I.list hs
  have e1 : ∀ {bs : List (V × PyData)} {its : List Value}, Vals (bs.map (·.1)) its → PySem.W.EachIs (fun v b => RelV b.1 v) its bs := by
    intro bs
    induction bs with
    | nil => intro its h; cases h; exact .nil
    | cons b bs ih => intro its h; cases h with | cons h t => exact .cons h (ih t)
  have e2 : ∀ {bs : List (V × PyData)} {its : List Value}, Vals (bs.map (·.1)) its → DpAll X.K H (bs.map (·.1)) (bs.map (·.2)) → PySem.W.EachIs (fun v b => ∃ as, Reads s.heap v b.2 as) its bs := by
    intro bs
    induction bs with
    | nil => intro its h _; cases h; exact .nil
    | cons b bs ih =>
      intro its h d
      cases h with
      | cons h t =>
        cases d with
        | cons d dt => exact .cons (Dp.reads I _ _ _ d h) (ih t dt)
  have e3 : ∀ {bs : List (V × PyData)} {out : List Value}, PySem.W.EachIs (fun v b => RelV b.1 v) out bs → Vals (bs.map (·.1)) out := by
    intro bs out h
    induction h with
    | nil => exact .nil
    | cons h _ ih => exact .cons h ih
  rw [List.length_map] at hz
  refine PySem.W.sorted_data (enc := fun b : V × PyData => b.2) hl.isList (e1 rv) (e2 rv hd) hal hk hz (fun b hb => by have := hdp b hb; omega) fun out ho eo => ?_
  have hf := I.hok.fresh (Nat.le_succ s.heap.objs.size)
  refine ⟨.ref (s.heap.objs.size + 1), upd H (s.heap.objs.size + 1) (.lst ((bs.mergeSort (PySem.W.dataLe false fun b => b.2)).map (·.1))), I.laid (t' := s.toks) (fun b o e => sortedAll_old e) (Nat.le_succ _) ⟨?_, out, _, e3 eo, (sortedAll_at s.heap its out.toArray).choose_spec⟩, rfl, q _ hf⟩
  rw [List.length_map, (List.mergeSort_perm _ _).length_eq]
  exact hz
end
variable [TB]
def kSrtA (x : D) (Q : D → Prop) : Prop := match x.ls with
  | some ds => PySem.W.AllAlike ds ∧ PySem.W.Sortable ds ∧ (∀ d ∈ ds, d.depth ≤ 30 ∧ d.hasDict = false) ∧ ds.length ≤ sizeLine ∧ ∀ ds' : List PyData, ds'.Perm ds → ds'.Pairwise (fun x y => PySem.W.dataLt y x = false) → Q (.nw ds')
  | _ => False
theorem noDicts : ∀ {ds : List PyData}, (∀ d ∈ ds, d.hasDict = false) → PyData.hasDictAll ds = false
  | [], _ => rfl
  | d :: ds, h => by
    simp only [PyData.hasDictAll, Bool.or_eq_false_iff]
    exact ⟨h d List.mem_cons_self, noDicts fun e he => h e (List.mem_cons_of_mem _ he)⟩
theorem dataLe_sorted (bs : List (V × PyData)) : ((bs.mergeSort (PySem.W.dataLe false fun b => b.2)).map (·.2)).Pairwise fun x y => PySem.W.dataLt y x = false := by
  have h := List.pairwise_mergeSort (le := PySem.W.dataLe false fun b : V × PyData => b.2) (fun a b c h1 h2 => ?_) (fun a b => ?_) bs
  · refine List.pairwise_map.mpr (h.imp fun {a b} h => ?_)
    rw [PySem.W.dataLe_eq] at h
    simpa using h
  · rw [PySem.W.dataLe_eq] at h1 h2 ⊢
    simp only [cond_false, Bool.not_eq_true'] at h1 h2 ⊢
    refine Bool.eq_false_iff.mpr fun z => ?_
    rcases PyProof.Rows.lex_negTrans (O := itemOrd) _ (PySem.W.keyToks b.2) _ z with z | z
    · exact absurd z (Bool.eq_false_iff.mp h2)
    · exact absurd z (Bool.eq_false_iff.mp h1)
  · rw [PySem.W.dataLe_eq]
    simp only [cond_false]
    cases e : PySem.W.dataLt b.2 a.2 with
    | false => rfl
    | true =>
      cases e2 : PySem.W.dataLt a.2 b.2 with
      | false => rfl
      | true =>
        have := PyProof.Rows.lex_trans (O := itemOrd) _ _ _ e e2
        rw [PyProof.Rows.lex_irrefl] at this
        cases this
theorem li_srtA {K : PySem.W.Frag} : LiL K (rSrtA K) (c1 kSrtA) := by
  rintro C ρ σ H0 H vs xs Qd Q R k e0 h post
  unfold c1 at h
  split at h
  · rename_i x
    unfold kSrtA at h
    split at h
    · rename_i ds e1
      obtain ⟨hal, hk, hd, hz, q⟩ := h
      obtain ⟨v, rfl, e⟩ := My.p1 e0
      obtain ⟨a, us, rfl, t1, d1⟩ := R.lstOf e e1
      have hl := d1.length
      obtain ⟨z1, z2⟩ := zip_fst2 hl
      have all : ∀ b ∈ us.zip ds, Dt (wo (bad C ρ σ) H) b.1 b.2 := by
        intro b hb
        obtain ⟨i, hi, rfl⟩ := List.mem_iff_getElem.mp hb
        rw [List.getElem_zip]
        have hi' := hi
        rw [List.length_zip] at hi'
        obtain ⟨v, w1, w2⟩ := d1.of (List.getElem?_eq_getElem (show i < ds.length by omega))
        rw [List.getElem?_eq_getElem (show i < us.length by omega)] at w1
        cases w1
        exact w2
      refine ⟨a, us.zip ds, rfl, by rw [z1]; exact SqL.of t1, by rw [z1, z2]; exact DtAll.dp (DtAll.mono wo_same d1) (noDicts fun d h => (hd d h).2), by rw [z2]; exact hal, by rw [z2]; exact hk, fun b hb => (hd b.2 (List.of_mem_zip hb).2).1, fun p hp => ?_⟩
      have pm := List.mergeSort_perm (us.zip ds) (PySem.W.dataLe false fun b => b.2)
      have dt : ∀ M : List (V × PyData), (∀ b ∈ M, Dt (wo (bad C ρ σ) H) b.1 b.2) → DtAll (wo (bad C ρ σ) H) (M.map (·.1)) (M.map (·.2)) := by
        intro M
        induction M with
        | nil => exact fun _ => .nil
        | cons b M ih => exact fun h => .cons (h b List.mem_cons_self) (ih fun c hc => h c (List.mem_cons_of_mem _ hc))
      refine R.newL (H0 := H0) (dt _ fun b hb => all b (pm.mem_iff.mp hb)) (by rw [List.length_map, pm.length_eq, List.length_zip]; omega) (q _ ?_ (dataLe_sorted _)) post p hp
      have := pm.map (·.2)
      rw [z2] at this
      exact this
    · exact h.elim
  · exact h.elim
theorem bu_srtA {X : Cx} (hu : X.A.units + 64 < cLine) : BuU X (.builtin "sorted") (c1 kSrtA) := ⟨_, cr_srtA hu, li_srtA⟩
end My
namespace My
open PySem PySem.Spec PyProof.Rows L2
variable [TB]
def t_lawsymbols : TSD :=
  (dSeq (dSetN 2 (dLst dNil))
      (dSeq (dFor (dItV (dOp bAdd (dC (.str "@")) (dVar 1))) (gN 3)
        (dFor (dItV (dVar 0)) (gN 4)
          (dApp 2 (dCons (dOp bAdd (dVar 3) (dVar 4)) dNil))))
      (dRetU (dVar 2))))
def t_lawpicked (SP_lawdraw : SpD) : TSD :=
  (dSeq (dSetN 3 (dLst dNil))
      (dSeq (dSet 4 (dC (.int 0)))
      (dSeq (dFor (dRng1 (dCons (dVar 2) dNil)) (gN 5)
        (dSeq (dSet 4 (dOp bAdd (dVar 4) (dCall 2 SP_lawdraw (dCons (dVar 0) (dCons (dOp bSub (dOp bAdd (dOp bAdd (dOp bSub (dCB (c1 kLen) (dCons (dVar 1) dNil)) (dVar 2)) (dVar 5)) (dC (.int 1))) (dVar 4)) dNil)))))
        (dSeq (dApp 3 (dCons (dOp bIx (dVar 1) (dVar 4)) dNil))
        (dSet 4 (dOp bAdd (dVar 4) (dC (.int 1)))))))
      (dRetU (dVar 3)))))
def t_lawrising (SP_lawdraw : SpD) : TSD :=
  (dSeq (dSet 3 (dC (.str "")))
      (dSeq (dSet 4 (dC (.int 0)))
      (dSeq (dFor (dRng1 (dCons (dVar 2) dNil)) (gN 5)
        (dSeq (dSet 4 (dOp bAdd (dVar 4) (dCall 2 SP_lawdraw (dCons (dVar 0) (dCons (dOp bSub (dOp bAdd (dOp bAdd (dOp bSub (dCB (c1 kLen) (dCons (dVar 1) dNil)) (dVar 2)) (dVar 5)) (dC (.int 1))) (dVar 4)) dNil)))))
        (dSeq (dSet 3 (dOp bAdd (dVar 3) (dOp bIx (dVar 1) (dVar 4))))
        (dSet 4 (dOp bAdd (dVar 4) (dC (.int 1)))))))
      (dRetU (dVar 3)))))
def t_lawletters (SP_lawdraw : SpD) (SP_lawrising : SpD) : TSD :=
  (dRetU (dCall 3 SP_lawrising (dCons (dVar 0) (dCons (dC (.str "abcdefghijklmnopqrstuvwxyz")) (dCons (dOp bIx (dLst (dCons (dC (.int 1)) (dCons (dC (.int 1)) (dCons (dC (.int 1)) (dCons (dC (.int 2)) (dCons (dC (.int 2)) (dCons (dC (.int 3)) dNil))))))) (dCall 2 SP_lawdraw (dCons (dVar 0) (dCons (dC (.int 6)) dNil)))) dNil)))))
def t_lawowners (SP_lawdraw : SpD) (SP_lawrising : SpD) : TSD :=
  (dRetU (dCall 3 SP_lawrising (dCons (dVar 0) (dCons (dC (.str "ABCDEFGHIJKLMNOPQRSTUVWXYZ")) (dCons (dOp bIx (dLst (dCons (dC (.int 1)) (dCons (dC (.int 2)) (dCons (dC (.int 2)) (dCons (dC (.int 2)) (dCons (dC (.int 2)) (dCons (dC (.int 3)) dNil))))))) (dCall 2 SP_lawdraw (dCons (dVar 0) (dCons (dC (.int 6)) dNil)))) dNil)))))
def t_lawsigns (SP_lawowners : SpD) (SP_lawletters : SpD) (SP_lawsymbols : SpD) (SP_lawdraw : SpD) (SP_lawpicked : SpD) : TSD :=
  (dSeq (dSet 1 (dCall 2 SP_lawsymbols (dCons (dCall 1 SP_lawletters (dCons (dVar 0) dNil)) (dCons (dCall 1 SP_lawowners (dCons (dVar 0) dNil)) dNil))))
      (dRetU (dCall 3 SP_lawpicked (dCons (dVar 0) (dCons (dVar 1) (dCons (dCB (c2 kMin) (dCons (dOp bIx (dLst (dCons (dC (.int 1)) (dCons (dC (.int 2)) (dCons (dC (.int 2)) (dCons (dC (.int 3)) dNil))))) (dCall 2 SP_lawdraw (dCons (dVar 0) (dCons (dC (.int 4)) dNil)))) (dCons (dCB (c1 kLen) (dCons (dVar 1) dNil)) dNil))) dNil))))))
def t_lawacceptor (SP_lawdraw : SpD) : TSD :=
  (dSeq (dSetN 3 (dLst dNil))
      (dSeq (dFor (dRng1 (dCons (dVar 2) dNil)) (gN 4)
        (dApp 3 (dCons (dCB (c1 kTup) (dCons (dLc (dItV (dVar 1)) (gN 5) dYes (dCall 2 SP_lawdraw (dCons (dVar 0) (dCons (dVar 2) dNil))) [5]) dNil)) dNil)))
      (dRetU (dTup (dCons (dCB (c1 kTup) (dCons (dVar 1) dNil)) (dCons (dCB (c1 kTup) (dCons (dVar 3) dNil)) (dCons (dCB (c1 kTup) (dCons (dLc (dRng1 (dCons (dVar 2) dNil)) (gN 4) (dTest (dOp bEq (dCall 2 SP_lawdraw (dCons (dVar 0) (dCons (dC (.int 2)) dNil))) (dC (.int 1)))) (dVar 4) [4]) dNil)) dNil)))))))
def t_lawmenu (SP_lawdraw : SpD) : TSD :=
  (dSeq (dSet 2 (dOp bIx (dVar 1) (dCall 2 SP_lawdraw (dCons (dVar 0) (dCons (dCB (c1 kLen) (dCons (dVar 1) dNil)) dNil)))))
      (dSeq (dSet 3 (dOp bIx (dVar 1) (dCall 2 SP_lawdraw (dCons (dVar 0) (dCons (dCB (c1 kLen) (dCons (dVar 1) dNil)) dNil)))))
      (dRetU (dLst (dCons (dTup dNil) (dCons (dTup (dCons (dVar 2) dNil)) (dCons (dTup (dCons (dVar 3) dNil)) (dCons (dTup (dCons (dVar 2) (dCons (dVar 3) dNil))) (dCons (dTup (dCons (dVar 3) (dCons (dVar 2) (dCons (dVar 3) dNil)))) dNil)))))))))
def t_lawtwoway (SP_lawdraw : SpD) : TSD :=
  (dSeq (dSet 5 (dCB (c1 kTup) (dCons (dLc (dRng1 (dCons (dVar 2) dNil)) (gN 8) dYes (dCB (c1 kTup) (dCons (dLc (dItV (dVar 1)) (gN 10) dYes (dCall 2 SP_lawdraw (dCons (dVar 0) (dCons (dVar 2) dNil))) [10]) dNil)) [8]) dNil)))
      (dSeq (dSet 6 (dCB (c1 kTup) (dCons (dLc (dRng1 (dCons (dVar 3) dNil)) (gN 8) dYes (dCB (c1 kTup) (dCons (dLc (dItV (dVar 1)) (gN 10) dYes (dCall 2 SP_lawdraw (dCons (dVar 0) (dCons (dVar 3) dNil))) [10]) dNil)) [8]) dNil)))
      (dSeq (dSetN 7 (dLst dNil))
      (dSeq (dFor (dRng1 (dCons (dVar 2) dNil)) (gN 8)
        (dSeq (dSetN 9 (dLst dNil))
        (dSeq (dFor (dItV (dVar 1)) (gN 10)
          (dApp 9 (dCons (dCB (c1 kTup) (dCons (dLc (dRng1 (dCons (dVar 3) dNil)) (gN 11) dYes (dOp bIx (dVar 4) (dCall 2 SP_lawdraw (dCons (dVar 0) (dCons (dCB (c1 kLen) (dCons (dVar 4) dNil)) dNil)))) [11]) dNil)) dNil)))
        (dApp 7 (dCons (dCB (c1 kTup) (dCons (dVar 9) dNil)) dNil)))))
      (dRetU (dTup (dCons (dCB (c1 kTup) (dCons (dVar 1) dNil)) (dCons (dVar 5) (dCons (dVar 6) (dCons (dCB (c1 kTup) (dCons (dVar 7) dNil)) dNil))))))))))
def t_sourcesof : TSD :=
  (dSeq (dSetT 1 (dLcT (dItV (dOp bIx (dVar 0) (dC (.int 0)))) (gN 6) dYes (dLcT (dItV (dVar 0)) (gN 6) dYes (dLst dNil) [6]) [6]))
      (dSeq (dFor (dEnA (dCons (dVar 0) dNil)) (gTp 2 (gsCons (gN 2) (gsCons (gN 3) gsNil)))
        (dFor (dEnA (dCons (dVar 3) dNil)) (gTp 2 (gsCons (gN 4) (gsCons (gN 5) gsNil)))
          (dAppP2 1 4 5 (dCons (dVar 2) dNil))))
      (dRetU (dVar 1))))
def t_rightsbehind (SP_sourcesof : SpD) : TSD :=
  (dSeq (dAsg (dVar 0) (gTp 3 (gsCons (gN 2) (gsCons (gN 3) (gsCons (gN 4) gsNil)))))
      (dSeq (dSet 5 (dCall 1 SP_sourcesof (dCons (dVar 3) dNil)))
      (dSeq (dSetT 6 (dDk (dItV (dVar 4)) (gN 8) dYes (dTup (dCons (dVar 8) (dCons (dC (.int 0)) dNil))) (dC (.bool true)) [8]))
      (dSeq (dSetN 7 (dCB (c1 kLiD) (dCons (dVar 6) dNil)))
      (dSeq (dWhile (dTru (dVar 7))
        (dSeq (dPopG 7 (gTp 2 (gsCons (gN 8) (gsCons (gN 9) gsNil))))
        (dFor (dEnA (dCons (dOp bIx (dOp bIx (dVar 1) (dC (.int 2))) (dVar 9)) dNil)) (gTp 2 (gsCons (gN 10) (gsCons (gN 11) gsNil)))
          (dFor (dItV (dOp bIx (dOp bIx (dVar 5) (dVar 10)) (dVar 8))) (gN 12)
            (dIf (dTest (dOp (bInD true) (dTup (dCons (dVar 12) (dCons (dVar 11) dNil))) (dVar 6)))
              (dSeq (dSetD 6 (dTup (dCons (dVar 12) (dCons (dVar 11) dNil))) (dC (.bool true)))
              (dApp 7 (dCons (dTup (dCons (dVar 12) (dCons (dVar 11) dNil))) dNil)))
              dNext)))))
      (dSeq (dSetT 13 (dLcT (dItV (dVar 3)) (gN 2) dYes (dLst dNil) [2]))
      (dSeq (dFor (dItV (dCB (c1 kSrtT) (dCons (dVar 6) dNil))) (gTp 2 (gsCons (gN 8) (gsCons (gN 9) gsNil)))
        (dAppP1 13 8 (dCons (dVar 9) dNil)))
      (dRetU (dVar 13)))))))))
def t_edges : TSD :=
  (dSeq (dSetT 3 (dDk (dEnA (dCons (dVar 2) dNil)) (gTp 2 (gsCons (gN 19) (gsCons (gN 20) gsNil))) dYes (dVar 20) (dVar 19) [19, 20]))
      (dFzT 3 (dSeq (dAsg (dVar 1) (gTp 4 (gsCons (gN 4) (gsCons (gN 5) (gsCons (gN 6) (gsCons (gN 7) gsNil))))))
      (dSeq (dSetT 8 dNewD)
      (dSeq (dFor (dItV (dVar 2)) (gTp 3 (gsCons (gN 9) (gsCons (gN 10) (gsCons (gN 11) gsNil))))
        (dSdSet 8 (dVar 10) (dVar 11) (dC (.bool true))))
      (dFzT 8 (dSeq (dSetN 12 (dLst dNil))
      (dSeq (dFor (dItV (dSrtSet (dCons (dLc (dItV (dVar 2)) (gN 20) dYes (dTup (dCons (dOp bIx (dVar 20) (dC (.int 0))) (dCons (dOp bIx (dVar 20) (dC (.int 1))) dNil))) [20]) dNil))) (gTp 2 (gsCons (gN 13) (gsCons (gN 10) gsNil)))
        (dFor (dEnA (dCons (dVar 4) dNil)) (gTp 2 (gsCons (gN 14) (gsCons (gN 15) gsNil)))
          (dSeq (dPar 16 17 (dCons (dOp bIx (dOp bIx (dVar 5) (dVar 13)) (dVar 14)) (dCons (dOp bIx (dOp bIx (dOp bIx (dVar 0) (dC (.int 1))) (dVar 10)) (dVar 14)) dNil)))
          (dFor (dIKey (dGet (dVar 8) (dCons (dVar 17) (dCons dNewD dNil)))) (gN 11)
            (dSeq (dSet 18 (dOp bDx (dVar 3) (dTup (dCons (dVar 13) (dCons (dVar 10) (dCons (dOp bIx (dOp bIx (dVar 6) (dVar 11)) (dVar 14)) dNil))))))
            (dApp 12 (dCons (dTup (dCons (dVar 18) (dCons (dVar 15) (dCons (dOp bDx (dVar 3) (dTup (dCons (dVar 16) (dCons (dVar 17) (dCons (dVar 11) dNil))))) (dCons (dOp bIx (dOp bIx (dOp bIx (dVar 7) (dVar 13)) (dVar 14)) (dVar 11)) dNil))))) dNil)))))))
      (dRetU (dVar 12))))))))))
def t_explored (c : CT) : TSD :=
  (dSeq (dSetN 3 (dLst (dCons (dVar 0) dNil)))
      (dSeq (dSetT 4 (dDispK (dVar 0) (dC (.int 0))))
      (dSeq (dSetN 5 (dLst dNil))
      (dSeq (dWhile (dTest (dOp bLt (dCB (c1 kLen) (dCons (dVar 5) dNil)) (dCB (c1 kLen) (dCons (dVar 3) dNil))))
        (dSeq (dSet 6 (dCallF c 1 (dCons (dOp bIx (dVar 3) (dCB (c1 kLen) (dCons (dVar 5) dNil))) dNil)))
        (dSeq (dFor (dItV (dVar 6)) (gN 7)
          (dIf (dTest (dOp (bInD true) (dVar 7) (dVar 4)))
            (dSeq (dSetD 4 (dVar 7) (dCB (c1 kLen) (dCons (dVar 3) dNil)))
            (dApp 3 (dCons (dVar 7) dNil)))
            dNext))
        (dSeq (dApp 5 (dCons (dCB (c1 kTup) (dCons (dLc (dItV (dVar 6)) (gN 7) dYes (dOp bDx (dVar 4) (dVar 7)) [7]) dNil)) dNil))
        (dIf (dAndT (dTest (dOp bIsnt (dVar 2) (dC .none))) (dTest (dOp bGt (dCB (c1 kLen) (dCons (dVar 3) dNil)) (dVar 2))))
          (dRetU (dC .none))
          dNext)))))
      (dFz 3 (dRetU (dTup (dCons (dVar 3) (dCons (dCB (c1 kTup) (dCons (dVar 5) dNil)) dNil)))))))))
def t_graphof_0 (c : CT) : TSD :=
  dRetU (dListZip (dCons (dOp bIx (dOp bIx (dVar 1) (dC (.int 1))) (dOp bIx (dVar 0) (dC (.int 0)))) (dCons (dOp bIx (dOp bIx (dVar 2) (dC (.int 1))) (dOp bIx (dVar 0) (dC (.int 1)))) dNil)))
def t_graphof [FR] (SP_explored : CT → SpD) (SP_rightsbehind : SpD) (SP_edges : SpD) : TSD :=
  (dSeq (dSet 2 (dOp bIx (dCallC 3 [⟨0, [1, 0], 0, 1, t_graphof_0⟩] [.none] SP_explored (dCons (dTup (dCons (dC (.int 0)) (dCons (dC (.int 0)) dNil))) (dCons (dMk 0) dNil))) (dC (.int 0))))
      (dSeq (dSet 3 (dCall 2 SP_rightsbehind (dCons (dVar 0) (dCons (dVar 1) dNil))))
      (dSeq (dIf (dTest (dOp bGt (dCB (c1 kSum) (dCons (dLc (dItV (dVar 2)) (gTp 2 (gsCons (gN 8) (gsCons (gN 9) gsNil))) dYes (dCB (c1 kLen) (dCons (dOp bIx (dVar 3) (dVar 9)) dNil)) [8, 9]) dNil)) (dC (.int 200))))
        dNever
        dNext)
      (dSeq (dSet 4 (dCB (c1 kSrtT) (dCons (dLc2 (dItV (dVar 2)) (gTp 2 (gsCons (gN 10) (gsCons (gN 9) gsNil))) dYes (dItV (dOp bIx (dVar 3) (dVar 9))) (gN 11) dYes (dTup (dCons (dVar 10) (dCons (dVar 9) (dCons (dVar 11) dNil)))) [10, 9, 11] [11]) dNil)))
      (dSeq (dSet 5 (dCall 3 SP_edges (dCons (dVar 0) (dCons (dVar 1) (dCons (dVar 4) dNil)))))
      (dSeq (dIf (dTest (dOp bGt (dCB (c1 kLen) (dCons (dVar 5) dNil)) (dC (.int 2000))))
        dNever
        dNext)
      (dSeq (dSet 6 (dLc (dEnA (dCons (dVar 4) dNil)) (gTp 2 (gsCons (gN 12) (gsCons (gN 13) gsNil))) (dAndT (dTest (dOp bEq (dOp bIx (dVar 13) (dC (.int 0))) (dC (.int 0)))) (dTest (dOp bEq (dOp bIx (dVar 13) (dC (.int 1))) (dC (.int 0))))) (dVar 12) [12, 13]))
      (dSeq (dSet 7 (dLc (dEnA (dCons (dVar 4) dNil)) (gTp 2 (gsCons (gN 12) (gsCons (gN 13) gsNil))) (dAndT (dTest (dOp bEq (dOp bIx (dVar 13) (dC (.int 2))) (dC (.int 0)))) (dTest (dOp (bInN false) (dOp bIx (dVar 13) (dC (.int 1))) (dOp bIx (dVar 0) (dC (.int 2)))))) (dVar 12) [12, 13]))
      (dRetU (dTup (dCons (dCB (c1 kTup) (dCons (dVar 4) dNil)) (dCons (dCB (c1 kTup) (dCons (dVar 6) dNil)) (dCons (dCB (c1 kTup) (dCons (dVar 7) dNil)) (dCons (dCB (c1 kTup) (dCons (dCB (c1 kSrtA) (dCons (dVar 5) dNil)) dNil)) dNil))))))))))))))
def t_lawsame (Sf : SpD) : TSD :=
  (dSeq (dIf (dTest (dOp bIs (dVar 1) (dC .none)))
        (dRetU (dOp bIs (dVar 0) (dC .none)))
        dNext)
      (dSeq (dIf (dTru (dIsi "bool" (dVar 1)))
        (dRetU (dAndV (dIsi "bool" (dVar 0)) (dOp bEq (dVar 0) (dVar 1))))
        dNext)
      (dSeq (dIf (dTru (dIsi "int" (dVar 1)))
        (dRetU (dAndV (dIsi "int" (dVar 0)) (dAndV (dNotV (dIsi "bool" (dVar 0))) (dOp bEq (dVar 0) (dVar 1)))))
        dNext)
      (dSeq (dIf (dTru (dIsi "str" (dVar 1)))
        (dRetU (dAndV (dIsi "str" (dVar 0)) (dOp bEq (dVar 0) (dVar 1))))
        dNext)
      (dSeq (dIf (dOrT (dNotT (dTru (dIsi "tuple" (dVar 0)))) (dTest (dOp bNe (dCB (c1 kLen) (dCons (dVar 0) dNil)) (dCB (c1 kLen) (dCons (dVar 1) dNil)))))
        (dRetU (dC (.bool false)))
        dNext)
      (dSeq (dFor (dRng1 (dCons (dCB (c1 kLen) (dCons (dVar 1) dNil)) dNil)) (gN 2)
        (dIf (dNotT (dTru (dCall 2 Sf (dCons (dOp bIx (dVar 0) (dVar 2)) (dCons (dOp bIx (dVar 1) (dVar 2)) dNil)))))
          (dRetU (dC (.bool false)))
          dNext))
      (dRetU (dC (.bool true)))))))))
def t_netof : TSD :=
  (dSeq (dAsg (dVar 0) (gTp 4 (gsCons (gN 1) (gsCons (gN 2) (gsCons (gN 3) (gsCons (gN 4) gsNil))))))
      (dRetU (dTup (dCons (dCB (c1 kLen) (dCons (dVar 1) dNil)) (dCons (dVar 2) (dCons (dVar 3) (dCons (dCB (c1 kTup) (dCons (dLc (dItV (dVar 4)) (gTp 4 (gsCons (gN 5) (gsCons (gN 6) (gsCons (gN 7) (gsCons (gN 8) gsNil))))) dYes (dTup (dCons (dVar 5) (dCons (dVar 6) (dCons (dVar 7) dNil)))) [5, 6, 7, 8]) dNil)) dNil)))))))
def t_law (SP_lawsigns : SpD) (SP_lawdraw : SpD) (SP_lawacceptor : SpD) (SP_lawsymbols : SpD) (SP_lawmenu : SpD) (SP_lawtwoway : SpD) (SP_graphof : SpD) (SP_netof : SpD) (SP_lawsame : SpD) : TSD :=
  (dSeq (dSet 2 (dCall 1 SP_lawsigns (dCons (dVar 1) dNil)))
      (dSeq (dSet 3 (dCall 3 SP_lawacceptor (dCons (dVar 1) (dCons (dVar 2) (dCons (dOp bAdd (dC (.int 1)) (dCall 2 SP_lawdraw (dCons (dVar 1) (dCons (dC (.int 4)) dNil)))) dNil)))))
      (dSeq (dSet 4 (dCall 2 SP_lawmenu (dCons (dVar 1) (dCons (dCall 2 SP_lawsymbols (dCons (dC (.str "ab")) (dCons (dC (.str "AB")) dNil))) dNil))))
      (dSeq (dSet 5 (dCall 5 SP_lawtwoway (dCons (dVar 1) (dCons (dVar 2) (dCons (dOp bAdd (dC (.int 1)) (dCall 2 SP_lawdraw (dCons (dVar 1) (dCons (dC (.int 3)) dNil)))) (dCons (dOp bAdd (dC (.int 1)) (dCall 2 SP_lawdraw (dCons (dVar 1) (dCons (dC (.int 3)) dNil)))) (dCons (dVar 4) dNil)))))))
      (dSeq (dSet 6 (dCall 2 SP_graphof (dCons (dVar 3) (dCons (dVar 5) dNil))))
      (dSeq (dSet 7 (dCB (c1 kTup) (dCons (dLc (dItV (dOp bIx (dVar 6) (dC (.int 3)))) (gN 8) dYes (dSl bSl (dVar 8) dNoPart (dPart (dC (.int 3)))) [8]) dNil)))
      (dRetU (dCall 2 SP_lawsame (dCons (dCall 1 SP_netof (dCons (dVar 6) dNil)) (dCons (dTup (dCons (dCB (c1 kLen) (dCons (dOp bIx (dVar 6) (dC (.int 0))) dNil)) (dCons (dCB (c1 kTup) (dCons (dOp bIx (dVar 6) (dC (.int 1))) dNil)) (dCons (dCB (c1 kTup) (dCons (dOp bIx (dVar 6) (dC (.int 2))) dNil)) (dCons (dVar 7) dNil))))) dNil))))))))))
end My
namespace My
open PySem PySem.Spec PyProof.Rows L2
def topS (i : Nat) : Stmt := PySem.Challenge.pw_excerptcheck_k50_net_of_a_graph.main.body.getD i (.Pass ⟨0, 0, 0, 0⟩)
structure Bn (mg : Str → Option Value) : Prop where
  len_ : mg "len" = none
  max_ : mg "max" = none
  min_ : mg "min" = none
  abs_ : mg "abs" = none
  int_ : mg "int" = none
  list_ : mg "list" = none
  tuple_ : mg "tuple" = none
  range_ : mg "range" = none
  isinstance_ : mg "isinstance" = none
  sum_ : mg "sum" = none
  zip_ : mg "zip" = none
  enumerate_ : mg "enumerate" = none
  sorted_ : mg "sorted" = none
  bool_ : mg "bool" = none
  str_ : mg "str" = none
  set_ : mg "set" = none
section
variable [TB] {P : Program} {K : PySem.W.Frag} {mg : Str → Option Value} {base : Heap}
local macro_rules | `(tactic| walk_at "h") => `(tactic| first | assumption | exact upd_same)
local macro_rules | `(tactic| walk_at "c1") => `(tactic| first | exact .inr ⟨by decide, by decide⟩ | exact .inl ⟨by decide, by decide⟩ | exact rfl | exact ⟨by decide, by decide, by decide⟩ | (show (0 : Int) < _; first | decide | omega | (split <;> omega)) | (show (0 : Int) < _ ∧ _ < (1073741824 : Int); constructor <;> (split <;> omega)) | exact le_size0 rfl | exact le_size (by omega))
local macro_rules | `(tactic| walk_at "r") => `(tactic| repeat (first | refine ⟨_, rfl, ?_⟩ | refine ⟨⟨_, rfl⟩, ?_⟩ | refine ⟨_, _, rfl, rfl, ?_⟩ | refine .inl ⟨_, rfl, ?_⟩ | refine ⟨by walk_at "c1", ?_⟩ | refine ⟨_, _, _, _, rfl, rfl, .inl (.inl (by walk_at "h")), atI_nat (j := 0) rfl, ?_⟩ | refine ⟨_, _, _, _, rfl, rfl, .inl (.inl (by walk_at "h")), atI_nat (j := 1) rfl, ?_⟩ | refine ⟨_, _, _, _, rfl, rfl, .inl (.inl (by walk_at "h")), atI_nat (j := 2) rfl, ?_⟩ | refine ⟨_, _, _, _, rfl, rfl, .inl (.inl (by walk_at "h")), atI_nat (j := 3) rfl, ?_⟩ | refine ⟨_, _, _, _, rfl, rfl, by walk_at "h", rfl, ?_⟩ | refine ⟨_, _, rfl, .inl (.inl (.inl (by walk_at "h"))), ?_⟩ | refine ⟨_, _, (rfl : [V.int _, V.int _] = [V.int _, V.int _]), ?_⟩))
abbrev s_lawtape : Stmt := topS 15
abbrev N_lawtape : List Str := ["script", "total", "cell"]
theorem sc_lawtape : FnScope N_lawtape ["script"] (defScope s_lawtape) := ⟨rfl, rfl, rfl, by decide +kernel, rfl, by decide +kernel, by decide +kernel⟩
set_option maxHeartbeats 1000000 in
theorem ok0_lawtape (D : Df K mg "_law_tape" s_lawtape ["script"]) (B : Bn mg) : Cal P TB.w K mg base 1 "_law_tape" ["script"] (spTape K) := by
  refine D.cal sc_lawtape ?_ ?_
  · intro vs H Q E h; obtain ⟨a, ns, rfl, _⟩ := h; rfl
  intro f cdv A o s H vs Q E hr h
  obtain ⟨a, ns, rfl, hS, hl, q⟩ := h
  have nd := sc_lawtape.nd
  refine ⟨_, (pss_cons (ps_set (i := 1) nd rfl (Or.inl rfl) pe_int)
    (pss_cons (ps_for PassesOwn.never rfl (show PI _ _ _ (iList K _) from pi_list (pv 0)) (pg_name (i := 2) nd rfl (Or.inl rfl))
      (pss_one (ps_set (i := 1) nd rfl (Or.inl rfl) (pe_op op_mod (pe_callTy (T := "int") call_int1 rfl B.int_ (by decide +kernel) (pa_cons (pe_op op_add (pe_op op_mul (pv 1) pe_int) (pe_callB (id := "abs") call_abs rfl B.abs_ (by decide +kernel) (pa_cons (pe_callTy (T := "int") call_int1 rfl B.int_ (by decide +kernel) (pa_cons (pv 2) pa_nil)) pa_nil))) pa_nil)) pe_int))))
    (pss_one (ps_ret (pe_lst (pa_cons (pe_callTy (T := "list") (r := rLisOf K) call_lisK rfl B.list_ (by decide +kernel) (pa_cons (pv 0) pa_nil)) (pa_cons pe_int (pa_cons pe_int (pa_cons (pv 1) pa_nil))))))))), ?_⟩
  refine ⟨_, rfl, a, rfl, ⟨_, hS⟩, for_it (walk_list (xs := ns.map V.int)) (fun i σ H' => ∃ v y, σ = [some (.ref a), some (.int v), y] ∧ 0 ≤ v ∧ H' = H) ⟨7, none, rfl, by omega, rfl⟩ ?_ ?_ ?_⟩
  · rintro i σ H' hi ⟨v, y, rfl, hv, rfl⟩
    exact hS
  · rintro i x σ H1 H2 hi ⟨v, y, rfl, hv, rfl⟩ ⟨rfl, hx⟩
    obtain ⟨c, rfl⟩ : ∃ c : Int, x = .int c := by
      rw [List.getElem?_map] at hx
      cases e : ns[i]? with
      | none => rw [e] at hx; cases hx
      | some c => rw [e] at hx; exact ⟨c, (Option.some.inj hx).symm⟩
    walk_at "r"
    exact ⟨_, _, rfl, Int.emod_nonneg _ (by decide), rfl⟩
  · rintro σ H2 ⟨v, y, rfl, hv, rfl⟩
    walk_at "r"
    refine ⟨_, _, rfl, .inl hS, fun c hc => ?_⟩
    walk_at "r"
    intro t ht
    have hct : c ≠ t := fun e => by
      rw [e, upd_same] at ht; cases ht
    have hn : H2 t = none := by rw [upd_ne hct.symm] at ht; exact ht
    refine q (t, c) _ (fun b u e => ?_) hn ⟨ns, 0, 0, v, upd_same, hct, ?_, by omega, by omega, hv⟩
    · rw [upd_ne (ne_of_none e hn), upd_ne (ne_of_none e hc)]
      exact e
    · show upd (upd H2 c _) t _ c = _
      rw [upd_ne hct, upd_same]
abbrev s_lawsymbols : Stmt := topS 20
abbrev N_lawsymbols : List Str := ["letters", "owners", "found", "owner", "letter"]
theorem sc_lawsymbols : FnScope N_lawsymbols ["letters", "owners"] (defScope s_lawsymbols) := ⟨rfl, rfl, rfl, by decide +kernel, rfl, by decide +kernel, by decide +kernel⟩
set_option maxHeartbeats 1000000 in
theorem ok_lawsymbols {SP_lawsymbols : SpD} {k : Nat} (D : Df K mg "_law_symbols" s_lawsymbols ["letters", "owners"]) (B : Bn mg)
    (pf : ∀ xs Qd, SP_lawsymbols xs Qd → t_lawsymbols (endsOf Qd) (iniR xs 3)) : CalG P TB.w K mg base (k + 1) "_law_symbols" ["letters", "owners"] (spU K 2 SP_lawsymbols) := by
  refine D.calU (m := 3) (t := t_lawsymbols) sc_lawsymbols rfl rfl pf ?_
  intro f cdv A o s H E hr gd
  have nd := sc_lawsymbols.nd
  have hu1 := My.Room.u65 hr
  have hu := hr.units
  exact (fss_cons (fs_setN (ps_set (i := 2) nd rfl (Or.inl rfl) (fe_lst fa_nil)))
    (fss_cons (fs_for (ps_for PassesOwn.never rfl (fi_any (fe_add fe_str (fe_var (pv 1)))) (fg_name (pg_name (i := 3) nd rfl (Or.inl rfl)))
      (fss_one (fs_for (ps_for PassesOwn.never rfl (fi_any (fe_var (pv 0))) (fg_name (pg_name (i := 4) nd rfl (Or.inl rfl)))
        (fss_one (fs_app (i := 2) (ps_expr (pe_bm PySem.F.plainAttrs_list PySem.F.slot_list_append PySem.F.type_list_append mt_append (pv 2) (fa_cons (fe_add (fe_var (pv 3)) (fe_var (pv 4))) fa_nil))))))))))
    (fss_one (fs_retU (ps_ret (fe_var (pv 2)))))))
abbrev s_lawdraw : Stmt := topS 16
abbrev N_lawdraw : List Str := ["tape", "many", "place", "number"]
theorem sc_lawdraw : FnScope N_lawdraw ["tape", "many"] (defScope s_lawdraw) := ⟨rfl, rfl, rfl, by decide +kernel, rfl, by decide +kernel, by decide +kernel⟩
set_option maxHeartbeats 1000000 in
theorem ok0_lawdraw (D : Df K mg "_law_draw" s_lawdraw ["tape", "many"]) (B : Bn mg) : Cal P TB.w K mg base 1 "_law_draw" ["tape", "many"] (spDraw K) := by
  refine D.cal sc_lawdraw ?_ ?_
  · intro vs H Q E h; obtain ⟨t, m, rfl, _⟩ := h; rfl
  intro f cdv A o s H vs Q E hr h
  obtain ⟨t, m, rfl, T, hm, q⟩ := h
  have nd := sc_lawdraw.nd
  refine ⟨_, (pss_cons (ps_if (pt_cmpR op_eq (pe_ix (r := rIxL K) ix_list (pv 0) pe_int (fun _ _ => rfl)) pe_int (nomark _))
      (pss_cons (ps_set (i := 2) nd rfl (Or.inl rfl) (pe_ix (r := rIxL K) ix_list (pv 0) pe_int (fun _ _ => rfl)))
      (pss_cons (ps_set (i := 3) nd rfl (Or.inl rfl) pe_int)
      (pss_cons (ps_if (pt_cmpR op_lt (pv 2) (pe_callB (id := "len") (r := rLenS K) call_lenK rfl B.len_ PySem.boot_len (pa_cons (pe_ix (r := rIxL K) ix_list (pv 0) pe_int (fun _ _ => rfl)) pa_nil)) (nomark _))
        (pss_one (ps_set (i := 3) nd rfl (Or.inl rfl) (pe_callB (id := "abs") call_abs rfl B.abs_ (by decide +kernel) (pa_cons (pe_callTy (T := "int") call_int1 rfl B.int_ (by decide +kernel) (pa_cons (pe_ix (r := rIxL K) ix_list (pe_ix (r := rIxL K) ix_list (pv 0) pe_int (fun _ _ => rfl)) (pv 2) (fun _ _ => rfl)) pa_nil)) pa_nil))))
        (pss_cons (ps_asg (pe_op op_mod (pe_callTy (T := "int") call_int1 rfl B.int_ (by decide +kernel) (pa_cons (pe_op op_add (pe_op op_add (pe_op op_mul (pe_ix (r := rIxL K) ix_list (pv 0) pe_int (fun _ _ => rfl)) pe_int) (pv 2)) pe_int) pa_nil)) pe_int) (pg_sub (pv 0) pe_int set_list))
        (pss_one (ps_set (i := 3) nd rfl (Or.inl rfl) (pe_ix (r := rIxL K) ix_list (pv 0) pe_int (fun _ _ => rfl))))))
      (pss_cons (ps_asg (pe_op op_add (pv 2) pe_int) (pg_sub (pv 0) pe_int set_list))
      (pss_cons (ps_if (pt_cmpR op_lt (pv 3) (pe_op op_pow pe_int pe_int) (nomark _))
        (pss_cons (ps_set (i := 3) nd rfl (Or.inl rfl) (pe_op op_mod (pe_callTy (T := "int") call_int1 rfl B.int_ (by decide +kernel) (pa_cons (pe_op op_add (pe_op op_add (pe_op op_mul (pv 3) pe_int) (pe_op op_mul (pv 2) pe_int)) pe_int) pa_nil)) pe_int))
        (pss_cons (ps_set (i := 3) nd rfl (Or.inl rfl) (pe_op op_mod (pe_callTy (T := "int") call_int1 rfl B.int_ (by decide +kernel) (pa_cons (pe_op op_mul (pv 3) pe_int) pa_nil)) pe_int))
        (pss_one (ps_ret (pe_op op_mod (pe_callTy (T := "int") call_int1 rfl B.int_ (by decide +kernel) (pa_cons (pv 3) pa_nil)) (pe_callB (id := "max") (call_max2 rfl) rfl B.max_ (by decide +kernel) (pa_cons (pv 1) (pa_cons pe_int pa_nil))))))))
        pss_nil)
      (pss_one (ps_asg (pv 3) (pg_sub (pv 0) pe_int set_list))))))))
      pss_nil)
    (pss_cons (ps_set (i := 3) nd rfl (Or.inl rfl) (pe_ix (r := rIxL K) ix_list (pv 0) pe_int (fun _ _ => rfl)))
    (pss_cons (ps_asg (pe_op op_fdiv (pv 3) (pe_callB (id := "max") (call_max2 rfl) rfl B.max_ (by decide +kernel) (pa_cons (pv 1) (pa_cons pe_int pa_nil)))) (pg_sub (pv 0) pe_int set_list))
    (pss_one (ps_ret (pe_op op_mod (pe_callTy (T := "int") call_int1 rfl B.int_ (by decide +kernel) (pa_cons (pv 3) pa_nil)) (pe_callB (id := "max") (call_max2 rfl) rfl B.max_ (by decide +kernel) (pa_cons (pv 1) (pa_cons pe_int pa_nil))))))))), ?_⟩
  obtain ⟨t, c⟩ := t
  obtain ⟨ns, p, n, sd, ht, hct, hc, hp, hn, hs⟩ := T.ex
  have ht : H t = some (HO.lst [V.ref c, V.int p, V.int n, V.int sd]) := ht
  have hct : c ≠ t := hct
  have hc : H c = some (HO.lst (ns.map V.int)) := hc
  have q : ∀ v H', 0 ≤ v → v < max m 1 → Kp (t, c) H H' → (∀ b, H b = none → H' b = none) → Tape K H' (t, c) → Q (.int v) H' := q
  have q2 : ∀ (v p' n' s' : Int), 0 ≤ v → v < max m 1 → 0 ≤ p' → 0 ≤ n' → 0 ≤ s' → Q (.int v) (upd H t (.lst [.ref c, .int p', .int n', .int s'])) := fun v p' n' s' h1 h2 h3 h4 h5 =>
    q v _ h1 h2 (Kp.self (t := (t, c))) (fun b hb => by rw [upd_ne (ne_of_none ht hb).symm]; exact hb) ⟨ns, p', n', s', upd_same, hct, by show upd H t _ c = _; rw [upd_ne hct]; exact hc, h3, h4, h5⟩
  have e1 : (if (1 : Int) > m then 1 else m) = max m 1 := by
    split <;> omega
  have m1 : 0 < max m 1 := by omega
  have fin : ∀ z : Int, 0 ≤ z % (if (1 : Int) > m then 1 else m) ∧ z % (if (1 : Int) > m then 1 else m) < max m 1 := fun z => by
    rw [e1]
    exact ⟨Int.emod_nonneg _ (by omega), Int.emod_lt_of_pos _ m1⟩
  have d0 : ∀ z : Int, 0 ≤ z → 0 ≤ z / (if (2 : Int) > m then 2 else m) := fun z hz =>
    Int.ediv_nonneg hz (by split <;> omega)
  walk_at "r"
  refine ite2 (fun e => ?_) (fun e => ?_)
  · walk_at "r"
    refine ite2 (fun e2 => ?_) (fun e2 => ?_)
    · have e3 := of_decide_eq_true e2
      rw [List.length_map] at e3
      have e4 : p.toNat < ns.length := by omega
      have e5 : atI (ns.map V.int) p = some (.int ns[p.toNat]) := by
        have z := atI_nat (xs := ns.map V.int) (j := p.toNat) (v := .int ns[p.toNat]) (by rw [List.getElem?_map, List.getElem?_eq_getElem e4]; rfl)
        rw [Int.toNat_of_nonneg hp] at z
        exact z
      refine ⟨_, rfl, ?_⟩
      walk_at "r"
      refine ⟨_, _, _, _, rfl, rfl, .inl (.inl hc), e5, ?_⟩
      walk_at "r"
      generalize hx : (if ns[p.toNat] < 0 then -ns[p.toNat] else ns[p.toNat]) = x
      have hx0 : 0 ≤ x := by
        rw [← hx]
        split <;> omega
      refine ite2 (fun e6 => ?_) (fun e6 => ?_)
      · walk_at "r"
        exact q2 _ (p + 1) n sd (fin _).1 (fin _).2 (by omega) hn hs
      · walk_at "r"
        rw [upd_upd, upd_upd]
        exact q2 _ (p + 1) _ sd (fin _).1 (fin _).2 (by omega) (d0 _ hx0) hs
    · walk_at "r"
      have s0 : 0 ≤ (sd * 48271 + p + 1) % 2147483647 := Int.emod_nonneg _ (by decide)
      refine ite2 (fun e6 => ?_) (fun e6 => ?_)
      · walk_at "r"
        rw [upd_upd]
        exact q2 _ (p + 1) n _ (fin _).1 (fin _).2 (by omega) hn s0
      · walk_at "r"
        rw [upd_upd, upd_upd, upd_upd]
        exact q2 _ (p + 1) _ _ (fin _).1 (fin _).2 (by omega) (d0 _ s0) s0
  · walk_at "r"
    exact q2 _ p _ sd (fin _).1 (fin _).2 hp (d0 _ hn) hs
abbrev s_lawpicked : Stmt := topS 22
abbrev N_lawpicked : List Str := ["tape", "rows", "many", "found", "at", "k"]
theorem sc_lawpicked : FnScope N_lawpicked ["tape", "rows", "many"] (defScope s_lawpicked) := ⟨rfl, rfl, rfl, by decide +kernel, rfl, by decide +kernel, by decide +kernel⟩
set_option maxHeartbeats 1000000 in
theorem ok_lawpicked {SP_lawpicked : SpD} {SP_lawdraw : SpD} {k : Nat} (D : Df K mg "_law_picked" s_lawpicked ["tape", "rows", "many"]) (B : Bn mg) {lv_lawdraw : Nat} (hl_lawdraw : lv_lawdraw ≤ k) (C_lawdraw : CalG P TB.w K mg base lv_lawdraw "_law_draw" ["tape", "many"] (spU K 2 SP_lawdraw))
    (pf : ∀ xs Qd, SP_lawpicked xs Qd → t_lawpicked SP_lawdraw (endsOf Qd) (iniR xs 3)) : CalG P TB.w K mg base (k + 1) "_law_picked" ["tape", "rows", "many"] (spU K 3 SP_lawpicked) := by
  refine D.calU (m := 3) (t := t_lawpicked SP_lawdraw) sc_lawpicked rfl rfl pf ?_
  intro f cdv A o s H E hr gd
  have nd := sc_lawpicked.nd
  have hu1 := My.Room.u65 hr
  have hu := hr.units
  exact (fss_cons (fs_setN (ps_set (i := 3) nd rfl (Or.inl rfl) (fe_lst fa_nil)))
    (fss_cons (fs_set (ps_set (i := 4) nd rfl (Or.inl rfl) fe_int))
    (fss_cons (fs_for (ps_for PassesOwn.never rfl (fi_rng1 (pi_range1 rfl B.range_ (fa_cons (fe_var (pv 2)) fa_nil))) (fg_name (pg_name (i := 5) nd rfl (Or.inl rfl)))
      (fss_cons (fs_set (ps_set (i := 4) nd rfl (Or.inl rfl) (fe_add (fe_var (pv 4)) (fe_call gd C_lawdraw (hr.mono hl_lawdraw) rfl (fa_cons (fe_var (pv 0)) (fa_cons (fe_sub (fe_add (fe_add (fe_sub (fe_bu (id := "len") bu_len rfl B.len_ PySem.boot_len (fa_cons (fe_var (pv 1)) fa_nil)) (fe_var (pv 2))) (fe_var (pv 5))) fe_int) (fe_var (pv 4))) fa_nil))))))
      (fss_cons (fs_app (i := 3) (ps_expr (pe_bm PySem.F.plainAttrs_list PySem.F.slot_list_append PySem.F.type_list_append mt_append (pv 3) (fa_cons (fe_bix (fe_var (pv 1)) (fe_var (pv 4)) (fun _ _ => rfl)) fa_nil))))
      (fss_one (fs_set (ps_set (i := 4) nd rfl (Or.inl rfl) (fe_add (fe_var (pv 4)) fe_int))))))))
    (fss_one (fs_retU (ps_ret (fe_var (pv 3))))))))
abbrev s_lawrising : Stmt := topS 17
abbrev N_lawrising : List Str := ["tape", "signs", "many", "found", "at", "k"]
theorem sc_lawrising : FnScope N_lawrising ["tape", "signs", "many"] (defScope s_lawrising) := ⟨rfl, rfl, rfl, by decide +kernel, rfl, by decide +kernel, by decide +kernel⟩
set_option maxHeartbeats 1000000 in
theorem ok_lawrising {SP_lawrising : SpD} {SP_lawdraw : SpD} {k : Nat} (D : Df K mg "_law_rising" s_lawrising ["tape", "signs", "many"]) (B : Bn mg) {lv_lawdraw : Nat} (hl_lawdraw : lv_lawdraw ≤ k) (C_lawdraw : CalG P TB.w K mg base lv_lawdraw "_law_draw" ["tape", "many"] (spU K 2 SP_lawdraw))
    (pf : ∀ xs Qd, SP_lawrising xs Qd → t_lawrising SP_lawdraw (endsOf Qd) (iniR xs 3)) : CalG P TB.w K mg base (k + 1) "_law_rising" ["tape", "signs", "many"] (spU K 3 SP_lawrising) := by
  refine D.calU (m := 3) (t := t_lawrising SP_lawdraw) sc_lawrising rfl rfl pf ?_
  intro f cdv A o s H E hr gd
  have nd := sc_lawrising.nd
  have hu1 := My.Room.u65 hr
  have hu := hr.units
  exact (fss_cons (fs_set (ps_set (i := 3) nd rfl (Or.inl rfl) fe_str))
    (fss_cons (fs_set (ps_set (i := 4) nd rfl (Or.inl rfl) fe_int))
    (fss_cons (fs_for (ps_for PassesOwn.never rfl (fi_rng1 (pi_range1 rfl B.range_ (fa_cons (fe_var (pv 2)) fa_nil))) (fg_name (pg_name (i := 5) nd rfl (Or.inl rfl)))
      (fss_cons (fs_set (ps_set (i := 4) nd rfl (Or.inl rfl) (fe_add (fe_var (pv 4)) (fe_call gd C_lawdraw (hr.mono hl_lawdraw) rfl (fa_cons (fe_var (pv 0)) (fa_cons (fe_sub (fe_add (fe_add (fe_sub (fe_bu (id := "len") bu_len rfl B.len_ PySem.boot_len (fa_cons (fe_var (pv 1)) fa_nil)) (fe_var (pv 2))) (fe_var (pv 5))) fe_int) (fe_var (pv 4))) fa_nil))))))
      (fss_cons (fs_set (ps_set (i := 3) nd rfl (Or.inl rfl) (fe_add (fe_var (pv 3)) (fe_bix (fe_var (pv 1)) (fe_var (pv 4)) (fun _ _ => rfl)))))
      (fss_one (fs_set (ps_set (i := 4) nd rfl (Or.inl rfl) (fe_add (fe_var (pv 4)) fe_int))))))))
    (fss_one (fs_retU (ps_ret (fe_var (pv 3))))))))
abbrev s_lawletters : Stmt := topS 18
abbrev N_lawletters : List Str := ["tape"]
theorem sc_lawletters : FnScope N_lawletters ["tape"] (defScope s_lawletters) := ⟨rfl, rfl, rfl, by decide +kernel, rfl, by decide +kernel, by decide +kernel⟩
set_option maxHeartbeats 1000000 in
theorem ok_lawletters {SP_lawletters : SpD} {SP_lawdraw : SpD} {SP_lawrising : SpD} {k : Nat} (D : Df K mg "_law_letters" s_lawletters ["tape"]) (B : Bn mg) {lv_lawdraw : Nat} (hl_lawdraw : lv_lawdraw ≤ k) (C_lawdraw : CalG P TB.w K mg base lv_lawdraw "_law_draw" ["tape", "many"] (spU K 2 SP_lawdraw)) {lv_lawrising : Nat} (hl_lawrising : lv_lawrising ≤ k) (C_lawrising : CalG P TB.w K mg base lv_lawrising "_law_rising" ["tape", "signs", "many"] (spU K 3 SP_lawrising))
    (pf : ∀ xs Qd, SP_lawletters xs Qd → t_lawletters SP_lawdraw SP_lawrising (endsOf Qd) (iniR xs 0)) : CalG P TB.w K mg base (k + 1) "_law_letters" ["tape"] (spU K 1 SP_lawletters) := by
  refine D.calU (m := 0) (t := t_lawletters SP_lawdraw SP_lawrising) sc_lawletters rfl rfl pf ?_
  intro f cdv A o s H E hr gd
  have nd := sc_lawletters.nd
  have hu1 := My.Room.u65 hr
  have hu := hr.units
  exact (fss_one (fs_retU (ps_ret (fe_call gd C_lawrising (hr.mono hl_lawrising) rfl (fa_cons (fe_var (pv 0)) (fa_cons fe_str (fa_cons (fe_bix (fe_lst (fa_cons fe_int (fa_cons fe_int (fa_cons fe_int (fa_cons fe_int (fa_cons fe_int (fa_cons fe_int fa_nil))))))) (fe_call gd C_lawdraw (hr.mono hl_lawdraw) rfl (fa_cons (fe_var (pv 0)) (fa_cons fe_int fa_nil))) (fun _ _ => rfl)) fa_nil)))))))
abbrev s_lawowners : Stmt := topS 19
abbrev N_lawowners : List Str := ["tape"]
theorem sc_lawowners : FnScope N_lawowners ["tape"] (defScope s_lawowners) := ⟨rfl, rfl, rfl, by decide +kernel, rfl, by decide +kernel, by decide +kernel⟩
set_option maxHeartbeats 1000000 in
theorem ok_lawowners {SP_lawowners : SpD} {SP_lawdraw : SpD} {SP_lawrising : SpD} {k : Nat} (D : Df K mg "_law_owners" s_lawowners ["tape"]) (B : Bn mg) {lv_lawdraw : Nat} (hl_lawdraw : lv_lawdraw ≤ k) (C_lawdraw : CalG P TB.w K mg base lv_lawdraw "_law_draw" ["tape", "many"] (spU K 2 SP_lawdraw)) {lv_lawrising : Nat} (hl_lawrising : lv_lawrising ≤ k) (C_lawrising : CalG P TB.w K mg base lv_lawrising "_law_rising" ["tape", "signs", "many"] (spU K 3 SP_lawrising))
    (pf : ∀ xs Qd, SP_lawowners xs Qd → t_lawowners SP_lawdraw SP_lawrising (endsOf Qd) (iniR xs 0)) : CalG P TB.w K mg base (k + 1) "_law_owners" ["tape"] (spU K 1 SP_lawowners) := by
  refine D.calU (m := 0) (t := t_lawowners SP_lawdraw SP_lawrising) sc_lawowners rfl rfl pf ?_
  intro f cdv A o s H E hr gd
  have nd := sc_lawowners.nd
  have hu1 := My.Room.u65 hr
  have hu := hr.units
  exact (fss_one (fs_retU (ps_ret (fe_call gd C_lawrising (hr.mono hl_lawrising) rfl (fa_cons (fe_var (pv 0)) (fa_cons fe_str (fa_cons (fe_bix (fe_lst (fa_cons fe_int (fa_cons fe_int (fa_cons fe_int (fa_cons fe_int (fa_cons fe_int (fa_cons fe_int fa_nil))))))) (fe_call gd C_lawdraw (hr.mono hl_lawdraw) rfl (fa_cons (fe_var (pv 0)) (fa_cons fe_int fa_nil))) (fun _ _ => rfl)) fa_nil)))))))
abbrev s_lawsigns : Stmt := topS 23
abbrev N_lawsigns : List Str := ["tape", "signs"]
theorem sc_lawsigns : FnScope N_lawsigns ["tape"] (defScope s_lawsigns) := ⟨rfl, rfl, rfl, by decide +kernel, rfl, by decide +kernel, by decide +kernel⟩
set_option maxHeartbeats 1000000 in
theorem ok_lawsigns {SP_lawsigns : SpD} {SP_lawowners : SpD} {SP_lawletters : SpD} {SP_lawsymbols : SpD} {SP_lawdraw : SpD} {SP_lawpicked : SpD} {k : Nat} (D : Df K mg "_law_signs" s_lawsigns ["tape"]) (B : Bn mg) {lv_lawowners : Nat} (hl_lawowners : lv_lawowners ≤ k) (C_lawowners : CalG P TB.w K mg base lv_lawowners "_law_owners" ["tape"] (spU K 1 SP_lawowners)) {lv_lawletters : Nat} (hl_lawletters : lv_lawletters ≤ k) (C_lawletters : CalG P TB.w K mg base lv_lawletters "_law_letters" ["tape"] (spU K 1 SP_lawletters)) {lv_lawsymbols : Nat} (hl_lawsymbols : lv_lawsymbols ≤ k) (C_lawsymbols : CalG P TB.w K mg base lv_lawsymbols "_law_symbols" ["letters", "owners"] (spU K 2 SP_lawsymbols)) {lv_lawdraw : Nat} (hl_lawdraw : lv_lawdraw ≤ k) (C_lawdraw : CalG P TB.w K mg base lv_lawdraw "_law_draw" ["tape", "many"] (spU K 2 SP_lawdraw)) {lv_lawpicked : Nat} (hl_lawpicked : lv_lawpicked ≤ k) (C_lawpicked : CalG P TB.w K mg base lv_lawpicked "_law_picked" ["tape", "rows", "many"] (spU K 3 SP_lawpicked))
    (pf : ∀ xs Qd, SP_lawsigns xs Qd → t_lawsigns SP_lawowners SP_lawletters SP_lawsymbols SP_lawdraw SP_lawpicked (endsOf Qd) (iniR xs 1)) : CalG P TB.w K mg base (k + 1) "_law_signs" ["tape"] (spU K 1 SP_lawsigns) := by
  refine D.calU (m := 1) (t := t_lawsigns SP_lawowners SP_lawletters SP_lawsymbols SP_lawdraw SP_lawpicked) sc_lawsigns rfl rfl pf ?_
  intro f cdv A o s H E hr gd
  have nd := sc_lawsigns.nd
  have hu1 := My.Room.u65 hr
  have hu := hr.units
  exact (fss_cons (fs_set (ps_set (i := 1) nd rfl (Or.inl rfl) (fe_call gd C_lawsymbols (hr.mono hl_lawsymbols) rfl (fa_cons (fe_call gd C_lawletters (hr.mono hl_lawletters) rfl (fa_cons (fe_var (pv 0)) fa_nil)) (fa_cons (fe_call gd C_lawowners (hr.mono hl_lawowners) rfl (fa_cons (fe_var (pv 0)) fa_nil)) fa_nil)))))
    (fss_one (fs_retU (ps_ret (fe_call gd C_lawpicked (hr.mono hl_lawpicked) rfl (fa_cons (fe_var (pv 0)) (fa_cons (fe_var (pv 1)) (fa_cons (fe_bu (id := "min") (bu_min rfl) rfl B.min_ (by decide +kernel) (fa_cons (fe_bix (fe_lst (fa_cons fe_int (fa_cons fe_int (fa_cons fe_int (fa_cons fe_int fa_nil))))) (fe_call gd C_lawdraw (hr.mono hl_lawdraw) rfl (fa_cons (fe_var (pv 0)) (fa_cons fe_int fa_nil))) (fun _ _ => rfl)) (fa_cons (fe_bu (id := "len") bu_len rfl B.len_ PySem.boot_len (fa_cons (fe_var (pv 1)) fa_nil)) fa_nil))) fa_nil))))))))
abbrev s_lawacceptor : Stmt := topS 25
abbrev N_lawacceptor : List Str := ["tape", "signs", "many", "rows", "k", "sign"]
theorem sc_lawacceptor : FnScope N_lawacceptor ["tape", "signs", "many"] (defScope s_lawacceptor) := ⟨rfl, rfl, rfl, by decide +kernel, rfl, by decide +kernel, by decide +kernel⟩
set_option maxHeartbeats 1000000 in
theorem ok_lawacceptor {SP_lawacceptor : SpD} {SP_lawdraw : SpD} {k : Nat} (D : Df K mg "_law_acceptor" s_lawacceptor ["tape", "signs", "many"]) (B : Bn mg) {lv_lawdraw : Nat} (hl_lawdraw : lv_lawdraw ≤ k) (C_lawdraw : CalG P TB.w K mg base lv_lawdraw "_law_draw" ["tape", "many"] (spU K 2 SP_lawdraw))
    (pf : ∀ xs Qd, SP_lawacceptor xs Qd → t_lawacceptor SP_lawdraw (endsOf Qd) (iniR xs 3)) : CalG P TB.w K mg base (k + 1) "_law_acceptor" ["tape", "signs", "many"] (spU K 3 SP_lawacceptor) := by
  refine D.calU (m := 3) (t := t_lawacceptor SP_lawdraw) sc_lawacceptor rfl rfl pf ?_
  intro f cdv A o s H E hr gd
  have nd := sc_lawacceptor.nd
  have hu1 := My.Room.u65 hr
  have hu := hr.units
  exact (fss_cons (fs_setN (ps_set (i := 3) nd rfl (Or.inl rfl) (fe_lst fa_nil)))
    (fss_cons (fs_for (ps_for PassesOwn.never rfl (fi_rng1 (pi_range1 rfl B.range_ (fa_cons (fe_var (pv 2)) fa_nil))) (fg_name (pg_name (i := 4) nd rfl (Or.inl rfl)))
      (fss_one (fs_app (i := 3) (ps_expr (pe_bm PySem.F.plainAttrs_list PySem.F.slot_list_append PySem.F.type_list_append mt_append (pv 3) (fa_cons (fe_but (T := "tuple") bu_tup rfl B.tuple_ (by decide +kernel) (fa_cons (fe_lc (own := [("sign", 5)]) rfl nd (fi_any (fe_var (pv 1))) (blkOk_by (N := N_lawacceptor) (sc := defScope s_lawacceptor) (by decide +kernel)) (fun _ _ _ _ _ => (fg_name (pg_name (i := 5) nd rfl (Or.inl rfl)))) (fun _ _ _ _ _ => fts_nil) (fun _ _ _ _ _ => (fe_call gd C_lawdraw (hr.mono hl_lawdraw) rfl (fa_cons (fe_var (pv 0)) (fa_cons (fe_var (pv 2)) fa_nil)))) (by decide)) fa_nil)) fa_nil)))))))
    (fss_one (fs_retU (ps_ret (fe_tup (fa_cons (fe_but (T := "tuple") bu_tup rfl B.tuple_ (by decide +kernel) (fa_cons (fe_var (pv 1)) fa_nil)) (fa_cons (fe_but (T := "tuple") bu_tup rfl B.tuple_ (by decide +kernel) (fa_cons (fe_var (pv 3)) fa_nil)) (fa_cons (fe_but (T := "tuple") bu_tup rfl B.tuple_ (by decide +kernel) (fa_cons (fe_lc (own := [("k", 4)]) rfl nd (fi_rng1 (pi_range1 rfl B.range_ (fa_cons (fe_var (pv 2)) fa_nil))) (blkOk_by (N := N_lawacceptor) (sc := defScope s_lawacceptor) (by decide +kernel)) (fun _ _ _ _ _ => (fg_name (pg_name (i := 4) nd rfl (Or.inl rfl)))) (fun _ _ _ _ _ => (fts_one (ft_cu (cu_eq hu) (fe_call gd C_lawdraw (hr.mono hl_lawdraw) rfl (fa_cons (fe_var (pv 0)) (fa_cons fe_int fa_nil))) fe_int (nomark _)))) (fun _ _ _ _ _ => (fe_var (pv 4))) (by decide)) fa_nil)) fa_nil)))))))))
abbrev s_lawmenu : Stmt := topS 24
abbrev N_lawmenu : List Str := ["tape", "symbols", "first", "second"]
theorem sc_lawmenu : FnScope N_lawmenu ["tape", "symbols"] (defScope s_lawmenu) := ⟨rfl, rfl, rfl, by decide +kernel, rfl, by decide +kernel, by decide +kernel⟩
set_option maxHeartbeats 1000000 in
theorem ok_lawmenu {SP_lawmenu : SpD} {SP_lawdraw : SpD} {k : Nat} (D : Df K mg "_law_menu" s_lawmenu ["tape", "symbols"]) (B : Bn mg) {lv_lawdraw : Nat} (hl_lawdraw : lv_lawdraw ≤ k) (C_lawdraw : CalG P TB.w K mg base lv_lawdraw "_law_draw" ["tape", "many"] (spU K 2 SP_lawdraw))
    (pf : ∀ xs Qd, SP_lawmenu xs Qd → t_lawmenu SP_lawdraw (endsOf Qd) (iniR xs 2)) : CalG P TB.w K mg base (k + 1) "_law_menu" ["tape", "symbols"] (spU K 2 SP_lawmenu) := by
  refine D.calU (m := 2) (t := t_lawmenu SP_lawdraw) sc_lawmenu rfl rfl pf ?_
  intro f cdv A o s H E hr gd
  have nd := sc_lawmenu.nd
  have hu1 := My.Room.u65 hr
  have hu := hr.units
  exact (fss_cons (fs_set (ps_set (i := 2) nd rfl (Or.inl rfl) (fe_bix (fe_var (pv 1)) (fe_call gd C_lawdraw (hr.mono hl_lawdraw) rfl (fa_cons (fe_var (pv 0)) (fa_cons (fe_bu (id := "len") bu_len rfl B.len_ PySem.boot_len (fa_cons (fe_var (pv 1)) fa_nil)) fa_nil))) (fun _ _ => rfl))))
    (fss_cons (fs_set (ps_set (i := 3) nd rfl (Or.inl rfl) (fe_bix (fe_var (pv 1)) (fe_call gd C_lawdraw (hr.mono hl_lawdraw) rfl (fa_cons (fe_var (pv 0)) (fa_cons (fe_bu (id := "len") bu_len rfl B.len_ PySem.boot_len (fa_cons (fe_var (pv 1)) fa_nil)) fa_nil))) (fun _ _ => rfl))))
    (fss_one (fs_retU (ps_ret (fe_lst (fa_cons (fe_tup fa_nil) (fa_cons (fe_tup (fa_cons (fe_var (pv 2)) fa_nil)) (fa_cons (fe_tup (fa_cons (fe_var (pv 3)) fa_nil)) (fa_cons (fe_tup (fa_cons (fe_var (pv 2)) (fa_cons (fe_var (pv 3)) fa_nil))) (fa_cons (fe_tup (fa_cons (fe_var (pv 3)) (fa_cons (fe_var (pv 2)) (fa_cons (fe_var (pv 3)) fa_nil)))) fa_nil)))))))))))
abbrev s_lawtwoway : Stmt := topS 26
abbrev N_lawtwoway : List Str := ["tape", "signs", "lefts", "rights", "menu", "left", "right", "outputs", "k", "row", "sign", "r"]
theorem sc_lawtwoway : FnScope N_lawtwoway ["tape", "signs", "lefts", "rights", "menu"] (defScope s_lawtwoway) := ⟨rfl, rfl, rfl, by decide +kernel, rfl, by decide +kernel, by decide +kernel⟩
set_option maxHeartbeats 1000000 in
theorem ok_lawtwoway {SP_lawtwoway : SpD} {SP_lawdraw : SpD} {k : Nat} (D : Df K mg "_law_twoway" s_lawtwoway ["tape", "signs", "lefts", "rights", "menu"]) (B : Bn mg) {lv_lawdraw : Nat} (hl_lawdraw : lv_lawdraw ≤ k) (C_lawdraw : CalG P TB.w K mg base lv_lawdraw "_law_draw" ["tape", "many"] (spU K 2 SP_lawdraw))
    (pf : ∀ xs Qd, SP_lawtwoway xs Qd → t_lawtwoway SP_lawdraw (endsOf Qd) (iniR xs 7)) : CalG P TB.w K mg base (k + 1) "_law_twoway" ["tape", "signs", "lefts", "rights", "menu"] (spU K 5 SP_lawtwoway) := by
  refine D.calU (m := 7) (t := t_lawtwoway SP_lawdraw) sc_lawtwoway rfl rfl pf ?_
  intro f cdv A o s H E hr gd
  have nd := sc_lawtwoway.nd
  have hu1 := My.Room.u65 hr
  have hu := hr.units
  exact (fss_cons (fs_set (ps_set (i := 5) nd rfl (Or.inl rfl) (fe_but (T := "tuple") bu_tup rfl B.tuple_ (by decide +kernel) (fa_cons (fe_lc (own := [("k", 8)]) rfl nd (fi_rng1 (pi_range1 rfl B.range_ (fa_cons (fe_var (pv 2)) fa_nil))) (blkOk_by (N := N_lawtwoway) (sc := defScope s_lawtwoway) (by decide +kernel)) (fun _ _ _ _ _ => (fg_name (pg_name (i := 8) nd rfl (Or.inl rfl)))) (fun _ _ _ _ _ => fts_nil) (fun _ _ _ _ _ => (fe_but (T := "tuple") bu_tup rfl B.tuple_ (by decide +kernel) (fa_cons (fe_lc (own := [("sign", 10)]) rfl nd (fi_any (fe_var (pv 1))) (blkOk_by (N := N_lawtwoway) (sc := relS _ (defScope s_lawtwoway)) (by decide +kernel)) (fun _ _ _ _ _ => (fg_name (pg_name (i := 10) nd rfl (Or.inl rfl)))) (fun _ _ _ _ _ => fts_nil) (fun _ _ _ _ _ => (fe_call gd C_lawdraw (hr.mono hl_lawdraw) rfl (fa_cons (fe_var (pv 0)) (fa_cons (fe_var (pv 2)) fa_nil)))) (by decide)) fa_nil))) (by decide)) fa_nil))))
    (fss_cons (fs_set (ps_set (i := 6) nd rfl (Or.inl rfl) (fe_but (T := "tuple") bu_tup rfl B.tuple_ (by decide +kernel) (fa_cons (fe_lc (own := [("k", 8)]) rfl nd (fi_rng1 (pi_range1 rfl B.range_ (fa_cons (fe_var (pv 3)) fa_nil))) (blkOk_by (N := N_lawtwoway) (sc := defScope s_lawtwoway) (by decide +kernel)) (fun _ _ _ _ _ => (fg_name (pg_name (i := 8) nd rfl (Or.inl rfl)))) (fun _ _ _ _ _ => fts_nil) (fun _ _ _ _ _ => (fe_but (T := "tuple") bu_tup rfl B.tuple_ (by decide +kernel) (fa_cons (fe_lc (own := [("sign", 10)]) rfl nd (fi_any (fe_var (pv 1))) (blkOk_by (N := N_lawtwoway) (sc := relS _ (defScope s_lawtwoway)) (by decide +kernel)) (fun _ _ _ _ _ => (fg_name (pg_name (i := 10) nd rfl (Or.inl rfl)))) (fun _ _ _ _ _ => fts_nil) (fun _ _ _ _ _ => (fe_call gd C_lawdraw (hr.mono hl_lawdraw) rfl (fa_cons (fe_var (pv 0)) (fa_cons (fe_var (pv 3)) fa_nil)))) (by decide)) fa_nil))) (by decide)) fa_nil))))
    (fss_cons (fs_setN (ps_set (i := 7) nd rfl (Or.inl rfl) (fe_lst fa_nil)))
    (fss_cons (fs_for (ps_for PassesOwn.never rfl (fi_rng1 (pi_range1 rfl B.range_ (fa_cons (fe_var (pv 2)) fa_nil))) (fg_name (pg_name (i := 8) nd rfl (Or.inl rfl)))
      (fss_cons (fs_setN (ps_set (i := 9) nd rfl (Or.inl rfl) (fe_lst fa_nil)))
      (fss_cons (fs_for (ps_for PassesOwn.never rfl (fi_any (fe_var (pv 1))) (fg_name (pg_name (i := 10) nd rfl (Or.inl rfl)))
        (fss_one (fs_app (i := 9) (ps_expr (pe_bm PySem.F.plainAttrs_list PySem.F.slot_list_append PySem.F.type_list_append mt_append (pv 9) (fa_cons (fe_but (T := "tuple") bu_tup rfl B.tuple_ (by decide +kernel) (fa_cons (fe_lc (own := [("r", 11)]) rfl nd (fi_rng1 (pi_range1 rfl B.range_ (fa_cons (fe_var (pv 3)) fa_nil))) (blkOk_by (N := N_lawtwoway) (sc := defScope s_lawtwoway) (by decide +kernel)) (fun _ _ _ _ _ => (fg_name (pg_name (i := 11) nd rfl (Or.inl rfl)))) (fun _ _ _ _ _ => fts_nil) (fun _ _ _ _ _ => (fe_bix (fe_var (pv 4)) (fe_call gd C_lawdraw (hr.mono hl_lawdraw) rfl (fa_cons (fe_var (pv 0)) (fa_cons (fe_bu (id := "len") bu_len rfl B.len_ PySem.boot_len (fa_cons (fe_var (pv 4)) fa_nil)) fa_nil))) (fun _ _ => rfl))) (by decide)) fa_nil)) fa_nil)))))))
      (fss_one (fs_app (i := 7) (ps_expr (pe_bm PySem.F.plainAttrs_list PySem.F.slot_list_append PySem.F.type_list_append mt_append (pv 7) (fa_cons (fe_but (T := "tuple") bu_tup rfl B.tuple_ (by decide +kernel) (fa_cons (fe_var (pv 9)) fa_nil)) fa_nil)))))))))
    (fss_one (fs_retU (ps_ret (fe_tup (fa_cons (fe_but (T := "tuple") bu_tup rfl B.tuple_ (by decide +kernel) (fa_cons (fe_var (pv 1)) fa_nil)) (fa_cons (fe_var (pv 5)) (fa_cons (fe_var (pv 6)) (fa_cons (fe_but (T := "tuple") bu_tup rfl B.tuple_ (by decide +kernel) (fa_cons (fe_var (pv 7)) fa_nil)) fa_nil))))))))))))
abbrev s_sourcesof : Stmt := topS 7
abbrev N_sourcesof : List Str := ["rows", "found", "state", "row", "index", "after", "_"]
theorem sc_sourcesof : FnScope N_sourcesof ["rows"] (defScope s_sourcesof) := ⟨rfl, rfl, rfl, by decide +kernel, rfl, by decide +kernel, by decide +kernel⟩
set_option maxHeartbeats 1000000 in
theorem ok_sourcesof {SP_sourcesof : SpD} {k : Nat} (D : Df K mg "sources_of" s_sourcesof ["rows"]) (B : Bn mg)
    (pf : ∀ xs Qd, SP_sourcesof xs Qd → t_sourcesof (endsOf Qd) (iniR xs 6)) : CalG P TB.w K mg base (k + 1) "sources_of" ["rows"] (spU K 1 SP_sourcesof) := by
  refine D.calU (m := 6) (t := t_sourcesof) sc_sourcesof rfl rfl pf ?_
  intro f cdv A o s H E hr gd
  have nd := sc_sourcesof.nd
  have hu1 := My.Room.u65 hr
  have hu := hr.units
  exact (fss_cons (fs_setLcT (i := 1) (own := [("_", 6)]) rfl nd rfl rfl (sw_true rfl rfl rfl (by decide +kernel)) (fi_any (fe_bix (fe_var (pv 0)) fe_int (fun _ _ => rfl))) (blkOk_by (N := N_sourcesof) (sc := defScope s_sourcesof) (by decide +kernel)) (fun _ _ _ _ _ => (fg_name (pg_name (i := 6) nd rfl (Or.inl rfl)))) (fun _ _ _ _ _ => fts_nil) (fun _ _ _ _ _ => (fe_lcT (own := [("_", 6)]) rfl nd (fi_any (fe_var (pv 0))) (blkOk_by (N := N_sourcesof) (sc := relS _ (defScope s_sourcesof)) (by decide +kernel)) (fun _ _ _ _ _ => (fg_name (pg_name (i := 6) nd rfl (Or.inl rfl)))) (fun _ _ _ _ _ => fts_nil) (fun _ _ _ _ _ => (fe_lst fa_nil)) (by decide))) (by decide))
    (fss_cons (fs_for (ps_for PassesOwn.never rfl (fi_enA rfl B.enumerate_ (fa_cons (fe_var (pv 0)) fa_nil)) (fg_tup (n := 2) (pg_tup rfl (fgs_cons (pgs_cons (fg_name (pg_name (i := 2) nd rfl (Or.inl rfl))) (fgs_cons (pgs_cons (fg_name (pg_name (i := 3) nd rfl (Or.inl rfl))) fgs_nil))))))
      (fss_one (fs_for (ps_for PassesOwn.never rfl (fi_enA rfl B.enumerate_ (fa_cons (fe_var (pv 3)) fa_nil)) (fg_tup (n := 2) (pg_tup rfl (fgs_cons (pgs_cons (fg_name (pg_name (i := 4) nd rfl (Or.inl rfl))) (fgs_cons (pgs_cons (fg_name (pg_name (i := 5) nd rfl (Or.inl rfl))) fgs_nil))))))
        (fss_one (fs_appP2 (i := 1) (ja := 4) (jb := 5) (ps_expr (pe_bm PySem.F.plainAttrs_list PySem.F.slot_list_append PySem.F.type_list_append mt_append (pe_ix (r := rIxL K) ix_list (pe_ix (r := rIxL K) ix_list (pv 1) (pv 4) (fun _ _ => rfl)) (pv 5) (fun _ _ => rfl)) (fa_cons (fe_var (pv 2)) fa_nil))))))))))
    (fss_one (fs_retU (ps_ret (fe_var (pv 1)))))))
abbrev s_rightsbehind : Stmt := topS 12
abbrev N_rightsbehind : List Str := ["acceptor", "machine", "_", "rows", "accepting", "sources", "met", "waiting", "state", "behind", "index", "before", "earlier", "found"]
theorem sc_rightsbehind : FnScope N_rightsbehind ["acceptor", "machine"] (defScope s_rightsbehind) := ⟨rfl, rfl, rfl, by decide +kernel, rfl, by decide +kernel, by decide +kernel⟩
set_option maxHeartbeats 1000000 in
theorem ok_rightsbehind {SP_rightsbehind : SpD} {SP_sourcesof : SpD} {k : Nat} (D : Df K mg "rights_behind" s_rightsbehind ["acceptor", "machine"]) (B : Bn mg) {lv_sourcesof : Nat} (hl_sourcesof : lv_sourcesof ≤ k) (C_sourcesof : CalG P TB.w K mg base lv_sourcesof "sources_of" ["rows"] (spU K 1 SP_sourcesof))
    (pf : ∀ xs Qd, SP_rightsbehind xs Qd → t_rightsbehind SP_sourcesof (endsOf Qd) (iniR xs 12)) : CalG P TB.w K mg base (k + 1) "rights_behind" ["acceptor", "machine"] (spU K 2 SP_rightsbehind) := by
  refine D.calU (m := 12) (t := t_rightsbehind SP_sourcesof) sc_rightsbehind rfl rfl pf ?_
  intro f cdv A o s H E hr gd
  have nd := sc_rightsbehind.nd
  have hu1 := My.Room.u65 hr
  have hu := hr.units
  exact (fss_cons (fs_asg (ps_asg (fe_var (pv 0)) (fg_tup (n := 3) (pg_tup rfl (fgs_cons (pgs_cons (fg_name (pg_name (i := 2) nd rfl (Or.inl rfl))) (fgs_cons (pgs_cons (fg_name (pg_name (i := 3) nd rfl (Or.inl rfl))) (fgs_cons (pgs_cons (fg_name (pg_name (i := 4) nd rfl (Or.inl rfl))) fgs_nil))))))))))
    (fss_cons (fs_set (ps_set (i := 5) nd rfl (Or.inl rfl) (fe_call gd C_sourcesof (hr.mono hl_sourcesof) rfl (fa_cons (fe_var (pv 3)) fa_nil))))
    (fss_cons (fs_setDk (i := 6) (own := [("state", 8)]) rfl hu1 rfl nd rfl rfl (swD_true rfl rfl rfl (by decide +kernel)) (fi_any (fe_var (pv 4))) (blkOk_by (N := N_rightsbehind) (sc := defScope s_rightsbehind) (by decide +kernel)) (fun _ _ _ _ _ => (fg_name (pg_name (i := 8) nd rfl (Or.inl rfl)))) (fun _ _ _ _ _ => fts_nil) (fun _ _ _ _ _ => (fe_tup (fa_cons (fe_var (pv 8)) (fa_cons fe_int fa_nil)))) (fun _ _ _ _ _ => fe_bl) (by decide))
    (fss_cons (fs_setN (ps_set (i := 7) nd rfl (Or.inl rfl) (fe_but (T := "list") (bu_liD rfl rfl) rfl B.list_ (by decide +kernel) (fa_cons (fe_var (pv 6)) fa_nil))))
    (fss_cons (fs_while (ps_while PassesOwn.never (ft_tru (fe_var (pv 7)))
      (fss_cons (fs_popG (i := 7) (ps_asg (pe_bm0 PySem.F.plainAttrs_list PySem.F.slot_list_pop PySem.F.type_list_pop mt_pop (pv 7)) (fg_tup (n := 2) (pg_tup rfl (fgs_cons (pgs_cons (fg_name (pg_name (i := 8) nd rfl (Or.inl rfl))) (fgs_cons (pgs_cons (fg_name (pg_name (i := 9) nd rfl (Or.inl rfl))) fgs_nil))))))))
      (fss_one (fs_for (ps_for PassesOwn.never rfl (fi_enA rfl B.enumerate_ (fa_cons (fe_bix (fe_bix (fe_var (pv 1)) fe_int (fun _ _ => rfl)) (fe_var (pv 9)) (fun _ _ => rfl)) fa_nil)) (fg_tup (n := 2) (pg_tup rfl (fgs_cons (pgs_cons (fg_name (pg_name (i := 10) nd rfl (Or.inl rfl))) (fgs_cons (pgs_cons (fg_name (pg_name (i := 11) nd rfl (Or.inl rfl))) fgs_nil))))))
        (fss_one (fs_for (ps_for PassesOwn.never rfl (fi_any (fe_bix (fe_bix (fe_var (pv 5)) (fe_var (pv 10)) (fun _ _ => rfl)) (fe_var (pv 8)) (fun _ _ => rfl))) (fg_name (pg_name (i := 12) nd rfl (Or.inl rfl)))
          (fss_one (fs_if (ft_cu (cu_notInD rfl hu1) (fe_tup (fa_cons (fe_var (pv 12)) (fa_cons (fe_var (pv 11)) fa_nil))) (fe_var (pv 6)) rfl)
            (fss_cons (fs_setD (i := 6) rfl (ps_asg fe_bl (pg_sub (pv 6) (fe_tup (fa_cons (fe_var (pv 12)) (fa_cons (fe_var (pv 11)) fa_nil))) (set_dicU hu1))))
            (fss_one (fs_app (i := 7) (ps_expr (pe_bm PySem.F.plainAttrs_list PySem.F.slot_list_append PySem.F.type_list_append mt_append (pv 7) (fa_cons (fe_tup (fa_cons (fe_var (pv 12)) (fa_cons (fe_var (pv 11)) fa_nil))) fa_nil))))))
            fss_nil)))))))))))
    (fss_cons (fs_setLcT (i := 13) (own := [("_", 2)]) rfl nd rfl rfl (sw_true rfl rfl rfl (by decide +kernel)) (fi_any (fe_var (pv 3))) (blkOk_by (N := N_rightsbehind) (sc := defScope s_rightsbehind) (by decide +kernel)) (fun _ _ _ _ _ => (fg_name (pg_name (i := 2) nd rfl (Or.inl rfl)))) (fun _ _ _ _ _ => fts_nil) (fun _ _ _ _ _ => (fe_lst fa_nil)) (by decide))
    (fss_cons (fs_for (ps_for PassesOwn.never rfl (fi_any (fe_bu (id := "sorted") (bu_srtT rfl rfl) rfl B.sorted_ (by decide +kernel) (fa_cons (fe_var (pv 6)) fa_nil))) (fg_tup (n := 2) (pg_tup rfl (fgs_cons (pgs_cons (fg_name (pg_name (i := 8) nd rfl (Or.inl rfl))) (fgs_cons (pgs_cons (fg_name (pg_name (i := 9) nd rfl (Or.inl rfl))) fgs_nil))))))
      (fss_one (fs_appP1 (i := 13) (ja := 8) (ps_expr (pe_bm PySem.F.plainAttrs_list PySem.F.slot_list_append PySem.F.type_list_append mt_append (pe_ix (r := rIxL K) ix_list (pv 13) (pv 8) (fun _ _ => rfl)) (fa_cons (fe_var (pv 9)) fa_nil)))))))
    (fss_one (fs_retU (ps_ret (fe_var (pv 13))))))))))))
abbrev s_edges : Stmt := topS 13
abbrev N_edges : List Str := ["acceptor", "machine", "points", "numbers", "reads", "left_rows", "right_rows", "outputs", "behinds", "_", "state", "right", "found", "left", "index", "symbol", "before", "after", "source", "number", "point"]
theorem sc_edges : FnScope N_edges ["acceptor", "machine", "points"] (defScope s_edges) := ⟨rfl, rfl, rfl, by decide +kernel, rfl, by decide +kernel, by decide +kernel⟩
set_option maxHeartbeats 1000000 in
theorem ok_edges {SP_edges : SpD} {k : Nat} (D : Df K mg "_edges" s_edges ["acceptor", "machine", "points"]) (B : Bn mg)
    (pf : ∀ xs Qd, SP_edges xs Qd → t_edges (endsOf Qd) (iniR xs 18)) : CalG P TB.w K mg base (k + 1) "_edges" ["acceptor", "machine", "points"] (spU K 3 SP_edges) := by
  refine D.calU (m := 18) (t := t_edges) sc_edges rfl rfl pf ?_
  intro f cdv A o s H E hr gd
  have nd := sc_edges.nd
  have hu1 := My.Room.u65 hr
  have hu := hr.units
  exact (fss_cons (fs_setDk (i := 3) (own := [("number", 19), ("point", 20)]) rfl hu1 rfl nd rfl rfl (swD_true rfl rfl rfl (by decide +kernel)) (fi_enA rfl B.enumerate_ (fa_cons (fe_var (pv 2)) fa_nil)) (blkOk_by (N := N_edges) (sc := defScope s_edges) (by decide +kernel)) (fun _ _ _ _ _ => (fg_tup (n := 2) (pg_tup rfl (fgs_cons (pgs_cons (fg_name (pg_name (i := 19) nd rfl (Or.inl rfl))) (fgs_cons (pgs_cons (fg_name (pg_name (i := 20) nd rfl (Or.inl rfl))) fgs_nil))))))) (fun _ _ _ _ _ => fts_nil) (fun _ _ _ _ _ => (fe_var (pv 20))) (fun _ _ _ _ _ => (fe_var (pv 19))) (by decide))
    (fss_fzT 3 (fss_cons (fs_asg (ps_asg (fe_var (pv 1)) (fg_tup (n := 4) (pg_tup rfl (fgs_cons (pgs_cons (fg_name (pg_name (i := 4) nd rfl (Or.inl rfl))) (fgs_cons (pgs_cons (fg_name (pg_name (i := 5) nd rfl (Or.inl rfl))) (fgs_cons (pgs_cons (fg_name (pg_name (i := 6) nd rfl (Or.inl rfl))) (fgs_cons (pgs_cons (fg_name (pg_name (i := 7) nd rfl (Or.inl rfl))) fgs_nil))))))))))))
    (fss_cons (fs_setT (ps_set (i := 8) nd rfl (Or.inl rfl) (fe_dnew rfl)))
    (fss_cons (fs_for (ps_for PassesOwn.never rfl (fi_any (fe_var (pv 2))) (fg_tup (n := 3) (pg_tup rfl (fgs_cons (pgs_cons (fg_name (pg_name (i := 9) nd rfl (Or.inl rfl))) (fgs_cons (pgs_cons (fg_name (pg_name (i := 10) nd rfl (Or.inl rfl))) (fgs_cons (pgs_cons (fg_name (pg_name (i := 11) nd rfl (Or.inl rfl))) fgs_nil))))))))
      (fss_one (fs_sdSet (i := 8) rfl (ps_asg fe_bl (pg_sub (pe_dm PySem.F.slot_dict_setdefault PySem.F.type_dict_setdefault (mt_sdU hu1) (pv 8) (fa_cons (fe_var (pv 10)) (fa_cons (fe_dnew rfl) fa_nil))) (fe_var (pv 11)) (set_dicU hu1)))))))
    (fss_fzT 8 (fss_cons (fs_setN (ps_set (i := 12) nd rfl (Or.inl rfl) (fe_lst fa_nil)))
    (fss_cons (fs_for (ps_for PassesOwn.never rfl (fi_any (fe_srtSet rfl rfl (Nat.lt_of_succ_lt hu1) rfl B.sorted_ rfl B.set_ (fa_cons (fe_lc (own := [("point", 20)]) rfl nd (fi_any (fe_var (pv 2))) (blkOk_by (N := N_edges) (sc := defScope s_edges) (by decide +kernel)) (fun _ _ _ _ _ => (fg_name (pg_name (i := 20) nd rfl (Or.inl rfl)))) (fun _ _ _ _ _ => fts_nil) (fun _ _ _ _ _ => (fe_tup (fa_cons (fe_bix (fe_var (pv 20)) fe_int (fun _ _ => rfl)) (fa_cons (fe_bix (fe_var (pv 20)) fe_int (fun _ _ => rfl)) fa_nil)))) (by decide)) fa_nil))) (fg_tup (n := 2) (pg_tup rfl (fgs_cons (pgs_cons (fg_name (pg_name (i := 13) nd rfl (Or.inl rfl))) (fgs_cons (pgs_cons (fg_name (pg_name (i := 10) nd rfl (Or.inl rfl))) fgs_nil))))))
      (fss_one (fs_for (ps_for PassesOwn.never rfl (fi_enA rfl B.enumerate_ (fa_cons (fe_var (pv 4)) fa_nil)) (fg_tup (n := 2) (pg_tup rfl (fgs_cons (pgs_cons (fg_name (pg_name (i := 14) nd rfl (Or.inl rfl))) (fgs_cons (pgs_cons (fg_name (pg_name (i := 15) nd rfl (Or.inl rfl))) fgs_nil))))))
        (fss_cons (fs_par (ps_par (i := 16) (j := 17) rfl nd rfl rfl (by decide) rfl rfl (fa_cons (fe_bix (fe_bix (fe_var (pv 5)) (fe_var (pv 13)) (fun _ _ => rfl)) (fe_var (pv 14)) (fun _ _ => rfl)) (fa_cons (fe_bix (fe_bix (fe_bix (fe_var (pv 0)) fe_int (fun _ _ => rfl)) (fe_var (pv 10)) (fun _ _ => rfl)) (fe_var (pv 14)) (fun _ _ => rfl)) fa_nil)) (by rfl)))
        (fss_one (fs_for (ps_for PassesOwn.never rfl (fi_keyX rfl (fe_dget rfl hu1 (fe_var (pv 8)) (fa_cons (fe_var (pv 17)) (fa_cons (fe_dnew rfl) fa_nil)))) (fg_name (pg_name (i := 11) nd rfl (Or.inl rfl)))
          (fss_cons (fs_set (ps_set (i := 18) nd rfl (Or.inl rfl) (fe_dix rfl hu1 (fe_var (pv 3)) (fe_tup (fa_cons (fe_var (pv 13)) (fa_cons (fe_var (pv 10)) (fa_cons (fe_bix (fe_bix (fe_var (pv 6)) (fe_var (pv 11)) (fun _ _ => rfl)) (fe_var (pv 14)) (fun _ _ => rfl)) fa_nil)))) (fun _ _ => rfl))))
          (fss_one (fs_app (i := 12) (ps_expr (pe_bm PySem.F.plainAttrs_list PySem.F.slot_list_append PySem.F.type_list_append mt_append (pv 12) (fa_cons (fe_tup (fa_cons (fe_var (pv 18)) (fa_cons (fe_var (pv 15)) (fa_cons (fe_dix rfl hu1 (fe_var (pv 3)) (fe_tup (fa_cons (fe_var (pv 16)) (fa_cons (fe_var (pv 17)) (fa_cons (fe_var (pv 11)) fa_nil)))) (fun _ _ => rfl)) (fa_cons (fe_bix (fe_bix (fe_bix (fe_var (pv 7)) (fe_var (pv 13)) (fun _ _ => rfl)) (fe_var (pv 14)) (fun _ _ => rfl)) (fe_var (pv 11)) (fun _ _ => rfl)) fa_nil))))) fa_nil)))))))))))))))
    (fss_one (fs_retU (ps_ret (fe_var (pv 12)))))))))))))
abbrev s_explored : Stmt := topS 6
abbrev N_explored : List Str := ["start", "row_of", "most", "states", "numbers", "rows", "following", "state"]
theorem sc_explored : FnScope N_explored ["start", "row_of", "most"] (defScope s_explored) := ⟨rfl, rfl, rfl, by decide +kernel, rfl, by decide +kernel, by decide +kernel⟩
set_option maxHeartbeats 1000000 in
theorem ok_explored {c : CT} {SP_explored : SpD} {k kc : Nat} (hkc : kc ≤ k) (hc : CtOk c P TB.w K mg base kc) (D : DfD K mg "explored" "most" s_explored ["start", "row_of", "most"] 2 (.none)) (B : Bn mg)
    (pf : ∀ xs Qd, SP_explored xs Qd → t_explored c (endsOf Qd) (iniR xs 5)) : CalD P TB.w K mg base (k + 1) "explored" ["start", "row_of", "most"] [.none] (spU K 3 SP_explored) := by
  refine D.calU (m := 5) (t := t_explored c) sc_explored rfl rfl pf ?_
  intro f cdv A o s H E hr gd
  have nd := sc_explored.nd
  have hu1 := My.Room.u65 hr
  have hu := hr.units
  exact (fss_cons (fs_setN (ps_set (i := 3) nd rfl (Or.inl rfl) (fe_lst (fa_cons (fe_var (pv 0)) fa_nil))))
    (fss_cons (fs_setT (ps_set (i := 4) nd rfl (Or.inr rfl) (fe_dispK rfl hu1 (fe_var (pv 0)) fe_int)))
    (fss_cons (fs_setN (ps_set (i := 5) nd rfl (Or.inl rfl) (fe_lst fa_nil)))
    (fss_cons (fs_while (ps_while PassesOwn.never (ft_cu (cu_lt hu) (fe_bu (id := "len") bu_len rfl B.len_ PySem.boot_len (fa_cons (fe_var (pv 5)) fa_nil)) (fe_bu (id := "len") bu_len rfl B.len_ PySem.boot_len (fa_cons (fe_var (pv 3)) fa_nil)) (nomark _))
      (fss_cons (fs_set (ps_set (i := 6) nd rfl (Or.inl rfl) (fe_callF (i := 1) gd rfl hc (hr.mono hkc) rfl (by first | exact Or.inl rfl | exact Or.inr (Or.inl rfl) | exact Or.inr (Or.inr rfl)) (fa_cons (fe_bix (fe_var (pv 3)) (fe_bu (id := "len") bu_len rfl B.len_ PySem.boot_len (fa_cons (fe_var (pv 5)) fa_nil)) (fun _ _ => rfl)) fa_nil))))
      (fss_cons (fs_for (ps_for PassesOwn.never rfl (fi_any (fe_var (pv 6))) (fg_name (pg_name (i := 7) nd rfl (Or.inl rfl)))
        (fss_one (fs_if (ft_cu (cu_notInD rfl hu1) (fe_var (pv 7)) (fe_var (pv 4)) rfl)
          (fss_cons (fs_setD (i := 4) rfl (ps_asg (fe_bu (id := "len") bu_len rfl B.len_ PySem.boot_len (fa_cons (fe_var (pv 3)) fa_nil)) (pg_sub (pv 4) (fe_var (pv 7)) (set_dicU hu1))))
          (fss_one (fs_app (i := 3) (ps_expr (pe_bm PySem.F.plainAttrs_list PySem.F.slot_list_append PySem.F.type_list_append mt_append (pv 3) (fa_cons (fe_var (pv 7)) fa_nil))))))
          fss_nil))))
      (fss_cons (fs_app (i := 5) (ps_expr (pe_bm PySem.F.plainAttrs_list PySem.F.slot_list_append PySem.F.type_list_append mt_append (pv 5) (fa_cons (fe_but (T := "tuple") bu_tup rfl B.tuple_ (by decide +kernel) (fa_cons (fe_lc (own := [("state", 7)]) rfl nd (fi_any (fe_var (pv 6))) (blkOk_by (N := N_explored) (sc := defScope s_explored) (by decide +kernel)) (fun _ _ _ _ _ => (fg_name (pg_name (i := 7) nd rfl (Or.inl rfl)))) (fun _ _ _ _ _ => fts_nil) (fun _ _ _ _ _ => (fe_dix rfl hu1 (fe_var (pv 4)) (fe_var (pv 7)) (fun _ _ => rfl))) (by decide)) fa_nil)) fa_nil))))
      (fss_one (fs_if (FW.ft (fw_and (ft_cu cu_isnt (fe_var (pv 2)) fe_non (nomark _)) (fw_and1 (ft_cu cu_gt (fe_bu (id := "len") bu_len rfl B.len_ PySem.boot_len (fa_cons (fe_var (pv 3)) fa_nil)) (fe_var (pv 2)) (nomark _)))))
        (fss_one (fs_retU (ps_ret fe_non)))
        fss_nil)))))))
    (fss_fz 3 (fss_one (fs_retU (ps_ret (fe_tup (fa_cons (fe_var (pv 3)) (fa_cons (fe_but (T := "tuple") bu_tup rfl B.tuple_ (by decide +kernel) (fa_cons (fe_var (pv 5)) fa_nil)) fa_nil)))))))))))
abbrev s_graphof : Stmt := topS 11
abbrev N_graphof : List Str := ["acceptor", "machine", "befores", "behinds", "points", "edges", "starts", "ends", "_", "state", "left", "right", "number", "point"]
theorem sc_graphof : FnScope N_graphof ["acceptor", "machine"] (defScope s_graphof) := ⟨rfl, rfl, rfl, by decide +kernel, rfl, by decide +kernel, by decide +kernel⟩
abbrev e_graphof_0 : PySem.Expr := (kidE (kidE (stE ((defBody s_graphof).getD 0 (.Pass ⟨0, 0, 0, 0⟩))) 0) 1)
abbrev N_graphof_0 : List Str := ["pair", "machine", "acceptor"]
theorem ns_graphof_0 : NdefX.NScope N_graphof_0 ["pair"] ["machine", "acceptor"] (lamSc e_graphof_0) := NdefX.nscope_by (by decide +kernel)
def nm_graphof : Nat → Nat → Str := fun a b => ("graph_of" : Str) ++ ".<locals>." ++ "<lambda>"
set_option maxHeartbeats 1000000 in
theorem ok_graphof {SP_graphof : SpD} {SP_explored : CT → SpD} {SP_rightsbehind : SpD} {SP_edges : SpD} {k k0 kc : Nat} {cc PP : Addr} (hkr : k0 + 1 ≤ kc) (Tb : LamX.TabB base mg cc PP) (hTm : (PP, nm_graphof) ∈ TB.T) (hTu : ∀ p ∈ TB.T, p.1 = PP → p.2 = nm_graphof) (D : DfM K mg "graph_of" s_graphof ["acceptor", "machine"] cc) (B : Bn mg) {lv_explored : Nat} (hl_explored : lv_explored ≤ k) (C_explored : ∀ b1 (c : CT), Sub base b1 → CtOk c P TB.w K mg b1 kc → CalD P TB.w K mg b1 lv_explored "explored" ["start", "row_of", "most"] [.none] (spU K 3 (SP_explored c))) {lv_rightsbehind : Nat} (hl_rightsbehind : lv_rightsbehind ≤ k) (C_rightsbehind : ∀ b1, Sub base b1 → CalG P TB.w K mg b1 lv_rightsbehind "rights_behind" ["acceptor", "machine"] (spU K 2 SP_rightsbehind)) {lv_edges : Nat} (hl_edges : lv_edges ≤ k) (C_edges : ∀ b1, Sub base b1 → CalG P TB.w K mg b1 lv_edges "_edges" ["acceptor", "machine", "points"] (spU K 3 SP_edges)) (mg_MOST_EDGES : ∃ u, mg "MOST_EDGES" = some (.int 2000 u)) (mg_MOST_POINTS : ∃ u, mg "MOST_POINTS" = some (.int 200 u))
    (pf : ∀ (F : FR) xs Qd, SP_graphof xs Qd → (letI : FR := F; t_graphof SP_explored SP_rightsbehind SP_edges) (endsOf Qd) (iniR xs 12)) : CalG P TB.w K mg base (k + 1) "graph_of" ["acceptor", "machine"] (spU K 2 SP_graphof) := by
  refine D.calU (m := 12) (t := fun F => letI : FR := F; t_graphof SP_explored SP_rightsbehind SP_edges) sc_graphof rfl rfl pf ?_
  intro f A o s H E hr gd
  have nd := sc_graphof.nd
  have hu1 := My.Room.u65 hr
  have hu := hr.units
  letI F : FR := ⟨fun L c1 => match L with | _ => lamFF (cxOf CX0 P TB.w K mg base N_graphof "graph_of" (defScope s_graphof) f (.ref cc) A o s H E).nox.env (lamA e_graphof_0) (lamB e_graphof_0) (lamSc e_graphof_0) c1⟩
  refine ⟨F, ?_⟩
  exact (fss_cons (fs_set (ps_set (i := 2) nd rfl (Or.inl rfl) (fe_bix (fe_callC (n := 3) (rs := [⟨0, [1, 0], 0, 1, t_graphof_0⟩]) (dd := [.none]) gd rfl (fun _ => rfl) (cellsNm_of (sc := defScope s_graphof) rfl (by decide +kernel)) C_explored (reg_cons (regOk_lam (scope := (lamSc e_graphof_0)) (fr := ["machine", "acceptor"]) (ps := ["pair"]) (N := N_graphof_0) (params := lamA e_graphof_0) (body := lamB e_graphof_0) rfl (show NdefX.ndefB (defScope s_graphof) (lamSc e_graphof_0) ["machine", "acceptor"] = true from by decide +kernel) rfl (fun _ => rfl) ns_graphof_0 rfl rfl (fun _ _ _ _ _ us hl => match us, hl with | [_], _ => rfl) (fun _ => rfl) (fun kk b1 c hkk hsb hc c1 f1 A1 o1 s1 H1 E1 hr gd => by
      have nd := ns_graphof_0.nd
      have hu1 := My.Room.u65 hr
      have hu := hr.units
      exact (fe_listZip rfl rfl B.list_ rfl B.zip_ (fa_cons (fe_bix (fe_bix (fe_var (pv 1)) fe_int (fun _ _ => rfl)) (fe_bix (fe_var (pv 0)) fe_int (fun _ _ => rfl)) (fun _ _ => rfl)) (fa_cons (fe_bix (fe_bix (fe_var (pv 2)) fe_int (fun _ _ => rfl)) (fe_bix (fe_var (pv 0)) fe_int (fun _ _ => rfl)) (fun _ _ => rfl)) fa_nil))))) reg_nil) (by simp only [List.length_cons, List.length_nil]; omega) (hr.mono hl_explored) rfl (fa_cons (fe_tup (fa_cons fe_int (fa_cons fe_int fa_nil))) (fa_cons (fe_lam (L := 0) (⟨Tb, rfl, hTm, hTu⟩ : Mkr _ cc PP nm_graphof) rfl (fun _ => rfl) rfl (NdefX.ndef_free (fr := ["machine", "acceptor"]) (sc := defScope s_graphof) (nsc := (lamSc e_graphof_0)) (by decide +kernel))) fa_nil))) fe_int (fun _ _ => rfl))))
    (fss_cons (fs_set (ps_set (i := 3) nd rfl (Or.inr rfl) (fe_call gd (C_rightsbehind _ (Sub.refl _)) (hr.mono hl_rightsbehind) rfl (fa_cons (fe_var (pv 0)) (fa_cons (fe_var (pv 1)) fa_nil)))))
    (fss_cons (fs_if (ft_cu cu_gt (fe_bu (id := "sum") (bu_sum rfl) rfl B.sum_ (by decide +kernel) (fa_cons (fe_lc (own := [("_", 8), ("state", 9)]) rfl nd (fi_any (fe_var (pv 2))) (blkOk_by (N := N_graphof) (sc := defScope s_graphof) (by decide +kernel)) (fun _ _ _ _ _ => (fg_tup (n := 2) (pg_tup rfl (fgs_cons (pgs_cons (fg_name (pg_name (i := 8) nd rfl (Or.inl rfl))) (fgs_cons (pgs_cons (fg_name (pg_name (i := 9) nd rfl (Or.inl rfl))) fgs_nil))))))) (fun _ _ _ _ _ => fts_nil) (fun _ _ _ _ _ => (fe_bu (id := "len") bu_len rfl B.len_ PySem.boot_len (fa_cons (fe_bix (fe_var (pv 3)) (fe_var (pv 9)) (fun _ _ => rfl)) fa_nil))) (by decide)) fa_nil)) (fe_giE rfl mg_MOST_POINTS) (nomark _))
      (fss_one fs_never)
      fss_nil)
    (fss_cons (fs_set (ps_set (i := 4) nd rfl (Or.inl rfl) (fe_bu (id := "sorted") (bu_srtT rfl rfl) rfl B.sorted_ (by decide +kernel) (fa_cons (fe_lc2 (own := [("left", 10), ("state", 9), ("right", 11)]) rfl nd (vs1 := [11]) (fi_any (fe_var (pv 2))) (blkOk_by (N := N_graphof) (sc := defScope s_graphof) (by decide +kernel)) (by decide) (fun _ _ _ _ _ => (fg_tup (n := 2) (pg_tup rfl (fgs_cons (pgs_cons (fg_name (pg_name (i := 10) nd rfl (Or.inl rfl))) (fgs_cons (pgs_cons (fg_name (pg_name (i := 9) nd rfl (Or.inl rfl))) fgs_nil))))))) (fun _ _ _ _ _ => fts_nil) (fun _ _ _ _ _ => (fi_any (fe_bix (fe_var (pv 3)) (fe_var (pv 9)) (fun _ _ => rfl)))) (fun _ _ _ _ _ => (fg_name (pg_name (i := 11) nd rfl (Or.inl rfl)))) (fun _ _ _ _ _ => fts_nil) (fun _ _ _ _ _ => (fe_tup (fa_cons (fe_var (pv 10)) (fa_cons (fe_var (pv 9)) (fa_cons (fe_var (pv 11)) fa_nil))))) (by decide) (by decide)) fa_nil))))
    (fss_cons (fs_set (ps_set (i := 5) nd rfl (Or.inl rfl) (fe_call gd (C_edges _ (Sub.refl _)) (hr.mono hl_edges) rfl (fa_cons (fe_var (pv 0)) (fa_cons (fe_var (pv 1)) (fa_cons (fe_var (pv 4)) fa_nil))))))
    (fss_cons (fs_if (ft_cu cu_gt (fe_bu (id := "len") bu_len rfl B.len_ PySem.boot_len (fa_cons (fe_var (pv 5)) fa_nil)) (fe_giE rfl mg_MOST_EDGES) (nomark _))
      (fss_one fs_never)
      fss_nil)
    (fss_cons (fs_setLc (i := 6) (own := [("number", 12), ("point", 13)]) rfl nd rfl rfl (sw_true rfl rfl rfl (by decide +kernel)) (fi_enA rfl B.enumerate_ (fa_cons (fe_var (pv 4)) fa_nil)) (blkOk_by (N := N_graphof) (sc := defScope s_graphof) (by decide +kernel)) (fun _ _ _ _ _ => (fg_tup (n := 2) (pg_tup rfl (fgs_cons (pgs_cons (fg_name (pg_name (i := 12) nd rfl (Or.inl rfl))) (fgs_cons (pgs_cons (fg_name (pg_name (i := 13) nd rfl (Or.inl rfl))) fgs_nil))))))) (fun _ _ _ _ _ => (fts_one (FW.ft (fw_and (ft_cu (cu_eq hu) (fe_bix (fe_var (pv 13)) fe_int (fun _ _ => rfl)) fe_int (nomark _)) (fw_and1 (ft_cu (cu_eq hu) (fe_bix (fe_var (pv 13)) fe_int (fun _ _ => rfl)) fe_int (nomark _))))))) (fun _ _ _ _ _ => (fe_var (pv 12))) (by decide))
    (fss_cons (fs_setLc (i := 7) (own := [("number", 12), ("point", 13)]) rfl nd rfl rfl (sw_true rfl rfl rfl (by decide +kernel)) (fi_enA rfl B.enumerate_ (fa_cons (fe_var (pv 4)) fa_nil)) (blkOk_by (N := N_graphof) (sc := defScope s_graphof) (by decide +kernel)) (fun _ _ _ _ _ => (fg_tup (n := 2) (pg_tup rfl (fgs_cons (pgs_cons (fg_name (pg_name (i := 12) nd rfl (Or.inl rfl))) (fgs_cons (pgs_cons (fg_name (pg_name (i := 13) nd rfl (Or.inl rfl))) fgs_nil))))))) (fun _ _ _ _ _ => (fts_one (FW.ft (fw_and (ft_cu (cu_eq hu) (fe_bix (fe_var (pv 13)) fe_int (fun _ _ => rfl)) fe_int (nomark _)) (fw_and1 (ft_cu (cu_in hu1) (fe_bix (fe_var (pv 13)) fe_int (fun _ _ => rfl)) (fe_bix (fe_var (pv 0)) fe_int (fun _ _ => rfl)) rfl)))))) (fun _ _ _ _ _ => (fe_var (pv 12))) (by decide))
    (fss_one (fs_retU (ps_ret (fe_tup (fa_cons (fe_but (T := "tuple") bu_tup rfl B.tuple_ (by decide +kernel) (fa_cons (fe_var (pv 4)) fa_nil)) (fa_cons (fe_but (T := "tuple") bu_tup rfl B.tuple_ (by decide +kernel) (fa_cons (fe_var (pv 6)) fa_nil)) (fa_cons (fe_but (T := "tuple") bu_tup rfl B.tuple_ (by decide +kernel) (fa_cons (fe_var (pv 7)) fa_nil)) (fa_cons (fe_but (T := "tuple") bu_tup rfl B.tuple_ (by decide +kernel) (fa_cons (fe_bu (id := "sorted") (bu_srtA (Nat.lt_of_succ_lt hu1)) rfl B.sorted_ (by decide +kernel) (fa_cons (fe_var (pv 5)) fa_nil)) fa_nil)) fa_nil))))))))))))))))
abbrev s_lawsame : Stmt := topS 21
abbrev N_lawsame : List Str := ["told", "due", "k"]
theorem sc_lawsame : FnScope N_lawsame ["told", "due"] (defScope s_lawsame) := ⟨rfl, rfl, rfl, by decide +kernel, rfl, by decide +kernel, by decide +kernel⟩
set_option maxHeartbeats 1000000 in
theorem ok_lawsame {SPm : Nat → SpD} {k : Nat} (D : Df K mg "_law_same" s_lawsame ["told", "due"]) (B : Bn mg)
    (z : ∀ xs Q, ¬ SPm 0 xs Q) (pf : ∀ m xs Qd, SPm (m + 1) xs Qd → t_lawsame (SPm m) (endsOf Qd) (iniR xs 1)) : ∀ m, CalG P TB.w K mg base (k + 1 + m) "_law_same" ["told", "due"] (spU K 2 (SPm m)) := by
  refine D.calR (m := 1) (t := t_lawsame) sc_lawsame rfl rfl z pf ?_
  intro m C_self f cdv A o s H E hr gd
  have nd := sc_lawsame.nd
  have hu1 := My.Room.u65 hr
  have hu := hr.units
  exact (fss_cons (fs_if (ft_cu cu_is (fe_var (pv 1)) fe_non (nomark _))
      (fss_one (fs_retU (ps_ret (fe_cu cu_is (fe_var (pv 0)) fe_non (nomark _)))))
      fss_nil)
    (fss_cons (fs_if (ft_tru (fe_isi rfl B.isinstance_ (fe_var (pv 1)) (pe_bltn (v := .ty "bool") rfl B.bool_ (by decide +kernel) rfl)))
      (fss_one (fs_retU (ps_ret (fe_and (fe_isi rfl B.isinstance_ (fe_var (pv 0)) (pe_bltn (v := .ty "bool") rfl B.bool_ (by decide +kernel) rfl)) (fe_one (fe_cu (cu_eq hu) (fe_var (pv 0)) (fe_var (pv 1)) (nomark _)))))))
      fss_nil)
    (fss_cons (fs_if (ft_tru (fe_isi rfl B.isinstance_ (fe_var (pv 1)) (pe_bltn (v := .ty "int") rfl B.int_ (by decide +kernel) rfl)))
      (fss_one (fs_retU (ps_ret (fe_and (fe_isi rfl B.isinstance_ (fe_var (pv 0)) (pe_bltn (v := .ty "int") rfl B.int_ (by decide +kernel) rfl)) (fe_and (fe_not (fe_isi rfl B.isinstance_ (fe_var (pv 0)) (pe_bltn (v := .ty "bool") rfl B.bool_ (by decide +kernel) rfl))) (fe_one (fe_cu (cu_eq hu) (fe_var (pv 0)) (fe_var (pv 1)) (nomark _))))))))
      fss_nil)
    (fss_cons (fs_if (ft_tru (fe_isi rfl B.isinstance_ (fe_var (pv 1)) (pe_bltn (v := .ty "str") rfl B.str_ (by decide +kernel) rfl)))
      (fss_one (fs_retU (ps_ret (fe_and (fe_isi rfl B.isinstance_ (fe_var (pv 0)) (pe_bltn (v := .ty "str") rfl B.str_ (by decide +kernel) rfl)) (fe_one (fe_cu (cu_eq hu) (fe_var (pv 0)) (fe_var (pv 1)) (nomark _)))))))
      fss_nil)
    (fss_cons (fs_if (FW.ft (fw_or (ft_not (ft_tru (fe_isi rfl B.isinstance_ (fe_var (pv 0)) (pe_bltn (v := .ty "tuple") rfl B.tuple_ (by decide +kernel) rfl)))) (fw_or1 (ft_cu (cu_ne hu) (fe_bu (id := "len") bu_len rfl B.len_ PySem.boot_len (fa_cons (fe_var (pv 0)) fa_nil)) (fe_bu (id := "len") bu_len rfl B.len_ PySem.boot_len (fa_cons (fe_var (pv 1)) fa_nil)) (nomark _)))))
      (fss_one (fs_retU (ps_ret fe_bl)))
      fss_nil)
    (fss_cons (fs_for (ps_for PassesOwn.never rfl (fi_rng1 (pi_range1 rfl B.range_ (fa_cons (fe_bu (id := "len") bu_len rfl B.len_ PySem.boot_len (fa_cons (fe_var (pv 1)) fa_nil)) fa_nil))) (fg_name (pg_name (i := 2) nd rfl (Or.inl rfl)))
      (fss_one (fs_if (ft_not (ft_tru (fe_call gd C_self hr rfl (fa_cons (fe_bix (fe_var (pv 0)) (fe_var (pv 2)) (fun _ _ => rfl)) (fa_cons (fe_bix (fe_var (pv 1)) (fe_var (pv 2)) (fun _ _ => rfl)) fa_nil)))))
        (fss_one (fs_retU (ps_ret fe_bl)))
        fss_nil))))
    (fss_one (fs_retU (ps_ret fe_bl)))))))))
abbrev s_netof : Stmt := topS 1
abbrev N_netof : List Str := ["graph", "points", "starts", "ends", "edges", "source", "symbol", "target", "_"]
theorem sc_netof : FnScope N_netof ["graph"] (defScope s_netof) := ⟨rfl, rfl, rfl, by decide +kernel, rfl, by decide +kernel, by decide +kernel⟩
set_option maxHeartbeats 1000000 in
theorem ok_netof {SP_netof : SpD} {k : Nat} (D : Df K mg "net_of" s_netof ["graph"]) (B : Bn mg)
    (pf : ∀ xs Qd, SP_netof xs Qd → t_netof (endsOf Qd) (iniR xs 8)) : CalG P TB.w K mg base (k + 1) "net_of" ["graph"] (spU K 1 SP_netof) := by
  refine D.calU (m := 8) (t := t_netof) sc_netof rfl rfl pf ?_
  intro f cdv A o s H E hr gd
  have nd := sc_netof.nd
  have hu1 := My.Room.u65 hr
  have hu := hr.units
  exact (fss_cons (fs_asg (ps_asg (fe_var (pv 0)) (fg_tup (n := 4) (pg_tup rfl (fgs_cons (pgs_cons (fg_name (pg_name (i := 1) nd rfl (Or.inl rfl))) (fgs_cons (pgs_cons (fg_name (pg_name (i := 2) nd rfl (Or.inl rfl))) (fgs_cons (pgs_cons (fg_name (pg_name (i := 3) nd rfl (Or.inl rfl))) (fgs_cons (pgs_cons (fg_name (pg_name (i := 4) nd rfl (Or.inl rfl))) fgs_nil))))))))))))
    (fss_one (fs_retU (ps_ret (fe_tup (fa_cons (fe_bu (id := "len") bu_len rfl B.len_ PySem.boot_len (fa_cons (fe_var (pv 1)) fa_nil)) (fa_cons (fe_var (pv 2)) (fa_cons (fe_var (pv 3)) (fa_cons (fe_but (T := "tuple") bu_tup rfl B.tuple_ (by decide +kernel) (fa_cons (fe_lc (own := [("source", 5), ("symbol", 6), ("target", 7), ("_", 8)]) rfl nd (fi_any (fe_var (pv 4))) (blkOk_by (N := N_netof) (sc := defScope s_netof) (by decide +kernel)) (fun _ _ _ _ _ => (fg_tup (n := 4) (pg_tup rfl (fgs_cons (pgs_cons (fg_name (pg_name (i := 5) nd rfl (Or.inl rfl))) (fgs_cons (pgs_cons (fg_name (pg_name (i := 6) nd rfl (Or.inl rfl))) (fgs_cons (pgs_cons (fg_name (pg_name (i := 7) nd rfl (Or.inl rfl))) (fgs_cons (pgs_cons (fg_name (pg_name (i := 8) nd rfl (Or.inl rfl))) fgs_nil))))))))))) (fun _ _ _ _ _ => fts_nil) (fun _ _ _ _ _ => (fe_tup (fa_cons (fe_var (pv 5)) (fa_cons (fe_var (pv 6)) (fa_cons (fe_var (pv 7)) fa_nil))))) (by decide)) fa_nil)) fa_nil)))))))))
abbrev s_law : Stmt := topS 27
abbrev N_law : List Str := ["script", "tape", "signs", "acceptor", "menu", "machine", "found", "edges", "edge"]
theorem sc_law : FnScope N_law ["script"] (defScope s_law) := ⟨rfl, rfl, rfl, by decide +kernel, rfl, by decide +kernel, by decide +kernel⟩
set_option maxHeartbeats 1000000 in
theorem ok_law {SP_lawsigns : SpD} {SP_lawdraw : SpD} {SP_lawacceptor : SpD} {SP_lawsymbols : SpD} {SP_lawmenu : SpD} {SP_lawtwoway : SpD} {SP_graphof : SpD} {SP_netof : SpD} {SP_lawsame : SpD} {k : Nat} {e : Addr} {ed : FuncData} (F : Fun K "law" "law" s_law e ed) (B : Bn mg) {lv_lawsigns : Nat} (hl_lawsigns : lv_lawsigns ≤ k) (C_lawsigns : CalG P TB.w K mg base lv_lawsigns "_law_signs" ["tape"] (spU K 1 SP_lawsigns)) {lv_lawdraw : Nat} (hl_lawdraw : lv_lawdraw ≤ k) (C_lawdraw : CalG P TB.w K mg base lv_lawdraw "_law_draw" ["tape", "many"] (spU K 2 SP_lawdraw)) {lv_lawacceptor : Nat} (hl_lawacceptor : lv_lawacceptor ≤ k) (C_lawacceptor : CalG P TB.w K mg base lv_lawacceptor "_law_acceptor" ["tape", "signs", "many"] (spU K 3 SP_lawacceptor)) {lv_lawsymbols : Nat} (hl_lawsymbols : lv_lawsymbols ≤ k) (C_lawsymbols : CalG P TB.w K mg base lv_lawsymbols "_law_symbols" ["letters", "owners"] (spU K 2 SP_lawsymbols)) {lv_lawmenu : Nat} (hl_lawmenu : lv_lawmenu ≤ k) (C_lawmenu : CalG P TB.w K mg base lv_lawmenu "_law_menu" ["tape", "symbols"] (spU K 2 SP_lawmenu)) {lv_lawtwoway : Nat} (hl_lawtwoway : lv_lawtwoway ≤ k) (C_lawtwoway : CalG P TB.w K mg base lv_lawtwoway "_law_twoway" ["tape", "signs", "lefts", "rights", "menu"] (spU K 5 SP_lawtwoway)) {lv_graphof : Nat} (hl_graphof : lv_graphof ≤ k) (C_graphof : CalG P TB.w K mg base lv_graphof "graph_of" ["acceptor", "machine"] (spU K 2 SP_graphof)) {lv_netof : Nat} (hl_netof : lv_netof ≤ k) (C_netof : CalG P TB.w K mg base lv_netof "net_of" ["graph"] (spU K 1 SP_netof)) {lv_lawsame : Nat} (hl_lawsame : lv_lawsame ≤ k) (C_lawsame : CalG P TB.w K mg base lv_lawsame "_law_same" ["told", "due"] (spU K 2 SP_lawsame)) {lv_lawtape : Nat} (hl_lawtape : lv_lawtape ≤ k) (C_lawtape : Cal P TB.w K mg base lv_lawtape "_law_tape" ["script"] (spTape K))
    (pf : t_law SP_lawsigns SP_lawdraw SP_lawacceptor SP_lawsymbols SP_lawmenu SP_lawtwoway SP_graphof SP_netof SP_lawsame endsLaw (iniLaw 7)) : FnG P TB.w K mg base CX0 (k + 1) e ed ["script"] (spLawT K) := by
  refine okG0 F sc_law ?_ ?_
  · intro vs H Q E h; obtain ⟨a, ns, rfl, _⟩ := h; rfl
  intro f cdv A o s H vs Q E hr gd h
  have nd := sc_law.nd
  have hu1 := My.Room.u65 hr
  have hu := hr.units
  refine law_body (n := 7) (ps_set (i := 1) nd rfl (Or.inl rfl) (pe_cal C_lawtape (hr.mono hl_lawtape) rfl (pa_cons (pv 0) pa_nil))) ?_ rfl pf h
  exact (fss_cons (fs_set (ps_set (i := 2) nd rfl (Or.inl rfl) (fe_call gd C_lawsigns (hr.mono hl_lawsigns) rfl (fa_cons (fe_var (pv 1)) fa_nil))))
    (fss_cons (fs_set (ps_set (i := 3) nd rfl (Or.inl rfl) (fe_call gd C_lawacceptor (hr.mono hl_lawacceptor) rfl (fa_cons (fe_var (pv 1)) (fa_cons (fe_var (pv 2)) (fa_cons (fe_add fe_int (fe_call gd C_lawdraw (hr.mono hl_lawdraw) rfl (fa_cons (fe_var (pv 1)) (fa_cons fe_int fa_nil)))) fa_nil))))))
    (fss_cons (fs_set (ps_set (i := 4) nd rfl (Or.inl rfl) (fe_call gd C_lawmenu (hr.mono hl_lawmenu) rfl (fa_cons (fe_var (pv 1)) (fa_cons (fe_call gd C_lawsymbols (hr.mono hl_lawsymbols) rfl (fa_cons fe_str (fa_cons fe_str fa_nil))) fa_nil)))))
    (fss_cons (fs_set (ps_set (i := 5) nd rfl (Or.inl rfl) (fe_call gd C_lawtwoway (hr.mono hl_lawtwoway) rfl (fa_cons (fe_var (pv 1)) (fa_cons (fe_var (pv 2)) (fa_cons (fe_add fe_int (fe_call gd C_lawdraw (hr.mono hl_lawdraw) rfl (fa_cons (fe_var (pv 1)) (fa_cons fe_int fa_nil)))) (fa_cons (fe_add fe_int (fe_call gd C_lawdraw (hr.mono hl_lawdraw) rfl (fa_cons (fe_var (pv 1)) (fa_cons fe_int fa_nil)))) (fa_cons (fe_var (pv 4)) fa_nil))))))))
    (fss_cons (fs_set (ps_set (i := 6) nd rfl (Or.inl rfl) (fe_call gd C_graphof (hr.mono hl_graphof) rfl (fa_cons (fe_var (pv 3)) (fa_cons (fe_var (pv 5)) fa_nil)))))
    (fss_cons (fs_set (ps_set (i := 7) nd rfl (Or.inl rfl) (fe_but (T := "tuple") bu_tup rfl B.tuple_ (by decide +kernel) (fa_cons (fe_lc (own := [("edge", 8)]) rfl nd (fi_any (fe_bix (fe_var (pv 6)) fe_int (fun _ _ => rfl))) (blkOk_by (N := N_law) (sc := defScope s_law) (by decide +kernel)) (fun _ _ _ _ _ => (fg_name (pg_name (i := 8) nd rfl (Or.inl rfl)))) (fun _ _ _ _ _ => fts_nil) (fun _ _ _ _ _ => (fe_bsl (fe_var (pv 8)) fo_none (fo_some fe_int))) (by decide)) fa_nil))))
    (fss_one (fs_retU (ps_ret (fe_call gd C_lawsame (hr.mono hl_lawsame) rfl (fa_cons (fe_call gd C_netof (hr.mono hl_netof) rfl (fa_cons (fe_var (pv 6)) fa_nil)) (fa_cons (fe_tup (fa_cons (fe_bu (id := "len") bu_len rfl B.len_ PySem.boot_len (fa_cons (fe_bix (fe_var (pv 6)) fe_int (fun _ _ => rfl)) fa_nil)) (fa_cons (fe_but (T := "tuple") bu_tup rfl B.tuple_ (by decide +kernel) (fa_cons (fe_bix (fe_var (pv 6)) fe_int (fun _ _ => rfl)) fa_nil)) (fa_cons (fe_but (T := "tuple") bu_tup rfl B.tuple_ (by decide +kernel) (fa_cons (fe_bix (fe_var (pv 6)) fe_int (fun _ _ => rfl)) fa_nil)) (fa_cons (fe_var (pv 7)) fa_nil))))) fa_nil))))))))))))
end
end My
namespace My
open PySem PySem.Spec PyProof.Rows L2
variable [TB]
def rtU (Dd : EndsD) : D → Prop := fun x => match x with
  | .p d => Dd.rt (.p d)
  | .own ds => Dd.rt (.nw ds)
  | .nw ds => Dd.rt (.nw ds)
  | .ot m => Dd.rt (.p m.dat)
  | .nt m => Dd.rt (.p m.dat)
  | _ => False
def revU (x : D) (Q : D → Prop) : Prop := match x with
  | .p (.tuple ds) => Q (.p (.tuple ds.reverse))
  | x => match x.ls with
    | some ds => ds.length ≤ sizeLine ∧ Q (.nw ds.reverse)
    | _ => False
def joinU (tb : TED) (ρ : Ro) (x : D) (Q : D → Prop) : Prop := match x with
  | .p (.str s) => tb ρ fun y => kJoin s y Q
  | _ => False
def bitsU (x : D) (Q : D → Prop) : Prop := match x with
  | .p (.int i) => Q (.p (.int (Builtin.Int.intBits i : Nat)))
  | _ => False
def rng1U (xs : List D) (Q : List ItD → Prop) : Prop := ∃ j : Int, xs = [.p (.int j)] ∧ -(2 ^ 62) ≤ j ∧ j < 2 ^ 62 ∧ Q (rngD 0 j.toNat)
def rng2U (xs : List D) (Q : List ItD → Prop) : Prop := ∃ i j : Int, xs = [.p (.int i), .p (.int j)] ∧ (-(2 ^ 62) ≤ i ∧ i < 2 ^ 62 ∧ -(2 ^ 62) ≤ j ∧ j < 2 ^ 62) ∧ Q (rngD i (j - i).toNat)
def rng3U (xs : List D) (Q : List ItD → Prop) : Prop := ∃ (i j c : Int) (n : Nat), xs = [.p (.int i), .p (.int j), .p (.int c)] ∧ RgC i j c n ∧ Q (rngC i c n)
theorem rg_1 {j : Int} {Q : List ItD → Prop} : rng1U [.p (.int j)] Q = (-(2 ^ 62) ≤ j ∧ j < 2 ^ 62 ∧ Q (rngD 0 j.toNat)) := propext ⟨fun ⟨_, e, h⟩ => by cases e; exact h, fun h => ⟨j, rfl, h⟩⟩
theorem rg_2 {i j : Int} {Q : List ItD → Prop} : rng2U [.p (.int i), .p (.int j)] Q = ((-(2 ^ 62) ≤ i ∧ i < 2 ^ 62 ∧ -(2 ^ 62) ≤ j ∧ j < 2 ^ 62) ∧ Q (rngD i (j - i).toNat)) := propext ⟨fun ⟨_, _, e, h⟩ => by cases e; exact h, fun h => ⟨i, j, rfl, h⟩⟩
theorem rg_3 {i j c : Int} {Q : List ItD → Prop} : rng3U [.p (.int i), .p (.int j), .p (.int c)] Q = ∃ n, RgC i j c n ∧ Q (rngC i c n) := propext ⟨fun ⟨_, _, _, n, e, h⟩ => by cases e; exact ⟨n, h⟩, fun ⟨n, h⟩ => ⟨i, j, c, n, rfl, h⟩⟩
theorem e1_rng1 {ar : TAD} {ρ : Ro} {Q : List ItD → Prop} : dRng1 ar ρ Q = ar ρ fun xs => rng1U xs Q := rfl
theorem e1_rng2 {ar : TAD} {ρ : Ro} {Q : List ItD → Prop} : dRng2 ar ρ Q = ar ρ fun xs => rng2U xs Q := rfl
theorem e1_rng3 {ar : TAD} {ρ : Ro} {Q : List ItD → Prop} : dRng3 ar ρ Q = ar ρ fun xs => rng3U xs Q := rfl
section
variable {ρ : Ro} {Dd : EndsD} {ta tb : TED} {Q : D → Prop} {i j : Int} {d e : PyData} {ds es : List PyData} {x y : Str} {b neg : Bool} {c : Nat} {xx yy : D} {xs : List D} {lo hi : Option Int} {gg : Int → Int → Int}
  {f1 : D → (D → Prop) → Prop} {f2 : D → D → (D → Prop) → Prop} {aa bb cc dd ee ff gg2 : D}
  {S1 : D → (D → Prop) → Prop} {S2 : D → D → (D → Prop) → Prop} {S3 : D → D → D → (D → Prop) → Prop} {S4 : D → D → D → D → (D → Prop) → Prop} {S5 : D → D → D → D → D → (D → Prop) → Prop} {S6 : D → D → D → D → D → D → (D → Prop) → Prop} {S7 : D → D → D → D → D → D → D → (D → Prop) → Prop}
theorem a_plpl : bAdd (.p (.list ds)) (.p (.list es)) Q = (ds.length + es.length ≤ sizeLine ∧ Q (.nw (ds ++ es))) := rfl
theorem a_plow : bAdd (.p (.list ds)) (.own es) Q = (ds.length + es.length ≤ sizeLine ∧ Q (.nw (ds ++ es))) := rfl
theorem a_plnw : bAdd (.p (.list ds)) (.nw es) Q = (ds.length + es.length ≤ sizeLine ∧ Q (.nw (ds ++ es))) := rfl
theorem m_pli : bMul (.p (.list ds)) (.p (.int j)) Q = ((-(2 ^ 63) ≤ j ∧ j < 2 ^ 63 ∧ ds.length * j.toNat ≤ sizeLine) ∧ Q (.nw (List.replicate j.toNat ds).flatten)) := rfl
theorem x_pli : bIx (.p (.list ds)) (.p (.int j)) Q = ∃ d, atI ds j = some d ∧ Q (.p d) := rfl
theorem sl_pl : bSl (.p (.list ds)) lo hi Q = (ds.length ≤ sizeLine ∧ Q (.nw (cutD ds lo hi))) := rfl
theorem len_pl : kLen (.p (.list ds)) Q = Q (.p (.int ds.length)) := rfl
theorem tup_pl : kTup (.p (.list ds)) Q = Q (.p (.tuple ds)) := rfl
theorem lis_pl : kLis (.p (.list ds)) Q = (ds.length ≤ sizeLine ∧ Q (.nw ds)) := rfl
theorem ix_pl : kIndex (.p (.list ds)) (.p d) Q = ((fl d = true ∧ ds.all fl = true) ∧ ∃ j, ixOf d ds = some j ∧ Q (.p (.int (j : Nat)))) := rfl
theorem in_pl : bInN neg (.p d) (.p (.list ds)) Q = (inOk (.p d) (.p (.list ds)) d ds ∧ Q (.p (.bool (if neg = true then !(ds.any fun z => PyData.eqv z d) else ds.any fun z => PyData.eqv z d)))) := rfl
theorem tru_pl : D.tru (.p (.list ds)) = some (!ds.isEmpty) := rfl
theorem tok_pl : D.tok (.p (.list ds)) = True := rfl
theorem non_pl : D.isNone (.p (.list ds)) = false := rfl
theorem sq_pl : D.sq (.p (.list ds)) = some ds := rfl
theorem ls_pl : D.ls (.p (.list ds)) = some ds := rfl
theorem a_owpl : bAdd (.own ds) (.p (.list es)) Q = (ds.length + es.length ≤ sizeLine ∧ Q (.nw (ds ++ es))) := rfl
theorem a_owow : bAdd (.own ds) (.own es) Q = (ds.length + es.length ≤ sizeLine ∧ Q (.nw (ds ++ es))) := rfl
theorem a_ownw : bAdd (.own ds) (.nw es) Q = (ds.length + es.length ≤ sizeLine ∧ Q (.nw (ds ++ es))) := rfl
theorem m_owi : bMul (.own ds) (.p (.int j)) Q = ((-(2 ^ 63) ≤ j ∧ j < 2 ^ 63 ∧ ds.length * j.toNat ≤ sizeLine) ∧ Q (.nw (List.replicate j.toNat ds).flatten)) := rfl
theorem x_owi : bIx (.own ds) (.p (.int j)) Q = ∃ d, atI ds j = some d ∧ Q (.p d) := rfl
theorem sl_ow : bSl (.own ds) lo hi Q = (ds.length ≤ sizeLine ∧ Q (.nw (cutD ds lo hi))) := rfl
theorem len_ow : kLen (.own ds) Q = Q (.p (.int ds.length)) := rfl
theorem tup_ow : kTup (.own ds) Q = Q (.p (.tuple ds)) := rfl
theorem lis_ow : kLis (.own ds) Q = (ds.length ≤ sizeLine ∧ Q (.nw ds)) := rfl
theorem ix_ow : kIndex (.own ds) (.p d) Q = ((fl d = true ∧ ds.all fl = true) ∧ ∃ j, ixOf d ds = some j ∧ Q (.p (.int (j : Nat)))) := rfl
theorem in_ow : bInN neg (.p d) (.own ds) Q = (inOk (.p d) (.own ds) d ds ∧ Q (.p (.bool (if neg = true then !(ds.any fun z => PyData.eqv z d) else ds.any fun z => PyData.eqv z d)))) := rfl
theorem tru_ow : D.tru (.own ds) = some (!ds.isEmpty) := rfl
theorem tok_ow : D.tok (.own ds) = True := rfl
theorem non_ow : D.isNone (.own ds) = false := rfl
theorem sq_ow : D.sq (.own ds) = some ds := rfl
theorem ls_ow : D.ls (.own ds) = some ds := rfl
theorem a_nwpl : bAdd (.nw ds) (.p (.list es)) Q = (ds.length + es.length ≤ sizeLine ∧ Q (.nw (ds ++ es))) := rfl
theorem a_nwow : bAdd (.nw ds) (.own es) Q = (ds.length + es.length ≤ sizeLine ∧ Q (.nw (ds ++ es))) := rfl
theorem a_nwnw : bAdd (.nw ds) (.nw es) Q = (ds.length + es.length ≤ sizeLine ∧ Q (.nw (ds ++ es))) := rfl
theorem m_nwi : bMul (.nw ds) (.p (.int j)) Q = ((-(2 ^ 63) ≤ j ∧ j < 2 ^ 63 ∧ ds.length * j.toNat ≤ sizeLine) ∧ Q (.nw (List.replicate j.toNat ds).flatten)) := rfl
theorem x_nwi : bIx (.nw ds) (.p (.int j)) Q = ∃ d, atI ds j = some d ∧ Q (.p d) := rfl
theorem sl_nw : bSl (.nw ds) lo hi Q = (ds.length ≤ sizeLine ∧ Q (.nw (cutD ds lo hi))) := rfl
theorem len_nw : kLen (.nw ds) Q = Q (.p (.int ds.length)) := rfl
theorem tup_nw : kTup (.nw ds) Q = Q (.p (.tuple ds)) := rfl
theorem lis_nw : kLis (.nw ds) Q = (ds.length ≤ sizeLine ∧ Q (.nw ds)) := rfl
theorem ix_nw : kIndex (.nw ds) (.p d) Q = ((fl d = true ∧ ds.all fl = true) ∧ ∃ j, ixOf d ds = some j ∧ Q (.p (.int (j : Nat)))) := rfl
theorem in_nw : bInN neg (.p d) (.nw ds) Q = (inOk (.p d) (.nw ds) d ds ∧ Q (.p (.bool (if neg = true then !(ds.any fun z => PyData.eqv z d) else ds.any fun z => PyData.eqv z d)))) := rfl
theorem tru_nw : D.tru (.nw ds) = some (!ds.isEmpty) := rfl
theorem tok_nw : D.tok (.nw ds) = True := rfl
theorem non_nw : D.isNone (.nw ds) = false := rfl
theorem sq_nw : D.sq (.nw ds) = some ds := rfl
theorem ls_nw : D.ls (.nw ds) = some ds := rfl
theorem a_ii : bAdd (.p (.int i)) (.p (.int j)) Q = Q (.p (.int (i + j))) := rfl
theorem a_ss : bAdd (.p (.str x)) (.p (.str y)) Q = (x.length + y.length ≤ sizeLine ∧ Q (.p (.str (x ++ y)))) := rfl
theorem a_tt : bAdd (.p (.tuple ds)) (.p (.tuple es)) Q = (ds.length + es.length ≤ sizeLine ∧ Q (.p (.tuple (ds ++ es)))) := rfl
theorem m_ii : bMul (.p (.int i)) (.p (.int j)) Q = (CMul i j ∧ Q (.p (.int (i * j)))) := rfl
theorem m_ti : bMul (.p (.tuple ds)) (.p (.int j)) Q = ((2 ≤ j ∧ j ≤ 1000 ∧ ds.length ≤ 1000) ∧ Q (.p (.tuple (List.replicate j.toNat ds).flatten))) := rfl
theorem o_bSub : bSub (.p (.int i)) (.p (.int j)) Q = Q (.p (.int (i - j))) := rfl
theorem o_bAnd : bAnd (.p (.int i)) (.p (.int j)) Q = Q (.p (.int (Builtin.bitAnd i j))) := rfl
theorem o_bOr : bOr (.p (.int i)) (.p (.int j)) Q = Q (.p (.int (Builtin.bitOr i j))) := rfl
theorem o_bXor : bXor (.p (.int i)) (.p (.int j)) Q = Q (.p (.int (Builtin.bitXor i j))) := rfl
theorem o_bI0 : bI0 gg (.p (.int i)) (.p (.int j)) Q = Q (.p (.int (gg i j))) := rfl
theorem o_bMod : bMod (.p (.int i)) (.p (.int j)) Q = (0 < j ∧ Q (.p (.int (i % j)))) := rfl
theorem o_bDiv : bDiv (.p (.int i)) (.p (.int j)) Q = (CDiv i j ∧ Q (.p (.int (i / j)))) := rfl
theorem o_bPow : bPow (.p (.int i)) (.p (.int j)) Q = (CPow i j ∧ Q (.p (.int (i ^ j.toNat)))) := rfl
theorem o_bShl : bShl (.p (.int i)) (.p (.int j)) Q = (CShl i j ∧ Q (.p (.int (i * 2 ^ j.toNat)))) := rfl
theorem o_bShr : bShr (.p (.int i)) (.p (.int j)) Q = (0 ≤ j ∧ Q (.p (.int (i / 2 ^ j.toNat)))) := rfl
theorem o_neg : uNeg (.p (.int i)) Q = Q (.p (.int (-i))) := rfl
theorem o_inv : uInv (.p (.int i)) Q = Q (.p (.int (Builtin.bitNot i))) := rfl
theorem q_pp : bEqN neg (.p d) (.p e) Q = (eqOk d e = true ∧ Q (.p (.bool (if neg = true then !PyData.eqv d e else PyData.eqv d e)))) := rfl
theorem q_pow : bEqN neg (.p d) (.own es) Q = (eqOk d (.list es) = true ∧ Q (.p (.bool (if neg = true then !PyData.eqv d (.list es) else PyData.eqv d (.list es))))) := rfl
theorem q_pnw : bEqN neg (.p d) (.nw es) Q = (eqOk d (.list es) = true ∧ Q (.p (.bool (if neg = true then !PyData.eqv d (.list es) else PyData.eqv d (.list es))))) := rfl
theorem rep_p : kRep (.p d) Q = (repOk d ∧ Q (.p (.str (PyData.shown d)))) := rfl
theorem dat_p : D.dat (.p d) = some d := rfl
theorem q_owp : bEqN neg (.own ds) (.p e) Q = (eqOk (.list ds) e = true ∧ Q (.p (.bool (if neg = true then !PyData.eqv (.list ds) e else PyData.eqv (.list ds) e)))) := rfl
theorem q_owow : bEqN neg (.own ds) (.own es) Q = (eqOk (.list ds) (.list es) = true ∧ Q (.p (.bool (if neg = true then !PyData.eqv (.list ds) (.list es) else PyData.eqv (.list ds) (.list es))))) := rfl
theorem q_ownw : bEqN neg (.own ds) (.nw es) Q = (eqOk (.list ds) (.list es) = true ∧ Q (.p (.bool (if neg = true then !PyData.eqv (.list ds) (.list es) else PyData.eqv (.list ds) (.list es))))) := rfl
theorem rep_ow : kRep (.own ds) Q = (repOk (.list ds) ∧ Q (.p (.str (PyData.shown (.list ds))))) := rfl
theorem dat_ow : D.dat (.own ds) = some (.list ds) := rfl
theorem q_nwp : bEqN neg (.nw ds) (.p e) Q = (eqOk (.list ds) e = true ∧ Q (.p (.bool (if neg = true then !PyData.eqv (.list ds) e else PyData.eqv (.list ds) e)))) := rfl
theorem q_nwow : bEqN neg (.nw ds) (.own es) Q = (eqOk (.list ds) (.list es) = true ∧ Q (.p (.bool (if neg = true then !PyData.eqv (.list ds) (.list es) else PyData.eqv (.list ds) (.list es))))) := rfl
theorem q_nwnw : bEqN neg (.nw ds) (.nw es) Q = (eqOk (.list ds) (.list es) = true ∧ Q (.p (.bool (if neg = true then !PyData.eqv (.list ds) (.list es) else PyData.eqv (.list ds) (.list es))))) := rfl
theorem rep_nw : kRep (.nw ds) Q = (repOk (.list ds) ∧ Q (.p (.str (PyData.shown (.list ds))))) := rfl
theorem dat_nw : D.dat (.nw ds) = some (.list ds) := rfl
theorem c_bLti : bLt (.p (.int i)) (.p (.int j)) Q = Q (.p (.bool (decide (i < j)))) := rfl
theorem c_bLts : bLt (.p (.str x)) (.p (.str y)) Q = Q (.p (.bool (decide (x.cps.toList < y.cps.toList)))) := rfl
theorem c_bLei : bLe (.p (.int i)) (.p (.int j)) Q = Q (.p (.bool (decide (i ≤ j)))) := rfl
theorem c_bLes : bLe (.p (.str x)) (.p (.str y)) Q = Q (.p (.bool (!decide (y.cps.toList < x.cps.toList)))) := rfl
theorem c_bGti : bGt (.p (.int i)) (.p (.int j)) Q = Q (.p (.bool (decide (j < i)))) := rfl
theorem c_bGts : bGt (.p (.str x)) (.p (.str y)) Q = Q (.p (.bool (decide (y.cps.toList < x.cps.toList)))) := rfl
theorem c_bGei : bGe (.p (.int i)) (.p (.int j)) Q = Q (.p (.bool (decide (j ≤ i)))) := rfl
theorem c_bGes : bGe (.p (.str x)) (.p (.str y)) Q = Q (.p (.bool (!decide (x.cps.toList < y.cps.toList)))) := rfl
theorem c_bLtt : bLt (.p (.tuple ds)) (.p (.tuple es)) Q = ((PySem.W.alike (.tuple ds) (.tuple es) = true ∧ (PyData.tuple ds).depth ≤ 30 ∧ (PyData.tuple ds).hasDict = false ∧ (PyData.tuple es).hasDict = false) ∧ Q (.p (.bool (PySem.W.dataLt (.tuple ds) (.tuple es))))) := rfl
theorem c_is : bIs xx (.p .none) Q = Q (.p (.bool xx.isNone)) := rfl
theorem c_isnt : bIsnt xx (.p .none) Q = Q (.p (.bool (!xx.isNone))) := rfl
theorem non_none : D.isNone (.p .none) = true := rfl
theorem non_int : D.isNone (.p (.int i)) = false := rfl
theorem non_bool : D.isNone (.p (.bool b)) = false := rfl
theorem non_str : D.isNone (.p (.str x)) = false := rfl
theorem non_tuple : D.isNone (.p (.tuple ds)) = false := rfl
theorem in_s : bInN neg (.p (.str (tx [c]))) (.p (.str x)) Q = Q (.p (.bool (if neg = true then !decide (c ∈ x.cps.toList) else decide (c ∈ x.cps.toList)))) := rfl
theorem in_t : bInN neg (.p d) (.p (.tuple ds)) Q = (inOk (.p d) (.p (.tuple ds)) d ds ∧ Q (.p (.bool (if neg = true then !(ds.any fun z => PyData.eqv z d) else ds.any fun z => PyData.eqv z d)))) := rfl
theorem x_si : bIx (.p (.str x)) (.p (.int j)) Q = (x.length ≤ sizeLine ∧ ∃ c, atI x.cps.toList j = some c ∧ Q (.p (.str ⟨#[c]⟩))) := rfl
theorem x_ti : bIx (.p (.tuple ds)) (.p (.int j)) Q = ∃ d, atI ds j = some d ∧ Q (.p d) := rfl
theorem sl_s : bSl (.p (.str x)) lo hi Q = (x.length ≤ sizeLine ∧ Q (.p (.str (cutS x lo hi)))) := rfl
theorem sl_t : bSl (.p (.tuple ds)) lo hi Q = Q (.p (.tuple (cutD ds lo hi))) := rfl
theorem len_s : kLen (.p (.str x)) Q = (x.length ≤ sizeLine ∧ Q (.p (.int x.length))) := rfl
theorem len_t : kLen (.p (.tuple ds)) Q = Q (.p (.int ds.length)) := rfl
theorem tup_t : kTup (.p (.tuple ds)) Q = Q (.p (.tuple ds)) := rfl
theorem lis_t : kLis (.p (.tuple ds)) Q = (ds.length ≤ sizeLine ∧ Q (.nw ds)) := rfl
theorem int_i : kInt (.p (.int i)) Q = Q (.p (.int i)) := rfl
theorem int_b : kInt (.p (.bool b)) Q = Q (.p (.int (b2d b))) := rfl
theorem abs_i : kAbs (.p (.int i)) Q = Q (.p (.int i.natAbs)) := rfl
theorem max_ii : kMax (.p (.int i)) (.p (.int j)) Q = Q (.p (.int (max i j))) := rfl
theorem min_ii : kMin (.p (.int i)) (.p (.int j)) Q = Q (.p (.int (min i j))) := rfl
theorem ix_t : kIndex (.p (.tuple ds)) (.p (.str x)) Q = ((strsOf ds).isSome = true ∧ ∃ j, ixOf (.str x) ds = some j ∧ Q (.p (.int (j : Nat)))) := rfl
theorem tru_none : D.tru (.p .none) = some false := rfl
theorem tok_none : D.tok (.p .none) = True := rfl
theorem tru_bool : D.tru (.p (.bool b)) = some b := rfl
theorem tok_bool : D.tok (.p (.bool b)) = True := rfl
theorem tru_int : D.tru (.p (.int i)) = some (i != 0) := rfl
theorem tok_int : D.tok (.p (.int i)) = True := rfl
theorem tru_str : D.tru (.p (.str x)) = some (((x.length : Nat) : Int) != 0) := rfl
theorem tok_str : D.tok (.p (.str x)) = (x.length ≤ sizeLine) := rfl
theorem tru_tuple : D.tru (.p (.tuple ds)) = some (!ds.isEmpty) := rfl
theorem tok_tuple : D.tok (.p (.tuple ds)) = True := rfl
theorem sq_t : D.sq (.p (.tuple ds)) = some ds := rfl
theorem st_p : D.st (.p d) = some d := rfl
theorem st_nw : D.st (.nw ds) = some (.list ds) := rfl
theorem ag_0 : argAll [] = some [] := rfl
theorem vw_0 : viewAll [] = some [] := rfl
theorem vw_p : viewAll ((.p d) :: xs) = (viewAll xs).map (D.p d :: ·) := by simp only [viewAll, D.view]; cases viewAll xs <;> rfl
theorem vw_n : viewAll ((.nw ds) :: xs) = (viewAll xs).map (D.p (.list ds) :: ·) := by simp only [viewAll, D.view]; cases viewAll xs <;> rfl
theorem vw_o : viewAll ((.own ds) :: xs) = (viewAll xs).map (D.p (.list ds) :: ·) := by simp only [viewAll, D.view]; cases viewAll xs <;> rfl
theorem vw_t : viewAll (.tape :: xs) = (viewAll xs).map (D.tape :: ·) := by simp only [viewAll, D.view]; cases viewAll xs <;> rfl
theorem ag_p : argAll (.p d :: xs) = (argAll xs).map (D.p d :: ·) := by simp only [argAll, D.arg]; cases argAll xs <;> rfl
theorem ag_n : argAll (.nw ds :: xs) = (argAll xs).map (D.p (.list ds) :: ·) := by simp only [argAll, D.arg]; cases argAll xs <;> rfl
theorem ag_t : argAll (.tape :: xs) = (argAll xs).map (D.tape :: ·) := by simp only [argAll, D.arg]; cases argAll xs <;> rfl
theorem sa_0 : stAll [] = some [] := rfl
theorem sa_p : stAll (.p d :: xs) = (stAll xs).map (d :: ·) := by simp only [stAll, D.st]; cases stAll xs <;> rfl
theorem sa_n : stAll (.nw ds :: xs) = (stAll xs).map (PyData.list ds :: ·) := by simp only [stAll, D.st]; cases stAll xs <;> rfl
theorem sa_map (xs : List PyData) : stAll (xs.map D.p) = some xs := by
  induction xs with
  | nil => rfl
  | cons a r ih => rw [List.map_cons, sa_p, ih]; rfl
theorem it_138 : itOf (.p (.tuple ds)) = some (ds.map ItD.one) := rfl
theorem it_139 : itOf (.p (.list ds)) = some (ds.map ItD.one) := rfl
theorem it_140 : itOf (.nw ds) = some (ds.map ItD.one) := rfl
theorem it_141 : itOf (.p (.str x)) = some (chD x) := rfl
theorem en_142 : enOf [.p (.tuple ds)] = some (enD ds) := rfl
theorem en_143 : enOf [.p (.list ds)] = some (enD ds) := rfl
theorem en_144 : enOf [.nw ds] = some (enD ds) := rfl
theorem en_145 : enOf [.p (.str x)] = some (enD (chs x)) := rfl
theorem rv_146 : rvOf (.p (.tuple ds)) = some ds := rfl
theorem rv_147 : rvOf (.p (.list ds)) = some ds := rfl
theorem rv_148 : rvOf (.nw ds) = some ds := rfl
theorem zp_149 : zipOf [(.p (.list ds)), (.p (.list es))] = some (zipD ds es) := rfl
theorem zp_150 : zipOf [(.p (.list ds)), (.nw es)] = some (zipD ds es) := rfl
theorem zp_151 : zipOf [(.nw ds), (.p (.list es))] = some (zipD ds es) := rfl
theorem zp_152 : zipOf [(.nw ds), (.nw es)] = some (zipD ds es) := rfl
theorem zp_t : zipOf [.p (.tuple ds), .p (.tuple es)] = some (zipD ds es) := rfl
theorem c1_ : c1 f1 [xx] Q = f1 xx Q := rfl
theorem c2_ : c2 f2 [xx, yy] Q = f2 xx yy Q := rfl
theorem s1_ : s1 S1 [aa] Q = S1 aa Q := rfl
theorem s2_ : s2 S2 [aa, bb] Q = S2 aa bb Q := rfl
theorem s3_ : s3 S3 [aa, bb, cc] Q = S3 aa bb cc Q := rfl
theorem s4_ : s4 S4 [aa, bb, cc, dd] Q = S4 aa bb cc dd Q := rfl
theorem s5_ : s5 S5 [aa, bb, cc, dd, ee] Q = S5 aa bb cc dd ee Q := rfl
theorem s6_ : s6 S6 [aa, bb, cc, dd, ee, ff] Q = S6 aa bb cc dd ee ff Q := rfl
theorem s7_ : s7 S7 [aa, bb, cc, dd, ee, ff, gg2] Q = S7 aa bb cc dd ee ff gg2 Q := rfl
theorem dr_ : S_draw .tape (.p (.int i)) Q = (i < 100000000 ∧ ∀ v : Nat, (v : Int) < max i 1 → Q (.p (.int (v : Nat)))) := by
  unfold S_draw
  apply propext
  constructor
  · rintro ⟨_, n, e, h⟩; cases e; exact h
  · intro h; exact ⟨rfl, i, rfl, h⟩
theorem rt_p : rtU Dd (.p d) = Dd.rt (.p d) := rfl
theorem rt_ow : rtU Dd (.own ds) = Dd.rt (.nw ds) := rfl
theorem rt_nw : rtU Dd (.nw ds) = Dd.rt (.nw ds) := rfl
theorem e1_ret : dRetU ta Dd ρ = ta ρ (rtU Dd) := rfl
theorem rv_t : revU (.p (.tuple ds)) Q = Q (.p (.tuple ds.reverse)) := rfl
theorem rv_pl : revU (.p (.list ds)) Q = (ds.length ≤ sizeLine ∧ Q (.nw ds.reverse)) := rfl
theorem rv_ow : revU (.own ds) Q = (ds.length ≤ sizeLine ∧ Q (.nw ds.reverse)) := rfl
theorem rv_nw : revU (.nw ds) Q = (ds.length ≤ sizeLine ∧ Q (.nw ds.reverse)) := rfl
theorem e1_revU : dRevU ta ρ Q = ta ρ fun x => revU x Q := rfl
theorem jo_s : joinU tb ρ (.p (.str x)) Q = tb ρ fun y => kJoin x y Q := rfl
theorem e1_join : dJoin ta tb ρ Q = ta ρ fun x => joinU tb ρ x Q := rfl
theorem bi_i : bitsU (.p (.int i)) Q = Q (.p (.int (Builtin.Int.intBits i : Nat))) := rfl
theorem e1_bits : dBits ta ρ Q = ta ρ fun x => bitsU x Q := rfl
end
theorem szl {n : Nat} (h : n ≤ 1000000) : n ≤ sizeLine := by rw [sizeLine_eq]; omega
end My
namespace My
open PySem PySem.Spec PyProof.Rows L2
variable [TB]
section
variable {ρ : Ro} {Dd : EndsD} {t u : TSD} {ta tb tc : TED} {tt tt' : TTD} {ar : TAD} {Q : D → Prop} {i j n k : Nat} {d e : PyData} {x y : D} {ds : List PyData} {m : M}
theorem e_lcT {ti : TID} {g : TGD} {vs : List Nat} : dLcT ti g tt ta vs ρ Q = ti ρ fun items => lcM (fun x K => elM g tt ta x (dWipe ρ vs) K) items [] fun acc => Q (.nt (.lst acc)) := rfl
theorem e_elM {g : TGD} {z : ItD} {K : Option M → Prop} : elM g tt ta z ρ K = g z ρ fun ρ2 => tt ρ2 fun b => if b = true then ta ρ2 fun y => ∃ m, y.mt = some m ∧ K (some m) else K none := rfl
theorem e_setT : dSetT i ta Dd ρ = ta ρ fun x => ∃ m, x.mt = some m ∧ Dd.nx (ρ.set i (some (.ot m))) := rfl
theorem e_fzT : dFzT i t Dd ρ = ∃ m, ρ[i]? = some (some (.ot m)) ∧ t Dd (ρ.set i (some (.p m.dat))) := rfl
theorem e_ali : dAli i j n k ta t Dd ρ = ∃ ms ns, ρ[i]? = some (some (.ot (.lst ms))) ∧ i ≠ j ∧ j < ρ.length ∧ ms[n]? = some (.lst ns) ∧ ta (ρ.set j none) fun x => ∃ d d0, x.st = some d ∧ ns[k]? = some (.leaf d0) ∧
  t Dd ((ρ.set j none).set i (some (.ot (.lst (ms.set n (.lst (ns.set k (.leaf d)))))))) := rfl
theorem mt_p : (D.p d).mt = some (.leaf d) := rfl
theorem mt_nw : (D.nw ds).mt = some (.lst (ds.map .leaf)) := rfl
theorem mt_nt : (D.nt m).mt = some m := rfl
theorem dats_leaf : ∀ ds : List PyData, M.dats (ds.map .leaf) = ds
  | [] => rfl
  | d :: ds => by rw [List.map_cons, M.dats, dats_leaf ds]; rfl
theorem dat_lst {ms : List M} : (M.lst ms).dat = .list (M.dats ms) := by rw [M.dat]
/-- a comprehension into lists, item by item -/
theorem lcM_of {α : Type} {el : ItD → (Option M → Prop) → Prop} {Q : List M → Prop} {l : List α} {g : α → ItD} (f : α → M) (h : ∀ a ∈ l, ∀ K : Option M → Prop, K (some (f a)) → el (g a) K) (hz : l.length ≤ sizeLine) (q : Q (l.map f)) : lcM el (l.map g) [] Q := by
  have go : ∀ (l : List α) (acc : List M), (∀ a ∈ l, ∀ K : Option M → Prop, K (some (f a)) → el (g a) K) → acc.length + l.length ≤ sizeLine → Q (acc ++ l.map f) → lcM el (l.map g) acc Q := by
    intro l
    induction l with
    | nil => intro acc _ _ q; simpa [lcM] using q
    | cons a l ih =>
      intro acc h hz q
      rw [List.map_cons]
      unfold lcM
      refine h a List.mem_cons_self _ ⟨by simp at hz; omega, ih _ (fun b hb => h b (List.mem_cons_of_mem _ hb)) (by simp at hz ⊢; omega) (by simpa using q)⟩
  exact go l [] h (by simpa using hz) (by simpa using q)
end
end My
namespace My
open PySem PySem.Spec PyProof.Rows L2
variable [TB]
section
variable {ρ : Ro} {Dd : EndsD} {t u : TSD} {ta tb tc : TED} {ts : TAD} {Q : D → Prop} {i j n k : Nat} {d e : PyData} {x y : D} {ks ds : List PyData} {ms : List M} {ps : List (PyData × PyData)} {neg : Bool}
theorem e_dGet : dGet ta ts ρ Q = ta ρ fun x => x.dks.isSome = true ∧ ts ρ fun xs => match x.dks, xs with
  | some (ks, ms), [.p d] => uniB ks d = true ∧ kAt ks ms d .none Q
  | some (ks, ms), [.p d, z] => uniB ks d = true ∧ ∃ e0, z.st = some e0 ∧ kAt ks ms d e0 Q
  | _, _ => False := rfl
theorem dks_ot : (D.ot (.dic ks ms)).dks = some (ks, ms) := rfl
theorem dks_nt : (D.nt (.dic ks ms)).dks = some (ks, ms) := rfl
theorem dks_p : (D.p (.dict ps)).dks = some (ps.map (·.1), ps.map fun q => .leaf q.2) := rfl
theorem in_ot : bInD neg (.p d) (.ot (.dic ks ms)) Q = (uniB ks d = true ∧ Q (.p (.bool (if neg = true then !(kIx ks d).isSome else (kIx ks d).isSome)))) := rfl
theorem in_pd : bInD neg (.p d) (.p (.dict ps)) Q = (uniB (ps.map (·.1)) d = true ∧ Q (.p (.bool (if neg = true then !(kIx (ps.map (·.1)) d).isSome else (kIx (ps.map (·.1)) d).isSome)))) := rfl
theorem dx_ot : bDx (.ot (.dic ks ms)) (.p d) Q = (uniB ks d = true ∧ ∃ j e, kIx ks d = some j ∧ ms[j]? = some (.leaf e) ∧ Q (.p e)) := rfl
theorem dict_t : kDict (.p (.tuple ds)) Q = match pairsOf ds with
  | some ps => (ps.map (·.1)).Nodup ∧ Q (.nt (.dic (ps.map fun p => keyD p.1) (ps.map fun p => .leaf p.2)))
  | _ => False := rfl
theorem e_dNewD : dNewD ρ Q = Q (.nt (.dic [] [])) := rfl
theorem e_disp1 : dDisp1 ta tb ρ Q = ta ρ fun y => ∃ k, y = .p (keyD k) ∧ tb ρ fun z => ∃ e, z.st = some e ∧ Q (.nt (dicA [(k, e)])) := rfl
theorem e_dc {ti : TID} {g : TGD} {tt : TTD} {vs : List Nat} : dDc ti g tt ta tb vs ρ Q = ti ρ fun items => lcD (fun x K => elD g tt ta tb x (dWipe ρ vs) K) items [] fun acc => Q (.nt (dicA acc)) := rfl
theorem e_elD {g : TGD} {tt : TTD} {x : ItD} {K : Option (Key × PyData) → Prop} : elD g tt ta tb x ρ K = g x ρ fun ρ2 => tt ρ2 fun b => if b = true then ta ρ2 fun y => ∃ k, y = .p (keyD k) ∧ tb ρ2 fun z => ∃ e, z.st = some e ∧ K (some (k, e)) else K none := rfl
theorem e_setD : dSetD i ta tb Dd ρ = ∃ ks ms, ρ[i]? = some (some (.ot (.dic ks ms))) ∧ tb ρ fun x => ∃ e, x.st = some e ∧ ta ρ fun y => ∃ d, y = .p d ∧ uniB ks d = true ∧ ms.length < sizeLine ∧ (∀ j, kIx ks d = some j → ∃ e0, ms[j]? = some (.leaf e0)) ∧ Dd.nx (ρ.set i (some (.ot (putM ks ms d e)))) := rfl
end
end My
namespace My
open PySem PySem.Spec PyProof.Rows L2
variable [TB]
section
variable {ρ : Ro} {Dd : EndsD} {c : CT} {ta : TAD} {Q : D → Prop} {i n L : Nat} {x : D} {xs : List D} {ds : List PyData} {en : EnL} {r : LamR} {rs : List LamR} {K : CT → EnL → Prop} {dd : List PyData} {S : CT → SpD}
theorem e_callF : dCallF c i ta ρ Q = ∃ f I g, ρ[i]? = some (some (.fv f I)) ∧ c.ct f I g ∧ ta ρ fun xs => ∃ ds, stAll xs = some ds ∧ g ds fun d => Q (.p d) := rfl
theorem stA_nil : stAll [] = some [] := rfl
theorem stA_p {d : PyData} : stAll (.p d :: xs) = (stAll xs).map (d :: ·) := by
  show (match (some d : Option PyData), stAll xs with | some d, some ds => some (d :: ds) | _, _ => none) = _
  cases stAll xs <;> rfl
variable [FR]
theorem e_mk : dMk L ρ Q = ∀ f c', Q (.fv f ⟨[(f, FR.fm L c')], []⟩) := rfl
theorem e_mkS : dMkS i L Dd ρ = ∀ f c', Dd.nx (ρ.set i (some (.fv f ⟨[(f, FR.fm L c')], []⟩))) := rfl
theorem e_callC : dCallC n rs dd S ta ρ Q = ta ρ fun xs => regs rs ctNone [] ρ xs fun c en => ∃ ys, argAllE en xs = some ys ∧ (ys ++ dd.map D.p).length = n ∧ S c (ys ++ dd.map D.p) Q := rfl
end
end My
namespace My
open PySem PySem.Spec PyProof.Rows L2
variable [TB]
section
variable {ρ : Ro} {Q : D → Prop} {ti : TID} {g : TGD} {tt : TTD} {vs : List Nat} {tr : TCD} {te : TED} {acc : List PyData} {K : List PyData → Prop} {x : ItD}
theorem e_lcN : dLcN ti g tt vs tr ρ Q = ti ρ fun items => lcF (fun x acc K => elC g tt vs tr x (dWipe ρ vs) acc K) items [] fun acc => Q (.nw acc) := rfl
theorem e_elC : elC g tt vs tr x ρ acc K = g x ρ fun ρ2 => tt ρ2 fun b => if b = true then tr ρ2 acc K else K acc := rfl
theorem e_clNil : dClNil te ρ acc K = te ρ fun x => ∃ d, x.st = some d ∧ acc.length < sizeLine ∧ K (acc ++ [d]) := rfl
theorem e_clCons : dClCons ti g tt vs tr ρ acc K = ti ρ fun items => lcF (fun x acc K => elC g tt vs tr x (dWipe ρ vs) acc K) items acc K := rfl
end
end My
namespace My
open PySem PySem.Spec PyProof.Rows L2
variable [TB]
section
variable {ρ : Ro} {Q : D → Prop} {i j n r : Nat} {ti te : TED} {Dd : EndsD} {tl : TLD} {tm : TMD} {t u : TSD} {S : SpMD} {ds es : List PyData} {p : Addr} {k : Int} {xs : List D} {ms : List M} {Qm : D → Ro → Prop} {QM : D → List M → Prop} {QL : List AD → Prop} {KL : List D → Prop} {KR : Ro → Prop} {as : List AD} {x y : D} {m : M} {d : PyData}
theorem x_bor : bIx (.bor p (.lst (ds.map M.leaf))) (.p (.int k)) Q = ∃ d, atI ds k = some d ∧ Q (.p d) := by
  show (match D.sq (.bor p (.lst (ds.map M.leaf))) with | some ds => ∃ d, atI ds k = some d ∧ Q (.p d) | _ => False) = _
  unfold D.sq
  simp only [dats_leaf]
theorem len_bor : kLen (.bor p (.lst (ds.map M.leaf))) Q = Q (.p (.int ds.length)) := by
  show Q (.p (.int (M.dats (ds.map M.leaf)).length)) = _
  rw [dats_leaf]
theorem e_setIxB : dSetIxB i ti te Dd ρ = ∃ p ms, ρ[i]? = some (some (.bor p (.lst ms))) ∧ te ρ fun x => ∃ d, x.st = some d ∧ ti ρ fun y => ∃ k j, y = .p (.int k) ∧ ixN (M.dats ms).length k = some j ∧ Dd.nx (ρ.set i (some (.bor p (.lst (((M.dats ms).set j d).map M.leaf))))) := rfl
theorem e_endM : (endsM r xs QM).nx ρ = ∃ d ms, ρ[r]? = some (some (.p d)) ∧ outs xs ρ ms ∧ QM (.p d) ms := rfl
theorem o_nil : outs [] ρ ms = (ms = []) := by cases ρ <;> rfl
theorem o_bor {m' : M} : outs (.bor p m :: xs) (some (.bor p m') :: ρ) ms = ∃ ms', ms = m' :: ms' ∧ outs xs ρ ms' := by
  refine propext ⟨?_, fun ⟨ms', h1, h2⟩ => ⟨m', ms', ρ, rfl, h1, h2⟩⟩
  rintro ⟨m2, ms', ρ', h1, h2, h3⟩
  cases h1
  exact ⟨ms', h2, h3⟩
theorem o_p {z : Option D} : outs (.p d :: xs) (z :: ρ) ms = outs xs ρ ms := by
  refine propext ⟨?_, fun h => ⟨z, ρ, rfl, h⟩⟩
  rintro ⟨y, ρ', h1, h2⟩
  cases h1
  exact h2
theorem o_tape {z : Option D} : outs (.tape :: xs) (z :: ρ) ms = outs xs ρ ms := by
  refine propext ⟨?_, fun h => ⟨z, ρ, rfl, h⟩⟩
  rintro ⟨y, ρ', h1, h2⟩
  cases h1
  exact h2
theorem e_callM : dCallM n S tl ρ Qm = tl ρ fun as => as.length = n ∧ (slotsOf as).Nodup ∧ lendK as ρ fun xs => S xs fun x ms => backK as ms ρ fun ρ' => Qm x ρ' := rfl
theorem e_lN : dLN ρ QL = QL [] := rfl
theorem e_lV : dLV te tl ρ QL = te ρ fun x => ∃ y, x.arg = some y ∧ tl ρ fun as => QL (.v y :: as) := rfl
theorem e_lS : dLS j tl ρ QL = ((∃ ds, ρ[j]? = some (some (.own ds))) ∧ tl ρ fun as => QL (.s j :: as)) := rfl
theorem e_lT : dLT te ρ QL = te ρ fun x => ∃ ds, x = .nw ds ∧ QL [.t ds] := rfl
theorem w_nil : slotsOf [] = [] := rfl
theorem w_s : slotsOf (.s j :: as) = j :: slotsOf as := rfl
theorem w_v : slotsOf (.v x :: as) = slotsOf as := rfl
theorem w_t : slotsOf (.t ds :: as) = slotsOf as := rfl
theorem le_nil : lendK [] ρ KL = KL [] := rfl
theorem le_v : lendK (.v y :: as) ρ KL = lendK as ρ fun xs => KL (y :: xs) := rfl
theorem le_s : lendK (.s j :: as) ρ KL = ∃ ds, ρ[j]? = some (some (.own ds)) ∧ ∀ p, lendK as ρ fun xs => KL (.bor p (.lst (ds.map M.leaf)) :: xs) := rfl
theorem le_t : lendK (.t ds :: as) ρ KL = ∀ p, lendK as ρ fun xs => KL (.bor p (.lst (ds.map M.leaf)) :: xs) := rfl
theorem ba_nil : backK [] ms ρ KR = KR ρ := by cases ms <;> rfl
theorem ba_v : backK (.v y :: as) ms ρ KR = backK as ms ρ KR := by cases ms <;> rfl
theorem ba_t : backK (.t ds :: as) (m :: ms) ρ KR = backK as ms ρ KR := rfl
theorem ba_s : backK (.s j :: as) (.lst (es.map M.leaf) :: ms) ρ KR = (es.length ≤ sizeLine ∧ backK as ms (ρ.set j (some (.own es))) KR) := by
  refine propext ⟨?_, fun h => ⟨es, rfl, h⟩⟩
  rintro ⟨es', e, h⟩
  have : es' = es := by
    have := congrArg (fun m => match m with | M.lst ms => M.dats ms | _ => []) e
    simp only [dats_leaf] at this
    exact this.symm
  rw [← this]; exact h
theorem e_ifM : dIfM tm t u Dd ρ = tm ρ fun x ρ' => ∃ b, x = .p (.bool b) ∧ if b = true then t Dd ρ' else u Dd ρ' := rfl
theorem ex2 {α β : Type} {a : α} {b : β} {P : α → β → Prop} : (∃ p ms, (a = p ∧ b = ms) ∧ P p ms) = P a b := propext ⟨fun ⟨_, _, ⟨e1, e2⟩, h⟩ => by subst e1 e2; exact h, fun h => ⟨a, b, ⟨rfl, rfl⟩, h⟩⟩
theorem arg_p : D.arg (.p d) = some (.p d) := rfl
theorem arg_nw : D.arg (.nw ds) = some (.p (.list ds)) := rfl
theorem arg_tape : D.arg .tape = some .tape := rfl
theorem nd_one : List.Nodup [j] = True := by simp
theorem nd_zero : List.Nodup ([] : List Nat) = True := by simp
theorem m3_ {S : D → D → D → (D → List M → Prop) → Prop} {a b c : D} : m3 S [a, b, c] QM = S a b c QM := rfl
theorem m4_ {S : D → D → D → D → (D → List M → Prop) → Prop} {a b c d : D} : m4 S [a, b, c, d] QM = S a b c d QM := rfl
theorem m5_ {S : D → D → D → D → D → (D → List M → Prop) → Prop} {a b c d e : D} : m5 S [a, b, c, d, e] QM = S a b c d e QM := rfl
theorem m6_ {S : D → D → D → D → D → D → (D → List M → Prop) → Prop} {a b c d e f : D} : m6 S [a, b, c, d, e, f] QM = S a b c d e f QM := rfl
end
end My
namespace My
open PySem PySem.Spec PyProof.Rows L2
variable [TB]
section
variable {ρ : Ro} {Q : D → Prop} {n : Nat} {ar : TAD} {te : TED} {S : SpD} {ds : List PyData} {x : D} {xs ys : List D} {bs : List Bool}
theorem e_callK : dCallK n S ar te ρ Q = ar ρ fun xs => te ρ fun y => xs.length = n ∧ ∃ ys, argAll (xs ++ [y]) = some ys ∧ S ys Q := rfl
theorem e_rev2 : dRev2 te ρ Q = te ρ fun x => match x.ls with | some ds => ds.length ≤ sizeLine ∧ Q (.nw (ds.take (ds.length - 1)).reverse) | _ => False := rfl
theorem any_nw : kAny (.nw (bs.map PyData.bool)) Q = Q (.p (.bool (bs.any id))) := by
  unfold kAny
  simp only [ls_nw, boolsOf_map]
theorem all_nw : kAll (.nw (bs.map PyData.bool)) Q = Q (.p (.bool (bs.all id))) := by
  unfold kAll
  simp only [ls_nw, boolsOf_map]
end
end My
namespace My
open PySem PySem.Spec PyProof.Rows L2
variable [TB]
section
variable {i ja jb : Nat} {ta : TAD} {Dd : EndsD} {ρ : Ro} {g : TGD}
theorem e_appP1 : dAppP1 i ja ta Dd ρ = ∃ (ms : List M) (a : Nat) (ls : List M), ρ[i]? = some (some (.ot (.lst ms))) ∧ ρ[ja]? = some (some (.p (.int (a : Nat)))) ∧ ms[a]? = some (.lst ls) ∧
  ta ρ fun xs => ∃ x d, xs = [x] ∧ x.st = some d ∧ ls.length < sizeLine ∧ Dd.nx (ρ.set i (some (.ot (.lst (ms.set a (.lst (ls ++ [.leaf d]))))))) := rfl
theorem e_appP2 : dAppP2 i ja jb ta Dd ρ = ∃ (ms : List M) (a : Nat) (ls : List M) (b : Nat) (ks : List M), ρ[i]? = some (some (.ot (.lst ms))) ∧ ρ[ja]? = some (some (.p (.int (a : Nat)))) ∧ ms[a]? = some (.lst ls) ∧ ρ[jb]? = some (some (.p (.int (b : Nat)))) ∧ ls[b]? = some (.lst ks) ∧
  ta ρ fun xs => ∃ x d, xs = [x] ∧ x.st = some d ∧ ks.length < sizeLine ∧ Dd.nx (ρ.set i (some (.ot (.lst (ms.set a (.lst (ls.set b (.lst (ks ++ [.leaf d]))))))))) := rfl
theorem e_popG : dPopG i g Dd ρ = ∃ ds d, ρ[i]? = some (some (.own (ds ++ [d]))) ∧ g (.one d) (ρ.set i (some (.own ds))) Dd.nx := rfl
end
section
variable {xs : List D} {d : PyData} {ds : List PyData}
theorem vW_0 : vwAll [] = some [] := rfl
theorem vW_p : vwAll ((.p d) :: xs) = (vwAll xs).map (D.p d :: ·) := by simp only [vwAll, D.vw, D.view]; cases vwAll xs <;> rfl
theorem vW_n : vwAll ((.nw ds) :: xs) = (vwAll xs).map (D.p (.list ds) :: ·) := by simp only [vwAll, D.vw, D.view]; cases vwAll xs <;> rfl
theorem vW_o : vwAll ((.own ds) :: xs) = (vwAll xs).map (D.p (.list ds) :: ·) := by simp only [vwAll, D.vw, D.view]; cases vwAll xs <;> rfl
theorem vW_t : vwAll (.tape :: xs) = (vwAll xs).map (D.tape :: ·) := by simp only [vwAll, D.vw, D.view]; cases vwAll xs <;> rfl
end
end My
namespace My
open PySem PySem.Spec PyProof.Rows L2
variable [TB]
section
variable {ρ : Ro} {Q : D → Prop} {ti : TID} {g : TGD} {tt : TTD} {vs : List Nat} {ta tb : TED} {x : ItD} {K : Option (PyData × PyData) → Prop} {ks : List PyData} {ms : List M} {nss : List (List Int)}
theorem e_dk : dDk ti g tt ta tb vs ρ Q = ti ρ fun items => lcK (fun x K => elK g tt ta tb x (dWipe ρ vs) K) items ([], []) fun acc => Q (.nt (dicP acc)) := rfl
theorem e_elK : elK g tt ta tb x ρ K = g x ρ fun ρ2 => tt ρ2 fun b => if b = true then ta ρ2 fun y => ∃ k, y = .p k ∧ tb ρ2 fun z => ∃ e, z.st = some e ∧ K (some (k, e)) else K none := rfl
theorem srt_ot : kSrtT (.ot (.dic ks ms)) Q = match rowsOf ks with
    | some nss => (∀ ns ∈ nss, ns ≠ []) ∧ nss.length ≤ sizeLine ∧ ∀ nss' : List (List Int), nss'.Perm nss → nss'.Pairwise (fun x y => HT.lexLt y x = false) → Q (.nw (nss'.map rowI))
    | none => False := rfl
theorem e_forO {i : Nat} {tb : TSD} {Dd : EndsD} : dForO i g tb Dd ρ = ∃ ds, ρ[i]? = some (some (.own ds)) ∧ ∀ p, forB i p ds g tb Dd ds (ρ.set i (some (.bor p (leaves ds)))) := rfl
theorem e_lendT {i : Nat} {u : TSD} {Dd : EndsD} : dLendT i u Dd ρ = ∃ ks es : List PyData, ρ[i]? = some (some (.ot (.dic ks (es.map .leaf)))) ∧ ∀ p, u Dd (ρ.set i (some (.bor p (.dic ks (es.map .leaf))))) := rfl
theorem e_setDB {i : Nat} {Dd : EndsD} : dSetDB i ta tb Dd ρ = ∃ p ks ms, ρ[i]? = some (some (.bor p (.dic ks ms))) ∧ tb ρ fun x => ∃ e, x.st = some e ∧ ta ρ fun y => ∃ d, y = .p d ∧ uniB ks d = true ∧ ms.length < sizeLine ∧ (∀ j, kIx ks d = some j → ∃ e0, ms[j]? = some (.leaf e0)) ∧ Dd.nx (ρ.set i (some (.bor p (putM ks ms d e)))) := rfl
theorem e_extM {i : Nat} {tm : TMD} {Dd : EndsD} : dExtM i tm Dd ρ = ((∃ ds, ρ[i]? = some (some (.own ds))) ∧ tm ρ fun x ρ' => ∃ ds es : List PyData, ρ'[i]? = some (some (.own ds)) ∧ x = .p (.list es) ∧ ds.length + es.length ≤ sizeLine ∧ Dd.nx (ρ'.set i (some (.own (ds ++ es))))) := rfl
theorem e_callB {n : Nat} {S : SpMD} {tl : TLB} {Qm : D → Ro → Prop} : dCallB n S tl ρ Qm = tl ρ fun xs j p m => xs.length + 1 = n ∧ S (xs ++ [.bor p m]) fun x ms => ∃ m', ms = [m'] ∧ Qm x (ρ.set j (some (.bor p m'))) := rfl
theorem e_bL {j : Nat} {Qb : List D → Nat → Addr → M → Prop} : dBL j ρ Qb = ∃ p m, ρ[j]? = some (some (.bor p m)) ∧ Qb [] j p m := rfl
theorem e_bV {tr : TLB} {Qb : List D → Nat → Addr → M → Prop} : dBV ta tr ρ Qb = ta ρ fun x => ∃ y, x.arg = some y ∧ tr ρ fun xs j p m => Qb (y :: xs) j p m := rfl
theorem dks_bor {p : Addr} : (D.bor p (.dic ks ms)).dks = some (ks, ms) := rfl
theorem in_bor {p : Addr} {neg : Bool} {d : PyData} : bInD neg (.p d) (.bor p (.dic ks ms)) Q = (uniB ks d = true ∧ Q (.p (.bool (if neg = true then !(kIx ks d).isSome else (kIx ks d).isSome)))) := rfl
theorem srt_ds {ps : List (PyData × PyData)} : kSrtDS (.p (.dict ps)) Q = match strsOf (ps.map (·.1)) with
    | some xs => xs.length ≤ sizeLine ∧ ∀ ys : List Str, ys.Perm xs → sortedS ys = true → Q (.nw (ys.map PyData.str))
    | none => False := rfl
end
end My
namespace My
open PySem PySem.Spec PyProof.Rows L2
variable [TB]
def Let (y : List Nat) : Prop := y.Sublist lows ∧ 1 ≤ y.length ∧ y.length ≤ 3
def Own (z : List Nat) : Prop := z.Sublist caps ∧ 1 ≤ z.length ∧ z.length ≤ 3
theorem lit_lows : ("abcdefghijklmnopqrstuvwxyz" : Str) = tx lows := by decide +kernel
theorem lit_caps : ("ABCDEFGHIJKLMNOPQRSTUVWXYZ" : Str) = tx caps := by decide +kernel
theorem lit_at : ("@" : Str) = tx [64] := by decide +kernel
abbrev symD (q : Nat × Nat) : PyData := .str (syp q)
def seqD (qs : List (Nat × Nat)) : PyData := .tuple (qs.map symD)
/-- holders and letters -/
def prs (hs ls : List Nat) : List (Nat × Nat) := hs.flatMap fun h => ls.map fun l => (h, l)
theorem mem_prs {hs ls : List Nat} {q : Nat × Nat} : q ∈ prs hs ls ↔ q.1 ∈ hs ∧ q.2 ∈ ls := by
  unfold prs
  rw [List.mem_flatMap]
  constructor
  · rintro ⟨h, hh, hq⟩
    obtain ⟨l, hl, rfl⟩ := List.mem_map.mp hq
    exact ⟨hh, hl⟩
  · rintro ⟨h1, h2⟩
    exact ⟨q.1, h1, List.mem_map.mpr ⟨q.2, h2, rfl⟩⟩
theorem prs_len (hs ls : List Nat) : (prs hs ls).length = hs.length * ls.length := by
  unfold prs
  induction hs with
  | nil => simp
  | cons h hs ih => rw [List.flatMap_cons, List.length_append, List.length_map, ih, List.length_cons, Nat.succ_mul, Nat.add_comm]
theorem prs_snoc (hs ls : List Nat) (h : Nat) : prs (hs ++ [h]) ls = prs hs ls ++ ls.map fun l => (h, l) := by
  unfold prs
  rw [List.flatMap_append]
  simp
theorem Let.sy {y : List Nat} (h : Let y) : ∀ l ∈ y, 97 ≤ l ∧ l ≤ 122 := fun l hl => by
  exact (by decide : ∀ l ∈ lows, 97 ≤ l ∧ l ≤ 122) l (h.1.subset hl)
theorem Own.sy {z : List Nat} (h : Own z) : ∀ l ∈ z, 65 ≤ l ∧ l ≤ 90 := fun l hl => by
  exact (by decide : ∀ l ∈ caps, 65 ≤ l ∧ l ≤ 90) l (h.1.subset hl)
/-- a drawn place in a list -/
theorem get_lt {α : Type} {l : List α} {v : Nat} (h : v < l.length) : l[v]? = some l[v] := List.getElem?_eq_getElem h
theorem syp_tx (q : Nat × Nat) : syp q = tx [q.1, q.2] := rfl
end My
namespace My
open PySem PySem.Spec PyProof.Rows L2
variable [TB]
theorem pickN (ns : List Nat) {v : Nat} (h : v < ns.length) : ∃ n, n ∈ ns ∧ atI (ns.map fun n => PyData.int (n : Nat)) (v : Int) = some (.int (n : Nat)) :=
  ⟨ns[v], List.getElem_mem h, by rw [atI_cast, List.getElem?_map, get_lt h]; rfl⟩
end My
namespace My
open PySem PySem.Spec PyProof.Rows L2
variable [TB]
theorem lcW_sub {el : ItD → (Option PyData → Prop) → Prop} {ds : List PyData} {Q : List PyData → Prop} (h : ∀ d ∈ ds, ∀ K : Option PyData → Prop, K none → K (some d) → el (.one d) K) (hz : ds.length ≤ sizeLine) (q : ∀ es, es.Sublist ds → Q es) : lcW el (ds.map .one) [] Q := by
  refine lcW_inv (fun i acc => acc.Sublist (ds.take i)) (by simp) (fun i x acc K hx hs hn hk => ?_) (by simpa using hz) (fun acc hs => ?_)
  · obtain ⟨d, hd, rfl⟩ := ones_get hx
    have hi := (List.getElem?_eq_some_iff.mp hd).1
    have e : ds.take (i + 1) = ds.take i ++ [d] := by
      rw [List.take_succ_eq_append_getElem hi]
      have := (List.getElem?_eq_some_iff.mp hd).2
      rw [this]
    refine h d (List.mem_of_getElem? hd) K (hn ?_) (hk d ?_)
    · rw [e]; exact hs.trans (List.sublist_append_left _ _)
    · rw [e]; exact hs.append (List.Sublist.refl _)
  · rw [List.length_map, List.take_length] at hs
    exact q acc hs
abbrev chr1 (c : Nat) : PyData := .str (tx [c])
end My
namespace My
open PySem PySem.Spec PyProof.Rows L2
variable [TB]
abbrev natD (m : Nat) : PyData := .int (m : Nat)
end My
namespace My
open PySem PySem.Spec PyProof.Rows L2
variable [TB]
theorem map_inj {α β : Type} {f : α → β} (h : ∀ a b, f a = f b → a = b) : ∀ {l m : List α}, l.map f = m.map f → l = m
  | [], [], _ => rfl
  | [], _ :: _, e => by simp at e
  | _ :: _, [], e => by simp at e
  | a :: l, b :: m, e => by
    simp only [List.map_cons, List.cons.injEq] at e
    rw [h a b e.1, map_inj h e.2]
theorem natD_inj {a b : Nat} (h : natD a = natD b) : a = b := by
  injection h with h
  omega
theorem symD_inj {a b : Nat × Nat} (h : symD a = symD b) : a = b := by
  injection h with h
  have := tx_inj.mp h
  simp at this
  exact Prod.ext this.1 this.2
theorem maps_nat {l m : List Nat} : (l.map natD = m.map natD) = (l = m) := propext ⟨map_inj fun _ _ => natD_inj, fun h => by rw [h]⟩
theorem maps_sym {l m : List (Nat × Nat)} : (l.map symD = m.map symD) = (l = m) := propext ⟨map_inj fun _ _ => symD_inj, fun h => by rw [h]⟩
theorem cast_inj {a b : Nat} : ((a : Int) = (b : Int)) = (a = b) := propext ⟨fun h => by omega, fun h => by rw [h]⟩
/-- the union of the masks at the places of e -/
def UnB (e : Nat) (ms : List Nat) (r : Nat) : Prop := ∀ j, (r.testBit j = true ↔ ∃ m f, e.testBit m = true ∧ ms[m]? = some f ∧ f.testBit j = true)
end My
namespace My
open PySem PySem.Spec PyProof.Rows L2
variable [TB]
theorem UnB.zero (ks : List Nat) : UnB 0 ks 0 := fun j => by
  rw [Nat.zero_testBit]
  refine ⟨fun h => (by cases h), ?_⟩
  rintro ⟨m, f, a, _⟩
  rw [Nat.zero_testBit] at a
  cases a
end My
namespace My
open PySem PySem.Spec PyProof.Rows L2
variable [TB]
theorem lcW_of {α : Type} {el : ItD → (Option PyData → Prop) → Prop} {Q : List PyData → Prop} {l : List α} {g : α → PyData} (f : α → PyData) (h : ∀ a ∈ l, ∀ K : Option PyData → Prop, K (some (f a)) → el (.one (g a)) K) (hz : l.length ≤ sizeLine) (q : Q (l.map f)) : lcW el ((l.map g).map ItD.one) [] Q := by
  refine lcW_inv (fun i acc => acc = (l.take i).map f) (by simp) (fun i x acc K hx ha _ hk => ?_) (by simpa using hz) (fun acc ha => ?_)
  · rw [List.map_map, List.getElem?_map] at hx
    cases e : l[i]? with
    | none => rw [e] at hx; cases hx
    | some a =>
      rw [e] at hx
      cases hx
      have hi := (List.getElem?_eq_some_iff.mp e)
      refine h a (List.mem_of_getElem? e) K (hk _ ?_)
      rw [ha, List.take_succ_eq_append_getElem hi.1, List.map_append, hi.2]
      rfl
  · rw [List.length_map, List.length_map, List.take_length] at ha
    rw [ha]; exact q
end My
namespace My
open PySem PySem.Spec PyProof.Rows L2
variable [TB]
structure Rl where
  b : Pat
  c : Bool
  hs : List Nat
  ls : List Nat
  a : Pat
  o : List Nat
def Rl.d (r : Rl) : PyData := .tuple [r.b.d, clsD r.c (tx r.hs) (tx r.ls), r.a.d, .str (tx r.o)]
def Rl.Ok (r : Rl) (m : Nat) : Prop := (r.b.Ok ∧ r.b.n ≤ 18) ∧ (r.a.Ok ∧ r.a.n ≤ 18) ∧ Cl (tx r.hs) (tx r.ls) ∧ r.o.length ≤ m ∧ m ≤ 3 ∧ ∀ c ∈ r.o, c < 128
/-- a stage: few rules -/
def Stg (st : List Rl) (m : Nat) : Prop := st ≠ [] ∧ st.length ≤ 3 ∧ ∀ r ∈ st, r.Ok m
def outq (o : List Nat) (q : Nat × Nat) : List (Nat × Nat) := o.map fun c => if c = 36 then q else (64, c)
def outAt (st : List Rl) (q : Nat × Nat) : Option Nat → List (Nat × Nat)
  | none => []
  | some i => match st[i]? with
    | some r => outq r.o q
    | none => []
def putK (st : List Rl) (qs : List (Nat × Nat)) (fs : List (Option Nat)) (k : Nat) : List ((Nat × Nat) × Nat) := (outAt st (qs.getD k (0, 0)) (fs.getD k none)).map fun s => (s, k)
end My
namespace My
open PySem PySem.Spec PyProof.Rows L2
variable [TB]
def Sm (q : Nat × Nat) : Prop := q.1 < 128 ∧ q.2 < 128
theorem Sy.sm {q : Nat × Nat} (h : Sy q) : Sm q := by
  rcases h with ⟨h1 | h1, h2⟩ <;> constructor <;> omega
theorem repOk_of {d : PyData} {dp bk : Nat} (h : Sh d dp bk) (h1 : dp ≤ 40 := by decide) (h2 : bk ≤ 1000000 := by omega) : repOk d := ⟨h.s, h.n, Nat.le_trans h.p h1, h.fits h2⟩
theorem sh_sym {q : Nat × Nat} (h : Sm q) : Sh (symD q) 0 2 := by
  have : Sg (syp q) := by
    intro c hc
    rw [syp_tx, tx_list] at hc
    simp only [List.mem_cons, List.not_mem_nil, or_false] at hc
    rcases hc with rfl | rfl
    · exact h.1
    · exact h.2
  exact Sh.str this
theorem sh_nat {k : Nat} (h : k ≤ 100000) : Sh (natD k) 0 0 := Sh.int (by show (k : Int).natAbs < 10 ^ 12; omega)
end My
namespace My
open PySem PySem.Spec PyProof.Rows L2
variable [TB]
theorem sym_all {y z : List Nat} (hy : Let y) (hz : Own z) : ∀ q ∈ prs (64 :: z) y, Sy q := fun q hq => by
  obtain ⟨h1, h2⟩ := mem_prs.mp hq
  refine ⟨?_, hy.sy _ h2⟩
  rcases List.mem_cons.mp h1 with h | h
  · exact .inl h
  · exact .inr (hz.sy _ h)
theorem prs_ne {y z : List Nat} (hy : Let y) : prs (64 :: z) y ≠ [] := by
  intro h
  have h := congrArg List.length h
  rw [prs_len, List.length_cons, List.length_nil] at h
  have := hy.2.1
  have := Nat.mul_pos (Nat.succ_pos z.length) this
  rw [Nat.succ_eq_add_one] at this
  omega
end My
namespace My
open PySem PySem.Spec PyProof.Rows L2
variable [TB]
theorem Rl.Ok.mono {r : Rl} {m n : Nat} (h : r.Ok m) (hm : m ≤ n) (hn : n ≤ 3) : r.Ok n := ⟨h.1, h.2.1, h.2.2.1, Nat.le_trans h.2.2.2.1 hm, hn, h.2.2.2.2.2⟩
theorem Stg.mono {st : List Rl} {m n : Nat} (h : Stg st m) (hm : m ≤ n) (hn : n ≤ 3) : Stg st n := ⟨h.1, h.2.1, fun r hr => (h.2.2 r hr).mono hm hn⟩
end My
namespace My
open PySem PySem.Spec PyProof.Rows L2
variable [TB]
/-- a pipeline, and how long a document may be -/
def PipN (pl : List (List Rl)) (n : Nat) : Prop := pl.length ≤ 3 ∧ ∃ k, (∀ i st, pl[i]? = some st → Stg st (if i = k then 3 else 1)) ∧ (if k < pl.length then 3 * n else n) ≤ 100
theorem PipN.mono {pl : List (List Rl)} {n m : Nat} (h : PipN pl n) (hm : m ≤ n) : PipN pl m := by
  obtain ⟨h1, k, h2, h3⟩ := h
  refine ⟨h1, k, h2, ?_⟩
  split at h3
  · rename_i e; rw [if_pos e]; omega
  · rename_i e; rw [if_neg e]; omega
end My
namespace My
open PySem PySem.Spec PyProof.Rows L2
variable [TB]
theorem inOk_n {y : D} (l : List Nat) (k : Nat) : inOk (.p (natD k)) y (natD k) (l.map natD) := by
  refine .inl ⟨rfl, rfl, ?_⟩
  rw [List.all_eq_true]
  intro x hx
  obtain ⟨q, _, rfl⟩ := List.mem_map.mp hx
  rfl
end My
namespace My
open PySem PySem.Spec PyProof.Rows L2
variable [TB]
abbrev Ed := Nat × (Nat × Nat) × Nat
structure Net where
  c : Nat
  st : List Nat
  en : List Nat
  ed : List Ed
def edD (e : Ed) : PyData := .tuple [natD e.1, symD e.2.1, natD e.2.2]
def Net.d (n : Net) : PyData := .tuple [natD n.c, .tuple (n.st.map natD), .tuple (n.en.map natD), .tuple (n.ed.map edD)]
structure Net.Ok (n : Net) : Prop where
  c : n.c ≤ 6
  st : ∀ k ∈ n.st, k < n.c
  en : ∀ k ∈ n.en, k < n.c
  ed : ∀ e ∈ n.ed, e.1 < n.c ∧ e.2.2 < n.c
  len : n.st.length ≤ 6 ∧ n.en.length ≤ 6 ∧ n.ed.length ≤ 108
/-- deep data that _law_same takes -/
def smD : Nat → PyData → Bool
  | 0, _ => false
  | _ + 1, .none => true
  | _ + 1, .int _ => true
  | _ + 1, .str _ => true
  | _ + 1, .bool _ => true
  | m + 1, .tuple ds => ds.all (smD m) && decide (ds.length ≤ 1000000)
  | _ + 1, _ => false
/-- by an invariant, and what was walked -/
theorem forW_pre2 {α : Type} {f : α → ItD} {g : TGD} {tb : TSD} {Dd : EndsD} {l : List α} {ρ : Ro} (P : List α → Ro → Prop) (h0 : P [] ρ)
    (hs : ∀ pre x post ρ (K : Ro → Prop), l = pre ++ x :: post → P pre ρ → (∀ ρ', P (pre ++ [x]) ρ' → K ρ') → g (f x) ρ fun ρ2 => tb { Dd with nx := K, ct := K, bk := Dd.nx } ρ2)
    (hd : ∀ ρ, P l ρ → Dd.nx ρ) : forW g tb Dd (l.map f) ρ := by
  refine forW_inv (fun i ρ => P (l.take i) ρ) (by simpa using h0) ?_ ?_
  · intro i x ρ K hx p hK
    rw [List.getElem?_map] at hx
    cases e : l[i]? with
    | none => rw [e] at hx; cases hx
    | some a =>
      rw [e] at hx
      cases hx
      have hi := List.getElem?_eq_some_iff.mp e
      have e1 : l.take (i + 1) = l.take i ++ [a] := by rw [List.take_succ, e]; rfl
      refine hs (l.take i) a (l.drop (i + 1)) ρ K ?_ p fun ρ' p' => hK ρ' (by rw [e1]; exact p')
      rw [← hi.2, ← List.drop_eq_getElem_cons hi.1, List.take_append_drop]
  · intro ρ p
    rw [List.length_map, List.take_length] at p
    exact hd ρ p
theorem rng_map (n : Nat) : rngD 0 n = (List.range n).map fun i => ItD.one (natD i) := by
  unfold rngD
  refine List.map_congr_left fun i _ => ?_
  rw [Int.zero_add]
theorem items_map {α : Type} (f : α → PyData) (l : List α) : (l.map f).map ItD.one = l.map fun a => ItD.one (f a) := by rw [List.map_map]; rfl
end My
namespace My
open PySem PySem.Spec PyProof.Rows L2
variable [TB]
abbrev SyN := Nat × Nat
def rwT (r : List Nat) : PyData := .tuple (r.map natD)
def tabD (t : List (List Nat)) : PyData := .tuple (t.map rwT)
structure TabOk (m L : Nat) (t : List (List Nat)) : Prop where
  len : t.length = L
  row : ∀ r ∈ t, r.length = m ∧ ∀ a ∈ r, a < L
def stq (t : List (List Nat)) (a i : Nat) : Nat := (t.getD a []).getD i 0
def stt (t : List (List Nat)) (a : Nat) (is : List Nat) : Nat := is.foldl (stq t) a
def sts (t : List (List Nat)) (a : Nat) (is : List Nat) : List Nat := (List.range (is.length + 1)).map fun k => stt t a (is.take k)
theorem getD_of {α : Type} {l : List α} {i : Nat} {d : α} (h : i < l.length) : l.getD i d = l[i] := by
  rw [List.getD_eq_getElem?_getD, List.getElem?_eq_getElem h]; rfl
theorem getD_mem {α : Type} {l : List α} {i : Nat} {d : α} (h : i < l.length) : l.getD i d ∈ l := by
  rw [getD_of h]; exact List.getElem_mem h
theorem map_at {α : Type} {f : α → PyData} {l : List α} {i : Nat} (d : α) (h : i < l.length) : atI (l.map f) (i : Int) = some (f (l.getD i d)) := by
  rw [atI_cast, List.getElem?_map, List.getElem?_eq_getElem h, getD_of h]; rfl
theorem TabOk.at {m L a : Nat} {t : List (List Nat)} (h : TabOk m L t) (ha : a < L) : (t.getD a []).length = m ∧ ∀ x ∈ t.getD a [], x < L := h.row _ (getD_mem (by rw [h.len]; exact ha))
theorem TabOk.stq {m L a i : Nat} {t : List (List Nat)} (h : TabOk m L t) (ha : a < L) (hi : i < m) : My.stq t a i < L := (h.at ha).2 _ (getD_mem (by rw [(h.at ha).1]; exact hi))
theorem TabOk.stt {m L : Nat} {t : List (List Nat)} (h : TabOk m L t) : ∀ {is : List Nat} {a : Nat}, a < L → (∀ i ∈ is, i < m) → My.stt t a is < L
  | [], a, ha, _ => ha
  | i :: is, a, ha, hi => TabOk.stt h (is := is) (a := My.stq t a i) (h.stq ha (hi i List.mem_cons_self)) fun j hj => hi j (List.mem_cons_of_mem _ hj)
theorem stt_snoc (t : List (List Nat)) (a : Nat) (is : List Nat) (i : Nat) : stt t a (is ++ [i]) = stq t (stt t a is) i := by
  unfold stt; rw [List.foldl_append]; rfl
/-- the place of a symbol -/
def ix (rs : List SyN) (q : SyN) : Nat := (ixOf (symD q) (rs.map symD)).getD 0
theorem ix_of {q : SyN} : ∀ {rs : List SyN}, q ∈ rs → ixOf (symD q) (rs.map symD) = some (ix rs q) ∧ ix rs q < rs.length := by
  intro rs h
  have : ∃ j, ixOf (symD q) (rs.map symD) = some j ∧ j < rs.length := by
    induction rs with
    | nil => cases h
    | cons r rs ih =>
      rw [List.map_cons]
      unfold ixOf
      by_cases e : PyData.eqv (symD r) (symD q) = true
      · rw [if_pos e]; exact ⟨0, rfl, by simp⟩
      · rw [if_neg e]
        rcases List.mem_cons.mp h with h | h
        · subst h
          exact (e (by show PyData.eqv (.str _) (.str _) = true; simp [PyData.eqv])).elim
        · obtain ⟨j, h1, h2⟩ := ih h
          exact ⟨j + 1, by rw [h1]; rfl, by simp; omega⟩
  obtain ⟨j, h1, h2⟩ := this
  unfold ix
  rw [h1]
  exact ⟨rfl, h2⟩
def inx (rs qs : List SyN) : List Nat := qs.map (ix rs)
theorem inx_lt {rs qs : List SyN} (h : ∀ q ∈ qs, q ∈ rs) : ∀ i ∈ inx rs qs, i < rs.length := fun i hi => by
  obtain ⟨q, hq, rfl⟩ := List.mem_map.mp hi
  exact (ix_of (h q hq)).2
def cellD (c : List (List SyN)) : PyData := .tuple (c.map seqD)
def outD (o : List (List (List SyN))) : PyData := .tuple (o.map cellD)
structure Two where
  rs : List SyN
  lf : List (List Nat)
  rt : List (List Nat)
  ou : List (List (List (List SyN)))
def Two.d (M : Two) : PyData := .tuple [seqD M.rs, tabD M.lf, tabD M.rt, .tuple (M.ou.map outD)]
def CelOk (c : List SyN) : Prop := c.length ≤ 27 ∧ ∀ q ∈ c, Sm q
def OutOk (m R : Nat) (o : List (List (List SyN))) : Prop := o.length = m ∧ ∀ c ∈ o, c.length = R ∧ ∀ s ∈ c, CelOk s
structure Two.Ok (M : Two) (L R : Nat) : Prop where
  rs : M.rs ≠ [] ∧ M.rs.length ≤ 12 ∧ ∀ q ∈ M.rs, Sm q
  b : 1 ≤ L ∧ L ≤ 40 ∧ 1 ≤ R ∧ R ≤ 40
  lf : TabOk M.rs.length L M.lf
  rt : TabOk M.rs.length R M.rt
  ou : M.ou.length = L ∧ ∀ o ∈ M.ou, OutOk M.rs.length R o
def Two.at (M : Two) (a i b : Nat) : List SyN := ((M.ou.getD a []).getD i []).getD b []
theorem Two.Ok.at {M : Two} {L R a i b : Nat} (h : M.Ok L R) (ha : a < L) (hi : i < M.rs.length) (hb : b < R) : CelOk (M.at a i b) := by
  have h1 := h.ou.2 _ (getD_mem (d := []) (by rw [h.ou.1]; exact ha))
  have h2 := h1.2 _ (getD_mem (d := []) (by rw [h1.1]; exact hi))
  exact h2.2 _ (getD_mem (by rw [h2.1]; exact hb))
/-- what is put out for the k-th symbol -/
def Two.out (M : Two) (qs : List SyN) (k : Nat) : List SyN := M.at (stt M.lf 0 ((inx M.rs qs).take k)) (ix M.rs (qs.getD k (0, 0))) (stt M.rt 0 ((inx M.rs qs).reverse.take (qs.length - 1 - k)))
theorem inx_take {rs qs : List SyN} (h : ∀ q ∈ qs, q ∈ rs) (k : Nat) : ∀ i ∈ (inx rs qs).take k, i < rs.length := fun i hi => inx_lt h i (List.mem_of_mem_take hi)
theorem inx_takeR {rs qs : List SyN} (h : ∀ q ∈ qs, q ∈ rs) (k : Nat) : ∀ i ∈ (inx rs qs).reverse.take k, i < rs.length := fun i hi => inx_lt h i (by simpa using List.mem_of_mem_take hi)
theorem Two.Ok.out {M : Two} {L R k : Nat} {qs : List SyN} (h : M.Ok L R) (hq : ∀ q ∈ qs, q ∈ M.rs) (hk : k < qs.length) : CelOk (M.out qs k) :=
  h.at (h.lf.stt h.b.1 (inx_take hq k)) (ix_of (hq _ (getD_mem hk))).2 (h.rt.stt h.b.2.2.1 (inx_takeR hq _))
/-- a comprehension whose items are drawn -/
theorem lcW_all {α : Type} {el : ItD → (Option PyData → Prop) → Prop} {Q : List PyData → Prop} {n : Nat} (f : α → PyData) (P : α → Prop) (hz : n ≤ sizeLine) (h : ∀ i, i < n → ∀ K : Option PyData → Prop, (∀ a, P a → K (some (f a))) → el (.one (.int (i : Nat))) K)
    (q : ∀ xs : List α, xs.length = n → (∀ a ∈ xs, P a) → Q (xs.map f)) : lcW el (rngD 0 n) [] Q := by
  refine lcW_inv (fun i acc => ∃ xs : List α, acc = xs.map f ∧ xs.length = i ∧ ∀ a ∈ xs, P a) ⟨[], rfl, rfl, fun a ha => by cases ha⟩ (fun i x acc K hx ha _ hk => ?_) (by rw [rngD_len]; exact hz) (fun acc ha => ?_)
  · obtain ⟨hi, rfl⟩ := rngD_get hx
    obtain ⟨xs, rfl, h1, h2⟩ := ha
    rw [Int.zero_add]
    exact h i hi K fun a ha => hk _ ⟨xs ++ [a], by simp, by simp [h1], fun b hb => by
      rcases List.mem_append.mp hb with hb | hb
      · exact h2 b hb
      · rw [List.mem_singleton.mp hb]; exact ha⟩
  · obtain ⟨xs, rfl, h1, h2⟩ := ha
    rw [rngD_len] at h1
    exact q xs h1 h2
/-- a comprehension on what was made before -/
theorem lcW_ofA {α : Type} {el : ItD → (Option PyData → Prop) → Prop} {Q : List PyData → Prop} {g : α → ItD} (f : α → PyData) : ∀ {l : List α} {acc : List PyData}, (∀ a ∈ l, ∀ K : Option PyData → Prop, K (some (f a)) → el (g a) K) → acc.length + l.length ≤ sizeLine → Q (acc ++ l.map f) → lcW el (l.map g) acc Q
  | [], acc, _, _, q => by simpa [lcW] using q
  | a :: l, acc, h, hz, q => by
    rw [List.map_cons]
    unfold lcW
    simp at hz
    exact h a List.mem_cons_self _ ⟨by omega, lcW_ofA f (fun b hb => h b (List.mem_cons_of_mem _ hb)) (by simp; omega) (by simpa using q)⟩
theorem lcF_of {α : Type} {el : ItD → List PyData → (List PyData → Prop) → Prop} {Q : List PyData → Prop} {g : α → ItD} (f : α → List PyData) (b : Nat) : ∀ {l : List α} {acc : List PyData}, (∀ a ∈ l, (f a).length ≤ b ∧ ∀ (acc : List PyData) (K : List PyData → Prop), acc.length + (f a).length ≤ sizeLine → K (acc ++ f a) → el (g a) acc K) → acc.length + b * l.length ≤ sizeLine → Q (acc ++ l.flatMap f) → lcF el (l.map g) acc Q
  | [], acc, _, _, q => by simpa [lcF] using q
  | a :: l, acc, h, hz, q => by
    rw [List.map_cons]
    unfold lcF
    have h0 := h a List.mem_cons_self
    rw [List.length_cons, Nat.mul_succ] at hz
    exact h0.2 _ _ (by have := h0.1; omega) (lcF_of f b (fun c hc => h c (List.mem_cons_of_mem _ hc)) (by rw [List.length_append]; have := h0.1; omega) (by simpa using q))
end My
namespace My
open PySem PySem.Spec PyProof.Rows L2
variable [TB]
def prcD (p : Nat × Int) : PyData := .tuple [chr1 p.1, .int p.2]
inductive Pol where
  | sum (pr : List (Nat × Int)) (b : Int)
  | share (hs : List Nat) (p q : Int)
def Pol.d : Pol → PyData
  | .sum pr b => .tuple [.str "sum", .tuple (pr.map prcD), .int b]
  | .share hs p q => .tuple [.str "share", .str (tx hs), .int p, .int q]
structure PrOk (pr : List (Nat × Int)) : Prop where
  nd : (pr.map (·.1)).Nodup
  len : pr.length ≤ 27
  low : ∀ p ∈ pr, p.1 < 128
def Pol.Ok : Pol → Prop
  | .sum pr _ => PrOk pr
  | .share hs p q => hs.length ≤ 100 ∧ 0 ≤ p ∧ p ≤ 1000 ∧ 1 ≤ q ∧ q ≤ 1000
/-- what a holder's symbols are worth -/
def lk (pr : List (Nat × Int)) (h : Nat) : Int := ((pr.filter fun p => decide (p.1 = h)).map (·.2)).sum
def Pol.w : Pol → (Nat × Nat) → Int
  | .sum pr _, s => lk pr s.1
  | .share hs p q, s => if s.1 ∈ hs then q - p else -p
def wt (pol : Pol) (qs : List (Nat × Nat)) : Int := (qs.map pol.w).sum
end My
namespace My
open PySem PySem.Spec PyProof.Rows L2
variable [TB]
theorem len_sub : ∀ {l m : List Nat}, l.Nodup → (∀ a ∈ l, a ∈ m) → l.length ≤ m.length
  | [], _, _, _ => Nat.zero_le _
  | a :: l, m, nd, h => by
    obtain ⟨n1, n2⟩ := List.nodup_cons.mp nd
    have ha := h a List.mem_cons_self
    have := len_sub (m := m.erase a) n2 fun b hb => (List.mem_erase_of_ne (fun (e : b = a) => n1 (by rw [← e]; exact hb))).mpr (h b (List.mem_cons_of_mem _ hb))
    rw [List.length_erase_of_mem ha] at this
    have := List.length_pos_of_mem ha
    rw [List.length_cons]
    omega
inductive Pl where
  | w (pol : Pol)
  | m (p : Pat)
def Pl.d : Pl → PyData
  | .w pol => pol.d
  | .m p => .tuple [.str "matches", p.d]
def Pl.Ok : Pl → Prop
  | .w pol => pol.Ok
  | .m p => p.Ok ∧ p.n ≤ 20
end My
namespace My
open PySem PySem.Spec PyProof.Rows L2
variable [TB]
inductive Rch (S : List Nat) (ps : List (Nat × Nat)) : Nat → Prop
  | base {x : Nat} : x ∈ S → Rch S ps x
  | step {a b : Nat} : Rch S ps a → (a, b) ∈ ps → Rch S ps b
/-- a set that holds the first ones and is closed holds all -/
theorem Rch.sub {S T : List Nat} {ps : List (Nat × Nat)} (h1 : ∀ x ∈ S, x ∈ T) (h2 : ∀ a b, (a, b) ∈ ps → a ∈ T → b ∈ T) {x : Nat} (h : Rch S ps x) : x ∈ T := by
  induction h with
  | base h => exact h1 _ h
  | step _ e ih => exact h2 _ _ e ih
theorem canon_nat (a : Nat) : canon (natD a) = some (.num (a : Int)) := by
  show canon (.int (a : Int)) = _
  rw [canon]
end My
namespace My
open PySem PySem.Spec PyProof.Rows L2
variable [TB]
theorem len_in {T : List Nat} {c : Nat} (h1 : T.Nodup) (h2 : ∀ x ∈ T, x < c) : T.length ≤ c := by
  have := len_sub h1 (m := List.range c) fun a ha => List.mem_range.mpr (h2 a ha)
  rwa [List.length_range] at this
end My
namespace My
open PySem PySem.Spec PyProof.Rows L2
section
variable {α : Type} [DecidableEq α]
def insG (T : List α) (k : α) : List α := if k ∈ T then T else T ++ [k]
theorem mem_insG {T : List α} {k x : α} : x ∈ insG T k ↔ x ∈ T ∨ x = k := by
  unfold insG
  split
  · rename_i h
    exact ⟨.inl, fun z => z.elim id fun e => e ▸ h⟩
  · rw [List.mem_append, List.mem_singleton]
theorem nd_insG {T : List α} {k : α} (h : T.Nodup) : (insG T k).Nodup := by
  unfold insG
  split
  · exact h
  · rename_i n
    exact List.nodup_append.mpr ⟨h, by simp, fun a ha b hb e => n (by rw [List.mem_singleton.mp hb] at e; rw [← e]; exact ha)⟩
/-- grows at its end -/
theorem foldG : ∀ (l T : List α), T.Nodup → (l.foldl insG T).Nodup ∧ (∀ x, x ∈ l.foldl insG T ↔ x ∈ T ∨ x ∈ l) ∧ ∃ E, l.foldl insG T = T ++ E
  | [], T, h => ⟨h, fun x => by simp, [], by simp⟩
  | a :: l, T, h => by
    obtain ⟨h1, h2, E, h3⟩ := foldG l (insG T a) (nd_insG h)
    refine ⟨h1, fun x => ?_, ?_⟩
    · rw [List.foldl_cons, h2, mem_insG, List.mem_cons, or_assoc]
    · rw [List.foldl_cons, h3]
      unfold insG
      split
      · exact ⟨E, rfl⟩
      · exact ⟨a :: E, by simp⟩
theorem nd_sub : ∀ {l m : List α}, l.Nodup → (∀ a ∈ l, a ∈ m) → l.length ≤ m.length
  | [], m, _, _ => Nat.zero_le _
  | a :: l, m, nd, h => by
    rw [List.nodup_cons] at nd
    have hm := h a List.mem_cons_self
    have := nd_sub (l := l) (m := m.erase a) nd.2 fun b hb => by
      have ne : b ≠ a := fun e => nd.1 (by rw [← e]; exact hb)
      rw [List.mem_erase_of_ne ne]
      exact h b (List.mem_cons_of_mem _ hb)
    rw [List.length_erase_of_mem hm] at this
    have hp : 0 < m.length := List.length_pos_of_mem hm
    rw [List.length_cons]
    omega
/-- states as keys -/
structure KeyE (enc : α → PyData) : Prop where
  inj : ∀ a b, canon (enc a) = canon (enc b) → a = b
  one : ∃ s, s ≠ 0 ∧ ∀ a, dsort (enc a) = s
variable {enc : α → PyData}
theorem KeyE.uni (h : KeyE enc) (S : List α) (x : α) : uniB (S.map enc) (enc x) = true := by
  obtain ⟨s, h1, h2⟩ := h.one
  unfold uniB
  rw [Bool.and_eq_true]
  refine ⟨by rw [h2]; simpa using h1, ?_⟩
  rw [List.all_eq_true]
  intro d hd
  obtain ⟨k, _, rfl⟩ := List.mem_map.mp hd
  rw [h2, h2]
  simp
theorem KeyE.ix (h : KeyE enc) : ∀ (S : List α) (x : α), kIx (S.map enc) (enc x) = if x ∈ S then some (S.idxOf x) else none
  | [], x => by simp [kIx]
  | k :: S, x => by
    rw [List.map_cons]
    unfold kIx
    by_cases e : k = x
    · subst e
      rw [if_pos rfl, if_pos List.mem_cons_self, List.idxOf_cons_self]
    · rw [if_neg (fun z => e (h.inj _ _ z)), KeyE.ix h S x]
      by_cases hm : x ∈ S
      · rw [if_pos hm, if_pos (List.mem_cons_of_mem _ hm), List.idxOf_cons, show (k == x) = false from by simpa using e]; rfl
      · rw [if_neg hm, if_neg (fun z => (List.mem_cons.mp z).elim (fun q => e q.symm) hm)]; rfl
theorem KeyE.has (h : KeyE enc) (S : List α) (x : α) : (kIx (S.map enc) (enc x)).isSome = decide (x ∈ S) := by
  rw [h.ix]
  split
  · rename_i q; rw [decide_eq_true q]; rfl
  · rename_i q; rw [decide_eq_false q]; rfl
theorem idx_app {S E : List α} {x : α} (h : x ∈ S) : (S ++ E).idxOf x = S.idxOf x := by
  rw [List.idxOf_append, if_pos h]
theorem idxG {S : List α} (h : S.Nodup) {i : Nat} (hi : i < S.length) : S.idxOf S[i] = i := by
  exact h.idxOf_getElem i hi
/-- the numbers of the states, as a dict's entries -/
def numM (enc : α → PyData) (S : List α) : M := .dic (S.map enc) ((List.range S.length).map fun i => .leaf (natD i))
theorem put_num (h : KeyE enc) {S : List α} {x : α} (n : x ∉ S) : putM (S.map enc) ((List.range S.length).map fun i => .leaf (natD i)) (enc x) (natD S.length) = numM enc (S ++ [x]) := by
  unfold putM
  rw [h.ix, if_neg n]
  show M.dic _ _ = numM _ _
  unfold numM
  rw [List.map_append, List.length_append, List.length_singleton, List.range_succ, List.map_append]; rfl
inductive Rea (nx : α → List α) (s0 : α) : α → Prop
  | base : Rea nx s0 s0
  | step {a b : α} : Rea nx s0 a → b ∈ nx a → Rea nx s0 b
/-- the states in the order in which they are met, and their rows -/
structure Expl (nx : α → List α) (s0 : α) (S : List α) (R : List (List Nat)) : Prop where
  nd : S.Nodup
  ord : S = (S.flatMap nx).foldl insG [s0]
  row : R = S.map fun s => (nx s).map S.idxOf
  rea : ∀ x ∈ S, Rea nx s0 x
  near : ∀ k, k < S.length → k < (((S.take k).flatMap nx).foldl insG [s0]).length
/-- .. so far -/
structure ExpI (nx : α → List α) (s0 : α) (S : List α) (R : List (List Nat)) : Prop where
  nd : S.Nodup
  le : R.length ≤ S.length
  ord : S = ((S.take R.length).flatMap nx).foldl insG [s0]
  row : R = (S.take R.length).map fun s => (nx s).map S.idxOf
  rea : ∀ x ∈ S, Rea nx s0 x
  near : ∀ k, k < R.length → k < (((S.take k).flatMap nx).foldl insG [s0]).length
theorem expl_mem {nx : α → List α} {s0 : α} {S : List α} {l : List α} (h : S = (l.flatMap nx).foldl insG [s0]) {s y : α} (hs : s ∈ l) (hy : y ∈ nx s) : y ∈ S := by
  rw [h, (foldG _ [s0] (by simp)).2.1]
  exact .inr (List.mem_flatMap.mpr ⟨s, hs, hy⟩)
theorem Expl.cl {nx : α → List α} {s0 : α} {S : List α} {R : List (List Nat)} (E : Expl nx s0 S R) {s y : α} (hs : s ∈ S) (hy : y ∈ nx s) : y ∈ S := expl_mem E.ord hs hy
theorem Expl.st {nx : α → List α} {s0 : α} {S : List α} {R : List (List Nat)} (E : Expl nx s0 S R) : ∃ T, S = s0 :: T := by
  have := (foldG (S.flatMap nx) [s0] (by simp)).2.2
  obtain ⟨T, h⟩ := this
  exact ⟨T, E.ord.trans h⟩
theorem Expl.all {nx : α → List α} {s0 : α} {S : List α} {R : List (List Nat)} (E : Expl nx s0 S R) {x : α} (h : Rea nx s0 x) : x ∈ S := by
  induction h with
  | base => obtain ⟨T, e⟩ := E.st; rw [e]; exact List.mem_cons_self
  | step _ hb ih => exact E.cl ih hb
theorem ExpI.start (nx : α → List α) (s0 : α) : ExpI nx s0 [s0] [] :=
  ⟨by simp, Nat.zero_le _, rfl, rfl, (fun x hx => by rw [List.mem_singleton.mp hx]; exact .base), fun k hk => by cases hk⟩
theorem ExpI.fin {nx : α → List α} {s0 : α} {S : List α} {R : List (List Nat)} (E : ExpI nx s0 S R) (h : S.length ≤ R.length) : Expl nx s0 S R := by
  have e : S.take R.length = S := List.take_of_length_le h
  have h1 := E.ord
  have h2 := E.row
  rw [e] at h1 h2
  exact ⟨E.nd, h1, h2, E.rea, fun k hk => E.near k (by omega)⟩
theorem ExpI.step {nx : α → List α} {s0 : α} {S : List α} {R : List (List Nat)} (E : ExpI nx s0 S R) (h : R.length < S.length) :
    ExpI nx s0 ((nx S[R.length]).foldl insG S) (R ++ [(nx S[R.length]).map ((nx S[R.length]).foldl insG S).idxOf]) := by
  obtain ⟨n1, n2, Ex, n3⟩ := foldG (nx S[R.length]) S E.nd
  have tk : ((nx S[R.length]).foldl insG S).take R.length = S.take R.length := by rw [n3, List.take_append_of_le_length (by omega)]
  have tk1 : ((nx S[R.length]).foldl insG S).take (R.length + 1) = S.take R.length ++ [S[R.length]] := by
    rw [n3, List.take_append_of_le_length (by omega), List.take_succ, List.getElem?_eq_getElem h]; rfl
  have ll : (R ++ [(nx S[R.length]).map ((nx S[R.length]).foldl insG S).idxOf]).length = R.length + 1 := by simp
  refine ⟨n1, by rw [ll, n3, List.length_append]; omega, ?_, ?_, fun x hx => ?_, fun k hk => ?_⟩
  · rw [ll, tk1, List.flatMap_append, List.foldl_append, ← E.ord, List.flatMap_singleton]
  · rw [ll, tk1, List.map_append, List.map_singleton]
    congr 1
    have e := E.row
    have : ∀ s ∈ S.take R.length, (nx s).map ((nx S[R.length]).foldl insG S).idxOf = (nx s).map S.idxOf := fun s hs => by
      refine List.map_congr_left fun y hy => ?_
      rw [n3]
      exact idx_app (expl_mem E.ord hs hy)
    rw [List.map_congr_left this]
    exact E.row
  · rcases (n2 x).mp hx with z | z
    · exact E.rea x z
    · exact .step (E.rea _ (List.getElem_mem h)) z
  · rw [ll] at hk
    have hle := E.le
    rw [n3, List.take_append_of_le_length (by omega)]
    by_cases e : k = R.length
    · rw [e, ← E.ord]; exact h
    · exact E.near k (by omega)
end
variable [TB]
theorem key_nat : KeyE natD := ⟨fun a b h => by
  rw [canon_nat, canon_nat] at h
  injection h with h; injection h with h; omega, 1, by decide, fun a => rfl⟩
end My
namespace My
open PySem PySem.Spec PyProof.Rows L2
variable [TB]
section
variable {α : Type} [DecidableEq α] {enc : α → PyData}
def setM (enc : α → PyData) (T : List α) : M := .dic (T.map enc) (T.map fun _ => .leaf (.bool true))
theorem dat_set (T : List α) : (setM enc T).dat = .dict (T.map fun k => (enc k, .bool true)) := by
  unfold setM
  rw [M.dat, show (T.map fun _ => M.leaf (.bool true)) = (T.map fun _ => PyData.bool true).map .leaf by rw [List.map_map]; rfl, dats_leaf, List.zip_map']
theorem putM_set (h : KeyE enc) {T : List α} {x : α} (n : x ∉ T) : putM (T.map enc) (T.map fun _ => .leaf (.bool true)) (enc x) (.bool true) = setM enc (T ++ [x]) := by
  unfold putM
  rw [h.ix, if_neg n]
  show M.dic _ _ = setM _ _
  unfold setM
  rw [List.map_append, List.map_append]; rfl
theorem putP_set (h : KeyE enc) (T : List α) (x : α) : putP (T.map enc, T.map fun _ => PyData.bool true) (enc x) (.bool true) = ((insG T x).map enc, (insG T x).map fun _ => PyData.bool true) := by
  unfold putP insG
  by_cases hx : x ∈ T
  · simp only [h.ix, if_pos hx]
    congr 1
    have e : T.map (fun _ => PyData.bool true) = List.replicate T.length (.bool true) := List.map_const' ..
    rw [e]
    apply List.ext_getElem?
    intro j
    rw [List.getElem?_set]
    split
    · rename_i ij
      subst ij
      have := List.idxOf_lt_length_iff.mpr hx
      rw [if_pos (by rw [List.length_replicate]; exact this), List.getElem?_replicate, if_pos this]
    · rfl
  · simp only [h.ix, if_neg hx, List.map_append, List.map_cons, List.map_nil]
theorem lcK_set {β : Type} (h : KeyE enc) {el : ItD → (Option (PyData × PyData) → Prop) → Prop} {Q : List PyData × List PyData → Prop} {g : β → ItD} (f : β → α) : ∀ (l : List β) (T : List α), T.length + l.length ≤ 1000000 → (∀ x ∈ l, ∀ K : Option (PyData × PyData) → Prop, K (some (enc (f x), .bool true)) → el (g x) K) →
    Q (((l.map f).foldl insG T).map enc, ((l.map f).foldl insG T).map fun _ => PyData.bool true) → lcK el (l.map g) (T.map enc, T.map fun _ => PyData.bool true) Q
  | [], T, _, _, q => q
  | x :: l, T, hn, hel, q => by
    rw [List.map_cons]
    simp only [List.length_cons] at hn
    refine hel x List.mem_cons_self _ ⟨h.uni T (f x), by rw [List.length_map, sizeLine_eq]; omega, ?_⟩
    dsimp only
    rw [putP_set h]
    refine lcK_set h f l (insG T (f x)) ?_ (fun y hy => hel y (List.mem_cons_of_mem _ hy)) (by rw [List.map_cons, List.foldl_cons] at q; exact q)
    have : (insG T (f x)).length ≤ T.length + 1 := by
      unfold insG; split
      · omega
      · simp
    omega
theorem dicP_set (T : List α) : dicP (T.map enc, T.map fun _ => PyData.bool true) = setM enc T := by
  unfold dicP setM
  rw [List.map_map]; rfl
theorem KeyE.yes (h : KeyE enc) {S : List α} {x : α} (m : x ∈ S) : (kIx (S.map enc) (enc x)).isSome = true := by rw [h.has]; exact decide_eq_true m
theorem KeyE.no (h : KeyE enc) {S : List α} {x : α} (m : x ∉ S) : (kIx (S.map enc) (enc x)).isSome = false := by rw [h.has]; exact decide_eq_false m
inductive Rcl (nx : α → List α) (S : List α) : α → Prop
  | base {x : α} : x ∈ S → Rcl nx S x
  | step {a b : α} : Rcl nx S a → b ∈ nx a → Rcl nx S b
/-- depth first: met, waiting, the one that is looked at, those of its next ones that are done -/
structure DfI (nx : α → List α) (S : List α) (In : α → Prop) (T W : List α) (a : Option α) (P : List α) : Prop where
  nd : T.Nodup
  ndw : W.Nodup
  inn : ∀ x ∈ T, In x
  rea : ∀ x ∈ T, Rcl nx S x
  st : ∀ x ∈ S, x ∈ T
  wt : ∀ x ∈ W, x ∈ T
  now : ∀ x, a = some x → x ∈ T
  pr : ∀ x ∈ P, x ∈ T
  cl : ∀ c ∈ T, a ≠ some c → c ∉ W → ∀ y ∈ nx c, y ∈ T
section
variable {nx : α → List α} {S T W P : List α} {In : α → Prop} {a x : α}
theorem DfI.old (D : DfI nx S In T W (some a) P) (h : x ∈ T) : DfI nx S In T W (some a) (P ++ [x]) :=
  { D with pr := fun y hy => (List.mem_append.mp hy).elim (D.pr y) fun z => by rw [List.mem_singleton.mp z]; exact h }
theorem nd_snoc {T : List α} {x : α} (h : T.Nodup) (n : x ∉ T) : (T ++ [x]).Nodup := List.nodup_append.mpr ⟨h, by simp, fun a ha b hb e => n (by rw [List.mem_singleton.mp hb] at e; rw [← e]; exact ha)⟩
theorem DfI.new (D : DfI nx S In T W (some a) P) (h : x ∉ T) (hx : x ∈ nx a) (hi : In x) : DfI nx S In (T ++ [x]) (W ++ [x]) (some a) (P ++ [x]) := by
  have l : ∀ {y : α}, y ∈ T → y ∈ T ++ [x] := fun h => List.mem_append_left _ h
  have m : x ∈ T ++ [x] := List.mem_append_right _ List.mem_cons_self
  have sp : ∀ {p : α → Prop}, (∀ y ∈ T, p y) → p x → ∀ y ∈ T ++ [x], p y := fun h1 h2 y hy => (List.mem_append.mp hy).elim (h1 y) fun z => by rw [List.mem_singleton.mp z]; exact h2
  refine ⟨nd_snoc D.nd h, nd_snoc D.ndw fun z => h (D.wt x z), sp D.inn hi, sp D.rea (.step (D.rea a (D.now a rfl)) hx), fun y hy => l (D.st y hy), fun y hy => ?_, fun y e => l (D.now y e), fun y hy => ?_, fun c hc n1 n2 y hy => ?_⟩
  · exact (List.mem_append.mp hy).elim (fun z => l (D.wt y z)) fun z => by rw [List.mem_singleton.mp z]; exact m
  · exact (List.mem_append.mp hy).elim (fun z => l (D.pr y z)) fun z => by rw [List.mem_singleton.mp z]; exact m
  · rcases List.mem_append.mp hc with z | z
    · exact l (D.cl c z n1 (fun w => n2 (List.mem_append_left _ w)) y hy)
    · exact (n2 (List.mem_append_right _ z)).elim
theorem DfI.pop (D : DfI nx S In T (W ++ [a]) none []) : DfI nx S In T W (some a) [] := by
  have nd := List.nodup_append.mp D.ndw
  refine ⟨D.nd, nd.1, D.inn, D.rea, D.st, fun x hx => D.wt x (List.mem_append_left _ hx), fun x e => by cases e; exact D.wt a (by simp), fun x hx => (by cases hx), fun c hc n1 n2 => D.cl c hc (by simp) fun z => ?_⟩
  rcases List.mem_append.mp z with z | z
  · exact n2 z
  · exact n1 (by rw [List.mem_singleton.mp z])
theorem DfI.done (D : DfI nx S In T W (some a) P) (h : ∀ y ∈ nx a, y ∈ P) : DfI nx S In T W none [] :=
  ⟨D.nd, D.ndw, D.inn, D.rea, D.st, D.wt, fun x e => (by cases e), fun x hx => (by cases hx), fun c hc _ n2 y hy => by
    by_cases e : c = a
    · subst e; exact D.pr y (h y hy)
    · exact D.cl c hc (fun z => e (by injection z with z; exact z.symm)) n2 y hy⟩
theorem DfI.fin (D : DfI nx S In T [] none P) (x : α) : x ∈ T ↔ Rcl nx S x := by
  refine ⟨D.rea x, fun h => ?_⟩
  induction h with
  | base h => exact D.st _ h
  | step _ hb ih => exact D.cl _ ih (by simp) (by simp) _ hb
theorem DfI.start (hi : ∀ x ∈ S, In x) : DfI nx S In (S.foldl insG []) (S.foldl insG []) none [] := by
  obtain ⟨h1, h2, _⟩ := foldG S [] List.nodup_nil
  have h2 : ∀ x, x ∈ S.foldl insG [] ↔ x ∈ S := fun x => by rw [h2]; simp
  exact ⟨h1, h1, fun x h => hi x ((h2 x).mp h), fun x h => .base ((h2 x).mp h), fun x h => (h2 x).mpr h, fun x h => h, fun x e => (by cases e), fun x h => (by cases h), fun c hc _ n => absurd hc n⟩
/-- breadth first: the n-th one is looked at -/
structure BfI (nx : α → List α) (S : List α) (In : α → Prop) (T : List α) (n : Nat) (P : List α) : Prop where
  nd : T.Nodup
  inn : ∀ x ∈ T, In x
  rea : ∀ x ∈ T, Rcl nx S x
  st : ∀ x ∈ S, x ∈ T
  pr : ∀ x ∈ P, x ∈ T
  cl : ∀ (j : Nat) c, j < n → T[j]? = some c → ∀ y ∈ nx c, y ∈ T
variable {n : Nat}
theorem BfI.old (B : BfI nx S In T n P) (h : x ∈ T) : BfI nx S In T n (P ++ [x]) :=
  { B with pr := fun y hy => (List.mem_append.mp hy).elim (B.pr y) fun z => by rw [List.mem_singleton.mp z]; exact h }
theorem BfI.new (B : BfI nx S In T n P) (h : x ∉ T) (hn : n < T.length) (hx : Rcl nx S x) (hi : In x) : BfI nx S In (T ++ [x]) n (P ++ [x]) := by
  have l : ∀ {y : α}, y ∈ T → y ∈ T ++ [x] := fun h => List.mem_append_left _ h
  have m : x ∈ T ++ [x] := List.mem_append_right _ List.mem_cons_self
  have sp : ∀ {p : α → Prop}, (∀ y ∈ T, p y) → p x → ∀ y ∈ T ++ [x], p y := fun h1 h2 y hy => (List.mem_append.mp hy).elim (h1 y) fun z => by rw [List.mem_singleton.mp z]; exact h2
  refine ⟨nd_snoc B.nd h, sp B.inn hi, sp B.rea hx, fun y hy => l (B.st y hy), fun y hy => ?_, fun j c hj e y hy => ?_⟩
  · exact (List.mem_append.mp hy).elim (fun z => l (B.pr y z)) fun z => by rw [List.mem_singleton.mp z]; exact m
  · rw [List.getElem?_append_left (by omega)] at e
    exact l (B.cl j c hj e y hy)
theorem BfI.next (B : BfI nx S In T n P) (h : ∀ c, T[n]? = some c → ∀ y ∈ nx c, y ∈ P) : BfI nx S In T (n + 1) [] :=
  ⟨B.nd, B.inn, B.rea, B.st, fun x h => (by cases h), fun j c hj e y hy => by
    by_cases z : j = n
    · subst z; exact B.pr y (h c e y hy)
    · exact B.cl j c (by omega) e y hy⟩
theorem BfI.fin (B : BfI nx S In T n P) (h : T.length ≤ n) (x : α) : x ∈ T ↔ Rcl nx S x := by
  refine ⟨B.rea x, fun hx => ?_⟩
  induction hx with
  | base h => exact B.st _ h
  | step _ hb ih =>
    obtain ⟨j, hj, e⟩ := List.mem_iff_getElem.mp ih
    exact B.cl j _ (by omega) (by rw [List.getElem?_eq_getElem hj, e]) _ hb
end
end
end My
namespace My
open PySem PySem.Spec PyProof.Rows L2
def lexN : List Nat → List Nat → Prop
  | x :: xs, y :: ys => x < y ∨ (x = y ∧ lexN xs ys)
  | _, _ => False
def slx (x y : List Nat) : Prop := x.length < y.length ∨ (x.length = y.length ∧ lexN x y)
theorem lexN_irr : ∀ x : List Nat, ¬ lexN x x
  | [] => fun h => h
  | x :: xs => fun h => by
    rcases h with h | h
    · omega
    · exact lexN_irr xs h.2
theorem lexN_tr : ∀ {x y z : List Nat}, lexN x y → lexN y z → lexN x z
  | x :: xs, y :: ys, z :: zs, h, k => by
    rcases h with h | h <;> rcases k with k | k
    · exact .inl (by omega)
    · exact .inl (by omega)
    · exact .inl (by omega)
    · exact .inr ⟨by omega, lexN_tr h.2 k.2⟩
  | [], _, _, h, _ => h.elim
  | _ :: _, [], _, h, _ => h.elim
  | _ :: _, _ :: _, [], _, k => k.elim
theorem lexN_tot : ∀ {x y : List Nat}, x.length = y.length → lexN x y ∨ x = y ∨ lexN y x
  | [], [], _ => .inr (.inl rfl)
  | x :: xs, y :: ys, h => by
    rcases Nat.lt_trichotomy x y with q | q | q
    · exact .inl (.inl q)
    · subst q
      rcases lexN_tot (x := xs) (y := ys) (by simpa using h) with z | z | z
      · exact .inl (.inr ⟨rfl, z⟩)
      · exact .inr (.inl (by rw [z]))
      · exact .inr (.inr (.inr ⟨rfl, z⟩))
    · exact .inr (.inr (.inl q))
  | [], _ :: _, h => by simp at h
  | _ :: _, [], h => by simp at h
theorem lexN_app : ∀ {x y u v : List Nat}, lexN x y → lexN (x ++ u) (y ++ v)
  | x :: xs, y :: ys, u, v, h => by
    rcases h with h | h
    · exact .inl h
    · exact .inr ⟨h.1, lexN_app h.2⟩
  | [], _, _, _, h => h.elim
  | _ :: _, [], _, _, h => h.elim
theorem lexN_pre : ∀ {x u v : List Nat}, lexN u v → lexN (x ++ u) (x ++ v)
  | [], _, _, h => h
  | x :: xs, _, _, h => .inr ⟨rfl, lexN_pre (x := xs) h⟩
theorem slx_irr (x : List Nat) : ¬ slx x x := fun h => h.elim (fun z => Nat.lt_irrefl _ z) fun z => lexN_irr x z.2
theorem slx_tr {x y z : List Nat} (h : slx x y) (k : slx y z) : slx x z := by
  rcases h with h | h <;> rcases k with k | k
  · exact .inl (by omega)
  · exact .inl (by omega)
  · exact .inl (by omega)
  · exact .inr ⟨by omega, lexN_tr h.2 k.2⟩
theorem slx_tot (x y : List Nat) : slx x y ∨ x = y ∨ slx y x := by
  rcases Nat.lt_trichotomy x.length y.length with q | q | q
  · exact .inl (.inl q)
  · rcases lexN_tot q with z | z | z
    · exact .inl (.inr ⟨q, z⟩)
    · exact .inr (.inl z)
    · exact .inr (.inr (.inr ⟨q.symm, z⟩))
  · exact .inr (.inr (.inl q))
theorem slx_snoc {x y : List Nat} {i j : Nat} (h : slx x y) : slx (x ++ [i]) (y ++ [j]) := by
  rcases h with h | h
  · exact .inl (by simp; omega)
  · exact .inr ⟨by simp; omega, lexN_app h.2⟩
theorem slx_last {x : List Nat} {i j : Nat} (h : i < j) : slx (x ++ [i]) (x ++ [j]) := .inr ⟨by simp, lexN_pre (.inl h)⟩
theorem slx_nil {x : List Nat} (h : x ≠ []) : slx [] x := .inl (List.length_pos_iff.mpr h)
theorem sle_of {x y : List Nat} (h : ¬ slx y x) : slx x y ∨ x = y := by
  rcases slx_tot x y with z | z | z
  · exact .inl z
  · exact .inr z
  · exact absurd z h
theorem sle_tr {x y z : List Nat} (h : ¬ slx y x) (k : ¬ slx z y) : ¬ slx z x := fun q => by
  rcases sle_of h with a | a
  · exact k (slx_tr q a)
  · exact k (a ▸ q)
theorem snocRec {α : Type} {P : List α → Prop} (h0 : P []) (hs : ∀ l a, P l → P (l ++ [a])) (l : List α) : P l := by
  have : ∀ n (l : List α), l.length = n → P l := by
    intro n
    induction n with
    | zero => intro l hl; rw [List.eq_nil_of_length_eq_zero hl]; exact h0
    | succ n ih =>
      intro l hl
      rcases List.eq_nil_or_concat l with rfl | ⟨l', a, rfl⟩
      · simp at hl
      · rw [List.concat_eq_append]
        rw [List.concat_eq_append, List.length_append, List.length_singleton] at hl
        exact hs _ _ (ih _ (by omega))
  exact this _ l rfl
def lx (p q : Nat × Nat) : Prop := p.1 < q.1 ∨ (p.1 = q.1 ∧ p.2 < q.2)
theorem lx_tr {p q r : Nat × Nat} (h : lx p q) (k : lx q r) : lx p r := by unfold lx at *; omega
theorem lx_tot (p q : Nat × Nat) : lx p q ∨ p = q ∨ lx q p := by
  obtain ⟨a, b⟩ := p
  obtain ⟨c, d⟩ := q
  unfold lx
  simp only [Prod.mk.injEq]
  omega
structure Near (m n : Nat) (R : List (List Nat)) (E : Nat → Nat × Nat) : Prop where
  tab : TabOk m n R
  pos : 0 < n
  par : ∀ a, 1 ≤ a → a < n → (E a).1 < a ∧ (E a).2 < m ∧ stq R (E a).1 (E a).2 = a
  inc : ∀ a b, 1 ≤ a → a < b → b < n → lx (E a) (E b)
  fst : ∀ s i, s < n → i < m → stq R s i ≠ 0 → ¬ lx (s, i) (E (stq R s i))
def sqN (E : Nat → Nat × Nat) : Nat → Nat → List Nat
  | 0, _ => []
  | f + 1, a => if a = 0 then [] else sqN E f (E a).1 ++ [(E a).2]
theorem sqN_succ (E : Nat → Nat × Nat) (f a : Nat) : sqN E (f + 1) a = if a = 0 then [] else sqN E f (E a).1 ++ [(E a).2] := rfl
/-- the first sequence of a state -/
def sq (E : Nat → Nat × Nat) (a : Nat) : List Nat := sqN E a a
section
variable [TB] {m n : Nat} {R : List (List Nat)} {E : Nat → Nat × Nat}
theorem Near.sqN (N : Near m n R E) : ∀ (f a : Nat), a < n → a ≤ f → My.sqN E f a = sq E a := by
  intro f
  induction f using Nat.strongRecOn with
  | _ f ih =>
    intro a ha hf
    cases f with
    | zero =>
      have : a = 0 := by omega
      subst this; rfl
    | succ f =>
      by_cases h0 : a = 0
      · subst h0; simp [My.sqN, sq]
      · obtain ⟨a', rfl⟩ : ∃ a', a = a' + 1 := ⟨a - 1, by omega⟩
        have hp := N.par (a' + 1) (by omega) ha
        have k1 : My.sqN E (f + 1) (a' + 1) = My.sqN E f (E (a' + 1)).1 ++ [(E (a' + 1)).2] := (sqN_succ E f _).trans (if_neg h0)
        have k2 : sq E (a' + 1) = My.sqN E a' (E (a' + 1)).1 ++ [(E (a' + 1)).2] := (sqN_succ E a' _).trans (if_neg h0)
        rw [k1, k2, ih f (by omega) _ (by omega) (by omega), ih a' (by omega) _ (by omega) (by omega)]
theorem Near.sq (N : Near m n R E) {a : Nat} (h1 : 1 ≤ a) (ha : a < n) : My.sq E a = My.sq E (E a).1 ++ [(E a).2] := by
  obtain ⟨a', rfl⟩ : ∃ a', a = a' + 1 := ⟨a - 1, by omega⟩
  have hp := N.par (a' + 1) h1 ha
  have k2 : My.sq E (a' + 1) = My.sqN E a' (E (a' + 1)).1 ++ [(E (a' + 1)).2] := (sqN_succ E a' _).trans (if_neg (by omega))
  rw [k2, N.sqN a' _ (by omega) (by omega)]
theorem Near.sq_ok (N : Near m n R E) : ∀ a, a < n → (∀ i ∈ My.sq E a, i < m) ∧ stt R 0 (My.sq E a) = a ∧ (My.sq E a).length ≤ a := by
  intro a
  induction a using Nat.strongRecOn with
  | _ a ih =>
    intro ha
    by_cases h0 : a = 0
    · subst h0; exact ⟨fun i hi => (by cases hi), rfl, Nat.le_refl _⟩
    · have hp := N.par a (by omega) ha
      obtain ⟨h1, h2, h3⟩ := ih _ hp.1 (by omega)
      rw [N.sq (by omega) ha]
      refine ⟨fun i hi => ?_, ?_, by rw [List.length_append, List.length_singleton]; omega⟩
      · rcases List.mem_append.mp hi with hi | hi
        · exact h1 i hi
        · rw [List.mem_singleton.mp hi]; exact hp.2.1
      · rw [stt_snoc, h2]; exact hp.2.2
theorem Near.sq_lt (N : Near m n R E) : ∀ b, b < n → ∀ a, a < b → slx (My.sq E a) (My.sq E b) := by
  intro b
  induction b using Nat.strongRecOn with
  | _ b ih =>
    intro hb a hab
    have hpb := N.par b (by omega) hb
    rw [N.sq (by omega) hb]
    by_cases h0 : a = 0
    · subst h0; exact slx_nil (by simp)
    · have hpa := N.par a (by omega) (by omega)
      rw [N.sq (by omega) (show a < n by omega)]
      rcases N.inc a b (by omega) hab hb with z | ⟨z1, z2⟩
      · exact slx_snoc (ih _ hpb.1 (by omega) _ z)
      · rw [z1]; exact slx_last z2
theorem Near.sq_le (N : Near m n R E) {s i : Nat} (hs : s < n) (hi : i < m) : ¬ slx (My.sq E s ++ [i]) (My.sq E (stq R s i)) := fun h => by
  have ht := N.tab.stq hs hi
  generalize e : stq R s i = b at h ht
  by_cases h0 : b = 0
  · subst h0
    rcases h with h | h
    · simp [My.sq, My.sqN] at h
    · simp [My.sq, My.sqN] at h
  · have hf := N.fst s i hs hi (by rw [e]; exact h0)
    rw [e] at hf
    have hp := N.par b (by omega) ht
    rw [N.sq (by omega) ht] at h
    rcases lx_tot (s, i) (E b) with z | z | z
    · exact hf z
    · rw [← z] at h; exact slx_irr _ h
    · rcases z with z | ⟨z1, z2⟩
      · exact slx_irr _ (slx_tr h (slx_snoc (N.sq_lt s hs _ z)))
      · rw [z1] at h
        exact slx_irr _ (slx_tr h (slx_last z2))
/-- it is the least one that leads there -/
theorem Near.least (N : Near m n R E) : ∀ is : List Nat, (∀ i ∈ is, i < m) → ¬ slx is (My.sq E (stt R 0 is)) := by
  refine snocRec ?_ ?_
  · intro _; exact slx_irr _
  · intro is i ih h
    have h1 : ∀ j ∈ is, j < m := fun j hj => h j (List.mem_append_left _ hj)
    have hs := N.tab.stt N.pos h1
    have hi := h i (List.mem_append_right _ List.mem_cons_self)
    rw [stt_snoc]
    refine sle_tr (N.sq_le hs hi) fun z => ?_
    rcases sle_of (ih h1) with q | q
    · exact slx_irr _ (slx_tr z (slx_snoc q))
    · rw [q] at z; exact slx_irr _ z
end
end My
namespace My
open PySem PySem.Spec PyProof.Rows L2
variable [TB]
section
variable {α : Type} [DecidableEq α] {nx : α → List α} {s0 : α} {S : List α} {R : List (List Nat)} {m : Nat}
theorem Expl.stq (X : Expl nx s0 S R) {s i : Nat} (hs : s < S.length) (hi : i < (nx S[s]).length) : My.stq R s i = S.idxOf (nx S[s])[i] := by
  have h1 : R.getD s [] = (nx S[s]).map S.idxOf := by
    rw [List.getD_eq_getElem?_getD, X.row, List.getElem?_map, List.getElem?_eq_getElem hs]; rfl
  unfold My.stq
  rw [h1, List.getD_eq_getElem?_getD, List.getElem?_map, List.getElem?_eq_getElem hi]; rfl
theorem Expl.tab (X : Expl nx s0 S R) (hm : ∀ s ∈ S, (nx s).length = m) : TabOk m S.length R := by
  refine ⟨by rw [X.row, List.length_map], fun r hr => ?_⟩
  rw [X.row] at hr
  obtain ⟨s, hs, rfl⟩ := List.mem_map.mp hr
  refine ⟨by rw [List.length_map]; exact hm s hs, fun a ha => ?_⟩
  obtain ⟨y, hy, rfl⟩ := List.mem_map.mp ha
  exact List.idxOf_lt_length_of_mem (X.cl hs hy)
end
end My
namespace My
open PySem PySem.Spec PyProof.Rows L2
variable [TB]
def rowN (t : List (List Nat)) (s : Nat) : List Nat := t.getD s []
theorem rea_lt {m L : Nat} {t : List (List Nat)} (T : TabOk m L t) (hL : 0 < L) {x : Nat} (h : Rea (rowN t) 0 x) : x < L := by
  induction h with
  | base => exact hL
  | step _ hb ih => exact (T.at ih).2 _ hb
section
variable {m L : Nat} {t R : List (List Nat)} {S : List Nat}
/-- the explored table goes as the first one does -/
theorem Expl.stt (X : Expl (rowN t) 0 S R) (T : TabOk m L t) (hL : 0 < L) : ∀ is : List Nat, (∀ i ∈ is, i < m) → ∃ h : My.stt R 0 is < S.length, My.stt t 0 is = S[My.stt R 0 is] := by
  have hn : 0 < S.length := by obtain ⟨T0, e⟩ := X.st; rw [e]; simp
  have row : ∀ s ∈ S, (rowN t s).length = m := fun s hs => (T.at (rea_lt T hL (X.rea s hs))).1
  have TR := X.tab row
  refine snocRec ?_ ?_
  · intro _
    refine ⟨hn, ?_⟩
    show 0 = S[0]
    obtain ⟨T0, e⟩ := X.st
    have h1 := List.getElem?_eq_getElem hn
    have h2 : S[0]? = some 0 := by rw [e]; rfl
    rw [h1] at h2
    exact (Option.some.inj h2).symm
  · intro is i ih h
    obtain ⟨h1, h2⟩ := ih fun j hj => h j (List.mem_append_left _ hj)
    have hi := h i (List.mem_append_right _ List.mem_cons_self)
    have hl : i < (rowN t S[My.stt R 0 is]).length := by rw [row _ (List.getElem_mem h1)]; exact hi
    have hs := TR.stq h1 hi
    have e1 : My.stt R 0 (is ++ [i]) = My.stq R (My.stt R 0 is) i := stt_snoc ..
    have hm : (rowN t S[My.stt R 0 is])[i] ∈ S := X.cl (List.getElem_mem h1) (List.getElem_mem hl)
    have e2 : My.stq R (My.stt R 0 is) i = S.idxOf (rowN t S[My.stt R 0 is])[i] := X.stq h1 hl
    refine ⟨by rw [e1]; exact hs, ?_⟩
    rw [stt_snoc t, h2]
    obtain ⟨j, hj, ej⟩ := List.mem_iff_getElem.mp hm
    have e3 : My.stt R 0 (is ++ [i]) = j := by rw [e1, e2, ← ej, idxG X.nd hj]
    have : S[My.stt R 0 (is ++ [i])]'(by rw [e3]; exact hj) = S[j] := by simp only [e3]
    rw [this, ej]
    show (rowN t S[My.stt R 0 is]).getD i 0 = _
    rw [List.getD_eq_getElem?_getD, List.getElem?_eq_getElem hl]; rfl
end
/-- the first sequences of the states -/
structure Firsts (m L : Nat) (t : List (List Nat)) (fs : Nat → Option (List Nat)) : Prop where
  ok : ∀ k is, fs k = some is → k < L ∧ (∀ i ∈ is, i < m) ∧ stt t 0 is = k ∧ is.length ≤ L
  lst : ∀ is, (∀ i ∈ is, i < m) → ∃ js, fs (stt t 0 is) = some js ∧ ¬ slx is js
theorem Firsts.uniq {m L : Nat} {t : List (List Nat)} {fs gs : Nat → Option (List Nat)} (F : Firsts m L t fs) (G : Firsts m L t gs) : fs = gs := by
  have half : ∀ {fs gs : Nat → Option (List Nat)}, Firsts m L t fs → Firsts m L t gs → ∀ k is, fs k = some is → gs k = some is := by
    intro fs gs F G k is h
    obtain ⟨f1, f2, f3, _⟩ := F.ok k is h
    obtain ⟨js, g1, g2⟩ := G.lst is f2
    rw [f3] at g1
    obtain ⟨_, h2, h3, _⟩ := G.ok k js g1
    obtain ⟨ks, k1, k2⟩ := F.lst js h2
    rw [h3, h] at k1
    cases k1
    rcases sle_of g2 with z | z
    · exact absurd z k2
    · rw [g1, z]
  funext k
  cases e : fs k with
  | some is => exact (half F G k is e).symm
  | none =>
    cases e2 : gs k with
    | none => rfl
    | some is => rw [half G F k is e2] at e; cases e
/-- the least of the first sequences of some states -/
structure Best (ac : List Nat) (fs : Nat → Option (List Nat)) (o : Option (List Nat)) : Prop where
  non : o = none → ∀ k ∈ ac, fs k = none
  som : ∀ is, o = some is → (∃ k ∈ ac, fs k = some is) ∧ ∀ k ∈ ac, ∀ js, fs k = some js → ¬ slx js is
theorem Best.uniq {ac : List Nat} {fs : Nat → Option (List Nat)} {o p : Option (List Nat)} (a : Best ac fs o) (b : Best ac fs p) : o = p := by
  cases o with
  | none =>
    cases p with
    | none => rfl
    | some js =>
      obtain ⟨⟨k, hk, e⟩, _⟩ := b.som js rfl
      rw [a.non rfl k hk] at e; cases e
  | some is =>
    obtain ⟨⟨k, hk, e⟩, h1⟩ := a.som is rfl
    cases p with
    | none => rw [b.non rfl k hk] at e; cases e
    | some js =>
      obtain ⟨⟨k2, hk2, e2⟩, h2⟩ := b.som js rfl
      rcases slx_tot is js with z | z | z
      · exact absurd z (h2 k hk is e)
      · rw [z]
      · exact absurd z (h1 k2 hk2 js e2)
def syLt (p q : SyN) : Prop := p.1 < q.1 ∨ (p.1 = q.1 ∧ p.2 < q.2)
instance (p q : SyN) : Decidable (syLt p q) := inferInstanceAs (Decidable (_ ∨ _))
def acD (rs : List SyN) (t : List (List Nat)) (ac : List Nat) : PyData := .tuple [seqD rs, tabD t, .tuple (ac.map natD)]
end My
namespace My
open PySem PySem.Spec PyProof.Rows L2
theorem leastM {p : Nat → Prop} (h : ∃ n, p n) : ∃ n, p n ∧ ∀ k, k < n → ¬ p k := by
  obtain ⟨n, hn⟩ := h
  induction n using Nat.strongRecOn with
  | _ n ih =>
    by_cases h : ∃ k, k < n ∧ p k
    · obtain ⟨k, h1, h2⟩ := h
      exact ih k h1 h2
    · exact ⟨n, hn, fun k hk hp => h ⟨k, hk, hp⟩⟩
section
variable {β γ : Type} [DecidableEq β] [DecidableEq γ]
def fsts (f : Nat → β) : Nat → List Nat
  | 0 => []
  | n + 1 => if (fsts f n).any (fun b => decide (f b = f n)) = true then fsts f n else fsts f n ++ [n]
def num (f : Nat → β) (n a : Nat) : Nat := (fsts f n).findIdx fun b => decide (f b = f a)
theorem fsts_mem (f : Nat → β) : ∀ n b, b ∈ fsts f n ↔ b < n ∧ ∀ c, c < b → f c ≠ f b := by
  intro n
  induction n with
  | zero => intro b; simp [fsts]
  | succ n ih =>
    intro b
    have rep : (∃ c, c < n ∧ f c = f n) → ∃ x ∈ fsts f n, f x = f n := by
      intro h
      obtain ⟨c, ⟨h1, h2⟩, h3⟩ := leastM h
      exact ⟨c, (ih c).mpr ⟨h1, fun d hd e => h3 d hd ⟨by omega, e.trans h2⟩⟩, h2⟩
    unfold fsts
    split
    · rename_i h
      rw [List.any_eq_true] at h
      obtain ⟨x, h1, h2⟩ := h
      have h2 := of_decide_eq_true h2
      rw [ih]
      refine ⟨fun z => ⟨by omega, z.2⟩, fun z => ⟨?_, z.2⟩⟩
      by_cases e : b = n
      · subst e; exact absurd h2 (z.2 x ((ih x).mp h1).1)
      · omega
    · rename_i h
      rw [List.any_eq_true] at h
      rw [List.mem_append, List.mem_singleton, ih]
      refine ⟨fun z => ?_, fun z => ?_⟩
      · rcases z with z | rfl
        · exact ⟨by omega, z.2⟩
        · refine ⟨by omega, fun c hc e => h ?_⟩
          obtain ⟨x, h1, h2⟩ := rep ⟨c, hc, e⟩
          exact ⟨x, h1, decide_eq_true h2⟩
      · by_cases e : b = n
        · exact .inr e
        · exact .inl ⟨by omega, z.2⟩
theorem fsts_up (f : Nat → β) : ∀ n, (fsts f n).Pairwise (· < ·) := by
  intro n
  induction n with
  | zero => exact .nil
  | succ n ih =>
    unfold fsts
    split
    · exact ih
    · exact List.pairwise_append.mpr ⟨ih, by simp, fun a ha b hb => by rw [List.mem_singleton.mp hb]; exact ((fsts_mem f n a).mp ha).1⟩
theorem fsts_rep (f : Nat → β) {n a : Nat} (h : a < n) : ∃ b ∈ fsts f n, b ≤ a ∧ f b = f a := by
  obtain ⟨c, ⟨h1, h2⟩, h3⟩ := leastM (p := fun c => c ≤ a ∧ f c = f a) ⟨a, Nat.le_refl _, rfl⟩
  exact ⟨c, (fsts_mem f n c).mpr ⟨by omega, fun d hd e => h3 d hd ⟨by omega, e.trans h2⟩⟩, h1, h2⟩
theorem num_lt (f : Nat → β) {n a : Nat} (h : a < n) : num f n a < (fsts f n).length := by
  obtain ⟨b, h1, _, h3⟩ := fsts_rep f h
  exact List.findIdx_lt_length_of_exists ⟨b, h1, decide_eq_true h3⟩
theorem num_at (f : Nat → β) {n a : Nat} (h : a < n) : f ((fsts f n)[num f n a]'(num_lt f h)) = f a :=
  of_decide_eq_true (List.findIdx_getElem (xs := fsts f n) (p := fun b => decide (f b = f a)) (w := num_lt f h))
theorem fsts_inj (f : Nat → β) {n i j : Nat} (hi : i < (fsts f n).length) (hj : j < (fsts f n).length) (e : f (fsts f n)[i] = f (fsts f n)[j]) : i = j := by
  have up := List.pairwise_iff_getElem.mp (fsts_up f n)
  rcases Nat.lt_trichotomy i j with z | z | z
  · exact absurd e (((fsts_mem f n _).mp (List.getElem_mem hj)).2 _ (up i j hi hj z))
  · exact z
  · exact absurd e.symm (((fsts_mem f n _).mp (List.getElem_mem hi)).2 _ (up j i hj hi z))
theorem num_fst (f : Nat → β) {n j : Nat} (hj : j < (fsts f n).length) : num f n (fsts f n)[j] = j :=
  have hl := ((fsts_mem f n _).mp (List.getElem_mem hj)).1
  fsts_inj f (num_lt f hl) hj (num_at f hl)
theorem num_le (f : Nat → β) {n a : Nat} (h : a < n) : (fsts f n)[num f n a]'(num_lt f h) ≤ a := by
  obtain ⟨b, h1, h2, h3⟩ := fsts_rep f h
  obtain ⟨j, hj, e⟩ := List.mem_iff_getElem.mp h1
  have : num f n a = j := fsts_inj f (num_lt f h) hj ((num_at f h).trans (by rw [e, h3]))
  simp only [this, e]
  exact h2
end
section
variable [TB] {β : Type} [DecidableEq β] (mk : Nat → β) (R : List (List Nat)) (n : Nat)
def sgn (g : Nat → Nat) (a : Nat) : Nat × List Nat := (g a, (R.getD a []).map g)
variable {mk R n}
variable {m : Nat}
end
end My
namespace My
open PySem PySem.Spec PyProof.Rows L2
section
variable [TB] {β : Type} [DecidableEq β] {mk : Nat → β} {R : List (List Nat)} {m n k : Nat} {E : Nat → Nat × Nat}
/-- equal behind every sequence -/
def Alk (mk : Nat → β) (R : List (List Nat)) (m a b : Nat) : Prop := ∀ w : List Nat, (∀ i ∈ w, i < m) → mk (stt R a w) = mk (stt R b w)
/-- the last numbering -/
structure Grp (mk : Nat → β) (R : List (List Nat)) (m n : Nat) (g : Nat → Nat) : Prop where
  tab : TabOk m n R
  pos : 0 < n
  alk : ∀ a b, a < n → b < n → (g a = g b ↔ Alk mk R m a b)
  num : ∀ a, a < n → num g n a = g a
theorem Alk.step {a b i : Nat} (h : Alk mk R m a b) (hi : i < m) : Alk mk R m (stq R a i) (stq R b i) := fun w hw => h (i :: w) fun j hj => (List.mem_cons.mp hj).elim (fun e => e ▸ hi) (hw j)
def quo (R : List (List Nat)) (g : Nat → Nat) (F : List Nat) : List (List Nat) := F.map fun f => (R.getD f []).map g
variable {g : Nat → Nat}
theorem Grp.lt (G : Grp mk R m n g) {a : Nat} (ha : a < n) : g a < (fsts g n).length := by
  rw [← G.num a ha]; exact num_lt g ha
theorem Grp.at (G : Grp mk R m n g) {a : Nat} (ha : a < n) : g ((fsts g n)[g a]'(G.lt ha)) = g a := by
  have := num_at g ha
  simp only [G.num a ha] at this
  exact this
theorem Grp.le (G : Grp mk R m n g) {a : Nat} (ha : a < n) : (fsts g n)[g a]'(G.lt ha) ≤ a := by
  have := num_le g ha
  simp only [G.num a ha] at this
  exact this
theorem Grp.fl (G : Grp mk R m n g) {j : Nat} (hj : j < (fsts g n).length) : (fsts g n)[j] < n := ((fsts_mem g n _).mp (List.getElem_mem hj)).1
theorem Grp.fst (G : Grp mk R m n g) {j : Nat} (hj : j < (fsts g n).length) : g (fsts g n)[j] = j := by
  rw [← G.num _ (G.fl hj)]; exact num_fst g hj
theorem Grp.up (G : Grp mk R m n g) {i j : Nat} (hi : i < (fsts g n).length) (hj : j < (fsts g n).length) : (fsts g n)[i] < (fsts g n)[j] ↔ i < j := by
  have up := List.pairwise_iff_getElem.mp (fsts_up g n)
  refine ⟨fun h => ?_, up i j hi hj⟩
  rcases Nat.lt_trichotomy i j with z | z | z
  · exact z
  · subst z; omega
  · have := up j i hj hi z; omega
theorem Grp.zero (G : Grp mk R m n g) : g 0 = 0 ∧ ∃ h : 0 < (fsts g n).length, (fsts g n)[0] = 0 := by
  have h1 := G.le G.pos
  have h2 := G.lt G.pos
  have h0 : 0 < (fsts g n).length := by omega
  have h3 : (fsts g n)[g 0] = 0 := by omega
  have h4 : g 0 = 0 := by
    by_cases e : 0 < g 0
    · have := (G.up h0 h2).mpr e; omega
    · omega
  refine ⟨h4, h0, ?_⟩
  simp only [h4] at h3
  exact h3
theorem Grp.first (G : Grp mk R m n g) {j a : Nat} (hj : j < (fsts g n).length) (ha : a < n) (e : g a = j) : (fsts g n)[j] ≤ a := by
  subst e; exact G.le ha
theorem Grp.step (G : Grp mk R m n g) {a b i : Nat} (ha : a < n) (hb : b < n) (hi : i < m) (e : g a = g b) : g (stq R a i) = g (stq R b i) :=
  (G.alk _ _ (G.tab.stq ha hi) (G.tab.stq hb hi)).mpr (((G.alk _ _ ha hb).mp e).step hi)
theorem Grp.stq (G : Grp mk R m n g) {j i : Nat} (hj : j < (fsts g n).length) (hi : i < m) : My.stq (quo R g (fsts g n)) j i = g (My.stq R (fsts g n)[j] i) := by
  have hl : i < (R.getD (fsts g n)[j] []).length := by rw [(G.tab.at (G.fl hj)).1]; exact hi
  have e1 : (quo R g (fsts g n)).getD j [] = (R.getD (fsts g n)[j] []).map g := by
    unfold quo
    rw [getD_of (by rw [List.length_map]; exact hj), List.getElem_map]
  unfold My.stq
  rw [e1, getD_of (by rw [List.length_map]; exact hl), List.getElem_map, getD_of hl]
theorem Grp.tabQ (G : Grp mk R m n g) : TabOk m (fsts g n).length (quo R g (fsts g n)) := by
  refine ⟨by unfold quo; rw [List.length_map], fun r hr => ?_⟩
  obtain ⟨f, hf, rfl⟩ := List.mem_map.mp hr
  have hfn := ((fsts_mem g n f).mp hf).1
  refine ⟨by rw [List.length_map]; exact (G.tab.at hfn).1, fun a ha => ?_⟩
  obtain ⟨x, hx, rfl⟩ := List.mem_map.mp ha
  exact G.lt ((G.tab.at hfn).2 x hx)
theorem Grp.stt (G : Grp mk R m n g) : ∀ {w : List Nat} {a : Nat}, a < n → (∀ i ∈ w, i < m) → My.stt (quo R g (fsts g n)) (g a) w = g (My.stt R a w)
  | [], a, _, _ => rfl
  | i :: w, a, ha, hw => by
    have hi := hw i List.mem_cons_self
    have ih := G.stt (w := w) (a := My.stq R a i) (G.tab.stq ha hi) fun j hj => hw j (List.mem_cons_of_mem _ hj)
    have e : My.stq (quo R g (fsts g n)) (g a) i = g (My.stq R a i) := by
      rw [G.stq (G.lt ha) hi]
      exact G.step (G.fl (G.lt ha)) ha hi (G.at ha)
    show My.stt (quo R g (fsts g n)) (My.stq (quo R g (fsts g n)) (g a) i) w = g (My.stt R (My.stq R a i) w)
    rw [e]
    exact ih
/-- the groups are near, too -/
theorem Grp.near (G : Grp mk R m n g) (N : Near m n R E) : Near m (fsts g n).length (quo R g (fsts g n)) fun j => (g (E ((fsts g n).getD j 0)).1, (E ((fsts g n).getD j 0)).2) := by
  obtain ⟨z1, z2, z3⟩ := G.zero
  have hpos : ∀ j (hj : j < (fsts g n).length), 1 ≤ j → 1 ≤ (fsts g n)[j] := fun j hj h => by
    have := (G.up z2 hj).mpr h
    omega
  -- a parent of a first is a first
  have par : ∀ j (hj : j < (fsts g n).length), 1 ≤ j → (E (fsts g n)[j]).1 < (fsts g n)[j] ∧ (E (fsts g n)[j]).2 < m ∧ My.stq R (E (fsts g n)[j]).1 (E (fsts g n)[j]).2 = (fsts g n)[j] ∧ ∃ h : g (E (fsts g n)[j]).1 < (fsts g n).length, (fsts g n)[g (E (fsts g n)[j]).1] = (E (fsts g n)[j]).1 := by
    intro j hj h1
    have hf := G.fl hj
    obtain ⟨p1, p2, p3⟩ := N.par _ (hpos j hj h1) hf
    have hp : (E (fsts g n)[j]).1 < n := by omega
    refine ⟨p1, p2, p3, G.lt hp, ?_⟩
    have hle := G.le hp
    refine Classical.byContradiction fun hne => ?_
    have hq := G.fl (G.lt hp)
    have hx := G.tab.stq hq p2
    have hgx : g (My.stq R ((fsts g n)[g (E (fsts g n)[j]).1]'(G.lt hp)) (E (fsts g n)[j]).2) = j := by
      rw [G.step hq hp p2 (G.at hp), p3, G.fst hj]
    have hge := G.first hj hx hgx
    have := hpos j hj h1
    refine N.fst _ _ hq p2 (by omega) ?_
    have l1 : lx ((fsts g n)[g (E (fsts g n)[j]).1]'(G.lt hp), (E (fsts g n)[j]).2) (E (fsts g n)[j]) := .inl (show _ < _ by simp only; omega)
    by_cases e : My.stq R ((fsts g n)[g (E (fsts g n)[j]).1]'(G.lt hp)) (E (fsts g n)[j]).2 = (fsts g n)[j]
    · rw [e]; exact l1
    · exact lx_tr l1 (N.inc _ _ this (by omega) hx)
  refine ⟨G.tabQ, by omega, fun j h1 hj => ?_, fun j k h1 hjk hk => ?_, fun s i hs hi h0 z => ?_⟩
  · rw [getD_of hj]
    obtain ⟨p1, p2, p3, p4, p5⟩ := par j hj h1
    refine ⟨(G.up p4 hj).mp (by rw [p5]; exact p1), p2, ?_⟩
    rw [G.stq p4 p2]
    simp only [p5, p3]
    exact G.fst hj
  · have hj : j < (fsts g n).length := by omega
    rw [getD_of hj, getD_of hk]
    obtain ⟨p1, p2, p3, p4, p5⟩ := par j hj h1
    obtain ⟨q1, q2, q3, q4, q5⟩ := par k hk (by omega)
    rcases N.inc _ _ (hpos j hj h1) ((G.up hj hk).mpr hjk) (G.fl hk) with y | ⟨y1, y2⟩
    · exact .inl ((G.up p4 q4).mp (by rw [p5, q5]; exact y))
    · exact .inr ⟨by simp only [y1], y2⟩
  · have hx := G.tab.stq (G.fl hs) hi
    rw [G.stq hs hi] at h0 z
    have hj := G.lt hx
    generalize ej : g (My.stq R (fsts g n)[s] i) = j at h0 z hj
    rw [getD_of hj] at z
    obtain ⟨p1, p2, p3, p4, p5⟩ := par j hj (by omega)
    have hge := G.first hj hx ej
    have h1 := hpos j hj (by omega)
    have l1 : lx ((fsts g n)[s], i) (E (fsts g n)[j]) := by
      rcases z with y | ⟨y1, y2⟩
      · have y : s < g (E (fsts g n)[j]).1 := y
        exact .inl (by have := (G.up hs p4).mpr y; rw [p5] at this; exact this)
      · have y1 : s = g (E (fsts g n)[j]).1 := y1
        refine .inr ⟨?_, y2⟩
        show (fsts g n)[s] = _
        simp only [y1]
        exact p5
    refine N.fst _ _ (G.fl hs) hi (by omega) ?_
    by_cases e : My.stq R (fsts g n)[s] i = (fsts g n)[j]
    · rw [e]; exact l1
    · exact lx_tr l1 (N.inc _ _ h1 (by omega) hx)
end
end My
namespace My
open PySem PySem.Spec PyProof.Rows L2
theorem enum_eq {P : List Nat → Prop} {f1 f2 : Nat → List Nat} {n1 n2 : Nat} (i1 : ∀ b, b < n1 → ∀ a, a < b → slx (f1 a) (f1 b)) (i2 : ∀ b, b < n2 → ∀ a, a < b → slx (f2 a) (f2 b))
    (o1 : ∀ a, a < n1 → P (f1 a)) (o2 : ∀ a, a < n2 → P (f2 a)) (a1 : ∀ w, P w → ∃ a, a < n1 ∧ f1 a = w) (a2 : ∀ w, P w → ∃ a, a < n2 ∧ f2 a = w) : ∀ a, (a < n1 ↔ a < n2) ∧ (a < n1 → f1 a = f2 a) := by
  intro a
  induction a using Nat.strongRecOn with
  | _ a ih =>
    have h1 : a < n1 → ∃ c, a ≤ c ∧ c < n2 ∧ f2 c = f1 a := fun ha => by
      obtain ⟨c, c1, c2⟩ := a2 _ (o1 a ha)
      refine ⟨c, ?_, c1, c2⟩
      refine Classical.byContradiction fun hc => ?_
      have := (ih c (by omega)).2 (by omega)
      have z := i1 a ha c (by omega)
      rw [this, c2] at z
      exact slx_irr _ z
    have h2 : a < n2 → ∃ d, a ≤ d ∧ d < n1 ∧ f1 d = f2 a := fun ha => by
      obtain ⟨c, c1, c2⟩ := a1 _ (o2 a ha)
      refine ⟨c, ?_, c1, c2⟩
      refine Classical.byContradiction fun hc => ?_
      have := (ih c (by omega)).2 c1
      have z := i2 a ha c (by omega)
      rw [← this, c2] at z
      exact slx_irr _ z
    refine ⟨⟨fun h => ?_, fun h => ?_⟩, fun h => ?_⟩
    · obtain ⟨c, c1, c2, _⟩ := h1 h; omega
    · obtain ⟨c, c1, c2, _⟩ := h2 h; omega
    · obtain ⟨c, c1, c2, c3⟩ := h1 h
      obtain ⟨d, d1, d2, d3⟩ := h2 (by omega)
      by_cases ec : a = c
      · subst ec; exact c3.symm
      · by_cases ed : a = d
        · subst ed; exact d3
        · have z1 := i2 c c2 a (by omega)
          have z2 := i1 d d2 a (by omega)
          rw [c3] at z1
          rw [d3] at z2
          exact absurd (slx_tr z1 z2) (slx_irr _)
theorem up_ext : ∀ {l l' : List Nat}, l.Pairwise (· < ·) → l'.Pairwise (· < ·) → (∀ x, x ∈ l ↔ x ∈ l') → l = l'
  | [], [], _, _, _ => rfl
  | [], y :: l', _, _, h => absurd ((h y).mpr List.mem_cons_self) (by simp)
  | x :: l, [], _, _, h => absurd ((h x).mp List.mem_cons_self) (by simp)
  | x :: l, y :: l', h1, h2, h => by
    rw [List.pairwise_cons] at h1 h2
    have e : x = y := by
      rcases List.mem_cons.mp ((h x).mp List.mem_cons_self) with z | z
      · exact z
      · rcases List.mem_cons.mp ((h y).mpr List.mem_cons_self) with q | q
        · exact q.symm
        · have := h2.1 x z; have := h1.1 y q; omega
    subst e
    rw [up_ext h1.2 h2.2 fun z => ?_]
    refine ⟨fun hz => ?_, fun hz => ?_⟩
    · rcases List.mem_cons.mp ((h z).mp (List.mem_cons_of_mem _ hz)) with q | q
      · have := h1.1 z hz; omega
      · exact q
    · rcases List.mem_cons.mp ((h z).mpr (List.mem_cons_of_mem _ hz)) with q | q
      · have := h2.1 z hz; omega
      · exact q
section
variable [TB]
/-- the least acceptor of what is accepted -/
structure Least (m : Nat) (l : List Nat → Prop) (t : List (List Nat)) (ac : List Nat) : Prop where
  near : ∃ E, Near m t.length t E
  up : ac.Pairwise (· < ·)
  lt : ∀ a ∈ ac, a < t.length
  ln : ∀ w : List Nat, (∀ i ∈ w, i < m) → (l w ↔ stt t 0 w ∈ ac)
  red : ∀ a b, a < t.length → b < t.length → (∀ w : List Nat, (∀ i ∈ w, i < m) → (stt t a w ∈ ac ↔ stt t b w ∈ ac)) → a = b
theorem stt_app (t : List (List Nat)) (a : Nat) (v w : List Nat) : stt t a (v ++ w) = stt t (stt t a v) w := by
  unfold stt; rw [List.foldl_append]
theorem Least.uniq {m : Nat} {l1 l2 : List Nat → Prop} {t1 t2 : List (List Nat)} {c1 c2 : List Nat} (A : Least m l1 t1 c1) (B : Least m l2 t2 c2) (h : ∀ w : List Nat, (∀ i ∈ w, i < m) → (l1 w ↔ l2 w)) : t1 = t2 ∧ c1 = c2 := by
  obtain ⟨E1, N1⟩ := A.near
  obtain ⟨E2, N2⟩ := B.near
  have hh : ∀ w : List Nat, (∀ i ∈ w, i < m) → (stt t1 0 w ∈ c1 ↔ stt t2 0 w ∈ c2) := fun w hw => (A.ln w hw).symm.trans ((h w hw).trans (B.ln w hw))
  have app : ∀ {v w : List Nat}, (∀ i ∈ v, i < m) → (∀ i ∈ w, i < m) → ∀ i ∈ v ++ w, i < m := fun hv hw i hi => (List.mem_append.mp hi).elim (hv i) (hw i)
  have eqv : ∀ v w : List Nat, (∀ i ∈ v, i < m) → (∀ i ∈ w, i < m) → (stt t1 0 v = stt t1 0 w ↔ stt t2 0 v = stt t2 0 w) := fun v w hv hw => by
    constructor
    · intro e
      refine B.red _ _ (N2.tab.stt N2.pos hv) (N2.tab.stt N2.pos hw) fun x hx => ?_
      rw [← stt_app, ← stt_app, ← hh _ (app hv hx), ← hh _ (app hw hx), stt_app, stt_app, e]
    · intro e
      refine A.red _ _ (N1.tab.stt N1.pos hv) (N1.tab.stt N1.pos hw) fun x hx => ?_
      rw [← stt_app, ← stt_app, hh _ (app hv hx), hh _ (app hw hx), stt_app, stt_app, e]
  -- the first sequences
  have on : ∀ {t : List (List Nat)} {E : Nat → Nat × Nat} (N : Near m t.length t E), ∀ a, a < t.length → (∀ i ∈ sq E a, i < m) ∧ ∀ v : List Nat, (∀ i ∈ v, i < m) → stt t 0 v = stt t 0 (sq E a) → ¬ slx v (sq E a) := fun {t E} N a ha => by
    obtain ⟨h1, h2, _⟩ := N.sq_ok a ha
    refine ⟨h1, fun v hv e => ?_⟩
    have := N.least v hv
    rw [e, h2] at this
    exact this
  have all : ∀ {t : List (List Nat)} {E : Nat → Nat × Nat} (N : Near m t.length t E), ∀ w : List Nat, ((∀ i ∈ w, i < m) ∧ ∀ v : List Nat, (∀ i ∈ v, i < m) → stt t 0 v = stt t 0 w → ¬ slx v w) → ∃ a, a < t.length ∧ sq E a = w := fun {t E} N w hw => by
    have ha := N.tab.stt N.pos hw.1
    obtain ⟨h1, h2, _⟩ := N.sq_ok _ ha
    refine ⟨_, ha, ?_⟩
    have z1 := hw.2 _ h1 h2
    have z2 := N.least w hw.1
    rcases slx_tot (sq E (stt t 0 w)) w with z | z | z
    · exact absurd z z1
    · exact z
    · exact absurd z z2
  have key := enum_eq (P := fun w => (∀ i ∈ w, i < m) ∧ ∀ v : List Nat, (∀ i ∈ v, i < m) → stt t1 0 v = stt t1 0 w → ¬ slx v w) (f1 := sq E1) (f2 := sq E2) (n1 := t1.length) (n2 := t2.length) N1.sq_lt N2.sq_lt (on N1)
    (fun a ha => ⟨(on N2 a ha).1, fun v hv e => (on N2 a ha).2 v hv ((eqv v _ hv (on N2 a ha).1).mp e)⟩) (all N1) (fun w hw => all N2 w ⟨hw.1, fun v hv e => hw.2 v hv ((eqv v w hv hw.1).mpr e)⟩)
  have hn : t1.length = t2.length := by
    have k1 := (key t1.length).1
    have k2 := (key t2.length).1
    omega
  have hsq : ∀ a, a < t1.length → sq E1 a = sq E2 a := fun a ha => (key a).2 ha
  have same : ∀ v : List Nat, (∀ i ∈ v, i < m) → stt t1 0 v = stt t2 0 v := fun v hv => by
    have hb := N1.tab.stt N1.pos hv
    obtain ⟨h1, h2, _⟩ := N1.sq_ok _ hb
    have := (eqv _ v h1 hv).mp h2
    rw [← this, hsq _ hb]
    exact (N2.sq_ok _ (by omega)).2.1.symm
  refine ⟨List.ext_getElem hn fun a ha hb => List.ext_getElem ?_ fun i h1 h2 => ?_, up_ext A.up B.up fun a => ⟨fun ha => ?_, fun ha => ?_⟩⟩
  · rw [(N1.tab.row _ (List.getElem_mem ha)).1, (N2.tab.row _ (List.getElem_mem hb)).1]
  · have hi : i < m := by rw [← (N1.tab.row _ (List.getElem_mem ha)).1]; exact h1
    obtain ⟨g1, g2, _⟩ := N1.sq_ok a ha
    have := same (sq E1 a ++ [i]) fun j hj => (List.mem_append.mp hj).elim (g1 j) fun z => by rw [List.mem_singleton.mp z]; exact hi
    rw [stt_snoc, stt_snoc, g2, hsq a ha, (N2.sq_ok a hb).2.1] at this
    unfold stq at this
    rw [getD_of ha, getD_of hb, getD_of h1, getD_of h2] at this
    exact this
  · have hl := A.lt a ha
    obtain ⟨g1, g2, _⟩ := N1.sq_ok a hl
    have := (hh _ g1).mp (by rw [g2]; exact ha)
    rw [← same _ g1, g2] at this
    exact this
  · have hl := B.lt a ha
    obtain ⟨g1, g2, _⟩ := N2.sq_ok a hl
    have := (hh _ g1).mpr (by rw [g2]; exact ha)
    rw [same _ g1, g2] at this
    exact this
theorem Least.same {m : Nat} {l1 l2 : List Nat → Prop} {t : List (List Nat)} {c : List Nat} (A : Least m l1 t c) (B : Least m l2 t c) : ∀ w : List Nat, (∀ i ∈ w, i < m) → (l1 w ↔ l2 w) := fun w hw => (A.ln w hw).trans (B.ln w hw).symm
end
end My
namespace My
open PySem PySem.Spec PyProof.Rows L2
variable [TB]
def pD (p : Nat × Nat) : PyData := .tuple [natD p.1, natD p.2]
/-- two tables side by side -/
def nx2 (m : Nat) (t u : List (List Nat)) (p : Nat × Nat) : List (Nat × Nat) := (List.range m).map fun i => (stq t p.1 i, stq u p.2 i)
theorem nx2_rea {m : Nat} {t u : List (List Nat)} {p : Nat × Nat} (h : Rea (nx2 m t u) (0, 0) p) : ∃ w : List Nat, (∀ i ∈ w, i < m) ∧ p = (stt t 0 w, stt u 0 w) := by
  induction h with
  | base => exact ⟨[], fun i hi => (by cases hi), rfl⟩
  | step _ hb ih =>
    obtain ⟨w, h1, rfl⟩ := ih
    obtain ⟨i, hi, rfl⟩ := List.mem_map.mp hb
    refine ⟨w ++ [i], fun j hj => (List.mem_append.mp hj).elim (h1 j) fun z => by rw [List.mem_singleton.mp z]; exact List.mem_range.mp hi, ?_⟩
    rw [stt_snoc, stt_snoc]
theorem nx2_lt {m L M : Nat} {t u : List (List Nat)} (T : TabOk m L t) (U : TabOk m M u) (hL : 0 < L) (hM : 0 < M) {p : Nat × Nat} (h : Rea (nx2 m t u) (0, 0) p) : p.1 < L ∧ p.2 < M := by
  obtain ⟨w, h1, rfl⟩ := nx2_rea h
  exact ⟨T.stt hL h1, U.stt hM h1⟩
theorem nx2_len {m L M : Nat} {t u : List (List Nat)} (T : TabOk m L t) (U : TabOk m M u) (hL : 0 < L) (hM : 0 < M) {S : List (Nat × Nat)} (nd : S.Nodup) (h : ∀ x ∈ S, Rea (nx2 m t u) (0, 0) x) : S.length ≤ L * M := by
  have := nd_sub (l := S.map fun p => p.1 * M + p.2) (m := List.range (L * M)) ?_ ?_
  · simpa using this
  · refine List.pairwise_map.mpr (List.Pairwise.imp_of_mem (fun {a b} ha hb ne e => ne ?_) nd)
    have h1 := (nx2_lt T U hL hM (h a ha)).2
    have h2 := (nx2_lt T U hL hM (h b hb)).2
    have e1 : a.2 = b.2 := by
      have := congrArg (· % M) e
      simp only [Nat.mul_add_mod_self_right, Nat.mod_eq_of_lt h1, Nat.mod_eq_of_lt h2] at this
      exact this
    have e2 : a.1 * M = b.1 * M := by omega
    exact Prod.ext (Nat.eq_of_mul_eq_mul_right hM e2) e1
  · intro x hx
    obtain ⟨p, hp, rfl⟩ := List.mem_map.mp hx
    obtain ⟨h1, h2⟩ := nx2_lt T U hL hM (h p hp)
    refine List.mem_range.mpr ?_
    have : (p.1 + 1) * M ≤ L * M := Nat.mul_le_mul_right M h1
    rw [Nat.add_mul] at this
    omega
end My
namespace My
open PySem PySem.Spec PyProof.Rows L2
/-- what may stand behind -/
def Dl (x : List Nat) : Prop := x = [] ∨ ∃ r, x = 44 :: r ∨ x = 41 :: r
structure Dec {α : Type} (enc : α → List Nat) : Prop where
  pd : ∀ a b x y, Dl x → Dl y → enc a ++ x = enc b ++ y → a = b ∧ x = y
  nb : ∀ a c r, enc a = c :: r → c ≠ 41
section
variable {α : Type} {enc : α → List Nat}
def encT (enc : α → List Nat) : List α → List Nat
  | [] => [40, 41]
  | a :: l => 40 :: (enc a ++ (l.flatMap (fun z => 44 :: 32 :: enc z) ++ if l.isEmpty = true then [44, 41] else [41]))
theorem Dec.tup (D : Dec enc) : Dec (encT enc) := by
  have go : ∀ (l m : List α) (x y : List Nat), (l.flatMap (fun z => 44 :: 32 :: enc z)) ++ 41 :: x = (m.flatMap (fun z => 44 :: 32 :: enc z)) ++ 41 :: y → l = m ∧ x = y := by
    intro l
    induction l with
    | nil =>
      intro m x y h
      cases m with
      | nil =>
        have h : 41 :: x = 41 :: y := h
        injection h with _ h
        exact ⟨rfl, h⟩
      | cons b m =>
        rw [List.flatMap_cons] at h
        have h : 41 :: x = 44 :: _ := h
        injection h with h _
        cases h
    | cons a l ih =>
      intro m x y h
      cases m with
      | nil =>
        rw [List.flatMap_cons] at h
        have h : 44 :: _ = 41 :: y := h
        injection h with h _
        cases h
      | cons b m =>
        rw [List.flatMap_cons, List.flatMap_cons, List.append_assoc, List.append_assoc] at h
        have h : 44 :: 32 :: (enc a ++ (l.flatMap (fun z => 44 :: 32 :: enc z) ++ 41 :: x)) = 44 :: 32 :: (enc b ++ (m.flatMap (fun z => 44 :: 32 :: enc z) ++ 41 :: y)) := h
        injection h with _ h
        injection h with _ h
        have dl : ∀ (l : List α) (x : List Nat), Dl (l.flatMap (fun z => 44 :: 32 :: enc z) ++ 41 :: x) := fun l x => by
          cases l with
          | nil => exact .inr ⟨x, .inr rfl⟩
          | cons c l => rw [List.flatMap_cons]; exact .inr ⟨_, .inl rfl⟩
        obtain ⟨h1, h2⟩ := D.pd a b _ _ (dl l x) (dl m y) h
        obtain ⟨h3, h4⟩ := ih m x y h2
        exact ⟨by rw [h1, h3], h4⟩
  refine ⟨fun l m x y hx hy h => ?_, fun l c r h => ?_⟩
  · cases l with
    | nil => cases m with
      | nil =>
        have h : 40 :: 41 :: x = 40 :: 41 :: y := h
        injection h with _ h
        injection h with _ h
        exact ⟨rfl, h⟩
      | cons b m =>
        have h : 40 :: 41 :: x = 40 :: ((enc b ++ (m.flatMap (fun z => 44 :: 32 :: enc z) ++ if m.isEmpty = true then [44, 41] else [41])) ++ y) := h
        injection h with _ h
        exfalso
        cases e : enc b with
        | cons c r =>
          rw [e] at h
          have h : 41 :: x = c :: _ := h
          injection h with h _
          exact D.nb b c r e h.symm
        | nil =>
          rw [e] at h
          cases m with
          | nil => have h : 41 :: x = 44 :: _ := h; injection h with h _; cases h
          | cons d m => rw [List.flatMap_cons] at h; have h : 41 :: x = 44 :: _ := h; injection h with h _; cases h
    | cons a l => cases m with
      | nil =>
        have h : 40 :: ((enc a ++ (l.flatMap (fun z => 44 :: 32 :: enc z) ++ if l.isEmpty = true then [44, 41] else [41])) ++ x) = 40 :: 41 :: y := h
        injection h with _ h
        exfalso
        cases e : enc a with
        | cons c r =>
          rw [e] at h
          have h : c :: _ = 41 :: y := h
          injection h with h _
          exact D.nb a c r e h
        | nil =>
          rw [e] at h
          cases l with
          | nil => have h : 44 :: _ = 41 :: y := h; injection h with h _; cases h
          | cons d m => rw [List.flatMap_cons] at h; have h : 44 :: _ = 41 :: y := h; injection h with h _; cases h
      | cons b m =>
        have h : 40 :: ((enc a ++ (l.flatMap (fun z => 44 :: 32 :: enc z) ++ if l.isEmpty = true then [44, 41] else [41])) ++ x) = 40 :: ((enc b ++ (m.flatMap (fun z => 44 :: 32 :: enc z) ++ if m.isEmpty = true then [44, 41] else [41])) ++ y) := h
        injection h with _ h
        rw [List.append_assoc, List.append_assoc, List.append_assoc, List.append_assoc] at h
        have dl : ∀ (l : List α) (x : List Nat), Dl (l.flatMap (fun z => 44 :: 32 :: enc z) ++ ((if l.isEmpty = true then [44, 41] else [41]) ++ x)) := fun l x => by
          cases l with
          | nil => exact .inr ⟨41 :: x, .inl rfl⟩
          | cons c l => rw [List.flatMap_cons]; exact .inr ⟨_, .inl rfl⟩
        obtain ⟨h1, h2⟩ := D.pd a b _ _ (dl l x) (dl m y) h
        subst h1
        cases l with
        | nil => cases m with
          | nil =>
            have h2 : 44 :: 41 :: x = 44 :: 41 :: y := h2
            injection h2 with _ h2
            injection h2 with _ h2
            exact ⟨rfl, h2⟩
          | cons d m =>
            rw [List.flatMap_cons] at h2
            have h2 : 44 :: 41 :: x = 44 :: 32 :: _ := h2
            injection h2 with _ h2
            injection h2 with h2 _
            cases h2
        | cons c l => cases m with
          | nil =>
            rw [List.flatMap_cons] at h2
            have h2 : 44 :: 32 :: _ = 44 :: 41 :: y := h2
            injection h2 with _ h2
            injection h2 with h2 _
            cases h2
          | cons d m =>
            obtain ⟨h3, h4⟩ := go (c :: l) (d :: m) x y h2
            exact ⟨by rw [h3], h4⟩
  · cases l with
    | nil => have h : 40 :: [41] = c :: r := h; injection h with h _; omega
    | cons a l => have h : 40 :: _ = c :: r := h; injection h with h _; omega
end
end My
namespace My
open PySem PySem.Spec PyProof.Rows L2
variable [TB]
theorem ac_rep {rs : List SyN} {t : List (List Nat)} {ac : List Nat} {L : Nat} (hr : ∀ r ∈ rs, Sm r) (hrl : rs.length ≤ 100) (T : TabOk rs.length L t) (hL : L ≤ 100) (ha : ∀ a ∈ ac, a ≤ 100000) (hal : ac.length ≤ 100) : repOk (acD rs t ac) := by
  have s1 : Sh (seqD rs) 1 (rs.length * 3) := by
    have := Sh.tup (dp := 0) (bk := 2) (ds := rs.map symD) fun d hd => by
      obtain ⟨a, h, rfl⟩ := List.mem_map.mp hd
      exact sh_sym (hr a h)
    rwa [List.length_map] at this
  have row : ∀ r : List Nat, (∀ a ∈ r, a ≤ 100000) → Sh (.tuple (r.map natD)) 1 r.length := fun r h => by
    have := Sh.tup (dp := 0) (bk := 0) (ds := r.map natD) fun d hd => by
      obtain ⟨a, h2, rfl⟩ := List.mem_map.mp hd
      exact sh_nat (h a h2)
    rw [List.length_map, Nat.zero_add, Nat.mul_one] at this
    exact this
  have s2 : Sh (tabD t) 2 (t.length * 101) := by
    have := Sh.tup (dp := 1) (bk := 100) (ds := t.map rwT) fun d hd => by
      obtain ⟨r, h, rfl⟩ := List.mem_map.mp hd
      obtain ⟨h1, h2⟩ := T.row r h
      exact (row r fun a ha => by have := h2 a ha; omega).mono (Nat.le_refl _) (by omega)
    rwa [List.length_map] at this
  have s3 := row ac ha
  have := T.len
  have all : Sh (acD rs t ac) 3 (3 * 20001) := by
    refine Sh.tup (dp := 2) (bk := 20000) (ds := [seqD rs, tabD t, .tuple (ac.map natD)]) fun d hd => ?_
    simp only [List.mem_cons, List.not_mem_nil, or_false] at hd
    rcases hd with rfl | rfl | rfl
    · exact s1.mono (by decide) (by omega)
    · exact s2.mono (by decide) (by omega)
    · exact s3.mono (by decide) (by omega)
  exact repOk_of all (by decide) (by decide)
theorem Least.rep {rs : List SyN} {l : List Nat → Prop} {t : List (List Nat)} {ac : List Nat} (A : Least rs.length l t ac) (hr : ∀ r ∈ rs, Sm r) (hrl : rs.length ≤ 100) (hL : t.length ≤ 100) : repOk (acD rs t ac) := by
  obtain ⟨E, N⟩ := A.near
  have hal : ac.length ≤ t.length := by
    have nd : ac.Nodup := A.up.imp fun h => Nat.ne_of_lt h
    have := nd_sub (l := ac) (m := List.range t.length) nd fun x hx => List.mem_range.mpr (A.lt x hx)
    simpa using this
  exact ac_rep hr hrl N.tab hL (fun a ha => by have := A.lt a ha; omega) (by omega)
end My
namespace My
open PySem PySem.Spec PyProof.Rows L2
/-- a chain: one symbol leads on, the others back to the start or nowhere -/
structure Chn (m L st : Nat) (t : List (List Nat)) : Prop where
  tab : TabOk m L t
  lt : st < m
  on : ∀ k, k < L → stq t k st = if k + 1 = L then k else k + 1
  off : ∀ k i, k < L → i < m → i ≠ st → stq t k i = 0 ∨ stq t k i = k
theorem Chn.run {m L st : Nat} {t : List (List Nat)} (C : Chn m L st t) : ∀ (j a : Nat), a < L → stt t a (List.replicate j st) = if a + j < L then a + j else L - 1 := by
  intro j
  induction j with
  | zero => intro a ha; rw [if_pos (by omega)]; rfl
  | succ j ih =>
    intro a ha
    rw [List.replicate_succ]
    show stt t (stq t a st) (List.replicate j st) = _
    rw [C.on a ha]
    by_cases h : a + 1 = L
    · rw [if_pos h, ih a ha, if_neg (by omega : ¬ a + (j + 1) < L)]
      split <;> omega
    · rw [if_neg h, ih _ (by omega)]
      by_cases h2 : a + (j + 1) < L
      · rw [if_pos (by omega), if_pos h2]; omega
      · rw [if_neg (by omega), if_neg h2]
theorem Chn.least [TB] {m L st : Nat} {t : List (List Nat)} (C : Chn m L st t) (hL : 1 ≤ L) : Least m (fun w => stt t 0 w = L - 1) t [L - 1] := by
  have hl := C.tab.len
  refine ⟨⟨fun k => (k - 1, st), by rw [hl]; exact C.tab, by omega, fun a h1 h2 => ?_, fun a b h1 h2 h3 => .inl (show a - 1 < b - 1 by omega), fun s i hs hi h0 z => ?_⟩, by simp, fun a ha => by rw [List.mem_singleton.mp ha]; omega, fun w _ => by rw [List.mem_singleton], fun a b ha hb h => ?_⟩
  · rw [hl] at h2
    refine ⟨show a - 1 < a by omega, C.lt, ?_⟩
    show stq t (a - 1) st = a
    rw [C.on _ (by omega), if_neg (by omega)]
    omega
  · rw [hl] at hs
    have z : s < stq t s i - 1 ∨ (s = stq t s i - 1 ∧ i < st) := z
    by_cases e : i = st
    · subst e
      rw [C.on s hs] at z h0
      split at z <;> omega
    · rcases C.off s i hs hi e with q | q <;> omega
  · rw [hl] at ha hb
    have main : ∀ a b, a < L → b < L → (∀ w : List Nat, (∀ i ∈ w, i < m) → (stt t a w ∈ [L - 1] ↔ stt t b w ∈ [L - 1])) → ¬ a < b := fun a b ha hb h hab => by
      have := h (List.replicate (L - 1 - b) st) fun i hi => by rw [(List.mem_replicate.mp hi).2]; exact C.lt
      rw [C.run _ _ ha, C.run _ _ hb, List.mem_singleton, List.mem_singleton, if_pos (by omega), if_pos (by omega)] at this
      omega
    have h1 := main a b ha hb h
    have h2 := main b a hb ha fun w hw => (h w hw).symm
    omega
end My
namespace My
open PySem PySem.Spec PyProof.Rows L2
def Sn (E : Nat → Nat × Nat) (L k i s : Nat) : Prop := 1 ≤ s ∧ s ≤ L ∧ ∀ a, a < L → (a < s ↔ a = 0 ∨ lx (E a) (k, i))
section
variable [TB] {m L : Nat} {t : List (List Nat)} {E : Nat → Nat × Nat} {k i s : Nat}
theorem Sn.start (N : Near m L t E) : Sn E L 0 0 1 := ⟨Nat.le_refl _, N.pos, fun a ha => ⟨fun h => .inl (by omega), fun h => h.elim (fun e => by omega) fun z => by unfold lx at z; simp at z⟩⟩
theorem Sn.row (S : Sn E L k 0 s) (N : Near m L t E) (hk : k < L) : k < s := by
  obtain ⟨h1, h2, h3⟩ := S
  by_cases e : k = 0
  · omega
  · exact (h3 k hk).mpr (.inr (.inl (N.par k (by omega) hk).1))
theorem Sn.le (S : Sn E L k i s) (N : Near m L t E) (hk : k < L) (hi : i < m) : stq t k i ≤ s := by
  obtain ⟨h1, h2, h3⟩ := S
  have ht := N.tab.stq hk hi
  refine Classical.byContradiction fun hc => ?_
  have hs : s < L := by omega
  have n1 : ¬ lx (E s) (k, i) := fun z => by have := (h3 s hs).mpr (.inr z); omega
  have n2 := N.inc s _ h1 (show s < stq t k i by omega) ht
  have n3 := N.fst k i hk hi (by omega)
  rcases lx_tot (E (stq t k i)) (k, i) with z | z | z
  · exact n1 (lx_tr n2 z)
  · rw [z] at n2; exact n1 n2
  · exact n3 z
theorem lx_next {p : Nat × Nat} : lx p (k, i + 1) ↔ lx p (k, i) ∨ p = (k, i) := by
  obtain ⟨a, b⟩ := p
  unfold lx
  simp only [Prod.mk.injEq]
  omega
theorem Sn.step (S : Sn E L k i s) (N : Near m L t E) (hk : k < L) (hi : i < m) : Sn E L k (i + 1) (if stq t k i = s then s + 1 else s) := by
  have hle := S.le N hk hi
  obtain ⟨h1, h2, h3⟩ := S
  have ht := N.tab.stq hk hi
  have at_ : ∀ a, a < L → a ≠ 0 → E a = (k, i) → a = stq t k i := fun a ha h0 e => by
    have := (N.par a (by omega) ha).2.2
    rw [e] at this
    exact this.symm
  split
  · rename_i e
    refine ⟨by omega, by omega, fun a ha => ?_⟩
    rw [lx_next]
    constructor
    · intro h
      by_cases ea : a = s
      · have n3 := N.fst k i hk hi (by omega)
        rw [e, ← ea] at n3
        rcases lx_tot (E a) (k, i) with z | z | z
        · exact .inr (.inl z)
        · exact .inr (.inr z)
        · exact absurd z n3
      · rcases (h3 a ha).mp (by omega) with z | z
        · exact .inl z
        · exact .inr (.inl z)
    · rintro (z | z | z)
      · omega
      · have := (h3 a ha).mpr (.inr z); omega
      · by_cases h0 : a = 0
        · omega
        · have := at_ a ha h0 z; omega
  · rename_i e
    refine ⟨h1, h2, fun a ha => ?_⟩
    rw [lx_next]
    constructor
    · intro h
      rcases (h3 a ha).mp h with z | z
      · exact .inl z
      · exact .inr (.inl z)
    · rintro (z | z | z)
      · omega
      · exact (h3 a ha).mpr (.inr z)
      · by_cases h0 : a = 0
        · omega
        · have := at_ a ha h0 z; omega
theorem Sn.next (S : Sn E L k m s) (N : Near m L t E) : Sn E L (k + 1) 0 s := by
  obtain ⟨h1, h2, h3⟩ := S
  refine ⟨h1, h2, fun a ha => (h3 a ha).trans ?_⟩
  by_cases h0 : a = 0
  · exact ⟨fun _ => .inl h0, fun _ => .inl h0⟩
  · have := (N.par a (by omega) ha).2.1
    unfold lx
    simp only
    omega
theorem Sn.all (S : Sn E L L 0 s) (N : Near m L t E) : s = L := by
  obtain ⟨h1, h2, h3⟩ := S
  by_cases e : L = 1
  · omega
  · have hp := N.pos
    have := (h3 (L - 1) (by omega)).mpr (.inr (.inl (by have := (N.par (L - 1) (by omega) (by omega)).1; simp only; omega)))
    omega
end
section
variable {β γ : Type} [DecidableEq β] [DecidableEq γ]
def fx (f : Nat → β) (n a : Nat) : Nat := (List.range n).findIdx fun b => decide (f b = f a)
end
section
variable [TB] {β : Type} [DecidableEq β] (mk : Nat → β) (R : List (List Nat)) (n : Nat)
def bk : Nat → Nat → Nat
  | 0 => fx mk n
  | k + 1 => fx (sgn R (bk k)) n
variable {mk R n} {m : Nat}
end
end My
namespace My
open PySem PySem.Spec PyProof.Rows L2
variable [TB]
/-- a tuple or a list -/
def sqT (tup : Bool) (ds : List PyData) : PyData := if tup = true then .tuple ds else .list ds
end My
namespace My
open PySem PySem.Spec PyProof.Rows L2
variable [TB]
/-- a canonical table: near, and no two states are the same behind every sequence -/
structure Canon (m : Nat) (t : List (List Nat)) (same : Nat → Nat → Prop) : Prop where
  near : ∃ E, Near m t.length t E
  red : ∀ a b, a < t.length → b < t.length → (∀ w : List Nat, (∀ i ∈ w, i < m) → same (stt t a w) (stt t b w)) → a = b
/-- what is the same behind every sequence is told by the sequences alone -/
theorem Canon.uniq {m : Nat} {t1 t2 : List (List Nat)} {s1 s2 : Nat → Nat → Prop} (A : Canon m t1 s1) (B : Canon m t2 s2) (r1 : ∀ a, s1 a a) (r2 : ∀ a, s2 a a)
    (h : ∀ v w : List Nat, (∀ i ∈ v, i < m) → (∀ i ∈ w, i < m) → (s1 (stt t1 0 v) (stt t1 0 w) ↔ s2 (stt t2 0 v) (stt t2 0 w))) : t1 = t2 := by
  obtain ⟨E1, N1⟩ := A.near
  obtain ⟨E2, N2⟩ := B.near
  have app : ∀ {v w : List Nat}, (∀ i ∈ v, i < m) → (∀ i ∈ w, i < m) → ∀ i ∈ v ++ w, i < m := fun hv hw i hi => (List.mem_append.mp hi).elim (hv i) (hw i)
  have eqv : ∀ v w : List Nat, (∀ i ∈ v, i < m) → (∀ i ∈ w, i < m) → (stt t1 0 v = stt t1 0 w ↔ stt t2 0 v = stt t2 0 w) := fun v w hv hw => by
    constructor
    · intro e
      refine B.red _ _ (N2.tab.stt N2.pos hv) (N2.tab.stt N2.pos hw) fun x hx => ?_
      rw [← stt_app, ← stt_app, ← h _ _ (app hv hx) (app hw hx), stt_app, stt_app, e]
      exact r1 _
    · intro e
      refine A.red _ _ (N1.tab.stt N1.pos hv) (N1.tab.stt N1.pos hw) fun x hx => ?_
      rw [← stt_app, ← stt_app, h _ _ (app hv hx) (app hw hx), stt_app, stt_app, e]
      exact r2 _
  have on : ∀ {t : List (List Nat)} {E : Nat → Nat × Nat} (N : Near m t.length t E), ∀ a, a < t.length → (∀ i ∈ sq E a, i < m) ∧ ∀ v : List Nat, (∀ i ∈ v, i < m) → stt t 0 v = stt t 0 (sq E a) → ¬ slx v (sq E a) := fun {t E} N a ha => by
    obtain ⟨h1, h2, _⟩ := N.sq_ok a ha
    refine ⟨h1, fun v hv e => ?_⟩
    have := N.least v hv
    rw [e, h2] at this
    exact this
  have all : ∀ {t : List (List Nat)} {E : Nat → Nat × Nat} (N : Near m t.length t E), ∀ w : List Nat, ((∀ i ∈ w, i < m) ∧ ∀ v : List Nat, (∀ i ∈ v, i < m) → stt t 0 v = stt t 0 w → ¬ slx v w) → ∃ a, a < t.length ∧ sq E a = w := fun {t E} N w hw => by
    have ha := N.tab.stt N.pos hw.1
    obtain ⟨h1, h2, _⟩ := N.sq_ok _ ha
    refine ⟨_, ha, ?_⟩
    have z1 := hw.2 _ h1 h2
    have z2 := N.least w hw.1
    rcases slx_tot (sq E (stt t 0 w)) w with z | z | z
    · exact absurd z z1
    · exact z
    · exact absurd z z2
  have key := enum_eq (P := fun w => (∀ i ∈ w, i < m) ∧ ∀ v : List Nat, (∀ i ∈ v, i < m) → stt t1 0 v = stt t1 0 w → ¬ slx v w) (f1 := sq E1) (f2 := sq E2) (n1 := t1.length) (n2 := t2.length) N1.sq_lt N2.sq_lt (on N1)
    (fun a ha => ⟨(on N2 a ha).1, fun v hv e => (on N2 a ha).2 v hv ((eqv v _ hv (on N2 a ha).1).mp e)⟩) (all N1) (fun w hw => all N2 w ⟨hw.1, fun v hv e => hw.2 v hv ((eqv v w hv hw.1).mpr e)⟩)
  have hn : t1.length = t2.length := by
    have k1 := (key t1.length).1
    have k2 := (key t2.length).1
    omega
  have hsq : ∀ a, a < t1.length → sq E1 a = sq E2 a := fun a ha => (key a).2 ha
  have same : ∀ v : List Nat, (∀ i ∈ v, i < m) → stt t1 0 v = stt t2 0 v := fun v hv => by
    have hb := N1.tab.stt N1.pos hv
    obtain ⟨h1, h2, _⟩ := N1.sq_ok _ hb
    have := (eqv _ v h1 hv).mp h2
    rw [← this, hsq _ hb]
    exact (N2.sq_ok _ (by omega)).2.1.symm
  refine List.ext_getElem hn fun a ha hb => List.ext_getElem ?_ fun i h1 h2 => ?_
  · rw [(N1.tab.row _ (List.getElem_mem ha)).1, (N2.tab.row _ (List.getElem_mem hb)).1]
  · have hi : i < m := by rw [← (N1.tab.row _ (List.getElem_mem ha)).1]; exact h1
    obtain ⟨g1, g2, _⟩ := N1.sq_ok a ha
    have := same (sq E1 a ++ [i]) fun j hj => (List.mem_append.mp hj).elim (g1 j) fun z => by rw [List.mem_singleton.mp z]; exact hi
    rw [stt_snoc, stt_snoc, g2, hsq a ha, (N2.sq_ok a hb).2.1] at this
    unfold stq at this
    rw [getD_of ha, getD_of hb, getD_of h1, getD_of h2] at this
    exact this
end My
namespace My
open PySem PySem.Spec PyProof.Rows L2
section
structure KeyT {α : Type} (enc : α → PyData) (d : Nat) : Prop where
  inj : ∀ a b, canon (enc a) = canon (enc b) → a = b
  som : ∀ a, ∃ k, canon (enc a) = some k ∧ k.depth ≤ d
variable {α : Type} {enc : α → PyData} {d : Nat}
theorem KeyT.all (h : KeyT enc d) : ∀ l : List α, ∃ ks, canons (l.map enc) = some ks ∧ NestedKey.depthAll ks ≤ d
  | [] => ⟨[], by rw [List.map_nil, canons], by simp [NestedKey.depthAll]⟩
  | a :: l => by
    obtain ⟨k, h1, h2⟩ := h.som a
    obtain ⟨ks, h3, h4⟩ := KeyT.all h l
    refine ⟨k :: ks, by rw [List.map_cons, canons, h1, h3], ?_⟩
    simp [NestedKey.depthAll]
    omega
theorem KeyT.injs (h : KeyT enc d) : ∀ l m : List α, canons (l.map enc) = canons (m.map enc) → l = m
  | [], [], _ => rfl
  | [], b :: m, e => by
    obtain ⟨k, h1, _⟩ := h.som b
    obtain ⟨ks, h3, _⟩ := h.all m
    rw [List.map_nil, List.map_cons, canons, canons, h1, h3] at e
    cases e
  | a :: l, [], e => by
    obtain ⟨k, h1, _⟩ := h.som a
    obtain ⟨ks, h3, _⟩ := h.all l
    rw [List.map_nil, List.map_cons, canons, canons, h1, h3] at e
    cases e
  | a :: l, b :: m, e => by
    obtain ⟨k, h1, _⟩ := h.som a
    obtain ⟨ks, h3, _⟩ := h.all l
    obtain ⟨k', h1', _⟩ := h.som b
    obtain ⟨ks', h3', _⟩ := h.all m
    rw [List.map_cons, List.map_cons, canons, canons, h1, h3, h1', h3'] at e
    injection e with e
    injection e with e1 e2
    rw [h.inj a b (by rw [h1, h1', e1]), KeyT.injs h l m (by rw [h3, h3', e2])]
theorem KeyT.tup (h : KeyT enc d) : KeyT (fun l : List α => .tuple (l.map enc)) (d + 1) := by
  refine ⟨fun l m e => h.injs l m ?_, fun l => ?_⟩
  · obtain ⟨ks, h3, _⟩ := h.all l
    obtain ⟨ks', h3', _⟩ := h.all m
    rw [canon, canon, h3, h3'] at e
    injection e with e
    injection e with e
    rw [h3, h3', e]
  · obtain ⟨ks, h3, h4⟩ := h.all l
    refine ⟨.tup ks, by rw [canon, h3]; rfl, ?_⟩
    simp [NestedKey.depth]
    omega
theorem KeyT.key (h : KeyT enc d) (hd : d ≤ 7) : KeyE (fun l : List α => .tuple (l.map enc)) := ⟨h.tup.inj, 3, by decide, fun l => by
  obtain ⟨k, h1, h2⟩ := h.tup.som l
  show (match canon (.tuple (l.map enc)) with | some k => if k.depth ≤ 8 then 3 else 0 | none => 0) = 3
  rw [h1]
  have : k.depth ≤ 8 := by omega
  simp only [this, if_true]⟩
end
section
variable [TB]
structure LeastM (rs : List SyN) (o : List Nat → Nat → List Nat → List SyN) (M : Two) : Prop where
  rq : M.rs = rs
  lc : Canon rs.length M.lf fun a b => ∀ i, i < rs.length → ∀ y, y < M.rt.length → M.at a i y = M.at b i y
  rc : Canon rs.length M.rt fun a b => ∀ x, x < M.lf.length → ∀ i, i < rs.length → M.at x i a = M.at x i b
  ob : ∀ u v : List Nat, (∀ j ∈ u, j < rs.length) → (∀ j ∈ v, j < rs.length) → ∀ i, i < rs.length → M.at (stt M.lf 0 u) i (stt M.rt 0 v) = o u i v
  sh : M.ou.length = M.lf.length ∧ ∀ r ∈ M.ou, r.length = rs.length ∧ ∀ c ∈ r, c.length = M.rt.length
theorem LeastM.obL {rs : List SyN} {o : List Nat → Nat → List Nat → List SyN} {M : Two} (A : LeastM rs o M) {u w : List Nat} (hu : ∀ j ∈ u, j < rs.length) (hw : ∀ j ∈ w, j < rs.length) :
    (∀ i, i < rs.length → ∀ y, y < M.rt.length → M.at (stt M.lf 0 u) i y = M.at (stt M.lf 0 w) i y) ↔ ∀ i, i < rs.length → ∀ v : List Nat, (∀ j ∈ v, j < rs.length) → o u i v = o w i v := by
  obtain ⟨E, N⟩ := A.rc.near
  constructor
  · intro h i hi v hv
    rw [← A.ob u v hu hv i hi, ← A.ob w v hw hv i hi]
    exact h i hi _ (N.tab.stt N.pos hv)
  · intro h i hi y hy
    obtain ⟨g1, g2, _⟩ := N.sq_ok y hy
    have := h i hi _ g1
    rw [← A.ob u _ hu g1 i hi, ← A.ob w _ hw g1 i hi, g2] at this
    exact this
theorem LeastM.obR {rs : List SyN} {o : List Nat → Nat → List Nat → List SyN} {M : Two} (A : LeastM rs o M) {u w : List Nat} (hu : ∀ j ∈ u, j < rs.length) (hw : ∀ j ∈ w, j < rs.length) :
    (∀ x, x < M.lf.length → ∀ i, i < rs.length → M.at x i (stt M.rt 0 u) = M.at x i (stt M.rt 0 w)) ↔ ∀ i, i < rs.length → ∀ v : List Nat, (∀ j ∈ v, j < rs.length) → o v i u = o v i w := by
  obtain ⟨E, N⟩ := A.lc.near
  constructor
  · intro h i hi v hv
    rw [← A.ob v u hv hu i hi, ← A.ob v w hv hw i hi]
    exact h _ (N.tab.stt N.pos hv) i hi
  · intro h x hx i hi
    obtain ⟨g1, g2, _⟩ := N.sq_ok x hx
    have := h i hi _ g1
    rw [← A.ob _ u g1 hu i hi, ← A.ob _ w g1 hw i hi, g2] at this
    exact this
theorem LeastM.uniq {rs : List SyN} {o p : List Nat → Nat → List Nat → List SyN} {M M' : Two} (A : LeastM rs o M) (B : LeastM rs p M') (h : ∀ u v : List Nat, (∀ j ∈ u, j < rs.length) → (∀ j ∈ v, j < rs.length) → ∀ i, i < rs.length → o u i v = p u i v) : M = M' := by
  have e1 : M.lf = M'.lf := A.lc.uniq B.lc (fun a i _ y _ => rfl) (fun a i _ y _ => rfl) fun v w hv hw => by
    rw [A.obL hv hw, B.obL hv hw]
    refine forall_congr' fun i => forall_congr' fun hi => forall_congr' fun x => forall_congr' fun hx => ?_
    rw [h v x hv hx i hi, h w x hw hx i hi]
  have e2 : M.rt = M'.rt := A.rc.uniq B.rc (fun a x _ i _ => rfl) (fun a x _ i _ => rfl) fun v w hv hw => by
    rw [A.obR hv hw, B.obR hv hw]
    refine forall_congr' fun i => forall_congr' fun hi => forall_congr' fun x => forall_congr' fun hx => ?_
    rw [h x v hx hv i hi, h x w hx hw i hi]
  obtain ⟨E, N⟩ := A.lc.near
  obtain ⟨F, O⟩ := A.rc.near
  obtain ⟨a1, a2⟩ := A.sh
  obtain ⟨b1, b2⟩ := B.sh
  have at_ : ∀ x i y, x < M.lf.length → i < rs.length → y < M.rt.length → M.at x i y = M'.at x i y := fun x i y hx hi hy => by
    obtain ⟨g1, g2, _⟩ := N.sq_ok x hx
    obtain ⟨k1, k2, _⟩ := O.sq_ok y hy
    have q1 := A.ob _ _ g1 k1 i hi
    have q2 := B.ob _ _ g1 k1 i hi
    rw [← e1, ← e2, g2, k2] at q2
    rw [g2, k2] at q1
    rw [q1, q2]
    exact h _ _ g1 k1 i hi
  have e3 : M.ou = M'.ou := by
    refine List.ext_getElem (by rw [a1, b1, e1]) fun x h1 h2 => ?_
    obtain ⟨c1, c2⟩ := a2 _ (List.getElem_mem h1)
    obtain ⟨d1, d2⟩ := b2 _ (List.getElem_mem h2)
    refine List.ext_getElem (by rw [c1, d1]) fun i h3 h4 => ?_
    have f1 := c2 _ (List.getElem_mem h3)
    have f2 := d2 _ (List.getElem_mem h4)
    refine List.ext_getElem (by rw [f1, f2, e2]) fun y h5 h6 => ?_
    have := at_ x i y (by omega) (by omega) (by omega)
    unfold Two.at at this
    rw [getD_of h1, getD_of h3, getD_of h5, getD_of h2, getD_of h4, getD_of h6] at this
    exact this
  cases M
  cases M'
  have e4 := A.rq.trans B.rq.symm
  simp only at e1 e2 e3 e4
  rw [e1, e2, e3, e4]
end
end My
namespace My
open PySem PySem.Spec PyProof.Rows L2
variable [TB]
def run2 (t u : List (List Nat)) (w : List Nat) : Nat × Nat := (stt t 0 w, stt u 0 w)
structure PartsW (m : Nat) (t u : List (List Nat)) (ac bc : List Nat) (w : List Nat) : Prop where
  ok : ∀ i ∈ w, i < m
  ne : ¬ (stt t 0 w ∈ ac ↔ stt u 0 w ∈ bc)
  least : ∀ v : List Nat, (∀ i ∈ v, i < m) → slx v w → (stt t 0 v ∈ ac ↔ stt u 0 v ∈ bc)
def Parts (m : Nat) (t u : List (List Nat)) (ac bc : List Nat) (o : Option (List Nat)) : Prop := match o with
  | none => ∀ v : List Nat, (∀ i ∈ v, i < m) → (stt t 0 v ∈ ac ↔ stt u 0 v ∈ bc)
  | some w => PartsW m t u ac bc w
theorem Parts.uniq {m : Nat} {t u : List (List Nat)} {ac bc : List Nat} : ∀ {o p : Option (List Nat)}, Parts m t u ac bc o → Parts m t u ac bc p → o = p
  | none, none, _, _ => rfl
  | none, some w, a, b => absurd (a w b.ok) b.ne
  | some w, none, a, b => absurd (b w a.ok) a.ne
  | some w, some v, a, b => by
    rcases slx_tot w v with h | h | h
    · exact absurd (b.least w a.ok h) a.ne
    · rw [h]
    · exact absurd (a.least v b.ok h) b.ne
theorem Parts.self {m : Nat} {t : List (List Nat)} {ac : List Nat} {o : Option (List Nat)} (h : Parts m t t ac ac o) : o = none := by
  cases o with
  | none => rfl
  | some w => exact absurd Iff.rfl h.ne
structure Ways (m : Nat) (t u : List (List Nat)) (S : List (Nat × Nat)) (ws : List (List Nat)) (k j : Nat) : Prop where
  len : ws.length = S.length
  zero : ws[0]? = some []
  ok : ∀ (a : Nat) (w : List Nat), ws[a]? = some w → (∀ i ∈ w, i < m) ∧ S[a]? = some (run2 t u w)
  up : ws.Pairwise slx
  src : ∀ (a : Nat) (w : List Nat), ws[a]? = some w → a = 0 ∨ ∃ s i w', ws[s]? = some w' ∧ w = w' ++ [i] ∧ lx (s, i) (k, j)
  done : ∀ s i, lx (s, i) (k, j) → i < m → ∃ (w' : List Nat) (p : Nat) (w : List Nat), ws[s]? = some w' ∧ ws[p]? = some w ∧ S[p]? = some (run2 t u (w' ++ [i])) ∧ ¬ slx (w' ++ [i]) w
variable {m : Nat} {t u : List (List Nat)} {S : List (Nat × Nat)} {ws : List (List Nat)} {k j : Nat}
theorem pw_get {ws : List (List Nat)} (h : ws.Pairwise slx) {a b : Nat} {x y : List Nat} (ha : ws[a]? = some x) (hb : ws[b]? = some y) (hab : a < b) : slx x y := by
  obtain ⟨h1, rfl⟩ := List.getElem?_eq_some_iff.mp ha
  obtain ⟨h2, rfl⟩ := List.getElem?_eq_some_iff.mp hb
  exact List.pairwise_iff_getElem.mp h a b h1 h2 hab
theorem Ways.start : Ways m t u [(0, 0)] [[]] 0 0 := by
  refine ⟨rfl, rfl, fun a w h => ?_, by simp, fun a w h => ?_, fun s i h => ?_⟩
  · have : a = 0 := by have := (List.getElem?_eq_some_iff.mp h).1; simpa using this
    subst this
    cases h
    exact ⟨fun i hi => (by cases hi), rfl⟩
  · have : a = 0 := by have := (List.getElem?_eq_some_iff.mp h).1; simpa using this
    exact .inl this
  · unfold lx at h; simp at h
/-- what is there is before the next way -/
theorem Ways.before (W : Ways m t u S ws k j) {wk : List Nat} (hk : ws[k]? = some wk) {a : Nat} {w : List Nat} (ha : ws[a]? = some w) : slx w (wk ++ [j]) := by
  rcases W.src a w ha with rfl | ⟨s, i, w', h1, rfl, h2⟩
  · rw [W.zero] at ha; cases ha
    exact slx_nil (by simp)
  · rcases h2 with h2 | ⟨h2, h3⟩
    · exact slx_snoc (pw_get W.up h1 hk h2)
    · have h2 : s = k := h2
      subst h2
      rw [h1] at hk; cases hk
      exact slx_last h3
theorem lx_stp {s i k j : Nat} (h : lx (s, i) (k, j + 1)) : lx (s, i) (k, j) ∨ (s = k ∧ i = j) := by
  unfold lx at *; simp only at *; omega
theorem Ways.there (W : Ways m t u S ws k j) {wk : List Nat} (hk : ws[k]? = some wk) (hy : run2 t u (wk ++ [j]) ∈ S) : Ways m t u S ws k (j + 1) := by
  refine ⟨W.len, W.zero, W.ok, W.up, fun a w h => (W.src a w h).imp id fun ⟨s, i, w', h1, h2, h3⟩ => ⟨s, i, w', h1, h2, by unfold lx at *; simp only at *; omega⟩, fun s i h hi => ?_⟩
  rcases lx_stp h with h | ⟨rfl, rfl⟩
  · exact W.done s i h hi
  · obtain ⟨p, hp, e⟩ := List.getElem_of_mem hy
    have hw : p < ws.length := by rw [W.len]; exact hp
    refine ⟨wk, p, ws[p], hk, List.getElem?_eq_getElem hw, by rw [List.getElem?_eq_getElem hp, e], fun z => ?_⟩
    exact slx_irr _ (slx_tr z (W.before hk (List.getElem?_eq_getElem hw)))
theorem Ways.new (W : Ways m t u S ws k j) {wk : List Nat} (hk : ws[k]? = some wk) (hj : j < m) : Ways m t u (S ++ [run2 t u (wk ++ [j])]) (ws ++ [wk ++ [j]]) k (j + 1) := by
  have hp : 0 < ws.length := (List.getElem?_eq_some_iff.mp W.zero).1
  have old : ∀ {a : Nat} {w : List Nat}, ws[a]? = some w → (ws ++ [wk ++ [j]])[a]? = some w := fun {a w} h => by
    rw [List.getElem?_append_left (List.getElem?_eq_some_iff.mp h).1]; exact h
  have oldS : ∀ {a : Nat} {w : Nat × Nat}, S[a]? = some w → (S ++ [run2 t u (wk ++ [j])])[a]? = some w := fun {a w} h => by
    rw [List.getElem?_append_left (List.getElem?_eq_some_iff.mp h).1]; exact h
  have cas : ∀ {a : Nat} {w : List Nat}, (ws ++ [wk ++ [j]])[a]? = some w → ws[a]? = some w ∨ (a = ws.length ∧ w = wk ++ [j]) := fun {a w} h => by
    rw [List.getElem?_append] at h
    split at h
    · exact .inl h
    · rename_i hl
      have := (List.getElem?_eq_some_iff.mp h).1
      have ea : a = ws.length := by simp at this; omega
      subst ea
      rw [Nat.sub_self] at h
      exact .inr ⟨rfl, by simpa using h.symm⟩
  have okk := W.ok k wk hk
  have lasts : (S ++ [run2 t u (wk ++ [j])])[ws.length]? = some (run2 t u (wk ++ [j])) := by rw [W.len, List.getElem?_append_right (Nat.le_refl _), Nat.sub_self]; rfl
  have lastw : (ws ++ [wk ++ [j]])[ws.length]? = some (wk ++ [j]) := by rw [List.getElem?_append_right (Nat.le_refl _), Nat.sub_self]; rfl
  have more : ∀ {s i}, lx (s, i) (k, j) → lx (s, i) (k, j + 1) := fun h => by unfold lx at *; simp only at *; omega
  refine ⟨by rw [List.length_append, List.length_append, W.len]; rfl, old W.zero, fun a w h => ?_, ?_, fun a w h => ?_, fun s i h hi => ?_⟩
  · rcases cas h with h | ⟨rfl, rfl⟩
    · exact ⟨(W.ok a w h).1, oldS (W.ok a w h).2⟩
    · refine ⟨fun i hi => ?_, lasts⟩
      rcases List.mem_append.mp hi with z | z
      · exact okk.1 i z
      · rw [List.mem_singleton.mp z]; exact hj
  · refine List.pairwise_append.mpr ⟨W.up, by simp, fun a ha b hb => ?_⟩
    rw [List.mem_singleton.mp hb]
    obtain ⟨p, hp, rfl⟩ := List.getElem_of_mem ha
    exact W.before hk (List.getElem?_eq_getElem hp)
  · rcases cas h with h | ⟨rfl, rfl⟩
    · rcases W.src a w h with z | ⟨s, i, w', h1, h2, h3⟩
      · exact .inl z
      · exact .inr ⟨s, i, w', old h1, h2, more h3⟩
    · exact .inr ⟨k, j, wk, old hk, rfl, by unfold lx; simp⟩
  · rcases lx_stp h with h | ⟨rfl, rfl⟩
    · obtain ⟨w', p, w, h1, h2, h3, h4⟩ := W.done s i h hi
      exact ⟨w', p, w, old h1, old h2, oldS h3, h4⟩
    · exact ⟨wk, ws.length, wk ++ [i], old hk, lastw, lasts, slx_irr _⟩
theorem Ways.row (W : Ways m t u S ws k m) : Ways m t u S ws (k + 1) 0 :=
  ⟨W.len, W.zero, W.ok, W.up, fun a w h => (W.src a w h).imp id fun ⟨s, i, w', h1, h2, h3⟩ => ⟨s, i, w', h1, h2, by unfold lx at *; simp only at *; omega⟩, fun s i h hi => W.done s i (by unfold lx at *; simp only at *; omega) hi⟩
/-- the ways are the first ones -/
theorem Ways.le (W : Ways m t u S ws k 0) : ∀ v : List Nat, (∀ i ∈ v, i < m) → (∀ wk, ws[k]? = some wk → slx v wk) → ∃ (p : Nat) (w : List Nat), ws[p]? = some w ∧ S[p]? = some (run2 t u v) ∧ ¬ slx v w ∧ (k < ws.length → p < k) := by
  have pk : ∀ {v w : List Nat} {p : Nat}, (∀ wk, ws[k]? = some wk → slx v wk) → ws[p]? = some w → ¬ slx v w → k < ws.length → p < k := fun {v w p} hv hw hn hk => by
    have hk' : ws[k]? = some ws[k] := List.getElem?_eq_getElem hk
    have hvk := hv _ hk'
    rcases Nat.lt_trichotomy p k with h | h | h
    · exact h
    · subst h; rw [hk'] at hw; cases hw; exact absurd hvk hn
    · exact absurd (slx_tr hvk (pw_get W.up hk' hw h)) hn
  intro v
  induction v using snocRec with
  | h0 =>
    intro _ hv
    have n : ¬ slx [] [] := slx_irr _
    exact ⟨0, [], W.zero, (W.ok 0 [] W.zero).2, n, pk hv W.zero n⟩
  | hs l a ih =>
    intro hok hv
    have hl : slx l (l ++ [a]) := .inl (by simp)
    have hv' : ∀ wk, ws[k]? = some wk → slx l wk := fun wk h => slx_tr hl (hv wk h)
    obtain ⟨p, w, h1, h2, h3, h4⟩ := ih (fun i hi => hok i (List.mem_append_left _ hi)) hv'
    have hplt : p < ws.length := (List.getElem?_eq_some_iff.mp h1).1
    have ha := hok a (by simp)
    have hpk : p < k := by
      by_cases hk : k < ws.length
      · exact h4 hk
      · omega
    obtain ⟨w', q, w2, g1, g2, g3, g4⟩ := W.done p a (.inl hpk) ha
    rw [h1] at g1; cases g1
    have e : run2 t u (w ++ [a]) = run2 t u (l ++ [a]) := by
      have := (W.ok p w h1).2
      rw [h2] at this
      have e := Option.some.inj this
      unfold run2 at e ⊢
      injection e with e1 e2
      have e3 : ∀ (t : List (List Nat)) (l : List Nat), stt t 0 (l ++ [a]) = stq t (stt t 0 l) a := fun t l => by unfold stt; rw [List.foldl_append]; rfl
      rw [e3, e3, e3, e3, e1, e2]
    rw [e] at g3
    have n : ¬ slx (l ++ [a]) w2 := fun z => by
      rcases sle_of h3 with h | h
      · exact g4 (slx_tr (slx_snoc h) z)
      · rw [← h] at z; exact g4 z
    exact ⟨q, w2, g2, g3, n, pk hv g2 n⟩
theorem keyT_nat : KeyT natD 1 := ⟨key_nat.inj, fun a => ⟨.num (a : Int), by show canon (.int (a : Int)) = _; rw [canon], by simp [NestedKey.depth]⟩⟩
theorem key_pD : KeyE pD := by
  have K : KeyE (fun l : List Nat => .tuple (l.map natD)) := keyT_nat.key (by decide)
  obtain ⟨z, h1, h2⟩ := K.one
  refine ⟨fun a b h => ?_, z, h1, fun a => h2 [a.1, a.2]⟩
  have := K.inj [a.1, a.2] [b.1, b.2] h
  injection this with e1 e2
  injection e2 with e2 _
  exact Prod.ext e1 e2
theorem ixOf_nat {v : Nat} : ∀ {ns : List Nat} {i : Nat}, ns[i]? = some v → (∀ j, j < i → ns[j]? ≠ some v) → ixOf (natD v) (ns.map natD) = some i
  | [], _, h, _ => by simp at h
  | n :: ns, 0, h, _ => by
    cases h
    rw [List.map_cons, ixOf, show PyData.eqv (natD v) (natD v) = true from by show PyData.eqv (.int _) (.int _) = true; rw [eqv_ii]; simp]; rfl
  | n :: ns, i + 1, h, hn => by
    have h0 : n ≠ v := fun z => hn 0 (by omega) (by rw [z]; rfl)
    rw [List.map_cons, ixOf, show PyData.eqv (natD n) (natD v) = false from by show PyData.eqv (.int _) (.int _) = false; rw [eqv_ii]; simp; omega, ixOf_nat (ns := ns) (i := i) (by simpa using h) fun j hj => by simpa using hn (j + 1) (by omega)]; rfl
theorem Chn.first {L st : Nat} (C : Chn m L st t) (hL : 2 ≤ L) : ixOf (natD 1) ((t.getD 0 []).map natD) = some st := by
  have hl := (C.tab.at (by omega : 0 < L)).1
  have ev : ∀ i, i < m → (t.getD 0 [])[i]? = some (stq t 0 i) := fun i hi => by
    have hi' : i < (t.getD 0 []).length := by rw [hl]; exact hi
    unfold stq
    rw [List.getElem?_eq_getElem hi', getD_of hi']
  refine ixOf_nat ?_ fun j hj z => ?_
  · rw [ev st C.lt, C.on 0 (by omega), if_neg (by omega)]
  · rw [ev j (by have := C.lt; omega)] at z
    have := C.off 0 j (by omega) (by have := C.lt; omega) (by omega)
    have := Option.some.inj z
    omega
end My
namespace My
open PySem PySem.Spec PyProof.Rows L2
variable [TB]
/-- signs that are compared -/
structure Sig {β : Type} [DecidableEq β] (P : β → Prop) (enc : β → PyData) (d : Nat) : Prop where
  eqv : ∀ x y, PyData.eqv (enc x) (enc y) = decide (x = y)
  can : ∀ x, P x → (enc x).canLay0 = true ∧ (enc x).depth ≤ d ∧ (enc x).hasDict = false
section
variable {β : Type} [DecidableEq β] {P : β → Prop} {enc : β → PyData} {d : Nat}
theorem Sig.eqvs (h : Sig P enc d) : ∀ l m : List β, PyData.eqvAll (l.map enc) (m.map enc) = decide (l = m)
  | [], [] => by simp [PyData.eqvAll]
  | [], y :: ys => by simp [PyData.eqvAll]
  | x :: xs, [] => by simp [PyData.eqvAll]
  | x :: xs, y :: ys => by
    rw [List.map_cons, List.map_cons, PyData.eqvAll, Sig.eqvs h xs ys, h.eqv, Bool.eq_iff_iff]
    simp
theorem Sig.cans (h : Sig P enc d) : ∀ l : List β, (∀ x ∈ l, P x) → PyData.canLayAll0 (l.map enc) = true ∧ PyData.depthAll (l.map enc) ≤ d ∧ PyData.hasDictAll (l.map enc) = false
  | [], _ => by simp [PyData.canLayAll0, PyData.depthAll, PyData.hasDictAll]
  | x :: l, hp => by
    obtain ⟨h1, h2, h3⟩ := h.can x (hp x List.mem_cons_self)
    obtain ⟨g1, g2, g3⟩ := Sig.cans h l fun y hy => hp y (List.mem_cons_of_mem _ hy)
    rw [List.map_cons, PyData.canLayAll0, PyData.depthAll, PyData.hasDictAll, h1, g1, h3, g3]
    exact ⟨rfl, by omega, rfl⟩
theorem Sig.seq (h : Sig P enc d) (u : Bool) : Sig (fun l : List β => ∀ x ∈ l, P x) (fun l => sqT u (l.map enc)) (d + 1) := by
  refine ⟨fun l m => ?_, fun l hp => ?_⟩
  · cases u
    · show PyData.eqv (.list _) (.list _) = _
      rw [PyData.eqv, h.eqvs]
    · show PyData.eqv (.tuple _) (.tuple _) = _
      rw [PyData.eqv, h.eqvs]
  · obtain ⟨g1, g2, g3⟩ := h.cans l hp
    cases u
    · show (PyData.list _).canLay0 = true ∧ (PyData.list _).depth ≤ _ ∧ (PyData.list _).hasDict = false
      rw [PyData.canLay0, PyData.depth, PyData.hasDict, g1, g3]
      exact ⟨rfl, by omega, rfl⟩
    · show (PyData.tuple _).canLay0 = true ∧ (PyData.tuple _).depth ≤ _ ∧ (PyData.tuple _).hasDict = false
      rw [PyData.canLay0, PyData.depth, PyData.hasDict, g1, g3]
      exact ⟨rfl, by omega, rfl⟩
end
end My
namespace My
open PySem PySem.Spec PyProof.Rows L2
variable [TB]
theorem Sig.refl {β : Type} [DecidableEq β] {P : β → Prop} {enc : β → PyData} {d : Nat} (h : Sig P enc d) (hd : d ≤ 60) {l : List β} (hp : ∀ x ∈ l, P x) : eqOk (.tuple (l.map enc)) (.tuple (l.map enc)) = true ∧ PyData.eqv (.tuple (l.map enc)) (.tuple (l.map enc)) = true := by
  obtain ⟨g1, g2, g3⟩ := h.cans l hp
  have sh : SeqAt.shaped (.tuple (l.map enc)) = true := by
    unfold SeqAt.shaped
    rw [PyData.canLay0, PyData.depth, g1, Bool.true_and, decide_eq_true_iff]
    omega
  refine ⟨by unfold eqOk; rw [sh]; simp, ?_⟩
  rw [PyData.eqv, h.eqvs, decide_eq_true rfl]
end My
namespace My
open PySem PySem.Spec PyProof.Rows L2
variable [TB]
def leavN (l : List Nat) : M := .lst (l.map fun s => .leaf (natD s))
def trM (m L : Nat) (F : Nat → Nat → List Nat) : List M := (List.range m).map fun i => .lst ((List.range L).map fun a => leavN (F i a))
def trD (m L : Nat) (F : Nat → Nat → List Nat) : PyData := .list ((List.range m).map fun i => .list ((List.range L).map fun a => .list ((F i a).map natD)))
def upN3 (F : Nat → Nat → List Nat) (j b s : Nat) : Nat → Nat → List Nat := fun i a => if i = j ∧ a = b then F i a ++ [s] else F i a
theorem trM_get {m L : Nat} {F : Nat → Nat → List Nat} {i : Nat} (h : i < m) : (trM m L F)[i]? = some (.lst ((List.range L).map fun a => leavN (F i a))) := by
  unfold trM
  rw [List.getElem?_map, List.getElem?_range h]; rfl
theorem trM_get2 {L : Nat} {G : Nat → List Nat} {a : Nat} (h : a < L) : ((List.range L).map fun a => leavN (G a))[a]? = some (.lst ((G a).map fun s => .leaf (natD s))) := by
  rw [List.getElem?_map, List.getElem?_range h]; rfl
theorem trM_app {m L : Nat} {F : Nat → Nat → List Nat} {j b s : Nat} (hj : j < m) (hb : b < L) :
    (trM m L F).set j (.lst (((List.range L).map fun a => leavN (F j a)).set b (.lst (((F j b).map fun s => .leaf (natD s)) ++ [.leaf (natD s)])))) = trM m L (upN3 F j b s) := by
  refine List.ext_getElem? fun i => ?_
  by_cases hi : i < m
  · rw [trM_get hi, List.getElem?_set]
    by_cases e : j = i
    · subst e
      rw [if_pos rfl, if_pos (by simpa [trM] using hj)]
      congr 2
      refine List.ext_getElem? fun a => ?_
      by_cases ha : a < L
      · rw [List.getElem?_set]
        by_cases e2 : b = a
        · subst e2
          rw [if_pos rfl, if_pos (by simpa using hb), trM_get2 hb]
          unfold upN3
          simp
        · rw [if_neg e2, trM_get2 ha, trM_get2 ha]
          unfold upN3
          rw [if_neg (fun z => e2 z.2.symm)]
      · rw [List.getElem?_eq_none (by simp; omega), List.getElem?_eq_none (by simp; omega)]
    · rw [if_neg e, trM_get hi]
      unfold upN3
      have : ∀ a, ¬ (i = j ∧ a = b) := fun a z => e z.1.symm
      simp only [this, if_false]
  · rw [List.getElem?_eq_none (by simp [trM]; omega), List.getElem?_eq_none (by simp [trM]; omega)]
theorem leavN_dat (l : List Nat) : (leavN l).dat = .list (l.map natD) := by
  unfold leavN
  rw [M.dat, show (l.map fun s => M.leaf (natD s)) = (l.map natD).map M.leaf by rw [List.map_map]; rfl, dats_leaf]
theorem dats_map {α : Type} (f : α → M) : ∀ l : List α, M.dats (l.map f) = l.map fun a => (f a).dat
  | [] => rfl
  | a :: l => by rw [List.map_cons, M.dats, dats_map f l]; rfl
theorem trM_dat (m L : Nat) (F : Nat → Nat → List Nat) : (M.lst (trM m L F)).dat = trD m L F := by
  unfold trM trD
  rw [M.dat, dats_map]
  congr 1
  refine List.map_congr_left fun i _ => ?_
  rw [M.dat, dats_map]
  congr 1
  exact List.map_congr_left fun a _ => leavN_dat _
/-- where a row's step leads from: of the first states, and of the next one up to a place -/
def srcF (t : List (List Nat)) (k j : Nat) : Nat → Nat → List Nat := fun i a => (List.range k).filter (fun s => decide (stq t s i = a)) ++ (if i < j ∧ stq t k i = a then [k] else [])
theorem srcF_next (t : List (List Nat)) (k m : Nat) : ∀ i, i < m → ∀ a, srcF t k m i a = srcF t (k + 1) 0 i a := by
  intro i hi a
  unfold srcF
  rw [List.range_succ, List.filter_append]
  by_cases e : stq t k i = a
  · simp [e, hi]
  · simp [e]
theorem srcF_step (t : List (List Nat)) (k j : Nat) : upN3 (srcF t k j) j (stq t k j) k = srcF t k (j + 1) := by
  funext i a
  unfold upN3 srcF
  by_cases e : i = j
  · subst e
    by_cases h : a = stq t k i
    · subst h
      rw [if_pos ⟨rfl, rfl⟩, if_neg (fun z => Nat.lt_irrefl _ z.1), if_pos ⟨Nat.lt_succ_self _, rfl⟩, List.append_nil]
    · rw [if_neg (fun z => h z.2), if_neg (fun z => Nat.lt_irrefl _ z.1), if_neg (fun z => h z.2.symm)]
  · rw [if_neg (fun z => e z.1)]
    by_cases h : i < j
    · by_cases h2 : stq t k i = a
      · rw [if_pos ⟨h, h2⟩, if_pos ⟨by omega, h2⟩]
      · rw [if_neg (fun z => h2 z.2), if_neg (fun z => h2 z.2)]
    · rw [if_neg (fun z => h z.1), if_neg (fun z => by have := z.1; omega)]
theorem trM_congr {m L : Nat} {F G : Nat → Nat → List Nat} (h : ∀ i, i < m → ∀ a, F i a = G i a) : trM m L F = trM m L G := by
  unfold trM
  refine List.map_congr_left fun i hi => ?_
  congr 1
  exact List.map_congr_left fun a _ => by rw [h i (List.mem_range.mp hi) a]
end My
namespace My
open PySem PySem.Spec PyProof.Rows L2
variable [TB]
theorem srcF_le (t : List (List Nat)) (k j i a : Nat) : (srcF t k j i a).length ≤ k + 1 := by
  unfold srcF
  rw [List.length_append]
  have := List.length_filter_le (fun s => decide (stq t s i = a)) (List.range k)
  rw [List.length_range] at this
  split <;> simp <;> omega
end My
namespace My
open PySem PySem.Spec PyProof.Rows L2
variable [TB]
def nxB (m L : Nat) (t rt : List (List Nat)) (p : Nat × Nat) : List (Nat × Nat) := (List.range m).flatMap fun i => ((List.range L).filter fun k => decide (stq t k i = p.1)).map fun k => (k, stq rt p.2 i)
theorem mem_nxB {m L : Nat} {t rt : List (List Nat)} {p q : Nat × Nat} : q ∈ nxB m L t rt p ↔ ∃ i, i < m ∧ q.1 < L ∧ stq t q.1 i = p.1 ∧ q.2 = stq rt p.2 i := by
  unfold nxB
  rw [List.mem_flatMap]
  constructor
  · rintro ⟨i, hi, h⟩
    obtain ⟨k, hk, rfl⟩ := List.mem_map.mp h
    obtain ⟨h1, h2⟩ := List.mem_filter.mp hk
    exact ⟨i, List.mem_range.mp hi, List.mem_range.mp h1, of_decide_eq_true h2, rfl⟩
  · rintro ⟨i, hi, h1, h2, h3⟩
    exact ⟨i, List.mem_range.mpr hi, List.mem_map.mpr ⟨q.1, List.mem_filter.mpr ⟨List.mem_range.mpr h1, decide_eq_true h2⟩, Prod.ext rfl h3.symm⟩⟩
theorem nxB_succ (j L : Nat) (t rt : List (List Nat)) (p : Nat × Nat) : nxB (j + 1) L t rt p = nxB j L t rt p ++ ((List.range L).filter fun k => decide (stq t k j = p.1)).map fun k => (k, stq rt p.2 j) := by
  unfold nxB
  rw [List.range_succ, List.flatMap_append, List.flatMap_singleton]
def InB (L R : Nat) (p : Nat × Nat) : Prop := p.1 < L ∧ p.2 < R
theorem len_inB {L R : Nat} {T : List (Nat × Nat)} (nd : T.Nodup) (h : ∀ x ∈ T, InB L R x) : T.length ≤ L * R := by
  have := nd_sub (m := (List.range L).flatMap fun a => (List.range R).map fun b => (a, b)) nd fun p hp => List.mem_flatMap.mpr ⟨p.1, List.mem_range.mpr (h p hp).1, List.mem_map.mpr ⟨p.2, List.mem_range.mpr (h p hp).2, rfl⟩⟩
  have e : ∀ l : List Nat, (l.flatMap fun a => (List.range R).map fun b => (a, b)).length = l.length * R := fun l => by
    induction l with
    | nil => simp
    | cons a l ih => rw [List.flatMap_cons, List.length_append, ih, List.length_map, List.length_range, List.length_cons, Nat.succ_mul, Nat.add_comm]
  rw [e, List.length_range] at this
  exact this
theorem in_nxB {m L R : Nat} {t rt : List (List Nat)} (hr : TabOk m R rt) {p q : Nat × Nat} (hp : InB L R p) (h : q ∈ nxB m L t rt p) : InB L R q := by
  obtain ⟨i, hi, h1, _, h3⟩ := mem_nxB.mp h
  exact ⟨h1, by rw [h3]; exact hr.stq hp.2 hi⟩
abbrev stB (ac : List Nat) : List (Nat × Nat) := ac.map fun a => (a, 0)
/-- that right state and that state of the acceptor fit -/
abbrev BehP (m L : Nat) (t rt : List (List Nat)) (ac : List Nat) : Nat × Nat → Prop := Rcl (nxB m L t rt) (stB ac)
noncomputable def behL (m L R : Nat) (t rt : List (List Nat)) (ac : List Nat) (s : Nat) : List Nat := (List.range R).filter fun r => @decide (BehP m L t rt ac (s, r)) (Classical.propDecidable _)
theorem mem_behL {m L R : Nat} {t rt : List (List Nat)} {ac : List Nat} {s r : Nat} : r ∈ behL m L R t rt ac s ↔ r < R ∧ BehP m L t rt ac (s, r) := by
  unfold behL
  rw [List.mem_filter, List.mem_range]
  exact ⟨fun h => ⟨h.1, @of_decide_eq_true _ (Classical.propDecidable _) h.2⟩, fun h => ⟨h.1, @decide_eq_true _ (Classical.propDecidable _) h.2⟩⟩
theorem srt_ext : ∀ {l m : List Nat}, l.Pairwise (· < ·) → m.Pairwise (· < ·) → (∀ x, x ∈ l ↔ x ∈ m) → l = m
  | [], [], _, _, _ => rfl
  | [], b :: m, _, _, h => by have := (h b).mpr List.mem_cons_self; cases this
  | a :: l, [], _, _, h => by have := (h a).mp List.mem_cons_self; cases this
  | a :: l, b :: m, h1, h2, h => by
    obtain ⟨p1, q1⟩ := List.pairwise_cons.mp h1
    obtain ⟨p2, q2⟩ := List.pairwise_cons.mp h2
    have e : a = b := by
      rcases List.mem_cons.mp ((h a).mp List.mem_cons_self) with z | z
      · exact z
      · rcases List.mem_cons.mp ((h b).mpr List.mem_cons_self) with w | w
        · exact w.symm
        · have := p1 b w; have := p2 a z; omega
    subst e
    congr 1
    refine srt_ext q1 q2 fun x => ?_
    constructor
    · intro hx
      rcases List.mem_cons.mp ((h x).mp (List.mem_cons_of_mem _ hx)) with z | z
      · have := p1 x hx; omega
      · exact z
    · intro hx
      rcases List.mem_cons.mp ((h x).mpr (List.mem_cons_of_mem _ hx)) with z | z
      · have := p2 x hx; omega
      · exact z
/-- the pairs that are met, in order: the second ones of each first one -/
theorem beh_rows {m L R : Nat} {t rt : List (List Nat)} {ac : List Nat} {T : List (Nat × Nat)} (nd : T.Nodup) (hi : ∀ x ∈ T, InB L R x) (hm : ∀ x, x ∈ T ↔ BehP m L t rt ac x) (hs : T.Pairwise fun p q => HT.lexLt [(q.1 : Int), (q.2 : Int)] [(p.1 : Int), (p.2 : Int)] = false) (s : Nat) :
    (T.filter fun p => decide (p.1 = s)).map (·.2) = behL m L R t rt ac s := by
  refine srt_ext ?_ ?_ fun x => ?_
  · refine List.pairwise_map.mpr ?_
    have h1 : (T.filter fun p => decide (p.1 = s)).Pairwise (fun p q => p ≠ q ∧ HT.lexLt [(q.1 : Int), (q.2 : Int)] [(p.1 : Int), (p.2 : Int)] = false) := (List.Pairwise.and nd hs).filter _
    refine List.Pairwise.imp_of_mem (fun {p q} hp hq h => ?_) h1
    have e1 := of_decide_eq_true (List.mem_filter.mp hp).2
    have e2 := of_decide_eq_true (List.mem_filter.mp hq).2
    obtain ⟨ne, lx⟩ := h
    rw [e1, e2, HT.lexLt_cons, if_pos rfl, HT.lexLt_cons] at lx
    by_cases z : (q.2 : Int) = (p.2 : Int)
    · exact (ne (Prod.ext (e1.trans e2.symm) (by omega))).elim
    · rw [if_neg z, decide_eq_false_iff_not] at lx
      omega
  · unfold behL
    exact (List.pairwise_lt_range).filter _
  · rw [mem_behL]
    constructor
    · intro h
      obtain ⟨p, hp, rfl⟩ := List.mem_map.mp h
      obtain ⟨h1, h2⟩ := List.mem_filter.mp hp
      have h2 := of_decide_eq_true h2
      refine ⟨(hi p h1).2, (hm _).mp ?_⟩
      rw [← h2]; exact h1
    · rintro ⟨_, h⟩
      exact List.mem_map.mpr ⟨(s, x), List.mem_filter.mpr ⟨(hm _).mpr h, decide_eq_true rfl⟩, rfl⟩
def rwM (L : Nat) (F : Nat → List Nat) : List M := (List.range L).map fun a => leavN (F a)
def rw1D (L : Nat) (F : Nat → List Nat) : PyData := .list ((List.range L).map fun a => .list ((F a).map natD))
theorem rwM_get {L a : Nat} {F : Nat → List Nat} (h : a < L) : (rwM L F)[a]? = some (.lst ((F a).map fun s => .leaf (natD s))) := trM_get2 h
theorem rwM_app {L a s : Nat} {F : Nat → List Nat} (h : a < L) : (rwM L F).set a (.lst ((F a).map (fun s => .leaf (natD s)) ++ [.leaf (natD s)])) = rwM L fun b => if b = a then F b ++ [s] else F b := by
  unfold rwM
  apply List.ext_getElem?
  intro j
  rw [List.getElem?_set]
  by_cases e : a = j
  · subst e
    rw [if_pos rfl, if_pos (by simpa using h), List.getElem?_map, List.getElem?_range h]
    show some _ = some (leavN (if a = a then _ else _))
    rw [if_pos rfl]
    unfold leavN
    rw [List.map_append]; rfl
  · rw [if_neg e, List.getElem?_map, List.getElem?_map]
    cases q : (List.range L)[j]? with
    | none => rfl
    | some b =>
      have hb : b = j := by
        obtain ⟨h1, h2⟩ := List.getElem?_eq_some_iff.mp q
        rw [← h2, List.getElem_range]
      subst hb
      show some _ = some (leavN (if b = a then _ else _))
      rw [if_neg (fun z => e z.symm)]
theorem rwM_dat (L : Nat) (F : Nat → List Nat) : (M.lst (rwM L F)).dat = rw1D L F := by
  unfold rwM rw1D
  rw [dat_lst, dats_map]
  congr 1
  exact List.map_congr_left fun a _ => leavN_dat _
def accD (rs : List SyN) (t : List (List Nat)) (ac : List Nat) : PyData := .tuple [seqD rs, tabD t, .tuple (ac.map natD)]
/-- a rearrangement of mapped things is mapped -/
theorem perm_back {α β : Type} {f : α → β} {g : β → α} (hg : ∀ x, g (f x) = x) {l : List β} {T : List α} (h : l.Perm (T.map f)) : ∃ T' : List α, T'.Perm T ∧ l = T'.map f := by
  refine ⟨l.map g, ?_, ?_⟩
  · have := h.map g
    rwa [List.map_map, show (g ∘ f) = id from funext hg, List.map_id] at this
  · rw [List.map_map]
    have : l = l.map id := (List.map_id l).symm
    refine this.trans (List.map_congr_left fun b hb => ?_)
    obtain ⟨a, _, rfl⟩ := List.mem_map.mp (h.mem_iff.mp hb)
    show f a = f (g (f a))
    rw [hg]
def rowP (p : Nat × Nat) : List Int := [(p.1 : Int), (p.2 : Int)]
theorem rng_at {f : Nat → PyData} {n j : Nat} (h : j < n) : atI ((List.range n).map f) (j : Int) = some (f j) := by
  rw [atI_cast, List.getElem?_map, List.getElem?_range h]; rfl
theorem trD_ix {m L j : Nat} {F : Nat → Nat → List Nat} {Q : D → Prop} (h : j < m) (q : Q (.p (.list ((List.range L).map fun a => .list ((F j a).map natD))))) : bIx (.p (trD m L F)) (.p (.int (j : Nat))) Q := by
  rw [show trD m L F = .list ((List.range m).map fun i => .list ((List.range L).map fun a => .list ((F i a).map natD))) from rfl, x_pli]
  exact ⟨_, rng_at h, q⟩
theorem row_ix {L a : Nat} {f : Nat → PyData} {Q : D → Prop} (h : a < L) (q : Q (.p (f a))) : bIx (.p (.list ((List.range L).map f))) (.p (.int (a : Nat))) Q := by
  rw [x_pli]
  exact ⟨_, rng_at h, q⟩
end My
namespace My
open PySem PySem.Spec PyProof.Rows L2
variable [TB]
theorem KeyE.seen {α : Type} [DecidableEq α] {enc : α → PyData} (h : KeyE enc) {S : List α} {x : α} (m : x ∈ S) : ∃ j, kIx (S.map enc) (enc x) = some j ∧ S[j]? = some x := by
  rw [h.ix, if_pos m]
  have hl := List.idxOf_lt_length_of_mem m
  exact ⟨_, rfl, by rw [List.getElem?_eq_getElem hl, List.getElem_idxOf]⟩
theorem KeyE.unseen {α : Type} [DecidableEq α] {enc : α → PyData} (h : KeyE enc) {S : List α} {x : α} (m : x ∉ S) : kIx (S.map enc) (enc x) = none := by rw [h.ix, if_neg m]
/-- a point: left state, the acceptor's state, right state -/
abbrev Tri := Nat × Nat × Nat
def triD (p : Tri) : PyData := .tuple [natD p.1, natD p.2.1, natD p.2.2]
theorem key_tri : KeyE triD := by
  have k := keyT_nat.key (by decide)
  have e : ∀ p : Tri, triD p = (fun l : List Nat => PyData.tuple (l.map natD)) [p.1, p.2.1, p.2.2] := fun p => rfl
  refine ⟨fun a b h => ?_, ?_⟩
  · rw [e, e] at h
    have := k.inj _ _ h
    simp only [List.cons.injEq, and_true] at this
    exact Prod.ext this.1 (Prod.ext this.2.1 this.2.2)
  · obtain ⟨s, h1, h2⟩ := k.one
    exact ⟨s, h1, fun a => by rw [e]; exact h2 _⟩
/-- an edge -/
def edgD (e : Nat × SyN × Nat × List SyN) : PyData := .tuple [natD e.1, symD e.2.1, natD e.2.2.1, seqD e.2.2.2]
theorem alike_syms : ∀ a b : List SyN, PySem.W.alikeAll (a.map symD) (b.map symD) = true
  | [], _ => by unfold PySem.W.alikeAll; rfl
  | _ :: _, [] => by unfold PySem.W.alikeAll; rfl
  | x :: a, y :: b => by
    rw [List.map_cons, List.map_cons]
    unfold PySem.W.alikeAll
    rw [alike_syms a b, Bool.and_true]
    rfl
/-- a dict that numbers different things -/
theorem lcK_enu {α : Type} [DecidableEq α] {enc : α → PyData} (h : KeyE enc) {el : ItD → (Option (PyData × PyData) → Prop) → Prop} {Q : List PyData × List PyData → Prop} {l : List α} (nd : l.Nodup) (hz : l.length ≤ 1000000)
    (hel : ∀ i x, l[i]? = some x → ∀ K : Option (PyData × PyData) → Prop, K (some (enc x, natD i)) → el (.two (.int (i : Nat)) (enc x)) K)
    (q : Q (l.map enc, (List.range l.length).map natD)) : lcK el (enD (l.map enc)) ([], []) Q := by
  have go : ∀ (post pre : List α), pre ++ post = l → lcK el ((List.range' pre.length post.length).map fun i => .two (.int (i : Nat)) ((l.map enc).getD i .none)) (pre.map enc, (List.range pre.length).map natD) Q := by
    intro post
    induction post with
    | nil => intro pre e; rw [List.append_nil] at e; subst e; exact q
    | cons x post ih =>
      intro pre e
      have hx : l[pre.length]? = some x := by rw [← e]; simp
      have hn : x ∉ pre := fun z => by rw [← e] at nd; exact (List.nodup_append.mp nd).2.2 x z x List.mem_cons_self rfl
      have hl : pre.length < l.length := by rw [← e]; simp
      rw [List.length_cons, List.range'_succ, List.map_cons]
      have e1 : (l.map enc).getD pre.length .none = enc x := by rw [List.getD_eq_getElem?_getD, List.getElem?_map, hx]; rfl
      rw [e1]
      refine hel _ _ hx _ ?_
      refine ⟨h.uni _ _, by rw [List.length_map, sizeLine_eq]; omega, ?_⟩
      have e2 : putP (pre.map enc, (List.range pre.length).map natD) (enc x) (natD pre.length) = ((pre ++ [x]).map enc, (List.range (pre ++ [x]).length).map natD) := by
        unfold putP
        simp only [h.unseen hn, List.map_append, List.map_cons, List.map_nil, List.length_append, List.length_cons, List.length_nil, List.range_succ]
      dsimp only
      rw [e2]
      have := ih (pre ++ [x]) (by rw [← e]; simp)
      have e3 : (pre ++ [x]).length = pre.length + 1 := by simp
      rw [e3] at this ⊢
      exact this
  have := go l [] rfl
  unfold enD
  rw [List.length_map, List.range_eq_range']
  exact this
theorem putM_ins {α : Type} [DecidableEq α] {enc : α → PyData} (h : KeyE enc) (T : List α) (x : α) : putM (T.map enc) (T.map fun _ => .leaf (.bool true)) (enc x) (.bool true) = setM enc (insG T x) := by
  have := putP_M (T.map enc, T.map fun _ => PyData.bool true) (enc x) (.bool true)
  rw [putP_set h, dicP_set] at this
  rw [← this, List.map_map]; rfl
/-- a dict of sets of numbers -/
def bhM (S : List Nat) (F : Nat → List Nat) : M := .dic (S.map natD) (S.map fun s => setM natD (F s))
def bhF (F : Nat → List Nat) (s r : Nat) : Nat → List Nat := fun x => if x = s then insG (F s) r else F x
theorem bh_in {S : List Nat} {F : Nat → List Nat} {s : Nat} (hF : ∀ x, x ∉ S → F x = []) : sdIn (S.map natD) (S.map fun s => setM natD (F s)) (natD s) = ((F s).map natD, (F s).map fun _ => .leaf (.bool true)) := by
  unfold sdIn
  by_cases h : s ∈ S
  · obtain ⟨j, e1, e2⟩ := KeyE.seen key_nat h
    rw [e1]
    dsimp only
    rw [List.getElem?_map, e2]
    rfl
  · rw [KeyE.unseen key_nat h]
    dsimp only
    rw [hF _ h]; rfl
theorem bh_fin {S : List Nat} {F : Nat → List Nat} {s r : Nat} (nd : S.Nodup) (hF : ∀ x, x ∉ S → F x = []) : sdFinD (S.map natD) (S.map fun s => setM natD (F s)) (natD s) (natD r) (.bool true) = bhM (insG S s) (bhF F s r) := by
  unfold sdFinD
  rw [bh_in hF]
  unfold bhM insG
  by_cases h : s ∈ S
  · obtain ⟨j, e1, e2⟩ := KeyE.seen key_nat h
    rw [e1, if_pos h]
    dsimp only
    rw [putM_ins key_nat]
    congr 1
    apply List.ext_getElem?
    intro k
    rw [List.getElem?_set, List.getElem?_map, List.getElem?_map]
    have hj : j < S.length := (List.getElem?_eq_some_iff.mp e2).1
    by_cases z : j = k
    · subst z
      rw [if_pos rfl, if_pos (by rw [List.length_map]; exact hj), e2]
      show some _ = some (setM natD (bhF F s r s))
      unfold bhF
      rw [if_pos rfl]
    · rw [if_neg z]
      cases w : S[k]? with
      | none => rfl
      | some x =>
        have hx : x ≠ s := fun e => by
          subst e
          obtain ⟨h1, h2⟩ := List.getElem?_eq_some_iff.mp w
          obtain ⟨h3, h4⟩ := List.getElem?_eq_some_iff.mp e2
          exact z ((List.getElem_inj nd).mp (h4.trans h2.symm))
        show some _ = some (setM natD (bhF F s r x))
        unfold bhF
        rw [if_neg hx]
  · rw [KeyE.unseen key_nat h, if_neg h]
    dsimp only
    have := putM_ins key_nat [] r
    rw [List.map_nil, List.map_nil] at this
    rw [this, List.map_append, List.map_append]
    congr 1
    congr 1
    · refine List.map_congr_left fun x hx => ?_
      have hne : x ≠ s := fun e => h (by rw [← e]; exact hx)
      unfold bhF
      rw [if_neg hne]
    · unfold bhF
      simp only [List.map_cons, List.map_nil, if_true, hF _ h]
theorem bh_dat (S : List Nat) (F : Nat → List Nat) : (bhM S F).dat = .dict (S.map fun s => (natD s, .dict ((F s).map fun r => (natD r, .bool true)))) := by
  unfold bhM
  rw [M.dat, dats_map, List.zip_map']
  congr 1
  exact List.map_congr_left fun s _ => by rw [dat_set]
theorem bh_get {S : List Nat} {F : Nat → List Nat} {s : Nat} {Q : D → Prop} (hF : ∀ x, x ∉ S → F x = []) (q : Q (.p (.dict ((F s).map fun r => (natD r, .bool true))))) :
    kAt (S.map natD) (S.map ((fun q : PyData × PyData => My.M.leaf q.2) ∘ fun s => (natD s, PyData.dict ((F s).map fun r => (natD r, .bool true))))) (natD s) (My.M.dic [] []).dat Q := by
  unfold kAt
  by_cases h : s ∈ S
  · obtain ⟨j, e1, e2⟩ := KeyE.seen key_nat h
    rw [e1]
    refine ⟨_, ?_, q⟩
    rw [List.getElem?_map, e2]; rfl
  · rw [KeyE.unseen key_nat h]
    rw [hF _ h] at q
    exact q
/-- a number of a point -/
theorem tri_num {ps : List Tri} {p : Tri} {Q : D → Prop} (h : p ∈ ps) (q : ∀ n : Nat, Q (.p (natD n))) : bDx (.p (dicP (ps.map triD, (List.range ps.length).map natD)).dat) (.p (triD p)) Q := by
  obtain ⟨j, e1, e2⟩ := KeyE.seen key_tri h
  have hj : j < ps.length := (List.getElem?_eq_some_iff.mp e2).1
  have ed : (dicP (ps.map triD, (List.range ps.length).map natD)).dat = .dict ((ps.map triD).zip ((List.range ps.length).map natD)) := by
    unfold dicP
    rw [M.dat, dats_leaf]
  have f1 : ((ps.map triD).zip ((List.range ps.length).map natD)).map (·.1) = ps.map triD := List.map_fst_zip (by simp)
  have f2 : (((ps.map triD).zip ((List.range ps.length).map natD)).map fun q => My.M.leaf q.2) = ((List.range ps.length).map natD).map .leaf := by
    rw [show (fun q : PyData × PyData => My.M.leaf q.2) = My.M.leaf ∘ Prod.snd from rfl, ← List.map_map, List.map_snd_zip (by simp)]
  rw [ed]
  unfold bDx
  dsimp only
  rw [show (D.p (.dict ((ps.map triD).zip ((List.range ps.length).map natD)))).dks = some (((ps.map triD).zip ((List.range ps.length).map natD)).map (·.1), (((ps.map triD).zip ((List.range ps.length).map natD)).map fun q => My.M.leaf q.2)) from rfl, f1, f2]
  refine ⟨key_tri.uni _ _, j, natD j, e1, ?_, q j⟩
  rw [List.getElem?_map, List.getElem?_map, List.getElem?_range hj]; rfl
/-- one thing for each, whatever it is -/
theorem lcW_any {α β : Type} {el : ItD → (Option PyData → Prop) → Prop} {Q : List PyData → Prop} {g : β → ItD} (f : α → PyData) (P : α → Prop) : ∀ {l : List β} {acc : List PyData}, (∀ b ∈ l, ∀ K : Option PyData → Prop, (∀ a, P a → K (some (f a))) → el (g b) K) → acc.length + l.length ≤ sizeLine →
    (∀ xs : List α, xs.length = l.length → (∀ a ∈ xs, P a) → Q (acc ++ xs.map f)) → lcW el (l.map g) acc Q
  | [], acc, _, _, q => by
    have := q [] rfl (fun a h => by cases h)
    rw [List.map_nil, List.append_nil] at this
    exact this
  | b :: l, acc, h, hz, q => by
    rw [List.length_cons] at hz
    refine h b List.mem_cons_self _ fun a ha => ⟨by omega, ?_⟩
    refine lcW_any f P (fun b hb => h b (List.mem_cons_of_mem _ hb)) (by rw [List.length_append, List.length_singleton]; omega) fun xs hl hp => ?_
    have := q (a :: xs) (by rw [List.length_cons, List.length_cons, hl]) (fun x hx => by
      rcases List.mem_cons.mp hx with rfl | hx
      · exact ha
      · exact hp x hx)
    rw [List.append_assoc]
    exact this
/-- some of the numbers -/
theorem lcW_some {el : ItD → (Option PyData → Prop) → Prop} {Q : List PyData → Prop} {n : Nat} (hz : n ≤ 1000000) (h : ∀ i, i < n → ∀ K : Option PyData → Prop, K none → K (some (natD i)) → el (.one (.int (i : Nat))) K)
    (q : ∀ ac : List Nat, (∀ k ∈ ac, k < n) → ac.length ≤ n → Q (ac.map natD)) : lcW el (rngD 0 n) [] Q := by
  have e : rngD 0 n = ((List.range n).map natD).map .one := by rw [rng_map, List.map_map]; rfl
  rw [e]
  refine lcW_sub (fun d hd K k1 k2 => ?_) (szl (by rw [List.length_map, List.length_range]; omega)) fun es hs => ?_
  · obtain ⟨i, hi, rfl⟩ := List.mem_map.mp hd
    exact h i (List.mem_range.mp hi) K k1 k2
  · obtain ⟨ac, h1, rfl⟩ := List.sublist_map_iff.mp hs
    exact q ac (fun k hk => List.mem_range.mp (h1.subset hk)) (by have := h1.length_le; rwa [List.length_range] at this)
theorem edg_alike (a b : Nat × SyN × Nat × List SyN) : PySem.W.alike (edgD a) (edgD b) = true := by
  have h3 : PySem.W.alike (seqD a.2.2.2) (seqD b.2.2.2) = true := by
    unfold seqD PySem.W.alike
    exact alike_syms _ _
  have h1 : PySem.W.alike (symD a.2.1) (symD b.2.1) = true := rfl
  unfold edgD PySem.W.alike
  unfold PySem.W.alikeAll
  unfold PySem.W.alikeAll
  unfold PySem.W.alikeAll
  unfold PySem.W.alikeAll
  rw [h3, h1]
  unfold PySem.W.alikeAll
  rfl
theorem edg_alls (es : List (Nat × SyN × Nat × List SyN)) : PySem.W.AllAlike (es.map edgD) := fun d hd d' hd' => by
  obtain ⟨a, _, rfl⟩ := List.mem_map.mp hd
  obtain ⟨b, _, rfl⟩ := List.mem_map.mp hd'
  exact edg_alike a b
theorem edg_srt (es : List (Nat × SyN × Nat × List SyN)) : PySem.W.Sortable (es.map edgD) := .inl fun d hd => by
  obtain ⟨a, _, rfl⟩ := List.mem_map.mp hd
  exact ⟨_, _, rfl⟩
theorem edg_back : ∀ {ds : List PyData}, (∀ d ∈ ds, ∃ e, d = edgD e) → ∃ es : List (Nat × SyN × Nat × List SyN), ds = es.map edgD
  | [], _ => ⟨[], rfl⟩
  | d :: ds, h => by
    obtain ⟨e, rfl⟩ := h d List.mem_cons_self
    obtain ⟨es, rfl⟩ := edg_back fun d hd => h d (List.mem_cons_of_mem _ hd)
    exact ⟨e :: es, rfl⟩
theorem dep_syms : ∀ l : List SyN, PyData.depthAll (l.map symD) ≤ 5
  | [] => by simp [PyData.depthAll]
  | x :: l => by
    have := dep_syms l
    rw [List.map_cons, PyData.depthAll]
    simp [symD, PyData.depth, PyData.depthAll]
    omega
theorem nod_syms : ∀ l : List SyN, PyData.hasDictAll (l.map symD) = false
  | [] => by simp [PyData.hasDictAll]
  | x :: l => by
    rw [List.map_cons, PyData.hasDictAll, nod_syms l]
    simp [symD, PyData.hasDict, PyData.hasDictAll]
theorem edg_depth (e : Nat × SyN × Nat × List SyN) : (edgD e).depth ≤ 30 ∧ (edgD e).hasDict = false := by
  have h1 := dep_syms e.2.2.2
  have h2 := dep_syms [e.2.1]
  have h3 := nod_syms e.2.2.2
  have h4 := nod_syms [e.2.1]
  unfold edgD
  simp only [List.map_cons, List.map_nil, PyData.depthAll, PyData.hasDictAll] at h2 h4
  simp [PyData.depth, PyData.depthAll, PyData.hasDict, PyData.hasDictAll, seqD, h3] at h1 h2 h4 ⊢
  omega
theorem sum_natE : ∀ l : List Nat, (l.map fun j : Nat => ((j : Nat) : Int)).sum = ((l.sum : Nat) : Int)
  | [] => rfl
  | a :: l => by rw [List.map_cons, List.sum_cons, sum_natE l, List.sum_cons]; omega
theorem ks_natE {α : Type} (is : List α) (f : α → Nat) (Q : D → Prop) : kSum (.nw (is.map fun i => natD (f i))) Q = Q (.p (natD (is.map f).sum)) := by
  unfold kSum
  have e : intsOf (is.map fun i => natD (f i)) = some ((is.map f).map fun j : Nat => (j : Int)) := by
    induction is with
    | nil => rfl
    | cons a l ih =>
      rw [List.map_cons, List.map_cons, List.map_cons]
      show (intsOf _).map _ = _
      rw [ih]; rfl
  show (match intsOf (is.map fun i => natD (f i)) with
    | some ns => Q (.p (.int ns.sum))
    | _ => False) = _
  rw [e]
  dsimp only
  rw [sum_natE]
theorem sum_le {α : Type} {f : α → Nat} {b : Nat} (h : ∀ x, f x ≤ b) : ∀ l : List α, (l.map f).sum ≤ b * l.length
  | [] => by simp
  | a :: l => by
    have := sum_le h l
    have := h a
    rw [List.map_cons, List.sum_cons, List.length_cons, Nat.mul_succ]; omega
theorem lcW_len {el : ItD → (Option PyData → Prop) → Prop} {Q : List PyData → Prop} (P : PyData → Prop) : ∀ {items : List ItD} {acc : List PyData}, (∀ d ∈ acc, P d) → (∀ x ∈ items, ∀ K : Option PyData → Prop, K none → (∀ d, P d → K (some d)) → el x K) → acc.length + items.length ≤ sizeLine →
    (∀ acc' : List PyData, (∀ d ∈ acc', P d) → acc'.length ≤ acc.length + items.length → Q acc') → lcW el items acc Q
  | [], acc, hp, _, _, q => q acc hp (Nat.le_refl _)
  | x :: items, acc, hp, h, hz, q => by
    rw [List.length_cons] at hz
    refine h x List.mem_cons_self _ ?_ fun d hd => ⟨by omega, ?_⟩
    · exact lcW_len P hp (fun y hy => h y (List.mem_cons_of_mem _ hy)) (by omega) fun acc' hp' ha => q acc' hp' (by rw [List.length_cons]; omega)
    · refine lcW_len P (fun e he => (List.mem_append.mp he).elim (hp e) fun z => by rw [List.mem_singleton.mp z]; exact hd) (fun y hy => h y (List.mem_cons_of_mem _ hy)) (by rw [List.length_append, List.length_singleton]; omega) fun acc' hp' ha => q acc' hp' ?_
      rw [List.length_append, List.length_singleton] at ha
      rw [List.length_cons]; omega
def rowT (p : Tri) : List Int := [(p.1 : Int), (p.2.1 : Int), (p.2.2 : Int)]
/-- the points of a graph, in any order -/
def ptsT (S : List (Nat × Nat)) (B : Nat → List Nat) : List Tri := S.flatMap fun p => (B p.2).map fun r => (p.1, p.2, r)
theorem mem_ptsT {S : List (Nat × Nat)} {B : Nat → List Nat} {l s r : Nat} : (l, s, r) ∈ ptsT S B ↔ (l, s) ∈ S ∧ r ∈ B s := by
  unfold ptsT
  rw [List.mem_flatMap]
  constructor
  · rintro ⟨p, hp, h⟩
    obtain ⟨x, hx, e⟩ := List.mem_map.mp h
    cases e
    exact ⟨hp, hx⟩
  · rintro ⟨h1, h2⟩
    exact ⟨_, h1, List.mem_map.mpr ⟨r, h2, rfl⟩⟩
theorem nd_ptsT {S : List (Nat × Nat)} {B : Nat → List Nat} (nS : S.Nodup) (nB : ∀ s, (B s).Nodup) : (ptsT S B).Nodup := by
  unfold ptsT
  refine List.pairwise_flatMap.mpr ⟨fun p _ => List.pairwise_map.mpr ((nB _).imp fun h e => h (by cases e; rfl)), nS.imp fun {p q} h x hx y hy e => ?_⟩
  obtain ⟨r, _, rfl⟩ := List.mem_map.mp hx
  obtain ⟨r2, _, e2⟩ := List.mem_map.mp hy
  rw [← e] at e2
  injection e2 with a1 a2
  injection a2 with a2 _
  exact h (Prod.ext a1.symm a2.symm)
theorem len_ptsT {S : List (Nat × Nat)} {B : Nat → List Nat} {b : Nat} (h : ∀ s, (B s).length ≤ b) : (ptsT S B).length ≤ b * S.length := by
  unfold ptsT
  rw [List.length_flatMap]
  exact sum_le (fun p => by rw [List.length_map]; exact h _) S
end My
namespace My
open PySem PySem.Spec PyProof.Rows L2
section
variable [TB]
local macro_rules | `(tactic| walk_at "ev") => `(tactic| try simp only [k_gcd, e_callCK, e_callR, e_lendT, e_setDB, e_extM, e_callB, e_bL, e_bV, dks_bor, in_bor, srt_ds, e_forO, e_dk, e_elK, srt_ot, rowsOf_map, e_callW, vW_0, vW_p, vW_n, vW_o, vW_t, e_appP1, e_appP2, e_popG, e_callK, e_rev2, any_nw, all_nw, List.cons_append, x_bor, len_bor, e_setIxB, e_endM, o_nil, o_bor, o_p, o_tape, e_callM, e_lN, e_lV, e_lS, e_lT, w_nil, w_s, w_v, w_t, le_nil, le_v, le_s, le_t, ba_nil, ba_v, ba_t, ba_s, e_ifM, m3_, m4_, m5_, m6_, dats_leaf, D.bor.injEq, M.lst.injEq, nd_one, nd_zero, arg_p, arg_nw, arg_tape, exists_eq', ex2, e_lcN, e_elC, e_clNil, e_clCons, e_listZip, e_dispK, e_mulX, e_indexE, e_indexD, e_listRng, e_aliV, e_lenD, e_callF, D.fv.injEq, e_mk, e_mkS, e_callC, stA_nil, stA_p, e_dNewD, e_disp1, e_dc, e_elD, e_setD, e_dGet, dks_ot, dks_nt, dks_p, in_ot, in_pd, dx_ot, dict_t, e_lcT, e_elM, e_setT, e_fzT, e_ali, mt_p, mt_nw, mt_nt, e_seq, e_var, e_c, e_op, e_un, e_test, e_tru, e_notT, e_andT, e_orT, e_notV, e_andV, e_orV, e_ifE, e_nil, e_cons, e_star, e_tup, e_lst, e_cb, e_call, e_callV, fl_i, fl_s, fl_b, fl_n, e_nopart, e_part, e_sl, e_isi, e_index, e_chain, e_lc, e_yes, e_el, e_lc2, e_set, e_setN, e_if, e_next, e_retN, e_app, e_ext, e_setIx, e_aug, e_fz, e_pop, e_asg, e_asg2, e_par, e_expr, e_pass, e_break, e_cont, e_gN', e_gNil', e_gCons', e_gTp1', e_gTp2, e_for, e_itV, e1_rng1, e1_rng2, e1_rng3, rg_1, rg_2, rg_3, e_enA, e_zip, e_rv, e_endN, e_endR, e_lawR, e_lawN, a_plpl, a_plow, a_plnw, m_pli, x_pli, sl_pl, len_pl, tup_pl, lis_pl, ix_pl, in_pl, tru_pl, tok_pl, non_pl, sq_pl, ls_pl, a_owpl, a_owow, a_ownw, m_owi, x_owi, sl_ow, len_ow, tup_ow, lis_ow, ix_ow, in_ow, tru_ow, tok_ow, non_ow, sq_ow, ls_ow, a_nwpl, a_nwow, a_nwnw, m_nwi, x_nwi, sl_nw, len_nw, tup_nw, lis_nw, ix_nw, in_nw, tru_nw, tok_nw, non_nw, sq_nw, ls_nw, a_ii, a_ss, a_tt, m_ii, m_ti, o_bSub, o_bAnd, o_bOr, o_bXor, o_bI0, o_bMod, o_bDiv, o_bPow, o_bShl, o_bShr, o_neg, o_inv, q_pp, q_pow, q_pnw, rep_p, dat_p, q_owp, q_owow, q_ownw, rep_ow, dat_ow, q_nwp, q_nwow, q_nwnw, rep_nw, dat_nw, c_bLti, c_bLts, c_bLei, c_bLes, c_bGti, c_bGts, c_bGei, c_bGes, c_bLtt, c_is, c_isnt, non_none, non_int, non_bool, non_str, non_tuple, in_s, in_t, x_si, x_ti, sl_s, sl_t, len_s, len_t, tup_t, lis_t, int_i, int_b, abs_i, max_ii, min_ii, ix_t, tru_none, tok_none, tru_bool, tok_bool, tru_int, tok_int, tru_str, tok_str, tru_tuple, tok_tuple, sq_t, st_p, st_nw, ag_0, vw_0, vw_p, vw_n, vw_o, vw_t, ag_p, ag_n, ag_t, sa_0, sa_p, sa_n, sa_map, it_138, it_139, it_140, it_141, en_142, en_143, en_144, en_145, rv_146, rv_147, rv_148, zp_149, zp_150, zp_151, zp_152, zp_t, c1_, c2_, s1_, s2_, s3_, s4_, s5_, s6_, s7_, dr_, rt_p, rt_ow, rt_nw, e1_ret, rv_t, rv_pl, rv_ow, rv_nw, e1_revU, jo_s, e1_join, bi_i, e1_bits, List.getElem?_cons_zero, List.getElem?_cons_succ, List.set_cons_zero, List.set_cons_succ, Option.some.injEq, Option.map_some, exists_eq_left', exists_eq_left, exists_and_left, exists_eq_right, exists_eq_right', exists_const, D.p.injEq, D.nw.injEq, D.own.injEq, ItD.one.injEq, PyData.int.injEq, PyData.str.injEq, PyData.bool.injEq, PyData.tuple.injEq, PyData.list.injEq, List.cons.injEq, and_true, true_and, and_self, reduceIte, Bool.not_true, Bool.not_false, decide_eq_true_eq, ite_true, ite_false, Bool.false_eq_true, if_true, if_false, eq_self, List.length_cons, List.length_nil, reduceCtorEq, maps_nat, maps_sym, cast_inj, atI_0, atI_1, atI_2, atI_3, eqOk_ii, eqOk_ss, eqOk_bb, eqOk_nn, eqOk_ni, eqOk_in, eqOk_ns, eqOk_sn, eqv_ii, eqv_ss, eqv_bb, eqv_nn, eqv_ni, eqv_in, eqv_ns, eqv_sn, tx_len, tx_list, tx_one, tx_app, tx_inj, sizeLine_eq, Int.zero_add, Int.add_zero, forall_const, List.append_nil, List.nil_append, false_and, and_false, exists_false, false_or, or_false, true_or, or_true, dWipe, D.p.injEq, Option.isSome_some, e_iVal, e_iKey])
def S_lawsymbols (a b : D) (Q : D → Prop) : Prop := ∃ y z : List Nat, a = .p (.str (tx y)) ∧ b = .p (.str (tx z)) ∧ y.length ≤ 26 ∧ z.length ≤ 26 ∧ Q (.nw ((prs (64 :: z) y).map symD))
set_option maxHeartbeats 1000000 in
theorem pf0_lawsymbols (x0 x1 : D) (Q : D → Prop) (h : S_lawsymbols x0 x1 Q) : t_lawsymbols (endsOf Q) [some x0, some x1, none, none, none] := by
  obtain ⟨y, z, rfl, rfl, hy, hz, q⟩ := h
  unfold t_lawsymbols
  walk_at "ev"
  simp only [lit_at, tx_app, tx_len]
  refine ⟨by decide, by simp; omega, forW_pre (fun pre post ρ => ∃ (us vs : List Nat) (w1 w2 : Option D), ρ = [some (.p (.str (tx y))), some (.p (.str (tx z))), some (.own ((prs us y).map symD)), w1, w2] ∧ 64 :: z = us ++ vs ∧ post = chD (tx vs)) ⟨[], 64 :: z, none, none, rfl, rfl, rfl⟩ ?_ ?_⟩
  · rintro pre x post ρ K _ ⟨us, vs, w1, w2, rfl, hu, hp⟩ hK
    cases vs with
    | nil => cases hp
    | cons h vs =>
      obtain ⟨rfl, rfl⟩ : x = .one (.str ⟨#[h]⟩) ∧ post = chD (tx vs) := by
        have e : chD (tx (h :: vs)) = .one (.str ⟨#[h]⟩) :: chD (tx vs) := rfl
        rw [e] at hp
        exact List.cons.inj hp
      have hul : us.length + vs.length = z.length := by
        have := congrArg List.length hu
        simp at this
        omega
      walk_at "ev"
      refine forW_pre (fun pre2 post2 ρ => ∃ (u2 v2 : List Nat) (w2 : Option D), ρ = [some (.p (.str (tx y))), some (.p (.str (tx z))), some (.own ((prs us y ++ u2.map fun l => (h, l)).map symD)), some (.p (.str (tx [h]))), w2] ∧ y = u2 ++ v2 ∧ post2 = chD (tx v2)) ⟨[], y, w2, by simp, rfl, rfl⟩ ?_ ?_
      · rintro pre2 x post2 ρ K2 _ ⟨u2, v2, w3, rfl, hu2, hp2⟩ hK2
        cases v2 with
        | nil => cases hp2
        | cons l v2 =>
          obtain ⟨rfl, rfl⟩ : x = .one (.str ⟨#[l]⟩) ∧ post2 = chD (tx v2) := by
            have e : chD (tx (l :: v2)) = .one (.str ⟨#[l]⟩) :: chD (tx v2) := rfl
            rw [e] at hp2
            exact List.cons.inj hp2
          have hul2 : u2.length + v2.length + 1 = y.length := by
            have := congrArg List.length hu2
            simp at this
            omega
          walk_at "ev"
          have hb : us.length * y.length ≤ 26 * 26 := Nat.mul_le_mul (by omega) (by omega)
          refine ⟨by decide, by rw [List.length_map, List.length_append, List.length_map, prs_len]; omega, hK2 _ ⟨u2 ++ [l], v2, some (.p (.str (tx [l]))), by simp [syp_tx], by simp [hu2], rfl⟩⟩
      · rintro ρ ⟨u2, v2, w3, rfl, hu2, hp2⟩
        have : v2 = [] := by
          cases v2 with
          | nil => rfl
          | cons => cases hp2
        subst this
        rw [List.append_nil] at hu2
        subst hu2
        exact hK _ ⟨us ++ [h], vs, _, _, by rw [prs_snoc], by simp [hu], rfl⟩
  · rintro ρ ⟨us, vs, w1, w2, rfl, hu, hp⟩
    have : vs = [] := by
      cases vs with
      | nil => rfl
      | cons => cases hp
    subst this
    rw [List.append_nil] at hu
    walk_at "ev"
    rw [← hu]
    exact q
theorem pf_lawsymbols : ∀ xs Qd, s2 S_lawsymbols xs Qd → t_lawsymbols (endsOf Qd) (iniR xs 3) := s2_on fun x0 x1 Q h => pf0_lawsymbols x0 x1 Q h
def S_lawpicked (t a m : D) (Q : D → Prop) : Prop := t = .tape ∧ ∃ (ds : List PyData) (n : Nat), a = .p (.list ds) ∧ m = .p (.int (n : Nat)) ∧ n ≤ ds.length ∧ ds.length ≤ 1000 ∧ ∀ es : List PyData, es.Sublist ds → es.length = n → Q (.nw es)
set_option maxHeartbeats 1000000 in
theorem pf0_lawpicked (x0 x1 x2 : D) (Q : D → Prop) (h : S_lawpicked x0 x1 x2 Q) : t_lawpicked (s2 S_draw) (endsOf Q) [some x0, some x1, some x2, none, none, none] := by
  obtain ⟨rfl, ds, n, rfl, rfl, hn, hl, q⟩ := h
  unfold t_lawpicked
  walk_at "ev"
  refine ⟨by decide, by omega, by omega, forW_inv (fun i ρ => ∃ (es : List PyData) (a : Nat) (w : Option D), ρ = [some .tape, some (.p (.list ds)), some (.p (.int (n : Nat))), some (.own es), some (.p (.int (a : Nat))), w] ∧ es.Sublist (ds.take a) ∧ es.length = i ∧ a ≤ ds.length - n + i) ⟨[], 0, none, rfl, by simp, rfl, by omega⟩ ?_ ?_⟩
  · rintro i x ρ K hx ⟨es, a, w, rfl, hs, hr, ha⟩ hK
    obtain ⟨hi, rfl⟩ := rngD_get hx
    walk_at "ev"
    refine ⟨by omega, fun v hv => ⟨ds[a + v]'(by omega), by rw [atI_add, get_of], by omega, ?_⟩⟩
    refine hK _ ⟨es ++ [ds[a + v]'(by omega)], a + v + 1, _, rfl, ?_, by simp [hr], by omega⟩
    rw [List.take_succ_eq_append_getElem (by omega)]
    exact List.Sublist.append (hs.trans (List.take_sublist_take_left (by omega))) (List.Sublist.refl _)
  · rintro ρ ⟨es, a, w, rfl, hs, hr, ha⟩
    rw [rngD_len] at hr
    walk_at "ev"
    exact q es (hs.trans (List.take_sublist _ _)) (by omega)
theorem pf_lawpicked : ∀ xs Qd, s3 S_lawpicked xs Qd → t_lawpicked (s2 S_draw) (endsOf Qd) (iniR xs 3) := s3_on fun x0 x1 x2 Q h => pf0_lawpicked x0 x1 x2 Q h
def S_lawrising (t s m : D) (Q : D → Prop) : Prop := t = .tape ∧ ∃ (l : List Nat) (n : Nat), s = .p (.str (tx l)) ∧ m = .p (.int (n : Nat)) ∧ n ≤ l.length ∧ l.length ≤ 1000 ∧ ∀ r : List Nat, r.Sublist l → r.length = n → Q (.p (.str (tx r)))
set_option maxHeartbeats 1000000 in
theorem pf0_lawrising (x0 x1 x2 : D) (Q : D → Prop) (h : S_lawrising x0 x1 x2 Q) : t_lawrising (s2 S_draw) (endsOf Q) [some x0, some x1, some x2, none, none, none] := by
  obtain ⟨rfl, l, n, rfl, rfl, hn, hl, q⟩ := h
  unfold t_lawrising
  walk_at "ev"
  refine ⟨by omega, by omega, forW_inv (fun i ρ => ∃ (r : List Nat) (a : Nat) (z : Option D), ρ = [some .tape, some (.p (.str (tx l))), some (.p (.int (n : Nat))), some (.p (.str (tx r))), some (.p (.int (a : Nat))), z] ∧ r.Sublist (l.take a) ∧ r.length = i ∧ a ≤ l.length - n + i) ⟨[], 0, none, rfl, by simp, rfl, by omega⟩ ?_ ?_⟩
  · rintro i x ρ K hx ⟨r, a, z, rfl, hs, hr, ha⟩ hK
    obtain ⟨hi, rfl⟩ := rngD_get hx
    walk_at "ev"
    refine ⟨by omega, by omega, fun v hv => ⟨by omega, l[a + v]'(by omega), by rw [atI_add, get_of], by omega, ?_⟩⟩
    refine hK _ ⟨r ++ [l[a + v]'(by omega)], a + v + 1, _, rfl, ?_, by simp [hr], by omega⟩
    rw [List.take_succ_eq_append_getElem (by omega)]
    exact List.Sublist.append (hs.trans (List.take_sublist_take_left (by omega))) (List.Sublist.refl _)
  · rintro ρ ⟨r, a, z, rfl, hs, hr, ha⟩
    rw [rngD_len] at hr
    walk_at "ev"
    exact q r (hs.trans (List.take_sublist _ _)) (by omega)
theorem pf_lawrising : ∀ xs Qd, s3 S_lawrising xs Qd → t_lawrising (s2 S_draw) (endsOf Qd) (iniR xs 3) := s3_on fun x0 x1 x2 Q h => pf0_lawrising x0 x1 x2 Q h
def S_lawletters (t : D) (Q : D → Prop) : Prop := t = .tape ∧ ∀ y : List Nat, Let y → Q (.p (.str (tx y)))
set_option maxHeartbeats 1000000 in
theorem pf0_lawletters (x0 : D) (Q : D → Prop) (h : S_lawletters x0 Q) : t_lawletters (s2 S_draw) (s3 S_lawrising) (endsOf Q) [some x0] := by
  obtain ⟨rfl, q⟩ := h
  unfold t_lawletters
  walk_at "ev"
  simp only [S_lawrising, lit_lows]
  walk_at "ev"
  refine ⟨by decide, by decide, fun v hv => ?_⟩
  obtain ⟨n, hm, hn⟩ := pickN [1, 1, 1, 2, 2, 3] (v := v) (by show v < 6; omega)
  have h1 : 1 ≤ n ∧ n ≤ 3 := (by decide : ∀ n ∈ [1, 1, 1, 2, 2, 3], 1 ≤ n ∧ n ≤ 3) n hm
  refine ⟨_, hn, n, rfl, by omega, by decide, fun r hr hl => ?_⟩
  exact q r ⟨hr, by omega, by omega⟩
theorem pf_lawletters : ∀ xs Qd, s1 S_lawletters xs Qd → t_lawletters (s2 S_draw) (s3 S_lawrising) (endsOf Qd) (iniR xs 0) := s1_on fun x0 Q h => pf0_lawletters x0 Q h
def S_lawowners (t : D) (Q : D → Prop) : Prop := t = .tape ∧ ∀ y : List Nat, Own y → Q (.p (.str (tx y)))
set_option maxHeartbeats 1000000 in
theorem pf0_lawowners (x0 : D) (Q : D → Prop) (h : S_lawowners x0 Q) : t_lawowners (s2 S_draw) (s3 S_lawrising) (endsOf Q) [some x0] := by
  obtain ⟨rfl, q⟩ := h
  unfold t_lawowners
  walk_at "ev"
  simp only [S_lawrising, lit_caps]
  walk_at "ev"
  refine ⟨by decide, by decide, fun v hv => ?_⟩
  obtain ⟨n, hm, hn⟩ := pickN [1, 2, 2, 2, 2, 3] (v := v) (by show v < 6; omega)
  have h1 : 1 ≤ n ∧ n ≤ 3 := (by decide : ∀ n ∈ [1, 2, 2, 2, 2, 3], 1 ≤ n ∧ n ≤ 3) n hm
  refine ⟨_, hn, n, rfl, by omega, by decide, fun r hr hl => ?_⟩
  exact q r ⟨hr, by omega, by omega⟩
theorem pf_lawowners : ∀ xs Qd, s1 S_lawowners xs Qd → t_lawowners (s2 S_draw) (s3 S_lawrising) (endsOf Qd) (iniR xs 0) := s1_on fun x0 Q h => pf0_lawowners x0 Q h
def S_lawsigns (t : D) (Q : D → Prop) : Prop := t = .tape ∧ ∀ qs : List (Nat × Nat), qs ≠ [] → qs.length ≤ 3 → (∃ y z, Let y ∧ Own z ∧ qs.Sublist (prs (64 :: z) y)) → Q (.nw (qs.map symD))
set_option maxHeartbeats 1000000 in
theorem pf0_lawsigns (x0 : D) (Q : D → Prop) (h : S_lawsigns x0 Q) : t_lawsigns (s1 S_lawowners) (s1 S_lawletters) (s2 S_lawsymbols) (s2 S_draw) (s3 S_lawpicked) (endsOf Q) [some x0, none] := by
  obtain ⟨rfl, q⟩ := h
  unfold t_lawsigns
  walk_at "ev"
  refine ⟨rfl, fun y hy => ?_⟩
  refine ⟨rfl, fun z hz => ?_⟩
  walk_at "ev"
  have hy1 := hy.2.1
  have hy2 := hy.2.2
  have hz2 := hz.2.2
  have pl : (prs (64 :: z) y).length ≤ 1000 := by
    rw [prs_len, List.length_cons]
    have : (z.length + 1) * y.length ≤ 4 * 3 := Nat.mul_le_mul (by omega) hy2
    omega
  have sgn : prs (64 :: z) y ≠ [] := prs_ne hy
  have sl : 0 < (prs (64 :: z) y).length := List.length_pos_iff.mpr sgn
  refine ⟨y, z, rfl, rfl, by omega, by omega, ?_⟩
  walk_at "ev"
  refine ⟨by decide, by decide, fun v hv => ?_⟩
  obtain ⟨n, hm, hn⟩ := pickN [1, 2, 2, 3] (v := v) (by show v < 4; omega)
  have h1 : 1 ≤ n ∧ n ≤ 3 := (by decide : ∀ n ∈ [1, 2, 2, 3], 1 ≤ n ∧ n ≤ 3) n hm
  refine ⟨_, hn, ?_⟩
  walk_at "ev"
  refine ⟨rfl, (prs (64 :: z) y).map symD, min n (prs (64 :: z) y).length, rfl, ?_, by rw [List.length_map]; omega, by rw [List.length_map]; omega, fun es hs hl => ?_⟩
  · rw [List.length_map]
    simp
    omega
  obtain ⟨qs, hqs, rfl⟩ := List.sublist_map_iff.mp hs
  rw [List.length_map] at hl
  refine q qs ?_ (by omega) ⟨y, z, hy, hz, hqs⟩
  rintro rfl
  simp at hl
  omega
theorem pf_lawsigns : ∀ xs Qd, s1 S_lawsigns xs Qd → t_lawsigns (s1 S_lawowners) (s1 S_lawletters) (s2 S_lawsymbols) (s2 S_draw) (s3 S_lawpicked) (endsOf Qd) (iniR xs 1) := s1_on fun x0 Q h => pf0_lawsigns x0 Q h
/-- an acceptor: rows of draws -/
def S_lawacceptor (t a b : D) (Q : D → Prop) : Prop := t = .tape ∧ ∃ (rs : List SyN) (L : Nat), a = .p (.list (rs.map symD)) ∧ b = .p (.int (L : Nat)) ∧ 1 ≤ L ∧ L ≤ 4 ∧ rs.length ≤ 1000 ∧ ∀ (t : List (List Nat)) (ac : List Nat), TabOk rs.length L t → (∀ k ∈ ac, k < L) → ac.length ≤ L → Q (.p (accD rs t ac))
set_option maxHeartbeats 1000000 in
theorem pf0_lawacceptor (x0 x1 x2 : D) (Q : D → Prop) (h : S_lawacceptor x0 x1 x2 Q) : t_lawacceptor (s2 S_draw) (endsOf Q) [some x0, some x1, some x2, none, none, none] := by
  obtain ⟨rfl, rs, L, rfl, rfl, hL, hL2, hr, q⟩ := h
  unfold t_lawacceptor
  walk_at "ev"
  rw [Int.toNat_natCast]
  refine ⟨by decide, by omega, by omega, forW_inv (fun k ρ => ∃ (t : List (List Nat)) (w4 w5 : Option D), ρ = [some .tape, some (.p (.list (rs.map symD))), some (.p (.int (L : Nat))), some (.own (t.map rwT)), w4, w5] ∧ t.length = k ∧ ∀ r ∈ t, r.length = rs.length ∧ ∀ a ∈ r, a < L) ⟨[], _, _, rfl, rfl, fun r hr => by cases hr⟩ ?_ ?_⟩
  · rintro k x ρ K hx ⟨t, w4, w5, rfl, h1, h2⟩ hK
    obtain ⟨hk, rfl⟩ := rngD_get hx
    walk_at "ev"
    rw [items_map]
    refine lcW_any natD (fun a => a < L) (fun x hx K2 hK2 => ?_) (by show 0 + _ ≤ 16777216; omega) fun xs h3 h4 => ?_
    · walk_at "ev"
      exact ⟨by omega, fun v hv => hK2 v (by omega)⟩
    · rw [List.nil_append]
      refine ⟨by rw [List.length_map]; omega, hK _ ⟨t ++ [xs], _, _, by rw [List.map_append]; rfl, by simp [h1], fun r hr => ?_⟩⟩
      rcases List.mem_append.mp hr with hr | hr
      · exact h2 r hr
      · rw [List.mem_singleton.mp hr]; exact ⟨h3, h4⟩
  · rintro ρ ⟨t, w4, w5, rfl, h1, h2⟩
    rw [rngD_len] at h1
    walk_at "ev"
    rw [Int.toNat_natCast]
    refine ⟨by omega, by omega, lcW_some (by omega) (fun k hk K k0 k1 => ?_) fun ac h3 h4 => ?_⟩
    · walk_at "ev"
      refine ⟨by decide, fun v hv => ?_⟩
      split
      · exact k1
      · exact k0
    · exact ⟨by decide, q t ac ⟨h1, h2⟩ h3 h4⟩
theorem pf_lawacceptor : ∀ xs Qd, s3 S_lawacceptor xs Qd → t_lawacceptor (s2 S_draw) (endsOf Qd) (iniR xs 3) := s3_on fun x0 x1 x2 Q h => pf0_lawacceptor x0 x1 x2 Q h
/-- five sequences over two symbols -/
def S_lawmenu (a b : D) (Q : D → Prop) : Prop := a = .tape ∧ ∃ sg : List SyN, b = .p (.list (sg.map symD)) ∧ sg ≠ [] ∧ sg.length ≤ 1000 ∧ ∀ x ∈ sg, ∀ y ∈ sg, Q (.nw ([[], [x], [y], [x, y], [y, x, y]].map seqD))
set_option maxHeartbeats 1000000 in
theorem pf0_lawmenu (x0 x1 : D) (Q : D → Prop) (h : S_lawmenu x0 x1 Q) : t_lawmenu (s2 S_draw) (endsOf Q) [some x0, some x1, none, none] := by
  obtain ⟨rfl, sg, rfl, hs, hs2, q⟩ := h
  have sp : 1 ≤ sg.length := List.length_pos_iff.mpr hs
  unfold t_lawmenu
  walk_at "ev"
  rw [List.length_map]
  refine ⟨by omega, fun v1 hv1 => ⟨_, map_at (0, 0) (by omega), by omega, fun v2 hv2 => ⟨_, map_at (0, 0) (by omega), by decide, by decide, by decide, by decide, by decide, by decide, ?_⟩⟩⟩
  exact q _ (getD_mem (by omega)) _ (getD_mem (by omega))
theorem pf_lawmenu : ∀ xs Qd, s2 S_lawmenu xs Qd → t_lawmenu (s2 S_draw) (endsOf Qd) (iniR xs 2) := s2_on fun x0 x1 Q h => pf0_lawmenu x0 x1 Q h
/-- a two-way machine: rows of draws, outputs from a menu -/
def S_lawtwoway (a b c d e : D) (Q : D → Prop) : Prop := a = .tape ∧ ∃ (rs : List SyN) (me : List (List SyN)) (L R : Nat), b = .p (.list (rs.map symD)) ∧ c = .p (.int (L : Nat)) ∧ d = .p (.int (R : Nat)) ∧ e = .p (.list (me.map seqD)) ∧ rs ≠ [] ∧ rs.length ≤ 12 ∧ (∀ r ∈ rs, Sm r) ∧ me ≠ [] ∧ me.length ≤ 100 ∧ (∀ s ∈ me, CelOk s) ∧ 1 ≤ L ∧ L ≤ 4 ∧ 1 ≤ R ∧ R ≤ 4 ∧
  ∀ M : Two, M.rs = rs → M.Ok L R → Q (.p M.d)
set_option maxHeartbeats 1000000 in
theorem pf0_lawtwoway (x0 x1 x2 x3 x4 : D) (Q : D → Prop) (h : S_lawtwoway x0 x1 x2 x3 x4 Q) : t_lawtwoway (s2 S_draw) (endsOf Q) [some x0, some x1, some x2, some x3, some x4, none, none, none, none, none, none, none] := by
  obtain ⟨rfl, rs, me, L, R, rfl, rfl, rfl, rfl, hr, hr2, hr3, hs, hs2, hs3, hL, hL2, hR, hR2, q⟩ := h
  unfold t_lawtwoway
  have rp : 1 ≤ rs.length := List.length_pos_iff.mpr hr
  have sp : 1 ≤ me.length := List.length_pos_iff.mpr hs
  walk_at "ev"
  rw [Int.toNat_natCast, Int.toNat_natCast]
  refine ⟨by omega, by omega, ?_⟩
  refine lcW_all rwT (fun r => r.length = rs.length ∧ ∀ a ∈ r, a < L) (szl (by omega)) (fun i hi K hK => ?_) fun lf l1 l2 => ?_
  · walk_at "ev"
    rw [items_map]
    refine lcW_any natD (fun a => a < L) (fun x hx K2 hK2 => ?_) (by show 0 + _ ≤ 16777216; omega) fun xs h3 h4 => ?_
    · walk_at "ev"
      exact ⟨by omega, fun v hv => hK2 v (by omega)⟩
    · rw [List.nil_append]
      exact hK xs ⟨h3, h4⟩
  refine ⟨by omega, by omega, ?_⟩
  refine lcW_all rwT (fun r => r.length = rs.length ∧ ∀ a ∈ r, a < R) (szl (by omega)) (fun i hi K hK => ?_) fun rt r1 r2 => ?_
  · walk_at "ev"
    rw [items_map]
    refine lcW_any natD (fun a => a < R) (fun x hx K2 hK2 => ?_) (by show 0 + _ ≤ 16777216; omega) fun xs h3 h4 => ?_
    · walk_at "ev"
      exact ⟨by omega, fun v hv => hK2 v (by omega)⟩
    · rw [List.nil_append]
      exact hK xs ⟨h3, h4⟩
  refine ⟨by decide, by omega, by omega, ?_⟩
  refine forW_inv (fun k ρ => ∃ (os : List (List (List (List SyN)))) (w8 w9 w10 w11 : Option D), ρ = [some .tape, some (.p (.list (rs.map symD))), some (.p (.int (L : Nat))), some (.p (.int (R : Nat))), some (.p (.list (me.map seqD))), some (.p (.tuple (lf.map rwT))), some (.p (.tuple (rt.map rwT))), some (.own (os.map outD)), w8, w9, w10, w11] ∧ os.length = k ∧ ∀ o ∈ os, OutOk rs.length R o) ⟨[], _, _, _, _, rfl, rfl, fun r hr => by cases hr⟩ ?_ ?_
  · rintro k x ρ K hx ⟨os, w8, w9, w10, w11, rfl, g1, g2⟩ hK
    obtain ⟨hk, rfl⟩ := rngD_get hx
    walk_at "ev"
    rw [items_map]
    refine ⟨by decide, forW_pre2 (fun pre ρ => ∃ (cs : List (List (List SyN))) (w10 w11 : Option D), ρ = [some .tape, some (.p (.list (rs.map symD))), some (.p (.int (L : Nat))), some (.p (.int (R : Nat))), some (.p (.list (me.map seqD))), some (.p (.tuple (lf.map rwT))), some (.p (.tuple (rt.map rwT))), some (.own (os.map outD)), some (.p (.int (k : Nat))), some (.own (cs.map cellD)), w10, w11] ∧ cs.length = pre.length ∧ ∀ c ∈ cs, c.length = R ∧ ∀ s ∈ c, CelOk s) ⟨[], _, _, rfl, rfl, fun a ha => by cases ha⟩ ?_ ?_⟩
    · rintro pre x post ρ K2 hp ⟨cs, w10, w11, rfl, h3, h4⟩ hK2
      have hpl : pre.length + post.length + 1 = rs.length := by rw [hp]; simp; omega
      walk_at "ev"
      rw [Int.toNat_natCast]
      refine ⟨by omega, by omega, lcW_all seqD CelOk (szl (by omega)) (fun i hi K3 hK3 => ?_) fun c c1 c2 => ?_⟩
      · walk_at "ev"
        rw [List.length_map]
        exact ⟨by omega, fun v hv => ⟨_, map_at [] (by omega), hK3 _ (hs3 _ (getD_mem (by omega)))⟩⟩
      · refine ⟨by rw [List.length_map]; omega, hK2 _ ⟨cs ++ [c], _, _, by rw [List.map_append]; rfl, by simp [h3], fun c' hc => ?_⟩⟩
        rcases List.mem_append.mp hc with hc | hc
        · exact h4 _ hc
        · rw [List.mem_singleton.mp hc]; exact ⟨c1, c2⟩
    · rintro ρ ⟨cs, w10, w11, rfl, h3, h4⟩
      walk_at "ev"
      refine ⟨by rw [List.length_map]; show _ < 16777216; omega, hK _ ⟨os ++ [cs], _, _, _, _, by rw [List.map_append]; rfl, by simp [g1], fun o ho => ?_⟩⟩
      rcases List.mem_append.mp ho with ho | ho
      · exact g2 o ho
      · rw [List.mem_singleton.mp ho]; exact ⟨h3, h4⟩
  · rintro ρ ⟨os, w8, w9, w10, w11, rfl, g1, g2⟩
    rw [rngD_len] at g1
    walk_at "ev"
    exact ⟨by decide, q ⟨rs, lf, rt, os⟩ rfl ⟨⟨hr, hr2, hr3⟩, by omega, ⟨l1, l2⟩, ⟨r1, r2⟩, g1, g2⟩⟩
theorem pf_lawtwoway : ∀ xs Qd, s5 S_lawtwoway xs Qd → t_lawtwoway (s2 S_draw) (endsOf Qd) (iniR xs 7) := s5_on fun x0 x1 x2 x3 x4 Q h => pf0_lawtwoway x0 x1 x2 x3 x4 Q h
def S_sourcesof (a : D) (Q : D → Prop) : Prop := ∃ (t : List (List Nat)) (m L : Nat), a = .p (tabD t) ∧ TabOk m L t ∧ 1 ≤ L ∧ L ≤ 100000 ∧ m ≤ 100000 ∧ Q (.p (trD m L fun i a => (List.range L).filter fun s => decide (stq t s i = a)))
set_option maxHeartbeats 1000000 in
theorem pf0_sourcesof (x0 : D) (Q : D → Prop) (h : S_sourcesof x0 Q) : t_sourcesof (endsOf Q) [some x0, none, none, none, none, none, none] := by
  obtain ⟨t, m, L, rfl, ok, hL, hL2, hm, q⟩ := h
  unfold t_sourcesof
  have tl := ok.len
  have h0 : t[0]? = some (t.getD 0 []) := by
    rw [List.getD_eq_getElem?_getD, List.getElem?_eq_getElem (by omega)]; rfl
  have r0 : (t.getD 0 []).length = m := (ok.row _ (getD_mem (by omega))).1
  simp only [tabD]
  walk_at "ev"
  have at0 : atI (t.map rwT) 0 = some (rwT (t.getD 0 [])) := by
    rw [show (0 : Int) = ((0 : Nat) : Int) from rfl, atI_cast, List.getElem?_map, h0]; rfl
  refine ⟨_, at0, ?_⟩
  simp only [rwT]
  walk_at "ev"
  rw [items_map]
  refine lcM_of (fun _ => M.lst ((List.range L).map fun _ => leavN [])) (fun x _ K hK => ?_) (szl (by omega)) ?_
  · walk_at "ev"
    rw [items_map]
    refine lcM_of (fun _ => leavN []) (fun y _ K2 hK2 => ?_) (szl (by omega)) ?_
    · walk_at "ev"
      exact ⟨by decide, hK2⟩
    · rw [show t.map (fun _ => leavN []) = (List.range L).map (fun _ => leavN []) by rw [List.map_const', List.map_const', List.length_range, tl]]
      exact hK
  have e0 : (t.getD 0 []).map (fun _ => M.lst ((List.range L).map fun _ => leavN [])) = trM m L (srcF t 0 0) := by
    unfold trM
    rw [List.map_const', r0]
    have rc : ∀ x : M, List.replicate m x = (List.range m).map fun _ => x := fun x => by rw [List.map_const', List.length_range]
    rw [rc]
    refine List.map_congr_left fun i _ => ?_
    congr 1
  rw [e0]
  refine forW_inv (fun k ρ => ∃ (w2 w3 w4 w5 w6 : Option D), ρ = [some (.p (tabD t)), some (.ot (.lst (trM m L (srcF t k 0)))), w2, w3, w4, w5, w6]) ⟨_, _, _, _, _, rfl⟩ ?_ ?_
  · rintro k x ρ K hx ⟨w2, w3, w4, w5, w6, rfl⟩ hK
    obtain ⟨d, hd, rfl⟩ := enD_get hx
    rw [List.getElem?_map] at hd
    have hk : k < t.length := by
      by_cases hk : k < t.length
      · exact hk
      · rw [List.getElem?_eq_none (by omega)] at hd; cases hd
    rw [List.getElem?_eq_getElem hk] at hd
    cases hd
    have rk := ok.row _ (List.getElem_mem hk)
    simp only [rwT]
    walk_at "ev"
    refine forW_inv (fun j ρ => ∃ (w4 w5 w6 : Option D), ρ = [some (.p (tabD t)), some (.ot (.lst (trM m L (srcF t k j)))), some (.p (natD k)), some (.p (rwT (t[k]'hk))), w4, w5, w6]) ⟨_, _, _, rfl⟩ ?_ ?_
    · rintro j x ρ K2 hx ⟨w4, w5, w6, rfl⟩ hK2
      obtain ⟨d, hd, rfl⟩ := enD_get hx
      rw [List.getElem?_map] at hd
      have hj : j < (t[k]'hk).length := by
        by_cases hj : j < (t[k]'hk).length
        · exact hj
        · rw [List.getElem?_eq_none (by omega)] at hd; cases hd
      rw [List.getElem?_eq_getElem hj] at hd
      cases hd
      have sq : (t[k]'hk)[j]'hj = stq t k j := by
        unfold stq
        rw [getD_of hk, getD_of hj]
      have sl : stq t k j < L := by rw [← sq]; exact rk.2 _ (List.getElem_mem hj)
      have hj2 : j < m := by omega
      walk_at "ev"
      rw [sq]
      refine ⟨_, rfl, _, trM_get hj2, _, trM_get2 sl, ?_, ?_⟩
      · rw [List.length_map]
        have := srcF_le t k j j (stq t k j)
        omega
      · rw [trM_app hj2 sl, srcF_step]
        exact hK2 _ ⟨_, _, _, rfl⟩
    · rintro ρ ⟨w4, w5, w6, rfl⟩
      rw [enD_len, List.length_map, rk.1]
      rw [trM_congr (srcF_next t k m)]
      exact hK _ ⟨_, _, _, _, _, rfl⟩
  · rintro ρ ⟨w2, w3, w4, w5, w6, rfl⟩
    walk_at "ev"
    show Q (.p (M.lst _).dat)
    rw [enD_len, List.length_map, tl, trM_dat]
    have e1 : trD m L (srcF t L 0) = trD m L fun i a => (List.range L).filter fun s => decide (stq t s i = a) := by
      unfold trD srcF
      simp
    rw [e1]
    exact q
theorem pf_sourcesof : ∀ xs Qd, s1 S_sourcesof xs Qd → t_sourcesof (endsOf Qd) (iniR xs 6) := s1_on fun x0 Q h => pf0_sourcesof x0 Q h
def S_rightsbehind (a b : D) (Q : D → Prop) : Prop := ∃ (rs : List SyN) (t : List (List Nat)) (ac : List Nat) (L L2 R : Nat) (M : Two), a = .p (accD rs t ac) ∧ b = .p M.d ∧ rs = M.rs ∧ TabOk rs.length L t ∧ 1 ≤ L ∧ L ≤ 1000 ∧ (∀ x ∈ ac, x < L) ∧ ac.length ≤ 1000 ∧ M.Ok L2 R ∧ Q (.p (rw1D L (behL rs.length L R t M.rt ac)))
set_option maxHeartbeats 1000000 in
theorem pf0_rightsbehind (x0 x1 : D) (Q : D → Prop) (h : S_rightsbehind x0 x1 Q) : t_rightsbehind (s1 S_sourcesof) (endsOf Q) [some x0, some x1, none, none, none, none, none, none, none, none, none, none, none, none] := by
  obtain ⟨rs, t, ac, L, L2, R, M, rfl, rfl, hrs, ht, hL, hL2, hac, hacl, ok, q⟩ := h
  unfold t_rightsbehind
  subst hrs
  have hb := ok.b
  have hm := ok.rs.2.1
  have ed : M.d = .tuple [.tuple (M.rs.map symD), .tuple (M.lf.map rwT), .tuple (M.rt.map rwT), .tuple (M.ou.map outD)] := rfl
  unfold accD
  rw [ed]
  walk_at "ev"
  refine ⟨t, M.rs.length, L, rfl, ht, hL, by omega, by omega, ?_⟩
  walk_at "ev"
  have hLR : L * R ≤ 40000 := Nat.le_trans (Nat.mul_le_mul hL2 hb.2.2.2) (by decide)
  have hin : ∀ x ∈ stB ac, InB L R x := fun x hx => by
    obtain ⟨k, hk, rfl⟩ := List.mem_map.mp hx
    exact ⟨hac k hk, hb.2.2.1⟩
  rw [items_map]
  refine lcK_set key_pD (fun k => (k, 0)) ac [] (by simp; omega) (fun k hk K hK => ?_) ?_
  · walk_at "ev"
    exact ⟨by decide, hK⟩
  rw [dicP_set]
  have D0 := DfI.start (nx := nxB M.rs.length L t M.rt) hin
  generalize (stB ac).foldl insG [] = T0 at D0
  unfold kLiD
  rw [show (D.ot (setM pD T0)).dks = some (T0.map pD, T0.map fun _ => .leaf (.bool true)) from rfl]
  have hT0 := len_inB D0.nd D0.inn
  refine ⟨szl (by rw [List.length_map]; omega), _, rfl, ?_⟩
  refine while_on (fun ρ => ∃ (T W : List (Nat × Nat)) (w8 w9 w10 w11 w12 : Option D), ρ = [some (D.p (PyData.tuple [seqD M.rs, tabD t, PyData.tuple (List.map natD ac)])), some (D.p (PyData.tuple [PyData.tuple (List.map symD M.rs), PyData.tuple (List.map rwT M.lf), PyData.tuple (List.map rwT M.rt), PyData.tuple (List.map outD M.ou)])),
      some (D.p (seqD M.rs)), some (D.p (tabD t)), some (D.p (PyData.tuple (List.map natD ac))), some (D.p (trD M.rs.length L fun i a => List.filter (fun s => decide (stq t s i = a)) (List.range L))), some (.ot (setM pD T)), some (.own (W.map pD)), w8, w9, w10, w11, w12, none] ∧ DfI (nxB M.rs.length L t M.rt) (stB ac) (InB L R) T W none [])
    (fun ρ => match ρ with | [_, _, _, _, _, _, some (.ot (.dic ks _)), some (.own ds), _, _, _, _, _, _] => 2 * (L * R - ks.length) + ds.length | _ => 0)
    ⟨T0, T0, _, _, _, _, _, rfl, D0⟩ ?_
  rintro ρ ⟨T, W, w8, w9, w10, w11, w12, rfl, D1⟩
  have hT := len_inB D1.nd D1.inn
  rcases List.eq_nil_or_concat W with rfl | ⟨W, a, rfl⟩
  · walk_at "ev"
    rw [if_neg (by simp)]
    have fin := D1.fin
    rw [show tabD t = .tuple (t.map rwT) from rfl]
    walk_at "ev"
    rw [items_map]
    refine lcM_of (fun _ => leavN []) (fun y _ K2 hK2 => ?_) (szl (by have := ht.len; omega)) ?_
    · walk_at "ev"
      exact ⟨by decide, hK2⟩
    rw [show t.map (fun _ => leavN []) = rwM L (fun _ => []) by unfold rwM; rw [List.map_const', List.map_const', List.length_range, ht.len]]
    unfold setM
    walk_at "ev"
    rw [show T.map pD = (T.map rowP).map rowI by rw [List.map_map]; rfl, rowsOf_map]
    refine ⟨fun ns hns => ?_, szl (by rw [List.length_map]; omega), fun nss hp hs => ?_⟩
    · obtain ⟨p, _, rfl⟩ := List.mem_map.mp hns
      exact fun z => nomatch z
    obtain ⟨T', hp', rfl⟩ := perm_back (f := rowP) (g := fun ns => (ns.headD 0 |>.toNat, (ns.getD 1 0).toNat)) (fun x => rfl) hp
    have nd' := hp'.nodup_iff.mpr D1.nd
    rw [show ((T'.map rowP).map rowI).map ItD.one = T'.map fun p => ItD.one (pD p) by rw [List.map_map, List.map_map]; rfl]
    have hin' : ∀ x ∈ T', InB L R x := fun x hx => D1.inn x (hp'.mem_iff.mp hx)
    refine forW_pre2 (l := T') (fun pre ρ => ∃ w8 w9 : Option D, ρ = [some (D.p (PyData.tuple [seqD M.rs, PyData.tuple (List.map rwT t), PyData.tuple (List.map natD ac)])), some (D.p (PyData.tuple [PyData.tuple (List.map symD M.rs), PyData.tuple (List.map rwT M.lf), PyData.tuple (List.map rwT M.rt), PyData.tuple (List.map outD M.ou)])),
      some (D.p (seqD M.rs)), some (D.p (PyData.tuple (List.map rwT t))), some (D.p (PyData.tuple (List.map natD ac))), some (D.p (trD M.rs.length L fun i a => List.filter (fun s => decide (stq t s i = a)) (List.range L))),
      some (D.ot (My.M.dic (List.map rowI (List.map rowP T)) (List.map (fun x => My.M.leaf (PyData.bool true)) T))), some (D.own []), w8, w9, w10, w11, w12, some (D.ot (My.M.lst (rwM L fun s => (pre.filter fun p => decide (p.1 = s)).map (·.2))))]) ⟨_, _, rfl⟩ ?_ ?_
    · rintro pre p post ρ K hpp ⟨w8, w9, rfl⟩ hK
      have hpi := hin' p (by rw [hpp]; simp)
      have hl : pre.length < T'.length := by rw [hpp]; simp
      rw [show pD p = .tuple [natD p.1, natD p.2] from rfl]
      walk_at "ev"
      refine ⟨_, rfl, _, rwM_get hpi.1, ?_, ?_⟩
      · rw [List.length_map, List.length_map]
        have := List.length_filter_le (fun q => decide (q.1 = p.1)) pre
        have := hp'.length_eq
        omega
      · rw [rwM_app hpi.1]
        refine hK _ ⟨some (.p (natD p.1)), some (.p (natD p.2)), ?_⟩
        have ef : (fun b => if b = p.1 then ((pre.filter fun q => decide (q.1 = b)).map (·.2)) ++ [p.2] else (pre.filter fun q => decide (q.1 = b)).map (·.2)) = fun s => (((pre ++ [p]).filter fun q => decide (q.1 = s)).map (·.2)) := by
          funext b
          rw [List.filter_append, List.map_append]
          by_cases z : b = p.1
          · rw [if_pos z, List.filter_cons_of_pos (by rw [z]; exact decide_eq_true rfl)]; rfl
          · rw [if_neg z, List.filter_cons_of_neg (by simpa using fun w : p.1 = b => z w.symm), List.filter_nil, List.map_nil, List.append_nil]
        rw [← ef]
    · rintro ρ ⟨w8, w9, rfl⟩
      walk_at "ev"
      show Q (.p (My.M.lst _).dat)
      rw [rwM_dat, show (fun s => (T'.filter fun p => decide (p.1 = s)).map (·.2)) = behL M.rs.length L R t M.rt ac from funext fun s => beh_rows nd' hin' (fun x => hp'.mem_iff.trans (fin x)) (List.pairwise_map.mp hs) s]
      exact q
  · rw [List.concat_eq_append] at *
    have ha := D1.wt a (by simp)
    have hai := D1.inn a ha
    walk_at "ev"
    rw [if_pos (by simp)]
    refine ⟨W.map pD, pD a, by rw [List.map_append]; rfl, ?_⟩
    rw [show pD a = .tuple [natD a.1, natD a.2] from rfl]
    walk_at "ev"
    refine ⟨_, map_at [] (by rw [ok.rt.len]; exact hai.2), ?_⟩
    have hr := ok.rt.at hai.2
    rw [show rwT (M.rt.getD a.2 []) = .tuple ((M.rt.getD a.2 []).map natD) from rfl]
    unfold enOf
    dsimp only
    refine forW_inv (fun j ρ => ∃ (T2 W2 : List (Nat × Nat)) (w10 w11 w12 : Option D), ρ = [some (D.p (PyData.tuple [seqD M.rs, tabD t, PyData.tuple (List.map natD ac)])), some (D.p (PyData.tuple [PyData.tuple (List.map symD M.rs), PyData.tuple (List.map rwT M.lf), PyData.tuple (List.map rwT M.rt), PyData.tuple (List.map outD M.ou)])),
      some (D.p (seqD M.rs)), some (D.p (tabD t)), some (D.p (PyData.tuple (List.map natD ac))), some (D.p (trD M.rs.length L fun i a => List.filter (fun s => decide (stq t s i = a)) (List.range L))), some (.ot (setM pD T2)), some (.own (W2.map pD)), some (.p (natD a.1)), some (.p (natD a.2)), w10, w11, w12, none] ∧
      DfI (nxB M.rs.length L t M.rt) (stB ac) (InB L R) T2 W2 (some a) (nxB j L t M.rt a) ∧ 2 * (L * R - T2.length) + W2.length ≤ 2 * (L * R - T.length) + W.length)
      ⟨T, W, _, _, _, rfl, D1.pop, Nat.le_refl _⟩ ?_ ?_
    · rintro j x ρ K hx ⟨T2, W2, w10, w11, w12, rfl, D2, hμ⟩ hK
      obtain ⟨d, hd, rfl⟩ := enD_get hx
      have hj : j < (M.rt.getD a.2 []).length := by
        by_cases hj : j < (M.rt.getD a.2 []).length
        · exact hj
        · rw [List.getElem?_map, List.getElem?_eq_none (by omega)] at hd; cases hd
      rw [List.getElem?_map, List.getElem?_eq_getElem hj] at hd
      cases hd
      rw [show (M.rt.getD a.2 [])[j] = stq M.rt a.2 j by unfold stq; rw [getD_of hj]]
      have hjm : j < M.rs.length := by rw [← hr.1]; exact hj
      walk_at "ev"
      refine trD_ix hjm (row_ix hai.1 ?_)
      rw [show itOf (.p (.list (((List.range L).filter fun s => decide (stq t s j = a.1)).map natD))) = some ((((List.range L).filter fun s => decide (stq t s j = a.1)).map natD).map ItD.one) from rfl]
      dsimp only
      rw [items_map]
      refine forW_pre2 (l := (List.range L).filter fun s => decide (stq t s j = a.1)) (fun pre ρ => ∃ (T2 W2 : List (Nat × Nat)) (w12 : Option D), ρ = [some (D.p (PyData.tuple [seqD M.rs, tabD t, PyData.tuple (List.map natD ac)])), some (D.p (PyData.tuple [PyData.tuple (List.map symD M.rs), PyData.tuple (List.map rwT M.lf), PyData.tuple (List.map rwT M.rt), PyData.tuple (List.map outD M.ou)])),
        some (D.p (seqD M.rs)), some (D.p (tabD t)), some (D.p (PyData.tuple (List.map natD ac))), some (D.p (trD M.rs.length L fun i a => List.filter (fun s => decide (stq t s i = a)) (List.range L))), some (.ot (setM pD T2)), some (.own (W2.map pD)), some (.p (natD a.1)), some (.p (natD a.2)), some (.p (natD j)), some (.p (natD (stq M.rt a.2 j))), w12, none] ∧
        DfI (nxB M.rs.length L t M.rt) (stB ac) (InB L R) T2 W2 (some a) (nxB j L t M.rt a ++ pre.map fun k => (k, stq M.rt a.2 j)) ∧ 2 * (L * R - T2.length) + W2.length ≤ 2 * (L * R - T.length) + W.length)
        ⟨T2, W2, _, rfl, by simpa using D2, hμ⟩ ?_ ?_
      · rintro pre x post ρ K2 hpp ⟨T2, W2, w12, rfl, D2, hμ⟩ hK2
        have hxm : x ∈ (List.range L).filter fun s => decide (stq t s j = a.1) := by rw [hpp]; simp
        obtain ⟨hx1, hx2⟩ := List.mem_filter.mp hxm
        have hxn : (x, stq M.rt a.2 j) ∈ nxB M.rs.length L t M.rt a := mem_nxB.mpr ⟨j, hjm, List.mem_range.mp hx1, of_decide_eq_true hx2, rfl⟩
        have hT2 := len_inB D2.nd D2.inn
        have hW2 := len_inB D2.ndw fun y hy => D2.inn y (D2.wt y hy)
        rw [List.map_append, ← List.append_assoc] at hK2
        unfold setM
        walk_at "ev"
        rw [show PyData.tuple [natD x, natD (stq M.rt a.2 j)] = pD (x, stq M.rt a.2 j) from rfl]
        refine ⟨by decide, key_pD.uni _ _, ?_⟩
        by_cases hT : (x, stq M.rt a.2 j) ∈ T2
        · rw [key_pD.yes hT, if_neg (by decide)]
          exact hK2 _ ⟨T2, W2, _, rfl, D2.old hT, hμ⟩
        · rw [key_pD.no hT, if_pos (by decide)]
          have D3 := D2.new hT hxn (in_nxB ok.rt hai hxn)
          have hT3 := len_inB D3.nd D3.inn
          rw [List.length_append, List.length_singleton] at hT3
          refine ⟨_, _, rfl, by decide, key_pD.uni _ _, by rw [List.length_map]; omega, fun j' hj' => ?_, by decide, by rw [List.length_map]; omega, ?_⟩
          · have := key_pD.no hT
            rw [hj'] at this
            cases this
          · rw [putM_set key_pD hT]
            refine hK2 _ ⟨T2 ++ [(x, stq M.rt a.2 j)], W2 ++ [(x, stq M.rt a.2 j)], _, by rw [List.map_append]; rfl, D3, ?_⟩
            rw [List.length_append, List.length_append, List.length_singleton]
            omega
      · rintro ρ ⟨T2, W2, w12, rfl, D2, hμ⟩
        rw [← nxB_succ] at D2
        exact hK _ ⟨T2, W2, _, _, _, rfl, D2, hμ⟩
    · rintro ρ ⟨T2, W2, w10, w11, w12, rfl, D2, hμ⟩
      rw [enD_len, List.length_map, hr.1] at D2
      refine ⟨⟨T2, W2, _, _, _, _, _, rfl, D2.done fun y hy => hy⟩, ?_⟩
      show 2 * (L * R - (T2.map pD).length) + (W2.map pD).length < 2 * (L * R - (T.map pD).length) + ((W ++ [a]).map pD).length
      simp only [List.length_map, List.length_append, List.length_singleton]
      omega
theorem pf_rightsbehind : ∀ xs Qd, s2 S_rightsbehind xs Qd → t_rightsbehind (s1 S_sourcesof) (endsOf Qd) (iniR xs 12) := s2_on fun x0 x1 Q h => pf0_rightsbehind x0 x1 Q h
/-- the edges between points -/
def S_edges (a b c : D) (Q : D → Prop) : Prop := ∃ (t : List (List Nat)) (ac : List Nat) (L L2 R : Nat) (M : Two) (ps : List Tri), a = .p (accD M.rs t ac) ∧ b = .p M.d ∧ c = .p (.list (ps.map triD)) ∧ TabOk M.rs.length L t ∧ M.Ok L2 R ∧ M.rs.length ≤ 3 ∧ L ≤ 4 ∧ L2 ≤ 3 ∧ R ≤ 3 ∧ ps.Nodup ∧ ps.length ≤ 60 ∧ (∀ p ∈ ps, p.1 < L2 ∧ p.2.1 < L ∧ p.2.2 < R) ∧
  (∀ l s r0 i l' r, (l, s, r0) ∈ ps → i < M.rs.length → (l', stq t s i, r) ∈ ps → (l, s, stq M.rt r i) ∈ ps ∧ (stq M.lf l i, stq t s i, r) ∈ ps) ∧
  ∀ es : List (Nat × SyN × Nat × List SyN), es.length ≤ 2000 → Q (.nw (es.map edgD))
set_option maxHeartbeats 1000000 in
theorem pf0_edges (x0 x1 x2 : D) (Q : D → Prop) (h : S_edges x0 x1 x2 Q) : t_edges (endsOf Q) [some x0, some x1, some x2, none, none, none, none, none, none, none, none, none, none, none, none, none, none, none, none, none, none] := by
  obtain ⟨t, ac, L, L2, R, M, ps, rfl, rfl, rfl, T, ok, hm, hL, hL2, hR, nd, lp, bd, cl, q⟩ := h
  unfold t_edges
  walk_at "ev"
  have et : ∀ p : Tri, triD p = .tuple [natD p.1, natD p.2.1, natD p.2.2] := fun p => rfl
  have ed : M.d = .tuple [.tuple (M.rs.map symD), .tuple (M.lf.map rwT), .tuple (M.rt.map rwT), .tuple (M.ou.map outD)] := rfl
  refine lcK_enu key_tri nd (by omega) (fun i x hx K hK => ?_) ?_
  · walk_at "ev"
    exact hK
  refine ⟨_, rfl, ?_⟩
  rw [ed]
  walk_at "ev"
  rw [items_map]
  refine forW_pre2 (f := fun p => ItD.one (triD p)) (l := ps) (fun pre ρ => ∃ (S : List Nat) (F : Nat → List Nat) (w9 w10 w11 : Option D), ρ = [some (D.p (accD M.rs t ac)), some (D.p (PyData.tuple [PyData.tuple (List.map symD M.rs), PyData.tuple (List.map rwT M.lf), PyData.tuple (List.map rwT M.rt), PyData.tuple (List.map outD M.ou)])),
      some (D.p (PyData.list (List.map triD ps))), some (D.p (dicP (List.map triD ps, List.map natD (List.range ps.length))).dat),
      some (D.p (PyData.tuple (List.map symD M.rs))), some (D.p (PyData.tuple (List.map rwT M.lf))), some (D.p (PyData.tuple (List.map rwT M.rt))), some (D.p (PyData.tuple (List.map outD M.ou))),
      some (D.ot (bhM S F)), w9, w10, w11, none, none, none, none, none, none, none, none, none] ∧ S.Nodup ∧ (∀ s ∈ S, s < L) ∧ (∀ x, x ∉ S → F x = []) ∧ (∀ s, (F s).Nodup ∧ ∀ r ∈ F s, ∃ l', (l', s, r) ∈ ps))
    ⟨[], fun _ => [], none, none, none, rfl, List.nodup_nil, (fun _ h => by cases h), fun _ _ => rfl, fun _ => ⟨List.nodup_nil, fun _ h => by cases h⟩⟩ ?_ ?_
  · rintro pre p post ρ K hpp ⟨S, F, w9, w10, w11, rfl, nS, bS, hF, hR2⟩ hK
    have hp : p ∈ ps := by rw [hpp]; simp
    obtain ⟨b1, b2, b3⟩ := bd _ hp
    have hFl : (F p.2.1).length ≤ R := len_in (hR2 _).1 fun r hr => by
      obtain ⟨l', h'⟩ := (hR2 _).2 r hr
      exact (bd _ h').2.2
    have hSl : S.length ≤ L := len_in nS bS
    rw [et]
    walk_at "ev"
    refine ⟨_, _, rfl, ?_⟩
    walk_at "ev"
    refine ⟨key_nat.uni _ _, by rw [List.length_map]; exact szl (by omega), fun j hj => ?_, ?_⟩
    · by_cases h : p.2.1 ∈ S
      · obtain ⟨j2, e1, e2⟩ := KeyE.seen key_nat h
        rw [hj] at e1
        cases e1
        rw [List.getElem?_map, e2]
        exact ⟨_, _, rfl⟩
      · rw [KeyE.unseen key_nat h] at hj
        cases hj
    rw [bh_in hF]
    dsimp only
    refine ⟨key_nat.uni _ _, by rw [List.length_map]; exact szl (by omega), fun j hj => ?_, ?_⟩
    · by_cases h : p.2.2 ∈ F p.2.1
      · obtain ⟨j2, e1, e2⟩ := KeyE.seen key_nat h
        rw [hj] at e1
        cases e1
        rw [List.getElem?_map, e2]
        exact ⟨_, rfl⟩
      · rw [KeyE.unseen key_nat h] at hj
        cases hj
    rw [bh_fin nS hF]
    refine hK _ ⟨_, _, _, _, _, rfl, nd_insG nS, fun s hs => (mem_insG.mp hs).elim (bS s) (fun e => by rw [e]; exact b2), fun x hx => ?_, fun s => ?_⟩
    · have h1 : x ∉ S := fun z => hx (mem_insG.mpr (.inl z))
      have h2 : x ≠ p.2.1 := fun z => hx (mem_insG.mpr (.inr z))
      unfold bhF
      rw [if_neg h2]; exact hF _ h1
    · unfold bhF
      by_cases h : s = p.2.1
      · rw [if_pos h]
        refine ⟨nd_insG (hR2 _).1, fun r hr => ?_⟩
        rcases mem_insG.mp hr with z | z
        · rw [h]; exact (hR2 _).2 r z
        · rw [h, z]; exact ⟨p.1, hp⟩
      · rw [if_neg h]; exact hR2 s
  · rintro ρ ⟨S, F, w9, w10, w11, rfl, nS, bS, hF, hR2⟩
    have bhd := bh_dat S F
    walk_at "ev"
    refine ⟨_, rfl, ?_⟩
    rw [bhd]
    walk_at "ev"
    refine ⟨by decide, ?_⟩
    unfold dSrtSet
    walk_at "ev"
    refine lcW_of (l := ps) (g := triD) (fun p : Tri => .tuple [natD p.1, natD p.2.1]) (fun p hp K hK => ?_) (szl (by omega)) ?_
    · rw [et]
      walk_at "ev"
      exact ⟨by decide, hK⟩
    walk_at "ev"
    refine ⟨ps.map fun p => rowP (p.1, p.2.1), by rw [List.map_map]; rfl, by rw [List.length_map]; omega, 2, by decide, 64, fun ns hns => ?_, fun nss nn mm _ => ?_⟩
    · obtain ⟨p, hp, rfl⟩ := List.mem_map.mp hns
      obtain ⟨b1, b2, b3⟩ := bd _ hp
      refine ⟨rfl, fun m hm => ?_⟩
      simp only [rowP, List.mem_cons, List.not_mem_nil, or_false] at hm
      rcases hm with rfl | rfl <;> omega
    obtain ⟨us, rfl⟩ : ∃ us : List (Nat × Nat), nss = us.map rowP := ⟨nss.map fun ns => (ns.headD 0 |>.toNat, (ns.getD 1 0).toNat), by
      rw [List.map_map]
      refine ((List.map_congr_left fun ns hns => ?_).trans (List.map_id _)).symm
      obtain ⟨p, _, rfl⟩ := List.mem_map.mp ((mm ns).mp hns)
      rfl⟩
    have ul : us.length ≤ 60 := by
      have := nd_sub nn (fun a ha => (mm a).mp ha)
      rw [List.length_map, List.length_map] at this
      omega
    have um : ∀ u ∈ us, ∃ r0, (u.1, u.2, r0) ∈ ps := fun u hu => by
      obtain ⟨p, hp, e⟩ := List.mem_map.mp ((mm _).mp (List.mem_map.mpr ⟨u, hu, rfl⟩))
      simp only [rowP, List.cons.injEq, and_true] at e
      refine ⟨p.2.2, ?_⟩
      rw [show u.1 = p.1 by omega, show u.2 = p.2.1 by omega]
      exact hp
    clear mm nn
    rw [show ((us.map rowP).map rowI).map ItD.one = us.map fun p => ItD.one (pD p) by rw [List.map_map, List.map_map]; rfl]
    refine forW_pre2 (l := us) (fun pre ρ => ∃ (es : List (Nat × SyN × Nat × List SyN)) (w9 w10 w11 w13 w14 w15 w16 w17 w18 w19 w20 : Option D), ρ = [some (D.p (accD M.rs t ac)), some (D.p (PyData.tuple [PyData.tuple (List.map symD M.rs), PyData.tuple (List.map rwT M.lf), PyData.tuple (List.map rwT M.rt), PyData.tuple (List.map outD M.ou)])),
      some (D.p (PyData.list (List.map triD ps))), some (D.p (dicP (List.map triD ps, List.map natD (List.range ps.length))).dat),
      some (D.p (PyData.tuple (List.map symD M.rs))), some (D.p (PyData.tuple (List.map rwT M.lf))), some (D.p (PyData.tuple (List.map rwT M.rt))), some (D.p (PyData.tuple (List.map outD M.ou))),
      some (D.p (PyData.dict (S.map fun s => (natD s, PyData.dict ((F s).map fun r => (natD r, PyData.bool true)))))), w9, w10, w11, some (D.own (es.map edgD)), w13, w14, w15, w16, w17, w18, w19, w20] ∧ es.length ≤ 9 * pre.length)
      ⟨[], _, _, _, _, _, _, _, _, _, _, _, rfl, by simp⟩ ?_ ?_
    · rintro pre u post ρ K hpp ⟨es, w9, w10, w11, w13, w14, w15, w16, w17, w18, w19, w20, rfl, hes⟩ hK
      obtain ⟨r0, hu⟩ := um u (by rw [hpp]; simp)
      have hpl : pre.length < us.length := by rw [hpp]; simp
      obtain ⟨b1, b2, b3⟩ := bd _ hu
      rw [show pD u = .tuple [natD u.1, natD u.2] from rfl]
      walk_at "ev"
      refine forW_inv (fun j ρ => ∃ (es : List (Nat × SyN × Nat × List SyN)) (w11 w14 w15 w16 w17 w18 w19 w20 : Option D), ρ = [some (D.p (accD M.rs t ac)), some (D.p (PyData.tuple [PyData.tuple (List.map symD M.rs), PyData.tuple (List.map rwT M.lf), PyData.tuple (List.map rwT M.rt), PyData.tuple (List.map outD M.ou)])),
        some (D.p (PyData.list (List.map triD ps))), some (D.p (dicP (List.map triD ps, List.map natD (List.range ps.length))).dat),
        some (D.p (PyData.tuple (List.map symD M.rs))), some (D.p (PyData.tuple (List.map rwT M.lf))), some (D.p (PyData.tuple (List.map rwT M.rt))), some (D.p (PyData.tuple (List.map outD M.ou))),
        some (D.p (PyData.dict (S.map fun s => (natD s, PyData.dict ((F s).map fun r => (natD r, PyData.bool true)))))), w9, some (D.p (natD u.2)), w11, some (D.own (es.map edgD)), some (D.p (natD u.1)), w14, w15, w16, w17, w18, w19, w20] ∧ es.length ≤ 9 * pre.length + 3 * j)
        ⟨es, _, _, _, _, _, _, _, _, rfl, by omega⟩ ?_ ?_
      · rintro j x ρ K2 hx ⟨es, w11, w14, w15, w16, w17, w18, w19, w20, rfl, hes⟩ hK2
        obtain ⟨d, hd, rfl⟩ := enD_get hx
        have hj : j < M.rs.length := by
          by_cases hj : j < M.rs.length
          · exact hj
          · rw [List.getElem?_map, List.getElem?_eq_none (by omega)] at hd; cases hd
        rw [List.getElem?_map, List.getElem?_eq_getElem hj] at hd
        cases hd
        walk_at "ev"
        have rw_at : ∀ {m L : Nat} {t : List (List Nat)} {a j : Nat}, TabOk m L t → a < L → j < m → atI ((t.getD a []).map natD) (j : Int) = some (natD (stq t a j)) := fun T ha hj => map_at 0 (by rw [(T.at ha).1]; exact hj)
        have eR : ∀ r, rwT r = .tuple (r.map natD) := fun r => rfl
        refine ⟨_, map_at [] (by rw [ok.lf.len]; exact b1), ?_⟩
        rw [eR, show accD M.rs t ac = .tuple [seqD M.rs, .tuple (t.map rwT), .tuple (ac.map natD)] from rfl]
        walk_at "ev"
        refine ⟨_, rw_at ok.lf b1 hj, ?_⟩
        walk_at "ev"
        refine ⟨_, map_at [] (by rw [T.len]; exact b2), ?_⟩
        rw [eR]
        walk_at "ev"
        refine ⟨_, rw_at T b2 hj, ?_⟩
        simp only [List.map_map]
        rw [show (Prod.fst ∘ fun s => (natD s, PyData.dict ((F s).map fun r => (natD r, PyData.bool true)))) = natD from rfl]
        walk_at "ev"
        refine ⟨key_nat.uni _ _, _, rfl, bh_get hF ?_⟩
        refine ⟨_, rfl, ?_⟩
        rw [List.map_map]
        have hFl : (F (stq t u.2 j)).length ≤ 3 := Nat.le_trans (len_in (hR2 _).1 fun r hr => by
          obtain ⟨l', h'⟩ := (hR2 _).2 r hr
          exact (bd _ h').2.2) hR
        have hFm := (hR2 (stq t u.2 j)).2
        generalize F (stq t u.2 j) = rs at hFl hFm
        refine forW_pre2 (f := (fun q : PyData × PyData => ItD.one q.1) ∘ fun r => (natD r, PyData.bool true)) (l := rs) (fun pr ρ => ∃ (es : List (Nat × SyN × Nat × List SyN)) (w11 w18 w19 w20 : Option D), ρ = [some (D.p (PyData.tuple [seqD M.rs, PyData.tuple (List.map rwT t), PyData.tuple (List.map natD ac)])), some (D.p (PyData.tuple [PyData.tuple (List.map symD M.rs), PyData.tuple (List.map rwT M.lf), PyData.tuple (List.map rwT M.rt), PyData.tuple (List.map outD M.ou)])),
          some (D.p (PyData.list (List.map triD ps))), some (D.p (dicP (List.map triD ps, List.map natD (List.range ps.length))).dat),
          some (D.p (PyData.tuple (List.map symD M.rs))), some (D.p (PyData.tuple (List.map rwT M.lf))), some (D.p (PyData.tuple (List.map rwT M.rt))), some (D.p (PyData.tuple (List.map outD M.ou))),
          some (D.p (PyData.dict (S.map fun s => (natD s, PyData.dict ((F s).map fun r => (natD r, PyData.bool true)))))), w9, some (D.p (natD u.2)), w11, some (D.own (es.map edgD)), some (D.p (natD u.1)), some (D.p (natD j)), some (D.p (symD M.rs[j])), some (D.p (natD (stq M.lf u.1 j))), some (D.p (natD (stq t u.2 j))), w18, w19, w20] ∧ es.length ≤ 9 * pre.length + 3 * j + pr.length)
          ⟨es, _, _, _, _, rfl, by simpa using hes⟩ ?_ ?_
        · rintro pr r post2 ρ K3 hpr ⟨es, w11, w18, w19, w20, rfl, hes⟩ hK3
          obtain ⟨l', hl'⟩ := hFm r (by rw [hpr]; simp)
          have hprl : pr.length < rs.length := by rw [hpr]; simp
          obtain ⟨c1, c2⟩ := cl _ _ _ _ _ _ hu hj hl'
          have b4 := (bd _ hl').2.2
          show gN 11 (ItD.one (natD r)) _ _
          walk_at "ev"
          refine ⟨_, map_at [] (by rw [ok.rt.len]; exact b4), ?_⟩
          rw [eR]
          walk_at "ev"
          refine ⟨_, rw_at ok.rt b4 hj, ?_⟩
          walk_at "ev"
          refine ⟨by decide, tri_num (p := (u.1, u.2, stq M.rt r j)) c1 fun n1 => ?_⟩
          walk_at "ev"
          refine ⟨by decide, tri_num (p := (stq M.lf u.1 j, stq t u.2 j, r)) c2 fun n2 => ?_⟩
          have o1 := ok.ou.2 _ (getD_mem (d := []) (by rw [ok.ou.1]; exact b1))
          have o2 := o1.2 _ (getD_mem (d := []) (by rw [o1.1]; exact hj))
          refine ⟨_, map_at [] (by rw [ok.ou.1]; exact b1), ?_⟩
          rw [show ∀ o, outD o = .tuple (o.map cellD) from fun _ => rfl]
          walk_at "ev"
          refine ⟨_, map_at [] (by rw [o1.1]; exact hj), ?_⟩
          rw [show ∀ o, cellD o = .tuple (o.map seqD) from fun _ => rfl]
          walk_at "ev"
          refine ⟨_, map_at [] (by rw [o2.1]; exact b4), ?_⟩
          refine ⟨by decide, by rw [List.length_map]; omega, ?_⟩
          refine hK3 _ ⟨es ++ [(n1, M.rs[j], n2, ((M.ou.getD u.1 []).getD j []).getD r [])], some (.p (natD r)), some (.p (natD n1)), w19, w20, ?_, ?_⟩
          · rw [List.map_append]; rfl
          · rw [List.length_append, List.length_append, List.length_singleton, List.length_singleton]; omega
        · rintro ρ ⟨es, w11, w18, w19, w20, rfl, hes⟩
          refine hK2 _ ⟨es, _, _, _, _, _, _, _, _, rfl, by omega⟩
      · rintro ρ ⟨es, w11, w14, w15, w16, w17, w18, w19, w20, rfl, hes⟩
        refine hK _ ⟨es, _, _, _, _, _, _, _, _, _, _, _, rfl, ?_⟩
        rw [enD_len, List.length_map] at hes
        rw [List.length_append, List.length_singleton]
        omega
    · rintro ρ ⟨es, w9, w10, w11, w13, w14, w15, w16, w17, w18, w19, w20, rfl, hes⟩
      walk_at "ev"
      exact q es (by omega)
theorem pf_edges : ∀ xs Qd, s3 S_edges xs Qd → t_edges (endsOf Qd) (iniR xs 18) := s3_on fun x0 x1 x2 Q h => pf0_edges x0 x1 x2 Q h
/-- a function that gives the row of a state -/
def RowF {α : Type} (enc : α → PyData) (nx : α → List α) (P : α → Prop) (g : GG) : Prop := ∃ tup : Bool, ∀ s, P s → (∀ y ∈ nx s, P y) ∧ (nx s).length ≤ 1000 ∧ ∀ K : PyData → Prop, K (if tup = true then .tuple ((nx s).map enc) else .list ((nx s).map enc)) → g [enc s] K
def S_explored (c : CT) (a b d : D) (Q : D → Prop) : Prop := ∃ (α : Type) (_ : DecidableEq α) (enc : α → PyData) (nx : α → List α) (s0 : α) (f : Addr) (I : FnI) (g : GG) (P : α → Prop) (m : Option Nat) (B : Nat), a = .p (enc s0) ∧ b = .fv f I ∧ c.ct f I g ∧ d = .p (match m with | none => .none | some k => natD k) ∧
  KeyE enc ∧ P s0 ∧ RowF enc nx P g ∧ B ≤ 100000 ∧ (∀ S : List α, S.Nodup → (∀ x ∈ S, Rea nx s0 x) → S.length ≤ B) ∧
  (∀ (S : List α) (R : List (List Nat)), Expl nx s0 S R → (∀ k : Nat, m = some k → S.length ≤ k) → Q (.p (.tuple [.list (S.map enc), tabD R]))) ∧ (∀ (k : Nat) (S : List α), m = some k → S.Nodup → (∀ x ∈ S, Rea nx s0 x) → k < S.length → Q (.p .none))
set_option maxHeartbeats 1000000 in
theorem pf0_explored (c : CT) (x0 x1 x2 : D) (Q : D → Prop) (h : S_explored c x0 x1 x2 Q) : t_explored c (endsOf Q) [some x0, some x1, some x2, none, none, none, none, none] := by
  obtain ⟨α, _, enc, nx, s0, f, I, g, P, m, B, rfl, rfl, hct, rfl, hK0, hP0, ⟨tup, hrow⟩, hB, hfin, q1, q2⟩ := h
  have PR : ∀ x, Rea nx s0 x → P x := fun x h => by
    induction h with
    | base => exact hP0
    | step _ hb ih => exact (hrow _ ih).1 _ hb
  generalize hmd : (match m with | none => PyData.none | some k => natD k) = md
  unfold t_explored
  walk_at "ev"
  refine ⟨by decide, hK0.uni [] s0, by decide, ?_⟩
  rw [show M.dic [enc s0] [.leaf (PyData.int 0)] = numM enc [s0] from rfl]
  refine while_on (fun ρ => ∃ (S : List α) (R : List (List Nat)) (w6 w7 : Option D), ρ = [some (.p (enc s0)), some (.fv f I), some (.p md), some (.own (S.map enc)), some (.ot (numM enc S)), some (.own (R.map rwT)), w6, w7] ∧ ExpI nx s0 S R ∧ ∀ k, m = some k → R ≠ [] → S.length ≤ k)
    (fun ρ => match ρ with | [_, _, _, _, _, some (.own rs), _, _] => B - rs.length | _ => 0) ⟨[s0], [], _, _, rfl, ExpI.start nx s0, fun k _ h => absurd rfl h⟩ ?_
  rintro ρ ⟨S, R, w6, w7, rfl, E, hm⟩
  have hSB := hfin S E.nd E.rea
  have hRS := E.le
  walk_at "ev"
  simp only [List.length_map]
  split
  · rename_i hlt
    have hlt : R.length < S.length := by omega
    have hsm : S[R.length] ∈ S := List.getElem_mem hlt
    have hr := hrow _ (PR _ (E.rea _ hsm))
    obtain ⟨E2, hSE⟩ := (foldG (nx S[R.length]) S E.nd).2.2
    have E1 := E.step hlt
    generalize hs : S[R.length] = s at hr E1 hsm
    have hat : atI (S.map enc) (R.length : Int) = some (enc s) := by
      rw [atI_cast, List.getElem?_map, List.getElem?_eq_getElem hlt, hs]; rfl
    refine ⟨g, hct, _, hat, hr.2.2 _ ?_⟩
    generalize hd : (if tup = true then PyData.tuple ((nx s).map enc) else .list ((nx s).map enc)) = d
    have hit : itOf (.p d) = some (((nx s).map enc).map ItD.one) := by rw [← hd]; cases tup <;> rfl
    rw [hit]
    dsimp only
    rw [items_map]
    have grow : ∀ pre post : List α, nx s = pre ++ post → (pre.foldl insG S).Nodup ∧ ∀ x ∈ pre.foldl insG S, Rea nx s0 x := fun pre post e => by
      obtain ⟨n1, n2, _⟩ := foldG pre S E.nd
      refine ⟨n1, fun x hx => ?_⟩
      rcases (n2 x).mp hx with z | z
      · exact E.rea x z
      · exact .step (E.rea _ hsm) (by rw [e]; exact List.mem_append_left _ z)
    refine forW_pre2 (fun pre ρ => ∃ w7 : Option D, ρ = [some (.p (enc s0)), some (.fv f I), some (.p md), some (.own ((pre.foldl insG S).map enc)), some (.ot (numM enc (pre.foldl insG S))), some (.own (R.map rwT)), some (.p d), w7]) ⟨_, rfl⟩ ?_ ?_
    · rintro pre x post ρ K hp ⟨w7, rfl⟩ hK
      obtain ⟨g1, g2⟩ := grow (pre ++ [x]) post (by rw [hp]; simp)
      obtain ⟨g3, g4⟩ := grow pre (x :: post) hp
      have hl := hfin _ g3 g4
      generalize hT : pre.foldl insG S = T at *
      have e1 : (pre ++ [x]).foldl insG S = insG T x := by rw [List.foldl_append, hT]; rfl
      rw [e1] at hK g1 g2
      have hl2 := hfin _ g1 g2
      simp only [numM]
      walk_at "ev"
      refine ⟨hK0.uni T x, ?_⟩
      rw [hK0.has]
      by_cases hx : x ∈ T
      · rw [decide_eq_true hx]
        have e2 : insG T x = T := if_pos hx
        rw [e2] at hK
        simp (decide := true) only [if_true, if_false, Bool.not_true, Bool.false_eq_true]
        exact hK _ ⟨_, rfl⟩
      · rw [decide_eq_false hx]
        have e2 : insG T x = T ++ [x] := if_neg hx
        rw [e2] at hK hl2
        simp (decide := true) only [if_true, if_false, Bool.not_false]
        have eT : numM enc T = .dic (T.map enc) ((List.range T.length).map fun i => .leaf (natD i)) := rfl
        refine ⟨_, _, rfl, hK0.uni T x, by rw [List.length_map, List.length_range]; omega, fun j hj => ?_, by rw [List.length_map]; omega, ?_⟩
        · rw [hK0.ix, if_neg hx] at hj; cases hj
        · rw [List.length_map, show PyData.int (T.length : Int) = natD T.length from rfl, put_num hK0 hx, show T.map enc ++ [enc x] = (T ++ [x]).map enc by rw [List.map_append]; rfl]
          exact hK _ ⟨_, rfl⟩
    · rintro ρ ⟨w7, rfl⟩
      obtain ⟨g3, g4⟩ := grow (nx s) [] (by simp)
      have hl := hfin _ g3 g4
      have hin : ∀ y ∈ nx s, y ∈ (nx s).foldl insG S := fun y hy => ((foldG (nx s) S E.nd).2.1 y).mpr (.inr hy)
      generalize (nx s).foldl insG S = T at *
      walk_at "ev"
      rw [hit]
      dsimp only
      refine lcW_of (fun y => natD (T.idxOf y)) (fun y hy K2 hK2 => ?_) (szl (by have := hr.2.1; omega)) ?_
      · simp only [numM]
        walk_at "ev"
        refine ⟨hK0.uni T y, T.idxOf y, ?_, natD (T.idxOf y), ?_, hK2⟩
        · rw [hK0.ix, if_pos (hin y hy)]
        · rw [List.getElem?_map, List.getElem?_range (List.idxOf_lt_length_of_mem (hin y hy))]; rfl
      · have er : R.map rwT ++ [PyData.tuple ((nx s).map fun y => natD (T.idxOf y))] = (R ++ [(nx s).map T.idxOf]).map rwT := by
          rw [List.map_append, List.map_singleton, rwT, List.map_map]; rfl
        have hRT : R.length < T.length := by
          have := E1.le
          rw [List.length_append, List.length_singleton] at this
          omega
        rw [er]
        have fin : (∀ k, m = some k → T.length ≤ k) → (∃ (S' : List α) (R' : List (List Nat)) (w6 w8 : Option D), (T.map enc = S'.map enc ∧ D.ot (numM enc T) = D.ot (numM enc S') ∧ (R ++ [(nx s).map T.idxOf]).map rwT = R'.map rwT ∧ some (D.p d) = w6 ∧ w7 = w8) ∧ ExpI nx s0 S' R' ∧ ∀ k, m = some k → R' ≠ [] → S'.length ≤ k) ∧ B - ((R ++ [(nx s).map T.idxOf]).map rwT).length < B - R.length := fun hk => by
          refine ⟨⟨T, _, _, _, ⟨rfl, rfl, rfl, rfl, rfl⟩, E1, fun k hk' _ => hk k hk'⟩, ?_⟩
          rw [List.length_map, List.length_append, List.length_singleton]
          omega
        refine ⟨by rw [List.length_map]; omega, ?_⟩
        cases m with
        | none =>
          have : md = .none := hmd.symm
          subst this
          exact fin (fun k h => by cases h)
        | some k =>
          have : md = natD k := hmd.symm
          subst this
          rw [List.length_map]
          refine ⟨_, rfl, ?_⟩
          split
          · rename_i hc
            have hc : (k : Int) < (T.length : Int) := of_decide_eq_true hc
            exact q2 k T rfl g3 g4 (by omega)
          · rename_i hc
            have hc : ¬ (k : Int) < (T.length : Int) := fun z => hc (decide_eq_true z)
            exact fin fun k' hk' => by cases hk'; omega
  · rename_i hnl
    have hle : S.length ≤ R.length := by omega
    refine ⟨by decide, q1 S R (E.fin hle) fun k hk => hm k hk fun e => ?_⟩
    rw [e] at hle
    have := E.ord
    have h0 : S = [] := List.eq_nil_of_length_eq_zero (by simpa using hle)
    rw [e, h0] at this
    cases this
theorem pf_explored (c : CT) : ∀ xs Qd, s3 (S_explored c) xs Qd → t_explored c (endsOf Qd) (iniR xs 5) := s3_on fun x0 x1 x2 Q h => pf0_explored c x0 x1 x2 Q h
/-- a graph of an acceptor and a two-way machine -/
def S_graphof (a b : D) (Q : D → Prop) : Prop := ∃ (t : List (List Nat)) (ac : List Nat) (L L2 R : Nat) (M : Two), a = .p (accD M.rs t ac) ∧ b = .p M.d ∧ TabOk M.rs.length L t ∧ M.Ok L2 R ∧ M.rs.length ≤ 3 ∧ 1 ≤ L ∧ L ≤ 4 ∧ L2 ≤ 3 ∧ R ≤ 3 ∧ (∀ x ∈ ac, x < L) ∧ ac.length ≤ L ∧
  ∀ (ps st en : List PyData) (es : List (Nat × SyN × Nat × List SyN)), ps.length ≤ 1000 → st.length ≤ 1000 → en.length ≤ 1000 → es.length ≤ 2000 → (∀ d ∈ st, ∃ n : Nat, d = natD n) → (∀ d ∈ en, ∃ n : Nat, d = natD n) → Q (.p (.tuple [.tuple ps, .tuple st, .tuple en, .tuple (es.map edgD)]))
set_option maxHeartbeats 1000000 in
theorem pf0_graphof [FR] (x0 x1 : D) (Q : D → Prop) (h : S_graphof x0 x1 Q) : t_graphof (fun c => s3 (S_explored c)) (s2 S_rightsbehind) (s3 S_edges) (endsOf Q) [some x0, some x1, none, none, none, none, none, none, none, none, none, none, none, none] := by
  obtain ⟨t, ac, L, L2, R, M, rfl, rfl, T, ok, hm, hL, hL4, hL2, hR, hac, hacl, q⟩ := h
  have hb := ok.b
  have ed : M.d = .tuple [.tuple (M.rs.map symD), .tuple (M.lf.map rwT), .tuple (M.rt.map rwT), .tuple (M.ou.map outD)] := rfl
  have ea : accD M.rs t ac = .tuple [seqD M.rs, .tuple (t.map rwT), .tuple (ac.map natD)] := rfl
  have eR : ∀ r, rwT r = .tuple (r.map natD) := fun r => rfl
  unfold t_graphof
  walk_at "ev"
  refine ⟨by decide, ?_⟩
  intro f c'
  refine ⟨f, c', .inr (by simp), [.p M.d, .p (accD M.rs t ac)], rfl, fun ds K => ∃ p : Nat × Nat, ds = [pD p] ∧ p.1 < L2 ∧ p.2 < L ∧ K (.list ((nx2 M.rs.length M.lf t p).map pD)), fun ds Qd hg => ?_, fun I => ⟨[.p (.tuple [.int 0, .int 0]), .fv f I], by simp [argAllE, D.argE, EnL.get, D.arg], rfl, ?_⟩⟩
  · obtain ⟨p, rfl, h1, h2, hk⟩ := hg
    refine ⟨rfl, ?_⟩
    unfold t_graphof_0
    rw [ed, ea]
    rw [show pD p = .tuple [natD p.1, natD p.2] from rfl]
    simp only [iniR, List.map_cons, List.map_nil, List.cons_append, List.nil_append, List.replicate, List.append_nil]
    walk_at "ev"
    refine ⟨_, map_at [] (by rw [ok.lf.len]; exact h1), _, map_at [] (by rw [T.len]; exact h2), _, _, ⟨rfl, rfl⟩, ?_⟩
    have l1 : (M.lf.getD p.1 []).length = M.rs.length := (ok.lf.at h1).1
    have l2 : (t.getD p.2 []).length = M.rs.length := (T.at h2).1
    have e : List.zipWith pairD ((M.lf.getD p.1 []).map natD) ((t.getD p.2 []).map natD) = (nx2 M.rs.length M.lf t p).map pD := by
      have e0 : nx2 M.rs.length M.lf t p = (List.range M.rs.length).map fun i => ((M.lf.getD p.1 []).getD i 0, (t.getD p.2 []).getD i 0) := rfl
      rw [e0]
      generalize M.lf.getD p.1 [] = X at l1 ⊢
      generalize t.getD p.2 [] = Y at l2 ⊢
      refine List.ext_getElem (by simp [l1, l2]) fun i h1 h2 => ?_
      have hi : i < M.rs.length := by simpa using h2
      simp only [List.getElem_zipWith, List.getElem_map, List.getElem_range]
      rw [getD_of (by omega : i < X.length), getD_of (by omega : i < Y.length)]
      rfl
    rw [e]
    exact ⟨.inl (by rw [List.length_map, l1]; omega), hk⟩
  refine ⟨Nat × Nat, inferInstance, pD, nx2 M.rs.length M.lf t, (0, 0), f, I, _, (fun p => p.1 < L2 ∧ p.2 < L), none, L2 * L, rfl, rfl, .inr ⟨rfl, rfl, rfl⟩, rfl, key_pD, ⟨hb.1, hL⟩, ⟨false, fun p hp => ⟨fun y hy => ?_, ?_, fun K hk => ⟨p, rfl, hp.1, hp.2, hk⟩⟩⟩, ?_, fun S nd hS => nx2_len ok.lf T hb.1 hL nd hS, fun S RR X _ => ?_, fun k S h => by cases h⟩
  · obtain ⟨i, hi, rfl⟩ := List.mem_map.mp hy
    have hi := List.mem_range.mp hi
    exact ⟨ok.lf.stq hp.1 hi, T.stq hp.2 hi⟩
  · unfold nx2
    rw [List.length_map, List.length_range]; omega
  · have : L2 * L ≤ 3 * 4 := Nat.mul_le_mul hL2 hL4
    omega
  have hS2 := fun x hx => nx2_lt ok.lf T hb.1 hL (X.rea x hx)
  have hS3 : S.length ≤ 12 := Nat.le_trans (nx2_len ok.lf T hb.1 hL X.nd X.rea) (Nat.mul_le_mul hL2 hL4)
  have hcl : ∀ x ∈ S, ∀ y ∈ nx2 M.rs.length M.lf t x, y ∈ S := fun x hx y hy => X.cl hx hy
  have h0 : ((0, 0) : Nat × Nat) ∈ S := X.all .base
  have nS := X.nd
  clear X
  walk_at "ev"
  refine ⟨M.rs, t, ac, L, L2, R, M, rfl, rfl, rfl, T, hL, by omega, hac, by omega, ok, ?_⟩
  generalize hB : behL M.rs.length L R t M.rt ac = B
  have hBR : ∀ s, (B s).length ≤ R := fun s => by
    rw [← hB]; unfold behL
    exact Nat.le_trans (List.length_filter_le _ _) (by rw [List.length_range]; exact Nat.le_refl _)
  walk_at "ev"
  have hBN : ∀ s, (B s).Nodup := fun s => by
    rw [← hB]; unfold behL
    exact List.nodup_range.filter _
  have hBr : ∀ s, ∀ r ∈ B s, r < R := fun s r hr => by rw [← hB] at hr; exact (mem_behL.mp hr).1
  have hBb : ∀ s i r, s < L → i < M.rs.length → r ∈ B (stq t s i) → stq M.rt r i ∈ B s := fun s i r hs hi hr => by
    rw [← hB] at hr ⊢
    obtain ⟨h1, h2⟩ := mem_behL.mp hr
    exact mem_behL.mpr ⟨ok.rt.stq h1 hi, .step h2 (mem_nxB.mpr ⟨i, hi, hs, rfl, rfl⟩)⟩
  clear hB
  have b_at : ∀ {s : Nat} {K : D → Prop}, s < L → K (.p (.list ((B s).map natD))) → bIx (.p (rw1D L B)) (.p (natD s)) K := fun hs hk => row_ix hs hk
  refine lcW_of (fun p => natD (B p.2).length) (fun p hp K hK => ?_) (szl (by omega)) ?_
  · rw [show pD p = .tuple [natD p.1, natD p.2] from rfl]
    walk_at "ev"
    refine b_at (hS2 p hp).2 ?_
    walk_at "ev"
    rw [List.length_map]
    exact hK
  rw [ks_natE]
  have hsum := sum_le (f := fun p : Nat × Nat => (B p.2).length) (fun p => hBR p.2) S
  have hsum2 : (S.map fun p => (B p.2).length).sum ≤ 36 := Nat.le_trans hsum (Nat.mul_le_mul hR hS3)
  generalize (S.map fun p => (B p.2).length).sum = sm at hsum2
  walk_at "ev"
  split
  · rename_i h
    exact absurd h (by omega)
  clear hsum
  rw [items_map]
  refine lcF_of (fun p => (B p.2).map fun r => triD (p.1, p.2, r)) 3 (fun p hp => ⟨by rw [List.length_map]; exact Nat.le_trans (hBR _) hR, fun acc K hz hK => ?_⟩) (by show 0 + _ ≤ 16777216; omega) ?_
  · unfold el2W
    rw [show pD p = .tuple [natD p.1, natD p.2] from rfl]
    walk_at "ev"
    refine b_at (hS2 p hp).2 ?_
    rw [show itOf (.p (.list ((B p.2).map natD))) = some (((B p.2).map natD).map ItD.one) from rfl]
    dsimp only
    rw [items_map]
    rw [List.length_map] at hz
    refine lcW_ofA (fun r => triD (p.1, p.2, r)) (fun r hr K2 hK2 => ?_) hz hK
    walk_at "ev"
    exact ⟨by decide, hK2⟩
  rw [List.nil_append, show (S.flatMap fun p => (B p.2).map fun r => triD (p.1, p.2, r)) = ((ptsT S B).map rowT).map rowI by unfold ptsT; rw [List.map_flatMap, List.map_flatMap]; simp only [List.map_map]; rfl]
  have nP := nd_ptsT nS hBN
  have lP : (ptsT S B).length ≤ 36 := Nat.le_trans (len_ptsT hBR) (Nat.mul_le_mul hR hS3)
  unfold kSrtT
  rw [show (D.nw (((ptsT S B).map rowT).map rowI)).srt = some (((ptsT S B).map rowT).map rowI) from rfl]
  dsimp only
  rw [rowsOf_map]
  dsimp only
  refine ⟨fun ns hns => ?_, szl (by rw [List.length_map]; omega), fun nss hp _ => ?_⟩
  · obtain ⟨p, _, rfl⟩ := List.mem_map.mp hns
    exact fun z => nomatch z
  obtain ⟨ps, hp', rfl⟩ := perm_back (f := rowT) (g := fun ns => (ns.headD 0 |>.toNat, (ns.getD 1 0).toNat, (ns.getD 2 0).toNat)) (fun x => rfl) hp
  have nP := hp'.nodup_iff.mpr nP
  have lP : ps.length ≤ 36 := by rw [hp'.length_eq]; exact lP
  have mP : ∀ l s r, (l, s, r) ∈ ps ↔ (l, s) ∈ S ∧ r ∈ B s := fun l s r => hp'.mem_iff.trans mem_ptsT
  clear hp hp'
  rw [show (ps.map rowT).map rowI = ps.map triD by rw [List.map_map]; rfl]
  refine ⟨_, rfl, ?_⟩
  refine ⟨t, ac, L, L2, R, M, ps, rfl, rfl, rfl, T, ok, hm, hL4, hL2, hR, nP, by omega, fun p hp => ?_, fun l s r0 i l' r h1 hi h2 => ?_, fun es he => ?_⟩
  · obtain ⟨h1, h2⟩ := (mP p.1 p.2.1 p.2.2).mp hp
    have := hS2 _ h1
    exact ⟨this.1, this.2, hBr _ _ h2⟩
  · obtain ⟨a1, a2⟩ := (mP _ _ _).mp h1
    obtain ⟨c1, c2⟩ := (mP _ _ _).mp h2
    refine ⟨(mP _ _ _).mpr ⟨a1, hBb _ _ _ (hS2 _ a1).2 hi c2⟩, (mP _ _ _).mpr ⟨hcl _ a1 _ ?_, c2⟩⟩
    exact List.mem_map.mpr ⟨i, List.mem_range.mpr hi, rfl⟩
  walk_at "ev"
  rw [List.length_map]
  split
  · rename_i h
    exact absurd h (by omega)
  have hen : ∀ x ∈ enD (ps.map triD), ∃ (i : Nat) (p : Tri), x = .two (.int (i : Nat)) (triD p) := fun x hx => by
    obtain ⟨i, hi⟩ := List.mem_iff_getElem?.mp hx
    obtain ⟨d, hd, rfl⟩ := enD_get hi
    rw [List.getElem?_map] at hd
    cases hq : ps[i]? with
    | none => rw [hq] at hd; cases hd
    | some p =>
      rw [hq] at hd
      exact ⟨i, p, by rw [Option.some.inj hd]⟩
  have hel : (enD (ps.map triD)).length ≤ 36 := by rw [enD_len, List.length_map]; exact lP
  have et : ∀ p : Tri, triD p = .tuple [natD p.1, natD p.2.1, natD p.2.2] := fun p => rfl
  refine lcW_len (fun d => ∃ n : Nat, d = natD n) (fun d h => by cases h) (fun x hx K k0 k1 => ?_) (by show 0 + _ ≤ 16777216; omega) fun st pst hst => ?_
  · obtain ⟨i, p, rfl⟩ := hen x hx
    rw [et]
    walk_at "ev"
    split
    · split
      · exact k1 _ ⟨i, rfl⟩
      · exact k0
    · exact k0
  refine lcW_len (fun d => ∃ n : Nat, d = natD n) (fun d h => by cases h) (fun x hx K k0 k1 => ?_) (by show 0 + _ ≤ 16777216; omega) fun en pen hen => ?_
  · obtain ⟨i, p, rfl⟩ := hen x hx
    rw [et, ea]
    walk_at "ev"
    split
    · refine ⟨inOk_n _ _, ?_⟩
      split
      · exact k1 _ ⟨i, rfl⟩
      · exact k0
    · exact k0
  unfold kSrtA
  rw [show (D.p (.list (es.map edgD))).ls = some (es.map edgD) from rfl]
  dsimp only
  refine ⟨edg_alls es, edg_srt es, fun d hd => ?_, szl (by rw [List.length_map]; omega), fun ds hp _ => ?_⟩
  · obtain ⟨e, _, rfl⟩ := List.mem_map.mp hd
    exact edg_depth e
  obtain ⟨es2, rfl⟩ := edg_back (ds := ds) fun d hd => by
    obtain ⟨e, _, h⟩ := List.mem_map.mp (hp.mem_iff.mp hd)
    exact ⟨e, h.symm⟩
  have := hp.length_eq
  rw [List.length_map, List.length_map] at this
  walk_at "ev"
  rw [List.length_nil] at hst hen
  exact ⟨by decide, q _ _ _ _ (by rw [List.length_map]; omega) (by omega) (by omega) (by omega) pst pen⟩
theorem pf_graphof [FR] : ∀ xs Qd, s2 S_graphof xs Qd → t_graphof (fun c => s3 (S_explored c)) (s2 S_rightsbehind) (s3 S_edges) (endsOf Qd) (iniR xs 12) := s2_on fun x0 x1 Q h => pf0_graphof x0 x1 Q h
def S_lawsame (m : Nat) (a b : D) (Q : D → Prop) : Prop := ∃ d : PyData, a = .p d ∧ b = .p d ∧ smD m d = true ∧ Q (.p (.bool true))
theorem z_lawsame : ∀ xs Q, ¬ s2 (S_lawsame 0) xs Q := s2_on fun a b Q h => by
  obtain ⟨_, _, _, h, _⟩ := h
  cases h
set_option maxHeartbeats 1000000 in
theorem pf0_lawsame (m : Nat) (x0 x1 : D) (Q : D → Prop) (h : S_lawsame (m + 1) x0 x1 Q) : t_lawsame (s2 (S_lawsame m)) (endsOf Q) [some x0, some x1, none] := by
  obtain ⟨d, rfl, rfl, hs, q⟩ := h
  unfold t_lawsame
  have i1 : ∀ (T : String) (d : PyData), isiB T (.p d) = match d with
    | .tuple _ => kitB "tuple" T | .list _ => kitB "list" T | .str _ => kitB "str" T | .int _ => kitB "int" T | .bool _ => kitB "bool" T | .none => kitB "NoneType" T | _ => none := fun T d => by cases d <;> rfl
  cases d with
  | none => walk_at "ev"; exact q
  | bool b =>
    walk_at "ev"
    simp only [i1, show kitB "bool" "bool" = some true from rfl]
    walk_at "ev"
    simpa using q
  | int i =>
    walk_at "ev"
    simp only [i1, show kitB "int" "bool" = some false from rfl, show kitB "int" "int" = some true from rfl]
    walk_at "ev"
    simpa using q
  | str s =>
    walk_at "ev"
    simp only [i1, show kitB "str" "bool" = some false from rfl, show kitB "str" "int" = some false from rfl, show kitB "str" "str" = some true from rfl]
    walk_at "ev"
    simpa using q
  | tuple ds =>
    simp only [smD, Bool.and_eq_true, List.all_eq_true, decide_eq_true_eq] at hs
    walk_at "ev"
    simp only [i1, show kitB "tuple" "bool" = some false from rfl, show kitB "tuple" "int" = some false from rfl, show kitB "tuple" "str" = some false from rfl, show kitB "tuple" "tuple" = some true from rfl]
    walk_at "ev"
    refine ⟨by omega, by omega, forW_inv (fun i ρ => ∃ w, ρ = [some (.p (.tuple ds)), some (.p (.tuple ds)), w]) ⟨none, rfl⟩ ?_ ?_⟩
    · rintro i x ρ K hx ⟨w, rfl⟩ hK
      obtain ⟨hi, rfl⟩ := rngD_get hx
      walk_at "ev"
      have hi : i < ds.length := by omega
      have e : atI ds (i : Int) = some (ds[i]'hi) := by rw [atI_cast, get_lt hi]
      refine ⟨_, e, _, e, _, rfl, rfl, hs.1 _ (List.getElem_mem hi), ?_⟩
      walk_at "ev"
      exact hK _ ⟨_, rfl⟩
    · rintro ρ ⟨w, rfl⟩
      exact q
  | list ds => cases hs
  | dict ds => cases hs
theorem pf_lawsame : ∀ m xs Qd, s2 (S_lawsame (m + 1)) xs Qd → t_lawsame (s2 (S_lawsame m)) (endsOf Qd) (iniR xs 1) := fun m => s2_on fun x0 x1 Q h => pf0_lawsame m x0 x1 Q h
/-- a graph's net -/
def S_netof (a : D) (Q : D → Prop) : Prop := ∃ (ps : List PyData) (st en : PyData) (es : List (Nat × SyN × Nat × List SyN)), a = .p (.tuple [.tuple ps, st, en, .tuple (es.map edgD)]) ∧ ps.length ≤ 1000 ∧ es.length ≤ 2000 ∧ Q (.p (.tuple [.int (ps.length : Nat), st, en, .tuple (es.map fun e => .tuple [natD e.1, symD e.2.1, natD e.2.2.1])]))
set_option maxHeartbeats 1000000 in
theorem pf0_netof (x0 : D) (Q : D → Prop) (h : S_netof x0 Q) : t_netof (endsOf Q) [some x0, none, none, none, none, none, none, none, none] := by
  obtain ⟨ps, st, en, es, rfl, hp, he, q⟩ := h
  unfold t_netof
  walk_at "ev"
  refine lcW_of (fun e : Nat × SyN × Nat × List SyN => .tuple [natD e.1, symD e.2.1, natD e.2.2.1]) (fun e _ K hK => ?_) (szl (by omega)) ⟨by decide, q⟩
  rw [show edgD e = .tuple [natD e.1, symD e.2.1, natD e.2.2.1, seqD e.2.2.2] from rfl]
  walk_at "ev"
  exact ⟨by decide, hK⟩
theorem pf_netof : ∀ xs Qd, s1 S_netof xs Qd → t_netof (endsOf Qd) (iniR xs 8) := s1_on fun x0 Q h => pf0_netof x0 Q h
set_option maxHeartbeats 1000000 in
theorem pf_law : t_law (s1 S_lawsigns) (s2 S_draw) (s3 S_lawacceptor) (s2 S_lawsymbols) (s2 S_lawmenu) (s5 S_lawtwoway) (s2 S_graphof) (s1 S_netof) (s2 (S_lawsame 5)) endsLaw (none :: some .tape :: [none, none, none, none, none, none, none]) := by
  unfold t_law
  walk_at "ev"
  refine ⟨rfl, fun qs hq hq2 ⟨y, z, hy, hz, hs⟩ => ?_⟩
  have hsm : ∀ q ∈ qs, Sm q := fun q hq => (sym_all hy hz q (hs.subset hq)).sm
  walk_at "ev"
  refine ⟨by decide, fun v hv => ?_⟩
  rw [show (1 : Int) + (v : Int) = ((1 + v : Nat) : Int) by omega]
  refine ⟨rfl, qs, 1 + v, rfl, rfl, by omega, by omega, by omega, fun t ac T hac hacl => ?_⟩
  walk_at "ev"
  refine ⟨[97, 98], [65, 66], congrArg (fun z => D.p (.str z)) (by decide +kernel), congrArg (fun z => D.p (.str z)) (by decide +kernel), by decide, by decide, ?_⟩
  walk_at "ev"
  have hsg : ∀ q ∈ prs [64, 65, 66] [97, 98], Sm q := fun q hq => by
    obtain ⟨h1, h2⟩ := mem_prs.mp hq
    simp only [List.mem_cons, List.not_mem_nil, or_false] at h1 h2
    exact ⟨by omega, by omega⟩
  refine ⟨rfl, prs [64, 65, 66] [97, 98], rfl, by decide, by decide, fun x hx y hy => ?_⟩
  have sx := hsg x hx
  have sy := hsg y hy
  clear hsg
  walk_at "ev"
  refine ⟨by decide, fun v1 hv1 => ⟨by decide, fun v2 hv2 => ?_⟩⟩
  rw [show (1 : Int) + (v1 : Int) = ((1 + v1 : Nat) : Int) by omega, show (1 : Int) + (v2 : Int) = ((1 + v2 : Nat) : Int) by omega]
  refine ⟨rfl, qs, [[], [x], [y], [x, y], [y, x, y]], 1 + v1, 1 + v2, rfl, rfl, rfl, rfl, hq, by omega, hsm, by simp, by show 5 ≤ 100; decide, ?_, by omega, by omega, by omega, by omega, fun M hM ok => ?_⟩
  · intro s hs
    simp only [List.mem_cons, List.not_mem_nil, or_false] at hs
    refine ⟨?_, ?_⟩
    · rcases hs with rfl | rfl | rfl | rfl | rfl <;> simp
    · intro q hq
      rcases hs with rfl | rfl | rfl | rfl | rfl <;> simp at hq
      · rw [hq]; exact sx
      · rw [hq]; exact sy
      · rcases hq with rfl | rfl
        · exact sx
        · exact sy
      · rcases hq with rfl | rfl | rfl
        · exact sy
        · exact sx
        · exact sy
  subst hM
  walk_at "ev"
  refine ⟨t, ac, 1 + v, 1 + v1, 1 + v2, M, rfl, rfl, T, ok, hq2, by omega, by omega, by omega, by omega, hac, hacl, fun ps st en es lp ls le lE hst hen => ?_⟩
  walk_at "ev"
  refine lcW_of (fun e : Nat × SyN × Nat × List SyN => .tuple [natD e.1, symD e.2.1, natD e.2.2.1]) (fun e he K hK => ?_) (szl (by omega)) ?_
  · rw [show edgD e = .tuple [natD e.1, symD e.2.1, natD e.2.2.1, seqD e.2.2.2] from rfl]
    walk_at "ev"
    exact hK
  refine ⟨ps, .tuple st, .tuple en, es, rfl, lp, lE, ?_⟩
  refine ⟨by decide, _, rfl, rfl, _, rfl, rfl, ?_, rfl⟩
  simp only [smD, Bool.and_eq_true, List.all_eq_true, decide_eq_true_eq, List.length_map]
  refine ⟨fun d hd => ?_, by show 4 ≤ 1000000; decide⟩
  simp only [List.mem_cons, List.not_mem_nil, or_false] at hd
  rcases hd with rfl | rfl | rfl | rfl
  · rfl
  · simp only [smD, Bool.and_eq_true, List.all_eq_true, decide_eq_true_eq]
    refine ⟨fun d hd => ?_, by omega⟩
    obtain ⟨n, rfl⟩ := hst d hd
    rfl
  · simp only [smD, Bool.and_eq_true, List.all_eq_true, decide_eq_true_eq]
    refine ⟨fun d hd => ?_, by omega⟩
    obtain ⟨n, rfl⟩ := hen d hd
    rfl
  · simp only [smD, Bool.and_eq_true, List.all_eq_true, decide_eq_true_eq]
    refine ⟨fun d hd => ?_, by rw [List.length_map]; omega⟩
    obtain ⟨e, _, rfl⟩ := List.mem_map.mp hd
    rfl
end
set_option maxHeartbeats 4000000 in
theorem all_mk {l : PySem.W.OpenLaw} {w : World} {K : PySem.W.Frag} {h : Heap} {mg : Str → Option Value} {fa : Addr} {ts : List Addr} (X : K.In h) (G : h.Ns mainGlobals mg) (hfa : mg "law" = some (.ref fa))
    {f1 : Addr} {od1 an1 : Option Addr} {sl1 : Array (Option Value)} {oc1 kV1 dc1 pm1 cd1 ct1 : Value}
    (a1 : PySem.W.nsIn K mainGlobals "_law_tape" = some (some (.ref f1)))
    (l1 : K.lookup f1 = some ⟨oc1, od1, .func (PySem.W.fnOf "_law_tape" "_law_tape" (defArgs s_lawtape) (defBody s_lawtape) (defScope s_lawtape) .none kV1 dc1 pm1 an1 cd1 ct1), sl1⟩)
    (c1 : PySem.W.codeIn K cd1 "_law_tape" = true) (k1 : PySem.W.keepIn K (.ref f1) = true)
    {f2 : Addr} {od2 an2 : Option Addr} {sl2 : Array (Option Value)} {oc2 kV2 dc2 pm2 cd2 ct2 : Value}
    (a2 : PySem.W.nsIn K mainGlobals "_law_symbols" = some (some (.ref f2)))
    (l2 : K.lookup f2 = some ⟨oc2, od2, .func (PySem.W.fnOf "_law_symbols" "_law_symbols" (defArgs s_lawsymbols) (defBody s_lawsymbols) (defScope s_lawsymbols) .none kV2 dc2 pm2 an2 cd2 ct2), sl2⟩)
    (c2 : PySem.W.codeIn K cd2 "_law_symbols" = true) (k2 : PySem.W.keepIn K (.ref f2) = true)
    {f3 : Addr} {od3 an3 : Option Addr} {sl3 : Array (Option Value)} {oc3 kV3 dc3 pm3 cd3 ct3 : Value}
    (a3 : PySem.W.nsIn K mainGlobals "_law_draw" = some (some (.ref f3)))
    (l3 : K.lookup f3 = some ⟨oc3, od3, .func (PySem.W.fnOf "_law_draw" "_law_draw" (defArgs s_lawdraw) (defBody s_lawdraw) (defScope s_lawdraw) .none kV3 dc3 pm3 an3 cd3 ct3), sl3⟩)
    (c3 : PySem.W.codeIn K cd3 "_law_draw" = true) (k3 : PySem.W.keepIn K (.ref f3) = true)
    {f4 : Addr} {od4 an4 : Option Addr} {sl4 : Array (Option Value)} {oc4 kV4 dc4 pm4 cd4 ct4 : Value}
    (a4 : PySem.W.nsIn K mainGlobals "_law_picked" = some (some (.ref f4)))
    (l4 : K.lookup f4 = some ⟨oc4, od4, .func (PySem.W.fnOf "_law_picked" "_law_picked" (defArgs s_lawpicked) (defBody s_lawpicked) (defScope s_lawpicked) .none kV4 dc4 pm4 an4 cd4 ct4), sl4⟩)
    (c4 : PySem.W.codeIn K cd4 "_law_picked" = true) (k4 : PySem.W.keepIn K (.ref f4) = true)
    {f5 : Addr} {od5 an5 : Option Addr} {sl5 : Array (Option Value)} {oc5 kV5 dc5 pm5 cd5 ct5 : Value}
    (a5 : PySem.W.nsIn K mainGlobals "_law_rising" = some (some (.ref f5)))
    (l5 : K.lookup f5 = some ⟨oc5, od5, .func (PySem.W.fnOf "_law_rising" "_law_rising" (defArgs s_lawrising) (defBody s_lawrising) (defScope s_lawrising) .none kV5 dc5 pm5 an5 cd5 ct5), sl5⟩)
    (c5 : PySem.W.codeIn K cd5 "_law_rising" = true) (k5 : PySem.W.keepIn K (.ref f5) = true)
    {f6 : Addr} {od6 an6 : Option Addr} {sl6 : Array (Option Value)} {oc6 kV6 dc6 pm6 cd6 ct6 : Value}
    (a6 : PySem.W.nsIn K mainGlobals "_law_letters" = some (some (.ref f6)))
    (l6 : K.lookup f6 = some ⟨oc6, od6, .func (PySem.W.fnOf "_law_letters" "_law_letters" (defArgs s_lawletters) (defBody s_lawletters) (defScope s_lawletters) .none kV6 dc6 pm6 an6 cd6 ct6), sl6⟩)
    (c6 : PySem.W.codeIn K cd6 "_law_letters" = true) (k6 : PySem.W.keepIn K (.ref f6) = true)
    {f7 : Addr} {od7 an7 : Option Addr} {sl7 : Array (Option Value)} {oc7 kV7 dc7 pm7 cd7 ct7 : Value}
    (a7 : PySem.W.nsIn K mainGlobals "_law_owners" = some (some (.ref f7)))
    (l7 : K.lookup f7 = some ⟨oc7, od7, .func (PySem.W.fnOf "_law_owners" "_law_owners" (defArgs s_lawowners) (defBody s_lawowners) (defScope s_lawowners) .none kV7 dc7 pm7 an7 cd7 ct7), sl7⟩)
    (c7 : PySem.W.codeIn K cd7 "_law_owners" = true) (k7 : PySem.W.keepIn K (.ref f7) = true)
    {f8 : Addr} {od8 an8 : Option Addr} {sl8 : Array (Option Value)} {oc8 kV8 dc8 pm8 cd8 ct8 : Value}
    (a8 : PySem.W.nsIn K mainGlobals "_law_signs" = some (some (.ref f8)))
    (l8 : K.lookup f8 = some ⟨oc8, od8, .func (PySem.W.fnOf "_law_signs" "_law_signs" (defArgs s_lawsigns) (defBody s_lawsigns) (defScope s_lawsigns) .none kV8 dc8 pm8 an8 cd8 ct8), sl8⟩)
    (c8 : PySem.W.codeIn K cd8 "_law_signs" = true) (k8 : PySem.W.keepIn K (.ref f8) = true)
    {f9 : Addr} {od9 an9 : Option Addr} {sl9 : Array (Option Value)} {oc9 kV9 dc9 pm9 cd9 ct9 : Value}
    (a9 : PySem.W.nsIn K mainGlobals "_law_acceptor" = some (some (.ref f9)))
    (l9 : K.lookup f9 = some ⟨oc9, od9, .func (PySem.W.fnOf "_law_acceptor" "_law_acceptor" (defArgs s_lawacceptor) (defBody s_lawacceptor) (defScope s_lawacceptor) .none kV9 dc9 pm9 an9 cd9 ct9), sl9⟩)
    (c9 : PySem.W.codeIn K cd9 "_law_acceptor" = true) (k9 : PySem.W.keepIn K (.ref f9) = true)
    {f10 : Addr} {od10 an10 : Option Addr} {sl10 : Array (Option Value)} {oc10 kV10 dc10 pm10 cd10 ct10 : Value}
    (a10 : PySem.W.nsIn K mainGlobals "_law_menu" = some (some (.ref f10)))
    (l10 : K.lookup f10 = some ⟨oc10, od10, .func (PySem.W.fnOf "_law_menu" "_law_menu" (defArgs s_lawmenu) (defBody s_lawmenu) (defScope s_lawmenu) .none kV10 dc10 pm10 an10 cd10 ct10), sl10⟩)
    (c10 : PySem.W.codeIn K cd10 "_law_menu" = true) (k10 : PySem.W.keepIn K (.ref f10) = true)
    {f11 : Addr} {od11 an11 : Option Addr} {sl11 : Array (Option Value)} {oc11 kV11 dc11 pm11 cd11 ct11 : Value}
    (a11 : PySem.W.nsIn K mainGlobals "_law_twoway" = some (some (.ref f11)))
    (l11 : K.lookup f11 = some ⟨oc11, od11, .func (PySem.W.fnOf "_law_twoway" "_law_twoway" (defArgs s_lawtwoway) (defBody s_lawtwoway) (defScope s_lawtwoway) .none kV11 dc11 pm11 an11 cd11 ct11), sl11⟩)
    (c11 : PySem.W.codeIn K cd11 "_law_twoway" = true) (k11 : PySem.W.keepIn K (.ref f11) = true)
    {f12 : Addr} {od12 an12 : Option Addr} {sl12 : Array (Option Value)} {oc12 kV12 dc12 pm12 cd12 ct12 : Value}
    (a12 : PySem.W.nsIn K mainGlobals "sources_of" = some (some (.ref f12)))
    (l12 : K.lookup f12 = some ⟨oc12, od12, .func (PySem.W.fnOf "sources_of" "sources_of" (defArgs s_sourcesof) (defBody s_sourcesof) (defScope s_sourcesof) .none kV12 dc12 pm12 an12 cd12 ct12), sl12⟩)
    (c12 : PySem.W.codeIn K cd12 "sources_of" = true) (k12 : PySem.W.keepIn K (.ref f12) = true)
    {f13 : Addr} {od13 an13 : Option Addr} {sl13 : Array (Option Value)} {oc13 kV13 dc13 pm13 cd13 ct13 : Value}
    (a13 : PySem.W.nsIn K mainGlobals "rights_behind" = some (some (.ref f13)))
    (l13 : K.lookup f13 = some ⟨oc13, od13, .func (PySem.W.fnOf "rights_behind" "rights_behind" (defArgs s_rightsbehind) (defBody s_rightsbehind) (defScope s_rightsbehind) .none kV13 dc13 pm13 an13 cd13 ct13), sl13⟩)
    (c13 : PySem.W.codeIn K cd13 "rights_behind" = true) (k13 : PySem.W.keepIn K (.ref f13) = true)
    {f14 : Addr} {od14 an14 : Option Addr} {sl14 : Array (Option Value)} {oc14 kV14 dc14 pm14 cd14 ct14 : Value}
    (a14 : PySem.W.nsIn K mainGlobals "_edges" = some (some (.ref f14)))
    (l14 : K.lookup f14 = some ⟨oc14, od14, .func (PySem.W.fnOf "_edges" "_edges" (defArgs s_edges) (defBody s_edges) (defScope s_edges) .none kV14 dc14 pm14 an14 cd14 ct14), sl14⟩)
    (c14 : PySem.W.codeIn K cd14 "_edges" = true) (k14 : PySem.W.keepIn K (.ref f14) = true)
    {f15 : Addr} {od15 an15 : Option Addr} {sl15 : Array (Option Value)} {oc15 dc15 pm15 cd15 ct15 : Value} {Dk15 : Addr}
    (a15 : PySem.W.nsIn K mainGlobals "explored" = some (some (.ref f15)))
    (l15 : K.lookup f15 = some ⟨oc15, od15, .func (PySem.W.fnOf "explored" "explored" (defArgs s_explored) (defBody s_explored) (defScope s_explored) .none (.ref Dk15) dc15 pm15 an15 cd15 ct15), sl15⟩)
    (c15 : PySem.W.codeIn K cd15 "explored" = true) (k15 : PySem.W.keepIn K (.ref f15) = true)
    (kd15 : PySem.W.nsIn K Dk15 "most" = some (some (.none)))
    {f16 : Addr} {od16 an16 : Option Addr} {sl16 : Array (Option Value)} {oc16 kV16 dc16 pm16 cd16 ct16 : Value}
    (a16 : PySem.W.nsIn K mainGlobals "graph_of" = some (some (.ref f16)))
    (l16 : K.lookup f16 = some ⟨oc16, od16, .func (PySem.W.fnOf "graph_of" "graph_of" (defArgs s_graphof) (defBody s_graphof) (defScope s_graphof) .none kV16 dc16 pm16 an16 cd16 ct16), sl16⟩)
    (c16 : PySem.W.codeIn K cd16 "graph_of" = true) (k16 : PySem.W.keepIn K (.ref f16) = true)
    {cc16 PP16 : Addr} {qod16 : Option Addr} {qvs16 : Array Value} {qsl16 : Array (Option Value)} (hcd16 : cd16 = .ref cc16) (q16 : K.lookup cc16 = some ⟨.type "code", qod16, .fields qvs16, qsl16⟩) (cw16 : CodeW qvs16 cc16 PP16) (pt16 : PP16 ∈ ts)
    {f17 : Addr} {od17 an17 : Option Addr} {sl17 : Array (Option Value)} {oc17 kV17 dc17 pm17 cd17 ct17 : Value}
    (a17 : PySem.W.nsIn K mainGlobals "_law_same" = some (some (.ref f17)))
    (l17 : K.lookup f17 = some ⟨oc17, od17, .func (PySem.W.fnOf "_law_same" "_law_same" (defArgs s_lawsame) (defBody s_lawsame) (defScope s_lawsame) .none kV17 dc17 pm17 an17 cd17 ct17), sl17⟩)
    (c17 : PySem.W.codeIn K cd17 "_law_same" = true) (k17 : PySem.W.keepIn K (.ref f17) = true)
    {f18 : Addr} {od18 an18 : Option Addr} {sl18 : Array (Option Value)} {oc18 kV18 dc18 pm18 cd18 ct18 : Value}
    (a18 : PySem.W.nsIn K mainGlobals "net_of" = some (some (.ref f18)))
    (l18 : K.lookup f18 = some ⟨oc18, od18, .func (PySem.W.fnOf "net_of" "net_of" (defArgs s_netof) (defBody s_netof) (defScope s_netof) .none kV18 dc18 pm18 an18 cd18 ct18), sl18⟩)
    (c18 : PySem.W.codeIn K cd18 "net_of" = true) (k18 : PySem.W.keepIn K (.ref f18) = true)
    {f19 : Addr} {od19 an19 : Option Addr} {sl19 : Array (Option Value)} {oc19 kV19 dc19 pm19 cd19 ct19 : Value}
    (a19 : PySem.W.nsIn K mainGlobals "law" = some (some (.ref f19)))
    (l19 : K.lookup f19 = some ⟨oc19, od19, .func (PySem.W.fnOf "law" "law" (defArgs s_law) (defBody s_law) (defScope s_law) .none kV19 dc19 pm19 an19 cd19 ct19), sl19⟩)
    (c19 : PySem.W.codeIn K cd19 "law" = true) (k19 : PySem.W.keepIn K (.ref f19) = true)
    (hnd : [PP16].Nodup)
    (z_len : PySem.W.nsIn K mainGlobals "len" = some none)
    (z_max : PySem.W.nsIn K mainGlobals "max" = some none)
    (z_min : PySem.W.nsIn K mainGlobals "min" = some none)
    (z_abs : PySem.W.nsIn K mainGlobals "abs" = some none)
    (z_int : PySem.W.nsIn K mainGlobals "int" = some none)
    (z_list : PySem.W.nsIn K mainGlobals "list" = some none)
    (z_tuple : PySem.W.nsIn K mainGlobals "tuple" = some none)
    (z_range : PySem.W.nsIn K mainGlobals "range" = some none)
    (z_isinstance : PySem.W.nsIn K mainGlobals "isinstance" = some none)
    (z_sum : PySem.W.nsIn K mainGlobals "sum" = some none)
    (z_zip : PySem.W.nsIn K mainGlobals "zip" = some none)
    (z_enumerate : PySem.W.nsIn K mainGlobals "enumerate" = some none)
    (z_sorted : PySem.W.nsIn K mainGlobals "sorted" = some none)
    (z_bool : PySem.W.nsIn K mainGlobals "bool" = some none)
    (z_str : PySem.W.nsIn K mainGlobals "str" = some none)
    (z_set : PySem.W.nsIn K mainGlobals "set" = some none)
    {u_MOST_EDGES : Tok} (g_MOST_EDGES : PySem.W.nsIn K mainGlobals "MOST_EDGES" = some (some (.int 2000 u_MOST_EDGES)))
    {u_MOST_POINTS : Tok} (g_MOST_POINTS : PySem.W.nsIn K mainGlobals "MOST_POINTS" = some (some (.int 200 u_MOST_POINTS)))
    : ∃ (fd : FuncData) (cs : List (Addr × Addr)) (T : TB), TB.w = w ∧ (∀ p ∈ cs, p.2 ∈ ts) ∧ (∀ p ∈ cs, PySem.W.CodeHd h p.1 p.2) ∧ (∀ p ∈ T.T, ∃ c, (c, p.1) ∈ cs) ∧
        (∀ (s : Shared) (u : Value), BindsTo s fd ⟨[u], []⟩ [("script", u)]) ∧ ∀ base : Heap, K.In base → base.Ns mainGlobals mg → (∀ p ∈ cs, LamX.TabB base mg p.1 p.2) → FnG l.prog w K mg base CX0 7 fa fd ["script"] (spLawT K) := by
  have e := hfa.symm.trans (PySem.W.mg_of X G a19)
  cases e
  have B : Bn mg := ⟨PySem.W.mg_none_of X G z_len, PySem.W.mg_none_of X G z_max, PySem.W.mg_none_of X G z_min, PySem.W.mg_none_of X G z_abs, PySem.W.mg_none_of X G z_int, PySem.W.mg_none_of X G z_list, PySem.W.mg_none_of X G z_tuple, PySem.W.mg_none_of X G z_range, PySem.W.mg_none_of X G z_isinstance, PySem.W.mg_none_of X G z_sum, PySem.W.mg_none_of X G z_zip, PySem.W.mg_none_of X G z_enumerate, PySem.W.mg_none_of X G z_sorted, PySem.W.mg_none_of X G z_bool, PySem.W.mg_none_of X G z_str, PySem.W.mg_none_of X G z_set⟩
  have mg_MOST_EDGES := PySem.W.mg_of X G g_MOST_EDGES
  have mg_MOST_POINTS := PySem.W.mg_of X G g_MOST_POINTS
  have D1 : Df K mg "_law_tape" s_lawtape ["script"] := df_mk X G a1 l1 c1 k1 fun _ _ _ _ _ _ us hl => match us, hl with | [_], _ => rfl
  have D2 : Df K mg "_law_symbols" s_lawsymbols ["letters", "owners"] := df_mk X G a2 l2 c2 k2 fun _ _ _ _ _ _ us hl => match us, hl with | [_, _], _ => rfl
  have D3 : Df K mg "_law_draw" s_lawdraw ["tape", "many"] := df_mk X G a3 l3 c3 k3 fun _ _ _ _ _ _ us hl => match us, hl with | [_, _], _ => rfl
  have D4 : Df K mg "_law_picked" s_lawpicked ["tape", "rows", "many"] := df_mk X G a4 l4 c4 k4 fun _ _ _ _ _ _ us hl => match us, hl with | [_, _, _], _ => rfl
  have D5 : Df K mg "_law_rising" s_lawrising ["tape", "signs", "many"] := df_mk X G a5 l5 c5 k5 fun _ _ _ _ _ _ us hl => match us, hl with | [_, _, _], _ => rfl
  have D6 : Df K mg "_law_letters" s_lawletters ["tape"] := df_mk X G a6 l6 c6 k6 fun _ _ _ _ _ _ us hl => match us, hl with | [_], _ => rfl
  have D7 : Df K mg "_law_owners" s_lawowners ["tape"] := df_mk X G a7 l7 c7 k7 fun _ _ _ _ _ _ us hl => match us, hl with | [_], _ => rfl
  have D8 : Df K mg "_law_signs" s_lawsigns ["tape"] := df_mk X G a8 l8 c8 k8 fun _ _ _ _ _ _ us hl => match us, hl with | [_], _ => rfl
  have D9 : Df K mg "_law_acceptor" s_lawacceptor ["tape", "signs", "many"] := df_mk X G a9 l9 c9 k9 fun _ _ _ _ _ _ us hl => match us, hl with | [_, _, _], _ => rfl
  have D10 : Df K mg "_law_menu" s_lawmenu ["tape", "symbols"] := df_mk X G a10 l10 c10 k10 fun _ _ _ _ _ _ us hl => match us, hl with | [_, _], _ => rfl
  have D11 : Df K mg "_law_twoway" s_lawtwoway ["tape", "signs", "lefts", "rights", "menu"] := df_mk X G a11 l11 c11 k11 fun _ _ _ _ _ _ us hl => match us, hl with | [_, _, _, _, _], _ => rfl
  have D12 : Df K mg "sources_of" s_sourcesof ["rows"] := df_mk X G a12 l12 c12 k12 fun _ _ _ _ _ _ us hl => match us, hl with | [_], _ => rfl
  have D13 : Df K mg "rights_behind" s_rightsbehind ["acceptor", "machine"] := df_mk X G a13 l13 c13 k13 fun _ _ _ _ _ _ us hl => match us, hl with | [_, _], _ => rfl
  have D14 : Df K mg "_edges" s_edges ["acceptor", "machine", "points"] := df_mk X G a14 l14 c14 k14 fun _ _ _ _ _ _ us hl => match us, hl with | [_, _, _], _ => rfl
  have D16 : DfM K mg "graph_of" s_graphof ["acceptor", "machine"] cc16 := dfM_mk X G a16 l16 hcd16 c16 k16 fun _ _ _ _ _ _ us hl => match us, hl with | [_, _], _ => rfl
  have D17 : Df K mg "_law_same" s_lawsame ["told", "due"] := df_mk X G a17 l17 c17 k17 fun _ _ _ _ _ _ us hl => match us, hl with | [_, _], _ => rfl
  have D18 : Df K mg "net_of" s_netof ["graph"] := df_mk X G a18 l18 c18 k18 fun _ _ _ _ _ _ us hl => match us, hl with | [_], _ => rfl
  refine ⟨PySem.W.fnOf "law" "law" (defArgs s_law) (defBody s_law) (defScope s_law) .none kV19 dc19 pm19 an19 cd19 ct19, [(cc16, PP16)], ⟨[(PP16, nm_graphof)], w⟩, rfl, ?_, ?_, ?_, fun s v => .of_eq rfl, fun base _ _ hTB => ?_⟩
  · intro p hp; simp only [List.mem_cons, List.not_mem_nil, or_false] at hp; rcases hp with rfl
    · exact pt16
  · intro p hp; simp only [List.mem_cons, List.not_mem_nil, or_false] at hp; rcases hp with rfl
    · exact codeHd_mk X q16 cw16
  · intro p hp; have hp : p ∈ ([(PP16, nm_graphof)] : List NdefX.NTab) := hp; simp only [List.mem_cons, List.not_mem_nil, or_false] at hp; rcases hp with rfl
    · exact ⟨cc16, (List.mem_cons_self ..)⟩
  letI : TB := ⟨[(PP16, nm_graphof)], w⟩
  have D15 : DfD K mg "explored" "most" s_explored ["start", "row_of", "most"] 2 (.none) := dfD_mk X G a15 l15 c15 k15 kd15 rfl rfl rfl (fun _ _ _ _ _ _ us ks h1 h2 => match us, ks, h1, h2 with | [_, _], [_], _, _ => ⟨_, _, _, _, _, _, rfl, rfl, rfl⟩) (fun _ _ _ _ _ _ us ws h1 h2 => match us, ws, h1, h2 with | [_, _], [_], _, _ => rfl)
  have uni16 : ∀ p ∈ TB.T, p.1 = PP16 → p.2 = nm_graphof := fun p hp e => congrArg Prod.snd (uniq_fst (T := [(PP16, nm_graphof)]) hnd p hp (PP16, nm_graphof) ((List.mem_cons_self ..)) e)
  have C_lawtape := ok0_lawtape (P := l.prog) (base := base) D1 B
  have C_lawsymbols := fun (b : Heap) (hs : Sub base b) => ok_lawsymbols (k := 0) (P := l.prog) (base := b) D2 B   pf_lawsymbols
  have C_lawdraw := fun (b : Heap) (hs : Sub base b) => draw_up (ok0_lawdraw (P := l.prog) (base := b) D3 B)
  have C_lawpicked := fun (b : Heap) (hs : Sub base b) => ok_lawpicked (k := 1) (P := l.prog) (base := b) D4 B (by decide) (C_lawdraw b hs)  pf_lawpicked
  have C_lawrising := fun (b : Heap) (hs : Sub base b) => ok_lawrising (k := 1) (P := l.prog) (base := b) D5 B (by decide) (C_lawdraw b hs)  pf_lawrising
  have C_lawletters := fun (b : Heap) (hs : Sub base b) => ok_lawletters (k := 2) (P := l.prog) (base := b) D6 B (by decide) (C_lawdraw b hs) (by decide) (C_lawrising b hs)  pf_lawletters
  have C_lawowners := fun (b : Heap) (hs : Sub base b) => ok_lawowners (k := 2) (P := l.prog) (base := b) D7 B (by decide) (C_lawdraw b hs) (by decide) (C_lawrising b hs)  pf_lawowners
  have C_lawsigns := fun (b : Heap) (hs : Sub base b) => ok_lawsigns (k := 3) (P := l.prog) (base := b) D8 B (by decide) (C_lawowners b hs) (by decide) (C_lawletters b hs) (by decide) (C_lawsymbols b hs) (by decide) (C_lawdraw b hs) (by decide) (C_lawpicked b hs)  pf_lawsigns
  have C_lawacceptor := fun (b : Heap) (hs : Sub base b) => ok_lawacceptor (k := 1) (P := l.prog) (base := b) D9 B (by decide) (C_lawdraw b hs)  pf_lawacceptor
  have C_lawmenu := fun (b : Heap) (hs : Sub base b) => ok_lawmenu (k := 1) (P := l.prog) (base := b) D10 B (by decide) (C_lawdraw b hs)  pf_lawmenu
  have C_lawtwoway := fun (b : Heap) (hs : Sub base b) => ok_lawtwoway (k := 1) (P := l.prog) (base := b) D11 B (by decide) (C_lawdraw b hs)  pf_lawtwoway
  have C_sourcesof := fun (b : Heap) (hs : Sub base b) => ok_sourcesof (k := 0) (P := l.prog) (base := b) D12 B   pf_sourcesof
  have C_rightsbehind := fun (b : Heap) (hs : Sub base b) => ok_rightsbehind (k := 1) (P := l.prog) (base := b) D13 B (by decide) (C_sourcesof b hs)  pf_rightsbehind
  have C_edges := fun (b : Heap) (hs : Sub base b) => ok_edges (k := 0) (P := l.prog) (base := b) D14 B   pf_edges
  have C_explored := fun (b : Heap) (c : CT) (hs : Sub base b) (hc : CtOk c l.prog w K mg b 1) => ok_explored (c := c) (SP_explored := s3 (S_explored c)) (k := 1) (kc := 1) (P := l.prog) (base := b) (by decide) hc D15 B   (pf_explored c)
  have C_graphof := fun (b : Heap) (hs : Sub base b) => ok_graphof (k := 2) (k0 := 0) (kc := 1) (P := l.prog) (base := b) (by decide) (hs.tabB (hTB (cc16, PP16) (List.mem_cons_self ..))) (List.mem_cons_self ..) (uni16) D16 B (by decide) (fun b1 c h => C_explored b1 c (hs.trans h)) (by decide) (fun b1 h => C_rightsbehind b1 (hs.trans h)) (by decide) (fun b1 h => C_edges b1 (hs.trans h)) ⟨_, mg_MOST_EDGES⟩ ⟨_, mg_MOST_POINTS⟩ (fun F => letI : FR := F; pf_graphof)
  have C_lawsame := fun (b : Heap) (hs : Sub base b) => ok_lawsame (k := 0) (SPm := fun m => s2 (S_lawsame m)) (P := l.prog) (base := b) D17 B   z_lawsame pf_lawsame 5
  have C_netof := fun (b : Heap) (hs : Sub base b) => ok_netof (k := 0) (P := l.prog) (base := b) D18 B   pf_netof
  exact ok_law (k := 6) (P := l.prog) (base := base) (fun_mk l19 c19 k19) B (by decide) (C_lawsigns base (Sub.refl _)) (by decide) (C_lawdraw base (Sub.refl _)) (by decide) (C_lawacceptor base (Sub.refl _)) (by decide) (C_lawsymbols base (Sub.refl _)) (by decide) (C_lawmenu base (Sub.refl _)) (by decide) (C_lawtwoway base (Sub.refl _)) (by decide) (C_graphof base (Sub.refl _)) (by decide) (C_netof base (Sub.refl _)) (by decide) (C_lawsame base (Sub.refl _)) (by decide) C_lawtape  pf_law
end My
open PySem PySem.W PyProof.Rows
set_option maxRecDepth 100000 in
set_option maxHeartbeats 0 in
theorem PySem.Challenge.cw_excerptcheck_k50_net_of_a_graph_holds : PySem.Challenge.rw_excerptcheck_k50_net_of_a_graph.Holds := by
  w_on; o_law; k_head; (case hw => w_witness2)
  k_fill
  refine My.walkGT (l := PySem.Challenge.rw_excerptcheck_k50_net_of_a_graph) (n := 63) (k := 7) (x := "script") rfl (by decide) (by decide) rfl ⟨rfl, by decide, by decide⟩ (fun w h Y => ⟨PySem.W.km_in_of Y, PySem.W.km_tabs_of Y⟩) (fun w => by kernel_rfl) ?F
  case F =>
    intro w mg fa h KX G hmg
    refine' My.all_mk KX G hmg ?a1 ?l1 ?c1 ?k1 ?a2 ?l2 ?c2 ?k2 ?a3 ?l3 ?c3 ?k3 ?a4 ?l4 ?c4 ?k4 ?a5 ?l5 ?c5 ?k5 ?a6 ?l6 ?c6 ?k6 ?a7 ?l7 ?c7 ?k7 ?a8 ?l8 ?c8 ?k8 ?a9 ?l9 ?c9 ?k9 ?a10 ?l10 ?c10 ?k10 ?a11 ?l11 ?c11 ?k11 ?a12 ?l12 ?c12 ?k12 ?a13 ?l13 ?c13 ?k13 ?a14 ?l14 ?c14 ?k14 ?a15 ?l15 ?c15 ?k15 ?kd15 ?a16 ?l16 ?c16 ?k16 ?hcd16 ?q16 ?cw16 ?pt16 ?a17 ?l17 ?c17 ?k17 ?a18 ?l18 ?c18 ?k18 ?a19 ?l19 ?c19 ?k19 ?hnd ?z_len ?z_max ?z_min ?z_abs ?z_int ?z_list ?z_tuple ?z_range ?z_isinstance ?z_sum ?z_zip ?z_enumerate ?z_sorted ?z_bool ?z_str ?z_set ?g_MOST_EDGES ?g_MOST_POINTS
    (case a1 => k_is); (case l1 => k_is); (case c1 => k_is); (case k1 => k_is); (case a2 => k_is); (case l2 => k_is); (case c2 => k_is); (case k2 => k_is); (case a3 => k_is); (case l3 => k_is); (case c3 => k_is); (case k3 => k_is); (case a4 => k_is); (case l4 => k_is); (case c4 => k_is); (case k4 => k_is); (case a5 => k_is); (case l5 => k_is); (case c5 => k_is); (case k5 => k_is); (case a6 => k_is); (case l6 => k_is); (case c6 => k_is); (case k6 => k_is); (case a7 => k_is); (case l7 => k_is); (case c7 => k_is); (case k7 => k_is); (case a8 => k_is); (case l8 => k_is); (case c8 => k_is); (case k8 => k_is); (case a9 => k_is); (case l9 => k_is); (case c9 => k_is); (case k9 => k_is); (case a10 => k_is); (case l10 => k_is); (case c10 => k_is); (case k10 => k_is); (case a11 => k_is); (case l11 => k_is); (case c11 => k_is); (case k11 => k_is); (case a12 => k_is); (case l12 => k_is); (case c12 => k_is); (case k12 => k_is); (case a13 => k_is); (case l13 => k_is); (case c13 => k_is); (case k13 => k_is); (case a14 => k_is); (case l14 => k_is); (case c14 => k_is); (case k14 => k_is); (case a15 => k_is); (case l15 => k_is); (case c15 => k_is); (case k15 => k_is); (case kd15 => k_is); (case a16 => k_is); (case l16 => k_is); (case c16 => k_is); (case k16 => k_is); (case hcd16 => rfl); (case q16 => k_is); (case cw16 => exact ⟨rfl, rfl, ⟨_, _, rfl⟩, ⟨_, _, rfl⟩, ⟨_, rfl⟩, ⟨_, _, rfl⟩, by decide⟩); (case pt16 => decide); (case a17 => k_is); (case l17 => k_is); (case c17 => k_is); (case k17 => k_is); (case a18 => k_is); (case l18 => k_is); (case c18 => k_is); (case k18 => k_is); (case a19 => k_is); (case l19 => k_is); (case c19 => k_is); (case k19 => k_is); (case hnd => decide); (case z_len => k_is); (case z_max => k_is); (case z_min => k_is); (case z_abs => k_is); (case z_int => k_is); (case z_list => k_is); (case z_tuple => k_is); (case z_range => k_is); (case z_isinstance => k_is); (case z_sum => k_is); (case z_zip => k_is); (case z_enumerate => k_is); (case z_sorted => k_is); (case z_bool => k_is); (case z_str => k_is); (case z_set => k_is); (case g_MOST_EDGES => k_is); (case g_MOST_POINTS => k_is)
