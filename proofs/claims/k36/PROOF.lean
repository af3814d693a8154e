import PyProof.Rows.All
import Wide.All
import OpenK.AllK
import Wide.FinOn
import HandS.ForMost
import HandS.ForExc
import HandS.IsInst
import HandS.TupMul
import HandS.TupAny
import HandS.Zip
import HandS.Rev
import HandS.RevRange
import HandS.Wide
import HandS.Style
import HandS.RaiseMore
import PyProof.ReprRoads
import HandS.Walk
import PyProof.StrLawsRepr
import PyProof.Rows.RegStrFacts
import KE.GoesMore
import PyProof.StrOps2
import HandS.Text
import HandS.Iter
import HandS.Gcd
import HandS.DictSub
import KE.KMathGC
import KE.SortData
import HandS.SortRule
import HandS.DictComp
import HandS.TupSets
import HandS.SetFor
import HandS.Strs
import HandS.SortKw
import KE.SortKeyHeap
import KE.KRevSl
import HandS.Dict
import HandS.More
import HandS.Conv
import HandS.TryMany
import HandS.ExcInit
import HandS.ExcField
import HandS.ExcIs
import HandS.Lambda
import KE.KExcIs
import HandS.EndTab
import HandS.Codes
import HandS.Flow
import HandS.Deep
import PyProof.SeqIndex
import PySem.Challenge.RW_allworlds_k36_whole_steps_of_trees
set_option Elab.async false
set_option linter.all false
set_option maxRecDepth 100000
/-! Promises that are kept where no display of a container is under way (needed for repr of lists and tuples). -/
namespace Gd
open PySem PySem.Spec PyProof.Rows L2

structure FnG (P : Program) (w : World) (K : PySem.W.Frag) (mg : Str → Option Value) (base : Heap)
    (CX : CXT) (k : Nat) (f : Addr) (fd : FuncData) (ps : List Str) (sp : Sp) : Prop where
  many : ∀ vs H Q E, sp vs H Q E → vs.length = ps.length
  goes : ∀ (A : Around) (fr : List Env) (s : Shared) (H : Hp) (args : Args) (us : List Value) (vs : List V)
      (Q : VK) (E : XK), Room k A → A.guards = some [] → Env0 P w K mg base A fr s H →
      BindsTo s fd args (ps.zip us) → Vals vs us → sp vs H Q E →
      codeAny (model P w) A (.call (.ref f) args) (CR CX fr P w H s Q E) s

section
variable {P : Program} {w : World} {K : PySem.W.Frag} {mg : Str → Option Value} {base : Heap} {CX : CXT}

theorem FnG.up {j k : Nat} {f : Addr} {fd : FuncData} {ps : List Str} {sp : Sp}
    (F : FnG P w K mg base CX j f fd ps sp) (le : j ≤ k) : FnG P w K mg base CX k f fd ps sp where
  many := F.many
  goes := fun A fr s H args us vs Q E r => F.goes A fr s H args us vs Q E (r.mono le)

theorem FnG.weaker {k : Nat} {f : Addr} {fd : FuncData} {ps : List Str} {sp sq : Sp}
    (F : FnG P w K mg base CX k f fd ps sp) (le : ∀ vs H Q E, sq vs H Q E → sp vs H Q E) :
    FnG P w K mg base CX k f fd ps sq where
  many := fun vs H Q E q => F.many vs H Q E (le _ _ _ _ q)
  goes := fun A fr s H args us vs Q E r g e b v q => F.goes A fr s H args us vs Q E r g e b v (le _ _ _ _ q)

/-- a def by its body -/
theorem fnG_body {k : Nat} {x qual : Str} {st : Stmt} {f : Addr} {fd : FuncData} {N ps : List Str} {sp : Sp}
    (F : Fun K x qual st f fd) (S : FnScope N ps (defScope st))
    (many : ∀ vs H Q E, sp vs H Q E → vs.length = ps.length)
    (body : ∀ (cdv : Value) (A : Around) (fr : List Env) (s : Shared) (H : Hp) (vs : List V) (Q : VK) (E : XK),
      Room k (A.deeper (envOfC qual (defScope st) s.heap.objs.size f cdv)) → A.guards = some [] → sp vs H Q E →
      ∃ t, PSs (cxOf CX P w K mg base N qual (defScope st) f cdv A fr s H E) (defBody st) t ∧
        t { nx := fun _ H' => Q .non H', rt := Q } (start N vs) H) :
    FnG P w K mg base CX (k + 1) f fd ps sp := by
  obtain ⟨oc, od, kV, doc, pm, an, cdv, ct, osl, rfl, found, code⟩ := F.ex
  constructor
  · exact many
  intro A fr s H args us vs Q E room guard env bind rel want
  have n1 : vs.length = ps.length := many vs H Q E want
  have kin : K.In s.heap := env.mod.kin.keeps (fun b o h => (env.bs b o h).1)
  have calm : s.heap.NoLimit := env.mod.nolimit.keeps (fun b o h => (env.bs b o h).1)
  apply codeAny_call_function room.depth (kin f _ found) rfl S.co S.gen rfl (PySem.W.codeRec_of kin code)
  apply bind
  apply wpAny_newFunctionEnv_cells S.kind
  · rintro ⟨n, v⟩ hm
    cases S.par n (List.of_mem_zip hm).1 with
    | inl q => exact Or.inl q
    | inr q => exact Or.inr ⟨q, PySem.W.cellsFrom_some _ _ _ (Or.inl q)⟩
  intro e1 he s1 into
  subst he
  constructor
  · exact calm.keeps into.toInCall.keep
  apply codeAny_func
  obtain ⟨t, ht, go⟩ := body cdv A fr s H vs Q E (room.deeper _) guard want
  have I0 := inv_start (CX := CX) (P := P) (mg := mg) (E := E) S room.hd env n1 rel into
  apply wpAny_mono (ht.run [] s1 (start N vs) H _ I0 go)
  · intro fl s2 h2
    cases fl with
    | next =>
      obtain ⟨σ2, H2, J, q⟩ := h2
      exact ⟨.non, H2, J.os, J.bare, J.base, J.hok, rfl, q⟩
    | ret u =>
      obtain ⟨v, σ2, H2, J, r2, q⟩ := h2
      exact ⟨v, H2, J.os, J.bare, J.base, J.hok, r2, q⟩
    | brk =>
      obtain ⟨_, _, _, no⟩ := h2
      exact no.elim
    | cont =>
      obtain ⟨_, _, _, no⟩ := h2
      exact no.elim
  · intro e2 s2 h2
    exact h2
end

section
variable {X : Cx} {CX : CXT} {k : Nat} {f : Addr} {fd : FuncData} {ps ks : List Str} {sp : Sp} {E : XK} {x : Str}
  {p pos : Pos} {e : Expr} {es : List Expr} {kws : List Keyword} {ta tk : TA} {dvs : List V} {ds : List Value}

def Fin (X : Cx) (pins : List (Addr × Obj)) (σ : L2.St) (Q : VK) (r : Result) (s' : Shared) : Prop :=
  match r with
  | .ok (.ret u) => EP X pins σ Q u s'
  | .ok _ => False
  | .error err => X.xe err s'
theorem back {pins : List (Addr × Obj)} {σ : L2.St} {H : Hp} {s : Shared} {Q : VK} {r : Result} {s' : Shared}
    (I : Inv X pins σ H s) (out : Passes CX X E) (h : CR CX X.stack X.prog X.w H s Q E r s') :
    Fin X pins σ Q r s' := by
  cases r with
  | error err => exact out pins σ H s err s' I h
  | ok fl =>
    cases fl with
    | ret u => exact I.after h
    | next => exact h
    | brk => exact h
    | cont => exact h

theorem runG {pins : List (Addr × Obj)} {σ : L2.St} {H : Hp} {s : Shared} {Q : VK} {args : Args} {us : List Value} {vs : List V}
    (F : FnG X.prog X.w X.K X.mg X.base CX k f fd ps sp) (room : Room k X.A) (guard : X.A.guards = some [])
    (out : Passes CX X E) (I : Inv X pins σ H s) (bind : BindsTo s fd args (ps.zip us)) (rel : Vals vs us)
    (want : sp vs H Q E) :
    codeAny (model X.prog X.w) X.A (.call (.ref f) args) (Fin X pins σ Q) s :=
  codeAny_mono (F.goes X.A X.stack s H args us vs Q E room guard I.env0 bind rel want)
    fun r s' h => back I out h

/-- f(a, ..) -/
theorem pe_callG (F : FnG X.prog X.w X.K X.mg X.base CX k f fd ps sp) (room : Room k X.A) (guard : X.A.guards = some [])
    (hg : Gl X x) (hm : X.mg x = some (.ref f)) (kp : PySem.W.keepIn X.K (.ref f) = true) (hb : Binds X.K fd ps ds)
    (hd : Vals dvs ds) (out : Passes CX X E) (ha : PA X (e :: es) ta)
    (hdb : (x == ("__debug__" : Str)) = false := by decide)
    (he : starEach (e :: es) X.env = (false, eval e X.env) :: starEach es X.env := by rfl)
    (hpl : (backTo pos (starEach es X.env)).any (·.1) = false := by rfl) :
    PE X (.Call (.Name x p) (e :: es) [] pos) (tCall sp dvs E ta) := by
  constructor
  intro pins s σ H Q I want
  apply wpAny_Call_Name_kw
  apply ld_glob I hg hm _ hdb
  apply PySem.W.callWith_K (h₀ := X.base) I.ok.mod.kin kp _ he hpl
  apply thn (ha.run pos pins s σ H _ I want)
  rintro us s1 ⟨vs, H1, I1, r1, q1⟩
  refine ⟨I1.kIn, ?_⟩
  have r2 : Vals (vs ++ dvs) (us ++ ds) := r1.append hd
  have n2 : (us ++ ds).length = ps.length := r2.length.symm.trans (F.many _ _ _ _ q1)
  apply wpAny_call
  exact codeAny_mono (runG F room guard out I1 (hb s1 us I1.kIn n2) r2 q1)
    (fun r s' h => by cases r with | error _ => exact h | ok fl => cases fl <;> exact h)

/-- f() -/
theorem pe_callG0 (F : FnG X.prog X.w X.K X.mg X.base CX k f fd ps sp) (room : Room k X.A) (guard : X.A.guards = some [])
    (hg : Gl X x) (hm : X.mg x = some (.ref f)) (kp : PySem.W.keepIn X.K (.ref f) = true) (hb : Binds X.K fd ps ds)
    (hd : Vals dvs ds) (out : Passes CX X E) (hdb : (x == ("__debug__" : Str)) = false := by decide) :
    PE X (.Call (.Name x p) [] [] pos) (tCall sp dvs E tNil) := by
  constructor
  intro pins s σ H Q I want
  apply wpAny_Call_Name_kw
  apply ld_glob I hg hm _ hdb
  apply PySem.W.callWith_K0 I.kIn kp
  have r2 : Vals ([] ++ dvs) ([] ++ ds) := Vals.append .nil hd
  have n2 : (([] : List Value) ++ ds).length = ps.length := r2.length.symm.trans (F.many _ _ _ _ want)
  apply wpAny_call
  exact codeAny_mono (runG F room guard out I (hb s [] I.kIn n2) r2 want)
    (fun r s' h => by cases r with | error _ => exact h | ok fl => cases fl <;> exact h)

variable {g : List Value → List Value → List Value} {gV : List V → List V → List V}
/-- f(a, .., n = b, ..) -/
theorem pe_callGK (F : FnG X.prog X.w X.K X.mg X.base CX k f fd ps sp) (room : Room k X.A) (guard : X.A.guards = some [])
    (hg : Gl X x) (hm : X.mg x = some (.ref f)) (kp : PySem.W.keepIn X.K (.ref f) = true) (hb : KBinds X.K fd ps ks g gV)
    (out : Passes CX X E) (ha : PA X (e :: es) ta) (hk : PK X kws tk)
    (hall : (backToKw pos (keywordEach kws X.env)).all (·.1.isSome) = true := by rfl)
    (hks : (backToKw pos (keywordEach kws X.env)).filterMap (·.1) = ks := by rfl)
    (hdb : (x == ("__debug__" : Str)) = false := by decide)
    (he : starEach (e :: es) X.env = (false, eval e X.env) :: starEach es X.env := by rfl)
    (hpl : ((backTo pos (starEach (e :: es) X.env)).any (·.1) || (backToKw pos (keywordEach kws X.env)).any (·.1.isNone)) = false := by rfl) :
    PE X (.Call (.Name x p) (e :: es) kws pos) (tCallK sp gV E ta tk) := by
  constructor
  intro pins s σ H Q I want
  apply wpAny_Call_Name_kw
  apply ld_glob I hg hm _ hdb
  apply PySem.W.callWith_KW (h₀ := X.base) I.ok.mod.kin kp hall _ hpl he
  apply thn (ha.run pos pins s σ H _ I want)
  rintro us s1 ⟨vs, H1, I1, r1, q1⟩
  apply thn (hk.run pos pins s1 σ H1 _ I1 q1)
  rintro ws s2 ⟨zs, H2, I2, r2, q2⟩
  refine ⟨I2.kIn, ?_⟩
  rw [hks]
  have r3 := hb.rel r1 r2
  have n3 : (g us ws).length = ps.length := r3.length.symm.trans (F.many _ _ _ _ q2)
  apply wpAny_call
  exact codeAny_mono (runG F room guard out I2 (hb.to s2 us ws I2.kIn n3) r3 q2)
    (fun r s' h => by cases r with | error _ => exact h | ok fl => cases fl <;> exact h)

/-- f(n = b, ..) -/
theorem pe_callGK0 (F : FnG X.prog X.w X.K X.mg X.base CX k f fd ps sp) (room : Room k X.A) (guard : X.A.guards = some [])
    (hg : Gl X x) (hm : X.mg x = some (.ref f)) (kp : PySem.W.keepIn X.K (.ref f) = true) (hb : KBinds X.K fd ps ks g gV)
    (out : Passes CX X E) (hk : PK X kws tk)
    (hall : (backToKw pos (keywordEach kws X.env)).all (·.1.isSome) = true := by rfl)
    (hks : (backToKw pos (keywordEach kws X.env)).filterMap (·.1) = ks := by rfl)
    (hdb : (x == ("__debug__" : Str)) = false := by decide)
    (hpl : ((backTo pos (starEach [] X.env)).any (·.1) || (backToKw pos (keywordEach kws X.env)).any (·.1.isNone)) = false := by rfl) :
    PE X (.Call (.Name x p) [] kws pos) (tCallK sp gV E tNil tk) := by
  constructor
  intro pins s σ H Q I want
  apply wpAny_Call_Name_kw
  apply ld_glob I hg hm _ hdb
  apply PySem.W.callWith_KW0 (h₀ := X.base) I.ok.mod.kin kp hall _ hpl
  apply thn (hk.run pos pins s σ H _ I want)
  rintro ws s2 ⟨zs, H2, I2, r2, q2⟩
  refine ⟨I2.kIn, ?_⟩
  rw [hks]
  have r3 := hb.rel (vs := []) (us := []) .nil r2
  have n3 : (g [] ws).length = ps.length := r3.length.symm.trans (F.many _ _ _ _ q2)
  apply wpAny_call
  exact codeAny_mono (runG F room guard out I2 (hb.to s2 [] ws I2.kIn n3) r3 q2)
    (fun r s' h => by cases r with | error _ => exact h | ok fl => cases fl <;> exact h)
end

/-! ### repr -/
section
variable {X : Cx}
theorem kept_toks {pins : List (Addr × Obj)} {σ : L2.St} {H : Hp} {s : Shared} (I : Inv X pins σ H s) {h' : Heap} {t : Nat}
    (k : ∀ b o, s.heap.get? b = some o → h'.get? b = some o) : Inv X pins σ H { s with heap := h', toks := t } :=
  I.kept k

/-- repr of a list or a tuple of data -/
theorem repr_box (guard : X.A.guards = some []) (hu : X.A.units + 64 < cLine) :
    CallR X (.builtin "repr") (fun xs H Q => ∃ a d, xs = [.ref a] ∧ Dp X.K H (.ref a) d ∧ d.showable = true ∧ d.hasDict = false ∧ d.depth ≤ 60 ∧ d.shown.length ≤ sizeLine ∧ Q (.str d.shown) H) := by
  intro pins s σ H xs us Q I r h
  obtain ⟨a, d, rfl, dp, sh, nd, dd, sz, q⟩ := h
  obtain ⟨u, rfl, ru⟩ := vals1 r
  obtain rfl : u = .ref a := ru
  obtain ⟨as, rd⟩ := Dp.reads I d _ _ dp rfl
  refine repr_of_reads' rd sh (fun z => by rw [nd] at z; cases z) guard (by omega) (fun _ _ e => e) (fun h' u tk kp => ?_) sz
  exact ⟨.str d.shown, H, kept_toks I kp, ⟨_, rfl⟩, q⟩
end
end Gd
/-! Data: what a value stands for, whatever the heap holds besides. -/
namespace DL
open PySem PySem.Spec L2 Gd

inductive D where
  | non | bl (b : Bool) | int (i : Int) | str (x : Str) | tup (xs : List D) | lst (xs : List D)
  | fls (ns : List Int) | adr (a : Addr) | dic (ks : List Key) (vs : List D) | dlt (ks : List Key) (vs : List D) | obj (c : Str) (ns : List Str) (vs : List D)

/-- the class c of the text stands at C -/
def KCls (K : PySem.W.Frag) (c : Str) (C : Addr) : Prop := PySem.W.nsIn K mainGlobals c = some (some (.ref C))

def KTup (K : PySem.W.Frag) (a : Addr) (xs : List V) : Prop :=
  ∃ (o : Obj) (its : Array Value) (n : Nat), K.lookup a = some o ∧ o.cls = .type "tuple" ∧ o.data = .seq its n ∧ its.size ≤ sizeLine ∧ Vals xs its.toList
def KLst (K : PySem.W.Frag) (a : Addr) (xs : List V) : Prop :=
  ∃ (o : Obj) (its : Array Value) (n : Nat), K.lookup a = some o ∧ o.cls = .type "list" ∧ o.dict = none ∧ o.data = .seq its n ∧ its.size ≤ sizeLine ∧ Vals xs its.toList

/-- what may change: elsewhere, and here -/
structure Mm where
  fo : Addr → Prop
  ch : Addr → Prop
def Mm.mu (M : Mm) (b : Addr) : Prop := M.fo b ∨ M.ch b
def Fo (m : Addr → Prop) : Mm := ⟨m, fun _ => False⟩
/-- a tuple that has no dict -/
def ZT (H : Hp) (a : Addr) (xs : List V) : Prop := ∃ o, H a = some (.frz o (.tup xs)) ∧ o.dict = none
theorem ZT.rd {H : Hp} {a : Addr} {xs : List V} (h : ZT H a xs) : Rd H a (.tup xs) := let ⟨o, e, _⟩ := h; .inr ⟨o, e⟩
/-- a tuple of which this is known -/
abbrev zD (ds : List D) : D := .obj "" [] (.non :: ds)
mutual
/-- the value stands for the data; M: what may change -/
inductive Dt (K : PySem.W.Frag) (M : Mm) (H : Hp) : V → D → Prop
  | non : Dt K M H .non .non
  | bl (b : Bool) : Dt K M H (.bl b) (.bl b)
  | int (i : Int) : Dt K M H (.int i) (.int i)
  | str (x : Str) : Dt K M H (.str x) (.str x)
  | tup {a : Addr} {xs : List V} {ds : List D} : ¬ M.mu a → Rd H a (.tup xs) → DtAll K M H xs ds → Dt K M H (.ref a) (.tup ds)
  | ktup {a : Addr} {xs : List V} {ds : List D} : KTup K a xs → DtAll K M H xs ds → Dt K M H (.ref a) (.tup ds)
  | lst {a : Addr} {xs : List V} {ds : List D} : ¬ M.mu a → H a = some (.lst xs) → DtAll K M H xs ds → Dt K M H (.ref a) (.lst ds)
  | fls {a : Addr} {ns : List Int} : ¬ M.mu a → Rd H a (.lst (ns.map V.int)) → Dt K M H (.ref a) (.fls ns)
  | kfls {a : Addr} {ns : List Int} : KLst K a (ns.map V.int) → Dt K M H (.ref a) (.fls ns)
  | adr (a : Addr) : Dt K M H (.ref a) (.adr a)
  | dic {a : Addr} {o : Obj} {ws : List (Key × V)} {ks : List Key} {ds : List D} : ¬ M.mu a → H a = some (.frz o (.dK ws)) → ws.map (·.1) = ks → DtAll K M H (ws.map (·.2)) ds → Dt K M H (.ref a) (.dic ks ds)
  | dlt {a : Addr} {ws : List (Key × V)} {ks : List Key} {ds : List D} : ¬ M.mu a → H a = some (.dK ws) → ws.map (·.1) = ks → DtAll K M H (ws.map (·.2)) ds → Dt K M H (.ref a) (.dlt ks ds)
  | obj {a C x : Addr} {fs : List (Str × V)} {c : Str} {ns : List Str} {ds : List D} : ¬ M.mu a → H a = some (.ins C x fs) → KCls K c C → fs.map (·.1) = ns → DtAll K M H (fs.map (·.2)) ds → Dt K M H (.ref a) (.obj c ns ds)
  | ztup {a : Addr} {xs : List V} {ds : List D} : ¬ M.mu a → ZT H a xs → DtAll K M H xs ds → Dt K M H (.ref a) (.obj "" [] (.non :: ds))
inductive DtAll (K : PySem.W.Frag) (M : Mm) (H : Hp) : List V → List D → Prop
  | nil : DtAll K M H [] []
  | cons {v : V} {vs : List V} {d : D} {ds : List D} : Dt K M H v d → DtAll K M H vs ds → DtAll K M H (v :: vs) (d :: ds)
end

/-- as far as data see it: all but what may change is kept, what may change anew is new -/
structure ExtD (M : Mm) (H : Hp) (M' : Mm) (H' : Hp) : Prop where
  keep : ∀ b o, ¬ M.mu b → H b = some o → H' b = some o
  fresh : ∀ b, M'.mu b → ¬ M.mu b → H b = none
/-- what happened to the heap: all is kept but what may change here -/
structure Ext (M : Mm) (H : Hp) (M' : Mm) (H' : Hp) : Prop where
  keep : ∀ b o, ¬ M.ch b → H b = some o → H' b = some o
  fresh : ∀ b, M'.mu b → ¬ M.mu b → H b = none
  freshC : ∀ b, M'.ch b → ¬ M.ch b → H b = none
theorem Ext.d {M M' : Mm} {H H' : Hp} (x : Ext M H M' H') : ExtD M H M' H' := ⟨fun b o n e => x.keep b o (fun z => n (.inr z)) e, x.fresh⟩

theorem Ext.refl {M : Mm} {H : Hp} : Ext M H M H := ⟨fun _ _ _ e => e, fun _ a b => absurd a b, fun _ a b => absurd a b⟩
theorem Ext.trans {M M1 M2 : Mm} {H H1 H2 : Hp} (a : Ext M H M1 H1) (b : Ext M1 H1 M2 H2) : Ext M H M2 H2 := by
  have keep : ∀ c o, ¬ M.ch c → H c = some o → H2 c = some o := by
    intro c o n e
    have e1 := a.keep c o n e
    by_cases m : M1.ch c
    · have := a.freshC c m n
      rw [this] at e
      cases e
    · exact b.keep c o m e1
  refine ⟨keep, ?_, ?_⟩
  · intro c m n
    by_cases m1 : M1.mu c
    · exact a.fresh c m1 n
    · have z := b.fresh c m m1
      cases e : H c with
      | none => rfl
      | some o =>
        have e1 := a.keep c o (fun z => n (.inr z)) e
        rw [z] at e1
        cases e1
  · intro c m n
    by_cases m1 : M1.ch c
    · exact a.freshC c m1 n
    · have z := b.freshC c m m1
      cases e : H c with
      | none => rfl
      | some o =>
        have e1 := a.keep c o n e
        rw [z] at e1
        cases e1
theorem ExtD.refl {M : Mm} {H : Hp} : ExtD M H M H := ⟨fun _ _ _ e => e, fun _ a b => absurd a b⟩
theorem ExtD.trans {M M1 M2 : Mm} {H H1 H2 : Hp} (a : ExtD M H M1 H1) (b : ExtD M1 H1 M2 H2) : ExtD M H M2 H2 := by
  constructor
  · intro c o n e
    have e1 := a.keep c o n e
    by_cases m : M1.mu c
    · have := a.fresh c m n
      rw [this] at e
      cases e
    · exact b.keep c o m e1
  · intro c m n
    by_cases m1 : M1.mu c
    · exact a.fresh c m1 n
    · have z := b.fresh c m m1
      cases e : H c with
      | none => rfl
      | some o =>
        have e1 := a.keep c o n e
        rw [z] at e1
        cases e1
theorem Ext.less {M M' : Mm} {H : Hp} (h : ∀ b, M'.mu b → M.mu b) (hc : ∀ b, M'.ch b → M.ch b) : Ext M H M' H :=
  ⟨fun _ _ _ e => e, fun b a n => absurd (h b a) n, fun b a n => absurd (hc b a) n⟩

section
variable {K : PySem.W.Frag} {M M' : Mm} {H H' : Hp}
theorem Rd.some {a : Addr} {u : HO} (h : Rd H a u) : ∃ o, H a = .some o := by
  rcases h with h | ⟨o, h⟩
  · exact ⟨_, h⟩
  · exact ⟨_, h⟩
theorem ExtD.rd (x : ExtD M H M' H') {a : Addr} {u : HO} (n : ¬ M.mu a) (h : Rd H a u) : Rd H' a u := by
  rcases h with h | ⟨o, h⟩
  · exact .inl (x.keep _ _ n h)
  · exact .inr ⟨o, x.keep _ _ n h⟩
theorem ExtD.out (x : ExtD M H M' H') {a : Addr} {o : HO} (n : ¬ M.mu a) (h : H a = some o) : ¬ M'.mu a := fun m => by
  have z := x.fresh a m n
  rw [z] at h
  cases h
theorem ExtD.outR (x : ExtD M H M' H') {a : Addr} {u : HO} (n : ¬ M.mu a) (h : Rd H a u) : ¬ M'.mu a := by
  obtain ⟨o, e⟩ := Rd.some h
  exact x.out n e
mutual
theorem Dt.extD (x : ExtD M H M' H') : ∀ {v : V} {d : D}, Dt K M H v d → Dt K M' H' v d
  | _, _, .non => .non
  | _, _, .bl b => .bl b
  | _, _, .int i => .int i
  | _, _, .str s => .str s
  | _, _, .tup n h a => .tup (x.outR n h) (x.rd n h) (DtAll.extD x a)
  | _, _, .ktup h a => .ktup h (DtAll.extD x a)
  | _, _, .lst n h a => .lst (x.out n h) (x.keep _ _ n h) (DtAll.extD x a)
  | _, _, .fls n h => .fls (x.outR n h) (x.rd n h)
  | _, _, .kfls h => .kfls h
  | _, _, .adr a => .adr a
  | _, _, .dic n h k a => .dic (x.out n h) (x.keep _ _ n h) k (DtAll.extD x a)
  | _, _, .dlt n h k a => .dlt (x.out n h) (x.keep _ _ n h) k (DtAll.extD x a)
  | _, _, .obj n h c k a => .obj (x.out n h) (x.keep _ _ n h) c k (DtAll.extD x a)
  | _, _, .ztup n ⟨o, h, z⟩ a => .ztup (x.out n h) ⟨o, x.keep _ _ n h, z⟩ (DtAll.extD x a)
theorem DtAll.extD (x : ExtD M H M' H') : ∀ {vs : List V} {ds : List D}, DtAll K M H vs ds → DtAll K M' H' vs ds
  | _, _, .nil => .nil
  | _, _, .cons h t => .cons (Dt.extD x h) (DtAll.extD x t)
end
theorem Dt.ext (x : Ext M H M' H') {v : V} {d : D} (h : Dt K M H v d) : Dt K M' H' v d := h.extD x.d
theorem DtAll.ext (x : Ext M H M' H') {vs : List V} {ds : List D} (h : DtAll K M H vs ds) : DtAll K M' H' vs ds := h.extD x.d
theorem Ext.rd (x : Ext M H M' H') {a : Addr} {u : HO} (n : ¬ M.mu a) (h : Rd H a u) : Rd H' a u := x.d.rd n h
theorem DtAll.length : ∀ {vs : List V} {ds : List D}, DtAll K M H vs ds → vs.length = ds.length
  | _, _, .nil => rfl
  | _, _, .cons _ t => by
    rw [List.length_cons, List.length_cons, DtAll.length t]
theorem DtAll.append : ∀ {vs ws : List V} {ds es : List D}, DtAll K M H vs ds → DtAll K M H ws es → DtAll K M H (vs ++ ws) (ds ++ es)
  | _, _, _, _, .nil, b => b
  | _, _, _, _, .cons h t, b => .cons h (DtAll.append t b)
theorem DtAll.get : ∀ {vs : List V} {ds : List D} {i : Nat} {d : D}, DtAll K M H vs ds → ds[i]? = some d → ∃ v, vs[i]? = some v ∧ Dt K M H v d
  | _, _, _, _, .nil, e => by simp at e
  | _, _, 0, _, .cons h _, e => by
    simp at e
    subst e
    exact ⟨_, rfl, h⟩
  | _, _, i + 1, _, .cons _ t, e => by
    obtain ⟨v, e1, e2⟩ := DtAll.get (i := i) t (by simpa using e)
    exact ⟨v, by simpa using e1, e2⟩
theorem DtAll.getV : ∀ {vs : List V} {ds : List D} {i : Nat} {v : V}, DtAll K M H vs ds → vs[i]? = some v → ∃ d, ds[i]? = some d ∧ Dt K M H v d
  | _, _, _, _, .nil, e => by simp at e
  | _, _, 0, _, .cons h _, e => by
    simp at e
    subst e
    exact ⟨_, rfl, h⟩
  | _, _, i + 1, _, .cons _ t, e => by
    obtain ⟨d, e1, e2⟩ := DtAll.getV (i := i) t (by simpa using e)
    exact ⟨d, by simpa using e1, e2⟩
theorem DtAll.take : ∀ {vs : List V} {ds : List D} (n : Nat), DtAll K M H vs ds → DtAll K M H (vs.take n) (ds.take n)
  | _, _, 0, _ => by simpa using DtAll.nil
  | _, _, _ + 1, .nil => .nil
  | _, _, n + 1, .cons h t => .cons h (DtAll.take n t)
theorem DtAll.drop : ∀ {vs : List V} {ds : List D} (n : Nat), DtAll K M H vs ds → DtAll K M H (vs.drop n) (ds.drop n)
  | _, _, 0, h => h
  | _, _, _ + 1, .nil => .nil
  | _, _, n + 1, .cons _ t => DtAll.drop n t
theorem DtAll.set {v : V} {d : D} (h : Dt K M H v d) : ∀ {vs : List V} {ds : List D} (n : Nat), DtAll K M H vs ds → DtAll K M H (vs.set n v) (ds.set n d)
  | _, _, _, .nil => .nil
  | _, _, 0, .cons _ t => .cons h t
  | _, _, n + 1, .cons a t => .cons a (DtAll.set h n t)
theorem DtAll.reverse {vs : List V} {ds : List D} (h : DtAll K M H vs ds) : DtAll K M H vs.reverse ds.reverse := by
  induction vs generalizing ds with
  | nil => cases h; exact .nil
  | cons v vs ih =>
    cases h with
    | cons h t =>
      rw [List.reverse_cons, List.reverse_cons]
      exact (ih t).append (.cons h .nil)
theorem DtAll.dropLast {vs : List V} {ds : List D} (h : DtAll K M H vs ds) : DtAll K M H vs.dropLast ds.dropLast := by
  rw [List.dropLast_eq_take, List.dropLast_eq_take, h.length]
  exact h.take _
theorem DtAll.rep {vs : List V} {ds : List D} (h : DtAll K M H vs ds) : ∀ k : Nat, DtAll K M H (List.replicate k vs).flatten (List.replicate k ds).flatten
  | 0 => .nil
  | k + 1 => by
    rw [List.replicate_succ, List.replicate_succ, List.flatten_cons, List.flatten_cons]
    exact h.append (DtAll.rep h k)
theorem DtAll.ints : ∀ (ns : List Int), DtAll K M H (ns.map V.int) (ns.map D.int)
  | [] => .nil
  | n :: ns => .cons (.int n) (DtAll.ints ns)
theorem Dt.ints_of : ∀ {ns : List Int} {vs : List V}, DtAll K M H vs (ns.map D.int) → vs = ns.map V.int
  | [], _, h => by cases h; rfl
  | n :: ns, _, h => by
    cases h with
    | cons h t =>
      cases h
      rw [Dt.ints_of t]
      rfl
theorem Dt.bls_of : ∀ {ns : List Bool} {vs : List V}, DtAll K M H vs (ns.map D.bl) → vs = ns.map V.bl
  | [], _, h => by cases h; rfl
  | n :: ns, _, h => by
    cases h with
    | cons h t =>
      cases h
      rw [Dt.bls_of t]
      rfl
theorem Dt.strs_of : ∀ {ns : List Str} {vs : List V}, DtAll K M H vs (ns.map D.str) → vs = ns.map V.str
  | [], _, h => by cases h; rfl
  | n :: ns, _, h => by
    cases h with
    | cons h t =>
      cases h
      rw [Dt.strs_of t]
      rfl
theorem Dt.sqT {v : V} {ds : List D} (h : Dt K M H v (.tup ds)) : ∃ a xs, v = .ref a ∧ SqT K H a xs ∧ DtAll K M H xs ds := by
  cases h with
  | tup n h a => exact ⟨_, _, rfl, .inl h, a⟩
  | ktup h a => exact ⟨_, _, rfl, .inr h, a⟩
theorem Dt.sqL {v : V} {ds : List D} (h : Dt K M H v (.lst ds)) : ∃ a xs, v = .ref a ∧ ¬ M.mu a ∧ H a = some (.lst xs) ∧ DtAll K M H xs ds := by
  cases h with
  | lst n h a => exact ⟨_, _, rfl, n, h, a⟩
theorem Dt.sqF {v : V} {ns : List Int} (h : Dt K M H v (.fls ns)) : ∃ a, v = .ref a ∧ SqL K H a (ns.map V.int) := by
  cases h with
  | fls n h => exact ⟨_, rfl, .inl h⟩
  | kfls h => exact ⟨_, rfl, .inr h⟩
end

/-! ### the frame of a def -/
abbrev Sl := List (Option D)
/-- what stands at an address of one's own: a list; a dict -/
inductive Cel where
  | l (xs : List D) | d (kvs : List (Key × D))
instance : Coe (List D) Cel := ⟨Cel.l⟩
inductive CelHO (K : PySem.W.Frag) (M : Mm) (H : Hp) : HO → Cel → Prop
  | l {vs : List V} {xs : List D} : DtAll K M H vs xs → CelHO K M H (.lst vs) (.l xs)
  | d {ws : List (Key × V)} {kvs : List (Key × D)} : ws.map (·.1) = kvs.map (·.1) → DtAll K M H (ws.map (·.2)) (kvs.map (·.2)) → CelHO K M H (.dK ws) (.d kvs)
theorem CelHO.ls_ {K : PySem.W.Frag} {M : Mm} {H : Hp} {o : HO} {c : Cel} (h : CelHO K M H o c) : (∃ vs, o = .lst vs) ∨ ∃ ws, o = .dK ws := by
  cases h with
  | l a => exact .inl ⟨_, rfl⟩
  | d k a => exact .inr ⟨_, rfl⟩
theorem CelHO.extD {K : PySem.W.Frag} {M M' : Mm} {H H' : Hp} (x : ExtD M H M' H') {o : HO} {c : Cel} (h : CelHO K M H o c) : CelHO K M' H' o c := by
  cases h with
  | l a => exact .l (a.extD x)
  | d k a => exact .d k (a.extD x)
theorem CelHO.ext {K : PySem.W.Frag} {M M' : Mm} {H H' : Hp} (x : Ext M H M' H') {o : HO} {c : Cel} (h : CelHO K M H o c) : CelHO K M' H' o c := by
  cases h with
  | l a => exact .l (a.ext x)
  | d k a => exact .d k (a.ext x)
abbrev Sto := List (Addr × Cel)
/-- M0: what may change elsewhere; H0: the heap at the entry; hand, J: what was handed over to be changed, and what is true of it -/
structure Dx where
  M0 : Addr → Prop
  H0 : Hp
  hand : Addr → Prop
  J : Hp → Prop
def Mu (dx : Dx) (S : Sto) : Mm := ⟨dx.M0, fun b => dx.hand b ∨ b ∈ S.map (·.1)⟩

/-- lists and dicts that may change -/
def Ls : HO → Prop
  | .lst _ => True
  | .dK _ => True
  | _ => False
/-- all that is neither stays -/
def Stays (H H' : Hp) : Prop := ∀ b u, ¬ Ls u → H b = some u → H' b = some u
theorem Stays.same {H H' : Hp} (h : Same H H') : Stays H H' := fun b u _ e => h b u e
theorem ls_at {H : Hp} {p : Addr} {u : HO} (e : H p = some u) (l : Ls u) : ∀ v, H p = some v → Ls v := fun v z => by
  rw [e] at z
  cases z
  exact l
theorem Stays.upd {H : Hp} {p : Addr} {o : HO} (l : ∀ v, H p = some v → Ls v) : Stays H (upd H p o) := fun b u n e => by
  by_cases z : b = p
  · subst z
    exact absurd (l u e) n
  · rw [upd_ne z]
    exact e

theorem CelHO.ls {K : PySem.W.Frag} {M : Mm} {H : Hp} {o : HO} {c : Cel} (h : CelHO K M H o c) : Ls o := by
  rcases h.ls_ with ⟨_, e⟩ | ⟨_, e⟩ <;> subst e <;> exact trivial
structure HR (K : PySem.W.Frag) (dx : Dx) (H : Hp) (S : Sto) : Prop where
  sto : ∀ p c, (p, c) ∈ S → ∃ o, H p = some o ∧ CelHO K (Mu dx S) H o c
  nd : (S.map (·.1)).Nodup
  live : ∀ b, dx.M0 b → H b ≠ none
  own : ∀ p, p ∈ S.map (·.1) → dx.H0 p = none ∧ ¬ dx.M0 p
  keep : ∀ b o, dx.H0 b = some o → ¬ dx.hand b → H b = some o
  j : dx.J H
  stab : ∀ H H' : Hp, (∀ b, dx.hand b → H' b = H b) ∧ Stays H H' → dx.J H → dx.J H'
  hm : ∀ b, dx.hand b → dx.M0 b

structure SR (K : PySem.W.Frag) (dx : Dx) (σ : L2.St) (H : Hp) (δ : Sl) (S : Sto) : Prop where
  len : δ.length = σ.length
  ix : ∀ (i : Nat) (d : D), δ[i]? = some (some d) → ∃ v : V, σ[i]? = some (some v) ∧ Dt K (Mu dx S) H v d

section
variable {K : PySem.W.Frag} {dx : Dx} {H H' : Hp} {S S' : Sto} {σ : L2.St} {δ : Sl}
theorem SR.extD {dy : Dx} (r : SR K dx σ H δ S) (x : ExtD (Mu dx S) H (Mu dy S') H') : SR K dy σ H' δ S' :=
  ⟨r.len, fun i d e => let ⟨v, e1, e2⟩ := r.ix i d e; ⟨v, e1, e2.extD x⟩⟩
theorem SR.ext (r : SR K dx σ H δ S) (x : Ext (Mu dx S) H (Mu dx S') H') : SR K dx σ H' δ S' :=
  ⟨r.len, fun i d e => let ⟨v, e1, e2⟩ := r.ix i d e; ⟨v, e1, e2.ext x⟩⟩
theorem SR.set (r : SR K dx σ H δ S) {v : V} {d : D} (i : Nat) (h : Dt K (Mu dx S) H v d) : SR K dx (σ.set i (some v)) H (δ.set i (some d)) S := by
  refine ⟨by rw [List.length_set, List.length_set]; exact r.len, fun j e he => ?_⟩
  by_cases q : j = i
  · subst q
    have lt : j < δ.length := by
      have := (List.getElem?_eq_some_iff.mp he).1
      rwa [List.length_set] at this
    rw [List.getElem?_set_self lt] at he
    cases he
    exact ⟨v, by rw [List.getElem?_set_self (by rw [← r.len]; exact lt)], h⟩
  · rw [List.getElem?_set_ne (Ne.symm q)] at he
    rw [List.getElem?_set_ne (Ne.symm q)]
    exact r.ix j e he
/-- slots forgotten -/
theorem SR.sub {δ' : Sl} (r : SR K dx σ H δ S) (l : δ'.length = δ.length) (h : ∀ (i : Nat) (d : D), δ'[i]? = some (some d) → δ[i]? = some (some d)) : SR K dx σ H δ' S :=
  ⟨l.trans r.len, fun i d e => r.ix i d (h i d e)⟩
theorem HR.hand_ne (r : HR K dx H S) {p : Addr} (n : H p = none) : ∀ b, dx.hand b → b ≠ p := fun b h e => by
  subst e
  exact r.live _ (r.hm _ h) n
theorem HR.mu_ne (r : HR K dx H S) {p : Addr} (n : H p = none) : ¬ (Mu dx S).mu p := by
  rintro (h | h | h)
  · exact r.live _ h n
  · exact r.live _ (r.hm _ h) n
  · obtain ⟨⟨q, xs⟩, hm, e⟩ := List.mem_map.mp h
    obtain ⟨vs, hp, _⟩ := r.sto q xs hm
    have e : q = p := e
    rw [e] at hp
    rw [hp] at n
    cases n
theorem ext_new {M : Mm} {p : Addr} {o : HO} (n : H p = none) : Ext M H M (upd H p o) :=
  ⟨fun b u _ e => by rw [upd_ne (ne_of_none e n)]; exact e, fun _ a b => absurd a b, fun _ a b => absurd a b⟩
theorem Ext.same {M : Mm} (h : Same H H') : Ext M H M H' := ⟨fun b o _ e => h b o e, fun _ a b => absurd a b, fun _ a b => absurd a b⟩
/-- all that was tracked is as it was -/
theorem HR.same (r : HR K dx H S) (h : Same H H') : HR K dx H' S where
  sto := fun p xs m => let ⟨vs, e, a⟩ := r.sto p xs m; ⟨vs, h _ _ e, CelHO.ext (Ext.same h) a⟩
  nd := r.nd
  live := fun b m z => by
    cases e : H b with
    | none => exact r.live b m e
    | some o => rw [h b o e] at z; cases z
  own := r.own
  keep := fun b o e n => h b o (r.keep b o e n)
  j := r.stab H H' ⟨fun b hb => by
    cases e : H b with
    | none => exact absurd e (r.live b (r.hm b hb))
    | some o => exact h b o e, .same h⟩ r.j
  stab := r.stab
  hm := r.hm
theorem same_new {p : Addr} {o : HO} (n : H p = none) : Same H (upd H p o) := fun b u e => by
  rw [upd_ne (ne_of_none e n)]; exact e
theorem HR.own_not (r : HR K dx H S) {p : Addr} (m : p ∈ S.map (·.1)) : ¬ dx.M0 p := (r.own p m).2
theorem HR.mu_live (r : HR K dx H S) : ∀ b, (Mu dx S).mu b → H b ≠ none := fun b m z => r.mu_ne z m
theorem HR.old (r : HR K dx H S) {p : Addr} (n : H p = none) : dx.H0 p = none := by
  cases e : dx.H0 p with
  | none => rfl
  | some o =>
    by_cases hb : dx.hand p
    · exact absurd n (r.live p (r.hm p hb))
    · have := r.keep p o e hb
      rw [n] at this
      cases this

/-- a new list of one's own -/
theorem ext_own {p : Addr} {o : HO} {xs : Cel} (r : HR K dx H S) (n : H p = none) : Ext (Mu dx S) H (Mu dx ((p, xs) :: S)) (upd H p o) := by
  have key : ∀ b, (Mu dx ((p, xs) :: S)).ch b → ¬ (Mu dx S).ch b → H b = none := by
    intro b m z
    rcases m with m | m
    · exact absurd (.inl m) z
    · rcases List.mem_cons.mp m with e | m
      · have e : b = p := e
        rw [e]; exact n
      · exact absurd (.inr m) z
  refine ⟨fun b u _ e => by rw [upd_ne (ne_of_none e n)]; exact e, fun b m z => ?_, key⟩
  rcases m with m | m
  · exact absurd (.inl m) z
  · exact key b m fun y => z (.inr y)
theorem HR.growC (r : HR K dx H S) {p : Addr} {o : HO} {xs : Cel} (n : H p = none) (a : CelHO K (Mu dx S) H o xs) : HR K dx (upd H p o) ((p, xs) :: S) := by
  have X := ext_own (o := o) (xs := xs) r n
  have R := r.same (same_new (o := o) n)
  refine ⟨fun q ys m => ?_, ?_, R.live, fun q m => ?_, R.keep, R.j, R.stab, R.hm⟩
  · rcases List.mem_cons.mp m with e | m
    · cases e
      exact ⟨o, upd_same, CelHO.ext X a⟩
    · obtain ⟨ws, e, b⟩ := r.sto q ys m
      exact ⟨ws, by rw [upd_ne (ne_of_none e n)]; exact e, CelHO.ext X b⟩
  · rw [List.map_cons]
    refine List.nodup_cons.mpr ⟨fun m => r.mu_ne n (.inr (.inr m)), r.nd⟩
  · rw [List.map_cons] at m
    rcases List.mem_cons.mp m with e | m
    · have e : q = p := e
      rw [e]
      exact ⟨r.old n, fun z => r.live p z n⟩
    · exact r.own q m

theorem HR.grow (r : HR K dx H S) {p : Addr} {vs : List V} {xs : List D} (n : H p = none) (a : DtAll K (Mu dx S) H vs xs) : HR K dx (upd H p (.lst vs)) ((p, .l xs) :: S) := r.growC n (.l a)

/-- the store with other items at p -/
def setS (S : Sto) (p : Addr) (xs : Cel) : Sto := S.map fun q => if q.1 = p then (p, xs) else q
theorem setS_keys (S : Sto) (p : Addr) (xs : Cel) : (setS S p xs).map (·.1) = S.map (·.1) := by
  unfold setS
  rw [List.map_map]
  apply List.map_congr_left
  intro q _
  show (if q.1 = p then (p, xs) else q).1 = q.1
  split
  · rename_i h; exact h.symm
  · rfl
theorem setS_mem {S : Sto} {p q : Addr} {xs ys : Cel} (h : (q, ys) ∈ setS S p xs) : (q = p ∧ ys = xs) ∨ (q ≠ p ∧ (q, ys) ∈ S) := by
  unfold setS at h
  obtain ⟨z, m, e⟩ := List.mem_map.mp h
  split at e
  · rename_i hz
    cases e
    exact .inl ⟨rfl, rfl⟩
  · rename_i hz
    subst e
    exact .inr ⟨hz, m⟩
def getC (S : Sto) (p : Addr) : Option Cel := (S.find? fun q => q.1 = p).map (·.2)
theorem getC_mem {S : Sto} {p : Addr} {xs : Cel} (h : getC S p = some xs) : (p, xs) ∈ S := by
  unfold getC at h
  obtain ⟨⟨q, ys⟩, e, rfl⟩ := Option.map_eq_some_iff.mp h
  have m := List.mem_of_find?_eq_some e
  have c := List.find?_some e
  have c : q = p := by simpa using c
  subst c
  exact m
/-- a list of one's own -/
def lOf : Cel → Option (List D)
  | .l xs => some xs
  | _ => none
/-- a dict of one's own -/
def kOf : Cel → Option (List (Key × D))
  | .d kvs => some kvs
  | _ => none
def getS (S : Sto) (p : Addr) : Option (List D) := (getC S p).bind lOf
def getK (S : Sto) (p : Addr) : Option (List (Key × D)) := (getC S p).bind kOf
theorem getS_C {S : Sto} {p : Addr} {xs : List D} (h : getS S p = some xs) : getC S p = some (.l xs) := by
  unfold getS at h
  cases e : getC S p with
  | none => rw [e] at h; cases h
  | some c =>
    rw [e] at h
    cases c with
    | l ys => cases h; rfl
    | d _ => cases h
theorem getK_C {S : Sto} {p : Addr} {xs : List (Key × D)} (h : getK S p = some xs) : getC S p = some (.d xs) := by
  unfold getK at h
  cases e : getC S p with
  | none => rw [e] at h; cases h
  | some c =>
    rw [e] at h
    cases c with
    | l ys => cases h
    | d _ => cases h; rfl
theorem getS_mem {S : Sto} {p : Addr} {xs : List D} (h : getS S p = some xs) : (p, .l xs) ∈ S := getC_mem (getS_C h)
theorem mu_set {dx : Dx} {S : Sto} {p : Addr} {xs : Cel} : Mu dx (setS S p xs) = Mu dx S := by
  unfold Mu
  rw [setS_keys]
theorem ext_set {p : Addr} {o : HO} {xs : Cel} (m : p ∈ S.map (·.1)) : Ext (Mu dx S) H (Mu dx (setS S p xs)) (upd H p o) := by
  rw [mu_set]
  refine ⟨fun b u n e => ?_, fun b a n => absurd a n, fun b a n => absurd a n⟩
  by_cases q : b = p
  · subst q; exact absurd (.inr m) n
  · rw [upd_ne q]; exact e
theorem HR.putC (r : HR K dx H S) {p : Addr} {o : HO} {xs : Cel} (m : p ∈ S.map (·.1)) (a : CelHO K (Mu dx S) H o xs) : HR K dx (upd H p o) (setS S p xs) := by
  have X := ext_set (dx := dx) (H := H) (o := o) (xs := xs) m
  have np : ¬ dx.M0 p := r.own_not m
  refine ⟨fun q ys mm => ?_, by rw [setS_keys]; exact r.nd, fun b hb => ?_, fun q hq => r.own q (by rw [← setS_keys S p xs]; exact hq), fun b o e n => ?_, ?_, r.stab, r.hm⟩
  · rcases setS_mem mm with ⟨rfl, rfl⟩ | ⟨ne, mm⟩
    · exact ⟨o, upd_same, CelHO.ext X a⟩
    · obtain ⟨ws, e, b⟩ := r.sto q ys mm
      exact ⟨ws, by rw [upd_ne ne]; exact e, CelHO.ext X b⟩
  · have ne : b ≠ p := fun z => np (z ▸ hb)
    rw [upd_ne ne]
    exact r.live b hb
  · have ne : b ≠ p := fun z => by
      rw [z, (r.own p m).1] at e
      cases e
    rw [upd_ne ne]
    exact r.keep b o e n
  · refine r.stab H _ ⟨fun b hb => ?_, .upd fun v e => ?_⟩ r.j
    · have ne : b ≠ p := fun z => np (z ▸ r.hm b hb)
      rw [upd_ne ne]
    · obtain ⟨q, mq, e2⟩ := List.mem_map.mp m
      obtain ⟨o2, e3, c⟩ := r.sto q.1 q.2 mq
      rw [e2, e] at e3
      cases e3
      exact c.ls
theorem HR.put (r : HR K dx H S) {p : Addr} {vs : List V} {xs : List D} (m : p ∈ S.map (·.1)) (a : DtAll K (Mu dx S) H vs xs) : HR K dx (upd H p (.lst vs)) (setS S p (.l xs)) := r.putC m (.l a)
/-- a list is not changed any more -/
def delS (S : Sto) (p : Addr) : Sto := S.filter fun q => q.1 ≠ p
theorem delS_mem {S : Sto} {p b : Addr} (h : b ∈ (delS S p).map (·.1)) : b ∈ S.map (·.1) ∧ b ≠ p := by
  obtain ⟨q, m, rfl⟩ := List.mem_map.mp h
  obtain ⟨m1, m2⟩ := List.mem_filter.mp m
  exact ⟨List.mem_map.mpr ⟨q, m1, rfl⟩, by simpa using m2⟩
theorem ext_del {p : Addr} : Ext (Mu dx S) H (Mu dx (delS S p)) H := by
  have key : ∀ b, (Mu dx (delS S p)).ch b → (Mu dx S).ch b := fun b h => h.elim .inl fun h => .inr (delS_mem h).1
  exact Ext.less (fun b h => h.elim .inl fun h => .inr (key b h)) key
theorem HR.del (r : HR K dx H S) (p : Addr) : HR K dx H (delS S p) := by
  refine ⟨fun q ys m => ?_, ?_, r.live, fun q m => r.own q (delS_mem m).1, r.keep, r.j, r.stab, r.hm⟩
  · obtain ⟨ws, e, b⟩ := r.sto q ys (List.mem_filter.mp m).1
    exact ⟨ws, e, CelHO.ext ext_del b⟩
  · exact r.nd.sublist (List.Sublist.map _ List.filter_sublist)
theorem HR.getL (r : HR K dx H S) {p : Addr} {xs : List D} (h : getS S p = some xs) : ∃ vs, H p = some (.lst vs) ∧ DtAll K (Mu dx S) H vs xs := by
  obtain ⟨o, e, c⟩ := r.sto p _ (getS_mem h)
  cases c with
  | l a => exact ⟨_, e, a⟩
theorem HR.getD (r : HR K dx H S) {p : Addr} {kvs : List (Key × D)} (h : getK S p = some kvs) : p ∈ S.map (·.1) ∧ ∃ ws, H p = some (.dK ws) ∧ ws.map (·.1) = kvs.map (·.1) ∧ DtAll K (Mu dx S) H (ws.map (·.2)) (kvs.map (·.2)) := by
  have m := getC_mem (getK_C h)
  obtain ⟨o, e, c⟩ := r.sto p _ m
  refine ⟨List.mem_map.mpr ⟨_, m, rfl⟩, ?_⟩
  cases c with
  | d k a => exact ⟨_, e, k, a⟩
theorem HR.frozen (r : HR K dx H S) {p : Addr} {xs : List D} (h : getS S p = some xs) : Dt K (Mu dx (delS S p)) H (.ref p) (.lst xs) := by
  have m := getS_mem h
  have mp : p ∈ S.map (·.1) := List.mem_map.mpr ⟨_, m, rfl⟩
  obtain ⟨vs, e, a⟩ := r.getL h
  refine .lst ?_ e (a.ext ext_del)
  rintro (z | z | z)
  · exact r.own_not mp z
  · exact r.own_not mp (r.hm _ z)
  · exact (delS_mem z).2 rfl
theorem HR.get (r : HR K dx H S) {p : Addr} {xs : List D} (h : getS S p = some xs) : p ∈ S.map (·.1) ∧ ∃ vs, H p = some (.lst vs) ∧ DtAll K (Mu dx S) H vs xs :=
  ⟨List.mem_map.mpr ⟨_, getS_mem h, rfl⟩, r.getL h⟩
/-- a dict is not changed any more: it is locked -/
theorem HR.frozenD (r : HR K dx H S) {p : Addr} {kvs : List (Key × D)} (h : getK S p = some kvs) (od : Obj) : ∃ ws, H p = some (.dK ws) ∧ HR K dx (upd H p (.frz od (.dK ws))) (delS S p) ∧
    Ext (Mu dx S) H (Mu dx (delS S p)) (upd H p (.frz od (.dK ws))) ∧ Dt K (Mu dx (delS S p)) (upd H p (.frz od (.dK ws))) (.ref p) (.dic (kvs.map (·.1)) (kvs.map (·.2))) := by
  obtain ⟨mp, ws, e, hk, a⟩ := r.getD h
  have np : ¬ dx.M0 p := r.own_not mp
  have key : ∀ b, (Mu dx (delS S p)).ch b → (Mu dx S).ch b := fun b h => h.elim .inl fun h => .inr (delS_mem h).1
  have X : Ext (Mu dx S) H (Mu dx (delS S p)) (upd H p (.frz od (.dK ws))) := by
    refine ⟨fun b u n e => ?_, fun b a n => absurd (a.elim .inl fun h => .inr (key b h)) n, fun b a n => absurd (key b a) n⟩
    by_cases q : b = p
    · subst q; exact absurd (.inr mp) n
    · rw [upd_ne q]; exact e
  refine ⟨ws, e, ⟨fun q ys m => ?_, ?_, fun b hb => ?_, fun q m => r.own q (delS_mem m).1, fun b o e n => ?_, ?_, r.stab, r.hm⟩, X, .dic ?_ upd_same hk (a.ext X)⟩
  · have ne : q ≠ p := (delS_mem (List.mem_map.mpr ⟨_, m, rfl⟩)).2
    obtain ⟨o, e, b⟩ := r.sto q ys (List.mem_filter.mp m).1
    exact ⟨o, by rw [upd_ne ne]; exact e, CelHO.ext X b⟩
  · exact r.nd.sublist (List.Sublist.map _ List.filter_sublist)
  · have ne : b ≠ p := fun z => np (z ▸ hb)
    rw [upd_ne ne]
    exact r.live b hb
  · have ne : b ≠ p := fun z => by
      rw [z, (r.own p mp).1] at e
      cases e
    rw [upd_ne ne]
    exact r.keep b o e n
  · refine r.stab H _ ⟨fun b hb => ?_, .upd (ls_at e trivial)⟩ r.j
    have ne : b ≠ p := fun z => np (z ▸ r.hm b hb)
    rw [upd_ne ne]
  · rintro (z | z | z)
    · exact np z
    · exact np (r.hm _ z)
    · exact (delS_mem z).2 rfl
end
end DL
/-! Readings over data. -/
namespace DL
open PySem PySem.Spec L2 Gd

def gt : Sl → Nat → Option D
  | [], _ => none
  | a :: _, 0 => a
  | _ :: r, n + 1 => gt r n
def put : Sl → Nat → D → Sl
  | [], _, _ => []
  | _ :: r, 0, d => some d :: r
  | a :: r, n + 1, d => a :: put r n d
theorem gt_ix : ∀ {δ : Sl} {i : Nat} {d : D}, gt δ i = some d → δ[i]? = some (some d)
  | [], _, _, h => by cases h
  | a :: _, 0, _, h => by simpa [gt] using h
  | _ :: r, n + 1, _, h => by simpa [gt] using gt_ix (δ := r) (i := n) h
theorem put_set : ∀ {δ : Sl} {i : Nat} {d : D}, put δ i d = δ.set i (some d)
  | [], _, _ => rfl
  | _ :: _, 0, _ => rfl
  | a :: r, n + 1, d => by
    show a :: put r n d = a :: r.set n (some d)
    rw [put_set]

abbrev DTE := Sl → Sto → (D → Sto → Prop) → Prop
abbrev DTT := Sl → Sto → (Bool → Sto → Prop) → Prop
abbrev DTA := Sl → Sto → (List D → Sto → Prop) → Prop
structure DEnds where
  nx : Sl → Sto → Prop
  rt : D → Sto → Prop
  bk : Sl → Sto → Prop := fun _ _ => False
  ct : Sl → Sto → Prop := fun _ _ => False
abbrev DTS := DEnds → Sl → Sto → Prop

def ThE (K : PySem.W.Frag) (dx : Dx) (H : Hp) (S : Sto) (Q : D → Sto → Prop) (Qh : VK) : Prop :=
  ∀ v H' d S', HR K dx H' S' → Ext (Mu dx S) H (Mu dx S') H' → Dt K (Mu dx S') H' v d → Q d S' → Qh v H'
def ThT (K : PySem.W.Frag) (dx : Dx) (H : Hp) (S : Sto) (Q : Bool → Sto → Prop) (Qh : Bool → Hp → Prop) : Prop :=
  ∀ b H' S', HR K dx H' S' → Ext (Mu dx S) H (Mu dx S') H' → Q b S' → Qh b H'
def ThA (K : PySem.W.Frag) (dx : Dx) (H : Hp) (S : Sto) (Q : List D → Sto → Prop) (Qh : List V → Hp → Prop) : Prop :=
  ∀ vs H' ds S', HR K dx H' S' → Ext (Mu dx S) H (Mu dx S') H' → DtAll K (Mu dx S') H' vs ds → Q ds S' → Qh vs H'

structure DE (X : Cx) (dx : Dx) (e : Expr) (te : TE) (t : DTE) : Prop where
  pe : PE X e te
  go : ∀ σ H δ S Q Qh, HR X.K dx H S → SR X.K dx σ H δ S → t δ S Q → ThE X.K dx H S Q Qh → te σ H Qh
structure DT (X : Cx) (dx : Dx) (e : Expr) (te : TT) (t : DTT) : Prop where
  pe : PT X e te
  go : ∀ σ H δ S Q Qh, HR X.K dx H S → SR X.K dx σ H δ S → t δ S Q → ThT X.K dx H S Q Qh → te σ H Qh
structure DW (X : Cx) (dx : Dx) (e : Expr) (te : TT) (t : DTT) : Prop where
  pe : PW X e te
  go : ∀ σ H δ S Q Qh, HR X.K dx H S → SR X.K dx σ H δ S → t δ S Q → ThT X.K dx H S Q Qh → te σ H Qh
structure DA (X : Cx) (dx : Dx) (es : List Expr) (te : TA) (t : DTA) : Prop where
  pe : PA X es te
  go : ∀ σ H δ S Q Qh, HR X.K dx H S → SR X.K dx σ H δ S → t δ S Q → ThA X.K dx H S Q Qh → te σ H Qh
structure DK (X : Cx) (dx : Dx) (es : List Keyword) (te : TA) (t : DTA) : Prop where
  pe : PK X es te
  go : ∀ σ H δ S Q Qh, HR X.K dx H S → SR X.K dx σ H δ S → t δ S Q → ThA X.K dx H S Q Qh → te σ H Qh

structure ThS (K : PySem.W.Frag) (dx : Dx) (H : Hp) (S : Sto) (DD : DEnds) (E : Ends) : Prop where
  nx : ∀ σ' H' δ' S', HR K dx H' S' → Ext (Mu dx S) H (Mu dx S') H' → SR K dx σ' H' δ' S' → DD.nx δ' S' → E.nx σ' H'
  bk : ∀ σ' H' δ' S', HR K dx H' S' → Ext (Mu dx S) H (Mu dx S') H' → SR K dx σ' H' δ' S' → DD.bk δ' S' → E.bk σ' H'
  ct : ∀ σ' H' δ' S', HR K dx H' S' → Ext (Mu dx S) H (Mu dx S') H' → SR K dx σ' H' δ' S' → DD.ct δ' S' → E.ct σ' H'
  rt : ∀ v H' d S', HR K dx H' S' → Ext (Mu dx S) H (Mu dx S') H' → Dt K (Fo dx.M0) H' v d → DD.rt d S' → E.rt v H'
structure DS (X : Cx) (dx : Dx) (st : Stmt) (ts : TS) (t : DTS) : Prop where
  pe : PS X st ts
  go : ∀ σ H δ S DD E, HR X.K dx H S → SR X.K dx σ H δ S → t DD δ S → ThS X.K dx H S DD E → ts E σ H
structure DSs (X : Cx) (dx : Dx) (st : List Stmt) (ts : TS) (t : DTS) : Prop where
  pe : PSs X st ts
  go : ∀ σ H δ S DD E, HR X.K dx H S → SR X.K dx σ H δ S → t DD δ S → ThS X.K dx H S DD E → ts E σ H

section
variable {K : PySem.W.Frag} {dx : Dx} {H H1 : Hp} {S S1 : Sto}
theorem ThE.on {Q Qh} (h : ThE K dx H S Q Qh) (x : Ext (Mu dx S) H (Mu dx S1) H1) : ThE K dx H1 S1 Q Qh :=
  fun v H' d S' r y => h v H' d S' r (x.trans y)
theorem ThT.on {Q Qh} (h : ThT K dx H S Q Qh) (x : Ext (Mu dx S) H (Mu dx S1) H1) : ThT K dx H1 S1 Q Qh :=
  fun v H' S' r y => h v H' S' r (x.trans y)
theorem ThA.on {Q Qh} (h : ThA K dx H S Q Qh) (x : Ext (Mu dx S) H (Mu dx S1) H1) : ThA K dx H1 S1 Q Qh :=
  fun v H' d S' r y => h v H' d S' r (x.trans y)
theorem ThS.on {DD E} (h : ThS K dx H S DD E) (x : Ext (Mu dx S) H (Mu dx S1) H1) : ThS K dx H1 S1 DD E :=
  ⟨fun a b c d r y => h.nx a b c d r (x.trans y), fun a b c d r y => h.bk a b c d r (x.trans y), fun a b c d r y => h.ct a b c d r (x.trans y), fun a b c d r y => h.rt a b c d r (x.trans y)⟩
end

section
variable {X : Cx} {dx : Dx} {a b c e : Expr} {es rest : List Expr} {pos : Pos} {ta tb tc te : TE} {fa fb fc : DTE} {ua ub : TT} {ga gb : DTT} {tr : TA} {fr : DTA}

/-! ### names, constants -/
def dVar (i : Nat) : DTE := fun δ S Q => match gt δ i with
  | some d => Q d S
  | none => False
theorem de_var {i : Nat} (h : PE X e (tVar i)) : DE X dx e (tVar i) (dVar i) := by
  refine ⟨h, fun σ H δ S Q Qh r s t k => ?_⟩
  unfold dVar at t
  cases g : gt δ i with
  | none => rw [g] at t; exact t.elim
  | some d =>
    rw [g] at t
    obtain ⟨v, e1, e2⟩ := s.ix i d (gt_ix g)
    exact ⟨v, e1, k v H d S r Ext.refl e2 t⟩
/-- the name that stands in the i-th slot -/
theorem dv (i : Nat) {x : Str} {pos : Pos} (hN : X.N[i]? = some x := by rfl) (hv : Vis X.env.scope x := by first | exact Or.inl rfl | exact Or.inr (Or.inl rfl) | exact Or.inr (Or.inr rfl))
    (hd : (x == ("__debug__" : Str)) = false := by decide) (hcd : (x == ("__classdict__" : Str)) = false := by decide) : DE X dx (.Name x pos) (tVar i) (dVar i) :=
  de_var (pe_var hN hv hd hcd)
def dC (d : D) : DTE := fun _ S Q => Q d S
theorem de_c {v : V} {d : D} (h : PE X e (tC v)) (q : ∀ M H, Dt X.K M H v d) : DE X dx e (tC v) (dC d) :=
  ⟨h, fun σ H δ S Q Qh r s t k => k v H d S r Ext.refl (q _ _) t⟩
theorem de_int {i : Int} {j} : DE X dx (.Constant (.int i) j pos) (tC (.int i)) (dC (.int i)) := de_c pe_int fun _ _ => .int i
theorem de_bl {i : Bool} {j} : DE X dx (.Constant (.bool i) j pos) (tC (.bl i)) (dC (.bl i)) := de_c pe_bl fun _ _ => .bl i
theorem de_non {j} : DE X dx (.Constant .none j pos) (tC .non) (dC .non) := de_c pe_non fun _ _ => .non
theorem de_str {i : Str} {j} : DE X dx (.Constant (.str i) j pos) (tC (.str i)) (dC (.str i)) := de_c pe_str fun _ _ => .str i

/-! ### operators by values -/
abbrev F2 := D → D → Sto → (D → Sto → Prop) → Prop
def OpD (K : PySem.W.Frag) (dx : Dx) (r : R2) (f : F2) : Prop :=
  ∀ x y p q H S Q Qh, HR K dx H S → Dt K (Mu dx S) H x p → Dt K (Mu dx S) H y q → f p q S Q → ThE K dx H S Q Qh → r x y H Qh
def dOp (f : F2) (fa fb : DTE) : DTE := fun δ S Q => fa δ S fun p S1 => fb δ S1 fun q S2 => f p q S2 Q
theorem op_go {r : R2} {f : F2} (o : OpD X.K dx r f) (ha : DE X dx a ta fa) (hb : DE X dx b tb fb) :
    ∀ σ H δ S Q Qh, HR X.K dx H S → SR X.K dx σ H δ S → dOp f fa fb δ S Q → ThE X.K dx H S Q Qh → tOp r ta tb σ H Qh := by
  intro σ H δ S Q Qh r0 s0 t k
  refine ha.go σ H δ S _ _ r0 s0 t fun x H1 p S1 r1 x1 d1 t1 => ?_
  refine hb.go σ H1 δ S1 _ _ r1 (s0.ext x1) t1 fun y H2 q S2 r2 x2 d2 t2 => ?_
  exact o x y p q H2 S2 Q Qh r2 (d1.ext x2) d2 t2 (k.on (x1.trans x2))
theorem de_op {op : Operator} {r : R2} {f : F2} (h : OpR X (binaryOp op) r) (o : OpD X.K dx r f) (ha : DE X dx a ta fa) (hb : DE X dx b tb fb) : DE X dx (.BinOp a op b pos) (tOp r ta tb) (dOp f fa fb) :=
  ⟨pe_op h ha.pe hb.pe, op_go o ha hb⟩
theorem de_cmp {op : CmpOp} {r : R2} {f : F2} (h : OpR X (compareOp op) r) (o : OpD X.K dx r f) (ha : DE X dx a ta fa) (hb : DE X dx b tb fb) (hm : behindInMarks op b = false) : DE X dx (.Compare a [op] [b] pos) (tOp r ta tb) (dOp f fa fb) :=
  ⟨pe_cmpR h ha.pe hb.pe hm, op_go o ha hb⟩
def isB (Q : Bool → Sto → Prop) : D → Sto → Prop
  | .bl k, S => Q k S
  | _, _ => False
def dTest (t : DTE) : DTT := fun δ S Q => t δ S (isB Q)
theorem isB_run {K : PySem.W.Frag} {Q : Bool → Sto → Prop} {M : Mm} {H : Hp} {v : V} {d : D} {S : Sto} (h : Dt K M H v d) (q : isB Q d S) : ∃ k, v = .bl k ∧ d = .bl k ∧ Q k S := by
  cases h with
  | bl k => exact ⟨k, rfl, rfl, q⟩
  | _ => exact q.elim
theorem dt_cmp {op : CmpOp} {r : R2} {f : F2} (h : OpR X (compareOp op) r) (o : OpD X.K dx r f) (ha : DE X dx a ta fa) (hb : DE X dx b tb fb) (hm : behindInMarks op b = false) : DT X dx (.Compare a [op] [b] pos) (tTest (tOp r ta tb)) (dTest (dOp f fa fb)) := by
  refine ⟨pt_cmpR h ha.pe hb.pe hm, fun σ H δ S Q Qh r0 s0 t k => ?_⟩
  refine op_go o ha hb σ H δ S _ _ r0 s0 t fun v H1 d S1 r1 x1 d1 t1 => ?_
  obtain ⟨z, rfl, rfl, q⟩ := isB_run d1 t1
  exact ⟨z, rfl, k z H1 S1 r1 x1 q⟩
theorem dt_val (h : DE X dx e te fa) (he : ∀ whole, isTrue e X.env whole = (do let v ← whole; standAt e.pos; holding [v] (truthy v)) := by intro _; rfl) : DT X dx e (tB te) (dTest fa) := by
  refine ⟨pt_val h.pe he, fun σ H δ S Q Qh r0 s0 t k => ?_⟩
  refine h.go σ H δ S _ _ r0 s0 t fun v H1 d S1 r1 x1 d1 t1 => ?_
  obtain ⟨z, rfl, rfl, q⟩ := isB_run d1 t1
  exact ⟨z, rfl, k z H1 S1 r1 x1 q⟩
/-- a < b < c -/
def dChain (f g : F2) (fa fb fc : DTE) : DTE := fun δ S Q => fa δ S fun p S1 => fb δ S1 fun q S2 => f p q S2 fun z S3 =>
  isB (fun k S4 => if k = true then fc δ S4 fun w S5 => g q w S5 Q else Q (.bl false) S4) z S3
end
end DL
/-! Readings over data: tests, displays, items, slices, calls. -/
namespace DL
open PySem PySem.Spec L2 Gd

def opt {α : Type} (o : Option α) (Q : α → Prop) : Prop := match o with
  | some x => Q x
  | none => False
theorem opt_run {α : Type} {o : Option α} {Q : α → Prop} (h : opt o Q) : ∃ x, o = some x ∧ Q x := by
  cases o with
  | none => exact h.elim
  | some x => exact ⟨x, rfl, h⟩
section
variable {X : Cx} {dx : Dx} {a b c e : Expr} {es rest : List Expr} {pos : Pos} {ta tb tc te : TE} {fa fb fc : DTE} {ua ub : TT} {ga gb : DTT} {tr : TA} {fr : DTA}

theorem de_chain {op op' : CmpOp} {r r' : R2} {f g : F2} (h : OpR X (compareOp op) r) (o : OpD X.K dx r f) (h' : OpR X (compareOp op') r') (o' : OpD X.K dx r' g)
    (ha : DE X dx a ta fa) (hb : DE X dx b tb fb) (hc : DE X dx c tc fc)
    (hm : lastMarks [op, op'] [b, c] = false := by with_unfolding_all rfl) : DE X dx (.Compare a [op, op'] [b, c] pos) (tChain r r' ta tb tc) (dChain f g fa fb fc) := by
  refine ⟨pe_chain h h' ha.pe hb.pe hc.pe hm, fun σ H δ S Q Qh r0 s0 t k => ?_⟩
  refine ha.go σ H δ S _ _ r0 s0 t fun x H1 p S1 r1 x1 d1 t1 => ?_
  refine hb.go σ H1 δ S1 _ _ r1 (s0.ext x1) t1 fun y H2 q S2 r2 x2 d2 t2 => ?_
  refine o x y p q H2 S2 _ _ r2 (d1.ext x2) d2 t2 fun v H3 z S3 r3 x3 d3 t3 => ?_
  obtain ⟨w, rfl, rfl, t4⟩ := isB_run d3 t3
  refine ⟨w, rfl, ?_⟩
  cases w with
  | false =>
    rw [if_neg Bool.false_ne_true] at t4 ⊢
    exact k _ H3 _ S3 r3 ((x1.trans x2).trans x3) (.bl false) t4
  | true =>
    rw [if_pos rfl] at t4 ⊢
    refine hc.go σ H3 δ S3 _ _ r3 (s0.ext ((x1.trans x2).trans x3)) t4 fun u H4 z S4 r4 x4 d4 t5 => ?_
    exact o' y u q z H4 S4 Q Qh r4 (d2.ext (x3.trans x4)) d4 t5 (k.on (((x1.trans x2).trans x3).trans x4))
theorem dt_chain {op op' : CmpOp} {r r' : R2} {f g : F2} (h : OpR X (compareOp op) r) (o : OpD X.K dx r f) (h' : OpR X (compareOp op') r') (o' : OpD X.K dx r' g)
    (ha : DE X dx a ta fa) (hb : DE X dx b tb fb) (hc : DE X dx c tc fc)
    (hm : lastMarks [op, op'] [b, c] = false := by with_unfolding_all rfl) : DT X dx (.Compare a [op, op'] [b, c] pos) (tTest (tChain r r' ta tb tc)) (dTest (dChain f g fa fb fc)) := by
  refine ⟨pt_chain h h' ha.pe hb.pe hc.pe hm, fun σ H δ S Q Qh r0 s0 t k => ?_⟩
  refine (de_chain (pos := pos) h o h' o' ha hb hc hm).go σ H δ S _ _ r0 s0 t fun v H1 d S1 r1 x1 d1 t1 => ?_
  obtain ⟨z, rfl, rfl, q⟩ := isB_run d1 t1
  exact ⟨z, rfl, k z H1 S1 r1 x1 q⟩

/-! ### truth -/
def fTru : D → Sto → (Bool → Sto → Prop) → Prop
  | .non, S, Q => Q false S
  | .bl k, S, Q => Q k S
  | .int i, S, Q => Q (i != 0) S
  | .str x, S, Q => x.length ≤ sizeLine ∧ Q ((x.length : Int) != 0) S
  | .tup ds, S, Q => Q (!ds.isEmpty) S
  | .lst ds, S, Q => Q (!ds.isEmpty) S
  | .fls ds, S, Q => Q (!ds.isEmpty) S
  | .adr p, S, Q => opt (getS S p) fun ds => Q (!ds.isEmpty) S
  | .dic _ _, _, _ => False
  | .dlt _ _, _, _ => False
  | .obj _ _ _, _, _ => False
theorem empty_all {K : PySem.W.Frag} {M : Mm} {H : Hp} {vs : List V} {ds : List D} (h : DtAll K M H vs ds) : vs.isEmpty = ds.isEmpty := by
  cases h <;> rfl
theorem tru_go {K : PySem.W.Frag} {v : V} {d : D} {H : Hp} {S : Sto} {Q : Bool → Sto → Prop} (r : HR K dx H S) (h : Dt K (Mu dx S) H v d) (q : fTru d S Q) : ∃ k, TruV K v H k ∧ Q k S := by
  cases h with
  | non => exact ⟨_, rfl, q⟩
  | bl k => exact ⟨_, rfl, q⟩
  | int i => exact ⟨_, rfl, q⟩
  | str x => exact ⟨_, ⟨q.1, rfl⟩, q.2⟩
  | tup n h a => exact ⟨_, .inr (.inl ⟨_, .inl h, rfl⟩), by rw [empty_all a]; exact q⟩
  | ktup h a => exact ⟨_, .inr (.inl ⟨_, .inr h, rfl⟩), by rw [empty_all a]; exact q⟩
  | lst n h a => exact ⟨_, .inl ⟨_, SqL.of h, rfl⟩, by rw [empty_all a]; exact q⟩
  | fls n h => exact ⟨_, .inl ⟨_, .inl h, rfl⟩, by rw [List.isEmpty_map]; exact q⟩
  | kfls h => exact ⟨_, .inl ⟨_, .inr h, rfl⟩, by rw [List.isEmpty_map]; exact q⟩
  | adr p =>
    obtain ⟨ds, g, q⟩ := opt_run q
    obtain ⟨_, vs, e, al⟩ := r.get g
    exact ⟨_, .inl ⟨_, SqL.of e, rfl⟩, by rw [empty_all al]; exact q⟩
  | dic _ _ _ _ => exact q.elim
  | dlt _ _ _ _ => exact q.elim
  | obj _ _ _ _ _ => exact q.elim
  | ztup _ _ _ => exact q.elim
def tTr (K : PySem.W.Frag) (te : TE) : TT := fun σ H Q => te σ H fun x H' => ∃ k, TruV K x H' k ∧ Q k H'
def dTr (t : DTE) : DTT := fun δ S Q => t δ S fun d S1 => fTru d S1 Q
theorem dt_tru (h : DE X dx e te fa) (he : ∀ whole, isTrue e X.env whole = (do let v ← whole; standAt e.pos; holding [v] (truthy v)) := by intro _; rfl) : DT X dx e (tTr X.K te) (dTr fa) := by
  refine ⟨pt_truth h.pe he, fun σ H δ S Q Qh r0 s0 t k => ?_⟩
  refine h.go σ H δ S _ _ r0 s0 t fun v H1 d S1 r1 x1 d1 t1 => ?_
  obtain ⟨z, tv, q⟩ := tru_go r1 d1 t1
  exact ⟨z, tv, k z H1 S1 r1 x1 q⟩

/-! ### and, or, not -/
def dNot (t : DTT) : DTT := fun δ S Q => t δ S fun k S1 => Q (!k) S1
def dAnd (t u : DTT) : DTT := fun δ S Q => t δ S fun k S1 => if k = true then u δ S1 Q else Q false S1
def dOr (t u : DTT) : DTT := fun δ S Q => t δ S fun k S1 => if k = true then Q true S1 else u δ S1 Q
theorem dt_not (h : DT X dx a ua ga) : DT X dx (.UnaryOp .Not a pos) (tNot ua) (dNot ga) :=
  ⟨pt_not h.pe, fun σ H δ S Q Qh r0 s0 t k => h.go σ H δ S _ _ r0 s0 t fun b H1 S1 r1 x1 q => k _ H1 S1 r1 x1 q⟩
theorem dw_and1 (h : DT X dx a ua ga) : DW X dx (.BoolOp .And [a] pos) ua ga := ⟨pw_and1 h.pe, h.go⟩
theorem dw_or1 (h : DT X dx a ua ga) : DW X dx (.BoolOp .Or [a] pos) ua ga := ⟨pw_or1 h.pe, h.go⟩
theorem dw_and (h : DT X dx a ua ga) (h2 : DW X dx (.BoolOp .And (b :: rest) pos) ub gb) : DW X dx (.BoolOp .And (a :: b :: rest) pos) (tAnd ua ub) (dAnd ga gb) := by
  refine ⟨pw_and h.pe h2.pe, fun σ H δ S Q Qh r0 s0 t k => ?_⟩
  refine h.go σ H δ S _ _ r0 s0 t fun z H1 S1 r1 x1 q => ?_
  cases z with
  | false =>
    rw [if_neg Bool.false_ne_true] at q ⊢
    exact k _ H1 S1 r1 x1 q
  | true =>
    rw [if_pos rfl] at q ⊢
    exact h2.go σ H1 δ S1 Q Qh r1 (s0.ext x1) q (k.on x1)
theorem dw_or (h : DT X dx a ua ga) (h2 : DW X dx (.BoolOp .Or (b :: rest) pos) ub gb) : DW X dx (.BoolOp .Or (a :: b :: rest) pos) (tOr ua ub) (dOr ga gb) := by
  refine ⟨pw_or h.pe h2.pe, fun σ H δ S Q Qh r0 s0 t k => ?_⟩
  refine h.go σ H δ S _ _ r0 s0 t fun z H1 S1 r1 x1 q => ?_
  cases z with
  | true =>
    rw [if_pos rfl] at q ⊢
    exact k _ H1 S1 r1 x1 q
  | false =>
    rw [if_neg Bool.false_ne_true] at q ⊢
    exact h2.go σ H1 δ S1 Q Qh r1 (s0.ext x1) q (k.on x1)
theorem DW.dt (h : DW X dx e ua ga) : DT X dx e ua ga := ⟨h.pe.pt, h.go⟩
/-- as values: all True or False but the last -/
def dAndV (t u : DTE) : DTE := fun δ S Q => t δ S (isB fun k S1 => if k = true then u δ S1 Q else Q (.bl false) S1)
def dOrV (t u : DTE) : DTE := fun δ S Q => t δ S (isB fun k S1 => if k = true then Q (.bl true) S1 else u δ S1 Q)
def dNotV (t : DTE) : DTE := fun δ S Q => t δ S (isB fun k S1 => Q (.bl (!k)) S1)
theorem de_one {op} (h : DE X dx a ta fa) : DE X dx (.BoolOp op [a] pos) ta fa := ⟨pe_one h.pe, h.go⟩
theorem de_and (h : DE X dx a ta fa) (h2 : DE X dx (.BoolOp .And (b :: rest) pos) tb fb) : DE X dx (.BoolOp .And (a :: b :: rest) pos) (tAndV ta tb) (dAndV fa fb) := by
  refine ⟨pe_and h.pe h2.pe, fun σ H δ S Q Qh r0 s0 t k => ?_⟩
  refine h.go σ H δ S _ _ r0 s0 t fun v H1 d S1 r1 x1 d1 t1 => ?_
  obtain ⟨z, rfl, rfl, q⟩ := isB_run d1 t1
  refine ⟨z, rfl, ?_⟩
  cases z with
  | false =>
    rw [if_neg Bool.false_ne_true] at q ⊢
    exact k _ H1 _ S1 r1 x1 (.bl false) q
  | true =>
    rw [if_pos rfl] at q ⊢
    exact h2.go σ H1 δ S1 Q Qh r1 (s0.ext x1) q (k.on x1)
theorem de_or (h : DE X dx a ta fa) (h2 : DE X dx (.BoolOp .Or (b :: rest) pos) tb fb) : DE X dx (.BoolOp .Or (a :: b :: rest) pos) (tOrV ta tb) (dOrV fa fb) := by
  refine ⟨pe_or h.pe h2.pe, fun σ H δ S Q Qh r0 s0 t k => ?_⟩
  refine h.go σ H δ S _ _ r0 s0 t fun v H1 d S1 r1 x1 d1 t1 => ?_
  obtain ⟨z, rfl, rfl, q⟩ := isB_run d1 t1
  refine ⟨z, rfl, ?_⟩
  cases z with
  | true =>
    rw [if_pos rfl] at q ⊢
    exact k _ H1 _ S1 r1 x1 (.bl true) q
  | false =>
    rw [if_neg Bool.false_ne_true] at q ⊢
    exact h2.go σ H1 δ S1 Q Qh r1 (s0.ext x1) q (k.on x1)
theorem de_not (h : DE X dx a ta fa) : DE X dx (.UnaryOp .Not a pos) (tNotV ta) (dNotV fa) := by
  refine ⟨pe_not h.pe, fun σ H δ S Q Qh r0 s0 t k => ?_⟩
  refine h.go σ H δ S _ _ r0 s0 t fun v H1 d S1 r1 x1 d1 t1 => ?_
  obtain ⟨z, rfl, rfl, q⟩ := isB_run d1 t1
  exact ⟨z, rfl, k _ H1 _ S1 r1 x1 (.bl _) q⟩
def dIfE (c : DTT) (t u : DTE) : DTE := fun δ S Q => c δ S fun k S1 => if k = true then t δ S1 Q else u δ S1 Q
theorem de_if (hc : DT X dx c ua ga) (ha : DE X dx a ta fa) (hb : DE X dx b tb fb) : DE X dx (.IfExp c a b pos) (tIf ua ta tb) (dIfE ga fa fb) := by
  refine ⟨pe_ifExp hc.pe ha.pe hb.pe, fun σ H δ S Q Qh r0 s0 t k => ?_⟩
  refine hc.go σ H δ S _ _ r0 s0 t fun z H1 S1 r1 x1 q => ?_
  cases z with
  | true =>
    rw [if_pos rfl] at q ⊢
    exact ha.go σ H1 δ S1 Q Qh r1 (s0.ext x1) q (k.on x1)
  | false =>
    rw [if_neg Bool.false_ne_true] at q ⊢
    exact hb.go σ H1 δ S1 Q Qh r1 (s0.ext x1) q (k.on x1)

/-! ### unary operators -/
def dUn (f : D → Sto → (D → Sto → Prop) → Prop) (t : DTE) : DTE := fun δ S Q => t δ S fun d S1 => f d S1 Q
def UnD (K : PySem.W.Frag) (dx : Dx) (r : V → Hp → VK → Prop) (f : D → Sto → (D → Sto → Prop) → Prop) : Prop :=
  ∀ x p H S Q Qh, HR K dx H S → Dt K (Mu dx S) H x p → f p S Q → ThE K dx H S Q Qh → r x H Qh
theorem de_un {op : UnaryOp} {r} {f} (h : UnR X (unaryOp op) r) (o : UnD X.K dx r f) (ha : DE X dx a ta fa) : DE X dx (.UnaryOp op a pos) (tUn r ta) (dUn f fa) :=
  ⟨pe_un h ha.pe, fun σ H δ S Q Qh r0 s0 t k => ha.go σ H δ S _ _ r0 s0 t fun v H1 d S1 r1 x1 d1 t1 => o v d H1 S1 Q Qh r1 d1 t1 (k.on x1)⟩
def fNeg : D → Sto → (D → Sto → Prop) → Prop
  | .int i, S, Q => Q (.int (-i)) S
  | _, _, _ => False
theorem od_neg {K} : UnD K dx (rU fun i => .int (-i)) fNeg := by
  intro x p H S Q Qh r0 h t k
  cases h with
  | int i => exact ⟨i, rfl, k _ H _ S r0 Ext.refl (.int _) t⟩
  | _ => exact t.elim

/-! ### arguments, displays -/
def dNil : DTA := fun _ S Q => Q [] S
def dCons (t : DTE) (u : DTA) : DTA := fun δ S Q => t δ S fun d S1 => u δ S1 fun ds S2 => Q (d :: ds) S2
theorem da_nil : DA X dx [] tNil dNil := ⟨pa_nil, fun σ H δ S Q Qh r s t k => k [] H [] S r Ext.refl .nil t⟩
theorem cons_go {t : TE} {u : TA} {f : DTE} {g : DTA} (h1 : ∀ σ H δ S Q Qh, HR X.K dx H S → SR X.K dx σ H δ S → f δ S Q → ThE X.K dx H S Q Qh → t σ H Qh)
    (h2 : ∀ σ H δ S Q Qh, HR X.K dx H S → SR X.K dx σ H δ S → g δ S Q → ThA X.K dx H S Q Qh → u σ H Qh) :
    ∀ σ H δ S Q Qh, HR X.K dx H S → SR X.K dx σ H δ S → dCons f g δ S Q → ThA X.K dx H S Q Qh → tCons t u σ H Qh := by
  intro σ H δ S Q Qh r0 s0 t k
  refine h1 σ H δ S _ _ r0 s0 t fun v H1 d S1 r1 x1 d1 t1 => ?_
  refine h2 σ H1 δ S1 _ _ r1 (s0.ext x1) t1 fun vs H2 ds S2 r2 x2 d2 t2 => ?_
  exact k _ H2 _ S2 r2 (x1.trans x2) (.cons (d1.ext x2) d2) t2
theorem da_cons (ha : DE X dx e te fa) (hr : DA X dx es tr fr) (hs : starEach (e :: es) X.env = (false, eval e X.env) :: starEach es X.env := by rfl) : DA X dx (e :: es) (tCons te tr) (dCons fa fr) :=
  ⟨pa_cons ha.pe hr.pe hs, cons_go ha.go hr.go⟩
theorem dk_nil : DK X dx [] tNil dNil := ⟨pk_nil, fun σ H δ S Q Qh r s t k => k [] H [] S r Ext.refl .nil t⟩
theorem dk_cons {kws : List Keyword} {nm : Option Str} {kpos : Pos} (ha : DE X dx e te fa) (hr : DK X dx kws tr fr) : DK X dx (⟨nm, e, kpos⟩ :: kws) (tCons te tr) (dCons fa fr) :=
  ⟨pk_cons ha.pe hr.pe, cons_go ha.go hr.go⟩

/-- no more than fits into one object -/
def Fit (n : Nat) : Prop := n ≤ 16777216
theorem Fit.line {n : Nat} (h : Fit n) : n ≤ sizeLine := by rw [sizeLine_eq]; exact h
def dTup (t : DTA) : DTE := fun δ S Q => t δ S fun ds S1 => Fit ds.length ∧ Q (.tup ds) S1
def dLst (t : DTA) : DTE := fun δ S Q => t δ S fun ds S1 => Fit ds.length ∧ Q (.lst ds) S1
theorem new_tup {K : PySem.W.Frag} {H : Hp} {S : Sto} {p : Addr} {vs : List V} {ds : List D} (r : HR K dx H S) (n : H p = none) (a : DtAll K (Mu dx S) H vs ds) :
    HR K dx (upd H p (.tup vs)) S ∧ Ext (Mu dx S) H (Mu dx S) (upd H p (.tup vs)) ∧ Dt K (Mu dx S) (upd H p (.tup vs)) (.ref p) (.tup ds) :=
  ⟨r.same (same_new n), ext_new n, .tup (r.mu_ne n) (.inl upd_same) (a.ext (ext_new n))⟩
theorem new_lst {K : PySem.W.Frag} {H : Hp} {S : Sto} {p : Addr} {vs : List V} {ds : List D} (r : HR K dx H S) (n : H p = none) (a : DtAll K (Mu dx S) H vs ds) :
    HR K dx (upd H p (.lst vs)) S ∧ Ext (Mu dx S) H (Mu dx S) (upd H p (.lst vs)) ∧ Dt K (Mu dx S) (upd H p (.lst vs)) (.ref p) (.lst ds) :=
  ⟨r.same (same_new n), ext_new n, .lst (r.mu_ne n) upd_same (a.ext (ext_new n))⟩
theorem de_tup {x1} (h : DA X dx es tr fr) : DE X dx (.Tuple es x1 pos) (tTup tr) (dTup fr) := by
  refine ⟨pe_tup h.pe, fun σ H δ S Q Qh r0 s0 t k => ?_⟩
  refine h.go σ H δ S _ _ r0 s0 t fun vs H1 ds S1 r1 x1 d1 t1 => ⟨by rw [d1.length]; exact t1.1.line, fun p n => ?_⟩
  obtain ⟨r2, x2, d2⟩ := new_tup r1 n d1
  exact k _ _ _ S1 r2 (x1.trans x2) d2 t1.2
theorem de_lst (h : DA X dx es tr fr) : DE X dx (.List es pos) (tLst tr) (dLst fr) := by
  refine ⟨pe_lst h.pe, fun σ H δ S Q Qh r0 s0 t k => ?_⟩
  refine h.go σ H δ S _ _ r0 s0 t fun vs H1 ds S1 r1 x1 d1 t1 => ⟨by rw [d1.length]; exact t1.1.line, fun p n => ?_⟩
  obtain ⟨r2, x2, d2⟩ := new_lst r1 n d1
  exact k _ _ _ S1 r2 (x1.trans x2) d2 t1.2
/-- a list that will be changed -/
def dNew (t : DTA) : DTE := fun δ S Q => t δ S fun ds S1 => Fit ds.length ∧ ∀ p, Q (.adr p) ((p, .l ds) :: S1)
theorem de_new (h : DA X dx es tr fr) : DE X dx (.List es pos) (tLst tr) (dNew fr) := by
  refine ⟨pe_lst h.pe, fun σ H δ S Q Qh r0 s0 t k => ?_⟩
  refine h.go σ H δ S _ _ r0 s0 t fun vs H1 ds S1 r1 x1 d1 t1 => ⟨by rw [d1.length]; exact t1.1.line, fun p n => ?_⟩
  exact k _ _ _ _ (r1.grow n d1) (x1.trans (ext_own r1 n)) (.adr p) (t1.2 p)

/-! ### items, slices -/
theorem atI_all {K : PySem.W.Frag} {M : Mm} {H : Hp} {vs : List V} {ds : List D} {i : Int} {d : D} (h : DtAll K M H vs ds) (e : atI ds i = some d) : ∃ v, atI vs i = some v ∧ Dt K M H v d := by
  unfold atI at e ⊢
  rw [h.length]
  cases q : ixN ds.length i with
  | none => rw [q] at e; cases e
  | some j =>
    rw [q] at e
    exact h.get (i := j) e
theorem atI_map {α β : Type} {f : α → β} {xs : List α} {i : Int} {x : α} (e : atI xs i = some x) : atI (xs.map f) i = some (f x) := by
  unfold atI at e ⊢
  rw [List.length_map]
  cases q : ixN xs.length i with
  | none => rw [q] at e; cases e
  | some j =>
    rw [q] at e
    have e : xs[j]? = some x := e
    show (xs.map f)[j]? = some (f x)
    rw [List.getElem?_map, e]
    rfl
def fIx : F2
  | .tup ds, .int i, S, Q => opt (atI ds i) fun d => Q d S
  | .lst ds, .int i, S, Q => opt (atI ds i) fun d => Q d S
  | .fls ns, .int i, S, Q => opt (atI ns i) fun n => Q (.int n) S
  | .adr p, .int i, S, Q => opt (getS S p) fun ds => opt (atI ds i) fun d => Q d S
  | .str z, .int i, S, Q => z.length ≤ sizeLine ∧ opt (atI z.cps.toList i) fun c => Q (.str ⟨#[c]⟩) S
  | _, _, _, _ => False
theorem od_ix {K : PySem.W.Frag} : OpD K dx (rIx K) fIx := by
  intro x y p q H S Q Qh r0 hx hy t k
  cases hy with
  | int i =>
    cases hx with
    | tup n h a =>
      obtain ⟨d, e, t⟩ := opt_run t
      obtain ⟨v, e1, d1⟩ := atI_all a e
      exact .inr (.inl ⟨_, _, i, v, rfl, rfl, .inl h, e1, k _ H _ S r0 Ext.refl d1 t⟩)
    | ktup h a =>
      obtain ⟨d, e, t⟩ := opt_run t
      obtain ⟨v, e1, d1⟩ := atI_all a e
      exact .inr (.inl ⟨_, _, i, v, rfl, rfl, .inr h, e1, k _ H _ S r0 Ext.refl d1 t⟩)
    | lst n h a =>
      obtain ⟨d, e, t⟩ := opt_run t
      obtain ⟨v, e1, d1⟩ := atI_all a e
      exact .inl ⟨_, _, i, v, rfl, rfl, SqL.of h, e1, k _ H _ S r0 Ext.refl d1 t⟩
    | fls n h =>
      obtain ⟨d, e, t⟩ := opt_run t
      exact .inl ⟨_, _, i, _, rfl, rfl, .inl h, atI_map e, k _ H _ S r0 Ext.refl (.int d) t⟩
    | kfls h =>
      obtain ⟨d, e, t⟩ := opt_run t
      exact .inl ⟨_, _, i, _, rfl, rfl, .inr h, atI_map e, k _ H _ S r0 Ext.refl (.int d) t⟩
    | adr p =>
      obtain ⟨ds, g, t⟩ := opt_run t
      obtain ⟨d, e, t⟩ := opt_run t
      obtain ⟨_, vs, eH, al⟩ := r0.get g
      obtain ⟨v, e1, d1⟩ := atI_all al e
      exact .inl ⟨_, _, i, v, rfl, rfl, SqL.of eH, e1, k _ H _ S r0 Ext.refl d1 t⟩
    | str z =>
      obtain ⟨l, t⟩ := t
      obtain ⟨c, e, t⟩ := opt_run t
      exact .inr (.inr ⟨z, i, c, rfl, rfl, l, e, k _ H _ S r0 Ext.refl (.str _) t⟩)
    | _ => exact t.elim
  | _ => cases hx <;> exact t.elim
theorem de_ix (ha : DE X dx a ta fa) (hb : DE X dx b tb fb) (hs : PlainIx b := by exact fun _ _ => rfl) : DE X dx (.Subscript a b pos) (tOp (rIx X.K) ta tb) (dOp fIx fa fb) :=
  ⟨pe_ix ix_seq ha.pe hb.pe hs, op_go od_ix ha hb⟩

/-- the part from lo to hi -/
def cutD {α : Type} (xs : List α) (lo hi : Option Int) : List α := (xs.drop (HT.sIx xs.length 0 lo)).take (HT.sIx xs.length xs.length hi - HT.sIx xs.length 0 lo)
theorem cut_all {K : PySem.W.Frag} {M : Mm} {H : Hp} {vs : List V} {ds : List D} (lo hi : Option Int) (h : DtAll K M H vs ds) : DtAll K M H (cutV vs lo hi) (cutD ds lo hi) := by
  unfold cutV cutD
  rw [h.length]
  exact (h.drop _).take _
theorem cut_map {α β : Type} (f : α → β) (xs : List α) (lo hi : Option Int) : cutD (xs.map f) lo hi = (cutD xs lo hi).map f := by
  unfold cutD
  rw [List.length_map, List.map_take, List.map_drop]
theorem cut_whole {α : Type} {xs : List α} {lo hi : Option Int} (h : HT.sIx xs.length 0 lo = 0 ∧ HT.sIx xs.length xs.length hi = xs.length) : cutD xs lo hi = xs := by
  unfold cutD
  rw [h.1, h.2]
  simp
abbrev DTO := Sl → Sto → (Option Int → Sto → Prop) → Prop
structure DO (X : Cx) (dx : Dx) (e : Option Expr) (te : TO) (t : DTO) : Prop where
  pe : PO X e te
  go : ∀ σ H δ S Q Qh, HR X.K dx H S → SR X.K dx σ H δ S → t δ S Q → (∀ o H' S', HR X.K dx H' S' → Ext (Mu dx S) H (Mu dx S') H' → Q o S' → Qh o H') → te σ H Qh
def dNoPart : DTO := fun _ S Q => Q none S
def isI (Q : Int → Sto → Prop) : D → Sto → Prop
  | .int i, S => Q i S
  | _, _ => False
def dPart (t : DTE) : DTO := fun δ S Q => t δ S (isI fun i S1 => Q (some i) S1)
theorem do_none : DO X dx none tNoPart dNoPart := ⟨po_none, fun σ H δ S Q Qh r s t k => k none H S r Ext.refl t⟩
theorem do_some (h : DE X dx e te fa) : DO X dx (some e) (tPart te) (dPart fa) := by
  refine ⟨po_some h.pe, fun σ H δ S Q Qh r0 s0 t k => ?_⟩
  refine h.go σ H δ S _ _ r0 s0 t fun v H1 d S1 r1 x1 d1 t1 => ?_
  cases d1 with
  | int i => exact ⟨i, rfl, k _ H1 S1 r1 x1 t1⟩
  | _ => exact t1.elim
def fSl : D → Option Int → Option Int → Sto → (D → Sto → Prop) → Prop
  | .tup ds, lo, hi, S, Q => Q (.tup (cutD ds lo hi)) S
  | .lst ds, lo, hi, S, Q => Q (.lst (cutD ds lo hi)) S
  | .fls ns, lo, hi, S, Q => Q (.lst ((cutD ns lo hi).map D.int)) S
  | .adr p, lo, hi, S, Q => opt (getS S p) fun ds => Q (.lst (cutD ds lo hi)) S
  | _, _, _, _, _ => False
def rSl (K : PySem.W.Frag) : V → Option Int → Option Int → Hp → VK → Prop := fun x lo hi H Q => rSlL K x lo hi H Q ∨ rSlA K x lo hi H Q
theorem sl_go {K : PySem.W.Frag} : ∀ x p lo hi H S Q Qh, HR K dx H S → Dt K (Mu dx S) H x p → fSl p lo hi S Q → ThE K dx H S Q Qh → rSl K x lo hi H Qh := by
  intro x p lo hi H S Q Qh r0 h t k
  have tp : ∀ {a : Addr} {xs : List V} {ds : List D}, SqT K H a xs → DtAll K (Mu dx S) H xs ds → Dt K (Mu dx S) H (.ref a) (.tup ds) → Q (.tup (cutD ds lo hi)) S → rSl K (.ref a) lo hi H Qh := by
    intro a xs ds h al d t
    refine .inr ⟨a, xs, rfl, h, fun e => ?_, fun _ p n => ?_⟩
    · rw [al.length] at e
      rw [cut_whole e] at t
      exact k _ H _ S r0 Ext.refl d t
    · obtain ⟨r2, x2, d2⟩ := new_tup r0 n (cut_all lo hi al)
      exact k _ _ _ S r2 x2 d2 t
  have lp : ∀ {a : Addr} {xs : List V} {ds : List D}, SqL K H a xs → DtAll K (Mu dx S) H xs ds → Q (.lst (cutD ds lo hi)) S → rSl K (.ref a) lo hi H Qh := by
    intro a xs ds h al t
    refine .inl ⟨a, xs, rfl, h, fun p n => ?_⟩
    obtain ⟨r2, x2, d2⟩ := new_lst r0 n (cut_all lo hi al)
    exact k _ _ _ S r2 x2 d2 t
  cases h with
  | tup n h al => exact tp (.inl h) al (.tup n h al) t
  | ktup h al => exact tp (.inr h) al (.ktup h al) t
  | lst n h al => exact lp (SqL.of h) al t
  | fls n h => exact lp (.inl h) (DtAll.ints _) (by rw [cut_map]; exact t)
  | kfls h => exact lp (.inr h) (DtAll.ints _) (by rw [cut_map]; exact t)
  | adr p =>
    obtain ⟨ds, g, t⟩ := opt_run t
    obtain ⟨_, vs, eH, al⟩ := r0.get g
    exact lp (SqL.of eH) al t
  | _ => exact t.elim
def dSl (t : DTE) (l h : DTO) : DTE := fun δ S Q => t δ S fun d S1 => l δ S1 fun lo S2 => h δ S2 fun hi S3 => fSl d lo hi S3 Q
theorem de_slice {lo hi : Option Expr} {tl th : TO} {fl fh : DTO} {p2 : Pos} (he : DE X dx e te fa) (hl : DO X dx lo tl fl) (hu : DO X dx hi th fh) : DE X dx (.Subscript e (.Slice lo hi none p2) pos) (tSl (rSl X.K) te tl th) (dSl fa fl fh) := by
  refine ⟨pe_slice (sl_list.or sl_tupA) he.pe hl.pe hu.pe, fun σ H δ S Q Qh r0 s0 t k => ?_⟩
  refine he.go σ H δ S _ _ r0 s0 t fun v H1 d S1 r1 x1 d1 t1 => ?_
  refine hl.go σ H1 δ S1 _ _ r1 (s0.ext x1) t1 fun o H2 S2 r2 x2 t2 => ?_
  refine hu.go σ H2 δ S2 _ _ r2 (s0.ext (x1.trans x2)) t2 fun o' H3 S3 r3 x3 t3 => ?_
  exact sl_go v d o o' H3 S3 Q Qh r3 (d1.ext (x2.trans x3)) t3 (k.on ((x1.trans x2).trans x3))
/-- xs[::-1] of a list -/
def fRev : D → Sto → (D → Sto → Prop) → Prop
  | .lst ds, S, Q => Q (.lst ds.reverse) S
  | .adr p, S, Q => opt (getS S p) fun ds => Q (.lst ds.reverse) S
  | _, _, _ => False
theorem de_rev {k' : Nat} {p1 p2 p3 : Pos} (he : DE X dx e te fa) : DE X dx (.Subscript e (.Slice none none (some (.UnaryOp .USub (.Constant (.int 1) k' p1) p2)) p3) pos) (tRevL X.K te) (dUn fRev fa) := by
  refine ⟨pe_revL he.pe, fun σ H δ S Q Qh r0 s0 t k => ?_⟩
  refine he.go σ H δ S _ _ r0 s0 t fun v H1 d S1 r1 x1 d1 t1 => ?_
  have lp : ∀ {a : Addr} {xs : List V} {ds : List D}, SqL X.K H1 a xs → DtAll X.K (Mu dx S1) H1 xs ds → Q (.lst ds.reverse) S1 →
      ∃ (a' : Addr) (ys : List V), V.ref a = V.ref a' ∧ SqL X.K H1 a' ys ∧ ∀ p, H1 p = none → Qh (.ref p) (upd H1 p (.lst ys.reverse)) := by
    intro a xs ds h al t
    refine ⟨a, xs, rfl, h, fun p n => ?_⟩
    obtain ⟨r2, x2, d2⟩ := new_lst r1 n al.reverse
    exact k _ _ _ S1 r2 (x1.trans x2) d2 t
  cases d1 with
  | lst n h al => exact lp (SqL.of h) al t1
  | adr p =>
    obtain ⟨ds, g, t1⟩ := opt_run t1
    obtain ⟨_, vs, eH, al⟩ := r1.get g
    exact lp (SqL.of eH) al t1
  | _ => exact t1.elim
end
end DL
/-! Readings over data: targets, what is walked, statements, loops, comprehensions. -/
namespace DL
open PySem PySem.Spec L2 Gd

abbrev DTG := D → Sl → (Sl → Prop) → Prop
abbrev DTGs := List D → Sl → (Sl → Prop) → Prop
structure DG (X : Cx) (dx : Dx) (tg : Expr) (g : TG) (t : DTG) (own : List Nat) : Prop where
  pe : PG X tg g
  go : ∀ v d σ H δ S Q Qh, HR X.K dx H S → SR X.K dx σ H δ S → Dt X.K (Mu dx S) H v d → t d δ Q →
    (∀ σ' δ', SR X.K dx σ' H δ' S → σ'.length = σ.length → (∀ j, j ∉ own → σ'[j]? = σ[j]?) → Q δ' → Qh σ' H) → g v σ H Qh
structure DGs (X : Cx) (dx : Dx) (tg : List Expr) (g : TGs) (t : DTGs) (own : List Nat) : Prop where
  pe : PGs X tg g
  go : ∀ vs ds σ H δ S Q Qh, HR X.K dx H S → SR X.K dx σ H δ S → DtAll X.K (Mu dx S) H vs ds → t ds δ Q →
    (∀ σ' δ', SR X.K dx σ' H δ' S → σ'.length = σ.length → (∀ j, j ∉ own → σ'[j]? = σ[j]?) → Q δ' → Qh σ' H) → g vs σ H Qh
section
variable {X : Cx} {dx : Dx} {pos : Pos} {tg e : Expr} {es : List Expr} {te : TE} {fa : DTE}
def dgName (i : Nat) : DTG := fun d δ Q => Q (put δ i d)
theorem dg_name {i : Nat} {x : Str} (hN : X.N.Nodup) (hi : X.N[i]? = some x) (hx : Loc X.env.scope x) (hf : X.fn x = true ∨ X.env.scope.names.lookup x = some .local := by first | exact .inl rfl | exact .inr rfl | assumption) :
    DG X dx (.Name x pos) (gName i) (dgName i) [i] := by
  refine ⟨pg_name hN hi hx hf, fun v d σ H δ S Q Qh r s h t k => ?_⟩
  have t : Q (put δ i d) := t
  rw [put_set] at t
  refine k _ _ (s.set i h) (by rw [List.length_set]) (fun j hj => ?_) t
  rw [List.getElem?_set_ne (fun z => hj (by simp [z]))]
def dgNil : DTGs := fun ds δ Q => match ds with
  | [] => Q δ
  | _ :: _ => False
def dgCons (t : DTG) (u : DTGs) : DTGs := fun ds δ Q => match ds with
  | [] => False
  | d :: r => t d δ fun δ' => u r δ' Q
theorem dgs_nil : DGs X dx [] gNil dgNil [] := by
  refine ⟨pgs_nil, fun vs ds σ H δ S Q Qh r s h t k => ?_⟩
  cases h with
  | nil => exact ⟨rfl, k σ δ s rfl (fun _ _ => rfl) t⟩
  | cons _ _ => exact t.elim
theorem dgs_cons {g : TG} {u : TGs} {f : DTG} {w : DTGs} {o1 o2 : List Nat} (h1 : DG X dx e g f o1) (h2 : DGs X dx es u w o2) (hl : PGs X (e :: es) (gCons g u) := by exact pgs_cons (by assumption) (by assumption)) : DGs X dx (e :: es) (gCons g u) (dgCons f w) (o1 ++ o2) := by
  refine ⟨hl, fun vs ds σ H δ S Q Qh r s h t k => ?_⟩
  cases h with
  | nil => exact t.elim
  | cons a b =>
    refine ⟨_, _, rfl, ?_⟩
    refine h1.go _ _ σ H δ S _ _ r s a t fun σ1 δ1 s1 l1 o1' t1 => ?_
    refine h2.go _ _ σ1 H δ1 S _ _ r s1 b t1 fun σ2 δ2 s2 l2 o2' t2 => ?_
    refine k σ2 δ2 s2 (l2.trans l1) (fun j hj => ?_) t2
    rw [o2' j fun z => hj (List.mem_append_right _ z), o1' j fun z => hj (List.mem_append_left _ z)]
def dgTup (n : Nat) (t : DTGs) : DTG := fun d δ Q => match d with
  | .tup ds => ds.length = n ∧ t ds δ Q
  | _ => False
theorem dg_tup {k : Nat} {g : TGs} {f : DTGs} {n : Nat} {o : List Nat} (h : DGs X dx es g f o) (hp : PG X (.Tuple es k pos) (gTup X.K n g)) : DG X dx (.Tuple es k pos) (gTup X.K n g) (dgTup n f) o := by
  refine ⟨hp, fun v d σ H δ S Q Qh r s hd t kk => ?_⟩
  cases d with
  | tup ds =>
    obtain ⟨a, xs, rfl, hs, al⟩ := hd.sqT
    exact ⟨a, xs, rfl, hs, al.length.trans t.1, h.go _ _ σ H δ S _ _ r s al t.2 kk⟩
  | _ => exact t.elim
end

/-! ### what is walked -/
def Walks (K : PySem.W.Frag) (dx : Dx) (J : It) (xs : List D) (S0 : Sto) (H0 : Hp) : Prop :=
  ∃ G Y, Walk J xs.length G Y ∧ ∀ M H, (∀ b, Mm.mu M b → H b ≠ none) → ExtD (Mu dx S0) H0 M H → G H ∧
    ∀ i x H', i < xs.length → Y i H x H' → Same H H' ∧ ∃ d, xs[i]? = some d ∧ Dt K M H' x d
structure DI (X : Cx) (dx : Dx) (tg iter : Expr) (wi : TI) (t : DTA) : Prop where
  pe : PI X tg iter wi
  go : ∀ σ H δ S Q R, HR X.K dx H S → SR X.K dx σ H δ S → t δ S Q →
    (∀ J H' xs S', HR X.K dx H' S' → Ext (Mu dx S) H (Mu dx S') H' → Walks X.K dx J xs S' H' → Q xs S' → R J H') → wi σ H R
section
variable {X : Cx} {dx : Dx} {pos : Pos} {tg e e2 : Expr} {te : TE} {fa : DTE} {ta : TA} {ga : DTA}
def iSeq (K : PySem.W.Frag) (tl : TE) : TI := fun σ H R => tl σ H fun x H1 => ∃ a, x = .ref a ∧
  ((∃ xs, SqL K H1 a xs ∧ R (Itl K a) H1) ∨ (∃ xs, SqT K H1 a xs ∧ R (Itt K a) H1))
theorem pi_seq (hl : PE X e te) : PI X tg e (iSeq X.K te) := by
  constructor
  intro pins s σ H R I want
  apply thn (hl.run pins s σ H _ I want)
  rintro v s1 ⟨x, H1, I1, r1, a, rfl, alt⟩
  obtain rfl : v = .ref a := r1
  have fresh : FpOk X pins H1 s1.heap.objs.size := I1.fpOk (Nat.le_refl _) (I1.hok.fresh (Nat.le_refl _))
  rcases alt with ⟨xs, sq, q⟩ | ⟨xs, sq, q⟩
  · obtain ⟨its, _, pl, _⟩ := I1.list sq
    apply wpAny_pyIter_list pl.isList
    exact ⟨_, [s1.heap.objs.size], _, _, H1, rfl, I1.kept (fun b o h => Heap.get?_push_of_some _ h), turn_list a _,
      ⟨_, Heap.get?_push_size _ rfl, rfl, rfl⟩, fun b hb => by rw [List.mem_singleton.mp hb]; exact fresh, q⟩
  · obtain ⟨its, _, pt, _⟩ := I1.tuple sq
    apply wpAny_pyIter_tuple (show s1.heap.IsTuple a its.toArray from pt)
    exact ⟨_, [s1.heap.objs.size], _, _, H1, rfl, I1.kept (fun b o h => Heap.get?_push_of_some _ h), turn_tuple a _,
      ⟨_, Heap.get?_push_size _ rfl, rfl, rfl⟩, fun b hb => by rw [List.mem_singleton.mp hb]; exact fresh, q⟩
theorem walks_lst {K : PySem.W.Frag} {S : Sto} {H : Hp} {a : Addr} {vs : List V} {ds : List D} (al : DtAll K (Mu dx S) H vs ds)
    (st : ∀ M H', ExtD (Mu dx S) H M H' → SqL K H' a vs) : Walks K dx (Itl K a) ds S H := by
  refine ⟨_, _, al.length ▸ walk_list (K := K) (a := a) (xs := vs), fun S1 H1 r1 x1 => ⟨st _ _ x1, fun i x H2 hi y => ?_⟩⟩
  obtain ⟨rfl, y⟩ := y
  obtain ⟨d, e1, d1⟩ := (al.extD x1).getV y
  exact ⟨Same.refl _, d, e1, d1⟩
theorem walks_tup {K : PySem.W.Frag} {S : Sto} {H : Hp} {a : Addr} {vs : List V} {ds : List D} (al : DtAll K (Mu dx S) H vs ds)
    (st : ∀ M H', ExtD (Mu dx S) H M H' → SqT K H' a vs) : Walks K dx (Itt K a) ds S H := by
  refine ⟨_, _, al.length ▸ walk_tup (K := K) (a := a) (xs := vs), fun S1 H1 r1 x1 => ⟨st _ _ x1, fun i x H2 hi y => ?_⟩⟩
  obtain ⟨rfl, y⟩ := y
  obtain ⟨d, e1, d1⟩ := (al.extD x1).getV y
  exact ⟨Same.refl _, d, e1, d1⟩
/-- the items of a list or a tuple -/
def items (Q : List D → Sto → Prop) : D → Sto → Prop
  | .tup ds, S => Q ds S
  | .lst ds, S => Q ds S
  | .fls ns, S => Q (ns.map D.int) S
  | _, _ => False
def dSeq (t : DTE) : DTA := fun δ S Q => t δ S (items Q)
theorem di_seq (h : DE X dx e te fa) : DI X dx tg e (iSeq X.K te) (dSeq fa) := by
  refine ⟨pi_seq h.pe, fun σ H δ S Q R r0 s0 t k => ?_⟩
  refine h.go σ H δ S _ _ r0 s0 t fun v H1 d S1 r1 x1 d1 t1 => ?_
  cases d1 with
  | tup n hr al => exact ⟨_, rfl, .inr ⟨_, .inl hr, k _ H1 _ S1 r1 x1 (walks_tup al fun S' H' x => .inl (x.rd n hr)) t1⟩⟩
  | ktup hr al => exact ⟨_, rfl, .inr ⟨_, .inr hr, k _ H1 _ S1 r1 x1 (walks_tup al fun S' H' x => .inr hr) t1⟩⟩
  | lst n hr al => exact ⟨_, rfl, .inl ⟨_, SqL.of hr, k _ H1 _ S1 r1 x1 (walks_lst al fun S' H' x => SqL.of (x.keep _ _ n hr)) t1⟩⟩
  | fls n hr => exact ⟨_, rfl, .inl ⟨_, .inl hr, k _ H1 _ S1 r1 x1 (walks_lst (DtAll.ints _) fun S' H' x => .inl (x.rd n hr)) t1⟩⟩
  | kfls hr => exact ⟨_, rfl, .inl ⟨_, .inr hr, k _ H1 _ S1 r1 x1 (walks_lst (DtAll.ints _) fun S' H' x => .inr hr) t1⟩⟩
  | _ => exact t1.elim
/-- lo, lo + c, .., n of them -/
def rngD (lo c : Int) (n : Nat) : List D := (List.range n).map fun (i : Nat) => D.int (lo + (i : Int) * c)
theorem rngD_len {lo c : Int} {n : Nat} : (rngD lo c n).length = n := by
  unfold rngD
  rw [List.length_map, List.length_range]
theorem rngD_at {lo c : Int} {n i : Nat} (h : i < n) : (rngD lo c n)[i]? = some (.int (lo + (i : Int) * c)) := by
  unfold rngD
  rw [List.getElem?_map, List.getElem?_range h]
  rfl
theorem walks_rng {K : PySem.W.Frag} {S : Sto} {H : Hp} {lo : Int} {n : Nat} : Walks K dx (Itr lo n) (rngD lo 1 n) S H := by
  have w := walk_range (lo := lo) (n := n)
  refine ⟨_, _, by rw [rngD_len]; exact w, fun S1 H1 r1 x1 => ⟨trivial, fun i x H2 hi y => ?_⟩⟩
  obtain ⟨rfl, rfl⟩ := y
  rw [rngD_len] at hi
  exact ⟨Same.refl _, _, rngD_at hi, by rw [Int.mul_one]; exact .int _⟩
theorem walks_rngC {K : PySem.W.Frag} {S : Sto} {H : Hp} {lo c : Int} {n : Nat} : Walks K dx (Itc lo c n) (rngD lo c n) S H := by
  have w := walk_rangeC (lo := lo) (c := c) (n := n)
  refine ⟨_, _, by rw [rngD_len]; exact w, fun S1 H1 r1 x1 => ⟨trivial, fun i x H2 hi y => ?_⟩⟩
  obtain ⟨rfl, rfl⟩ := y
  rw [rngD_len] at hi
  exact ⟨Same.refl _, _, rngD_at hi, .int _⟩
/-- small enough for a range -/
def Rg (i : Int) : Prop := -(2 ^ 62) ≤ i ∧ i < 2 ^ 62
def fRng1 (Q : List D → Sto → Prop) : List D → Sto → Prop
  | [.int j], S => Rg j ∧ Q (rngD 0 1 j.toNat) S
  | _, _ => False
def dRng1 (t : DTA) : DTA := fun δ S Q => t δ S (fRng1 Q)
theorem di_range1 {a : Expr} {p : Pos} (hg : Gl X "range") (hm : X.mg "range" = none) (ha : DA X dx [a] ta ga) (hs : starEach [a] X.env = [(false, eval a X.env)] := by rfl) :
    DI X dx tg (.Call (.Name "range" p) [a] [] pos) (iRng1 ta) (dRng1 ga) := by
  refine ⟨pi_range1 hg hm ha.pe hs, fun σ H δ S Q R r0 s0 t k => ?_⟩
  refine ha.go σ H δ S _ _ r0 s0 t fun vs H1 ds S1 r1 x1 d1 t1 => ?_
  cases d1 with
  | nil => exact t1.elim
  | cons h1 h2 =>
    cases h1 with
    | int j =>
      cases h2 with
      | nil => exact ⟨j, rfl, t1.1.1, t1.1.2, k _ H1 _ S1 r1 x1 walks_rng t1.2⟩
      | cons _ _ => exact t1.elim
    | _ => exact t1.elim
def fRng2 (Q : List D → Sto → Prop) : List D → Sto → Prop
  | [.int i, .int j], S => Rg i ∧ Rg j ∧ Q (rngD i 1 (j - i).toNat) S
  | _, _ => False
def dRng2 (t : DTA) : DTA := fun δ S Q => t δ S (fRng2 Q)
theorem di_range2 {a b : Expr} {p : Pos} (hg : Gl X "range") (hm : X.mg "range" = none) (ha : DA X dx [a, b] ta ga) (hs : starEach [a, b] X.env = [(false, eval a X.env), (false, eval b X.env)] := by rfl) (hs2 : starEach [b] X.env = [(false, eval b X.env)] := by rfl) :
    DI X dx tg (.Call (.Name "range" p) [a, b] [] pos) (iRng2 ta) (dRng2 ga) := by
  refine ⟨pi_range2 hg hm ha.pe hs hs2, fun σ H δ S Q R r0 s0 t k => ?_⟩
  refine ha.go σ H δ S _ _ r0 s0 t fun vs H1 ds S1 r1 x1 d1 t1 => ?_
  cases d1 with
  | nil => exact t1.elim
  | cons h1 h2 =>
    cases h1 with
    | int i =>
      cases h2 with
      | nil => exact t1.elim
      | cons h3 h4 =>
        cases h3 with
        | int j =>
          cases h4 with
          | nil => exact ⟨i, j, rfl, ⟨t1.1.1, t1.1.2, t1.2.1.1, t1.2.1.2⟩, k _ H1 _ S1 r1 x1 walks_rng t1.2.2⟩
          | cons _ _ => exact t1.elim
        | _ => exact t1.elim
    | _ => exact t1.elim
/-- range(i, j, -1) -/
def fRng3 (Q : List D → Sto → Prop) : List D → Sto → Prop
  | [.int i, .int j, .int c], S => c = -1 ∧ Rg i ∧ Rg j ∧ Q (rngD i (-1) (i - j).toNat) S
  | _, _ => False
def dRng3 (t : DTA) : DTA := fun δ S Q => t δ S (fRng3 Q)
theorem di_range3 {a b c : Expr} {p : Pos} (h : PI X tg (.Call (.Name "range" p) [a, b, c] [] pos) (iRng3 ta)) (ha : DA X dx [a, b, c] ta ga) :
    DI X dx tg (.Call (.Name "range" p) [a, b, c] [] pos) (iRng3 ta) (dRng3 ga) := by
  refine ⟨h, fun σ H δ S Q R r0 s0 t k => ?_⟩
  refine ha.go σ H δ S _ _ r0 s0 t fun vs H1 ds S1 r1 x1 d1 t1 => ?_
  match vs, ds, d1, t1 with
  | _, [.int i, .int j, .int c], .cons (.int _) (.cons (.int _) (.cons (.int _) .nil)), t1 =>
    obtain ⟨rfl, h1, h2, t2⟩ := t1
    exact ⟨i, j, -1, _, rfl, RgC.neg h1.1 h1.2 h2.1 h2.2, k _ H1 _ S1 r1 x1 walks_rngC t2⟩
end
end DL
/-! Readings over data: statements, loops, comprehensions, calls, a def by its body. -/
namespace DL
open PySem PySem.Spec L2 Gd

section
variable {X : Cx} {dx : Dx} {pos : Pos} {tg e : Expr} {es : List Expr} {te : TE} {fa : DTE} {st : Stmt} {sts : List Stmt} {ts us : TS} {t u : DTS} {uc : TT} {gc : DTT}

/-! ### statements -/
def dNext : DTS := fun DD δ S => DD.nx δ S
def dSeqS (t u : DTS) : DTS := fun DD δ S => t { DD with nx := u DD } δ S
theorem dss_nil : DSs X dx [] tNext dNext := ⟨pss_nil, fun σ H δ S DD E r s h k => k.nx σ H δ S r Ext.refl s h⟩
theorem dss_one (h : DS X dx st ts t) : DSs X dx [st] ts t := ⟨pss_one h.pe, h.go⟩
theorem dss_cons (h : DS X dx st ts t) (h2 : DSs X dx sts us u) : DSs X dx (st :: sts) (tSeq ts us) (dSeqS t u) := by
  refine ⟨pss_cons h.pe h2.pe, fun σ H δ S DD E r s q k => ?_⟩
  refine h.go σ H δ S { DD with nx := u DD } _ r s q ⟨fun σ1 H1 δ1 S1 r1 x1 s1 q1 => ?_, k.bk, k.ct, k.rt⟩
  exact h2.go σ1 H1 δ1 S1 DD E r1 s1 q1 (k.on x1)
/-- the list in slot i is not changed any more -/
def dFrz (i : Nat) (t : DTS) : DTS := fun DD δ S => match gt δ i with
  | some (.adr p) => opt (getS S p) fun ds => t DD (put δ i (.lst ds)) (delS S p)
  | _ => t DD δ S
theorem dss_frz (i : Nat) (h : DSs X dx sts ts t) : DSs X dx sts ts (dFrz i t) := by
  refine ⟨h.pe, fun σ H δ S DD E r s q k => ?_⟩
  unfold dFrz at q
  split at q
  · rename_i p g
    obtain ⟨ds, eg, q⟩ := opt_run q
    obtain ⟨v, e1, d1⟩ := s.ix i _ (gt_ix g)
    cases d1
    rw [put_set] at q
    have r2 := r.del p
    have s2 := (s.ext (ext_del (p := p))).set i (r.frozen eg)
    have e2 : σ.set i (some (.ref p)) = σ := by
      apply List.ext_getElem?
      intro j
      by_cases hj : i = j
      · subst hj
        rw [List.getElem?_set_self (List.getElem?_eq_some_iff.mp e1).1, e1]
      · rw [List.getElem?_set_ne hj]
    rw [e2] at s2
    exact h.go σ H _ _ DD E r2 s2 q (k.on ext_del)
  · exact h.go σ H δ S DD E r s q k
theorem ds_pass : DS X dx (.Pass pos) tNext dNext := ⟨ps_pass, fun σ H δ S DD E r s h k => k.nx σ H δ S r Ext.refl s h⟩
def dBreak : DTS := fun DD δ S => DD.bk δ S
def dCont : DTS := fun DD δ S => DD.ct δ S
theorem ds_break : DS X dx (.Break pos) tBreak dBreak := ⟨ps_break, fun σ H δ S DD E r s h k => k.bk σ H δ S r Ext.refl s h⟩
theorem ds_continue : DS X dx (.Continue pos) tCont dCont := ⟨ps_continue, fun σ H δ S DD E r s h k => k.ct σ H δ S r Ext.refl s h⟩
def dDrop (f : DTE) : DTS := fun DD δ S => f δ S fun _ S1 => DD.nx δ S1
theorem ds_expr (h : DE X dx e te fa) (hs : swapsWith e none pos.line X.env = pure false := by rfl) : DS X dx (.Expr e pos) (tDrop te) (dDrop fa) :=
  ⟨ps_expr h.pe hs, fun σ H δ S DD E r s q k => h.go σ H δ S _ _ r s q fun v H1 d S1 r1 x1 d1 t1 => k.nx σ H1 δ S1 r1 x1 (s.ext x1) t1⟩
/-- what is handed back: a list of one's own is not changed any more -/
def frzO (p : Addr) : Option (List D) → D
  | some ds => .lst ds
  | none => .adr p
def frz (S : Sto) : D → D
  | .adr p => frzO p (getS S p)
  | d => d
theorem frz_ok {K : PySem.W.Frag} {H : Hp} {S : Sto} {v : V} {d : D} (r : HR K dx H S) (h : Dt K (Mu dx S) H v d) : Dt K (Fo dx.M0) H v (frz S d) := by
  have le : Ext (Mu dx S) H (Fo dx.M0) H := Ext.less (fun b m => m.elim .inl False.elim) (fun b m => m.elim)
  cases h with
  | adr p =>
    show Dt K (Fo dx.M0) H (.ref p) (frzO p (getS S p))
    cases g : getS S p with
    | none => exact .adr p
    | some ds =>
      obtain ⟨m, vs, e, al⟩ := r.get g
      exact .lst (fun z => z.elim (r.own_not m) False.elim) e (al.ext le)
  | non => exact .non
  | bl k => exact .bl k
  | int i => exact .int i
  | str x => exact .str x
  | tup n h a => exact Dt.ext le (.tup n h a)
  | ktup h a => exact Dt.ext le (.ktup h a)
  | lst n h a => exact Dt.ext le (.lst n h a)
  | fls n h => exact Dt.ext le (.fls n h)
  | kfls h => exact Dt.ext le (.kfls h)
  | dic n h k a => exact Dt.ext le (.dic n h k a)
  | dlt n h k a => exact Dt.ext le (.dlt n h k a)
  | obj n h c k a => exact Dt.ext le (.obj n h c k a)
  | ztup n h a => exact Dt.ext le (.ztup n h a)
def dRet (f : DTE) : DTS := fun DD δ S => f δ S fun d S1 => DD.rt (frz S1 d) S1
theorem ds_ret (h : DE X dx e te fa) : DS X dx (.Return (some e) pos) (tRet te) (dRet fa) :=
  ⟨ps_ret h.pe, fun σ H δ S DD E r s q k => h.go σ H δ S _ _ r s q fun v H1 d S1 r1 x1 d1 t1 => k.rt v H1 _ S1 r1 x1 (frz_ok r1 d1) t1⟩
def dRetN : DTS := fun DD _ S => DD.rt .non S
theorem ds_retN : DS X dx (.Return none pos) tRetN dRetN := ⟨ps_retN, fun σ H δ S DD E r s q k => k.rt .non H .non S r Ext.refl .non q⟩
def dIfS (c : DTT) (t u : DTS) : DTS := fun DD δ S => c δ S fun b S1 => if b = true then t DD δ S1 else u DD δ S1
theorem ds_if {c : Expr} {p q : List Stmt} (hc : DT X dx c uc gc) (ha : DSs X dx p ts t) (hb : DSs X dx q us u) : DS X dx (.If c p q pos) (tIfS uc ts us) (dIfS gc t u) := by
  refine ⟨ps_if hc.pe ha.pe hb.pe, fun σ H δ S DD E r s w k => ?_⟩
  refine hc.go σ H δ S _ _ r s w fun b H1 S1 r1 x1 w1 => ?_
  cases b with
  | true =>
    rw [if_pos rfl] at w1 ⊢
    exact ha.go σ H1 δ S1 DD E r1 (s.ext x1) w1 (k.on x1)
  | false =>
    rw [if_neg Bool.false_ne_true] at w1 ⊢
    exact hb.go σ H1 δ S1 DD E r1 (s.ext x1) w1 (k.on x1)
def dAsg (f : DTE) (g : DTG) : DTS := fun DD δ S => f δ S fun d S1 => g d δ fun δ1 => DD.nx δ1 S1
theorem asg_go {g : TG} {f : DTG} {o : List Nat} (h : DE X dx e te fa) (hg : DG X dx tg g f o) :
    ∀ σ H δ S DD E, HR X.K dx H S → SR X.K dx σ H δ S → dAsg fa f DD δ S → ThS X.K dx H S DD E → tAsg te g E σ H := by
  intro σ H δ S DD E r s q k
  refine h.go σ H δ S _ _ r s q fun v H1 d S1 r1 x1 d1 t1 => ?_
  exact hg.go v d σ H1 δ S1 _ _ r1 (s.ext x1) d1 t1 fun σ2 δ2 s2 _ _ t2 => k.nx σ2 H1 δ2 S1 r1 x1 s2 t2
theorem ds_asg {g : TG} {f : DTG} {o : List Nat} (h : DE X dx e te fa) (hg : DG X dx tg g f o) (hp : PS X st (tAsg te g)) : DS X dx st (tAsg te g) (dAsg fa f) :=
  ⟨hp, asg_go h hg⟩
def dSet (i : Nat) (f : DTE) : DTS := fun DD δ S => f δ S fun d S1 => DD.nx (put δ i d) S1
theorem set_go {i : Nat} (h : ∀ σ H δ S Q Qh, HR X.K dx H S → SR X.K dx σ H δ S → fa δ S Q → ThE X.K dx H S Q Qh → te σ H Qh) :
    ∀ σ H δ S DD E, HR X.K dx H S → SR X.K dx σ H δ S → dSet i fa DD δ S → ThS X.K dx H S DD E → tAsg te (gName i) E σ H := by
  intro σ H δ S DD E r s q k
  refine h σ H δ S _ _ r s q fun v H1 d S1 r1 x1 d1 t1 => ?_
  have t1 : DD.nx (put δ i d) S1 := t1
  rw [put_set] at t1
  exact k.nx _ H1 _ S1 r1 x1 ((s.ext x1).set i d1) t1
theorem ds_set {i : Nat} {x : Str} {pos' : Pos} (hN : X.N.Nodup) (hi : X.N[i]? = some x) (hx : Loc X.env.scope x) (h : DE X dx e te fa) (hs : swapsWith e (some (.Name x pos')) pos.line X.env = pure false := by rfl)
    (hf : X.fn x = true ∨ X.env.scope.names.lookup x = some .local := by first | exact .inl rfl | exact .inr rfl | assumption) : DS X dx (.Assign [.Name x pos'] e pos) (tAsg te (gName i)) (dSet i fa) :=
  ⟨ps_set hN hi hx h.pe hs hf, set_go h.go⟩
/-- a, b = e1, e2 -/
def dPar (is : List Nat) (f : DTA) : DTS := fun DD δ S => f δ S fun ds S1 => ds.length = is.length ∧ DD.nx ((is.zip ds).foldl (fun δ p => put δ p.1 p.2) δ) S1
theorem ds_par {i j : Nat} {ta : TA} {fa : DTA} (h : DA X dx es ta fa) (hp : PS X st (tPar i j ta)) : DS X dx st (tPar i j ta) (dPar [i, j] fa) := by
  refine ⟨hp, fun σ H δ S DD E r s q k => ?_⟩
  refine h.go σ H δ S _ _ r s q fun vs H1 ds S1 r1 x1 d1 t1 => ?_
  match vs, ds, d1, t1 with
  | [v, w], [d, c], .cons h1 (.cons h2 .nil), t1 =>
    refine ⟨v, w, rfl, ?_⟩
    have t2 : DD.nx (put (put δ i d) j c) S1 := t1.2
    rw [put_set, put_set] at t2
    exact k.nx _ H1 _ S1 r1 x1 (((s.ext x1).set i h1).set j h2) t2
  | [], [], _, t1 => exact absurd t1.1 (by simp)
  | [_], [_], _, t1 => exact absurd t1.1 (by simp)
  | _ :: _ :: _ :: _, _ :: _ :: _ :: _, _, t1 => exact absurd t1.1 (by simp)
theorem ds_par3 {i j l : Nat} {ta : TA} {fa : DTA} (h : DA X dx es ta fa) (hp : PS X st (tPar3 i j l ta)) : DS X dx st (tPar3 i j l ta) (dPar [i, j, l] fa) := by
  refine ⟨hp, fun σ H δ S DD E r s q k => ?_⟩
  refine h.go σ H δ S _ _ r s q fun vs H1 ds S1 r1 x1 d1 t1 => ?_
  match vs, ds, d1, t1 with
  | [v, w, z], [d, c, b], .cons h1 (.cons h2 (.cons h3 .nil)), t1 =>
    refine ⟨v, w, z, rfl, ?_⟩
    have t2 : DD.nx (put (put (put δ i d) j c) l b) S1 := t1.2
    rw [put_set, put_set, put_set] at t2
    exact k.nx _ H1 _ S1 r1 x1 ((((s.ext x1).set i h1).set j h2).set l h3) t2
  | [], [], _, t1 => exact absurd t1.1 (by simp)
  | [_], [_], _, t1 => exact absurd t1.1 (by simp)
  | [_, _], [_, _], _, t1 => exact absurd t1.1 (by simp)
  | _ :: _ :: _ :: _ :: _, _ :: _ :: _ :: _ :: _, _, t1 => exact absurd t1.1 (by simp)
/-- x op= e of a name -/
def dAug (i : Nat) (f : F2) (fa : DTE) : DTS := fun DD δ S => match gt δ i with
  | some p => fa δ S fun q S1 => f p q S1 fun d S2 => DD.nx (put δ i d) S2
  | none => False
theorem ds_aug {i : Nat} {ti : TIp} {f : F2} (hp : PS X st (tAug i te ti)) (h : DE X dx e te fa) (o : OpD X.K dx ti f) : DS X dx st (tAug i te ti) (dAug i f fa) := by
  refine ⟨hp, fun σ H δ S DD E r s q k => ?_⟩
  unfold dAug at q
  cases g : gt δ i with
  | none => rw [g] at q; exact q.elim
  | some p =>
    rw [g] at q
    obtain ⟨x, e1, dp⟩ := s.ix i p (gt_ix g)
    refine ⟨x, e1, ?_⟩
    refine h.go σ H δ S _ _ r s q fun y H1 d S1 r1 x1 d1 t1 => ?_
    refine o x y p d H1 S1 _ _ r1 (dp.ext x1) d1 t1 fun z H2 c S2 r2 x2 d2 t2 => ?_
    have t2 : DD.nx (put δ i c) S2 := t2
    rw [put_set] at t2
    exact k.nx _ H2 _ S2 r2 (x1.trans x2) ((s.ext (x1.trans x2)).set i d2) t2

/-! ### loops -/
def forGo (g : DTG) (tb : DTS) (DD : DEnds) : List D → Sl → Sto → Prop
  | [], δ, S => DD.nx δ S
  | x :: xs, δ, S => g x δ fun δ1 => tb { DD with nx := forGo g tb DD xs, ct := forGo g tb DD xs, bk := DD.nx } δ1 S
def dFor (ti : DTA) (g : DTG) (tb : DTS) : DTS := fun DD δ S => ti δ S fun xs S1 => forGo g tb DD xs δ S1
theorem ds_for {iter : Expr} {wi : TI} {fi : DTA} {g : TG} {f : DTG} {o : List Nat} (hp : PassesOwn (model X.prog X.w) X.A X.env X.xe) (hc : X.calm = true) (hi : DI X dx tg iter wi fi) (hg : DG X dx tg g f o) (hb : DSs X dx sts ts t)
    (hs : ∀ x, foldedSetIterable iter X.env x = pure x := by intro _; rfl) : DS X dx (.For tg iter sts [] pos) (tFor wi g ts) (dFor fi f t) := by
  refine ⟨ps_for hp hc hi.pe hg.pe hb.pe hs, fun σ H δ S DD E r s q k => ?_⟩
  refine hi.go σ H δ S _ _ r s q fun J H0 xs S0 r0 x0 wk q0 => ?_
  obtain ⟨G, Y, wl, all⟩ := wk
  refine for_it wl (fun i σ' H' => ∃ δ' S', HR X.K dx H' S' ∧ SR X.K dx σ' H' δ' S' ∧ Ext (Mu dx S0) H0 (Mu dx S') H' ∧ forGo f t DD (xs.drop i) δ' S')
    ⟨δ, S0, r0, s.ext x0, Ext.refl, q0⟩ ?_ ?_ ?_
  · rintro i σ' H' _ ⟨δ', S', r', s', x', _⟩
    exact (all _ H' r'.mu_live x'.d).1
  · rintro i v σ' H1 H2 hi ⟨δ', S', r', s', x', q'⟩ y
    obtain ⟨sm, d, ed, dd⟩ := (all _ H1 r'.mu_live x'.d).2 i v H2 hi y
    have e1 : xs.drop i = d :: xs.drop (i + 1) := by
      rw [List.drop_eq_getElem_cons hi]
      have := List.getElem?_eq_getElem hi
      rw [this] at ed
      cases ed
      rfl
    rw [e1] at q'
    have xs2 : Ext (Mu dx S') H1 (Mu dx S') H2 := Ext.same sm
    refine hg.go v d σ' H2 δ' S' _ _ (r'.same sm) (s'.ext xs2) dd q' fun σ3 δ3 s3 _ _ q3 => ?_
    refine hb.go σ3 H2 δ3 S' _ _ (r'.same sm) s3 q3 ⟨?_, ?_, ?_, ?_⟩
    · intro σ4 H4 δ4 S4 r4 x4 s4 q4
      exact ⟨δ4, S4, r4, s4, (x'.trans xs2).trans x4, q4⟩
    · intro σ4 H4 δ4 S4 r4 x4 s4 q4
      exact k.nx σ4 H4 δ4 S4 r4 (((x0.trans x').trans xs2).trans x4) s4 q4
    · intro σ4 H4 δ4 S4 r4 x4 s4 q4
      exact ⟨δ4, S4, r4, s4, (x'.trans xs2).trans x4, q4⟩
    · intro v4 H4 d4 S4 r4 x4 h4 q4
      exact k.rt v4 H4 d4 S4 r4 (((x0.trans x').trans xs2).trans x4) h4 q4
  · rintro σ' H' ⟨δ', S', r', s', x', q'⟩
    rw [List.drop_length] at q'
    exact k.nx σ' H' δ' S' r' (x0.trans x') s' q'
def dWhile (c : DTT) (tb : DTS) : DTS := fun DD δ S => ∃ W : Nat → Sl → Sto → Prop, (∃ m, W m δ S) ∧ ∀ m δ S, W m δ S →
  c δ S fun b S1 => if b = true then tb { DD with nx := fun δ' S' => ∃ m', m' < m ∧ W m' δ' S', ct := fun δ' S' => ∃ m', m' < m ∧ W m' δ' S', bk := DD.nx } δ S1 else DD.nx δ S1
theorem ds_while {c : Expr} (hp : PassesOwn (model X.prog X.w) X.A X.env X.xe) (hc : DT X dx c uc gc) (hb : DSs X dx sts ts t) : DS X dx (.While c sts [] pos) (tWhile uc ts) (dWhile gc t) := by
  refine ⟨ps_while hp hc.pe hb.pe, fun σ H δ S DD E r s q k => ?_⟩
  obtain ⟨W, ⟨m0, w0⟩, turn⟩ := q
  refine ⟨fun m σ' H' => ∃ δ' S', HR X.K dx H' S' ∧ SR X.K dx σ' H' δ' S' ∧ Ext (Mu dx S) H (Mu dx S') H' ∧ W m δ' S', ⟨m0, δ, S, r, s, Ext.refl, w0⟩, ?_⟩
  rintro m σ' H' ⟨δ', S', r', s', x', w'⟩
  refine hc.go σ' H' δ' S' _ _ r' s' (turn m δ' S' w') fun b H1 S1 r1 x1 q1 => ?_
  cases b with
  | false =>
    rw [if_neg Bool.false_ne_true] at q1
    exact k.nx σ' H1 δ' S1 r1 (x'.trans x1) (s'.ext x1) q1
  | true =>
    rw [if_pos rfl] at q1
    refine ⟨fun σ2 H2 => ∃ m' δ2 S2, m' < m ∧ HR X.K dx H2 S2 ∧ SR X.K dx σ2 H2 δ2 S2 ∧ Ext (Mu dx S) H (Mu dx S2) H2 ∧ W m' δ2 S2, ?_, ?_⟩
    · rintro σ2 H2 ⟨m', δ2, S2, lt, a, b, c, d⟩
      exact ⟨m', lt, δ2, S2, a, b, c, d⟩
    · refine hb.go σ' H1 δ' S1 _ _ r1 (s'.ext x1) q1 ⟨?_, ?_, ?_, ?_⟩
      · rintro σ4 H4 δ4 S4 r4 x4 s4 ⟨m', lt, w4⟩
        exact ⟨m', δ4, S4, lt, r4, s4, (x'.trans x1).trans x4, w4⟩
      · intro σ4 H4 δ4 S4 r4 x4 s4 q4
        exact k.nx σ4 H4 δ4 S4 r4 ((x'.trans x1).trans x4) s4 q4
      · rintro σ4 H4 δ4 S4 r4 x4 s4 ⟨m', lt, w4⟩
        exact ⟨m', δ4, S4, lt, r4, s4, (x'.trans x1).trans x4, w4⟩
      · intro v4 H4 d4 S4 r4 x4 h4 q4
        exact k.rt v4 H4 d4 S4 r4 ((x'.trans x1).trans x4) h4 q4
end
end DL
/-! Readings over data: comprehensions, calls, a def by its body. -/
namespace DL
open PySem PySem.Spec L2 Gd

/-! ### slots forgotten -/
def clr : Sl → Nat → Sl
  | [], _ => []
  | _ :: r, 0 => none :: r
  | a :: r, n + 1 => a :: clr r n
theorem clr_set : ∀ {δ : Sl} {i : Nat}, clr δ i = δ.set i none
  | [], _ => rfl
  | _ :: _, 0 => rfl
  | a :: r, n + 1 => by
    show a :: clr r n = a :: r.set n none
    rw [clr_set]
def wipeD (δ : Sl) : List Nat → Sl
  | [] => δ
  | v :: vs => clr (wipeD δ vs) v
theorem wipeD_length (δ : Sl) : ∀ vs : List Nat, (wipeD δ vs).length = δ.length
  | [] => rfl
  | v :: vs => by
    unfold wipeD
    rw [clr_set, List.length_set, wipeD_length δ vs]
theorem wipeD_some {δ : Sl} {i : Nat} {d : D} : ∀ {vs : List Nat}, (wipeD δ vs)[i]? = some (some d) → δ[i]? = some (some d) ∧ i ∉ vs
  | [], h => ⟨h, by simp⟩
  | v :: vs, h => by
    unfold wipeD at h
    rw [clr_set] at h
    by_cases hi : v = i
    · subst hi
      by_cases hv : v < (wipeD δ vs).length
      · rw [List.getElem?_set_self hv] at h
        cases h
      · rw [List.getElem?_eq_none (by simpa using hv)] at h
        cases h
    · rw [List.getElem?_set_ne hi] at h
      obtain ⟨a, b⟩ := wipeD_some h
      exact ⟨a, by simp only [List.mem_cons, not_or]; exact ⟨fun e => hi e.symm, b⟩⟩
theorem wipe_in {σ : L2.St} {i : Nat} : ∀ {vs : List Nat}, i ∈ vs → (wipe σ vs)[i]? = if i < σ.length then some none else none
  | v :: vs, h => by
    unfold wipe
    by_cases hi : v = i
    · subst hi
      by_cases hv : v < σ.length
      · rw [List.getElem?_set_self (by rw [wipe_length]; exact hv), if_pos hv]
      · rw [if_neg hv, List.getElem?_eq_none (by rw [List.length_set, wipe_length]; omega)]
    · rw [List.getElem?_set_ne hi]
      exact wipe_in ((List.mem_cons.mp h).resolve_left fun e => hi e.symm)
theorem wipe_wipe {σ σ2 : L2.St} {vs o : List Nat} (l : σ2.length = (wipe σ vs).length) (sub : ∀ j ∈ o, j ∈ vs) (same : ∀ j, j ∉ o → σ2[j]? = (wipe σ vs)[j]?) : wipe σ2 vs = wipe σ vs := by
  apply List.ext_getElem?
  intro j
  by_cases h : j ∈ vs
  · rw [wipe_in h, wipe_in h, l, wipe_length]
  · rw [wipe_out h, same j fun z => h (sub j z)]
theorem SR.wipe {K : PySem.W.Frag} {dx : Dx} {σ : L2.St} {H : Hp} {δ : Sl} {S : Sto} (s : SR K dx σ H δ S) (vs : List Nat) : SR K dx (L2.wipe σ vs) H (wipeD δ vs) S := by
  refine ⟨by rw [wipeD_length, wipe_length]; exact s.len, fun i d h => ?_⟩
  obtain ⟨h1, h2⟩ := wipeD_some h
  obtain ⟨v, e1, e2⟩ := s.ix i d h1
  exact ⟨v, by rw [wipe_out h2]; exact e1, e2⟩

/-- a frame in which p may change elsewhere, too -/
def Dx.and (dx : Dx) (p : Addr) : Dx := { dx with M0 := fun b => dx.M0 b ∨ b = p }
section
variable {K : PySem.W.Frag} {dx : Dx} {H H' : Hp} {S S' : Sto} {σ : L2.St} {δ : Sl} {p : Addr}
theorem mu_and {b : Addr} : (Mu (dx.and p) S).mu b ↔ (Mu dx S).mu b ∨ b = p := by
  constructor
  · rintro ((h | h) | h)
    · exact .inl (.inl h)
    · exact .inr h
    · exact .inl (.inr h)
  · rintro ((h | h) | h)
    · exact .inl (.inl h)
    · exact .inr h
    · exact .inl (.inr h)
theorem ext_and {o : HO} (n : H p = none) : Ext (Mu dx S) H (Mu (dx.and p) S) (upd H p o) := by
  refine ⟨fun b u _ e => by rw [upd_ne (ne_of_none e n)]; exact e, fun b m z => ?_, fun b m z => absurd m z⟩
  rcases mu_and.mp m with m | m
  · exact absurd m z
  · rw [m]; exact n
theorem ext_back : Ext (Mu (dx.and p) S) H (Mu dx S) H := Ext.less (fun b m => mu_and.mpr (.inl m)) (fun b m => m)
theorem HR.andO (r : HR K dx H S) (n : H p = none) (ob : HO) : HR K (dx.and p) (upd H p ob) S := by
  have x := ext_and (dx := dx) (S := S) (o := ob) n
  have q := r.same (same_new (o := ob) n)
  refine ⟨fun b xs m => ?_, r.nd, fun b m => ?_, fun b m => ⟨(r.own b m).1, fun z => ?_⟩, q.keep, q.j, q.stab, fun b h => .inl (r.hm b h)⟩
  · obtain ⟨ws, e, a⟩ := r.sto b xs m
    exact ⟨ws, by rw [upd_ne (ne_of_none e n)]; exact e, a.ext x⟩
  · rcases m with m | m
    · exact q.live b m
    · have m : b = p := m
      rw [m, upd_same]
      exact fun z => nomatch z
  · rcases z with z | z
    · exact (r.own b m).2 z
    · have z : b = p := z
      obtain ⟨⟨b', xs⟩, mm, e⟩ := List.mem_map.mp m
      have e : b' = b := e
      obtain ⟨ws, eh, _⟩ := r.sto b' xs mm
      rw [e, z, n] at eh
      cases eh
theorem HR.and (r : HR K dx H S) (n : H p = none) (vs : List V) : HR K (dx.and p) (upd H p (.lst vs)) S := r.andO n _
theorem HR.unand (r : HR K (dx.and p) H S) (hp : ¬ dx.hand p) : HR K dx H S :=
  ⟨fun b xs m => let ⟨ws, e, a⟩ := r.sto b xs m; ⟨ws, e, a.ext ext_back⟩, r.nd, fun b m => r.live b (.inl m), fun b m => ⟨(r.own b m).1, fun z => (r.own b m).2 (.inl z)⟩, r.keep, r.j, r.stab,
    fun b h => (r.hm b h).resolve_right fun e => hp (by have e : b = p := e; rw [← e]; exact h)⟩
theorem extD_put {o : HO} : ExtD (Mu (dx.and p) S) H (Mu (dx.and p) S) (upd H p o) :=
  ⟨fun b u n e => by rw [upd_ne (fun z => n (mu_and.mpr (.inr z)))]; exact e, fun b m n => absurd m n⟩
theorem HR.and_putO (r : HR K (dx.and p) H S) (h0 : dx.H0 p = none) (hp : ¬ dx.hand p) (hl : ∀ v, H p = some v → Ls v) (ob : HO) : HR K (dx.and p) (upd H p ob) S := by
  refine ⟨fun b xs m => ?_, r.nd, fun b m => ?_, r.own, fun b o e n => ?_, ?_, r.stab, r.hm⟩
  · obtain ⟨ws, e, a⟩ := r.sto b xs m
    have ne : b ≠ p := fun z => (r.own b (List.mem_map.mpr ⟨_, m, rfl⟩)).2 (.inr z)
    exact ⟨ws, by rw [upd_ne ne]; exact e, a.extD extD_put⟩
  · by_cases z : b = p
    · rw [z, upd_same]
      exact fun z => nomatch z
    · rw [upd_ne z]
      exact r.live b m
  · have ne : b ≠ p := fun z => by
      rw [z] at e
      have e : dx.H0 p = some o := e
      rw [h0] at e
      cases e
    rw [upd_ne ne]
    exact r.keep b o e n
  · refine r.stab H _ ⟨fun b hb => ?_, .upd hl⟩ r.j
    have ne : b ≠ p := fun z => hp (by rw [← z]; exact hb)
    rw [upd_ne ne]
theorem HR.and_put (r : HR K (dx.and p) H S) (h0 : dx.H0 p = none) (hp : ¬ dx.hand p) (hl : ∀ v, H p = some v → Ls v) (vs : List V) : HR K (dx.and p) (upd H p (.lst vs)) S := r.and_putO h0 hp hl _
/-- from a heap in which p was not there, p was changed once more -/
theorem ext_put {H1 : Hp} {S1 : Sto} {o : HO} (x : Ext (Mu dx S) H (Mu (dx.and p) S1) H1) (n : H p = none) : Ext (Mu dx S) H (Mu (dx.and p) S1) (upd H1 p o) :=
  ⟨fun b u z e => by rw [upd_ne (ne_of_none e n)]; exact x.keep b u z e, x.fresh, x.freshC⟩
end

section
variable {X : Cx} {dx : Dx} {pos : Pos} {tg e elt iter : Expr} {ifs : List Expr} {te : TE} {fa : DTE} {wi : TI} {fi : DTA} {g : TG} {f : DTG} {tt : TT} {ft : DTT} {o : List Nat} {scope : Scope} {own : List (Str × Nat)}
def lcGo (g : DTG) (tt : DTT) (te : DTE) (own : List Nat) (δ : Sl) (Q : D → Sto → Prop) : List D → List D → Sto → Prop
  | [], acc, S => Q (.lst acc) S
  | x :: xs, acc, S => g x (wipeD δ own) fun δ1 => tt δ1 S fun b S1 =>
      if b = true then te δ1 S1 fun d S2 => Fit (acc.length + 1) ∧ lcGo g tt te own δ Q xs (acc ++ [d]) S2 else lcGo g tt te own δ Q xs acc S1
def dLc (ti : DTA) (g : DTG) (tt : DTT) (te : DTE) (own : List Nat) : DTE := fun δ S Q => ti δ S fun xs S1 => lcGo g tt te own δ Q xs [] S1
/-- the tests of a clause -/
structure DTs (X : Cx) (dx : Dx) (ifs : List Expr) (tt : TT) (t : DTT) : Prop where
  pe : PTs X ifs tt
  go : ∀ σ H δ S Q Qh, HR X.K dx H S → SR X.K dx σ H δ S → t δ S Q → ThT X.K dx H S Q Qh → tt σ H Qh
def dYes : DTT := fun _ S Q => Q true S
theorem dts_nil : DTs X dx [] tYes dYes := ⟨pts_nil, fun σ H δ S Q Qh r s t k => k true H S r Ext.refl t⟩
theorem dts_one {c : Expr} (h : DT X dx c tt ft) : DTs X dx [c] tt ft := ⟨pts_one h.pe, h.go⟩
abbrev Blk (X : Cx) (scope : Scope) (s : Shared) (H : Hp) (C : Addr) (cl : List (Str × Addr)) (fp : List Addr) : Cx := X.blk s H scope (compEnvC scope cl C X.env) fp
theorem lc_go (hi : DI X dx tg iter wi fi) (sub : ∀ j ∈ o, j ∈ own.map (·.2))
    (hg : ∀ (m : Addr → Prop) (s : Shared) (H : Hp) (C : Addr) (cl : List (Str × Addr)) (fp : List Addr), DG (Blk X scope s H C cl fp) { dx with M0 := m } tg g f o)
    (ht : ∀ (m : Addr → Prop) (s : Shared) (H : Hp) (C : Addr) (cl : List (Str × Addr)) (fp : List Addr), DTs (Blk X scope s H C cl fp) { dx with M0 := m } ifs tt ft)
    (he : ∀ (m : Addr → Prop) (s : Shared) (H : Hp) (C : Addr) (cl : List (Str × Addr)) (fp : List Addr), DE (Blk X scope s H C cl fp) { dx with M0 := m } elt te fa) :
    ∀ σ H δ S Q Qh, HR X.K dx H S → SR X.K dx σ H δ S → dLc fi f ft fa (own.map (·.2)) δ S Q → ThE X.K dx H S Q Qh → tLc wi g tt te (own.map (·.2)) σ H Qh := by
  intro σ H δ S Q Qh r s q k
  refine hi.go σ H δ S _ _ r s q fun J H0 xs S0 r0 x0 wk q0 => ?_
  intro p n
  obtain ⟨G, Y, wl, all⟩ := wk
  have h0 : dx.H0 p = none := r0.old n
  have hp : ¬ dx.hand p := fun h => r0.live p (r0.hm p h) n
  have s0 := (s.ext x0)
  refine lc_it wl (fun i H' => ∃ S' acc vs, HR X.K (dx.and p) H' S' ∧ Ext (Mu dx S0) H0 (Mu (dx.and p) S') H' ∧ H' p = some (.lst vs) ∧ DtAll X.K (Mu (dx.and p) S') H' vs acc ∧ lcGo f ft fa (own.map (·.2)) δ Q (xs.drop i) acc S')
    ⟨S0, [], [], r0.and n [], ext_and n, upd_same, .nil, q0⟩ ?_ ?_ ?_
  · rintro i H' _ ⟨S', acc, vs, r', x', _⟩
    exact (all _ H' r'.mu_live x'.d).1
  · rintro i v H1 H2 hi' ⟨S', acc, vs, r', x', ep, al, q'⟩ y
    obtain ⟨sm, d, ed, dd⟩ := (all _ H1 r'.mu_live x'.d).2 i v H2 hi' y
    have e1 : xs.drop i = d :: xs.drop (i + 1) := by
      rw [List.drop_eq_getElem_cons hi']
      have := List.getElem?_eq_getElem hi'
      rw [this] at ed
      cases ed
      rfl
    rw [e1] at q'
    have xs2 : Ext (Mu (dx.and p) S') H1 (Mu (dx.and p) S') H2 := Ext.same sm
    have r2 := r'.same sm
    have sd : SR X.K (dx.and p) (L2.wipe σ (own.map (·.2))) H2 (wipeD δ (own.map (·.2))) S' :=
      ⟨(s0.wipe _).len, fun j c hc => let ⟨u, a, b⟩ := (s0.wipe (own.map (·.2))).ix j c hc; ⟨u, a, b.ext (x'.trans xs2)⟩⟩
    refine (hg (dx.and p).M0 X.s_0 X.H_0 0 [] []).go v d _ H2 _ S' _ _ r2 sd dd q' fun σ3 δ3 s3 l3 o3 q3 => ⟨wipe_wipe l3 sub o3, ?_⟩
    refine (ht (dx.and p).M0 X.s_0 X.H_0 0 [] []).go σ3 H2 δ3 S' _ _ r2 s3 q3 fun b H3 S3 r3 x3 q4 => ?_
    have np : ∀ {S'' : Sto} {H'' : Hp}, HR X.K (dx.and p) H'' S'' → ¬ (Mu (dx.and p) S'').ch p := fun r'' z => by
      rcases z with z | z
      · exact hp z
      · exact (r''.own p z).2 (.inr rfl)
    have ep3 : H3 p = some (.lst vs) := x3.keep p _ (np r2) (sm p _ ep)
    have xt3 := (x'.trans xs2).trans x3
    have al3 := al.ext (xs2.trans x3)
    cases b with
    | false =>
      rw [if_neg Bool.false_ne_true] at q4 ⊢
      exact ⟨S3, acc, vs, r3, xt3, ep3, al3, q4⟩
    | true =>
      rw [if_pos rfl] at q4 ⊢
      refine (he (dx.and p).M0 X.s_0 X.H_0 0 [] []).go σ3 H3 δ3 S3 _ _ r3 (s3.ext x3) q4 fun y H4 c S4 r4 x4 d4 q5 => ?_
      have ep4 : H4 p = some (.lst vs) := x4.keep p _ (np r3) ep3
      have al4 := (al3.ext x4).append (.cons d4 .nil)
      refine ⟨vs, ep4, ?_, S4, acc ++ [c], vs ++ [y], r4.and_put h0 hp (ls_at ep4 trivial) _, ext_put (xt3.trans x4) n, upd_same, al4.extD extD_put, q5.2⟩
      have := q5.1.line
      rw [al3.length]
      omega
  · rintro H' ⟨S', acc, vs, r', x', ep, al, q'⟩
    rw [List.drop_length] at q'
    have r2 := r'.unand hp
    refine k (.ref p) H' _ S' r2 (x0.trans (x'.trans ext_back)) (.lst ?_ ep (al.ext ext_back)) q'
    rintro (z | z | z)
    · exact r0.live p z n
    · exact hp z
    · exact (r'.own p z).2 (.inr rfl)
/-- [elt for tg in iter if ..] -/
theorem de_lc (hc : X.calm = true) (hN : X.N.Nodup) (hi : DI X dx tg iter wi fi) (ok : BlkOk X.N X.env.scope scope own) (sub : ∀ j ∈ o, j ∈ own.map (·.2))
    (hg : ∀ (m : Addr → Prop) (s : Shared) (H : Hp) (C : Addr) (cl : List (Str × Addr)) (fp : List Addr), DG (Blk X scope s H C cl fp) { dx with M0 := m } tg g f o)
    (ht : ∀ (m : Addr → Prop) (s : Shared) (H : Hp) (C : Addr) (cl : List (Str × Addr)) (fp : List Addr), DTs (Blk X scope s H C cl fp) { dx with M0 := m } ifs tt ft)
    (he : ∀ (m : Addr → Prop) (s : Shared) (H : Hp) (C : Addr) (cl : List (Str × Addr)) (fp : List Addr), DE (Blk X scope s H C cl fp) { dx with M0 := m } elt te fa)
    (hs : ∀ x, foldedSetIterable iter X.env x = pure x := by intro _; rfl) : DE X dx (.ListComp elt [⟨tg, iter, ifs, 0⟩] scope pos) (tLc wi g tt te (own.map (·.2))) (dLc fi f ft fa (own.map (·.2))) :=
  ⟨pe_lc hc hN hi.pe ok (fun s H C cl fp => (hg dx.M0 s H C cl fp).pe) (fun s H C cl fp => (ht dx.M0 s H C cl fp).pe) (fun s H C cl fp => (he dx.M0 s H C cl fp).pe) hs, lc_go hi sub hg ht he⟩
/-- y = [elt for ..] -/
theorem ds_setLc {i : Nat} {y : Str} {py spos : Pos} (hc : X.calm = true) (hN : X.N.Nodup) (hy : X.N[i]? = some y) (hyl : X.env.scope.names.lookup y = some .local)
    (hsw : swapsWith (.ListComp elt [⟨tg, iter, ifs, 0⟩] scope pos) (some (.Name y py)) spos.line X.env = pure true) (hi : DI X dx tg iter wi fi) (ok : BlkOk X.N X.env.scope scope own) (sub : ∀ j ∈ o, j ∈ own.map (·.2))
    (hg : ∀ (m : Addr → Prop) (s : Shared) (H : Hp) (C : Addr) (cl : List (Str × Addr)) (fp : List Addr), DG (Blk X scope s H C cl fp) { dx with M0 := m } tg g f o)
    (ht : ∀ (m : Addr → Prop) (s : Shared) (H : Hp) (C : Addr) (cl : List (Str × Addr)) (fp : List Addr), DTs (Blk X scope s H C cl fp) { dx with M0 := m } ifs tt ft)
    (he : ∀ (m : Addr → Prop) (s : Shared) (H : Hp) (C : Addr) (cl : List (Str × Addr)) (fp : List Addr), DE (Blk X scope s H C cl fp) { dx with M0 := m } elt te fa)
    (hs : ∀ x, foldedSetIterable iter X.env x = pure x := by intro _; rfl) :
    DS X dx (.Assign [.Name y py] (.ListComp elt [⟨tg, iter, ifs, 0⟩] scope pos) spos) (tAsg (tLc wi g tt te (own.map (·.2))) (gName i)) (dSet i (dLc fi f ft fa (own.map (·.2)))) :=
  ⟨ps_setLc hc hN hy hyl hsw hi.pe ok (fun s H C cl fp => (hg dx.M0 s H C cl fp).pe) (fun s H C cl fp => (ht dx.M0 s H C cl fp).pe) (fun s H C cl fp => (he dx.M0 s H C cl fp).pe) hs, set_go (lc_go hi sub hg ht he)⟩
end
end DL
/-! Readings over data: comprehensions of two clauses. -/
namespace DL
open PySem PySem.Spec L2 Gd

section
variable {X : Cx} {dx : Dx} {pos : Pos} {tg e elt iter tg1 iter1 : Expr} {ifs ifs1 : List Expr} {te : TE} {fa : DTE} {wi wi1 : TI} {fi fi1 : DTA} {g g1 : TG} {f f1 : DTG} {tt tt1 : TT} {ft ft1 : DTT} {o o1 : List Nat} {scope : Scope} {own : List (Str × Nat)} {vs1 : List Nat}
def lc2In (g : DTG) (tt : DTT) (te : DTE) (own : List Nat) (δ : Sl) (k : List D → Sto → Prop) : List D → List D → Sto → Prop
  | [], acc, S => k acc S
  | x :: xs, acc, S => g x (wipeD δ own) fun δ1 => tt δ1 S fun b S1 =>
      if b = true then te δ1 S1 fun d S2 => Fit (acc.length + 1) ∧ lc2In g tt te own δ k xs (acc ++ [d]) S2 else lc2In g tt te own δ k xs acc S1
def lc2Go (g : DTG) (tt : DTT) (wi1 : DTA) (g1 : DTG) (tt1 : DTT) (te : DTE) (own own1 : List Nat) (δ : Sl) (Q : D → Sto → Prop) : List D → List D → Sto → Prop
  | [], acc, S => Q (.lst acc) S
  | x :: xs, acc, S => g x (wipeD δ own) fun δ1 => tt δ1 S fun b S1 =>
      if b = true then wi1 δ1 S1 fun ys S2 => lc2In g1 tt1 te own1 δ1 (lc2Go g tt wi1 g1 tt1 te own own1 δ Q xs) ys acc S2 else lc2Go g tt wi1 g1 tt1 te own own1 δ Q xs acc S1
def dLc2 (ti : DTA) (g : DTG) (tt : DTT) (wi1 : DTA) (g1 : DTG) (tt1 : DTT) (te : DTE) (own own1 : List Nat) : DTE := fun δ S Q => ti δ S fun xs S1 => lc2Go g tt wi1 g1 tt1 te own own1 δ Q xs [] S1
theorem lc2_go (hi : DI X dx tg iter wi fi) (sub : ∀ j ∈ o, j ∈ own.map (·.2)) (sub1 : ∀ j ∈ o1, j ∈ vs1)
    (hg : ∀ (m : Addr → Prop) (s : Shared) (H : Hp) (C : Addr) (cl : List (Str × Addr)) (fp : List Addr), DG (Blk X scope s H C cl fp) { dx with M0 := m } tg g f o)
    (ht : ∀ (m : Addr → Prop) (s : Shared) (H : Hp) (C : Addr) (cl : List (Str × Addr)) (fp : List Addr), DTs (Blk X scope s H C cl fp) { dx with M0 := m } ifs tt ft)
    (hi1 : ∀ (m : Addr → Prop) (s : Shared) (H : Hp) (C : Addr) (cl : List (Str × Addr)) (fp : List Addr), DI (Blk X scope s H C cl fp) { dx with M0 := m } tg1 iter1 wi1 fi1)
    (hg1 : ∀ (m : Addr → Prop) (s : Shared) (H : Hp) (C : Addr) (cl : List (Str × Addr)) (fp : List Addr), DG (Blk X scope s H C cl fp) { dx with M0 := m } tg1 g1 f1 o1)
    (ht1 : ∀ (m : Addr → Prop) (s : Shared) (H : Hp) (C : Addr) (cl : List (Str × Addr)) (fp : List Addr), DTs (Blk X scope s H C cl fp) { dx with M0 := m } ifs1 tt1 ft1)
    (he : ∀ (m : Addr → Prop) (s : Shared) (H : Hp) (C : Addr) (cl : List (Str × Addr)) (fp : List Addr), DE (Blk X scope s H C cl fp) { dx with M0 := m } elt te fa) :
    ∀ σ H δ S Q Qh, HR X.K dx H S → SR X.K dx σ H δ S → dLc2 fi f ft fi1 f1 ft1 fa (own.map (·.2)) vs1 δ S Q → ThE X.K dx H S Q Qh → tLc2 wi g tt wi1 g1 tt1 te (own.map (·.2)) vs1 σ H Qh := by
  intro σ H δ S Q Qh r s q k
  refine hi.go σ H δ S _ _ r s q fun J H0 xs S0 r0 x0 wk q0 => ?_
  intro p n
  obtain ⟨G, Y, wl, all⟩ := wk
  have h0 : dx.H0 p = none := r0.old n
  have hp : ¬ dx.hand p := fun h => r0.live p (r0.hm p h) n
  have s0 := (s.ext x0)
  have np : ∀ {S'' : Sto} {H'' : Hp}, HR X.K (dx.and p) H'' S'' → ¬ (Mu (dx.and p) S'').ch p := fun r'' z => by
    rcases z with z | z
    · exact hp z
    · exact (r''.own p z).2 (.inr rfl)
  -- what stands ahead of a turn, where what is left is told by R
  let Pw : (List D → Sto → Prop) → Hp → Prop := fun R H' => ∃ S' acc vs, HR X.K (dx.and p) H' S' ∧ Ext (Mu dx S0) H0 (Mu (dx.and p) S') H' ∧ H' p = some (.lst vs) ∧ DtAll X.K (Mu (dx.and p) S') H' vs acc ∧ R acc S'
  refine ⟨fun i m H' => m = xs.length - i ∧ i ≤ xs.length ∧ Pw (lc2Go f ft fi1 f1 ft1 fa (own.map (·.2)) vs1 δ Q (xs.drop i)) H', ⟨xs.length, by simp, Nat.zero_le _, S0, [], [], r0.and n [], ext_and n, upd_same, .nil, q0⟩, ?_⟩
  rintro i m H1 ⟨rfl, hi', S', acc, vs, r', x', ep, al, q'⟩
  have gs := (all _ H1 r'.mu_live x'.d)
  by_cases hlt : i < xs.length
  · refine .inr ⟨wl.goes i H1 hlt gs.1, Pw (lc2Go f ft fi1 f1 ft1 fa (own.map (·.2)) vs1 δ Q (xs.drop (i + 1))), fun H' w' => ⟨xs.length - (i + 1), by omega, rfl, hlt, w'⟩, fun v H2 y => ?_⟩
    obtain ⟨sm, d, ed, dd⟩ := gs.2 i v H2 hlt (wl.yields i H1 v H2 hlt gs.1 y)
    have e1 : xs.drop i = d :: xs.drop (i + 1) := by
      rw [List.drop_eq_getElem_cons hlt]
      have := List.getElem?_eq_getElem hlt
      rw [this] at ed
      cases ed
      rfl
    rw [e1] at q'
    have xs2 : Ext (Mu (dx.and p) S') H1 (Mu (dx.and p) S') H2 := Ext.same sm
    have r2 := r'.same sm
    have sd : SR X.K (dx.and p) (L2.wipe σ (own.map (·.2))) H2 (wipeD δ (own.map (·.2))) S' :=
      ⟨(s0.wipe _).len, fun j c hc => let ⟨u, a, b⟩ := (s0.wipe (own.map (·.2))).ix j c hc; ⟨u, a, b.ext (x'.trans xs2)⟩⟩
    refine (hg (dx.and p).M0 X.s_0 X.H_0 0 [] []).go v d _ H2 _ S' _ _ r2 sd dd q' fun σ3 δ3 s3 l3 o3 q3 => ⟨wipe_wipe l3 sub o3, ?_⟩
    refine (ht (dx.and p).M0 X.s_0 X.H_0 0 [] []).go σ3 H2 δ3 S' _ _ r2 s3 q3 fun b H3 S3 r3 x3 q4 => ?_
    have ep3 : H3 p = some (.lst vs) := x3.keep p _ (np r2) (sm p _ ep)
    have xt3 := (x'.trans xs2).trans x3
    have al3 := al.ext (xs2.trans x3)
    cases b with
    | false =>
      rw [if_neg Bool.false_ne_true] at q4 ⊢
      exact ⟨S3, acc, vs, r3, xt3, ep3, al3, q4⟩
    | true =>
      rw [if_pos rfl] at q4 ⊢
      have s3' := s3.ext x3
      refine (hi1 (dx.and p).M0 X.s_0 X.H_0 0 [] []).go σ3 H3 δ3 S3 _ _ r3 s3' q4 fun J1 H4 ys S4 r4 x4 wk1 q5 => ?_
      obtain ⟨G1, Y1, wl1, all1⟩ := wk1
      have s4 := s3'.ext x4
      have ep4 : H4 p = some (.lst vs) := x4.keep p _ (np r3) ep3
      have xt4 := xt3.trans x4
      let R := lc2Go f ft fi1 f1 ft1 fa (own.map (·.2)) vs1 δ Q (xs.drop (i + 1))
      let Pv : (List D → Sto → Prop) → Hp → Prop := fun R' H' => ∃ S'' acc vs, HR X.K (dx.and p) H' S'' ∧ Ext (Mu dx S0) H0 (Mu (dx.and p) S'') H' ∧ ExtD (Mu (dx.and p) S4) H4 (Mu (dx.and p) S'') H' ∧ H' p = some (.lst vs) ∧ DtAll X.K (Mu (dx.and p) S'') H' vs acc ∧ R' acc S''
      refine ⟨fun j m H' => m = ys.length - j ∧ j ≤ ys.length ∧ Pv (lc2In f1 ft1 fa vs1 δ3 R (ys.drop j)) H', ⟨ys.length, by simp, Nat.zero_le _, S4, acc, vs, r4, xt4, ExtD.refl, ep4, al3.ext x4, q5⟩, ?_⟩
      rintro j m H5 ⟨rfl, hj, S5, acc5, vs5, r5, xt5, xd5, ep5, al5, q6⟩
      have gs1 := (all1 _ H5 r5.mu_live xd5)
      by_cases hlt1 : j < ys.length
      · refine .inr ⟨wl1.goes j H5 hlt1 gs1.1, Pv (lc2In f1 ft1 fa vs1 δ3 R (ys.drop (j + 1))), fun H' w' => ⟨ys.length - (j + 1), by omega, rfl, hlt1, w'⟩, fun v1 H6 y1 => ?_⟩
        obtain ⟨sm1, d1, ed1, dd1⟩ := gs1.2 j v1 H6 hlt1 (wl1.yields j H5 v1 H6 hlt1 gs1.1 y1)
        have e2 : ys.drop j = d1 :: ys.drop (j + 1) := by
          rw [List.drop_eq_getElem_cons hlt1]
          have := List.getElem?_eq_getElem hlt1
          rw [this] at ed1
          cases ed1
          rfl
        rw [e2] at q6
        have xs6 : Ext (Mu (dx.and p) S5) H5 (Mu (dx.and p) S5) H6 := Ext.same sm1
        have r6 := r5.same sm1
        have s6 : SR X.K (dx.and p) (L2.wipe σ3 vs1) H6 (wipeD δ3 vs1) S5 := (s4.extD (xd5.trans xs6.d)).wipe vs1
        refine (hg1 (dx.and p).M0 X.s_0 X.H_0 0 [] []).go v1 d1 _ H6 _ S5 _ _ r6 s6 dd1 q6 fun σ7 δ7 s7 l7 o7 q7 => ⟨wipe_wipe l7 sub1 o7, ?_⟩
        refine (ht1 (dx.and p).M0 X.s_0 X.H_0 0 [] []).go σ7 H6 δ7 S5 _ _ r6 s7 q7 fun b H7 S7 r7 x7 q8 => ?_
        have ep7 : H7 p = some (.lst vs5) := x7.keep p _ (np r6) (sm1 p _ ep5)
        have xt7 := (xt5.trans xs6).trans x7
        have xd7 := (xd5.trans xs6.d).trans x7.d
        have al7 := al5.ext (xs6.trans x7)
        cases b with
        | false =>
          rw [if_neg Bool.false_ne_true] at q8 ⊢
          exact ⟨S7, acc5, vs5, r7, xt7, xd7, ep7, al7, q8⟩
        | true =>
          rw [if_pos rfl] at q8 ⊢
          refine (he (dx.and p).M0 X.s_0 X.H_0 0 [] []).go σ7 H7 δ7 S7 _ _ r7 (s7.ext x7) q8 fun y H8 c S8 r8 x8 d8 q9 => ?_
          have ep8 : H8 p = some (.lst vs5) := x8.keep p _ (np r7) ep7
          have al8 := (al7.ext x8).append (.cons d8 .nil)
          refine ⟨vs5, ep8, ?_, S8, acc5 ++ [c], vs5 ++ [y], r8.and_put h0 hp (ls_at ep8 trivial) _, ext_put (xt7.trans x8) n, (xd7.trans x8.d).trans extD_put, upd_same, al8.extD extD_put, q9.2⟩
          have := q9.1.line
          rw [al7.length]
          omega
      · have e : j = ys.length := by omega
        subst e
        rw [List.drop_length] at q6
        exact .inl ⟨wl1.stops H5 gs1.1, S5, acc5, vs5, r5, xt5, ep5, al5, q6⟩
  · have e : i = xs.length := by omega
    subst e
    rw [List.drop_length] at q'
    refine .inl ⟨wl.stops H1 gs.1, ?_⟩
    have r2 := r'.unand hp
    refine k (.ref p) H1 _ S' r2 (x0.trans (x'.trans ext_back)) (.lst ?_ ep (al.ext ext_back)) q'
    rintro (z | z | z)
    · exact r0.live p z n
    · exact hp z
    · exact (r'.own p z).2 (.inr rfl)
theorem de_lc2 (hc : X.calm = true) (hN : X.N.Nodup) (hi : DI X dx tg iter wi fi) (ok : BlkOk X.N X.env.scope scope own) (hv : ∀ i ∈ vs1, i ∈ own.map (·.2)) (sub : ∀ j ∈ o, j ∈ own.map (·.2)) (sub1 : ∀ j ∈ o1, j ∈ vs1)
    (hg : ∀ (m : Addr → Prop) (s : Shared) (H : Hp) (C : Addr) (cl : List (Str × Addr)) (fp : List Addr), DG (Blk X scope s H C cl fp) { dx with M0 := m } tg g f o)
    (ht : ∀ (m : Addr → Prop) (s : Shared) (H : Hp) (C : Addr) (cl : List (Str × Addr)) (fp : List Addr), DTs (Blk X scope s H C cl fp) { dx with M0 := m } ifs tt ft)
    (hi1 : ∀ (m : Addr → Prop) (s : Shared) (H : Hp) (C : Addr) (cl : List (Str × Addr)) (fp : List Addr), DI (Blk X scope s H C cl fp) { dx with M0 := m } tg1 iter1 wi1 fi1)
    (hg1 : ∀ (m : Addr → Prop) (s : Shared) (H : Hp) (C : Addr) (cl : List (Str × Addr)) (fp : List Addr), DG (Blk X scope s H C cl fp) { dx with M0 := m } tg1 g1 f1 o1)
    (ht1 : ∀ (m : Addr → Prop) (s : Shared) (H : Hp) (C : Addr) (cl : List (Str × Addr)) (fp : List Addr), DTs (Blk X scope s H C cl fp) { dx with M0 := m } ifs1 tt1 ft1)
    (he : ∀ (m : Addr → Prop) (s : Shared) (H : Hp) (C : Addr) (cl : List (Str × Addr)) (fp : List Addr), DE (Blk X scope s H C cl fp) { dx with M0 := m } elt te fa)
    (hs : ∀ x, foldedSetIterable iter X.env x = pure x := by intro _; rfl) (hs1 : ∀ env x, foldedSetIterable iter1 env x = pure x := by intro _ _; rfl) :
    DE X dx (.ListComp elt [⟨tg, iter, ifs, 0⟩, ⟨tg1, iter1, ifs1, 0⟩] scope pos) (tLc2 wi g tt wi1 g1 tt1 te (own.map (·.2)) vs1) (dLc2 fi f ft fi1 f1 ft1 fa (own.map (·.2)) vs1) :=
  ⟨pe_lc2 hc hN hi.pe ok hv (fun s H C cl fp => (hg dx.M0 s H C cl fp).pe) (fun s H C cl fp => (ht dx.M0 s H C cl fp).pe) (fun s H C cl fp => (hi1 dx.M0 s H C cl fp).pe) (fun s H C cl fp => (hg1 dx.M0 s H C cl fp).pe) (fun s H C cl fp => (ht1 dx.M0 s H C cl fp).pe) (fun s H C cl fp => (he dx.M0 s H C cl fp).pe) hs hs1, lc2_go hi sub sub1 hg ht hi1 hg1 ht1 he⟩
theorem ds_setLc2 {i : Nat} {y : Str} {py spos : Pos} (hc : X.calm = true) (hN : X.N.Nodup) (hy : X.N[i]? = some y) (hyl : X.env.scope.names.lookup y = some .local)
    (hsw : swapsWith (.ListComp elt [⟨tg, iter, ifs, 0⟩, ⟨tg1, iter1, ifs1, 0⟩] scope pos) (some (.Name y py)) spos.line X.env = pure true) (hi : DI X dx tg iter wi fi) (ok : BlkOk X.N X.env.scope scope own) (hv : ∀ i ∈ vs1, i ∈ own.map (·.2)) (sub : ∀ j ∈ o, j ∈ own.map (·.2)) (sub1 : ∀ j ∈ o1, j ∈ vs1)
    (hg : ∀ (m : Addr → Prop) (s : Shared) (H : Hp) (C : Addr) (cl : List (Str × Addr)) (fp : List Addr), DG (Blk X scope s H C cl fp) { dx with M0 := m } tg g f o)
    (ht : ∀ (m : Addr → Prop) (s : Shared) (H : Hp) (C : Addr) (cl : List (Str × Addr)) (fp : List Addr), DTs (Blk X scope s H C cl fp) { dx with M0 := m } ifs tt ft)
    (hi1 : ∀ (m : Addr → Prop) (s : Shared) (H : Hp) (C : Addr) (cl : List (Str × Addr)) (fp : List Addr), DI (Blk X scope s H C cl fp) { dx with M0 := m } tg1 iter1 wi1 fi1)
    (hg1 : ∀ (m : Addr → Prop) (s : Shared) (H : Hp) (C : Addr) (cl : List (Str × Addr)) (fp : List Addr), DG (Blk X scope s H C cl fp) { dx with M0 := m } tg1 g1 f1 o1)
    (ht1 : ∀ (m : Addr → Prop) (s : Shared) (H : Hp) (C : Addr) (cl : List (Str × Addr)) (fp : List Addr), DTs (Blk X scope s H C cl fp) { dx with M0 := m } ifs1 tt1 ft1)
    (he : ∀ (m : Addr → Prop) (s : Shared) (H : Hp) (C : Addr) (cl : List (Str × Addr)) (fp : List Addr), DE (Blk X scope s H C cl fp) { dx with M0 := m } elt te fa)
    (hs : ∀ x, foldedSetIterable iter X.env x = pure x := by intro _; rfl) (hs1 : ∀ env x, foldedSetIterable iter1 env x = pure x := by intro _ _; rfl) :
    DS X dx (.Assign [.Name y py] (.ListComp elt [⟨tg, iter, ifs, 0⟩, ⟨tg1, iter1, ifs1, 0⟩] scope pos) spos) (tAsg (tLc2 wi g tt wi1 g1 tt1 te (own.map (·.2)) vs1) (gName i)) (dSet i (dLc2 fi f ft fi1 f1 ft1 fa (own.map (·.2)) vs1)) :=
  ⟨ps_setLc2 hc hN hy hyl hsw hi.pe ok hv (fun s H C cl fp => (hg dx.M0 s H C cl fp).pe) (fun s H C cl fp => (ht dx.M0 s H C cl fp).pe) (fun s H C cl fp => (hi1 dx.M0 s H C cl fp).pe) (fun s H C cl fp => (hg1 dx.M0 s H C cl fp).pe) (fun s H C cl fp => (ht1 dx.M0 s H C cl fp).pe) (fun s H C cl fp => (he dx.M0 s H C cl fp).pe) hs hs1, set_go (lc2_go hi sub sub1 hg ht hi1 hg1 ht1 he)⟩
end
end DL
/-! Readings over data: calls, a def by its body, operators. -/
namespace DL
open PySem PySem.Spec L2 Gd

/-! ### what a def promises, by data -/
abbrev DSpec := List D → (D → Prop) → Prop
def spD (K : PySem.W.Frag) (hand : Addr → Prop) (J : Hp → Prop) (spec : DSpec) : Sp := fun vs H Q _ => ∃ (m : Addr → Prop) (ds : List D) (post : D → Prop),
  (∀ b, m b → H b ≠ none) ∧ (∀ b, hand b → m b) ∧ (∀ H1 H2 : Hp, (∀ b, hand b → H2 b = H1 b) ∧ Stays H1 H2 → J H1 → J H2) ∧ J H ∧ DtAll K (Fo m) H vs ds ∧ spec ds post ∧
  ∀ v H' d, (∀ b o, H b = some o → ¬ hand b → H' b = some o) → (∀ b, m b → H' b ≠ none) → J H' → Dt K (Fo m) H' v d → post d → Q v H'
def noHand : Addr → Prop := fun _ => False
def noJ : Hp → Prop := fun _ => True
abbrev spP (K : PySem.W.Frag) (spec : DSpec) : Sp := spD K noHand noJ spec
def startD (N : List Str) (ds : List D) : Sl := ds.map some ++ List.replicate (N.length - ds.length) none
theorem start_sr {K : PySem.W.Frag} {dx : Dx} {H : Hp} {S : Sto} {N : List Str} {vs : List V} {ds : List D} (a : DtAll K (Mu dx S) H vs ds) : SR K dx (L2.start N vs) H (startD N ds) S := by
  have l := a.length
  unfold L2.start startD
  refine ⟨by simp [l], fun i d h => ?_⟩
  by_cases hi : i < ds.length
  · rw [List.getElem?_append_left (by simpa using hi), List.getElem?_map] at h
    rw [List.getElem?_append_left (by simpa [l] using hi), List.getElem?_map]
    cases e : ds[i]? with
    | none => rw [e] at h; cases h
    | some c =>
      rw [e] at h
      have h : some c = some d := by simpa using h
      cases h
      obtain ⟨v, e1, d1⟩ := a.get e
      exact ⟨v, by rw [e1]; rfl, d1⟩
  · rw [List.getElem?_append_right (by simpa using Nat.le_of_not_lt hi), List.getElem?_replicate] at h
    split at h <;> cases h
section
variable {P : Program} {w : World} {K : PySem.W.Frag} {mg : Str → Option Value} {base : Heap}
abbrev Body (P : Program) (w : World) (K : PySem.W.Frag) (mg : Str → Option Value) (base : Heap) (N : List Str) (qual : Str) (st : Stmt) (f : Addr) (cdv : Value) (A : Around) (fr : List Env) (s : Shared) (H : Hp) (E : XK) : Cx :=
  (cxOf CX0 P w K mg base N qual (defScope st) f cdv A fr s H E).nox
/-- THE RULE for a def: its body as a term of rules over data -/
theorem fnD {k : Nat} {x qual : Str} {st : Stmt} {f : Addr} {fd : FuncData} {N ps : List Str} {hand : Addr → Prop} {J : Hp → Prop} {spec : DSpec}
    (F : Fun K x qual st f fd) (S : FnScope N ps (defScope st)) (len : ∀ ds post, spec ds post → ds.length = ps.length)
    (body : ∀ (cdv : Value) (A : Around) (fr : List Env) (s : Shared) (H : Hp) (E : XK), Room k (A.deeper (PyProof.Rows.envOfC qual (defScope st) s.heap.objs.size f cdv)) → A.guards = some [] →
      ∀ dx : Dx, dx.hand = hand → dx.J = J → ∃ ts t, DSs (Body P w K mg base N qual st f cdv A fr s H E) dx (defBody st) ts t ∧
        ∀ ds post, spec ds post → t { nx := fun _ _ => post .non, rt := fun d _ => post d } (startD N ds) []) :
    FnG P w K mg base CX0 (k + 1) f fd ps (spD K hand J spec) := by
  refine fnG_body F S ?_ ?_
  · rintro vs H Q E ⟨m, ds, post, _, _, _, _, a, sp, _⟩
    rw [a.length]
    exact len ds post sp
  · rintro cdv A fr s H vs Q E room guard ⟨m, ds, post, live, hm, stab, j, a, sp, k'⟩
    obtain ⟨ts, t, h, q⟩ := body cdv A fr s H E room guard ⟨m, H, hand, J⟩ rfl rfl
    refine ⟨ts, h.pe.nox, ?_⟩
    have le : ExtD (Fo m) H (Mu ⟨m, H, hand, J⟩ []) H := by
      refine ⟨fun _ _ _ e => e, fun b z n => ?_⟩
      rcases z with z | z | z
      · exact absurd (.inl z) n
      · exact absurd (.inl (hm b z)) n
      · cases z
    have r : HR K ⟨m, H, hand, J⟩ H [] := ⟨fun p xs z => (nomatch z), List.nodup_nil, live, fun p z => (nomatch z), fun b o e _ => e, j, stab, hm⟩
    refine h.go _ H (startD N ds) [] { nx := fun _ _ => post .non, rt := fun d _ => post d } _ r (start_sr (a.extD le)) (q ds post sp) ⟨?_, ?_, ?_, ?_⟩
    · intro σ' H' δ' S' r' x' s' p'
      exact k' .non H' .non r'.keep r'.live r'.j .non p'
    · intro σ' H' δ' S' r' x' s' p'
      exact p'.elim
    · intro σ' H' δ' S' r' x' s' p'
      exact p'.elim
    · intro v H' d S' r' x' hd p'
      exact k' v H' d r'.keep r'.live r'.j hd p'
end

/-! ### calls of defs of one's own -/
section
variable {X : Cx} {dx : Dx} {k : Nat} {f : Addr} {fd : FuncData} {ps ks : List Str} {x : Str} {p pos : Pos} {e : Expr} {es : List Expr} {kws : List Keyword} {ta tk : TA} {fa fk : DTA} {spec : DSpec}
def dCall (spec : DSpec) (fa : DTA) : DTE := fun δ S Q => fa δ S fun ds S1 => spec ds fun d => Q d S1
theorem spd_go {K : PySem.W.Frag} {hand : Addr → Prop} {J : Hp → Prop} {H : Hp} {S : Sto} {vs : List V} {ds : List D} {Q : D → Sto → Prop} {Qh : VK} {E : XK} (r : HR K dx H S) (a : DtAll K (Mu dx S) H vs ds)
    (h : (hand = noHand ∧ J = noJ) ∨ (hand = dx.hand ∧ J = dx.J)) (t : spec ds fun d => Q d S) (kk : ThE K dx H S Q Qh) : spD K hand J spec vs H Qh E := by
  have le : Ext (Mu dx S) H (Fo (Mu dx S).mu) H := Ext.less (fun b z => z.elim id False.elim) (fun b z => z.elim)
  have ge : ∀ H' : Hp, ExtD (Fo (Mu dx S).mu) H' (Mu dx S) H' := fun H' => ⟨fun _ _ _ e => e, fun b z n => absurd (.inl z) n⟩
  rcases h with ⟨rfl, rfl⟩ | ⟨rfl, rfl⟩
  · refine ⟨(Mu dx S).mu, ds, _, r.mu_live, fun b z => z.elim, fun _ _ _ _ => trivial, trivial, a.ext le, t, fun v H' d kp lv j hd q => ?_⟩
    have sm : Same H H' := fun b o e => kp b o e fun z => z
    exact kk v H' d S (r.same sm) (Ext.same sm) (hd.extD (ge H')) q
  · refine ⟨(Mu dx S).mu, ds, _, r.mu_live, fun b z => .inr (.inl z), r.stab, r.j, a.ext le, t, fun v H' d kp lv j hd q => ?_⟩
    have xx : Ext (Mu dx S) H (Mu dx S) H' := ⟨fun b o n e => kp b o e fun z => n (.inl z), fun b m n => absurd m n, fun b m n => absurd m n⟩
    refine kk v H' d S ⟨fun q xs m => ?_, r.nd, fun b m => lv b (.inl m), r.own, fun b o e n => kp b o (r.keep b o e n) n, j, r.stab, r.hm⟩ xx (hd.extD (ge H')) q
    obtain ⟨ws, e, al⟩ := r.sto q xs m
    have nh : ¬ dx.hand q := fun z => (r.own q (List.mem_map.mpr ⟨_, m, rfl⟩)).2 (r.hm q z)
    exact ⟨ws, kp q _ e nh, al.ext xx⟩
/-- f(a, ..) -/
theorem de_call {hand : Addr → Prop} {J : Hp → Prop} (F : FnG X.prog X.w X.K X.mg X.base CX0 k f fd ps (spD X.K hand J spec)) (room : Room k X.A) (guard : X.A.guards = some [])
    (hg : Gl X x) (hm : X.mg x = some (.ref f)) (kp : PySem.W.keepIn X.K (.ref f) = true) (hb : Binds X.K fd ps []) (hh : (hand = noHand ∧ J = noJ) ∨ (hand = dx.hand ∧ J = dx.J)) (ha : DA X dx (e :: es) ta fa)
    (hdb : (x == ("__debug__" : Str)) = false := by decide)
    (he : starEach (e :: es) X.env = (false, eval e X.env) :: starEach es X.env := by rfl)
    (hpl : (backTo pos (starEach es X.env)).any (·.1) = false := by rfl) :
    DE X dx (.Call (.Name x p) (e :: es) [] pos) (tCall (spD X.K hand J spec) [] (fun _ _ _ => False) ta) (dCall spec fa) := by
  refine ⟨pe_callG F room guard hg hm kp hb .nil pass0 ha.pe hdb he hpl, fun σ H δ S Q Qh r s t kk => ?_⟩
  refine ha.go σ H δ S _ _ r s t fun vs H1 ds S1 r1 x1 d1 t1 => ?_
  rw [List.append_nil]
  exact spd_go r1 d1 hh t1 (kk.on x1)
theorem de_call0 {hand : Addr → Prop} {J : Hp → Prop} (F : FnG X.prog X.w X.K X.mg X.base CX0 k f fd ps (spD X.K hand J spec)) (room : Room k X.A) (guard : X.A.guards = some [])
    (hg : Gl X x) (hm : X.mg x = some (.ref f)) (kp : PySem.W.keepIn X.K (.ref f) = true) (hb : Binds X.K fd ps []) (hh : (hand = noHand ∧ J = noJ) ∨ (hand = dx.hand ∧ J = dx.J))
    (hdb : (x == ("__debug__" : Str)) = false := by decide) :
    DE X dx (.Call (.Name x p) [] [] pos) (tCall (spD X.K hand J spec) [] (fun _ _ _ => False) tNil) (dCall spec dNil) := by
  refine ⟨pe_callG0 F room guard hg hm kp hb .nil pass0 hdb, fun σ H δ S Q Qh r s t kk => ?_⟩
  exact spd_go (vs := [] ++ []) (E := fun _ _ _ => False) r .nil hh t kk
/-- the values of keywords put into the parameters' order -/
structure KOrd (gV : List V → List V → List V) (gD : List D → List D → List D) : Prop where
  all : ∀ {K : PySem.W.Frag} {M : Mm} {H : Hp} {vs ws : List V} {ds es : List D}, DtAll K M H vs ds → DtAll K M H ws es → DtAll K M H (gV vs ws) (gD ds es)
def dCallK (spec : DSpec) (gD : List D → List D → List D) (fa fk : DTA) : DTE := fun δ S Q => fa δ S fun ds S1 => fk δ S1 fun es S2 => spec (gD ds es) fun d => Q d S2
variable {g : List Value → List Value → List Value} {gV : List V → List V → List V} {gD : List D → List D → List D}
/-- f(a, .., n = b, ..) -/
theorem de_callK {hand : Addr → Prop} {J : Hp → Prop} (F : FnG X.prog X.w X.K X.mg X.base CX0 k f fd ps (spD X.K hand J spec)) (room : Room k X.A) (guard : X.A.guards = some [])
    (hg : Gl X x) (hm : X.mg x = some (.ref f)) (kp : PySem.W.keepIn X.K (.ref f) = true) (hb : KBinds X.K fd ps ks g gV) (ho : KOrd gV gD) (hh : (hand = noHand ∧ J = noJ) ∨ (hand = dx.hand ∧ J = dx.J)) (ha : DA X dx (e :: es) ta fa) (hk : DK X dx kws tk fk)
    (hall : (backToKw pos (keywordEach kws X.env)).all (·.1.isSome) = true := by rfl)
    (hks : (backToKw pos (keywordEach kws X.env)).filterMap (·.1) = ks := by rfl)
    (hdb : (x == ("__debug__" : Str)) = false := by decide)
    (he : starEach (e :: es) X.env = (false, eval e X.env) :: starEach es X.env := by rfl)
    (hpl : ((backTo pos (starEach (e :: es) X.env)).any (·.1) || (backToKw pos (keywordEach kws X.env)).any (·.1.isNone)) = false := by rfl) :
    DE X dx (.Call (.Name x p) (e :: es) kws pos) (tCallK (spD X.K hand J spec) gV (fun _ _ _ => False) ta tk) (dCallK spec gD fa fk) := by
  refine ⟨pe_callGK F room guard hg hm kp hb pass0 ha.pe hk.pe hall hks hdb he hpl, fun σ H δ S Q Qh r s t kk => ?_⟩
  refine ha.go σ H δ S _ _ r s t fun vs H1 ds S1 r1 x1 d1 t1 => ?_
  refine hk.go σ H1 δ S1 _ _ r1 (s.ext x1) t1 fun ws H2 es S2 r2 x2 d2 t2 => ?_
  exact spd_go r2 (ho.all (d1.ext x2) d2) hh t2 (kk.on (x1.trans x2))
/-- f(n = b, ..) -/
theorem de_callK0 {hand : Addr → Prop} {J : Hp → Prop} (F : FnG X.prog X.w X.K X.mg X.base CX0 k f fd ps (spD X.K hand J spec)) (room : Room k X.A) (guard : X.A.guards = some [])
    (hg : Gl X x) (hm : X.mg x = some (.ref f)) (kp : PySem.W.keepIn X.K (.ref f) = true) (hb : KBinds X.K fd ps ks g gV) (ho : KOrd gV gD) (hh : (hand = noHand ∧ J = noJ) ∨ (hand = dx.hand ∧ J = dx.J)) (hk : DK X dx kws tk fk)
    (hall : (backToKw pos (keywordEach kws X.env)).all (·.1.isSome) = true := by rfl)
    (hks : (backToKw pos (keywordEach kws X.env)).filterMap (·.1) = ks := by rfl)
    (hdb : (x == ("__debug__" : Str)) = false := by decide)
    (hpl : ((backTo pos (starEach [] X.env)).any (·.1) || (backToKw pos (keywordEach kws X.env)).any (·.1.isNone)) = false := by rfl) :
    DE X dx (.Call (.Name x p) [] kws pos) (tCallK (spD X.K hand J spec) gV (fun _ _ _ => False) tNil tk) (dCallK spec gD dNil fk) := by
  refine ⟨pe_callGK0 F room guard hg hm kp hb pass0 hk.pe hall hks hdb hpl, fun σ H δ S Q Qh r s t kk => ?_⟩
  refine hk.go σ H δ S _ _ r s t fun ws H2 es S2 r2 x2 d2 t2 => ?_
  exact spd_go r2 (ho.all .nil d2) hh t2 (kk.on x2)

/-! ### built-ins -/
def CallD (K : PySem.W.Frag) (dx : Dx) (r : List V → Hp → VK → Prop) (f : List D → Sto → (D → Sto → Prop) → Prop) : Prop :=
  ∀ vs ds H S Q Qh, HR K dx H S → DtAll K (Mu dx S) H vs ds → f ds S Q → ThE K dx H S Q Qh → r vs H Qh
def dCB (f : List D → Sto → (D → Sto → Prop) → Prop) (fa : DTA) : DTE := fun δ S Q => fa δ S fun ds S1 => f ds S1 Q
theorem cb_go {r : List V → Hp → VK → Prop} {f} (o : CallD X.K dx r f) (ha : DA X dx es ta fa) :
    ∀ σ H δ S Q Qh, HR X.K dx H S → SR X.K dx σ H δ S → dCB f fa δ S Q → ThE X.K dx H S Q Qh → tCB r ta σ H Qh :=
  fun σ H δ S Q Qh r0 s0 t kk => ha.go σ H δ S _ _ r0 s0 t fun vs H1 ds S1 r1 x1 d1 t1 => o vs ds H1 S1 Q Qh r1 d1 t1 (kk.on x1)
theorem de_callB {id : String} {r : List V → Hp → VK → Prop} {f} (hc : CallR X (.builtin id) r) (o : CallD X.K dx r f) (hg : Gl X x) (hm : X.mg x = none) (hv : bootBuiltins x = some (.builtin id)) (ha : DA X dx (e :: es) ta fa)
    (h : PE X (.Call (.Name x p) (e :: es) [] pos) (tCB r ta) := by exact pe_callB (by assumption) (by assumption) (by assumption) (by assumption) (DA.pe (by assumption))) :
    DE X dx (.Call (.Name x p) (e :: es) [] pos) (tCB r ta) (dCB f fa) := ⟨h, cb_go o ha⟩
theorem de_callTy {id : String} {r : List V → Hp → VK → Prop} {f} (hc : CallR X (.type id) r) (o : CallD X.K dx r f) (hg : Gl X x) (hm : X.mg x = none) (hv : bootBuiltins x = some (.type id)) (ha : DA X dx (e :: es) ta fa)
    (h : PE X (.Call (.Name x p) (e :: es) [] pos) (tCB r ta) := by exact pe_callTy (by assumption) (by assumption) (by assumption) (by assumption) (DA.pe (by assumption))) :
    DE X dx (.Call (.Name x p) (e :: es) [] pos) (tCB r ta) (dCB f fa) := ⟨h, cb_go o ha⟩
end
end DL
/-! Readings over data: operators. -/
namespace DL
open PySem PySem.Spec L2 Gd

theorem tm_one (l : Addr) (items : Array Value) (n : Nat) (dd : Option Addr) (sl : Array (Option Value)) (u : Tok) :
    Meets (Builtin.«tuple.__mul__» ⟨[.ref l, .int 1 u], []⟩) (fun _ R s => s.heap.get? l = some { cls := .type "tuple", dict := dd, data := .seq items n, slots := sl } ∧
      R (.ok (.ret (Value.ref l))) s) :=
  .of_wp fun prog w A R s h => by
    obtain ⟨hp, g, d, tk, os⟩ := s
    obtain ⟨hl, h⟩ := h
    have f1 := AutoSeq1.idx_int
    wp_walk using wpAny_loadPart' hl
    exact ⟨_, rfl, h⟩
theorem tm_zero (l : Addr) (items : Array Value) (n : Nat) (dd : Option Addr) (sl : Array (Option Value)) (u : Tok) (he : items.isEmpty = false) :
    Meets (Builtin.«tuple.__mul__» ⟨[.ref l, .int 0 u], []⟩) (fun _ R s => s.heap.get? l = some { cls := .type "tuple", dict := dd, data := .seq items n, slots := sl } ∧
      R (.ok (.ret (Value.ref s.heap.objs.size))) { s with heap := s.heap.push { cls := Value.type "tuple", data := Data.seq #[] }, toks := s.toks }) :=
  .of_wp fun prog w A R s h => by
    obtain ⟨hp, g, d, tk, os⟩ := s
    obtain ⟨hl, h⟩ := h
    have f1 := AutoSeq1.idx_int
    have c1 : (items.isEmpty || (0 : Int) == 1) = false := by rw [he]; rfl
    wp_walk using wpAny_loadPart' hl
    repeat (first
      | (refine wpAny_ite_false (decide_eq_false (by rw [c1]; exact Bool.false_ne_true)) ?_; wp_walk using wpAny_loadPart' hl))
    exact ⟨_, rfl, h⟩
section
variable {X : Cx} {dx : Dx} {K : PySem.W.Frag}
/-- t * 0, t * 1 -/
def rRep01 (K : PySem.W.Frag) : R2 := fun x y H Q => ∃ l k xs, x = .ref l ∧ y = .int k ∧ SqT K H l xs ∧ xs ≠ [] ∧
  ((k = 1 ∧ Q (.ref l) H) ∨ (k = 0 ∧ ∀ p, H p = none → Q (.ref p) (upd H p (.tup []))))
theorem op_rep01 : OpR X (binaryOp .Mult) (rRep01 X.K) := by
  intro pins s σ H x y v u Q I rx ry h
  obtain ⟨l, k, xs, rfl, rfl, hT, hne, q⟩ := h
  cases rx
  obtain ⟨t, rfl⟩ := ry
  obtain ⟨its, r, ⟨⟨cls, dd, data, sl⟩, ho, hc, n, hd⟩, hs⟩ := I.tuple hT
  simp only at hc hd
  subst hc hd
  have hi : its.toArray.isEmpty = false := by
    cases r with
    | nil => exact absurd rfl hne
    | cons _ _ => rfl
  rcases q with ⟨rfl, q⟩ | ⟨rfl, q⟩
  · refine wpAny_binaryOp_repeat_ref (T := "tuple") (U := "int") (by decide) ⟨_, ho, rfl⟩ (fun s' => typeIs_int s' 1 t) noFill_tuple_mul F.fills_int_mul F.slot_int_rmul repeat_tuple F.slot_int_index.lookup
      (call_meets F.slot_int_rmul (typeIs_int s 1 t) F.entry_int_rmul (F.args_int_rmul_2 _ _) (int_rmul_tuple 1 t l its.toArray n dd sl)
        ⟨ho, rfl, ⟨_, ho, rfl⟩, call_meets F.slot_tuple_mul ⟨_, ho, rfl⟩ F.entry_tuple_mul (F.args_tuple_mul_2 _ _) (tm_one l its.toArray n dd sl t) ⟨ho, ?_⟩⟩)
    exact ⟨.ref l, H, I, rfl, q⟩
  · refine wpAny_binaryOp_repeat_ref (T := "tuple") (U := "int") (by decide) ⟨_, ho, rfl⟩ (fun s' => typeIs_int s' 0 t) noFill_tuple_mul F.fills_int_mul F.slot_int_rmul repeat_tuple F.slot_int_index.lookup
      (call_meets F.slot_int_rmul (typeIs_int s 0 t) F.entry_int_rmul (F.args_int_rmul_2 _ _) (int_rmul_tuple 0 t l its.toArray n dd sl)
        ⟨ho, rfl, ⟨_, ho, rfl⟩, call_meets F.slot_tuple_mul ⟨_, ho, rfl⟩ F.entry_tuple_mul (F.args_tuple_mul_2 _ _) (tm_zero l its.toArray n dd sl t hi) ⟨ho, ?_⟩⟩)
    refine ⟨.ref s.heap.objs.size, _, I.laid (t' := s.toks) (o := .tup []) (fun b ob e => Heap.get?_push_of_some _ e) (Nat.le_refl _) ?_, rfl, q _ (I.hok.fresh (Nat.le_refl _))⟩
    exact ⟨Nat.zero_le _, [], .nil, PyProof.Rows.IsTup.new _ _⟩

/-! ### + -/
/-- the items of a list -/
def asL (S : Sto) : D → Option (List D)
  | .lst ds => some ds
  | .adr p => getS S p
  | _ => none
theorem asL_at {H : Hp} {S : Sto} {x : V} {d : D} {ds : List D} (r : HR K dx H S) (h : Dt K (Mu dx S) H x d) (e : asL S d = some ds) : ∃ p vs, x = .ref p ∧ H p = some (.lst vs) ∧ DtAll K (Mu dx S) H vs ds := by
  cases h with
  | lst n h a =>
    have e : some _ = some ds := e
    cases e
    exact ⟨_, _, rfl, h, a⟩
  | adr p =>
    obtain ⟨_, vs, eh, al⟩ := r.get e
    exact ⟨p, vs, rfl, eh, al⟩
  | _ => cases e
def fAddL (p q : D) (S : Sto) (Q : D → Sto → Prop) : Prop := opt (asL S p) fun xs => opt (asL S q) fun ys => Fit (xs.length + ys.length) ∧ Q (.lst (xs ++ ys)) S
def fAdd : F2
  | .int i, .int j, S, Q => Q (.int (i + j)) S
  | .str x, .str y, S, Q => Fit (x.length + y.length) ∧ Q (.str (x ++ y)) S
  | .tup xs, .tup ys, S, Q => Fit (xs.length + ys.length) ∧ Q (.tup (xs ++ ys)) S
  | p, q, S, Q => fAddL p q S Q
def rAdd (K : PySem.W.Frag) : R2 := fun x y H Q => (∃ i j, x = .int i ∧ y = .int j ∧ Q (.int (i + j)) H) ∨ (∃ i j, x = .str i ∧ y = .str j ∧ i.length + j.length ≤ sizeLine ∧ Q (.str (i ++ j)) H) ∨ rCatA K x y H Q ∨ rCat x y H Q
theorem op_addAll : OpR X (binaryOp .Add) (DL.rAdd X.K) := op_add.or (op_add_str.or (op_catA.or op_cat))
theorem od_add : OpD K dx (DL.rAdd K) fAdd := by
  have lists : ∀ x y p q H S Q Qh, HR K dx H S → Dt K (Mu dx S) H x p → Dt K (Mu dx S) H y q → fAddL p q S Q → ThE K dx H S Q Qh → rCat x y H Qh := by
    intro x y p q H S Q Qh r hx hy t k
    obtain ⟨xs, e1, t⟩ := opt_run t
    obtain ⟨ys, e2, t⟩ := opt_run t
    obtain ⟨l, vs, rfl, h1, a1⟩ := asL_at r hx e1
    obtain ⟨b, ws, rfl, h2, a2⟩ := asL_at r hy e2
    refine ⟨l, b, vs, ws, rfl, rfl, h1, h2, by rw [a1.length, a2.length]; exact t.1.line, fun z n => ?_⟩
    obtain ⟨r2, x2, d2⟩ := new_lst r n (a1.append a2)
    exact k _ _ _ S r2 x2 d2 t.2
  have tups : ∀ x y xs ys H S Q Qh, HR K dx H S → Dt K (Mu dx S) H x (.tup xs) → Dt K (Mu dx S) H y (.tup ys) → Fit (xs.length + ys.length) ∧ Q (.tup (xs ++ ys)) S → ThE K dx H S Q Qh → rCatA K x y H Qh := by
    intro x y xs ys H S Q Qh r hx hy t k
    obtain ⟨a, vs, rfl, h1, a1⟩ := hx.sqT
    obtain ⟨b, ws, rfl, h2, a2⟩ := hy.sqT
    refine ⟨a, b, vs, ws, rfl, rfl, h1, h2, by rw [a1.length, a2.length]; exact t.1.line, fun e => ?_, fun _ e => ?_, fun _ _ z n => ?_⟩
    · subst e
      cases a1
      exact k _ H _ S r Ext.refl hy t.2
    · subst e
      cases a2
      have t2 := t.2
      rw [List.append_nil] at t2
      exact k _ H _ S r Ext.refl hx t2
    · obtain ⟨r2, x2, d2⟩ := new_tup r n (a1.append a2)
      exact k _ _ _ S r2 x2 d2 t.2
  intro x y p q H S Q Qh r hx hy t k
  cases p with
  | int i =>
    cases q with
    | int j =>
      cases hx
      cases hy
      exact .inl ⟨i, j, rfl, rfl, k _ H _ S r Ext.refl (.int _) t⟩
    | _ => exact .inr (.inr (.inr (lists _ _ _ _ H S Q Qh r hx hy t k)))
  | str i =>
    cases q with
    | str j =>
      cases hx
      cases hy
      exact .inr (.inl ⟨i, j, rfl, rfl, t.1.line, k _ H _ S r Ext.refl (.str _) t.2⟩)
    | _ => exact .inr (.inr (.inr (lists _ _ _ _ H S Q Qh r hx hy t k)))
  | tup xs =>
    cases q with
    | tup ys => exact .inr (.inr (.inl (tups _ _ _ _ H S Q Qh r hx hy t k)))
    | _ => exact .inr (.inr (.inr (lists _ _ _ _ H S Q Qh r hx hy t k)))
  | _ => cases q <;> exact .inr (.inr (.inr (lists _ _ _ _ H S Q Qh r hx hy t k)))

/-! ### numbers -/
def onI (C : Int → Int → Prop) (g : Int → Int → D) : F2
  | .int i, .int j, S, Q => C i j ∧ Q (g i j) S
  | _, _, _, _ => False
theorem od_onI {C : Int → Int → Prop} {g : Int → Int → Int} : OpD K dx (rI C fun i j => .int (g i j)) (onI C fun i j => .int (g i j)) := by
  intro x y p q H S Q Qh r hx hy t k
  cases hx with
  | int i =>
    cases hy with
    | int j => exact ⟨i, j, rfl, rfl, t.1, k _ H _ S r Ext.refl (.int _) t.2⟩
    | _ => exact t.elim
  | _ => cases hy <;> exact t.elim
def onI0 (g : Int → Int → D) : F2
  | .int i, .int j, S, Q => Q (g i j) S
  | _, _, _, _ => False
theorem od_onI0 {g : Int → Int → Int} : OpD K dx (rI0 fun i j => .int (g i j)) (onI0 fun i j => .int (g i j)) := by
  intro x y p q H S Q Qh r hx hy t k
  cases hx with
  | int i =>
    cases hy with
    | int j => exact ⟨i, j, rfl, rfl, k _ H _ S r Ext.refl (.int _) t⟩
    | _ => exact t.elim
  | _ => cases hy <;> exact t.elim
theorem od_onB {g : Int → Int → Bool} : OpD K dx (rI0 fun i j => .bl (g i j)) (onI0 fun i j => .bl (g i j)) := by
  intro x y p q H S Q Qh r hx hy t k
  cases hx with
  | int i =>
    cases hy with
    | int j => exact ⟨i, j, rfl, rfl, k _ H _ S r Ext.refl (.bl _) t⟩
    | _ => exact t.elim
  | _ => cases hy <;> exact t.elim
def fSub : F2 := onI0 fun i j => .int (i - j)
def fLt : F2 := onI0 fun i j => .bl (decide (i < j))
def fLe : F2 := onI0 fun i j => .bl (decide (i ≤ j))
def fGt : F2 := onI0 fun i j => .bl (decide (j < i))
def fGe : F2 := onI0 fun i j => .bl (decide (j ≤ i))
def MOk (i j : Int) : Prop := CMul i j ∨ CMulW i j
/-- a product of which one side is small -/
theorem MOk.left {i j : Int} (h : -(2 ^ 64) < i ∧ i < 2 ^ 64) : MOk i j := .inl (.inl h)
theorem MOk.right {i j : Int} (h : -(2 ^ 64) < j ∧ j < 2 ^ 64) : MOk i j := .inl (.inr h)
def fMul : F2
  | .int i, .int j, S, Q => MOk i j ∧ Q (.int (i * j)) S
  | .tup ds, .int k, S, Q => ds ≠ [] ∧ 0 ≤ k ∧ k ≤ 1000 ∧ ds.length ≤ 1000 ∧ Q (.tup (List.replicate k.toNat ds).flatten) S
  | .lst ds, .int k, S, Q => -(2 ^ 63) ≤ k ∧ k < 2 ^ 63 ∧ Fit (ds.length * k.toNat) ∧ Q (.lst (List.replicate k.toNat ds).flatten) S
  | _, _, _, _ => False
def rMul (K : PySem.W.Frag) : R2 := fun x y H Q => rI CMul (fun i j => .int (i * j)) x y H Q ∨ rI CMulW (fun i j => .int (i * j)) x y H Q ∨ rRep01 K x y H Q ∨ rRepT K x y H Q ∨ rRep x y H Q
theorem op_mulAll : OpR X (binaryOp .Mult) (rMul X.K) := op_mul.or (op_mulW.or (op_rep01.or (op_repT.or op_rep)))
theorem od_mul : OpD K dx (rMul K) fMul := by
  intro x y p q H S Q Qh r hx hy t k
  cases hy with
  | int j =>
    cases p with
    | int i =>
      cases hx
      rcases t with ⟨t | t, q⟩
      · exact .inl ⟨i, j, rfl, rfl, t, k _ H _ S r Ext.refl (.int _) q⟩
      · exact .inr (.inl ⟨i, j, rfl, rfl, t, k _ H _ S r Ext.refl (.int _) q⟩)
    | tup ds =>
      obtain ⟨ne, h0, h1, h2, q⟩ := t
      obtain ⟨a, vs, rfl, hT, al⟩ := hx.sqT
      have nv : vs ≠ [] := fun e => ne (by subst e; cases al; rfl)
      by_cases c0 : j = 0
      · subst c0
        refine .inr (.inr (.inl ⟨a, 0, vs, rfl, rfl, hT, nv, .inr ⟨rfl, fun z n => ?_⟩⟩))
        obtain ⟨r2, x2, d2⟩ := new_tup (ds := []) r n .nil
        exact k _ _ _ S r2 x2 d2 q
      · by_cases c1 : j = 1
        · subst c1
          have q : Q (.tup (List.replicate 1 ds).flatten) S := q
          rw [List.replicate_one, List.flatten_singleton] at q
          exact .inr (.inr (.inl ⟨a, 1, vs, rfl, rfl, hT, nv, .inl ⟨rfl, k _ H _ S r Ext.refl hx q⟩⟩))
        · refine .inr (.inr (.inr (.inl ⟨a, j, vs, rfl, rfl, hT, nv, by omega, h1, by rw [al.length]; exact h2, fun z n => ?_⟩)))
          obtain ⟨r2, x2, d2⟩ := new_tup r n (al.rep j.toNat)
          exact k _ _ _ S r2 x2 d2 q
    | lst ds =>
      obtain ⟨h0, h1, h2, q⟩ := t
      obtain ⟨a, vs, rfl, _, hl, al⟩ := hx.sqL
      refine .inr (.inr (.inr (.inr ⟨a, j, vs, rfl, rfl, hl, h0, h1, by rw [al.length]; exact h2.line, fun z n => ?_⟩)))
      obtain ⟨r2, x2, d2⟩ := new_lst r n (al.rep j.toNat)
      exact k _ _ _ S r2 x2 d2 q
    | _ => exact t.elim
  | _ => cases hx <;> exact t.elim
def fMod : F2 := onI (fun _ j => 0 < j) fun i j => .int (i % j)
def fDiv : F2 := onI CDivW fun i j => .int (i / j)
def fPow : F2 := onI CPow fun i j => .int (i ^ j.toNat)
def fAnd : F2 := onI0 fun i j => .int (Builtin.bitAnd i j)
def fOr : F2 := onI0 fun i j => .int (Builtin.bitOr i j)
def fXor : F2 := onI0 fun i j => .int (Builtin.bitXor i j)
def fShl : F2 := onI CPow fun i j => .int (i * 2 ^ j.toNat)
theorem ip_addI : OpD K dx (ipI fun i j => i + j) (onI0 fun i j => .int (i + j)) := by
  intro x y p q H S Q Qh r hx hy t k
  cases hx with
  | int i =>
    cases hy with
    | int j => exact ⟨i, j, rfl, rfl, k _ H _ S r Ext.refl (.int _) t⟩
    | _ => exact t.elim
  | _ => cases hy <;> exact t.elim
theorem ip_subI : OpD K dx (ipI fun i j => i - j) (onI0 fun i j => .int (i - j)) := by
  intro x y p q H S Q Qh r hx hy t k
  cases hx with
  | int i =>
    cases hy with
    | int j => exact ⟨i, j, rfl, rfl, k _ H _ S r Ext.refl (.int _) t⟩
    | _ => exact t.elim
  | _ => cases hy <;> exact t.elim

/-! ### is None -/
def fIsN : F2
  | p, .non, S, Q => Q (.bl (match p with | .non => true | _ => false)) S
  | _, _, _, _ => False
def fNotN : F2
  | p, .non, S, Q => Q (.bl (match p with | .non => false | _ => true)) S
  | _, _, _, _ => False
theorem od_isN : OpD K dx (fun x y H Q => y = .non ∧ Q (.bl (decide (x = .non))) H) fIsN := by
  intro x y p q H S Q Qh r hx hy t k
  cases hy with
  | non =>
    refine ⟨rfl, ?_⟩
    cases hx <;> exact k _ H _ S r Ext.refl (.bl _) t
  | _ => cases p <;> exact t.elim
theorem od_notN : OpD K dx (fun x y H Q => y = .non ∧ Q (.bl (!decide (x = .non))) H) fNotN := by
  intro x y p q H S Q Qh r hx hy t k
  cases hy with
  | non =>
    refine ⟨rfl, ?_⟩
    cases hx <;> exact k _ H _ S r Ext.refl (.bl _) t
  | _ => cases p <;> exact t.elim
end
end DL
/-! Readings over data: ==, repr, built-ins. -/
namespace DL
open PySem PySem.Spec L2 Gd

mutual
def py : D → PyData
  | .non => .none
  | .bl b => .bool b
  | .int i => .int i
  | .str x => .str x
  | .tup ds => .tuple (pyAll ds)
  | .lst ds => .list (pyAll ds)
  | .fls ns => .list (ns.map .int)
  | .adr _ => .none
  | .dic _ _ => .none
  | .dlt _ _ => .none
  | .obj _ _ _ => .none
def pyAll : List D → List PyData
  | [] => []
  | d :: ds => py d :: pyAll ds
end
/-- data without addresses, at most n deep -/
def dn : Nat → D → Bool
  | _, .non => true
  | _, .bl _ => true
  | _, .int _ => true
  | _, .str x => PyData.strOk x
  | n + 1, .tup ds => ds.all (dn n)
  | n + 1, .lst ds => ds.all (dn n)
  | _, _ => false
/-- .. and without True and False -/
def nb : Nat → D → Bool
  | _, .non => true
  | _, .int _ => true
  | _, .str x => PyData.strOk x
  | n + 1, .tup ds => ds.all (nb n)
  | n + 1, .lst ds => ds.all (nb n)
  | _, _ => false
theorem nb_dn : ∀ {n : Nat} {d : D}, nb n d = true → dn n d = true
  | _, .non, _ => by cases ‹Nat› <;> rfl
  | _, .int _, _ => by cases ‹Nat› <;> rfl
  | 0, .str _, h => h
  | _ + 1, .str _, h => h
  | n + 1, .tup ds, h => List.all_eq_true.mpr fun x m => nb_dn (List.all_eq_true.mp h x m)
  | n + 1, .lst ds, h => List.all_eq_true.mpr fun x m => nb_dn (List.all_eq_true.mp h x m)
  | 0, .tup _, h => by cases h
  | 0, .lst _, h => by cases h
  | 0, .bl _, h => by cases h
  | _ + 1, .bl _, h => by cases h
  | 0, .adr _, h => by cases h
  | _ + 1, .adr _, h => by cases h
  | 0, .fls _, h => by cases h
  | _ + 1, .fls _, h => by cases h
  | 0, .dic _ _, h => by cases h
  | 0, .dlt _ _, h => by cases h
  | _ + 1, .dic _ _, h => by cases h
  | _ + 1, .dlt _ _, h => by cases h
  | 0, .obj _ _ _, h => by cases h
  | _ + 1, .obj _ _ _, h => by cases h
section
variable {K : PySem.W.Frag} {M : Mm} {H : Hp}
mutual
theorem dp_of : ∀ {n : Nat} {v : V} {d : D}, Dt K M H v d → dn n d = true → Dp K H v (py d)
  | _, _, _, .non, _ => .non
  | _, _, _, .bl b, _ => .bl b
  | _, _, _, .int i, _ => .int i
  | _, _, _, .str x, _ => .str x
  | n + 1, _, _, .tup _ h a, q => .tup (.inl h) (dpAll_of a (n := n) (List.all_eq_true.mp q))
  | n + 1, _, _, .ktup h a, q => .tup (.inr h) (dpAll_of a (n := n) (List.all_eq_true.mp q))
  | n + 1, _, _, .lst _ h a, q => .lst (SqL.of h) (dpAll_of a (n := n) (List.all_eq_true.mp q))
  | 0, _, _, .tup _ _ _, q => by cases q
  | 0, _, _, .ktup _ _, q => by cases q
  | 0, _, _, .lst _ _ _, q => by cases q
  | 0, _, _, .fls _ _, q => by cases q
  | _ + 1, _, _, .fls _ _, q => by cases q
  | 0, _, _, .kfls _, q => by cases q
  | _ + 1, _, _, .kfls _, q => by cases q
  | 0, _, _, .adr _, q => by cases q
  | _ + 1, _, _, .adr _, q => by cases q
  | 0, _, _, .dic _ _ _ _, q => by cases q
  | 0, _, _, .dlt _ _ _ _, q => by cases q
  | _ + 1, _, _, .dic _ _ _ _, q => by cases q
  | _ + 1, _, _, .dlt _ _ _ _, q => by cases q
  | 0, _, _, .obj _ _ _ _ _, q => by cases q
  | _ + 1, _, _, .obj _ _ _ _ _, q => by cases q
  | 0, _, _, .ztup _ _ _, q => by cases q
  | _ + 1, _, _, .ztup _ _ _, q => by cases q
theorem dpAll_of : ∀ {n : Nat} {vs : List V} {ds : List D}, DtAll K M H vs ds → (∀ x ∈ ds, dn n x = true) → DpAll K H vs (pyAll ds)
  | _, _, _, .nil, _ => .nil
  | _, _, _, .cons h t, q => .cons (dp_of h (q _ List.mem_cons_self)) (dpAll_of t fun x m => q x (List.mem_cons_of_mem _ m))
end
end
mutual
theorem py_can : ∀ {n : Nat} {d : D}, dn n d = true → (py d).canLay0 = true
  | _, .non, _ => by simp [py, PyData.canLay0]
  | _, .bl _, _ => by simp [py, PyData.canLay0]
  | _, .int _, _ => by simp [py, PyData.canLay0]
  | 0, .str x, h => by
    simp only [py, PyData.canLay0]
    exact h
  | _ + 1, .str x, h => by
    simp only [py, PyData.canLay0]
    exact h
  | n + 1, .tup ds, h => by
    simp only [py, PyData.canLay0]
    exact pyAll_can (n := n) (List.all_eq_true.mp h)
  | n + 1, .lst ds, h => by
    simp only [py, PyData.canLay0]
    exact pyAll_can (n := n) (List.all_eq_true.mp h)
  | 0, .tup _, h => by cases h
  | 0, .lst _, h => by cases h
  | 0, .adr _, h => by cases h
  | _ + 1, .adr _, h => by cases h
  | 0, .fls _, h => by cases h
  | _ + 1, .fls _, h => by cases h
  | 0, .dic _ _, h => by cases h
  | 0, .dlt _ _, h => by cases h
  | _ + 1, .dic _ _, h => by cases h
  | _ + 1, .dlt _ _, h => by cases h
  | 0, .obj _ _ _, h => by cases h
  | _ + 1, .obj _ _ _, h => by cases h
theorem pyAll_can : ∀ {n : Nat} {ds : List D}, (∀ x ∈ ds, dn n x = true) → PyData.canLayAll0 (pyAll ds) = true
  | _, [], _ => by simp [pyAll, PyData.canLayAll0]
  | n, d :: ds, h => by
    simp only [pyAll, PyData.canLayAll0, Bool.and_eq_true]
    exact ⟨py_can (h _ List.mem_cons_self), pyAll_can fun x m => h x (List.mem_cons_of_mem _ m)⟩
end
mutual
theorem py_depth : ∀ {n : Nat} {d : D}, dn n d = true → (py d).depth ≤ n
  | _, .non, _ => by simp [py, PyData.depth]
  | _, .bl _, _ => by simp [py, PyData.depth]
  | _, .int _, _ => by simp [py, PyData.depth]
  | 0, .str x, h => by simp [py, PyData.depth]
  | _ + 1, .str x, h => by simp [py, PyData.depth]
  | n + 1, .tup ds, h => by
    simp only [py, PyData.depth]
    exact Nat.succ_le_succ (pyAll_depth (n := n) (List.all_eq_true.mp h))
  | n + 1, .lst ds, h => by
    simp only [py, PyData.depth]
    exact Nat.succ_le_succ (pyAll_depth (n := n) (List.all_eq_true.mp h))
  | 0, .tup _, h => by cases h
  | 0, .lst _, h => by cases h
  | 0, .adr _, h => by cases h
  | _ + 1, .adr _, h => by cases h
  | 0, .fls _, h => by cases h
  | _ + 1, .fls _, h => by cases h
  | 0, .dic _ _, h => by cases h
  | 0, .dlt _ _, h => by cases h
  | _ + 1, .dic _ _, h => by cases h
  | _ + 1, .dlt _ _, h => by cases h
  | 0, .obj _ _ _, h => by cases h
  | _ + 1, .obj _ _ _, h => by cases h
theorem pyAll_depth : ∀ {n : Nat} {ds : List D}, (∀ x ∈ ds, dn n x = true) → PyData.depthAll (pyAll ds) ≤ n
  | _, [], _ => by simp [pyAll, PyData.depthAll]
  | n, d :: ds, h => by
    simp only [pyAll, PyData.depthAll]
    exact Nat.max_le.mpr ⟨py_depth (h _ List.mem_cons_self), pyAll_depth fun x m => h x (List.mem_cons_of_mem _ m)⟩
end
theorem py_shaped {d : D} (h : dn 40 d = true) : SeqAt.shaped (py d) = true := by
  unfold SeqAt.shaped
  rw [py_can h, Bool.true_and]
  have := py_depth h
  exact decide_eq_true (by omega)
def deq (a b : D) : Bool := PyData.eqv (py a) (py b)
theorem deq_refl {n : Nat} {d : D} (h : dn n d = true) : deq d d = true := SeqAt.eqv_refl _ (py_can h)
mutual
theorem eqv_eq : ∀ {n : Nat} {a b : D}, nb n a = true → nb n b = true → PyData.eqv (py a) (py b) = true → a = b
  | _, .non, .non, _, _, _ => rfl
  | _, .int i, .int j, _, _, h => by
    simp only [py, PyData.eqv, beq_iff_eq] at h
    rw [h]
  | _, .str x, .str y, _, _, h => by
    simp only [py, PyData.eqv, beq_iff_eq] at h
    rw [h]
  | n + 1, .tup xs, .tup ys, ha, hb, h => by
    simp only [py, PyData.eqv] at h
    rw [eqvAll_eq (n := n) (List.all_eq_true.mp ha) (List.all_eq_true.mp hb) h]
  | n + 1, .lst xs, .lst ys, ha, hb, h => by
    simp only [py, PyData.eqv] at h
    rw [eqvAll_eq (n := n) (List.all_eq_true.mp ha) (List.all_eq_true.mp hb) h]
  | 0, .bl _, _, h, _, _ => by cases h
  | _ + 1, .bl _, _, h, _, _ => by cases h
  | 0, .fls _, _, h, _, _ => by cases h
  | _ + 1, .fls _, _, h, _, _ => by cases h
  | 0, .adr _, _, h, _, _ => by cases h
  | _ + 1, .adr _, _, h, _, _ => by cases h
  | 0, .tup _, _, h, _, _ => by cases h
  | 0, .lst _, _, h, _, _ => by cases h
  | 0, _, .bl _, _, h, _ => by cases h
  | _ + 1, _, .bl _, _, h, _ => by cases h
  | 0, _, .fls _, _, h, _ => by cases h
  | _ + 1, _, .fls _, _, h, _ => by cases h
  | 0, _, .adr _, _, h, _ => by cases h
  | _ + 1, _, .adr _, _, h, _ => by cases h
  | 0, _, .tup _, _, h, _ => by cases h
  | 0, _, .lst _, _, h, _ => by cases h
  | 0, .dic _ _, _, h, _, _ => by cases h
  | 0, .dlt _ _, _, h, _, _ => by cases h
  | _ + 1, .dic _ _, _, h, _, _ => by cases h
  | _ + 1, .dlt _ _, _, h, _, _ => by cases h
  | 0, .obj _ _ _, _, h, _, _ => by cases h
  | _ + 1, .obj _ _ _, _, h, _, _ => by cases h
  | 0, _, .dic _ _, _, h, _ => by cases h
  | 0, _, .dlt _ _, _, h, _ => by cases h
  | _ + 1, _, .dic _ _, _, h, _ => by cases h
  | _ + 1, _, .dlt _ _, _, h, _ => by cases h
  | 0, _, .obj _ _ _, _, h, _ => by cases h
  | _ + 1, _, .obj _ _ _, _, h, _ => by cases h
  | _, .non, .int _, _, _, h => by simp [py, PyData.eqv] at h
  | _, .non, .str _, _, _, h => by simp [py, PyData.eqv] at h
  | _ + 1, .non, .tup _, _, _, h => by simp [py, PyData.eqv] at h
  | _ + 1, .non, .lst _, _, _, h => by simp [py, PyData.eqv] at h
  | _, .int _, .non, _, _, h => by simp [py, PyData.eqv] at h
  | _, .int _, .str _, _, _, h => by simp [py, PyData.eqv] at h
  | _ + 1, .int _, .tup _, _, _, h => by simp [py, PyData.eqv] at h
  | _ + 1, .int _, .lst _, _, _, h => by simp [py, PyData.eqv] at h
  | _, .str _, .non, _, _, h => by simp [py, PyData.eqv] at h
  | _, .str _, .int _, _, _, h => by simp [py, PyData.eqv] at h
  | _ + 1, .str _, .tup _, _, _, h => by simp [py, PyData.eqv] at h
  | _ + 1, .str _, .lst _, _, _, h => by simp [py, PyData.eqv] at h
  | _ + 1, .tup _, .non, _, _, h => by simp [py, PyData.eqv] at h
  | _ + 1, .tup _, .int _, _, _, h => by simp [py, PyData.eqv] at h
  | _ + 1, .tup _, .str _, _, _, h => by simp [py, PyData.eqv] at h
  | _ + 1, .tup _, .lst _, _, _, h => by simp [py, PyData.eqv] at h
  | _ + 1, .lst _, .non, _, _, h => by simp [py, PyData.eqv] at h
  | _ + 1, .lst _, .int _, _, _, h => by simp [py, PyData.eqv] at h
  | _ + 1, .lst _, .str _, _, _, h => by simp [py, PyData.eqv] at h
  | _ + 1, .lst _, .tup _, _, _, h => by simp [py, PyData.eqv] at h
theorem eqvAll_eq : ∀ {n : Nat} {xs ys : List D}, (∀ x ∈ xs, nb n x = true) → (∀ x ∈ ys, nb n x = true) → PyData.eqvAll (pyAll xs) (pyAll ys) = true → xs = ys
  | _, [], [], _, _, _ => rfl
  | _, x :: xs, y :: ys, ha, hb, h => by
    simp only [pyAll, PyData.eqvAll, Bool.and_eq_true] at h
    rw [eqv_eq (ha _ List.mem_cons_self) (hb _ List.mem_cons_self) h.1, eqvAll_eq (fun z m => ha z (List.mem_cons_of_mem _ m)) (fun z m => hb z (List.mem_cons_of_mem _ m)) h.2]
  | _, [], _ :: _, _, _, h => by simp [pyAll, PyData.eqvAll] at h
  | _, _ :: _, [], _, _, h => by simp [pyAll, PyData.eqvAll] at h
end
theorem deq_iff {n : Nat} {a b : D} (ha : nb n a = true) (hb : nb n b = true) : deq a b = true ↔ a = b :=
  ⟨eqv_eq ha hb, fun e => e ▸ deq_refl (nb_dn ha)⟩
open Classical in
theorem deq_dec {n : Nat} {a b : D} (ha : nb n a = true) (hb : nb n b = true) : deq a b = decide (a = b) := by
  by_cases h : a = b
  · rw [decide_eq_true h]
    exact (deq_iff ha hb).mpr h
  · rw [decide_eq_false h]
    exact Bool.eq_false_iff.mpr fun e => h ((deq_iff ha hb).mp e)

/-! ### == != -/
def fEqD : F2 := fun a b S Q => dn 40 (frz S a) = true ∧ dn 40 (frz S b) = true ∧ Q (.bl (deq (frz S a) (frz S b))) S
def fNeD : F2 := fun a b S Q => dn 40 (frz S a) = true ∧ dn 40 (frz S b) = true ∧ Q (.bl (!deq (frz S a) (frz S b))) S
def fEq : F2
  | .int i, .int j, S, Q => Q (.bl (decide (i = j))) S
  | .str i, .str j, S, Q => Q (.bl (decide (i = j))) S
  | a, b, S, Q => fEqD a b S Q
def fNe : F2
  | .int i, .int j, S, Q => Q (.bl (!decide (i = j))) S
  | .str i, .str j, S, Q => Q (.bl (!decide (i = j))) S
  | a, b, S, Q => fNeD a b S Q
section
variable {X : Cx} {dx : Dx} {K : PySem.W.Frag}
theorem dp_frz {H : Hp} {S : Sto} {v : V} {d : D} (r : HR K dx H S) (h : Dt K (Mu dx S) H v d) {n : Nat} (q : dn n (frz S d) = true) : Dp K H v (py (frz S d)) := dp_of (frz_ok r h) q
theorem od_eqD : OpD K dx (rEqD K) fEqD := by
  intro x y p q H S Q Qh r hx hy t k
  exact ⟨_, _, dp_frz r hx t.1, dp_frz r hy t.2.1, py_shaped t.1, py_shaped t.2.1, k _ H _ S r Ext.refl (.bl _) t.2.2⟩
theorem od_neD : OpD K dx (rNeD K) fNeD := by
  intro x y p q H S Q Qh r hx hy t k
  exact ⟨_, _, dp_frz r hx t.1, dp_frz r hy t.2.1, py_shaped t.1, py_shaped t.2.1, k _ H _ S r Ext.refl (.bl _) t.2.2⟩
def rEqA (K : PySem.W.Frag) : R2 := fun x y H Q => rEq x y H Q ∨ rEqD K x y H Q
def rNeA (K : PySem.W.Frag) : R2 := fun x y H Q => rNe x y H Q ∨ rNeD K x y H Q
theorem op_eqA (hu : X.A.units + 64 < cLine) : OpR X (compareOp .Eq) (rEqA X.K) := op_eq.or (op_eqD hu)
theorem op_neA (hu : X.A.units + 64 < cLine) : OpR X (compareOp .NotEq) (rNeA X.K) := op_ne.or (op_neD hu)
theorem od_eq : OpD K dx (rEqA K) fEq := by
  intro x y p q H S Q Qh r hx hy t k
  unfold fEq at t
  split at t
  · rename_i i j
    cases hx
    cases hy
    refine .inl ⟨rfl, ?_⟩
    have e : decide (V.int i = V.int j) = decide (i = j) := decide_eq_decide.mpr ⟨fun h => by cases h; rfl, fun h => by rw [h]⟩
    rw [e]
    exact k _ H _ S r Ext.refl (.bl _) t
  · rename_i i j
    cases hx
    cases hy
    refine .inl ⟨rfl, ?_⟩
    have e : decide (V.str i = V.str j) = decide (i = j) := decide_eq_decide.mpr ⟨fun h => by cases h; rfl, fun h => by rw [h]⟩
    rw [e]
    exact k _ H _ S r Ext.refl (.bl _) t
  · exact .inr (od_eqD x y p q H S Q Qh r hx hy t k)
theorem od_ne : OpD K dx (rNeA K) fNe := by
  intro x y p q H S Q Qh r hx hy t k
  unfold fNe at t
  split at t
  · rename_i i j
    cases hx
    cases hy
    refine .inl ⟨rfl, ?_⟩
    have e : decide (V.int i = V.int j) = decide (i = j) := decide_eq_decide.mpr ⟨fun h => by cases h; rfl, fun h => by rw [h]⟩
    rw [e]
    exact k _ H _ S r Ext.refl (.bl _) t
  · rename_i i j
    cases hx
    cases hy
    refine .inl ⟨rfl, ?_⟩
    have e : decide (V.str i = V.str j) = decide (i = j) := decide_eq_decide.mpr ⟨fun h => by cases h; rfl, fun h => by rw [h]⟩
    rw [e]
    exact k _ H _ S r Ext.refl (.bl _) t
  · exact .inr (od_neD x y p q H S Q Qh r hx hy t k)

/-! ### repr -/
mutual
/-- the text has at most so many signs -/
def rsz : D → Nat
  | .non => 4
  | .bl _ => 5
  | .int _ => 1921
  | .str x => 10 * x.length + 2
  | .tup ds => rszAll ds + 4
  | .lst ds => rszAll ds + 4
  | _ => 0
def rszAll : List D → Nat
  | [] => 0
  | d :: ds => rsz d + 2 + rszAll ds
end
mutual
/-- the ints are not too long -/
def ish : D → Bool
  | .int i => decide (i.natAbs < 2 ^ 1900)
  | .tup ds => ishAll ds
  | .lst ds => ishAll ds
  | _ => true
def ishAll : List D → Bool
  | [] => true
  | d :: ds => ish d && ishAll ds
end
end
end DL
/-! Readings over data: repr, built-ins, methods. -/
namespace DL
open PySem PySem.Spec L2 Gd

theorem log_of {i : Int} (h : i.natAbs < 2 ^ 1900) : i.natAbs.log2 < 1920 := by
  by_cases z : i.natAbs = 0
  · rw [z]
    decide
  · have := (Nat.log2_lt z).mpr h
    omega
mutual
theorem py_showable : ∀ {n : Nat} {d : D}, dn n d = true → ish d = true → (py d).showable = true
  | _, .non, _, _ => by simp [py, PyData.showable]
  | _, .bl _, _, _ => by simp [py, PyData.showable]
  | _, .int i, _, h => by
    simp only [py, PyData.showable]
    simp only [ish, decide_eq_true_eq] at h
    exact decide_eq_true (log_of h)
  | _, .str x, h, _ => by simp [py, PyData.showable]
  | n + 1, .tup ds, h, q => by
    simp only [py, PyData.showable]
    simp only [ish] at q
    exact pyAll_showable (n := n) (List.all_eq_true.mp h) q
  | n + 1, .lst ds, h, q => by
    simp only [py, PyData.showable]
    simp only [ish] at q
    exact pyAll_showable (n := n) (List.all_eq_true.mp h) q
  | 0, .tup _, h, _ => by cases h
  | 0, .lst _, h, _ => by cases h
  | 0, .adr _, h, _ => by cases h
  | _ + 1, .adr _, h, _ => by cases h
  | 0, .fls _, h, _ => by cases h
  | _ + 1, .fls _, h, _ => by cases h
  | 0, .dic _ _, h, _ => by cases h
  | 0, .dlt _ _, h, _ => by cases h
  | _ + 1, .dic _ _, h, _ => by cases h
  | _ + 1, .dlt _ _, h, _ => by cases h
  | 0, .obj _ _ _, h, _ => by cases h
  | _ + 1, .obj _ _ _, h, _ => by cases h
theorem pyAll_showable : ∀ {n : Nat} {ds : List D}, (∀ x ∈ ds, dn n x = true) → ishAll ds = true → PyData.showableAll (pyAll ds) = true
  | _, [], _, _ => by simp [pyAll, PyData.showableAll]
  | n, d :: ds, h, q => by
    simp only [ishAll, Bool.and_eq_true] at q
    simp only [pyAll, PyData.showableAll, Bool.and_eq_true]
    exact ⟨py_showable (h _ List.mem_cons_self) q.1, pyAll_showable (fun x m => h x (List.mem_cons_of_mem _ m)) q.2⟩
end
theorem join_le (ts : List Str) : (Str.join ", " ts).length ≤ piled ts := by
  cases ts with
  | nil => exact Nat.zero_le _
  | cons a r =>
    have := join_length_add (a :: r) (by simp)
    omega
theorem str_wide {x : Str} (h : PyData.strOk x = true) : ∀ c ∈ x.cps.toList, c < 16 ^ 8 := by
  intro c m
  unfold PyData.strOk at h
  have := Array.all_eq_true_iff_forall_mem.mp h c (Array.mem_toList_iff.mp m)
  have : c < 1114112 := by simpa using this
  omega
mutual
theorem py_len : ∀ {n : Nat} {d : D}, dn n d = true → ish d = true → (py d).shown.length ≤ rsz d
  | _, .non, _, _ => by
    simp only [py, PyData.shown, rsz]
    decide
  | _, .bl b, _, _ => by
    simp only [py, PyData.shown, rsz]
    cases b <;> decide
  | _, .int i, _, h => by
    simp only [py, PyData.shown, rsz]
    simp only [ish, decide_eq_true_eq] at h
    exact PyProof.Rows.int_text_len_1921 (log_of h)
  | 0, .str x, h, _ => by
    simp only [py, PyData.shown, rsz]
    exact StrLaws.reprText_len x (str_wide h)
  | _ + 1, .str x, h, _ => by
    simp only [py, PyData.shown, rsz]
    exact StrLaws.reprText_len x (str_wide h)
  | n + 1, .tup ds, h, q => by
    simp only [ish] at q
    have ih := pyAll_len (n := n) (List.all_eq_true.mp h) q
    have j := join_le (PyData.shownAll (pyAll ds))
    simp only [py, PyData.shown, rsz]
    unfold tupleText
    rw [strLen_append, strLen_append]
    have e1 : ((("(" : String) : Str)).length = 1 := rfl
    have e3 : (((if (PyData.shownAll (pyAll ds)).length == 1 then ",)" else ")" : String) : Str)).length ≤ 2 := by split <;> decide
    omega
  | n + 1, .lst ds, h, q => by
    simp only [ish] at q
    have ih := pyAll_len (n := n) (List.all_eq_true.mp h) q
    have j := join_le (PyData.shownAll (pyAll ds))
    simp only [py, PyData.shown, rsz]
    rw [listText_eq_join, strLen_append, strLen_append]
    have e1 : ((("[" : String) : Str)).length = 1 := rfl
    have e3 : ((("]" : String) : Str)).length = 1 := rfl
    omega
  | 0, .tup _, h, _ => by cases h
  | 0, .lst _, h, _ => by cases h
  | 0, .adr _, h, _ => by cases h
  | _ + 1, .adr _, h, _ => by cases h
  | 0, .fls _, h, _ => by cases h
  | _ + 1, .fls _, h, _ => by cases h
  | 0, .dic _ _, h, _ => by cases h
  | 0, .dlt _ _, h, _ => by cases h
  | _ + 1, .dic _ _, h, _ => by cases h
  | _ + 1, .dlt _ _, h, _ => by cases h
  | 0, .obj _ _ _, h, _ => by cases h
  | _ + 1, .obj _ _ _, h, _ => by cases h
theorem pyAll_len : ∀ {n : Nat} {ds : List D}, (∀ x ∈ ds, dn n x = true) → ishAll ds = true → piled (PyData.shownAll (pyAll ds)) ≤ rszAll ds
  | _, [], _, _ => by simp [pyAll, PyData.shownAll, piled]
  | n, d :: ds, h, q => by
    simp only [ishAll, Bool.and_eq_true] at q
    simp only [pyAll, PyData.shownAll, piled_cons, rszAll]
    have a := py_len (h _ List.mem_cons_self) q.1
    have b := pyAll_len (fun x m => h x (List.mem_cons_of_mem _ m)) q.2
    omega
end
def shw (d : D) : Str := (py d).shown
/-- repr(d) can be told -/
def Rp (d : D) : Prop := dn 40 d = true ∧ ish d = true ∧ rsz d ≤ 16777216
/-- a call with one argument -/
def one (f : D → Sto → (D → Sto → Prop) → Prop) : List D → Sto → (D → Sto → Prop) → Prop
  | [d], S, Q => f d S Q
  | _, _, _ => False
theorem cd_one {K : PySem.W.Frag} {dx : Dx} {r : List V → Hp → VK → Prop} {f : D → Sto → (D → Sto → Prop) → Prop}
    (o : ∀ v d H S Q Qh, HR K dx H S → Dt K (Mu dx S) H v d → f d S Q → ThE K dx H S Q Qh → r [v] H Qh) : CallD K dx r (one f) := by
  intro vs ds H S Q Qh r0 a t k
  cases a with
  | nil => exact t.elim
  | cons h a =>
    cases a with
    | nil => exact o _ _ H S Q Qh r0 h t k
    | cons _ _ => exact t.elim
def fRepr (d : D) (S : Sto) (Q : D → Sto → Prop) : Prop := Rp (frz S d) ∧ Q (.str (shw (frz S d))) S
section
variable {X : Cx} {dx : Dx} {K : PySem.W.Frag}
def rRepr (K : PySem.W.Frag) : List V → Hp → VK → Prop := fun xs H Q => ∃ x d, xs = [x] ∧ Dp K H x d ∧ d.showable = true ∧ d.hasDict = false ∧ d.depth ≤ 60 ∧ d.shown.length ≤ sizeLine ∧ Q (.str d.shown) H
theorem cr_repr (guard : X.A.guards = some []) (hu : X.A.units + 64 < cLine) : CallR X (.builtin "repr") (rRepr X.K) := by
  intro pins s σ H xs us Q I r h
  obtain ⟨x, d, rfl, dp, sh, nd, dd, sz, q⟩ := h
  cases dp with
  | non =>
    obtain ⟨u, rfl, ru⟩ := vals1 r
    cases ru
    refine PySem.P.repr_of_none ?_
    simp only [PyData.shown] at q
    exact ⟨.str _, H, I.tok _, ⟨_, rfl⟩, q⟩
  | bl b =>
    obtain ⟨u, rfl, ru⟩ := vals1 r
    cases ru
    refine PySem.P.repr_of_bool ?_
    simp only [PyData.shown] at q
    exact ⟨.str _, H, I.tok _, ⟨_, rfl⟩, q⟩
  | int i =>
    obtain ⟨u, rfl, t, rfl⟩ := vals1 r
    simp only [PyData.showable, decide_eq_true_eq] at sh
    refine PySem.P.repr_of_int sh ?_
    simp only [PyData.shown] at q
    exact ⟨.str _, H, I.tok _, ⟨_, rfl⟩, q⟩
  | str z =>
    obtain ⟨u, rfl, t, rfl⟩ := vals1 r
    simp only [PyData.shown] at q sz
    refine PySem.P.repr_of_str ?_ sz
    exact ⟨.str _, H, I.tok _, ⟨_, rfl⟩, q⟩
  | lst h1 h2 => exact repr_box guard hu pins s σ H _ us Q I r ⟨_, _, rfl, .lst h1 h2, sh, nd, dd, sz, q⟩
  | tup h1 h2 => exact repr_box guard hu pins s σ H _ us Q I r ⟨_, _, rfl, .tup h1 h2, sh, nd, dd, sz, q⟩
theorem py_nodict {n : Nat} {d : D} (h : dn n d = true) : (py d).hasDict = false := PyData.hasDict_of_canLay _ (py_can h)
theorem cd_repr : CallD K dx (rRepr K) (one fRepr) := by
  refine cd_one fun v d H S Q Qh r h t k => ?_
  obtain ⟨⟨h1, h2, h3⟩, q⟩ := t
  refine ⟨v, _, rfl, dp_frz r h h1, py_showable h1 h2, py_nodict h1, ?_, ?_, k _ H _ S r Ext.refl (.str _) q⟩
  · have := py_depth h1
    omega
  · have := py_len h1 h2
    rw [sizeLine_eq]
    omega

/-! ### len, tuple, list, all, any, sum, abs, int -/
def fLen : D → Sto → (D → Sto → Prop) → Prop
  | .tup ds, S, Q => Q (.int ds.length) S
  | .lst ds, S, Q => Q (.int ds.length) S
  | .fls ds, S, Q => Q (.int ds.length) S
  | .adr p, S, Q => opt (getS S p) fun ds => Q (.int ds.length) S
  | .str z, S, Q => Fit z.length ∧ Q (.int z.length) S
  | _, _, _ => False
def rLen (K : PySem.W.Frag) : List V → Hp → VK → Prop := fun xs H Q => (∃ p ys, xs = [.ref p] ∧ (SqL K H p ys ∨ SqT K H p ys) ∧ Q (.int ys.length) H) ∨ (∃ z, xs = [.str z] ∧ z.length ≤ sizeLine ∧ Q (.int z.length) H)
theorem cr_len : CallR X (.builtin "len") (rLen X.K) := call_len_seq.or call_len_str
theorem cd_len : CallD K dx (rLen K) (one fLen) := by
  refine cd_one fun v d H S Q Qh r h t k => ?_
  cases d with
  | tup ds =>
    obtain ⟨p, xs, rfl, hs, al⟩ := h.sqT
    exact .inl ⟨p, xs, rfl, .inr hs, by rw [al.length]; exact k _ H _ S r Ext.refl (.int _) t⟩
  | lst ds =>
    obtain ⟨p, xs, rfl, _, hs, al⟩ := h.sqL
    exact .inl ⟨p, xs, rfl, .inl (SqL.of hs), by rw [al.length]; exact k _ H _ S r Ext.refl (.int _) t⟩
  | fls ds =>
    obtain ⟨p, rfl, hs⟩ := h.sqF
    exact .inl ⟨p, _, rfl, .inl hs, by rw [List.length_map]; exact k _ H _ S r Ext.refl (.int _) t⟩
  | adr p =>
    cases h
    obtain ⟨ds, g, t⟩ := opt_run t
    obtain ⟨_, ws, eh, al⟩ := r.get g
    exact .inl ⟨p, ws, rfl, .inl (SqL.of eh), by rw [al.length]; exact k _ H _ S r Ext.refl (.int _) t⟩
  | str z =>
    cases h
    exact .inr ⟨z, rfl, t.1.line, k _ H _ S r Ext.refl (.int _) t.2⟩
  | _ => exact t.elim
/-- tuple(..) of a list or a tuple -/
def fTuple : D → Sto → (D → Sto → Prop) → Prop
  | .tup ds, S, Q => Q (.tup ds) S
  | .lst ds, S, Q => Q (.tup ds) S
  | .adr p, S, Q => opt (getS S p) fun ds => Q (.tup ds) S
  | _, _, _ => False
theorem cd_tuple : CallD K dx (fun xs H Q => ∃ p ys, xs = [.ref p] ∧ ((SqL K H p ys ∧ ∀ l, H l = none → Q (.ref l) (upd H l (.tup ys))) ∨ (SqT K H p ys ∧ Q (.ref p) H))) (one fTuple) := by
  refine cd_one fun v d H S Q Qh r h t k => ?_
  cases d with
  | tup ds =>
    obtain ⟨p, xs, rfl, hs, al⟩ := h.sqT
    exact ⟨p, xs, rfl, .inr ⟨hs, k _ H _ S r Ext.refl h t⟩⟩
  | lst ds =>
    obtain ⟨p, xs, rfl, _, hs, al⟩ := h.sqL
    refine ⟨p, xs, rfl, .inl ⟨SqL.of hs, fun l n => ?_⟩⟩
    obtain ⟨r2, x2, d2⟩ := new_tup r n al
    exact k _ _ _ S r2 x2 d2 t
  | adr p =>
    cases h
    obtain ⟨ds, g, t⟩ := opt_run t
    obtain ⟨_, ws, eh, al⟩ := r.get g
    refine ⟨p, ws, rfl, .inl ⟨SqL.of eh, fun l n => ?_⟩⟩
    obtain ⟨r2, x2, d2⟩ := new_tup r n al
    exact k _ _ _ S r2 x2 d2 t
  | _ => exact t.elim
def fList : D → Sto → (D → Sto → Prop) → Prop
  | .tup ds, S, Q => Q (.lst ds) S
  | .lst ds, S, Q => Q (.lst ds) S
  | .adr p, S, Q => opt (getS S p) fun ds => Q (.lst ds) S
  | _, _, _ => False
theorem cd_list : CallD K dx (fun xs H Q => ∃ p ys, xs = [.ref p] ∧ (SqL K H p ys ∨ SqT K H p ys) ∧ ∀ l, H l = none → Q (.ref l) (upd H l (.lst ys))) (one fList) := by
  refine cd_one fun v d H S Q Qh r h t k => ?_
  cases d with
  | tup ds =>
    obtain ⟨p, xs, rfl, hs, al⟩ := h.sqT
    refine ⟨p, xs, rfl, .inr hs, fun l n => ?_⟩
    obtain ⟨r2, x2, d2⟩ := new_lst r n al
    exact k _ _ _ S r2 x2 d2 t
  | lst ds =>
    obtain ⟨p, xs, rfl, _, hs, al⟩ := h.sqL
    refine ⟨p, xs, rfl, .inl (SqL.of hs), fun l n => ?_⟩
    obtain ⟨r2, x2, d2⟩ := new_lst r n al
    exact k _ _ _ S r2 x2 d2 t
  | adr p =>
    cases h
    obtain ⟨ds, g, t⟩ := opt_run t
    obtain ⟨_, ws, eh, al⟩ := r.get g
    refine ⟨p, ws, rfl, .inl (SqL.of eh), fun l n => ?_⟩
    obtain ⟨r2, x2, d2⟩ := new_lst r n al
    exact k _ _ _ S r2 x2 d2 t
  | _ => exact t.elim
/-- the truth values of data -/
def asB : List D → Option (List Bool)
  | [] => some []
  | .bl b :: r => (asB r).map (b :: ·)
  | _ :: _ => none
def asI : List D → Option (List Int)
  | [] => some []
  | .int i :: r => (asI r).map (i :: ·)
  | _ :: _ => none
theorem asB_at {ds : List D} : ∀ {bs : List Bool}, asB ds = some bs → ds = bs.map D.bl := by
  induction ds with
  | nil => intro bs h; cases h; rfl
  | cons d ds ih =>
    intro bs h
    cases d with
    | bl b =>
      have h : (asB ds).map (b :: ·) = some bs := h
      cases e : asB ds with
      | none => rw [e] at h; cases h
      | some cs => rw [e] at h; cases h; rw [ih e]; rfl
    | _ => cases h
theorem asI_at {ds : List D} : ∀ {bs : List Int}, asI ds = some bs → ds = bs.map D.int := by
  induction ds with
  | nil => intro bs h; cases h; rfl
  | cons d ds ih =>
    intro bs h
    cases d with
    | int b =>
      have h : (asI ds).map (b :: ·) = some bs := h
      cases e : asI ds with
      | none => rw [e] at h; cases h
      | some cs => rw [e] at h; cases h; rw [ih e]; rfl
    | _ => cases h
theorem asB_map (bs : List Bool) : asB (bs.map D.bl) = some bs := by
  induction bs with
  | nil => rfl
  | cons b bs ih => show (asB (bs.map D.bl)).map (b :: ·) = _; rw [ih]; rfl
theorem asI_map (bs : List Int) : asI (bs.map D.int) = some bs := by
  induction bs with
  | nil => rfl
  | cons b bs ih => show (asI (bs.map D.int)).map (b :: ·) = _; rw [ih]; rfl
def fAll : D → Sto → (D → Sto → Prop) → Prop
  | .lst ds, S, Q => opt (asB ds) fun bs => Q (.bl (bs.all id)) S
  | _, _, _ => False
def fAny : D → Sto → (D → Sto → Prop) → Prop
  | .lst ds, S, Q => opt (asB ds) fun bs => Q (.bl (bs.any id)) S
  | _, _, _ => False
def fSum : D → Sto → (D → Sto → Prop) → Prop
  | .lst ds, S, Q => opt (asI ds) fun bs => Q (.int bs.sum) S
  | _, _, _ => False
theorem cd_all : CallD K dx (rAll K) (one fAll) := by
  refine cd_one fun v d H S Q Qh r h t k => ?_
  cases d with
  | lst ds =>
    obtain ⟨bs, e, t⟩ := opt_run t
    obtain ⟨p, xs, rfl, _, hs, al⟩ := h.sqL
    rw [asB_at e] at al
    rw [Dt.bls_of al] at hs
    exact ⟨p, bs, rfl, SqL.of hs, k _ H _ S r Ext.refl (.bl _) t⟩
  | _ => exact t.elim
theorem cd_any : CallD K dx (rAny K) (one fAny) := by
  refine cd_one fun v d H S Q Qh r h t k => ?_
  cases d with
  | lst ds =>
    obtain ⟨bs, e, t⟩ := opt_run t
    obtain ⟨p, xs, rfl, _, hs, al⟩ := h.sqL
    rw [asB_at e] at al
    rw [Dt.bls_of al] at hs
    exact ⟨p, bs, rfl, SqL.of hs, k _ H _ S r Ext.refl (.bl _) t⟩
  | _ => exact t.elim
theorem cd_sum : CallD K dx (rSum K) (one fSum) := by
  refine cd_one fun v d H S Q Qh r h t k => ?_
  cases d with
  | lst ds =>
    obtain ⟨bs, e, t⟩ := opt_run t
    obtain ⟨p, xs, rfl, _, hs, al⟩ := h.sqL
    rw [asI_at e] at al
    rw [Dt.ints_of al] at hs
    exact ⟨p, bs, rfl, SqL.of hs, k _ H _ S r Ext.refl (.int _) t⟩
  | _ => exact t.elim
def fAbs : D → Sto → (D → Sto → Prop) → Prop
  | .int i, S, Q => Q (.int i.natAbs) S
  | _, _, _ => False
theorem cd_abs : CallD K dx (fun xs H Q => ∃ i, xs = [V.int i] ∧ Q (.int (if i < 0 then -i else i)) H) (one fAbs) := by
  refine cd_one fun v d H S Q Qh r h t k => ?_
  cases h with
  | int i =>
    refine ⟨i, rfl, ?_⟩
    have e : (if i < 0 then -i else i) = ((i.natAbs : Nat) : Int) := by split <;> omega
    rw [e]
    exact k _ H _ S r Ext.refl (.int _) t
  | _ => exact t.elim
def fInt : D → Sto → (D → Sto → Prop) → Prop
  | .int i, S, Q => Q (.int i) S
  | .bl b, S, Q => Q (.int (if b then 1 else 0)) S
  | _, _, _ => False
theorem cd_int : CallD K dx (fun xs H Q => (∃ i, xs = [V.int i] ∧ Q (.int i) H) ∨ ∃ k, xs = [V.bl k] ∧ Q (.int (if k then 1 else 0)) H) (one fInt) := by
  refine cd_one fun v d H S Q Qh r h t k => ?_
  cases h with
  | int i => exact .inl ⟨i, rfl, k _ H _ S r Ext.refl (.int _) t⟩
  | bl b => exact .inr ⟨b, rfl, k _ H _ S r Ext.refl (.int _) t⟩
  | _ => exact t.elim

/-! ### isinstance of built-in classes -/
def tyD : D → String
  | .non => "NoneType"
  | .bl _ => "bool"
  | .int _ => "int"
  | .str _ => "str"
  | .tup _ => "tuple"
  | _ => "list"
def noAdr : D → Bool
  | .adr _ => false
  | .dic _ _ => false
  | .dlt _ _ => false
  | .obj _ _ _ => false
  | _ => true
theorem ty_of {H : Hp} {v : V} {d : D} {M : Mm} (h : Dt K M H v d) (na : noAdr d = true) : TyX K H v (.type (tyD d)) := by
  cases h with
  | non => exact .base .non
  | bl b => exact .base (.bl b)
  | int i => exact .base (.int i)
  | str x => exact .base (.str x)
  | tup n h a =>
    rcases h with h | ⟨o, h⟩
    · exact .base (.tup h)
    · exact .fTuple h
  | ktup h a =>
    obtain ⟨o, _, _, e, c, _⟩ := h
    exact .kTuple e c
  | lst n h a => exact .base (.lst h)
  | fls n h =>
    rcases h with h | ⟨o, h⟩
    · exact .base (.lst h)
    · exact .base (.frz h)
  | kfls h =>
    obtain ⟨o, _, _, e, c, _⟩ := h
    exact .kList e c
  | adr p => cases na
  | dic _ _ _ _ => cases na
  | dlt _ _ _ _ => cases na
  | obj _ _ _ _ _ => cases na
  | ztup _ _ _ => cases na

/-! ### methods of a list of one's own -/
def dM (f : D → List D → Sto → (D → Sto → Prop) → Prop) (fo : DTE) (fa : DTA) : DTE := fun δ S Q => fo δ S fun o S1 => fa δ S1 fun ds S2 => f o ds S2 Q
def fAppend : D → List D → Sto → (D → Sto → Prop) → Prop
  | .adr p, [d], S, Q => opt (getS S p) fun ds => Fit (ds.length + 1) ∧ Q .non (setS S p (ds ++ [d]))
  | _, _, _, _ => False
end
end DL
/-! Readings over data: methods of a list, isinstance, zip, reversed. -/
namespace DL
open PySem PySem.Spec L2 Gd

section
variable {X : Cx} {dx : Dx} {K : PySem.W.Frag} {a e : Expr} {es : List Expr} {to te : TE} {ta : TA} {fo fe : DTE} {fa : DTA} {st : Expr} {pos : Pos}
def isOwn (S : Sto) : D → Prop
  | .adr p => (getS S p).isSome = true
  | _ => False
def dML (f : D → List D → Sto → (D → Sto → Prop) → Prop) (fo : DTE) (fa : DTA) : DTE := fun δ S Q => fo δ S fun o S1 => isOwn S1 o ∧ fa δ S1 fun ds S2 => f o ds S2 Q
def MetD (K : PySem.W.Frag) (dx : Dx) (r : V → List V → Hp → VK → Prop) (f : D → List D → Sto → (D → Sto → Prop) → Prop) : Prop :=
  ∀ x vs p ds H S Q Qh, HR K dx H S → Dt K (Mu dx S) H x p → DtAll K (Mu dx S) H vs ds → f p ds S Q → ThE K dx H S Q Qh → r x vs H Qh
theorem own_ty {H : Hp} {S : Sto} {v : V} {d : D} (r : HR K dx H S) (h : Dt K (Mu dx S) H v d) (o : isOwn S d) : tyV K "list" v H := by
  cases h with
  | adr p =>
    obtain ⟨ds, g⟩ := Option.isSome_iff_exists.mp o
    obtain ⟨_, vs, e, _⟩ := r.get g
    exact .inl ⟨rfl, vs, SqL.of e⟩
  | _ => exact o.elim
theorem de_met {r : V → List V → Hp → VK → Prop} {f} (m : MetD X.K dx r f) (ho : DE X dx a to fo) (ha : DA X dx es ta fa) (hp : PE X st (tBM X.K "list" r to ta)) : DE X dx st (tBM X.K "list" r to ta) (dML f fo fa) := by
  refine ⟨hp, fun σ H δ S Q Qh r0 s t k => ?_⟩
  refine ho.go σ H δ S _ _ r0 s t fun v H1 d S1 r1 x1 d1 t1 => ⟨own_ty r1 d1 t1.1, ?_⟩
  refine ha.go σ H1 δ S1 _ _ r1 (s.ext x1) t1.2 fun vs H2 ds S2 r2 x2 d2 t2 => ?_
  exact m v vs d ds H2 S2 Q Qh r2 (d1.ext x2) d2 t2 (k.on (x1.trans x2))
def dML0 (f : D → List D → Sto → (D → Sto → Prop) → Prop) (fo : DTE) : DTE := fun δ S Q => fo δ S fun o S1 => isOwn S1 o ∧ f o [] S1 Q
theorem de_met0 {r : V → List V → Hp → VK → Prop} {f} (m : MetD X.K dx r f) (ho : DE X dx a to fo) (hp : PE X st (tBM0 X.K "list" r to)) : DE X dx st (tBM0 X.K "list" r to) (dML0 f fo) := by
  refine ⟨hp, fun σ H δ S Q Qh r0 s t k => ?_⟩
  refine ho.go σ H δ S _ _ r0 s t fun v H1 d S1 r1 x1 d1 t1 => ⟨own_ty r1 d1 t1.1, ?_⟩
  exact m v [] d [] H1 S1 Q Qh r1 d1 .nil t1.2 (k.on x1)
theorem md_append : MetD K dx rAppend fAppend := by
  intro x vs p ds H S Q Qh r hx al t k
  cases hx with
  | adr p =>
    cases al with
    | nil => exact t.elim
    | cons h al =>
      cases al with
      | cons _ _ => exact t.elim
      | nil =>
        obtain ⟨ds0, g, t⟩ := opt_run t
        obtain ⟨m, ws, eh, a0⟩ := r.get g
        refine ⟨p, ws, _, rfl, rfl, eh, ?_, k _ _ _ _ (r.put m (a0.append (.cons h .nil))) (ext_set m) .non t.2⟩
        have := t.1.line
        rw [a0.length]
        omega
  | _ => exact t.elim
def fPop : D → List D → Sto → (D → Sto → Prop) → Prop
  | .adr p, [], S, Q => opt (getS S p) fun ds => opt (ds[ds.length - 1]?) fun d => Q d (setS S p ds.dropLast)
  | _, _, _, _ => False
theorem md_pop : MetD K dx rPop fPop := by
  intro x vs p ds H S Q Qh r hx al t k
  cases hx with
  | adr p =>
    cases al with
    | cons _ _ => exact t.elim
    | nil =>
      obtain ⟨ds0, g, t⟩ := opt_run t
      obtain ⟨d, e, t⟩ := opt_run t
      obtain ⟨m, ws, eh, a0⟩ := r.get g
      obtain ⟨v, ev, dv⟩ := a0.get e
      have x1 : Ext (Mu dx S) H (Mu dx (setS S p ds0.dropLast)) (upd H p (.lst ws.dropLast)) := ext_set m
      exact ⟨p, ws, v, rfl, rfl, eh, by rw [a0.length]; exact ev, k _ _ _ _ (r.put m a0.dropLast) x1 (dv.ext x1) t⟩
  | _ => exact t.elim
def fExtend : D → List D → Sto → (D → Sto → Prop) → Prop
  | .adr p, [d], S, Q => opt (getS S p) fun ds => opt (asL S d) fun es => Fit (ds.length + es.length) ∧ Q .non (setS S p (ds ++ es))
  | _, _, _, _ => False
theorem md_extend : MetD K dx rExtend fExtend := by
  intro x vs p ds H S Q Qh r hx al t k
  cases hx with
  | adr p =>
    cases al with
    | nil => exact t.elim
    | cons h al =>
      cases al with
      | cons _ _ => exact t.elim
      | nil =>
        obtain ⟨ds0, g, t⟩ := opt_run t
        obtain ⟨es, e2, t⟩ := opt_run t
        obtain ⟨m, ws, eh, a0⟩ := r.get g
        obtain ⟨b, zs, rfl, hb, a1⟩ := asL_at r h e2
        exact ⟨p, b, ws, zs, rfl, rfl, eh, hb, by rw [a0.length, a1.length]; exact t.1.line, k _ _ _ _ (r.put m (a0.append a1)) (ext_set m) .non t.2⟩
  | _ => exact t.elim

/-! ### isinstance(x, T) -/
def fIsi (T : String) (f : String → Bool) (d : D) (S : Sto) (Q : D → Sto → Prop) : Prop := noAdr d = true ∧ Q (.bl (f (tyD d))) S
def dIsi (f : String → Bool) (fe : DTE) : DTE := fun δ S Q => fe δ S fun d S1 => noAdr d = true ∧ Q (.bl (f (tyD d))) S1
def tIsi (K : PySem.W.Frag) (T : String) (te : TE) : TE := tCB (rIsi K) (tCons te (tCons (tC (.ty T)) tNil))
theorem de_isi {T : String} {f : String → Bool} (hf : ∀ t ∈ ["NoneType", "bool", "int", "str", "tuple", "list"], kitB t T = some (f t)) (he : DE X dx e te fe) (hp : PE X st (tIsi X.K T te)) : DE X dx st (tIsi X.K T te) (dIsi f fe) := by
  refine ⟨hp, fun σ H δ S Q Qh r0 s t k => ?_⟩
  refine he.go σ H δ S _ _ r0 s t fun v H1 d S1 r1 x1 d1 t1 => ?_
  refine ⟨v, .ty T, _, _, f (tyD d), rfl, .ty T, ty_of d1 t1.1, kit_ty (hf _ ?_), k _ H1 _ S1 r1 x1 (.bl _) t1.2⟩
  cases d <;> simp [tyD]

/-! ### reversed(xs) -/
def dRev (t : DTE) : DTA := fun δ S Q => t δ S (items fun ds S1 => Q ds.reverse S1)
theorem di_rev {tg : Expr} {p : Pos} (he : DE X dx e te fe) (hp : PI X tg st (RT.iRevA X.K te)) : DI X dx tg st (RT.iRevA X.K te) (dRev fe) := by
  refine ⟨hp, fun σ H δ S Q R r0 s t k => ?_⟩
  refine he.go σ H δ S _ _ r0 s t fun v H1 d S1 r1 x1 d1 t1 => ?_
  have revL : ∀ {a : Addr} {vs : List V} {ds : List D}, DtAll X.K (Mu dx S1) H1 vs ds → (∀ M H', ExtD (Mu dx S1) H1 M H' → SqL X.K H' a vs) → Walks X.K dx (Itv X.K a vs.length) ds.reverse S1 H1 := by
    intro a vs ds al stay
    have w := walk_rev (K := X.K) (a := a) (xs := vs)
    refine ⟨_, _, by rw [List.length_reverse, ← al.length]; exact w, fun M H2 lv x2 => ⟨stay _ _ x2, fun i y H3 hi z => ?_⟩⟩
    obtain ⟨rfl, z⟩ := z
    obtain ⟨c, e1, c1⟩ := (al.extD x2).getV z
    rw [List.length_reverse] at hi
    refine ⟨Same.refl _, c, ?_, c1⟩
    rw [List.getElem?_reverse hi, ← al.length]
    exact e1
  have revT : ∀ {a : Addr} {vs : List V} {ds : List D}, DtAll X.K (Mu dx S1) H1 vs ds → (∀ M H', ExtD (Mu dx S1) H1 M H' → SqT X.K H' a vs) → Walks X.K dx (RT.ItvT X.K a vs.length) ds.reverse S1 H1 := by
    intro a vs ds al stay
    have w : Walk (RT.ItvT X.K a vs.length) vs.length (fun H => SqT X.K H a vs) (fun i H x H' => H' = H ∧ vs[vs.length - 1 - i]? = some x) :=
      ⟨fun i _ hi q => ⟨hi, vs, vs[vs.length - 1 - i]'(by omega), q, by simp [show vs.length - 1 - i < vs.length by omega]⟩, fun _ _ => Nat.le_refl _, fun _ _ _ _ _ q y => ⟨y.1, y.2 vs q⟩⟩
    refine ⟨_, _, by rw [List.length_reverse, ← al.length]; exact w, fun M H2 lv x2 => ⟨stay _ _ x2, fun i y H3 hi z => ?_⟩⟩
    obtain ⟨rfl, z⟩ := z
    obtain ⟨c, e1, c1⟩ := (al.extD x2).getV z
    rw [List.length_reverse] at hi
    refine ⟨Same.refl _, c, ?_, c1⟩
    rw [List.getElem?_reverse hi, ← al.length]
    exact e1
  cases d1 with
  | tup n hr al => exact ⟨_, _, rfl, .inr ⟨.inl hr, k _ H1 _ S1 r1 x1 (revT al fun M H' x => .inl (x.rd n hr)) t1⟩⟩
  | ktup hr al => exact ⟨_, _, rfl, .inr ⟨.inr hr, k _ H1 _ S1 r1 x1 (revT al fun M H' x => .inr hr) t1⟩⟩
  | lst n hr al => exact ⟨_, _, rfl, .inl ⟨SqL.of hr, k _ H1 _ S1 r1 x1 (revL al fun M H' x => SqL.of (x.keep _ _ n hr)) t1⟩⟩
  | fls n hr => exact ⟨_, _, rfl, .inl ⟨.inl hr, k _ H1 _ S1 r1 x1 (revL (DtAll.ints _) fun M H' x => .inl (x.rd n hr)) t1⟩⟩
  | kfls hr => exact ⟨_, _, rfl, .inl ⟨.inr hr, k _ H1 _ S1 r1 x1 (revL (DtAll.ints _) fun M H' x => .inr hr) t1⟩⟩
  | _ => exact t1.elim
end
end DL
/-! zip of two sequences, lists or tuples. -/
namespace DL
open PySem PySem.Spec L2 Gd

def SqX (K : PySem.W.Frag) (c : Bool) (H : Hp) (a : Addr) (xs : List V) : Prop := match c with
  | true => SqT K H a xs
  | false => SqL K H a xs
def ItAt (c : Bool) (h : Heap) (it a : Addr) (i : Nat) : Prop := match c with
  | true => h.IsTupleIter it a i
  | false => h.IsListIter it a i
def HasX (c : Bool) (h : Heap) (a : Addr) (its : Array Value) : Prop := match c with
  | true => h.IsTuple a its
  | false => h.IsList a its
theorem drawsX {prog : Program} {w : World} {A : Around} (hh : A.handled = none) (c : Bool) (it l : Addr) (hne : l ≠ it) (items : Array Value) :
    Draws prog w A it [it, l] items.size (fun i v => items[i]? = some v) (fun i h => ItAt c h it l i ∧ HasX c h l items) := by
  cases c with
  | true => exact Draws.tuple hh it l hne items
  | false => exact Draws.list hh it l hne items
theorem ItAt.at {c : Bool} {h h' : Heap} {it a : Addr} {i : Nat} (x : ItAt c h it a i) (k : ∀ o, h.get? it = some o → h'.get? it = some o) : ItAt c h' it a i := by
  cases c with
  | true => exact Heap.IsTupleIter.at x k
  | false => exact Heap.IsListIter.at x k
theorem ItAt.obj {c : Bool} {h : Heap} {it a : Addr} {i : Nat} (x : ItAt c h it a i) : ∃ o, h.get? it = some o ∧ ∀ v, o.data ≠ .cell v := by
  cases c with
  | true =>
    obtain ⟨o, e, _, d⟩ := x
    exact ⟨o, e, fun v z => by rw [d] at z; cases z⟩
  | false =>
    obtain ⟨o, e, _, d⟩ := x
    exact ⟨o, e, fun v z => by rw [d] at z; cases z⟩
def ItZ (K : PySem.W.Frag) (c1 c2 : Bool) (a b : Addr) (xs ys : List V) : It where
  go := fun i H => SqX K c1 H a xs ∧ SqX K c2 H b ys ∧ i < xs.length ∧ i < ys.length
  yld := fun i H v H' => ∃ T x y, v = .ref T ∧ H T = none ∧ H' = upd H T (.tup [x, y]) ∧ xs[i]? = some x ∧ ys[i]? = some y
  stop := fun i H => SqX K c1 H a xs ∧ SqX K c2 H b ys ∧ i ≤ xs.length ∧ i ≤ ys.length ∧ (i = xs.length ∨ i = ys.length)
section
variable {X : Cx} {pins : List (Addr × Obj)} {σ : L2.St} {H : Hp} {s : Shared}
theorem seqX (I : Inv X pins σ H s) {c : Bool} {a : Addr} {xs : List V} (q : SqX X.K c H a xs) : ∃ its : List Value, Vals xs its ∧ HasX c s.heap a its.toArray ∧ a < s.heap.objs.size := by
  cases c with
  | true =>
    obtain ⟨its, r, p, _⟩ := I.tuple q
    obtain ⟨o, e, _⟩ := id p
    exact ⟨its, r, p, Heap.lt_size e⟩
  | false =>
    obtain ⟨its, r, p, _⟩ := I.list q
    exact ⟨its, r, p.isList, p.lt⟩
theorem turn_zipM {P : Program} {w : World} {K : PySem.W.Frag} {elts : List Expr} {kk : Nat} {tpos : Pos} {c1 c2 : Bool} {a b z TI TO i1 i2 : Addr} {xs ys : List V} (D : ZipSep2 z TI TO i1 i2 [i1, a] [i2, b]) (n1 : a ≠ i1) (n2 : b ≠ i2) :
    Turn P w K (.Tuple elts kk tpos) (ItZ K c1 c2 a b xs ys) [z, TI, TO, i1, i2] z (fun i h => IsZip h z TI TO .none ∧ IsTupOf2 h TI (.ref i1) (.ref i2) ∧ (∃ x y, IsTupOf2 h TO x y) ∧ ItAt c1 h i1 a i ∧ ItAt c2 h i2 b i) where
  mem := by simp
  obj := by
    rintro i h ⟨hz, hTI, ⟨x, y, hTO⟩, h1, h2⟩ c hc
    have cases5 : c = z ∨ c = TI ∨ c = TO ∨ c = i1 ∨ c = i2 := by simpa using hc
    rcases cases5 with rfl | rfl | rfl | rfl | rfl
    · exact ⟨_, hz, fun v q => nomatch q⟩
    · exact ⟨_, hTI, fun v q => nomatch q⟩
    · exact ⟨_, hTO, fun v q => nomatch q⟩
    · exact h1.obj
    · exact h2.obj
  keep := by
    rintro i h h' ⟨hz, hTI, ⟨x, y, hTO⟩, h1, h2⟩ k
    exact ⟨k z (by simp) _ hz, k TI (by simp) _ hTI, ⟨x, y, k TO (by simp) _ hTO⟩, h1.at fun o q => k i1 (by simp) o q, h2.at fun o q => k i2 (by simp) o q⟩
  item := by
    rintro X rfl rfl rfl hc i pins s σ H E I hf ⟨hz, hTI, ⟨x0, y0, hTO⟩, h1, h2⟩ ⟨qx, qy, lx, ly⟩
    obtain ⟨its1, rv1, p1, _⟩ := seqX I qx
    obtain ⟨its2, rv2, p2, _⟩ := seqX I qy
    have m1 := rv1.length
    have m2 := rv2.length
    have hzl : z < s.heap.objs.size := Heap.lt_size hz
    have hh : X.A.in1.handled = none := I.ok.hd hc
    refine wpAny_pyNext_zipD2_item D (drawsX hh c1 i1 a n1 its1.toArray) (drawsX hh c2 i2 b n2 its2.toArray) hz hTI hTO ⟨h1, p1⟩ ⟨h2, p2⟩ (by simpa [← m1] using lx) (by simpa [← m2] using ly) ?_
    intro u1 u2 h' tk e1 e2 z' TO' st1 st2 hT hsz hk
    refine ⟨_, rfl, wpAny_letOwnedTupleGo_zip (s := { s with heap := h', toks := tk }) z' fun h'' z'' sb => ?_⟩
    obtain ⟨x, ex⟩ : ∃ x, xs[i]? = some x := ⟨xs[i], by simp [lx]⟩
    obtain ⟨y, ey⟩ : ∃ y, ys[i]? = some y := ⟨ys[i], by simp [ly]⟩
    obtain ⟨v1, g1, r1⟩ := rv1.get ex
    obtain ⟨v2, g2, r2⟩ := rv2.get ey
    have w1 : v1 = u1 := by
      have : its1[i]? = some u1 := by simpa using e1
      rw [g1] at this
      exact Option.some.inj this
    have w2 : v2 = u2 := by
      have : its2[i]? = some u2 := by simpa using e2
      rw [g2] at this
      exact Option.some.inj this
    subst w1 w2
    have hT2 : h''.get? s.heap.objs.size = some { cls := .type "tuple", data := .seq #[v1, v2] } := (sb.2 _ (Nat.ne_of_gt hzl)).trans hT
    have new : ObjOk X.prog X.w (upd H s.heap.objs.size (.tup [x, y])) h'' s.heap.objs.size (.tup [x, y]) :=
      ⟨by show 2 ≤ sizeLine; decide, [v1, v2], .cons r1 (.cons r2 .nil), ⟨_, hT2, rfl, _, rfl⟩⟩
    have all : ∀ c o, c ∉ [z, TI, TO, i1, i2] → s.heap.get? c = some o → h''.get? c = some o := by
      intro c o hb q
      simp only [List.mem_cons, List.not_mem_nil, or_false, not_or] at hb
      exact (sb.2 c hb.1).trans (hk c o hb.1 hb.2.2.1 hb.2.2.2.1 hb.2.2.2.2 q)
    have I1 := I.turnedNew (t' := tk) (ch := [z, TI, TO, i1, i2]) all hf (Nat.le_refl _) new
    refine ⟨.ref s.heap.objs.size, _, I1, rfl, ⟨_, x, y, rfl, I.hok.fresh (Nat.le_refl _), rfl, ex, ey⟩, ⟨z'', ?_, ⟨v1, v2, ?_⟩, ?_, ?_⟩, fun c hcm => ?_⟩
    · exact (sb.2 _ D.TIz).trans (hk _ _ D.TIz D.TITO D.TIi1 D.TIi2 hTI)
    · exact (sb.2 _ D.TOz).trans TO'
    · exact st1.1.at fun o q => (sb.2 _ (fun e => D.zf1 (by simp [e]))).trans q
    · exact st2.1.at fun o q => (sb.2 _ (fun e => D.zf2 (by simp [e]))).trans q
    · have hlt : c < s.heap.objs.size := by
        have cases5 : c = z ∨ c = TI ∨ c = TO ∨ c = i1 ∨ c = i2 := by simpa using hcm
        rcases cases5 with rfl | rfl | rfl | rfl | rfl
        · exact hzl
        · exact Heap.lt_size hTI
        · exact Heap.lt_size hTO
        · obtain ⟨_, e, _⟩ := h1.obj; exact Heap.lt_size e
        · obtain ⟨_, e, _⟩ := h2.obj; exact Heap.lt_size e
      rw [upd_ne (Nat.ne_of_lt hlt)]
      exact (hf c hcm).1
  done := by
    rintro X rfl rfl rfl hc i pins s σ H E I hf ⟨hz, hTI, ⟨x0, y0, hTO⟩, h1, h2⟩ ⟨qx, qy, lx, ly, en⟩
    obtain ⟨its1, rv1, p1, _⟩ := seqX I qx
    obtain ⟨its2, rv2, p2, _⟩ := seqX I qy
    have m1 := rv1.length
    have m2 := rv2.length
    have hh : X.A.in1.handled = none := I.ok.hd hc
    refine wpAny_pyNext_zipD2_end D (drawsX hh c1 i1 a n1 its1.toArray) (drawsX hh c2 i2 b n2 its2.toArray) hz hTI hTO ⟨h1, p1⟩ ⟨h2, p2⟩ (by simpa [← m1] using lx) (by simpa [← m2] using ly) (by simpa [← m1, ← m2] using en) ?_
    intro h' tk hk
    refine ⟨rfl, I.turnedL (t' := tk) (ch := [z, TI, TO, i1, i2]) (fun c o hb q => ?_) hf⟩
    simp only [List.mem_cons, List.not_mem_nil, or_false, not_or] at hb
    exact hk c o hb.1 hb.2.2.1 hb.2.2.2.1 hb.2.2.2.2 q
  self := fun A i s Q E st h => wpAny_pyIter_zip st.1 h
end
theorem sep_zip (n a b : Nat) (ha : a < n) (hb : b < n) : ZipSep2 (n + 4) (n + 2) (n + 3) n (n + 1) [n, a] [n + 1, b] where
  TIz := by show n + 2 ≠ n + 4; omega
  TOz := by show n + 3 ≠ n + 4; omega
  TITO := by show n + 2 ≠ n + 3; omega
  TIi1 := by show n + 2 ≠ n; omega
  mem1 := by simp
  zf1 := by
    intro h
    have h : n + 4 = n ∨ n + 4 = a := by simpa using h
    omega
  Tf1 := by
    intro h
    have h : n + 3 = n ∨ n + 3 = a := by simpa using h
    omega
  TIi2 := by show n + 2 ≠ n + 1; omega
  mem2 := by simp
  zf2 := by
    intro h
    have h : n + 4 = n + 1 ∨ n + 4 = b := by simpa using h
    omega
  Tf2 := by
    intro h
    have h : n + 3 = n + 1 ∨ n + 3 = b := by simpa using h
    omega
  sep1_2 := by
    intro h
    have h : n = n + 1 ∨ n = b := by simpa using h
    omega
  sep2_1 := by
    intro h
    have h : n + 1 = n ∨ n + 1 = a := by simpa using h
    omega
def iZipM (K : PySem.W.Frag) (ta : TA) : TI := fun σ H R => ta σ H fun vs H1 => ∃ c1 c2 a b xs ys, vs = [.ref a, .ref b] ∧ SqX K c1 H1 a xs ∧ SqX K c2 H1 b ys ∧ R (ItZ K c1 c2 a b xs ys) H1
theorem pi_zipM {X : Cx} {e e2 : Expr} {ta : TA} {p pos tpos : Pos} {elts : List Expr} {kk : Nat} (hg : Gl X "zip") (hm : X.mg "zip" = none) (ha : PA X [e, e2] ta)
    (hs : starEach [e, e2] X.env = (false, eval e X.env) :: starEach [e2] X.env := by rfl) (hpl : (backTo pos (starEach [e2] X.env)).any (·.1) = false := by rfl) :
    PI X (.Tuple elts kk tpos) (.Call (.Name "zip" p) [e, e2] [] pos) (iZipM X.K ta) := by
  constructor
  intro pins s σ H R I want
  refine PyProof.Rows.Call_ (ld_blt I hg hm PyProof.Rows.boot_zip ?_)
  apply PyProof.Rows.callWith_type1 _ hs hpl
  apply thn (ha.run pos pins s σ H _ I want)
  rintro us s1 ⟨vs, H1, I1, r1, c1, c2, a, b, xs, ys, rfl, qx, qy, q⟩
  obtain ⟨u1, u2, rfl, ru1, ru2⟩ := vals2 r1
  obtain rfl : u1 = .ref a := ru1
  obtain rfl : u2 = .ref b := ru2
  obtain ⟨its1, rv1, p1, l1⟩ := seqX I1 qx
  obtain ⟨its2, rv2, p2, l2⟩ := seqX I1 qy
  have fresh : ∀ c, c ∈ [s1.heap.objs.size + 4, s1.heap.objs.size + 2, s1.heap.objs.size + 3, s1.heap.objs.size, s1.heap.objs.size + 1] → FpOk X pins H1 c := by
    intro c hcm
    have le : s1.heap.objs.size ≤ c := by
      simp only [List.mem_cons, List.not_mem_nil, or_false] at hcm
      omega
    exact I1.fpOk le (I1.hok.fresh le)
  have sep := sep_zip s1.heap.objs.size a b l1 l2
  have done : ∀ {o1 o2 : Obj} (h' : Heap), IsZip h' (s1.heap.objs.size + 4) (s1.heap.objs.size + 2) (s1.heap.objs.size + 3) .none →
      IsTupOf2 h' (s1.heap.objs.size + 2) (.ref s1.heap.objs.size) (.ref (s1.heap.objs.size + 1)) → IsTupOf2 h' (s1.heap.objs.size + 3) .none .none →
      ItAt c1 h' s1.heap.objs.size a 0 → ItAt c2 h' (s1.heap.objs.size + 1) b 0 → (∀ c o, s1.heap.get? c = some o → h'.get? c = some o) →
      wpAny (model X.prog X.w) X.A (pyIter (.ref (s1.heap.objs.size + 4))) (PIE X pins σ (.Tuple elts kk tpos) R) X.xe { s1 with heap := h' } := by
    intro o1 o2 h' hz hTI hTO h1 h2 hk
    apply wpAny_pyIter_zip hz
    have I2 : Inv X pins σ H1 { s1 with heap := h' } := I1.kept (t' := s1.toks) hk
    exact ⟨_, _, _, _, H1, rfl, I2, turn_zipM sep (Nat.ne_of_lt l1) (Nat.ne_of_lt (Nat.lt_succ_of_lt l2)), ⟨hz, hTI, ⟨_, _, hTO⟩, h1, h2⟩, fresh, q⟩
  cases c1 with
  | true =>
    cases c2 with
    | true => exact zip_begins2 (begins_tuple a its1.toArray) (begins_tuple b its2.toArray) p1 p2 fun h' hz hTI hTO g1 g2 _ hk => done (o1 := default) (o2 := default) h' hz hTI hTO ⟨_, g1, rfl, rfl⟩ ⟨_, g2, rfl, rfl⟩ hk
    | false => exact zip_begins2 (begins_tuple a its1.toArray) (begins_list b its2.toArray) p1 p2 fun h' hz hTI hTO g1 g2 _ hk => done (o1 := default) (o2 := default) h' hz hTI hTO ⟨_, g1, rfl, rfl⟩ ⟨_, g2, rfl, rfl⟩ hk
  | false =>
    cases c2 with
    | true => exact zip_begins2 (begins_list a its1.toArray) (begins_tuple b its2.toArray) p1 p2 fun h' hz hTI hTO g1 g2 _ hk => done (o1 := default) (o2 := default) h' hz hTI hTO ⟨_, g1, rfl, rfl⟩ ⟨_, g2, rfl, rfl⟩ hk
    | false => exact zip_begins2 (begins_list a its1.toArray) (begins_list b its2.toArray) p1 p2 fun h' hz hTI hTO g1 g2 _ hk => done (o1 := default) (o2 := default) h' hz hTI hTO ⟨_, g1, rfl, rfl⟩ ⟨_, g2, rfl, rfl⟩ hk

/-! ### over data -/
/-- pairs -/
def zipD (xs ys : List D) : List D := List.zipWith (fun x y => D.tup [x, y]) xs ys
theorem zipD_len (xs ys : List D) : (zipD xs ys).length = min xs.length ys.length := List.length_zipWith
def dZip (ta : DTA) : DTA := fun δ S Q => ta δ S fun ds S1 => match ds with
  | [p, q] => items (fun xs S2 => items (fun ys S3 => Q (zipD xs ys) S3) q S2) p S1
  | _ => False
section
variable {X : Cx} {dx : Dx} {K : PySem.W.Frag} {H : Hp} {S : Sto}
theorem seq_data {v : V} {d : D} {Q : List D → Sto → Prop} (h : Dt K (Mu dx S) H v d) (t : items Q d S) :
    ∃ c a vs ds, v = .ref a ∧ DtAll K (Mu dx S) H vs ds ∧ Q ds S ∧ SqX K c H a vs ∧ ∀ M H', ExtD (Mu dx S) H M H' → SqX K c H' a vs := by
  cases h with
  | tup n hr al => exact ⟨true, _, _, _, rfl, al, t, .inl hr, fun M H' x => .inl (x.rd n hr)⟩
  | ktup hr al => exact ⟨true, _, _, _, rfl, al, t, .inr hr, fun M H' x => .inr hr⟩
  | lst n hr al => exact ⟨false, _, _, _, rfl, al, t, SqL.of hr, fun M H' x => SqL.of (x.keep _ _ n hr)⟩
  | fls n hr => exact ⟨false, _, _, _, rfl, DtAll.ints _, t, .inl hr, fun M H' x => .inl (x.rd n hr)⟩
  | kfls hr => exact ⟨false, _, _, _, rfl, DtAll.ints _, t, .inr hr, fun M H' x => .inr hr⟩
  | _ => exact t.elim
theorem walks_zip {c1 c2 : Bool} {a b : Addr} {vs ws : List V} {xs ys : List D} (al : DtAll K (Mu dx S) H vs xs) (bl : DtAll K (Mu dx S) H ws ys)
    (sa : ∀ M H', ExtD (Mu dx S) H M H' → SqX K c1 H' a vs) (sb : ∀ M H', ExtD (Mu dx S) H M H' → SqX K c2 H' b ws) : Walks K dx (ItZ K c1 c2 a b vs ws) (zipD xs ys) S H := by
  have la := al.length
  have lb := bl.length
  refine ⟨fun H' => SqX K c1 H' a vs ∧ SqX K c2 H' b ws, fun i H v H' => ∃ T x y, v = .ref T ∧ H T = none ∧ H' = upd H T (.tup [x, y]) ∧ vs[i]? = some x ∧ ws[i]? = some y, ⟨?_, ?_, fun i H x H' _ _ y => y⟩, fun M H2 lv x2 => ⟨⟨sa _ _ x2, sb _ _ x2⟩, ?_⟩⟩
  · intro i H' hi g
    rw [zipD_len] at hi
    exact ⟨g.1, g.2, by omega, by omega⟩
  · intro H' g
    rw [zipD_len]
    exact ⟨g.1, g.2, by omega, by omega, by omega⟩
  · rintro i v H3 hi ⟨T, x, y, rfl, n, rfl, ex, ey⟩
    obtain ⟨d1, f1, g1⟩ := (al.extD x2).getV ex
    obtain ⟨d2, f2, g2⟩ := (bl.extD x2).getV ey
    refine ⟨same_new n, .tup [d1, d2], ?_, .tup (fun z => lv T z n) (.inl upd_same) (.cons (g1.ext (ext_new n)) (.cons (g2.ext (ext_new n)) .nil))⟩
    unfold zipD
    rw [List.getElem?_zipWith, f1, f2]
theorem di_zip {tg st : Expr} {ta : TA} {fa : DTA} {es : List Expr} (ha : DA X dx es ta fa) (hp : PI X tg st (iZipM X.K ta)) : DI X dx tg st (iZipM X.K ta) (dZip fa) := by
  refine ⟨hp, fun σ H δ S Q R r s t k => ?_⟩
  refine ha.go σ H δ S _ _ r s t fun vs H1 ds S1 r1 x1 d1 t1 => ?_
  cases d1 with
  | nil => exact t1.elim
  | cons h1 d1 =>
    cases d1 with
    | nil => exact t1.elim
    | cons h2 d1 =>
      cases d1 with
      | cons _ _ => exact t1.elim
      | nil =>
        obtain ⟨c1, a, vs1, xs, rfl, al, t2, q1, s1⟩ := seq_data h1 t1
        obtain ⟨c2, b, vs2, ys, rfl, bl, t3, q2, s2⟩ := seq_data h2 t2
        exact ⟨c1, c2, a, b, vs1, vs2, rfl, q1, q2, k _ H1 _ S1 r1 x1 (walks_zip al bl s1 s2) t3⟩
end
end DL
/-! The end of a law: its def's promise, at the heap behind the top. -/
namespace DL
open PySem PySem.Spec L2 Gd

section
variable {P : Program} {w : World} {K : PySem.W.Frag} {mg mb : Str → Option Value} {k : Nat} {fa a : Addr} {fd : FuncData} {x : Str} {sp : Sp} {s1 : Shared} {vs : List Value} {ns : List Int}

/-- the heap as it stands when the law is called: nothing is tracked but the script, by what holds of it -/
structure Entry (P : Program) (w : World) (K : PySem.W.Frag) (H : Hp) (h : Heap) (a : Addr) (ns : List Int) : Prop where
  ok : HOk P w H h
  only : ∀ b u, H b = some u → b = a ∧ K.lookup a = none ∧ ∃ o, h.get? b = some o ∧ u = .frz o (.lst (ns.map V.int))
  script : SqL K H a (ns.map V.int)
theorem entry_of (inK : K.In s1.heap) (at_ : s1.heap.get? a = some { cls := .type "list", data := .seq vs.toArray }) (its : PyProof.Rows.IntsAre vs ns) (few : ns.length ≤ sizeLine) :
    ∃ H, Entry P w K H s1.heap a ns := by
  have rel : Vals (ns.map V.int) vs := vals_of_ints its
  have len : vs.length = ns.length := by
    have := rel.length
    rw [List.length_map] at this
    exact this.symm
  cases known : K.lookup a with
  | some o =>
    have e := inK a o known
    rw [at_] at e
    cases e
    refine ⟨fun _ => none, fun b u e => (nomatch e), fun b u e => (nomatch e), .inr ⟨_, vs.toArray, _, known, rfl, rfl, rfl, ?_, by simpa using rel⟩⟩
    rw [List.size_toArray, len]
    exact few
  | none =>
    let ob : Obj := { cls := .type "list", data := .seq vs.toArray }
    refine ⟨fun b => if b = a then some (.frz ob (.lst (ns.map V.int))) else none, ?_, ?_, .inl (.inr ⟨ob, if_pos rfl⟩)⟩
    · intro b u e
      by_cases q : b = a
      · have e := (if_pos q).symm.trans e
        cases e
        subst q
        exact ⟨at_, by rw [List.length_map]; exact few, vs, _, rel, at_⟩
      · have e := (if_neg q).symm.trans e
        cases e
    · intro b u e
      by_cases q : b = a
      · have e := (if_pos q).symm.trans e
        cases e
        subst q
        exact ⟨rfl, known, ob, at_, rfl⟩
      · have e := (if_neg q).symm.trans e
        cases e
theorem law_run (inK : K.In s1.heap) (ng : s1.heap.Ns mainGlobals mg) (nbl : s1.heap.Ns builtinsNs mb) (same : ∀ y : Str, y ≠ "__name__" → mb y = bootBuiltins y) (calm : s1.heap.NoLimit) (gens : s1.gens = #[])
    (at_ : s1.heap.get? a = some { cls := .type "list", data := .seq vs.toArray }) (its : PyProof.Rows.IntsAre vs ns) (few : ns.length ≤ sizeLine) (room : Room k callerA)
    (F : ∀ base : Heap, K.In base → base.Ns mainGlobals mg → FnG P w K mg base CX0 k fa fd [x] sp) (bind : ∀ (s : Shared) (u : Value), BindsTo s fd ⟨[u], []⟩ [(x, u)])
    (hsp : ∀ H : Hp, (∀ b u, H b = some u → ∃ o, u = .frz o (.lst (ns.map V.int))) → SqL K H a (ns.map V.int) → sp [.ref a] H (fun v _ => v = .bl true) fun _ _ _ => False) :
    codeAny (model P w) callerA (.call (.ref fa) ⟨[.ref a], []⟩) (fun r s' => r = .ok (.ret (.bool true)) ∧ OldK s1.heap s'.heap ∧ s'.os = s1.os ∧ PyProof.Rows.AllBare s'.gens) s1 := by
  obtain ⟨H, E⟩ := entry_of (P := P) (w := w) inK at_ its few
  have free : ∀ {b : Addr} {o : Obj}, s1.heap.get? b = some o → (∀ xs n, o.data ≠ .seq xs n) → H b = none := by
    intro b o e d
    cases q : H b with
    | none => rfl
    | some u =>
      obtain ⟨rfl, _, _⟩ := E.only b u q
      rw [at_] at e
      cases e
      exact absurd rfl (d _ _)
  have ns_of : ∀ {b : Addr} {m : Str → Option Value}, s1.heap.Ns b m → (hidT s1.heap H).Ns b m := by
    rintro b m ⟨o, es, ep, e, d, q⟩
    exact ⟨o, es, ep, hidT_get e (free e fun xs n z => by rw [d] at z; cases z), d, q⟩
  have kin : K.In (hidT s1.heap H) := by
    intro b o e
    refine hidT_get (inK b o e) ?_
    cases q : H b with
    | none => rfl
    | some u =>
      obtain ⟨rfl, z, _⟩ := E.only b u q
      rw [z] at e
      cases e
  have modf : Mod K mg (hidT s1.heap H) := ⟨kin, ns_of ng, ⟨mb, ns_of nbl, same⟩, by obtain ⟨mc, z1, z2⟩ := calm; exact ⟨mc, ns_of z1, z2⟩⟩
  have none_ : ∀ {b : Addr}, b ∈ frs ([] : List Env) → False := fun h => by simp [frs] at h
  have env0 : Env0 P w K mg (hidT s1.heap H) callerA [] s1 H :=
    ⟨rfl, modf, fun b o e => of_hidT e, Nat.le_of_eq (hidT_size _ _), trivial, fun b hb => (none_ hb).elim, E.ok, .of_eq gens⟩
  apply codeAny_mono ((F _ kin (ns_of ng)).goes callerA [] s1 H ⟨[.ref a], []⟩ [.ref a] [.ref a] _ _ room rfl env0 (bind s1 (.ref a)) (.cons rfl .nil)
    (hsp H (fun b u q => by obtain ⟨_, _, o, _, z⟩ := E.only b u q; exact ⟨o, z⟩) E.script))
  intro r s2 h
  match r, h with
  | .error e, h => exact h.elim
  | .ok .next, h => exact h.elim
  | .ok .brk, h => exact h.elim
  | .ok .cont, h => exact h.elim
  | .ok (.ret u), ⟨v, H2, os, bare, un, hok, rv, q⟩ =>
    have q : v = .bl true := q
    subst q
    obtain rfl : u = .bool true := rv
    refine ⟨rfl, OldK.of_keep fun b o e => ?_, os, bare⟩
    cases z : H b with
    | none => exact un.keep b o e z (fun hb => none_ hb) (by simp)
    | some u =>
      obtain ⟨_, _, o2, e2, rfl⟩ := E.only b u z
      have z2 := un.frzs b o2 _ z
      obtain ⟨e3, _⟩ := hok b _ z2
      rw [e] at e2
      cases e2
      exact e3
/-- the goal that the head leaves -/
theorem walkG {l : PySem.W.OpenLaw} {n k : Nat} {q : Program} {loose : List Str} {XP : (Str → Option Value) → Heap → Prop} {YP : World → Heap → Prop} {d : DefRec} {K : Params → PySem.W.Frag} {sp : PySem.W.Frag → Sp} {x : Str}
    (most : l.most = some n) (few : n ≤ sizeLine) (plain : d.params.defaults = []) (room : Room k callerA)
    (hY : ∀ (w : World) (h : Heap), YP w h → (K w.params).In h)
    (F : ∀ (w : World) (mg : Str → Option Value) (fa : Addr) (h : Heap), (K w.params).In h → h.Ns mainGlobals mg → mg d.name = some (.ref fa) →
      ∃ fd : FuncData, (∀ (s : Shared) (u : Value), BindsTo s fd ⟨[u], []⟩ [(x, u)]) ∧
        ∀ base : Heap, (K w.params).In base → base.Ns mainGlobals mg → FnG l.prog w (K w.params) mg base CX0 k fa fd [x] (sp (K w.params)))
    (hsp : ∀ (K : PySem.W.Frag) (H : Hp) (a : Addr) (ns : List Int), ns.length ≤ n → (∀ b u, H b = some u → ∃ o, u = .frz o (.lst (ns.map V.int))) → SqL K H a (ns.map V.int) → sp K [.ref a] H (fun v _ => v = .bl true) fun _ _ _ => False) :
    PySem.W.WalkO q loose XP YP l.row.toRowW d [] (fun f vs => PySem.call f vs) := by
  apply Att.attach_call most plain
  intro w s0 s1 mg mb fa o pm cd doc a vs ns G Y ho hd hcd hmg hobj hints hlen hg
  have inK := hY w _ Y
  obtain ⟨fd, hb, hF⟩ := F w mg fa _ inK G.T.g hmg
  exact law_run inK G.T.g G.T.b G.T.builtins G.T.nolimit hg hobj hints (Nat.le_trans hlen few) room hF hb (fun H hO hS => hsp (K w.params) H a ns hlen hO hS)
end
end DL
/-! A source of draws, handed from def to def; the law itself. -/
namespace DL
open PySem PySem.Spec L2 Gd

def handR (a c : Addr) : Addr → Prop := fun b => b = a ∨ b = c
def ROk (cs : List Int) (z : Int) : Prop := (∀ x ∈ cs, 0 ≤ x) ∧ cs.length ≤ 63 ∧ 0 ≤ z ∧ z < 2 ^ 40
def RandOk (a c : Addr) : Hp → Prop := fun H => a ≠ c ∧ ∃ (cs : List Int) (z : Int), H a = some (.lst [.ref c, .int z]) ∧ H c = some (.lst (cs.map V.int)) ∧ ROk cs z
def spR (K : PySem.W.Frag) (spec : Addr → DSpec) : Sp := fun vs H Q E => ∃ a c, spD K (handR a c) (RandOk a c) (spec a) vs H Q E
section
variable {P : Program} {w : World} {K : PySem.W.Frag} {mg : Str → Option Value} {base : Heap}
theorem fnR {k : Nat} {x qual : Str} {st : Stmt} {f : Addr} {fd : FuncData} {N ps : List Str} {spec : Addr → DSpec}
    (F : Fun K x qual st f fd) (S : FnScope N ps (defScope st)) (len : ∀ a ds post, spec a ds post → ds.length = ps.length)
    (body : ∀ (cdv : Value) (A : Around) (fr : List Env) (s : Shared) (H : Hp) (E : XK), Room k (A.deeper (PyProof.Rows.envOfC qual (defScope st) s.heap.objs.size f cdv)) → A.guards = some [] →
      ∀ (a c : Addr) (dx : Dx), dx.hand = handR a c → dx.J = RandOk a c → ∃ ts t, DSs (Body P w K mg base N qual st f cdv A fr s H E) dx (defBody st) ts t ∧
        ∀ ds post, spec a ds post → t { nx := fun _ _ => post .non, rt := fun d _ => post d } (startD N ds) []) :
    FnG P w K mg base CX0 (k + 1) f fd ps (spR K spec) := by
  refine fnG_body F S ?_ ?_
  · rintro vs H Q E ⟨a, c, m, ds, post, _, _, _, _, al, sp, _⟩
    rw [al.length]
    exact len a ds post sp
  · rintro cdv A fr s H vs Q E room guard ⟨a, c, m, ds, post, live, hm, stab, j, al, sp, k'⟩
    obtain ⟨ts, t, h, q⟩ := body cdv A fr s H E room guard a c ⟨m, H, handR a c, RandOk a c⟩ rfl rfl
    refine ⟨ts, h.pe.nox, ?_⟩
    have le : ExtD (Fo m) H (Mu ⟨m, H, handR a c, RandOk a c⟩ []) H := by
      refine ⟨fun _ _ _ e => e, fun b z n => ?_⟩
      rcases z with z | z | z
      · exact absurd (.inl z) n
      · exact absurd (.inl (hm b z)) n
      · cases z
    have r : HR K ⟨m, H, handR a c, RandOk a c⟩ H [] := ⟨fun p xs z => (nomatch z), List.nodup_nil, live, fun p z => (nomatch z), fun b o e _ => e, j, stab, hm⟩
    refine h.go _ H (startD N ds) [] { nx := fun _ _ => post .non, rt := fun d _ => post d } _ r (start_sr (al.extD le)) (q ds post sp) ⟨?_, ?_, ?_, ?_⟩
    · intro σ' H' δ' S' r' x' s' p'
      exact k' .non H' .non r'.keep r'.live r'.j .non p'
    · intro σ' H' δ' S' r' x' s' p'
      exact p'.elim
    · intro σ' H' δ' S' r' x' s' p'
      exact p'.elim
    · intro v H' d S' r' x' hd p'
      exact k' v H' d r'.keep r'.live r'.j hd p'

/-- a number below another one -/
def spDraw : Addr → DSpec := fun a ds post => ∃ m : Int, ds = [.adr a, .int m] ∧ 1 ≤ m ∧ m < 2 ^ 62 ∧ ∀ r : Int, 0 ≤ r → r < m → post (.int r)
def drawEnd (a c : Addr) (m : Int) : D → Sto → Prop := fun d S => ∃ (r : Int) (cs : List Int) (z : Int), d = .int r ∧ 0 ≤ r ∧ r < m ∧ getS S a = some [.adr c, .int z] ∧ getS S c = some (cs.map D.int) ∧ ROk cs z
theorem fnDraw {k : Nat} {x qual : Str} {st : Stmt} {f : Addr} {fd : FuncData} {N ps : List Str}
    (F : Fun K x qual st f fd) (S : FnScope N ps (defScope st)) (len : ps.length = 2)
    (body : ∀ (cdv : Value) (A : Around) (fr : List Env) (s : Shared) (H : Hp) (E : XK), Room k (A.deeper (PyProof.Rows.envOfC qual (defScope st) s.heap.objs.size f cdv)) → A.guards = some [] →
      ∀ (dx : Dx), ∃ ts t, DSs (Body P w K mg base N qual st f cdv A fr s H E) dx (defBody st) ts t ∧
        ∀ (a c : Addr) (cs : List Int) (z m : Int), a ≠ c → ROk cs z → 1 ≤ m → m < 2 ^ 62 → t { nx := fun _ _ => False, rt := drawEnd a c m } (startD N [.adr a, .int m]) [(a, .l [.adr c, .int z]), (c, .l (cs.map D.int))]) :
    FnG P w K mg base CX0 (k + 1) f fd ps (spR K spDraw) := by
  refine fnG_body F S ?_ ?_
  · rintro vs H Q E ⟨a, c, m, ds, post, _, _, _, _, al, ⟨_, rfl, _⟩, _⟩
    rw [al.length, len]
    rfl
  · rintro cdv A fr s H vs Q E room guard ⟨a, c, mm, ds, post, live, hm, stab, j, al, ⟨m, rfl, m1, m2, kp⟩, k'⟩
    obtain ⟨ne, cs, z, ha, hc, ok⟩ := j
    have hvs : vs = [.ref a, .int m] := by
      cases al with
      | cons h1 al =>
        cases h1
        cases al with
        | cons h2 al =>
          cases h2
          cases al
          rfl
    subst hvs
    let H0 : Hp := fun b => if b = a ∨ b = c then none else H b
    let dx : Dx := ⟨fun b => mm b ∧ ¬ (b = a ∨ b = c), H0, noHand, noJ⟩
    obtain ⟨ts, t, h, q⟩ := body cdv A fr s H E room guard dx
    refine ⟨ts, h.pe.nox, ?_⟩
    have h0 : ∀ b, (b = a ∨ b = c) → H0 b = none := fun b e => if_pos e
    have h1 : ∀ b, ¬ (b = a ∨ b = c) → H0 b = H b := fun b e => if_neg e
    have r : HR K dx H [(a, .l [.adr c, .int z]), (c, .l (cs.map D.int))] := by
      refine ⟨fun p xs mm => ?_, ?_, fun b mb => live b mb.1, fun p mp => ?_, fun b o e _ => ?_, trivial, fun _ _ _ _ => trivial, fun b z => z.elim⟩
      · rcases List.mem_cons.mp mm with e | mm
        · cases e
          exact ⟨_, ha, .l (.cons (.adr c) (.cons (.int z) .nil))⟩
        · rcases List.mem_cons.mp mm with e | mm
          · cases e
            exact ⟨_, hc, .l (DtAll.ints cs)⟩
          · cases mm
      · show [a, c].Nodup
        simpa using ne
      · have mp : p ∈ [a, c] := mp
        have e : p = a ∨ p = c := by simpa using mp
        exact ⟨h0 p e, fun z => z.2 e⟩
      · by_cases e2 : b = a ∨ b = c
        · have e : H0 b = some o := e
          rw [h0 b e2] at e
          cases e
        · have e : H0 b = some o := e
          rw [h1 b e2] at e
          exact e
    refine h.go _ H (startD N [.adr a, .int m]) _ _ _ r (start_sr (.cons (.adr a) (.cons (.int m) .nil))) (q a c cs z m ne ok m1 m2) ⟨?_, ?_, ?_, ?_⟩
    · intro σ' H' δ' S' r' x' s' p'
      exact p'.elim
    · intro σ' H' δ' S' r' x' s' p'
      exact p'.elim
    · intro σ' H' δ' S' r' x' s' p'
      exact p'.elim
    · rintro v H' d S' r' x' hd ⟨r, cs', z', rfl, r0, r1, ga, gc, ok'⟩
      obtain ⟨_, va, ea, da⟩ := r'.get ga
      obtain ⟨_, vc, ec, dc⟩ := r'.get gc
      have ja : H' a = some (.lst [.ref c, .int z']) := by
        cases da with
        | cons h1 da =>
          cases h1
          cases da with
          | cons h2 da =>
            cases h2
            cases da
            exact ea
      have jc : H' c = some (.lst (cs'.map V.int)) := by
        rw [Dt.ints_of dc] at ec
        exact ec
      have hd2 : Dt K (Fo mm) H' v (.int r) := by
        cases hd
        exact .int r
      refine k' v H' _ (fun b o e n => ?_) (fun b mb => ?_) ⟨ne, cs', z', ja, jc, ok'⟩ hd2 (kp r r0 r1)
      · have n : ¬ (b = a ∨ b = c) := n
        exact r'.keep b o ((h1 b n).trans e) fun z => z
      · by_cases e2 : b = a ∨ b = c
        · rcases e2 with rfl | rfl
          · rw [ja]; exact fun z => nomatch z
          · rw [jc]; exact fun z => nomatch z
        · exact r'.live b ⟨mb, e2⟩

/-- the script in, a source of draws out -/
def spHeap : DSpec := fun ds post => ∃ ns : List Int, ds = [.fls ns] ∧ ns.length ≤ 63 ∧ ∀ (cs : List Int) (z : Int), ROk cs z → post (.lst [.lst (cs.map D.int), .int z])
def spL (K : PySem.W.Frag) : Sp := fun vs H Q _ => ∃ (a : Addr) (ns : List Int), vs = [.ref a] ∧ ns.length ≤ 63 ∧ (∀ b u, H b = some u → ∃ o, u = .frz o (.lst (ns.map V.int))) ∧ SqL K H a (ns.map V.int) ∧ ∀ H', Q (.bl true) H'
theorem fnLaw {k : Nat} {x qual : Str} {st : Stmt} {f : Addr} {fd : FuncData} {N ps : List Str} {y : Str} {py ps1 : Pos} {rest : List Stmt} {e1 : Expr}
    (F : Fun K x qual st f fd) (S : FnScope N ps (defScope st)) (len : ps.length = 1) (hb : defBody st = .Assign [.Name y py] e1 ps1 :: rest)
    (body : ∀ (cdv : Value) (A : Around) (fr : List Env) (s : Shared) (H : Hp) (E : XK), Room k (A.deeper (PyProof.Rows.envOfC qual (defScope st) s.heap.objs.size f cdv)) → A.guards = some [] →
      ∃ te ts, (∀ dx, DE (Body P w K mg base N qual st f cdv A fr s H E) dx e1 te (dCall spHeap (dCons (dVar 0) dNil))) ∧ PS (Body P w K mg base N qual st f cdv A fr s H E) (.Assign [.Name y py] e1 ps1) (tAsg te (gName 1)) ∧
        ∀ (a c : Addr) (dx : Dx), dx.hand = handR a c → dx.J = RandOk a c → ∃ t, DSs (Body P w K mg base N qual st f cdv A fr s H E) dx rest ts t ∧
          ∀ ns : List Int, ns.length ≤ 63 → t { nx := fun _ _ => False, rt := fun d _ => d = .bl true } (put (startD N [.fls ns]) 1 (.adr a)) []) :
    FnG P w K mg base CX0 (k + 1) f fd ps (spL K) := by
  refine fnG_body F S ?_ ?_
  · rintro vs H Q E ⟨a, ns, rfl, _⟩
    rw [len]
    rfl
  · rintro cdv A fr s H vs Q E room guard ⟨a0, ns, rfl, few, only, hS, k'⟩
    obtain ⟨te, ts, he, hp, hr⟩ := body cdv A fr s H E room guard
    refine ⟨tSeq (tAsg te (gName 1)) ts, ?_, ?_⟩
    · rw [hb]
      refine (pss_cons hp ?_).nox
      obtain ⟨t, h, _⟩ := hr 0 0 ⟨fun _ => False, H, handR 0 0, RandOk 0 0⟩ rfl rfl
      exact h.pe
    · let dx0 : Dx := ⟨fun _ => False, H, noHand, noJ⟩
      have r0 : HR K dx0 H [] := ⟨fun p xs z => (nomatch z), List.nodup_nil, fun b z => z.elim, fun p z => (nomatch z), fun b o e _ => e, trivial, fun _ _ _ _ => trivial, fun b z => z.elim⟩
      have nm : ∀ b, ¬ (Mu dx0 []).mu b := fun b z => by
        rcases z with z | z | z
        · exact z
        · exact z
        · cases z
      have d0 : Dt K (Mu dx0 []) H (.ref a0) (.fls ns) := by
        rcases hS with h | h
        · exact .fls (nm _) h
        · exact .kfls h
      refine (he dx0).go (L2.start N [.ref a0]) H (startD N [.fls ns]) [] (fun d S => S = [] ∧ ∃ cs z, ROk cs z ∧ d = .lst [.lst (cs.map D.int), .int z]) _ r0 (start_sr (.cons d0 .nil)) ?_ ?_
      · exact ⟨ns, rfl, few, fun cs z ok => ⟨rfl, cs, z, ok, rfl⟩⟩
      · rintro v H' d S' r' x' hd ⟨rfl, cs, z, ok, rfl⟩
        obtain ⟨a, vs, rfl, _, ha, al⟩ := hd.sqL
        have key : ∃ c, vs = [.ref c, .int z] ∧ H' c = some (.lst (cs.map V.int)) := by
          cases al with
          | cons h1 al =>
            obtain ⟨c, ws, rfl, _, hc, bl⟩ := h1.sqL
            rw [Dt.ints_of bl] at hc
            cases al with
            | cons h2 al =>
              cases h2
              cases al
              exact ⟨c, rfl, hc⟩
        obtain ⟨c, rfl, hc⟩ := key
        have ne : a ≠ c := fun e => by
          subst e
          rw [ha] at hc
          cases cs with
          | nil => cases hc
          | cons i cs => injection hc with hc; injection hc with hc; injection hc with hc; cases hc
        let dx1 : Dx := ⟨handR a c, H', handR a c, RandOk a c⟩
        have r1 : HR K dx1 H' [] := by
          refine ⟨fun p xs z => (nomatch z), List.nodup_nil, fun b hb => ?_, fun p z => (nomatch z), fun b o e _ => e, ⟨ne, cs, z, ha, hc, ok⟩, fun H1 H2 same j => ?_, fun b z => z⟩
          · rcases hb with rfl | rfl
            · rw [ha]; exact fun z => nomatch z
            · rw [hc]; exact fun z => nomatch z
          · obtain ⟨ne, cs, z, e1, e2, ok⟩ := j
            exact ⟨ne, cs, z, (same.1 a (.inl rfl)).trans e1, (same.1 c (.inr rfl)).trans e2, ok⟩
        have d1 : Dt K (Mu dx1 []) H' (.ref a0) (.fls ns) := by
          rcases hS with h | h
          · obtain ⟨o, e⟩ := Rd.some h
            obtain ⟨o', e'⟩ := only a0 o e
            subst e'
            have e2 := r'.keep a0 _ e (fun z => z)
            refine .fls ?_ (.inr ⟨o', e2⟩)
            have na : a0 ≠ a := fun z => by rw [z, ha] at e2; cases e2
            have nc : a0 ≠ c := fun z => by rw [z, hc] at e2; cases e2
            rintro ((z | z) | z)
            · exact na z
            · exact nc z
            · rcases z with (z | z) | z
              · exact na z
              · exact nc z
              · cases z
          · exact .kfls h
        obtain ⟨t, h, q⟩ := hr a c dx1 rfl rfl
        have s1 : SR K dx1 ((L2.start N [.ref a0]).set 1 (some (.ref a))) H' (put (startD N [.fls ns]) 1 (.adr a)) [] := by
          rw [put_set]
          exact (start_sr (.cons d1 .nil)).set 1 (.adr a)
        show ts _ ((L2.start N [.ref a0]).set 1 (some (.ref a))) H'
        refine h.go _ H' _ [] { nx := fun _ _ => False, rt := fun d _ => d = .bl true } _ r1 s1 (q ns few) ⟨?_, ?_, ?_, ?_⟩
        · intro σ' H' δ' S' r' x' s' p'
          exact p'.elim
        · intro σ' H' δ' S' r' x' s' p'
          exact p'.elim
        · intro σ' H' δ' S' r' x' s' p'
          exact p'.elim
        · rintro v H2 d S' r' x' hd rfl
          cases hd
          exact k' H2
end

section
variable {X : Cx} {dx : Dx} {k : Nat} {f a c : Addr} {fd : FuncData} {ps : List Str} {x : Str} {p pos : Pos} {e : Expr} {es : List Expr} {ta : TA} {fa : DTA} {spec : Addr → DSpec}
/-- f(heap, ..) -/
theorem de_callR (F : FnG X.prog X.w X.K X.mg X.base CX0 k f fd ps (spR X.K spec)) (room : Room k X.A) (guard : X.A.guards = some [])
    (hg : Gl X x) (hm : X.mg x = some (.ref f)) (kp : PySem.W.keepIn X.K (.ref f) = true) (hb : Binds X.K fd ps []) (h1 : dx.hand = handR a c) (h2 : dx.J = RandOk a c) (ha : DA X dx (e :: es) ta fa)
    (hdb : (x == ("__debug__" : Str)) = false := by decide)
    (he : starEach (e :: es) X.env = (false, eval e X.env) :: starEach es X.env := by rfl)
    (hpl : (backTo pos (starEach es X.env)).any (·.1) = false := by rfl) :
    DE X dx (.Call (.Name x p) (e :: es) [] pos) (tCall (spR X.K spec) [] (fun _ _ _ => False) ta) (dCall (spec a) fa) := by
  refine ⟨pe_callG F room guard hg hm kp hb .nil pass0 ha.pe hdb he hpl, fun σ H δ S Q Qh r s t kk => ?_⟩
  refine ha.go σ H δ S _ _ r s t fun vs H1 ds S1 r1 x1 d1 t1 => ?_
  rw [List.append_nil]
  exact ⟨a, c, spd_go r1 d1 (.inr ⟨h1.symm, h2.symm⟩) t1 (kk.on x1)⟩
/-- o[i] = e, of a list of one's own -/
def fSetI (o i d : D) (S : Sto) (k : Sto → Prop) : Prop := match o, i with
  | .adr p, .int j => opt (getS S p) fun ds => opt (ixN ds.length j) fun n => k (setS S p (ds.set n d))
  | _, _ => False
def dSetI (fe fo fi : DTE) : DTS := fun DD δ S => fe δ S fun d S1 => fo δ S1 fun o S2 => fi δ S2 fun i S3 => fSetI o i d S3 fun S4 => DD.nx δ S4
theorem ds_setI {st o i : Expr} {st' : Stmt} {te to ti : TE} {fe fo fi : DTE} (hE : DE X dx e te fe) (hO : DE X dx o to fo) (hI : DE X dx i ti fi) (hp : PS X st' (tAsg te (gSub to ti rSetL))) : DS X dx st' (tAsg te (gSub to ti rSetL)) (dSetI fe fo fi) := by
  refine ⟨hp, fun σ H δ S DD E r s q k => ?_⟩
  refine hE.go σ H δ S _ _ r s q fun v H1 d S1 r1 x1 d1 t1 => ?_
  refine hO.go σ H1 δ S1 _ _ r1 (s.ext x1) t1 fun vo H2 o S2 r2 x2 d2 t2 => ?_
  refine hI.go σ H2 δ S2 _ _ r2 (s.ext (x1.trans x2)) t2 fun vi H3 i S3 r3 x3 d3 t3 => ?_
  unfold fSetI at t3
  split at t3
  · rename_i p j
    obtain ⟨ds, g, t3⟩ := opt_run t3
    obtain ⟨n, en, t3⟩ := opt_run t3
    cases d3
    have d2' := d2.ext x3
    cases d2'
    obtain ⟨m, ws, eh, al⟩ := r3.get g
    have x4 : Ext (Mu dx S3) H3 (Mu dx (setS S3 p (ds.set n d))) (upd H3 p (.lst (ws.set n v))) := ext_set m
    refine ⟨p, ws, j, n, rfl, rfl, eh, by rw [al.length]; exact en, k.nx _ _ _ _ (r3.put m (al.set (d1.ext (x2.trans x3)) n)) (((x1.trans x2).trans x3).trans x4) (s.ext (((x1.trans x2).trans x3).trans x4)) t3⟩
  · exact t3.elim
end
end DL
/-! The rules once more, with what they need of single values made from their own parts. -/
namespace DL
open PySem PySem.Spec L2 Gd

structure CalD (K : PySem.W.Frag) (mg : Str → Option Value) (x : Str) (st : Stmt) (ps : List Str) where
  f : Addr
  fd : FuncData
  m : mg x = some (.ref f)
  F : Fun K x x st f fd
  b : Binds K fd ps []
section
variable {X : Cx} {dx : Dx} {a e o i tg st : Expr} {es : List Expr} {to te ti : TE} {ta : TA} {fo fe fi : DTE} {fa : DTA} {s : Stmt} {pos p : Pos} {x : Str}
theorem de_met' {r : V → List V → Hp → VK → Prop} {f} (m : MetD X.K dx r f) (ho : DE X dx a to fo) (ha : DA X dx es ta fa) (hp : PE X a to → PA X es ta → PE X st (tBM X.K "list" r to ta)) : DE X dx st (tBM X.K "list" r to ta) (dML f fo fa) := de_met m ho ha (hp ho.pe ha.pe)
theorem de_met0' {r : V → List V → Hp → VK → Prop} {f} (m : MetD X.K dx r f) (ho : DE X dx a to fo) (hp : PE X a to → PE X st (tBM0 X.K "list" r to)) : DE X dx st (tBM0 X.K "list" r to) (dML0 f fo) := de_met0 m ho (hp ho.pe)
def isi_tuple (t : String) : Bool := t == "tuple"
def isi_int (t : String) : Bool := t == "int" || t == "bool"
def isi_bool (t : String) : Bool := t == "bool"
def isi_list (t : String) : Bool := t == "list"
def isi_str (t : String) : Bool := t == "str"
theorem de_isi' {T : String} {f : String → Bool} (hf : ∀ t ∈ ["NoneType", "bool", "int", "str", "tuple", "list"], kitB t T = some (f t)) (he : DE X dx e te fe) (hp : PE X e te → PE X st (tIsi X.K T te)) : DE X dx st (tIsi X.K T te) (dIsi f fe) := de_isi hf he (hp he.pe)
theorem de_callB' {id : String} {r : List V → Hp → VK → Prop} {f} (hc : CallR X (.builtin id) r) (o : CallD X.K dx r f) (ha : DA X dx es ta fa) (hp : PA X es ta → PE X st (tCB r ta)) : DE X dx st (tCB r ta) (dCB f fa) := ⟨hp ha.pe, cb_go o ha⟩
theorem de_callTy' {id : String} {r : List V → Hp → VK → Prop} {f} (hc : CallR X (.type id) r) (o : CallD X.K dx r f) (ha : DA X dx es ta fa) (hp : PA X es ta → PE X st (tCB r ta)) : DE X dx st (tCB r ta) (dCB f fa) := ⟨hp ha.pe, cb_go o ha⟩
theorem dgs_cons' {g : TG} {u : TGs} {f : DTG} {w : DTGs} {o1 o2 : List Nat} (h1 : DG X dx e g f o1) (h2 : DGs X dx es u w o2) (hl : PG X e g → PGs X es u → PGs X (e :: es) (gCons g u)) : DGs X dx (e :: es) (gCons g u) (dgCons f w) (o1 ++ o2) := dgs_cons h1 h2 (hl h1.pe h2.pe)
theorem dg_tup' {k : Nat} {g : TGs} {f : DTGs} {n : Nat} {o : List Nat} (h : DGs X dx es g f o) (hp : PGs X es g → PG X (.Tuple es k pos) (gTup X.K n g)) : DG X dx (.Tuple es k pos) (gTup X.K n g) (dgTup n f) o := dg_tup h (hp h.pe)
theorem di_range3' {b c : Expr} (h : PA X [a, b, c] ta → PI X tg (.Call (.Name "range" p) [a, b, c] [] pos) (iRng3 ta)) (ha : DA X dx [a, b, c] ta fa) : DI X dx tg (.Call (.Name "range" p) [a, b, c] [] pos) (iRng3 ta) (dRng3 fa) := di_range3 (h ha.pe) ha
theorem di_zip' (ha : DA X dx es ta fa) (hp : PA X es ta → PI X tg st (iZipM X.K ta)) : DI X dx tg st (iZipM X.K ta) (dZip fa) := di_zip ha (hp ha.pe)
theorem di_rev' (he : DE X dx e te fe) (hp : PE X e te → PI X tg st (RT.iRevA X.K te)) : DI X dx tg st (RT.iRevA X.K te) (dRev fe) := di_rev (p := ⟨0, 0, 0, 0⟩) he (hp he.pe)
theorem ds_par' {i j : Nat} (h : DA X dx es ta fa) (hp : PA X es ta → PS X s (tPar i j ta)) : DS X dx s (tPar i j ta) (dPar [i, j] fa) := ds_par h (hp h.pe)
theorem ds_par3' {i j l : Nat} (h : DA X dx es ta fa) (hp : PA X es ta → PS X s (tPar3 i j l ta)) : DS X dx s (tPar3 i j l ta) (dPar [i, j, l] fa) := ds_par3 h (hp h.pe)
theorem ds_asg' {g : TG} {f : DTG} {o : List Nat} (h : DE X dx e te fe) (hg : DG X dx tg g f o) (hp : PE X e te → PG X tg g → PS X s (tAsg te g)) : DS X dx s (tAsg te g) (dAsg fe f) := ds_asg h hg (hp h.pe hg.pe)
theorem ds_setI' (hE : DE X dx e te fe) (hO : DE X dx o to fo) (hI : DE X dx i ti fi) (hp : PE X e te → PE X o to → PE X i ti → PS X s (tAsg te (gSub to ti rSetL))) : DS X dx s (tAsg te (gSub to ti rSetL)) (dSetI fe fo fi) := ds_setI (st := e) hE hO hI (hp hE.pe hO.pe hI.pe)
theorem ds_aug' {i : Nat} {tp : TIp} {f : F2} (h : DE X dx e te fe) (o : OpD X.K dx tp f) (hp : PE X e te → PS X s (tAug i te tp)) : DS X dx s (tAug i te tp) (dAug i f fe) := ds_aug (hp h.pe) h o
end
end DL
/-! The rules with what is known named outright, so that they can stand in a comprehension, too. -/
namespace DL
open PySem PySem.Spec L2 Gd

section
variable {X : Cx} {dx : Dx} {a b e o i tg st : Expr} {es : List Expr} {kws : List Keyword} {ta' tb' te to ti : TE} {ta tk : TA} {fo fe fi ga gb : DTE} {fa fk : DTA} {s : Stmt} {pos p : Pos} {x : Str}
theorem op_addAll_ (K : PySem.W.Frag) (hK : X.K = K := by rfl) : OpR X (binaryOp .Add) (DL.rAdd K) := by subst hK; exact op_addAll
theorem op_mulAll_ (K : PySem.W.Frag) (hK : X.K = K := by rfl) : OpR X (binaryOp .Mult) (DL.rMul K) := by subst hK; exact op_mulAll
theorem op_eqA_ (K : PySem.W.Frag) (hu : X.A.units + 64 < cLine) (hK : X.K = K := by rfl) : OpR X (compareOp .Eq) (rEqA K) := by subst hK; exact op_eqA hu
theorem op_neA_ (K : PySem.W.Frag) (hu : X.A.units + 64 < cLine) (hK : X.K = K := by rfl) : OpR X (compareOp .NotEq) (rNeA K) := by subst hK; exact op_neA hu
theorem de_ix_ (K : PySem.W.Frag) (ha : DE X dx a ta' ga) (hb : DE X dx b tb' gb) (hs : PlainIx b := by exact fun _ _ => rfl) (hK : X.K = K := by rfl) : DE X dx (.Subscript a b pos) (tOp (rIx K) ta' tb') (dOp fIx ga gb) := by subst hK; exact de_ix ha hb hs
theorem de_slice_ (K : PySem.W.Frag) {lo hi : Option Expr} {tl th : TO} {fl fh : DTO} {p2 : Pos} (he : DE X dx e te fe) (hl : DO X dx lo tl fl) (hu : DO X dx hi th fh) (hK : X.K = K := by rfl) : DE X dx (.Subscript e (.Slice lo hi none p2) pos) (tSl (rSl K) te tl th) (dSl fe fl fh) := by subst hK; exact de_slice he hl hu
theorem de_rev_ (K : PySem.W.Frag) {k' : Nat} {p1 p2 p3 : Pos} (he : DE X dx e te fe) (hK : X.K = K := by rfl) : DE X dx (.Subscript e (.Slice none none (some (.UnaryOp .USub (.Constant (.int 1) k' p1) p2)) p3) pos) (tRevL K te) (dUn fRev fe) := by subst hK; exact de_rev he
theorem dt_tru_ (K : PySem.W.Frag) (h : DE X dx e te fe) (he : ∀ whole, isTrue e X.env whole = (do let v ← whole; standAt e.pos; holding [v] (truthy v)) := by intro _; rfl) (hK : X.K = K := by rfl) : DT X dx e (tTr K te) (dTr fe) := by subst hK; exact dt_tru h he
theorem di_seq_ (K : PySem.W.Frag) (h : DE X dx e te fe) (hK : X.K = K := by rfl) : DI X dx tg e (iSeq K te) (dSeq fe) := by subst hK; exact di_seq h
theorem di_zip_ (K : PySem.W.Frag) (ha : DA X dx es ta fa) (hp : PA X es ta → PI X tg (.Call (.Name x p) es [] pos) (iZipM K ta)) (hK : X.K = K := by rfl) : DI X dx tg (.Call (.Name x p) es [] pos) (iZipM K ta) (dZip fa) := by subst hK; exact di_zip' ha hp
theorem di_rev_ (K : PySem.W.Frag) (he : DE X dx e te fe) (hp : PE X e te → PI X tg (.Call (.Name x p) [e] [] pos) (RT.iRevA K te)) (hK : X.K = K := by rfl) : DI X dx tg (.Call (.Name x p) [e] [] pos) (RT.iRevA K te) (dRev fe) := by subst hK; exact di_rev' he hp
theorem dg_tup_ (K : PySem.W.Frag) {k : Nat} {g : TGs} {f : DTGs} {n : Nat} {ow : List Nat} (h : DGs X dx es g f ow) (hp : PGs X es g → PG X (.Tuple es k pos) (gTup K n g)) (hK : X.K = K := by rfl) : DG X dx (.Tuple es k pos) (gTup K n g) (dgTup n f) ow := by subst hK; exact dg_tup' h hp
theorem de_met_ (K : PySem.W.Frag) {nm : Str} {apos : Pos} {r : V → List V → Hp → VK → Prop} {f} (m : MetD X.K dx r f) (ho : DE X dx a to fo) (ha : DA X dx es ta fa) (hp : PE X a to → PA X es ta → PE X (.Call (.Attribute a nm apos) es [] pos) (tBM K "list" r to ta)) (hK : X.K = K := by rfl) : DE X dx (.Call (.Attribute a nm apos) es [] pos) (tBM K "list" r to ta) (dML f fo fa) := by subst hK; exact de_met' m ho ha hp
theorem de_met0_ (K : PySem.W.Frag) {nm : Str} {apos : Pos} {r : V → List V → Hp → VK → Prop} {f} (m : MetD X.K dx r f) (ho : DE X dx a to fo) (hp : PE X a to → PE X (.Call (.Attribute a nm apos) [] [] pos) (tBM0 K "list" r to)) (hK : X.K = K := by rfl) : DE X dx (.Call (.Attribute a nm apos) [] [] pos) (tBM0 K "list" r to) (dML0 f fo) := by subst hK; exact de_met0' m ho hp
theorem de_isi_ (K : PySem.W.Frag) {T : String} {f : String → Bool} (hf : ∀ t ∈ ["NoneType", "bool", "int", "str", "tuple", "list"], kitB t T = some (f t)) (he : DE X dx e te fe) (hp : PE X e te → PE X (.Call (.Name x p) [e, b] [] pos) (tIsi K T te)) (hK : X.K = K := by rfl) : DE X dx (.Call (.Name x p) [e, b] [] pos) (tIsi K T te) (dIsi f fe) := by subst hK; exact de_isi' hf he hp
def rTuple (K : PySem.W.Frag) : List V → Hp → VK → Prop := fun xs H Q => ∃ p ys, xs = [.ref p] ∧ ((SqL K H p ys ∧ ∀ l, H l = none → Q (.ref l) (upd H l (.tup ys))) ∨ (SqT K H p ys ∧ Q (.ref p) H))
def rList (K : PySem.W.Frag) : List V → Hp → VK → Prop := fun xs H Q => ∃ p ys, xs = [.ref p] ∧ (SqL K H p ys ∨ SqT K H p ys) ∧ ∀ l, H l = none → Q (.ref l) (upd H l (.lst ys))
theorem cr_tuple_ (K : PySem.W.Frag) (hK : X.K = K := by rfl) : CallR X (.type "tuple") (rTuple K) := by subst hK; exact call_tuple_of
theorem cr_list_ (K : PySem.W.Frag) (hK : X.K = K := by rfl) : CallR X (.type "list") (rList K) := by subst hK; exact call_list_of
theorem cd_tuple_ {K : PySem.W.Frag} : CallD K dx (rTuple K) (one fTuple) := cd_tuple
theorem cd_list_ {K : PySem.W.Frag} : CallD K dx (rList K) (one fList) := cd_list
theorem cr_len_ (K : PySem.W.Frag) (hK : X.K = K := by rfl) : CallR X (.builtin "len") (rLen K) := by subst hK; exact cr_len
theorem cr_repr_ (K : PySem.W.Frag) (guard : X.A.guards = some []) (hu : X.A.units + 64 < cLine) (hK : X.K = K := by rfl) : CallR X (.builtin "repr") (rRepr K) := by subst hK; exact cr_repr guard hu
theorem cr_all_ (K : PySem.W.Frag) (hc : X.calm = true) (hK : X.K = K := by rfl) : CallR X (.builtin "all") (rAll K) := by subst hK; exact cr_all hc
theorem cr_any_ (K : PySem.W.Frag) (hc : X.calm = true) (hK : X.K = K := by rfl) : CallR X (.builtin "any") (rAny K) := by subst hK; exact cr_any hc
theorem cr_sum_ (K : PySem.W.Frag) (hc : X.calm = true) (hK : X.K = K := by rfl) : CallR X (.builtin "sum") (rSum K) := by subst hK; exact cr_sum hc
theorem cr_isi_ (K : PySem.W.Frag) (hK : X.K = K := by rfl) : CallR X (.builtin "isinstance") (rIsi K) := by subst hK; exact call_isi
theorem de_callB_ {id : String} {r : List V → Hp → VK → Prop} {f} (hc : CallR X (.builtin id) r) (o : CallD X.K dx r f) (ha : DA X dx es ta fa) (hp : PA X es ta → PE X (.Call (.Name x p) es [] pos) (tCB r ta)) : DE X dx (.Call (.Name x p) es [] pos) (tCB r ta) (dCB f fa) := ⟨hp ha.pe, cb_go o ha⟩
theorem de_callTy_ {id : String} {r : List V → Hp → VK → Prop} {f} (hc : CallR X (.type id) r) (o : CallD X.K dx r f) (ha : DA X dx es ta fa) (hp : PA X es ta → PE X (.Call (.Name x p) es [] pos) (tCB r ta)) : DE X dx (.Call (.Name x p) es [] pos) (tCB r ta) (dCB f fa) := ⟨hp ha.pe, cb_go o ha⟩
theorem ds_par_ {i j : Nat} {tgs : List Expr} {kt k2 : Nat} {pt pt2 : Pos} (h : DA X dx es ta fa) (hp : PA X es ta → PS X (.Assign [.Tuple tgs kt pt] (.Tuple es k2 pt2) pos) (tPar i j ta)) : DS X dx (.Assign [.Tuple tgs kt pt] (.Tuple es k2 pt2) pos) (tPar i j ta) (dPar [i, j] fa) := ds_par h (hp h.pe)
theorem ds_par3_ {i j l : Nat} {tgs : List Expr} {kt k2 : Nat} {pt pt2 : Pos} (h : DA X dx es ta fa) (hp : PA X es ta → PS X (.Assign [.Tuple tgs kt pt] (.Tuple es k2 pt2) pos) (tPar3 i j l ta)) : DS X dx (.Assign [.Tuple tgs kt pt] (.Tuple es k2 pt2) pos) (tPar3 i j l ta) (dPar [i, j, l] fa) := ds_par3 h (hp h.pe)
theorem ds_asg_ {g : TG} {f : DTG} {ow : List Nat} (h : DE X dx e te fe) (hg : DG X dx tg g f ow) (hp : PE X e te → PG X tg g → PS X (.Assign [tg] e pos) (tAsg te g)) : DS X dx (.Assign [tg] e pos) (tAsg te g) (dAsg fe f) := ds_asg h hg (hp h.pe hg.pe)
theorem ds_setI_ {p2 : Pos} (hE : DE X dx e te fe) (hO : DE X dx o to fo) (hI : DE X dx i ti fi) (hp : PE X e te → PE X o to → PE X i ti → PS X (.Assign [.Subscript o i p2] e pos) (tAsg te (gSub to ti rSetL))) : DS X dx (.Assign [.Subscript o i p2] e pos) (tAsg te (gSub to ti rSetL)) (dSetI fe fo fi) := ds_setI (st := e) hE hO hI (hp hE.pe hO.pe hI.pe)
theorem ds_aug_ {i : Nat} {tp : TIp} {f : F2} {op : Operator} (h : DE X dx e te fe) (o : OpD X.K dx tp f) (hp : PE X e te → PS X (.AugAssign tg op e pos) (tAug i te tp)) : DS X dx (.AugAssign tg op e pos) (tAug i te tp) (dAug i f fe) := ds_aug (hp h.pe) h o
variable {k : Nat} {f c d : Addr} {fd : FuncData} {ps ks : List Str} {spec : DSpec} {specR : Addr → DSpec} {g : List Value → List Value → List Value} {gV : List V → List V → List V} {gD : List D → List D → List D}
theorem de_call_ (K : PySem.W.Frag) (F : FnG X.prog X.w K X.mg X.base CX0 k f fd ps (spP K spec)) (room : Room k X.A) (guard : X.A.guards = some [])
    (hg : Gl X x) (hm : X.mg x = some (.ref f)) (kp : PySem.W.keepIn K (.ref f) = true) (hb : Binds K fd ps []) (ha : DA X dx (e :: es) ta fa)
    (hdb : (x == ("__debug__" : Str)) = false := by decide)
    (he : starEach (e :: es) X.env = (false, eval e X.env) :: starEach es X.env := by rfl)
    (hpl : (backTo pos (starEach es X.env)).any (·.1) = false := by rfl) (hK : X.K = K := by rfl) :
    DE X dx (.Call (.Name x p) (e :: es) [] pos) (tCall (spP K spec) [] (fun _ _ _ => False) ta) (dCall spec fa) := by subst hK; exact de_call F room guard hg hm kp hb (.inl ⟨rfl, rfl⟩) ha hdb he hpl
theorem de_callR_ (K : PySem.W.Frag) (F : FnG X.prog X.w K X.mg X.base CX0 k f fd ps (spR K specR)) (room : Room k X.A) (guard : X.A.guards = some [])
    (hg : Gl X x) (hm : X.mg x = some (.ref f)) (kp : PySem.W.keepIn K (.ref f) = true) (hb : Binds K fd ps []) (h1 : dx.hand = handR c d) (h2 : dx.J = RandOk c d) (ha : DA X dx (e :: es) ta fa)
    (hdb : (x == ("__debug__" : Str)) = false := by decide)
    (he : starEach (e :: es) X.env = (false, eval e X.env) :: starEach es X.env := by rfl)
    (hpl : (backTo pos (starEach es X.env)).any (·.1) = false := by rfl) (hK : X.K = K := by rfl) :
    DE X dx (.Call (.Name x p) (e :: es) [] pos) (tCall (spR K specR) [] (fun _ _ _ => False) ta) (dCall (specR c) fa) := by subst hK; exact de_callR F room guard hg hm kp hb h1 h2 ha hdb he hpl
theorem de_callK_ (K : PySem.W.Frag) (F : FnG X.prog X.w K X.mg X.base CX0 k f fd ps (spP K spec)) (room : Room k X.A) (guard : X.A.guards = some [])
    (hg : Gl X x) (hm : X.mg x = some (.ref f)) (kp : PySem.W.keepIn K (.ref f) = true) (hb : KBinds K fd ps ks g gV) (ho : KOrd gV gD) (ha : DA X dx (e :: es) ta fa) (hk : DK X dx kws tk fk)
    (hall : (backToKw pos (keywordEach kws X.env)).all (·.1.isSome) = true := by rfl)
    (hks : (backToKw pos (keywordEach kws X.env)).filterMap (·.1) = ks := by rfl)
    (hdb : (x == ("__debug__" : Str)) = false := by decide)
    (he : starEach (e :: es) X.env = (false, eval e X.env) :: starEach es X.env := by rfl)
    (hpl : ((backTo pos (starEach (e :: es) X.env)).any (·.1) || (backToKw pos (keywordEach kws X.env)).any (·.1.isNone)) = false := by rfl) (hK : X.K = K := by rfl) :
    DE X dx (.Call (.Name x p) (e :: es) kws pos) (tCallK (spP K spec) gV (fun _ _ _ => False) ta tk) (dCallK spec gD fa fk) := by subst hK; exact de_callK F room guard hg hm kp hb ho (.inl ⟨rfl, rfl⟩) ha hk hall hks hdb he hpl
theorem de_callK0_ (K : PySem.W.Frag) (F : FnG X.prog X.w K X.mg X.base CX0 k f fd ps (spP K spec)) (room : Room k X.A) (guard : X.A.guards = some [])
    (hg : Gl X x) (hm : X.mg x = some (.ref f)) (kp : PySem.W.keepIn K (.ref f) = true) (hb : KBinds K fd ps ks g gV) (ho : KOrd gV gD) (hk : DK X dx kws tk fk)
    (hall : (backToKw pos (keywordEach kws X.env)).all (·.1.isSome) = true := by rfl)
    (hks : (backToKw pos (keywordEach kws X.env)).filterMap (·.1) = ks := by rfl)
    (hdb : (x == ("__debug__" : Str)) = false := by decide)
    (hpl : ((backTo pos (starEach [] X.env)).any (·.1) || (backToKw pos (keywordEach kws X.env)).any (·.1.isNone)) = false := by rfl) (hK : X.K = K := by rfl) :
    DE X dx (.Call (.Name x p) [] kws pos) (tCallK (spP K spec) gV (fun _ _ _ => False) tNil tk) (dCallK spec gD dNil fk) := by subst hK; exact de_callK0 F room guard hg hm kp hb ho (.inl ⟨rfl, rfl⟩) hk hall hks hdb hpl
end
end DL
/-! Numbers as data; the helpers that draw. -/
namespace DL
open PySem PySem.Spec L2 Gd

/-! ### numbers as data -/
def nD (cs : List Nat) : List D := cs.map fun c : Nat => D.int (c : Int)
def asSeq : D → Option (List D)
  | .tup ds => some ds
  | .lst ds => some ds
  | _ => none
theorem items_of {Q : List D → Sto → Prop} {q : D} {xs : List D} {S : Sto} (h : asSeq q = some xs) : items Q q S = Q xs S := by
  cases q with
  | tup ds => cases h; rfl
  | lst ds => cases h; rfl
  | _ => cases h
theorem fLen_of {Q : D → Sto → Prop} {q : D} {xs : List D} {S : Sto} (h : asSeq q = some xs) : fLen q S Q = Q (.int xs.length) S := by
  cases q with
  | tup ds => cases h; rfl
  | lst ds => cases h; rfl
  | _ => cases h
theorem nD_len (cs : List Nat) : (nD cs).length = cs.length := List.length_map _
theorem nD_get {cs : List Nat} {i : Nat} {c : Nat} (h : cs[i]? = some c) : (nD cs)[i]? = some (.int (c : Int)) := by
  unfold nD
  rw [List.getElem?_map, h]
  rfl
def prodN : List Nat → Nat
  | [] => 1
  | c :: cs => c * prodN cs
theorem prodN_append (a b : List Nat) : prodN (a ++ b) = prodN a * prodN b := by
  induction a with
  | nil => simp [prodN]
  | cons c a ih => simp only [List.cons_append, prodN, ih, Nat.mul_assoc]
theorem prodN_reverse (a : List Nat) : prodN a.reverse = prodN a := by
  induction a with
  | nil => rfl
  | cons c a ih => simp only [List.reverse_cons, prodN_append, prodN, ih, Nat.mul_one, Nat.mul_comm]
/-- none is 0 or great -/
def Pos1 (cs : List Nat) : Prop := ∀ c ∈ cs, 1 ≤ c ∧ c < 2 ^ 60
theorem prodN_pos {cs : List Nat} (h : Pos1 cs) : 1 ≤ prodN cs := by
  induction cs with
  | nil => exact Nat.le_refl _
  | cons c cs ih =>
    have h1 := (h c List.mem_cons_self).1
    have h2 := ih fun x m => h x (List.mem_cons_of_mem _ m)
    exact Nat.mul_le_mul h1 h2
theorem rngD_nD (n : Nat) : rngD 0 1 n = nD (List.range n) := by
  unfold rngD nD
  apply List.map_congr_left
  intro i _
  simp
theorem Rg.nat {n : Nat} (h : n < 2 ^ 62) : Rg (n : Int) := by
  unfold Rg
  omega
theorem getC_self {p : Addr} {xs : Cel} {S : Sto} : getC ((p, xs) :: S) p = some xs := by
  unfold getC
  rw [List.find?_cons_of_pos (by simp)]
  rfl
theorem getC_other {p q : Addr} {xs : Cel} {S : Sto} (h : p ≠ q) : getC ((p, xs) :: S) q = getC S q := by
  unfold getC
  rw [List.find?_cons_of_neg (by simpa using h)]
theorem getS_self {p : Addr} {xs : List D} {S : Sto} : getS ((p, .l xs) :: S) p = some xs := by
  unfold getS
  rw [getC_self]
  rfl
theorem getS_other {p q : Addr} {xs : Cel} {S : Sto} (h : p ≠ q) : getS ((p, xs) :: S) q = getS S q := by
  unfold getS
  rw [getC_other h]
theorem getK_self {p : Addr} {xs : List (Key × D)} {S : Sto} : getK ((p, .d xs) :: S) p = some xs := by
  unfold getK
  rw [getC_self]
  rfl
theorem getK_other {p q : Addr} {xs : Cel} {S : Sto} (h : p ≠ q) : getK ((p, xs) :: S) q = getK S q := by
  unfold getK
  rw [getC_other h]
theorem setS_one {p : Addr} {xs ys : Cel} : setS [(p, xs)] p ys = [(p, ys)] := by
  unfold setS
  simp
theorem delS_one {p : Addr} {xs : Cel} : delS [(p, xs)] p = [] := by
  unfold delS
  simp
theorem opt_of {α : Type} {o : Option α} {x : α} {Q : α → Prop} (e : o = some x) (h : Q x) : opt o Q := by
  rw [e]
  exact h
theorem log60 {c : Nat} (h : c < 2 ^ 60) : ((c : Nat) : Int).natAbs.log2 < 9000 := by
  rw [Int.natAbs_natCast]
  by_cases z : c = 0
  · rw [z]; decide
  · have := (Nat.log2_lt z).mpr h
    omega
theorem fIx_of {Q : D → Sto → Prop} {q : D} {xs : List D} {S : Sto} {i : Nat} (h : asSeq q = some xs) (hi : i < xs.length) (t : Q (xs.getD i .non) S) : fIx q (.int (i : Int)) S Q := by
  have e : atI xs (i : Int) = some (xs.getD i .non) := by
    refine atI_nat ?_
    rw [List.getD_eq_getElem?_getD, List.getElem?_eq_getElem hi]
    rfl
  cases q with
  | tup ds => cases h; exact opt_of e t
  | lst ds => cases h; exact opt_of e t
  | _ => cases h

/-! ### _law_pick -/
def spPick (a : Addr) : DSpec := fun ds post => ∃ xs, ds = [.adr a, .lst xs] ∧ xs ≠ [] ∧ xs.length ≤ 1000 ∧ ∀ x ∈ xs, post x
def rPick (a : Addr) : DTS := (dRet (dOp fIx (dVar 1) (dCall (spDraw a) (dCons (dVar 0) (dCons (dCB (one fLen) (dCons (dVar 1) dNil)) dNil)))))
theorem frz_nil (d : D) : frz [] d = d := by cases d <;> rfl
theorem lnPick : ∀ a ds post, spPick a ds post → ds.length = 2 := by
  rintro a ds post ⟨xs, rfl, _⟩
  rfl
theorem vcPick (a : Addr) : ∀ ds post, spPick a ds post → rPick a { nx := fun _ _ => post .non, rt := fun d _ => post d } (ds.map some ++ List.replicate (2 - ds.length) none) [] := by
  rintro ds post ⟨xs, rfl, hn, hl, h⟩
  have h1 : 1 ≤ xs.length := List.length_pos_iff.mpr hn
  refine ⟨(xs.length : Int), rfl, by omega, by omega, fun r r0 r1 => ?_⟩
  obtain ⟨n, rfl⟩ := Int.eq_ofNat_of_zero_le r0
  have hi : n < xs.length := by omega
  refine fIx_of rfl hi ?_
  have m : xs.getD n .non ∈ xs := by
    rw [List.getD_eq_getElem?_getD, List.getElem?_eq_getElem hi]
    exact List.getElem_mem hi
  have e := h _ m
  show post (frz [] (xs.getD n .non))
  rw [frz_nil]
  exact e

/-! ### _law_draw -/
def rDraw (k1 k2 : Int) : DTS := (dSeqS (dWhile (dAnd (dTest (dOp fNe (dOp fIx (dVar 0) (dC (.int 0))) (dLst dNil))) (dTest (dOp fEq (dOp fIx (dOp fIx (dVar 0) (dC (.int 0))) (dUn fNeg (dC (.int 1)))) (dC (.int 0))))) (dDrop (dML0 fPop (dOp fIx (dVar 0) (dC (.int 0)))))) (dSeqS (dIfS (dTest (dOp fNe (dOp fIx (dVar 0) (dC (.int 0))) (dLst dNil))) (dSeqS (dSet 2 (dML0 fPop (dOp fIx (dVar 0) (dC (.int 0))))) (dSeqS (dDrop (dML fAppend (dOp fIx (dVar 0) (dC (.int 0))) (dCons (dOp fDiv (dVar 2) (dVar 1)) dNil))) (dRet (dOp fMod (dCB (one fInt) (dCons (dVar 2) dNil)) (dVar 1))))) dNext) (dSeqS (dSetI (dOp fMod (dCB (one fInt) (dCons (dOp fAdd (dOp fMul (dOp fIx (dVar 0) (dC (.int 1))) (dC (.int k1))) (dC (.int k2))) dNil)) (dC (.int 2147483647))) (dVar 0) (dC (.int 1))) (dRet (dOp fMod (dCB (one fInt) (dCons (dOp fDiv (dOp fIx (dVar 0) (dC (.int 1))) (dC (.int 32))) dNil)) (dVar 1))))))
def St (a c : Addr) (z : Int) (cs : List Int) : Sto := [(a, .l [.adr c, .int z]), (c, .l (cs.map D.int))]
section
variable {a c : Addr} {z : Int} {cs : List Int}
theorem St_a : getS (St a c z cs) a = some [.adr c, .int z] := getS_self
theorem St_c (h : a ≠ c) : getS (St a c z cs) c = some (cs.map D.int) := (getS_other h).trans getS_self
theorem St_setC (h : a ≠ c) (ds : List Int) : setS (St a c z cs) c (.l (ds.map D.int)) = St a c z ds := by
  unfold setS St
  simp [h]
theorem St_setA (h : a ≠ c) (y : Int) : setS (St a c z cs) a (.l [.adr c, .int y]) = St a c y cs := by
  unfold setS St
  simp [h, Ne.symm h]
theorem fIx_list {Q : D → Sto → Prop} (h : Q (.adr c) (St a c z cs)) : fIx (.adr a) (.int 0) (St a c z cs) Q := opt_of St_a (opt_of (x := D.adr c) rfl h)
theorem fIx_num {Q : D → Sto → Prop} (h : Q (.int z) (St a c z cs)) : fIx (.adr a) (.int 1) (St a c z cs) Q := opt_of St_a (opt_of (x := D.int z) rfl h)
theorem ne_nil {Q : D → Sto → Prop} (h : a ≠ c) (q : Q (.bl (!cs.isEmpty)) (St a c z cs)) : fNe (.adr c) (.lst []) (St a c z cs) Q := by
  have e : frz (St a c z cs) (.adr c) = .lst (cs.map D.int) := by
    show frzO c (getS (St a c z cs) c) = _
    rw [St_c h]
    rfl
  have hd : dn 40 (.lst (cs.map D.int)) = true := by
    show (cs.map D.int).all (dn 39) = true
    rw [List.all_eq_true]
    intro x m
    obtain ⟨i, _, rfl⟩ := List.mem_map.mp m
    rfl
  refine ⟨by rw [e]; exact hd, rfl, ?_⟩
  rw [e]
  have e2 : deq (.lst (cs.map D.int)) (frz (St a c z cs) (.lst [])) = cs.isEmpty := by
    show deq (.lst (cs.map D.int)) (.lst []) = cs.isEmpty
    cases cs with
    | nil => simp [deq, py, pyAll, PyData.eqv, PyData.eqvAll]
    | cons i cs => simp [deq, py, pyAll, PyData.eqv, PyData.eqvAll]
  rw [e2]
  exact q
theorem getLast_map {cs : List Int} {x : Int} : ((cs ++ [x]).map D.int)[((cs ++ [x]).map D.int).length - 1]? = some (.int x) := by
  rw [List.map_append, List.length_append]
  simp
theorem pop_map {cs : List Int} {x : Int} : ((cs ++ [x]).map D.int).dropLast = cs.map D.int := by
  rw [List.map_append]
  simp
theorem ROk.pop {x : Int} (h : ROk (cs ++ [x]) z) : ROk cs z ∧ 0 ≤ x ∧ cs.length ≤ 62 := by
  refine ⟨⟨fun y m => h.1 y (List.mem_append_left _ m), ?_, h.2.2⟩, h.1 x (by simp), ?_⟩
  · have := h.2.1
    rw [List.length_append, List.length_singleton] at this
    omega
  · have := h.2.1
    rw [List.length_append, List.length_singleton] at this
    omega
theorem vcDraw (k1 k2 : Int) (hk1 : -(2 ^ 64) < k1 ∧ k1 < 2 ^ 64) : ∀ (a c : Addr) (cs : List Int) (z m : Int), a ≠ c → ROk cs z → 1 ≤ m → m < 2 ^ 62 → rDraw k1 k2 { nx := fun _ _ => False, rt := drawEnd a c m } [some (.adr a), some (.int m), none] [(a, .l [.adr c, .int z]), (c, .l (cs.map D.int))] := by
  intro a c cs z m ne ok m1 m2
  show rDraw k1 k2 _ _ (St a c z cs)
  have mlog : m.natAbs.log2 < 9000 := by
    have h : m.natAbs < 2 ^ 62 := by omega
    have := (Nat.log2_lt (by omega)).mpr h
    omega
  -- the while
  refine ⟨fun n δ S => δ = [some (.adr a), some (.int m), none] ∧ ∃ cs, S = St a c z cs ∧ ROk cs z ∧ cs.length = n, ⟨cs.length, rfl, cs, rfl, ok, rfl⟩, ?_⟩
  rintro n δ S ⟨rfl, cs, rfl, ok, rfl⟩
  have behind : ∀ cs, ROk cs z → (dSeqS (dIfS (dTest (dOp fNe (dOp fIx (dVar 0) (dC (.int 0))) (dLst dNil))) (dSeqS (dSet 2 (dML0 fPop (dOp fIx (dVar 0) (dC (.int 0))))) (dSeqS (dDrop (dML fAppend (dOp fIx (dVar 0) (dC (.int 0))) (dCons (dOp fDiv (dVar 2) (dVar 1)) dNil))) (dRet (dOp fMod (dCB (one fInt) (dCons (dVar 2) dNil)) (dVar 1))))) dNext) (dSeqS (dSetI (dOp fMod (dCB (one fInt) (dCons (dOp fAdd (dOp fMul (dOp fIx (dVar 0) (dC (.int 1))) (dC (.int k1))) (dC (.int k2))) dNil)) (dC (.int 2147483647))) (dVar 0) (dC (.int 1))) (dRet (dOp fMod (dCB (one fInt) (dCons (dOp fDiv (dOp fIx (dVar 0) (dC (.int 1))) (dC (.int 32))) dNil)) (dVar 1)))))
      { nx := fun _ _ => False, rt := drawEnd a c m } [some (.adr a), some (.int m), none] (St a c z cs) := by
    intro cs ok
    refine opt_of St_a (opt_of (x := D.adr c) rfl ?_)
    refine ⟨by show 0 ≤ 16777216; decide, ne_nil ne ?_⟩
    rcases List.eq_nil_or_concat cs with rfl | ⟨cs, x, rfl⟩
    · -- no great numbers left
      refine opt_of St_a (opt_of (x := D.int _) rfl ?_)
      refine ⟨MOk.right hk1, ?_⟩
      refine ⟨by show (0 : Int) < 2147483647; decide, opt_of St_a (opt_of (x := 1) rfl ?_)⟩
      show dRet (dOp fMod (dCB (one fInt) (dCons (dOp fDiv (dOp fIx (dVar 0) (dC (.int 1))) (dC (.int 32))) dNil)) (dVar 1)) { nx := fun _ _ => False, rt := drawEnd a c m } [some (.adr a), some (.int m), none] (setS (St a c z []) a (.l [D.adr c, D.int ((z * k1 + k2) % 2147483647)]))
      rw [St_setA ne]
      refine opt_of St_a (opt_of (x := D.int _) rfl ?_)
      refine ⟨⟨by decide, by decide⟩, ⟨by omega, ?_⟩⟩
      have b0 : 0 ≤ (z * k1 + k2) % 2147483647 := Int.emod_nonneg _ (by decide)
      have b1 : (z * k1 + k2) % 2147483647 < 2147483647 := Int.emod_lt_of_pos _ (by decide)
      exact ⟨_, [], _, rfl, Int.emod_nonneg _ (by omega), Int.emod_lt_of_pos _ (by omega), St_a, St_c ne, fun x m => (nomatch m), by decide, b0, by omega⟩
    · rw [List.concat_eq_append] at ok ⊢
      obtain ⟨ok2, x0, l62⟩ := ok.pop
      have e : (!(cs ++ [x]).isEmpty) = true := by cases cs <;> rfl
      rw [e]
      refine opt_of St_a (opt_of (x := D.adr c) rfl ?_)
      refine ⟨?_, opt_of (St_c ne) (opt_of getLast_map ?_)⟩
      · show (getS _ c).isSome = true
        rw [St_c ne]
        rfl
      · rw [pop_map, St_setC ne]
        refine opt_of St_a (opt_of (x := D.adr c) rfl ?_)
        refine ⟨?_, ⟨by omega, mlog⟩, ?_⟩
        · show (getS _ c).isSome = true
          rw [St_c ne]
          rfl
        · refine opt_of (St_c ne) ⟨by unfold Fit; rw [List.length_map]; omega, ?_⟩
          have e3 : cs.map D.int ++ [D.int (x / m)] = (cs ++ [x / m]).map D.int := by rw [List.map_append]; rfl
          rw [e3, St_setC ne]
          refine ⟨by omega, ?_⟩
          refine ⟨_, cs ++ [x / m], z, rfl, Int.emod_nonneg _ (by omega), Int.emod_lt_of_pos _ (by omega), St_a, St_c ne, ?_, ?_, ok2.2.2⟩
          · intro y my
            rcases List.mem_append.mp my with my | my
            · exact ok2.1 y my
            · rw [List.mem_singleton.mp my]
              exact Int.ediv_nonneg x0 (by omega)
          · rw [List.length_append, List.length_singleton]
            omega
  refine opt_of St_a (opt_of (x := D.adr c) rfl ?_)
  refine ⟨by show 0 ≤ 16777216; decide, ne_nil ne ?_⟩
  rcases List.eq_nil_or_concat cs with rfl | ⟨cs, x, rfl⟩
  · exact behind [] ok
  · rw [List.concat_eq_append] at ok ⊢
    obtain ⟨ok2, x0, l62⟩ := ok.pop
    have e : (!(cs ++ [x]).isEmpty) = true := by cases cs <;> rfl
    rw [e]
    refine opt_of St_a (opt_of (x := D.adr c) rfl ?_)
    refine (opt_of (St_c ne) (opt_of (x := D.int x) ?_ ?_))
    · rw [List.map_append]
      exact atI_last _ _
    show (if decide (x = 0) = true then _ else _)
    by_cases hx : x = 0
    · rw [if_pos (decide_eq_true hx)]
      refine opt_of St_a (opt_of (x := D.adr c) rfl ?_)
      refine ⟨?_, opt_of (St_c ne) (opt_of getLast_map ?_)⟩
      · show (getS _ c).isSome = true
        rw [St_c ne]
        rfl
      · rw [pop_map, St_setC ne]
        exact ⟨cs.length, by rw [List.length_append, List.length_singleton]; omega, rfl, cs, rfl, ok2, rfl⟩
    · rw [if_neg (by simpa using hx)]
      exact behind _ ok
end

/-! ### _law_heap -/
def cellF (x : Int) : Int := 2 * x.natAbs + (if decide (x < 0) = true then 1 else 0)
def rHeapA (k0 : Int) : DTS := (dSeqS (dPar [2, 3] (dCons (dLc (dSeq (dSl (dVar 0) dNoPart (dPart (dC (.int 60))))) (dgName 1) dYes (dOp fAdd (dOp fMul (dC (.int 2)) (dCB (one fAbs) (dCons (dVar 1) dNil))) (dCB (one fInt) (dCons (dOp fLt (dVar 1) (dC (.int 0))) dNil))) [1]) (dCons (dC (.int k0)) dNil))) (dSeqS (dFor (dSeq (dVar 2)) (dgName 1) (dSet 3 (dOp fMod (dCB (one fInt) (dCons (dOp fAdd (dOp fAdd (dOp fMul (dVar 3) (dC (.int 69621))) (dOp fMod (dCB (one fInt) (dCons (dVar 1) dNil)) (dC (.int 2147483563)))) (dC (.int 29))) dNil)) (dC (.int 2147483647))))) (dRet (dLst (dCons (dUn fRev (dLc (dSeq (dVar 2)) (dgName 1) (dTest (dOp fGe (dVar 1) (dOp fPow (dC (.int 10)) (dC (.int 18))))) (dVar 1) [1])) (dCons (dVar 3) dNil))))))
theorem go_cells {q : Option D} {x1 x2 x3 : Option D} {Q : D → Sto → Prop} : ∀ (ns : List Int) (acc : List D), acc.length + ns.length ≤ 1000 → Q (.lst (acc ++ (ns.map cellF).map D.int)) [] →
    lcGo (dgName 1) dYes (dOp fAdd (dOp fMul (dC (.int 2)) (dCB (one fAbs) (dCons (dVar 1) dNil))) (dCB (one fInt) (dCons (dOp fLt (dVar 1) (dC (.int 0))) dNil))) [1] [q, x1, x2, x3] Q (ns.map D.int) acc []
  | [], acc, _, h => by simpa [lcGo] using h
  | n :: ns, acc, hl, h => by
    rw [List.length_cons] at hl
    refine ⟨MOk.left (by decide), by unfold Fit; omega, ?_⟩
    refine go_cells ns _ (by rw [List.length_append, List.length_singleton]; omega) ?_
    rw [List.append_assoc]
    exact h
theorem cellF_nn (x : Int) : 0 ≤ cellF x := by
  unfold cellF
  split <;> omega
theorem lp_stir {DD : DEnds} {q x2 : Option D} : ∀ (ns : List Int) (z : Int) (x1 : Option D), 0 ≤ z ∧ z < 2 ^ 40 → (∀ (z : Int) x1, 0 ≤ z ∧ z < 2 ^ 40 → DD.nx [q, x1, x2, some (.int z)] []) →
    forGo (dgName 1) (dSet 3 (dOp fMod (dCB (one fInt) (dCons (dOp fAdd (dOp fAdd (dOp fMul (dVar 3) (dC (.int 69621))) (dOp fMod (dCB (one fInt) (dCons (dVar 1) dNil)) (dC (.int 2147483563)))) (dC (.int 29))) dNil)) (dC (.int 2147483647)))) DD (ns.map D.int) [q, x1, x2, some (.int z)] []
  | [], z, x1, hz, h => h z x1 hz
  | n :: ns, z, x1, hz, h => by
    refine ⟨MOk.right (by decide), (by show (0 : Int) < 2147483563; decide), (by show (0 : Int) < 2147483647; decide), ?_⟩
    refine lp_stir ns _ _ ⟨Int.emod_nonneg _ (by decide), ?_⟩ h
    exact Int.lt_trans (Int.emod_lt_of_pos _ (by decide)) (by decide)
theorem go_great {q : Option D} {x1 x2 x3 : Option D} {Q : D → Sto → Prop} : ∀ (ns : List Int) (acc : List Int), acc.length + ns.length ≤ 63 → (∀ x ∈ ns, 0 ≤ x) → (∀ x ∈ acc, 0 ≤ x) → (∀ cs : List Int, cs.length ≤ 63 → (∀ x ∈ cs, 0 ≤ x) → Q (.lst (cs.map D.int)) []) →
    lcGo (dgName 1) (dTest (dOp fGe (dVar 1) (dOp fPow (dC (.int 10)) (dC (.int 18))))) (dVar 1) [1] [q, x1, x2, x3] Q (ns.map D.int) (acc.map D.int) []
  | [], acc, hl, _, ha, h => h acc (by simpa using hl) ha
  | n :: ns, acc, hl, hn, ha, h => by
    rw [List.length_cons] at hl
    refine ⟨⟨by decide, by decide, by decide⟩, ?_⟩
    have hn' : ∀ x ∈ ns, 0 ≤ x := fun y m => hn y (List.mem_cons_of_mem _ m)
    show (if decide (10 ^ (18 : Int).toNat ≤ n) = true then _ else _)
    split
    · refine ⟨by unfold Fit; rw [List.length_map]; omega, ?_⟩
      have e : acc.map D.int ++ [D.int n] = (acc ++ [n]).map D.int := by rw [List.map_append]; rfl
      rw [e]
      refine go_great ns (acc ++ [n]) (by rw [List.length_append, List.length_singleton]; omega) hn' ?_ h
      intro x m
      rcases List.mem_append.mp m with m | m
      · exact ha x m
      · rw [List.mem_singleton.mp m]
        exact hn n List.mem_cons_self
    · exact go_great ns acc (by omega) hn' ha h
theorem lnHeap : ∀ ds post, spHeap ds post → ds.length = 1 := by
  rintro ds post ⟨ns, rfl, _⟩
  rfl
theorem cutD_len {α : Type} (xs : List α) (lo hi : Option Int) : (cutD xs lo hi).length ≤ xs.length := by
  unfold cutD
  rw [List.length_take, List.length_drop]
  omega
theorem vcHeapA (k0 : Int) (hk : 0 ≤ k0 ∧ k0 < 2 ^ 40) : ∀ ds post, spHeap ds post → rHeapA k0 { nx := fun _ _ => post .non, rt := fun d _ => post d } (ds.map some ++ List.replicate (4 - ds.length) none) [] := by
  rintro ds post ⟨ns, rfl, hl, h⟩
  have hc := cutD_len ns none (some 60)
  refine go_cells (cutD ns none (some 60)) [] (by rw [List.length_nil]; omega) ⟨rfl, ?_⟩
  rw [List.nil_append]
  refine lp_stir _ _ _ hk fun z x1 hz => ?_
  refine go_great _ [] (by simp only [List.length_nil, List.length_map]; omega) ?_ (fun x m => (nomatch m)) fun cs l nn => ?_
  · intro x m
    obtain ⟨y, _, rfl⟩ := List.mem_map.mp m
    exact cellF_nn y
  · refine ⟨by show 2 ≤ 16777216; decide, ?_⟩
    have := h cs.reverse z ⟨fun x m => nn x (List.mem_reverse.mp m), by rw [List.length_reverse]; exact l, hz.1, hz.2⟩
    rw [List.map_reverse] at this
    exact this
end DL
/-! Readings over data: texts. -/
namespace DL
open PySem PySem.Spec L2 Gd

/-- a text by its signs -/
def sT (l : List Nat) : Str := ⟨l.toArray⟩
theorem sT_list (l : List Nat) : (sT l).cps.toList = l := rfl
theorem sT_len (l : List Nat) : (sT l).length = l.length := rfl
theorem sT_of (z : Str) : sT z.cps.toList = z := rfl
section
variable {X : Cx} {dx : Dx} {K : PySem.W.Frag} {e o tg : Expr} {te to : TE} {fe fo : DTE} {pos : Pos}
/-! ### z[lo:hi] -/
def fSlS : D → Option Int → Option Int → Sto → (D → Sto → Prop) → Prop
  | .str z, lo, hi, S, Q => Fit z.length ∧ Q (.str (cutS z lo hi)) S
  | _, _, _, _, _ => False
def dSlS (t : DTE) (l h : DTO) : DTE := fun δ S Q => t δ S fun d S1 => l δ S1 fun lo S2 => h δ S2 fun hi S3 => fSlS d lo hi S3 Q
theorem de_sliceS {lo hi : Option Expr} {tl th : TO} {fl fh : DTO} {p2 : Pos} (he : DE X dx e te fe) (hl : DO X dx lo tl fl) (hu : DO X dx hi th fh) : DE X dx (.Subscript e (.Slice lo hi none p2) pos) (tSl rSlS te tl th) (dSlS fe fl fh) := by
  refine ⟨pe_slice sl_str he.pe hl.pe hu.pe, fun σ H δ S Q Qh r0 s0 t k => ?_⟩
  refine he.go σ H δ S _ _ r0 s0 t fun v H1 d S1 r1 x1 d1 t1 => ?_
  refine hl.go σ H1 δ S1 _ _ r1 (s0.ext x1) t1 fun o H2 S2 r2 x2 t2 => ?_
  refine hu.go σ H2 δ S2 _ _ r2 (s0.ext (x1.trans x2)) t2 fun o' H3 S3 r3 x3 t3 => ?_
  cases d1 with
  | str z => exact ⟨z, rfl, t3.1.line, k _ _ _ _ r3 ((x1.trans x2).trans x3) (.str _) t3.2⟩
  | _ => exact t3.elim
/-! ### for sign in z -/
def signs (z : Str) : List D := z.cps.toList.map fun c => D.str ⟨#[c]⟩
def isS (Q : Str → Sto → Prop) : D → Sto → Prop
  | .str z, S => Q z S
  | _, _ => False
def dStrI (t : DTE) : DTA := fun δ S Q => t δ S (isS fun z S1 => Q (signs z) S1)
theorem di_str (h : DE X dx e te fe) : DI X dx tg e (iStr te) (dStrI fe) := by
  refine ⟨pi_str h.pe, fun σ H δ S Q R r0 s0 t k => ?_⟩
  refine h.go σ H δ S _ _ r0 s0 t fun v H1 d S1 r1 x1 d1 t1 => ?_
  cases d1 with
  | str z =>
    refine ⟨z, rfl, k _ H1 _ S1 r1 x1 ?_ t1⟩
    have l : (signs z).length = z.cps.size := by unfold signs; rw [List.length_map, Array.length_toList]
    refine ⟨_, _, by rw [l]; exact walk_str, fun M H2 lv x2 => ⟨trivial, fun i x H3 hi y => ?_⟩⟩
    obtain ⟨rfl, c, e1, rfl⟩ := y
    refine ⟨Same.refl _, .str ⟨#[c]⟩, ?_, .str _⟩
    unfold signs
    rw [List.getElem?_map, Array.getElem?_toList, e1]
    rfl
  | _ => exact t1.elim
/-! ### z * k -/
def repS (k : Nat) (z : Str) : Str := ⟨(List.replicate k z.cps).foldl (· ++ ·) #[]⟩
def rMulS : R2 := fun x y H Q => ∃ z k, x = .str z ∧ y = .int k ∧ 1 ≤ k ∧ k ≤ 1000 ∧ 1 ≤ z.length ∧ z.length ≤ 1000 ∧ Q (.str (repS k.toNat z)) H
theorem foldl_size (z : Array Nat) : ∀ (k : Nat) (acc : Array Nat), ((List.replicate k z).foldl (· ++ ·) acc).size = acc.size + k * z.size
  | 0, acc => by simp
  | k + 1, acc => by
    rw [List.replicate_succ, List.foldl_cons, foldl_size z k, Array.size_append, Nat.succ_mul]
    omega
theorem repS_len (k : Nat) (z : Str) : (repS k z).length = k * z.length := by
  show ((List.replicate k z.cps).foldl (· ++ ·) #[]).size = _
  rw [foldl_size]
  show 0 + k * z.cps.size = k * z.cps.size
  omega
theorem foldl_list (z : Array Nat) : ∀ (k : Nat) (acc : Array Nat), ((List.replicate k z).foldl (· ++ ·) acc).toList = acc.toList ++ (List.replicate k z.toList).flatten
  | 0, acc => by simp
  | k + 1, acc => by
    rw [List.replicate_succ, List.foldl_cons, foldl_list z k, Array.toList_append, List.replicate_succ, List.flatten_cons, List.append_assoc]
theorem repS_list (k : Nat) (z : Str) : (repS k z).cps.toList = (List.replicate k z.cps.toList).flatten := by
  show ((List.replicate k z.cps).foldl (· ++ ·) #[]).toList = _
  rw [foldl_list]
  simp
theorem repS_one (z : Str) : repS 1 z = z := by
  have : (repS 1 z).cps.toList = z.cps.toList := by rw [repS_list]; simp
  rw [← sT_of (repS 1 z), this, sT_of]
theorem op_mulS : OpR X (binaryOp .Mult) rMulS := by
  intro pins s σ H x y v u Q I rx ry h
  obtain ⟨z, k, rfl, rfl, h2, h1000, l1, l2, q⟩ := h
  obtain ⟨t, rfl⟩ := rx
  obtain ⟨t', rfl⟩ := ry
  have fit : z.length * k.toNat ≤ 1000 * 1000 := Nat.mul_le_mul l2 (by omega)
  refine PySem.P.mul_str ?_ (fun _ _ => ?_) (fun _ _ => ?_) ?_
  · rw [decide_eq_false (by omega), decide_eq_false (by omega)]
    rfl
  · have : (1000 : Int) ≤ (2 ^ 63 - 1) / k := Int.le_ediv_of_mul_le (by omega) (by omega)
    omega
  · show decide (z.length * k.toNat > sizeLine) = false
    rw [sizeLine_eq]
    exact decide_eq_false (by omega)
  · rw [if_neg (by omega)]
    by_cases k1 : k = 1
    · subst k1
      have e : repS (1 : Int).toNat z = z := repS_one z
      rw [e] at q
      rw [if_pos (by rfl)]
      exact ⟨.str z, H, I, ⟨_, rfl⟩, q⟩
    · have e : (k == 1 || z.length == 0) = false := by
        have a : (k == 1) = false := by simpa using k1
        have b : (z.length == 0) = false := by simpa using (show z.length ≠ 0 by omega)
        rw [a, b]
        rfl
      rw [e, if_neg Bool.false_ne_true]
      have l := repS_len k.toNat z
      refine ⟨?_, .str (repS k.toNat z), H, I.tok _, ⟨_, rfl⟩, q⟩
      show (repS k.toNat z).length ≤ sizeLine
      rw [l, sizeLine_eq, Nat.mul_comm]
      omega
def fMulS : F2
  | .str z, .int k, S, Q => 1 ≤ k ∧ k ≤ 1000 ∧ 1 ≤ z.length ∧ z.length ≤ 1000 ∧ Q (.str (repS k.toNat z)) S
  | _, _, _, _ => False
theorem od_mulS : OpD K dx rMulS fMulS := by
  intro x y p q H S Q Qh r hx hy t k
  cases hx with
  | str z =>
    cases hy with
    | int j => exact ⟨z, j, rfl, rfl, t.1, t.2.1, t.2.2.1, t.2.2.2.1, k _ H _ S r Ext.refl (.str _) t.2.2.2.2⟩
    | _ => exact t.elim
  | _ => cases hy <;> exact t.elim
/-! ### <= of texts -/
def fLeS : F2
  | .str i, .str j, S, Q => Q (.bl (!decide (j.cps.toList < i.cps.toList))) S
  | _, _, _, _ => False
def rLeS : R2 := fun x y H Q => ∃ i j, x = .str i ∧ y = .str j ∧ Q (.bl (!decide (j.cps.toList < i.cps.toList))) H
theorem op_leS : OpR X (compareOp .LtE) rLeS := op_le_str
theorem od_leS : OpD K dx rLeS fLeS := by
  intro x y p q H S Q Qh r hx hy t k
  cases hx with
  | str z =>
    cases hy with
    | str j => exact ⟨z, j, rfl, rfl, k _ H _ S r Ext.refl (.bl _) t⟩
    | _ => exact t.elim
  | _ => cases hy <;> exact t.elim
/-! ### split, join -/
def fSplit : D → D → Sto → (D → Sto → Prop) → Prop
  | .str a, .str b, S, Q => b.length ≠ 0 ∧ a.length ≤ 1000000 ∧ Q (.lst ((Txt.split a b).map D.str)) S
  | _, _, _, _ => False
def rSplit : V → List V → Hp → VK → Prop := fun x xs H Q => ∃ a b, x = .str a ∧ xs = [.str b] ∧ (b.length == 0) = false ∧ a.length + 2 ≤ sizeLine ∧ rNewStrs (Txt.split a b) H Q
def isSt : D → Prop
  | .str _ => True
  | _ => False
def dM1 (f : D → D → Sto → (D → Sto → Prop) → Prop) (fo fe : DTE) : DTE := fun δ S Q => fo δ S fun o S1 => isSt o ∧ fe δ S1 fun d S2 => f o d S2 Q
theorem st_v {M : Mm} {H : Hp} {v : V} {d : D} (h : Dt K M H v d) (i : isSt d) : ∃ a, v = .str a := by
  cases h with
  | str a => exact ⟨a, rfl⟩
  | _ => exact i.elim
theorem strs_all {M : Mm} {H : Hp} (ys : List Str) : DtAll K M H (ys.map V.str) (ys.map D.str) := by
  induction ys with
  | nil => exact .nil
  | cons y ys ih => exact .cons (.str y) ih
theorem de_split {apos : Pos} (ho : DE X dx o to fo) (he : DE X dx e te fe) (hp : PE X o to → PE X e te → PE X (.Call (.Attribute o "split" apos) [e] [] pos) (tM1 rSplit to te)) : DE X dx (.Call (.Attribute o "split" apos) [e] [] pos) (tM1 rSplit to te) (dM1 fSplit fo fe) := by
  refine ⟨hp ho.pe he.pe, fun σ H δ S Q Qh r s t k => ?_⟩
  refine ho.go σ H δ S _ _ r s t fun v H1 d S1 r1 x1 d1 t1 => ⟨st_v d1 t1.1, ?_⟩
  refine he.go σ H1 δ S1 _ _ r1 (s.ext x1) t1.2 fun u H2 c S2 r2 x2 d2 t2 => ?_
  have d1' := d1.ext x2
  cases d1' with
  | str a =>
    cases d2 with
    | str b =>
      refine ⟨a, b, rfl, rfl, by simpa using t2.1, ?_, fun p n => ?_⟩
      · have := t2.2.1
        rw [sizeLine_eq]
        omega
      · obtain ⟨r3, x3, d3⟩ := new_lst r2 n (strs_all (K := X.K) (Txt.split a b))
        exact k _ _ _ S2 r3 ((x1.trans x2).trans x3) d3 t2.2.2
    | _ => exact t2.elim
  | _ => exact t1.1.elim
def asS : List D → Option (List Str)
  | [] => some []
  | .str b :: r => (asS r).map (b :: ·)
  | _ :: _ => none
theorem asS_at {ds : List D} : ∀ {bs : List Str}, asS ds = some bs → ds = bs.map D.str := by
  induction ds with
  | nil => intro bs h; cases h; rfl
  | cons d ds ih =>
    intro bs h
    cases d with
    | str b =>
      have h : (asS ds).map (b :: ·) = some bs := h
      cases e : asS ds with
      | none => rw [e] at h; cases h
      | some cs => rw [e] at h; cases h; rw [ih e]; rfl
    | _ => cases h
theorem asS_map (bs : List Str) : asS (bs.map D.str) = some bs := by
  induction bs with
  | nil => rfl
  | cons b bs ih => show (asS (bs.map D.str)).map (b :: ·) = _; rw [ih]; rfl
def fJoin : D → D → Sto → (D → Sto → Prop) → Prop
  | .str a, .lst ds, S, Q => opt (asS ds) fun ys => (ys.map (·.length)).sum + ys.length * a.length ≤ 16777216 ∧ Q (.str (Txt.join a ys)) S
  | _, _, _, _ => False
def rJoin (K : PySem.W.Frag) : V → List V → Hp → VK → Prop := fun x xs H Q => ∃ a p, ∃ ys : List Str, x = .str a ∧ xs = [.ref p] ∧ (SqL K H p (ys.map V.str) ∨ SqT K H p (ys.map V.str)) ∧ (ys.map (·.length)).sum + ys.length * a.length ≤ 16777216 ∧ Q (.str (Txt.join a ys)) H
theorem de_join (K : PySem.W.Frag) {apos : Pos} (ho : DE X dx o to fo) (he : DE X dx e te fe) (hp : PE X o to → PE X e te → PE X (.Call (.Attribute o "join" apos) [e] [] pos) (tM1 (rJoin K) to te)) (hK : X.K = K := by rfl) : DE X dx (.Call (.Attribute o "join" apos) [e] [] pos) (tM1 (rJoin K) to te) (dM1 fJoin fo fe) := by
  subst hK
  refine ⟨hp ho.pe he.pe, fun σ H δ S Q Qh r s t k => ?_⟩
  refine ho.go σ H δ S _ _ r s t fun v H1 d S1 r1 x1 d1 t1 => ⟨st_v d1 t1.1, ?_⟩
  refine he.go σ H1 δ S1 _ _ r1 (s.ext x1) t1.2 fun u H2 c S2 r2 x2 d2 t2 => ?_
  have d1' := d1.ext x2
  cases d1' with
  | str a =>
    cases c with
    | lst ds =>
      obtain ⟨ys, e, t3⟩ := opt_run t2
      obtain ⟨p, xs, rfl, _, hl, al⟩ := d2.sqL
      rw [asS_at e] at al
      rw [Dt.strs_of al] at hl
      exact ⟨a, p, ys, rfl, rfl, .inl (SqL.of hl), t3.1, k _ _ _ S2 r2 (x1.trans x2) (.str _) t3.2⟩
    | _ => exact t2.elim
  | _ => exact t1.1.elim
/-! ### enumerate of a list -/
def enD (xs : List D) : List D := (List.range xs.length).map fun i => D.tup [.int (i : Nat), xs.getD i .non]
def fEnum (Q : List D → Sto → Prop) : List D → Sto → Prop
  | [.lst xs], S => Q (enD xs) S
  | _, _ => False
theorem fEnum_one {Q : List D → Sto → Prop} {ds : List D} {S : Sto} (t : fEnum Q ds S) : ∃ xs, ds = [.lst xs] ∧ Q (enD xs) S := by
  unfold fEnum at t
  split at t
  · exact ⟨_, rfl, t⟩
  · exact t.elim
def dEnum (ta : DTA) : DTA := fun δ S Q => ta δ S (fEnum Q)
theorem di_enum (K : PySem.W.Frag) {x : Str} {p : Pos} {es : List Expr} {ta : TA} {fa : DTA} (ha : DA X dx es ta fa) (hp : PA X es ta → PI X tg (.Call (.Name x p) es [] pos) (iEnum K ta)) (hK : X.K = K := by rfl) : DI X dx tg (.Call (.Name x p) es [] pos) (iEnum K ta) (dEnum fa) := by
  subst hK
  refine ⟨hp ha.pe, fun σ H δ S Q R r s t k => ?_⟩
  refine ha.go σ H δ S _ _ r s t fun vs H1 ds S1 r1 x1 d1 t1 => ?_
  obtain ⟨xs, rfl, t2⟩ := fEnum_one t1
  cases d1 with
  | cons h1 d1 =>
    cases d1
    obtain ⟨a, ws, rfl, nm, hl, al⟩ := h1.sqL
    refine ⟨a, ws, rfl, SqL.of hl, k _ H1 _ S1 r1 x1 ?_ t2⟩
    have e : (enD xs).length = ws.length := by unfold enD; rw [List.length_map, List.length_range, al.length]
    refine ⟨_, _, by rw [e]; exact walk_enum (K := X.K) (a := a) (xs := ws), fun M H2 lv x2 => ⟨SqL.of (x2.keep _ _ nm hl), fun i v H3 hi y => ?_⟩⟩
    obtain ⟨T, x, y, rfl, n, rfl, ex, ey⟩ := y
    cases ex
    obtain ⟨d, e1, dd⟩ := (al.extD x2).getV ey
    refine ⟨same_new n, .tup [.int (i : Nat), d], ?_, .tup (fun z => lv T z n) (.inl upd_same) (.cons (.int _) (.cons (dd.ext (ext_new n)) .nil))⟩
    rw [e] at hi
    unfold enD
    rw [List.getElem?_map, List.getElem?_range (by rw [← al.length]; exact hi)]
    show some (D.tup [.int (i : Nat), xs.getD i .non]) = _
    rw [List.getD_eq_getElem?_getD, e1]
    rfl
end
end DL
/-! Small steps of readings over data. -/
namespace DL
open PySem PySem.Spec L2 Gd
theorem cutD_take {α : Type} (xs : List α) {p : Nat} (h : p ≤ xs.length) : cutD xs none (some (p : Int)) = xs.take p := by
  unfold cutD
  have e1 : HT.sIx xs.length 0 none = 0 := rfl
  have e2 : HT.sIx xs.length xs.length (some (p : Int)) = min p xs.length := by
    show (if (p : Int) < 0 then ((p : Int) + (xs.length : Int)).toNat else min (p : Int).toNat xs.length) = _
    rw [if_neg (by omega), Int.toNat_natCast]
  rw [e1, e2, List.drop_zero, Nat.sub_zero, Nat.min_eq_left h]
theorem fSlT {Q : D → Sto → Prop} {q : D} {ds : List D} {lo hi : Option Int} {S : Sto} (h : q = .tup ds) (t : Q (.tup (cutD ds lo hi)) S) : fSl q lo hi S Q := by
  subst h
  exact t
theorem no {b : Bool} {A B : Prop} (hb : b = false) (h : B) : if b = true then A else B := by
  rw [hb, if_neg Bool.false_ne_true]
  exact h
theorem yes {b : Bool} {A B : Prop} (hb : b = true) (h : A) : if b = true then A else B := by
  rw [hb, if_pos rfl]
  exact h
theorem same_no {α : Type} [DecidableEq α] {x y : α} (h : x = y) : (!decide (x = y)) = false := by
  rw [decide_eq_true h]
  rfl

theorem fAdd_str {Q : D → Sto → Prop} {x y : Str} {S : Sto} (h : Fit (x.length + y.length)) (t : Q (.str (x ++ y)) S) : fAdd (.str x) (.str y) S Q := ⟨h, t⟩
end DL
/-! Readings over data: what is not reached, gcd and lcm, constants of a module, in, is True. -/
namespace DL
open PySem PySem.Spec L2 Gd

section
variable {X : Cx} {dx : Dx} {K : PySem.W.Frag} {e : Expr} {es : List Expr} {ta : TA} {fa : DTA} {s : Stmt} {pos p : Pos} {x : Str}
/-! ### what no run of the domain reaches -/
def tNo : TE := fun _ _ _ => False
def dNo : DTE := fun _ _ _ => False
theorem de_no : DE X dx e tNo dNo := ⟨⟨fun _ _ _ _ _ _ h => h.elim⟩, fun _ _ _ _ _ _ _ _ t _ => t.elim⟩
def tNoS : TS := fun _ _ _ => False
def dNoS : DTS := fun _ _ _ => False
theorem ds_no : DS X dx s tNoS dNoS := ⟨⟨fun _ _ _ _ _ _ h => h.elim⟩, fun _ _ _ _ _ _ _ _ t _ => t.elim⟩
def iNo : TI := fun _ _ _ => False
def dNoA : DTA := fun _ _ _ => False
theorem di_no {tg : Expr} : DI X dx tg e iNo dNoA := ⟨⟨fun _ _ _ _ _ _ h => h.elim⟩, fun _ _ _ _ _ _ _ _ t _ => t.elim⟩
theorem dt_no : DT X dx e (fun _ _ _ => False) (fun _ _ _ => False) := ⟨⟨fun _ _ _ _ _ _ h => h.elim⟩, fun _ _ _ _ _ _ _ _ t _ => t.elim⟩
/-! ### built-ins that a module has taken over from another one -/
theorem de_callM_ {id : String} {r : List V → Hp → VK → Prop} {f} (hc : CallR X (.builtin id) r) (o : CallD X.K dx r f) (ha : DA X dx es ta fa) (hp : PA X es ta → PE X (.Call (.Name x p) es [] pos) (tCB r ta)) : DE X dx (.Call (.Name x p) es [] pos) (tCB r ta) (dCB f fa) := ⟨hp ha.pe, cb_go o ha⟩
/-- a call with two arguments -/
def two (f : D → D → Sto → (D → Sto → Prop) → Prop) : List D → Sto → (D → Sto → Prop) → Prop
  | [c, d], S, Q => f c d S Q
  | _, _, _ => False
theorem two_at {f : D → D → Sto → (D → Sto → Prop) → Prop} {ds : List D} {S : Sto} {Q : D → Sto → Prop} (t : two f ds S Q) : ∃ c d, ds = [c, d] ∧ f c d S Q := by
  unfold two at t
  split at t
  · exact ⟨_, _, rfl, t⟩
  · exact t.elim
theorem cd_two {r : List V → Hp → VK → Prop} {f : D → D → Sto → (D → Sto → Prop) → Prop}
    (o : ∀ u v c d H S Q Qh, HR K dx H S → Dt K (Mu dx S) H u c → Dt K (Mu dx S) H v d → f c d S Q → ThE K dx H S Q Qh → r [u, v] H Qh) : CallD K dx r (two f) := by
  intro vs ds H S Q Qh r0 a t k
  obtain ⟨c, d, rfl, t⟩ := two_at t
  cases a with
  | cons h1 a =>
    cases a with
    | cons h2 a =>
      cases a
      exact o _ _ _ _ H S Q Qh r0 h1 h2 t k
def fGcd : D → D → Sto → (D → Sto → Prop) → Prop
  | .int a, .int b, S, Q => Q (.int ((Nat.gcd a.natAbs b.natAbs : Nat) : Int)) S
  | _, _, _, _ => False
theorem cd_gcd : CallD K dx rGcd (two fGcd) := by
  refine cd_two fun u v c d H S Q Qh r h1 h2 t k => ?_
  cases h1 with
  | int a =>
    cases h2 with
    | int b => exact ⟨a, b, rfl, k _ H _ S r Ext.refl (.int _) t⟩
    | _ => exact t.elim
  | _ => cases h2 <;> exact t.elim
/-- no more than four thousand bits -/
def Wd (i : Int) : Prop := i.natAbs.log2 < 4000
def rLcm : List V → Hp → VK → Prop := fun vs H Q => ∃ a b : Int, vs = [.int a, .int b] ∧ Wd a ∧ Wd b ∧ Q (.int ((a.natAbs.lcm b.natAbs : Nat) : Int)) H
theorem log_max {m n k : Nat} (h1 : m.log2 < k) (h2 : n.log2 < k) : (max m n).log2 < k := by
  rcases Nat.le_total m n with h | h
  · rw [Nat.max_eq_right h]
    exact h2
  · rw [Nat.max_eq_left h]
    exact h1
theorem log_lcm {m n : Nat} (h1 : m.log2 < 4000) (h2 : n.log2 < 4000) : (m.lcm n).log2 < 8001 := by
  by_cases z : m.lcm n = 0
  · rw [z]
    decide
  · have lt : ∀ x : Nat, x.log2 < 4000 → x < 2 ^ 4000 := fun x h => by
      by_cases zx : x = 0
      · rw [zx]
        exact Nat.pow_pos (by decide)
      · exact (Nat.log2_lt zx).mp h
    have mn : m ≠ 0 ∧ n ≠ 0 := by
      constructor
      · intro e
        rw [e, Nat.lcm_zero_left] at z
        exact z rfl
      · intro e
        rw [e, Nat.lcm_zero_right] at z
        exact z rfl
    have le : m.lcm n ≤ m * n := Nat.le_of_dvd (Nat.mul_pos (Nat.pos_of_ne_zero mn.1) (Nat.pos_of_ne_zero mn.2)) (Nat.lcm_dvd_mul m n)
    have : m * n < 2 ^ 4000 * 2 ^ 4000 := Nat.mul_lt_mul'' (lt m h1) (lt n h2)
    rw [← Nat.pow_add] at this
    have q := (Nat.log2_lt z).mpr (Nat.lt_of_le_of_lt le this)
    exact Nat.lt_succ_of_lt q
theorem cr_lcm : CallR X (.builtin "math.lcm") rLcm := by
  intro pins s σ H vs us Q I r h
  obtain ⟨a, b, rfl, ha, hb, q⟩ := h
  obtain ⟨u1, u2, rfl, ⟨t1, rfl⟩, ⟨t2, rfl⟩⟩ := vals2 r
  have one : (Nat.lcm 1 a.natAbs).lcm b.natAbs = a.natAbs.lcm b.natAbs := by rw [Nat.lcm_one_left]
  have m1 : (max 1 a.natAbs).log2 < 4000 := log_max (by decide) ha
  have m2 : (max a.natAbs b.natAbs).log2 < 4000 := log_max ha hb
  have l := log_lcm ha hb
  refine call_function_meets PySem.W.MGF.kind_lcm PySem.W.MGF.plain_lcm PySem.W.MGF.entry_lcm (PySem.W.MGF.args_lcm _ _) (PySem.W.mg_run_lcm a t1 b t2 (by omega) (by omega) ?_).meets ?_
  · rw [one, Int.natAbs_natCast]
    exact Nat.lt_of_lt_of_le l (by decide)
  · rw [one]
    exact ⟨.int _, H, I.tok _, ⟨_, rfl⟩, q⟩
def fLcm : D → D → Sto → (D → Sto → Prop) → Prop
  | .int a, .int b, S, Q => Wd a ∧ Wd b ∧ Q (.int ((a.natAbs.lcm b.natAbs : Nat) : Int)) S
  | _, _, _, _ => False
theorem cd_lcm : CallD K dx rLcm (two fLcm) := by
  refine cd_two fun u v c d H S Q Qh r h1 h2 t k => ?_
  cases h1 with
  | int a =>
    cases h2 with
    | int b => exact ⟨a, b, rfl, t.1, t.2.1, k _ H _ S r Ext.refl (.int _) t.2.2⟩
    | _ => exact t.elim
  | _ => cases h2 <;> exact t.elim
/-! ### constants of a module -/
theorem de_const {v : V} {d : D} {u : Value} (hg : Gl X x) (hm : X.mg x = some u) (r : RelV v u) (q : ∀ M H, Dt X.K M H v d) (hd : (x == ("__debug__" : Str)) = false := by decide) : DE X dx (.Name x pos) (tC v) (dC d) := de_c (pe_glob hg hm r hd) q
/-! ### is True -/
def fIsB : F2
  | .bl a, .bl b, S, Q => Q (.bl (decide (a = b))) S
  | _, _, _, _ => False
theorem od_isB : OpD K dx rIsB fIsB := by
  intro x y p q H S Q Qh r hx hy t k
  cases hx with
  | bl a =>
    cases hy with
    | bl b => exact ⟨a, b, rfl, rfl, k _ H _ S r Ext.refl (.bl _) t⟩
    | _ => exact t.elim
  | _ => cases hy <;> exact t.elim
/-! ### in a list or a tuple of numbers and texts -/
def flatD : D → Bool
  | .non => true
  | .bl _ => true
  | .int _ => true
  | .str _ => true
  | _ => false
def eqF : D → D → Bool
  | .int a, .int b => a == b
  | .str a, .str b => a == b
  | .non, .non => true
  | .bl a, .bl b => a == b
  | .bl a, .int b => (if a then 1 else 0) == b
  | .int a, .bl b => a == (if b then 1 else 0)
  | _, _ => false
theorem flat_of {M : Mm} {H : Hp} {v : V} {d : D} (h : Dt K M H v d) (f : flatD d = true) : flatV v = true := by
  cases h <;> first | rfl | cases f
theorem eqF_of {M : Mm} {H : Hp} {u v : V} {c d : D} (h1 : Dt K M H u c) (h2 : Dt K M H v d) (f1 : flatD c = true) (f2 : flatD d = true) : eqV u v = eqF c d := by
  cases h1 <;> first | (cases h2 <;> first | rfl | cases f2) | cases f1
def fInG (neg : Bool) (xs : List D) (p : D) (S : Sto) (Q : D → Sto → Prop) : Prop := flatD p = true ∧ xs.all flatD = true ∧ Q (.bl (if neg then !xs.any fun y => eqF y p else xs.any fun y => eqF y p)) S
def fInN (neg : Bool) : F2
  | p, .tup xs, S, Q => fInG neg xs p S Q
  | p, .lst xs, S, Q => fInG neg xs p S Q
  | p, .adr a, S, Q => opt (getS S a) fun xs => fInG neg xs p S Q
  | _, _, _, _ => False
theorem flats_of {M : Mm} {H : Hp} : ∀ {vs : List V} {ds : List D}, DtAll K M H vs ds → ds.all flatD = true → vs.all flatV = true
  | _, _, .nil, _ => rfl
  | _, _, .cons h t, f => by
    rw [List.all_cons, Bool.and_eq_true] at f
    rw [List.all_cons, flat_of h f.1, flats_of t f.2]
    rfl
theorem inV_of {M : Mm} {H : Hp} {v : V} {p : D} (h : Dt K M H v p) (fp : flatD p = true) : ∀ {vs : List V} {ds : List D}, DtAll K M H vs ds → ds.all flatD = true → inV v vs = ds.any fun y => eqF y p
  | _, _, .nil, _ => rfl
  | _, _, .cons hd t, f => by
    rw [List.all_cons, Bool.and_eq_true] at f
    have ih := inV_of h fp t f.2
    unfold inV at ih ⊢
    rw [List.any_cons, List.any_cons, ih, eqF_of hd h f.1 fp]
theorem od_in (neg : Bool) : OpD K dx (rIn K neg) (fInN neg) := by
  intro x y p q H S Q Qh r hx hy t k
  have go : ∀ {a : Addr} {vs : List V} {xs : List D}, y = .ref a → (SqL K H a vs ∨ SqT K H a vs) → DtAll K (Mu dx S) H vs xs → fInG neg xs p S Q → rIn K neg x y H Qh := by
    intro a vs xs e hs al t
    refine ⟨a, vs, e, hs, flat_of hx t.1, flats_of al t.2.1, ?_⟩
    rw [inV_of hx t.1 al t.2.1]
    exact k _ H _ S r Ext.refl (.bl _) t.2.2
  cases q with
  | tup xs =>
    have t : fInG neg xs p S Q := by cases p <;> exact t
    obtain ⟨a, vs, e, hs, al⟩ := hy.sqT
    exact go e (.inr hs) al t
  | lst xs =>
    have t : fInG neg xs p S Q := by cases p <;> exact t
    obtain ⟨a, vs, e, _, hs, al⟩ := hy.sqL
    exact go e (.inl (SqL.of hs)) al t
  | adr a =>
    have t : opt (getS S a) fun xs => fInG neg xs p S Q := by cases p <;> exact t
    cases hy
    obtain ⟨xs, g, t⟩ := opt_run t
    obtain ⟨_, vs, eh, al⟩ := r.get g
    exact go rfl (.inl (SqL.of eh)) al t
  | _ => cases p <;> exact t.elim
theorem op_notIn_ (K : PySem.W.Frag) (hK : X.K = K := by rfl) : OpR X (compareOp .NotIn) (rIn K true) := by subst hK; exact op_notIn_seq
theorem op_in_ (K : PySem.W.Frag) (hK : X.K = K := by rfl) : OpR X (compareOp .In) (rIn K false) := by subst hK; exact op_in_seq
end
end DL
namespace DL
open PySem PySem.Spec L2 Gd
/-! ### the block of a comprehension within another one: looked at by computing -/
def blkB (N : List Str) (outer names : List (Str × NameKind)) (own : List (Str × Nat)) : Bool :=
  names.all (fun y => decide (names.lookup y.1 = some y.2)) && own.all (fun p => decide (N[p.2]? = some p.1)) &&
  names.all (fun y => !decide (y.2 = .free) || (decide (outer.lookup y.1 = some .cell) || decide (outer.lookup y.1 = some .free))) &&
  names.all (fun y => !(decide (y.2 = .local) || decide (y.2 = .cell)) || (decide (y.1 ∈ own.map (·.1)) || !decide (y.1 ∈ N)))
theorem blk_of {N : List Str} {sc scope : Scope} {own : List (Str × Nat)} (h1 : scope.kind = .function) (h : blkB N sc.names scope.names own = true) : BlkOk N sc scope own := by
  unfold blkB at h
  simp only [Bool.and_eq_true, List.all_eq_true, decide_eq_true_eq, Bool.or_eq_true, Bool.not_eq_true', decide_eq_false_iff_not, Bool.or_eq_false_iff] at h
  obtain ⟨⟨⟨a, b⟩, c⟩, d⟩ := h
  refine ⟨h1, fun y m => a y m, fun p m => b p m, fun y m e => ?_, fun y m e => ?_⟩
  · rcases c y m with z | z
    · exact absurd e z
    · exact z
  · rcases d y m with z | z
    · rcases e with e | e
      · exact absurd e z.1
      · exact absurd e z.2
    · exact z
end DL
namespace DL
open PySem PySem.Spec L2 Gd
/-- a constant of a module -/
structure ConstD (K : PySem.W.Frag) (mg : Str → Option Value) (x : Str) (d : D) where
  v : V
  u : Value
  m : mg x = some u
  r : RelV v u
  q : ∀ M H, Dt K M H v d
theorem ktup_of {K : PySem.W.Frag} {M : Mm} {H : Hp} {a : Addr} {od : Option Addr} {its : Array Value} {n : Nat} {sl : Array (Option Value)} {xs : List V} {ds : List D}
    (l : K.lookup a = some ⟨.type "tuple", od, .seq its n, sl⟩) (z : its.size ≤ sizeLine) (r : Vals xs its.toList) (al : DtAll K M H xs ds) : Dt K M H (.ref a) (.tup ds) := .ktup ⟨_, its, n, l, rfl, rfl, z, r⟩ al
end DL
/-! The other form of the helper that makes a source of draws. -/
namespace DL
open PySem PySem.Spec L2 Gd
def bHeapB : DTS := (dSet 1 (dOp fMod (dCB (one fInt) (dCons (dOp fAdd (dOp fAdd (dOp fAdd (dOp fMul (dVar 1) (dC (.int 48271))) (dOp fMul (dOp fMod (dCB (one fInt) (dCons (dCB (one fAbs) (dCons (dVar 2) dNil)) dNil)) (dC (.int 2147483563))) (dC (.int 2)))) (dCB (one fInt) (dCons (dOp fLt (dVar 2) (dC (.int 0))) dNil))) (dC (.int 17))) dNil)) (dC (.int 2147483647))))
def rHeapB (k0 : Int) : DTS := (dSeqS (dSet 1 (dC (.int k0))) (dSeqS (dFor (dSeq (dSl (dVar 0) dNoPart (dPart (dC (.int 60))))) (dgName 2) bHeapB) (dRet (dLst (dCons (dUn fRev (dLc (dSeq (dSl (dVar 0) dNoPart (dPart (dC (.int 60))))) (dgName 2) (dTest (dOp fGe (dCB (one fAbs) (dCons (dVar 2) dNil)) (dOp fPow (dC (.int 10)) (dC (.int 18))))) (dCB (one fAbs) (dCons (dVar 2) dNil)) [2])) (dCons (dVar 1) dNil))))))
theorem lp_stirB {DD : DEnds} {q : Option D} : ∀ (ns : List Int) (z : Int) (x2 : Option D), 0 ≤ z ∧ z < 2 ^ 40 → (∀ (z : Int) x2, 0 ≤ z ∧ z < 2 ^ 40 → DD.nx [q, some (.int z), x2] []) →
    forGo (dgName 2) bHeapB DD (ns.map D.int) [q, some (.int z), x2] []
  | [], z, x2, hz, h => h z x2 hz
  | n :: ns, z, x2, hz, h => by
    refine ⟨MOk.right (by decide), (by show (0 : Int) < 2147483563; decide), MOk.right (by decide), (by show (0 : Int) < 2147483647; decide), ?_⟩
    refine lp_stirB ns _ _ ⟨Int.emod_nonneg _ (by decide), ?_⟩ h
    exact Int.lt_trans (Int.emod_lt_of_pos _ (by decide)) (by decide)
theorem go_greatB {q x1 x2 : Option D} {Q : D → Sto → Prop} : ∀ (ns : List Int) (acc : List Int), acc.length + ns.length ≤ 63 → (∀ x ∈ acc, 0 ≤ x) → (∀ cs : List Int, cs.length ≤ 63 → (∀ x ∈ cs, 0 ≤ x) → Q (.lst (cs.map D.int)) []) →
    lcGo (dgName 2) (dTest (dOp fGe (dCB (one fAbs) (dCons (dVar 2) dNil)) (dOp fPow (dC (.int 10)) (dC (.int 18))))) (dCB (one fAbs) (dCons (dVar 2) dNil)) [2] [q, x1, x2] Q (ns.map D.int) (acc.map D.int) []
  | [], acc, hl, ha, h => h acc (by simpa using hl) ha
  | n :: ns, acc, hl, ha, h => by
    rw [List.length_cons] at hl
    refine ⟨⟨by decide, by decide, by decide⟩, ?_⟩
    show (if decide (10 ^ (18 : Int).toNat ≤ ((n.natAbs : Nat) : Int)) = true then _ else _)
    split
    · refine ⟨by unfold Fit; rw [List.length_map]; omega, ?_⟩
      have e : acc.map D.int ++ [D.int ((n.natAbs : Nat) : Int)] = (acc ++ [((n.natAbs : Nat) : Int)]).map D.int := by rw [List.map_append]; rfl
      rw [e]
      refine go_greatB ns (acc ++ [((n.natAbs : Nat) : Int)]) (by rw [List.length_append, List.length_singleton]; omega) ?_ h
      intro x m
      rcases List.mem_append.mp m with m | m
      · exact ha x m
      · rw [List.mem_singleton.mp m]
        omega
    · exact go_greatB ns acc (by omega) ha h
theorem vcHeapB (k0 : Int) (hk : 0 ≤ k0 ∧ k0 < 2 ^ 40) : ∀ ds post, spHeap ds post → rHeapB k0 { nx := fun _ _ => post .non, rt := fun d _ => post d } (ds.map some ++ List.replicate (3 - ds.length) none) [] := by
  rintro ds post ⟨ns, rfl, hl, h⟩
  have hc := cutD_len ns none (some 60)
  refine lp_stirB (cutD ns none (some 60)) _ _ hk fun z x2 hz => ?_
  refine go_greatB (cutD ns none (some 60)) [] (by rw [List.length_nil]; omega) (fun x m => (nomatch m)) fun cs l nn => ?_
  refine ⟨by show 2 ≤ 16777216; decide, ?_⟩
  have := h cs.reverse z ⟨fun x m => nn x (List.mem_reverse.mp m), by rw [List.length_reverse]; exact l, hz.1, hz.2⟩
  rw [List.map_reverse] at this
  exact this
end DL
namespace DL
open PySem PySem.Spec L2 Gd
/-! ### // by a number of any sign -/
def CDivN (_ j : Int) : Prop := j ≠ 0 ∧ j.natAbs.log2 < 9000
section
variable {X : Cx}
theorem op_fdivN : OpR X (binaryOp .FloorDiv) (rI CDivN fun i j => .int (i.fdiv j)) := by
  intro pins s σ H x y v u Q I rx ry h
  obtain ⟨i, j, rfl, rfl, hc, q⟩ := h
  obtain ⟨t, rfl⟩ := rx
  obtain ⟨t', rfl⟩ := ry
  exact PyProof.Rows.floordiv_int hc.1 ⟨.int _, H, I.tok _, ⟨_, rfl⟩, q⟩ (.inl (PyProof.noPylong_of_log2 hc.2))
end
def fDivN : F2 := onI CDivN fun i j => .int (i.fdiv j)
end DL
/-! sorted of data. -/
namespace DL
open PySem PySem.Spec PySem.SeqAt PyProof.Rows
open PySem.W (EachIs)
/-! ### tuples, some of them empty, can be sorted too -/
section
variable {prog : Program} {w : World} {A : Around} {E : Value → Shared → Prop} {s : Shared}
/-- (..).__lt__(..), by what its items answer -/
theorem call_tuple_lt {Q : Value → Shared → Prop} {p q : Addr} {us ws : Array Value} {eqs lts : Nat → Bool} (hp : s.heap.IsTuple p us) (hq : s.heap.IsTuple q ws)
    (same : ∀ i (h1 : i < us.size) (h2 : i < ws.size), EqAt A.in1 s us[i] ws[i] (eqs i)) (less : ∀ i (h1 : i < us.size) (h2 : i < ws.size), eqs i = false → RcLt A.in1 s us[i] ws[i] (lts i))
    (fin : Q (.bool (firstLt eqs lts (decide (us.size < ws.size)) (List.range (min us.size ws.size)))) s) : wpAny (model prog w) A (call (.builtin "tuple.__lt__") [.ref p, .ref q]) Q E s := by
  obtain ⟨op, at_p, kp, ep, dp⟩ := hp
  obtain ⟨oq, at_q, kq, eq, dq⟩ := hq
  cases op; cases oq
  cases kp; cases kq; cases dp; cases dq
  exact call_meets F.slot_tuple_lt ⟨_, at_p, rfl⟩ F.entry_tuple_lt (F.args_tuple_lt_2 _ _) (tuple_ltAt p q us ws ep eq _ _ _ _ eqs lts) ⟨at_p, at_q, same, less, fin⟩
theorem oneLt_any {f : Bool} {da db : PyData} {a b : Value} {as bs : List Addr} {Q : Bool → Shared → Prop} (ra : Reads s.heap a da as) (rb : Reads s.heap b db bs) (h : PySem.W.alike da db = true) (hn : da ≠ .none)
    (hu : A.units + min da.depth db.depth < cLine) (hq : Q (PySem.W.dataLt da db) s) : wpAny (model prog w) A (oneLt' f a b) Q E s := by
  by_cases ht : ∃ xs, da = .tuple xs
  · obtain ⟨xs, rfl⟩ := ht
    cases f with
    | false => exact PySem.W.oneLt_alike (fun z => by cases z) ra rb h hn hu hq
    | true =>
      cases db with
      | tuple ys =>
        have both : PySem.W.alikeAll xs ys = true := by rwa [PySem.W.alike] at h
        cases ra with
        | tuple x1 x2 x3 x4 =>
          cases rb with
          | tuple y1 y2 y3 y4 =>
            have c1 := ReadsAll.length _ _ _ x4
            have c2 := ReadsAll.length _ _ _ y4
            rw [Array.length_toList] at c1 c2
            rw [PySem.W.dataLt_tuple, ← PySem.W.firstLt_toks xs ys both, ← c1, ← c2] at hq
            have far := PySem.W.eqAt_alikeAll xs ys A.in1 s _ _ _ _ x4 y4 both (room_in hu)
            have lss := PySem.W.rcLt_alikeAll xs ys A.in1 s _ _ _ _ x4 y4 both (room_in hu)
            rw [oneLt'_eq, if_pos rfl]
            apply wpAny_bind; refine wpAny_cRoomFor (room_here hu) ?_
            apply wpAny_bind
            refine wpAny_callSpecialIfBound?_slot (T := "tuple") ⟨_, x1, x2⟩ F.slot_tuple_lt (call_tuple_lt (eqs := PySem.SeqAt.pairEq xs ys) (lts := fun i => PySem.W.dataLt (xs.getD i .none) (ys.getD i .none)) ⟨_, x1, x2, _, x3⟩ ⟨_, y1, y2, _, y3⟩ (fun i i1 i2 => ?_) (fun i i1 i2 ne => ?_) (wpAny_truthy_bool hq))
            · have := far i (by simpa using i1) (by simpa using i2)
              simpa using this
            · have := lss i (by simpa using i1) (by simpa using i2) ne
              simpa using this
      | _ => exact absurd h (by simp [PySem.W.alike])
  · exact PySem.W.oneLt_alike (fun _ xs e => ht ⟨xs, e⟩) ra rb h hn hu hq
theorem each_right {α β : Type} {R : α → β → Prop} : ∀ {as : List α} {bs : List β}, EachIs R as bs → ∀ b, b ∈ bs → ∃ a, a ∈ as ∧ R a b
  | _, _, .nil, b, h => by cases h
  | _, _, .cons h t, b, m => by
    rcases List.mem_cons.mp m with e | m
    · rw [e]
      exact ⟨_, List.mem_cons_self, h⟩
    · obtain ⟨a, ha, hr⟩ := each_right t b m
      exact ⟨a, List.mem_cons_of_mem _ ha, hr⟩
theorem firsts_any {M : Model} : ∀ {vs : List Value} {ds : List PyData} {Q : List (Option Value) → Shared → Prop}, EachIs (fun v d => ∃ as, Reads s.heap v d as) vs ds → (∀ d, d ∈ ds → ∃ r, d = .tuple r) →
    (∀ fs : List (Option Value), EachIs (fun f d => f = none ↔ d = PyData.tuple []) fs ds → Q fs s) → wpAny M A (vs.mapM firstOfTuple') Q E s
  | _, _, Q, .nil, _, h => by
    rw [List.mapM_nil]
    exact wpAny_pure (h [] .nil)
  | _, _, Q, .cons (b := d) ⟨as, r⟩ t, ht, h => by
    obtain ⟨xs, rfl⟩ := ht d (List.mem_cons_self ..)
    rw [List.mapM_cons]
    refine wpAny_bind ?_
    rw [PySem.W.kas_first_eq]
    cases r with
    | @tuple a o vs n _ _ ho hc hd hr =>
      refine wpAny_bind (PySem.W.Looks.here (show PySem.W.Looks M s.heap (typeOf (.ref a)) o.cls from (PySem.W.Looks.ld ho).andThen .now) ?_)
      rw [hc, if_neg (by first | decide | simp)]
      refine wpAny_bind (listItems_at ho hd (wpAny_pure ?_))
      refine wpAny_bind (firsts_any (Q := fun bs s' => wpAny M A (pure (_ :: bs)) Q E s') t (fun d hd => ht d (List.mem_cons_of_mem _ hd)) fun fs hfs => wpAny_pure (h _ (.cons ?_ hfs)))
      have hl := ReadsAll.length _ _ _ hr
      rw [← Array.getElem?_toList]
      cases q : vs.toList with
      | nil =>
        rw [q] at hl
        have : xs = [] := List.eq_nil_of_length_eq_zero hl.symm
        subst this
        simp
      | cons f fr =>
        rw [q] at hl
        cases xs with
        | nil => cases hl
        | cons x xs => simp
/-- the first one is () -/
def noT : List PyData → Bool
  | .tuple [] :: _ => true
  | _ => false
theorem noT_yes {d : PyData} {ds : List PyData} (h : d = .tuple []) : noT (d :: ds) = true := by rw [h]; rfl
theorem noT_no {d : PyData} {ds : List PyData} (h : d ≠ .tuple []) : noT (d :: ds) = false := by
  unfold noT
  split
  · rename_i e; cases e; exact absurd rfl h
  · rfl
theorem kind_any {M : Model} {vs : List Value} {ds : List PyData} {Q : SortKind → Shared → Prop} (e : EachIs (fun v d => ∃ as, Reads s.heap v d as) vs ds) (ht : ∀ d, d ∈ ds → ∃ r, d = .tuple r) (hne : PyData.tuple [] ∈ ds) (h2 : 2 ≤ vs.length)
    (hq : Q (if noT ds = true then oneType' else general') s) : wpAny M A (keyKind' vs.toArray) Q E s := by
  rw [kat_kind_eq, List.mapM_toArray, map_eq_pure_bind]
  refine wpAny_bind (wpAny_bind (firsts_any e ht fun fs hfs => wpAny_pure ?_))
  have hno : none ∈ fs := by
    obtain ⟨f, hf, hi⟩ := each_right hfs _ hne
    have := hi.mpr rfl
    rw [this] at hf
    exact hf
  have hall : (fs.toArray.all fun x => x.isSome) = false := by
    rw [List.all_toArray]
    exact List.all_eq_false.mpr ⟨none, hno, by simp⟩
  rw [if_neg (by rw [hall]; decide)]
  cases ds with
  | nil => cases hne
  | cons d₀ ds₀ =>
    cases hfs with
    | @cons f₀ _ fr _ hf₀ hr =>
      have h0 : (f₀ :: fr).toArray[0]? = some f₀ := by simp
      rw [h0]
      by_cases hd : d₀ = PyData.tuple []
      · have hf : f₀ = none := hf₀.mpr hd
        subst hf
        rw [if_pos (noT_yes hd)] at hq
        rw [if_neg (by simp)]
        rw [oneTypeOnly'_eq, List.mapM_toArray, map_eq_pure_bind]
        have hT : ∀ v ∈ vs, PySem.W.Looks M s.heap (typeOf v) (.type "tuple") := fun v hv => by
          obtain ⟨d, hd, as, r⟩ := e.left v hv
          obtain ⟨r', rfl⟩ := ht d hd
          exact PySem.W.looks_reads r
        refine wpAny_bind (wpAny_bind (wpAny_bind (PySem.W.kas_mapM (r := Value.type "tuple") _ (fun v hv Q' hq => (hT v hv).here hq) (wpAny_pure ?_))))
        have hall2 : ((List.map (fun _ => Value.type "tuple") vs).toArray.all fun x => x == Value.type "tuple") = true := by
          simp only [List.all_toArray, List.all_map, List.all_eq_true]
          intro _ _
          exact beq_self_eq_true _
        have h0 : (List.map (fun _ => Value.type "tuple") vs).toArray[0]? = some (Value.type "tuple") := by
          cases vs with
          | nil => simp at h2
          | cons v vs => simp
        rw [h0]
        simp only [hall2, if_true]
        exact wpAny_pure (wpAny_pure hq)
      · have hf : f₀ ≠ none := fun z => hd (hf₀.mp z)
        rw [if_neg (by rw [noT_no hd]; decide)] at hq
        obtain ⟨f, rfl⟩ := Option.ne_none_iff_exists'.mp hf
        rw [if_pos (by simp)]
        exact wpAny_pure hq
theorem sortsAt_tups {vs : List Value} {ds : List PyData} (e : EachIs (fun v d => ∃ as, Reads s.heap v d as) vs ds) (hal : PySem.W.AllAlike ds) (ht : ∀ d, d ∈ ds → ∃ r, d = .tuple r) (hu : ∀ d, d ∈ ds → A.units + d.depth < cLine) : PySem.W.SortsAt prog w A s (PySem.W.dataKind s.heap ds) vs := by
  by_cases hne : PyData.tuple [] ∈ ds
  · have room : ∀ {d d' : PyData}, d ∈ ds → A.units + min d.depth d'.depth < cLine := fun {d d'} hd => Nat.lt_of_le_of_lt (Nat.add_le_add_left (Nat.min_le_left _ _) _) (hu d hd)
    have key : ∀ f : Bool, ∀ (E : Value → Shared → Prop) (x y : Value) (a b : List (Int ⊕ List Nat)) (Q : Bool → Shared → Prop), (PySem.W.dataKind s.heap ds).keyOf x = some a → (PySem.W.dataKind s.heap ds).keyOf y = some b → Q ((PySem.W.dataKind s.heap ds).blt a b) s → wpAny (model prog w) A (oneLt' f x y) Q E s := by
      intro f E x y a b Q ha hb hq
      obtain ⟨d, as, hd, ra, rfl⟩ := PySem.W.dataKind_inv ha
      obtain ⟨d', as', hd', rb, rfl⟩ := PySem.W.dataKind_inv hb
      obtain ⟨r, rfl⟩ := ht d hd
      exact oneLt_any ra rb (hal _ hd d' hd') (by simp) (room hd) hq
    refine ⟨fun v hv => ?_, (if noT ds = true then oneType' else general'), ?_, fun h2 E Q hq => kind_any e ht hne h2 hq⟩
    · obtain ⟨d, hd, as, r⟩ := e.left v hv
      exact ⟨_, PySem.W.dataKind_some hal hd r⟩
    · intro E x y a b Q ha hb hq
      split
      · exact key true E x y a b Q ha hb hq
      · exact key false E x y a b Q ha hb hq
  · refine PySem.W.SortsAt.data e hal (.inl fun d hd => ?_) hu
    obtain ⟨r, rfl⟩ := ht d hd
    cases r with
    | nil => exact absurd hd hne
    | cons x r => exact ⟨x, r, rfl⟩
end
/-- all are tuples, or none is a tuple or None -/
def SortableT (ds : List PyData) : Prop := (∀ d, d ∈ ds → ∃ r, d = .tuple r) ∨ ∀ d, d ∈ ds → d ≠ .none ∧ ∀ xs, d ≠ .tuple xs
section
variable {prog : Program} {w : World} {A : Around} {E : Value → Shared → Prop} {s : Shared} {β : Type} {vs : List Value} {bs : List β} {enc : β → PyData} {R : Value → β → Prop}
theorem sortsAt_any {vs : List Value} {ds : List PyData} (e : EachIs (fun v d => ∃ as, Reads s.heap v d as) vs ds) (hal : PySem.W.AllAlike ds) (ht : SortableT ds) (hu : ∀ d, d ∈ ds → A.units + d.depth < cLine) : PySem.W.SortsAt prog w A s (PySem.W.dataKind s.heap ds) vs := by
  rcases ht with ht | ht
  · exact sortsAt_tups e hal ht hu
  · exact PySem.W.SortsAt.data e hal (.inr ht) hu
theorem sorted_any {l : Addr} {Q : Value → Shared → Prop} (hl : s.heap.IsList l vs.toArray) (e : EachIs R vs bs) (er : EachIs (fun v b => ∃ as, Reads s.heap v (enc b) as) vs bs) (hal : PySem.W.AllAlike (bs.map enc)) (hk : SortableT (bs.map enc)) (hL : bs.length ≤ sizeLine)
    (hu : ∀ b, b ∈ bs → A.units + 2 + (enc b).depth < cLine) (h : ∀ out, out.length = bs.length → EachIs R out (bs.mergeSort (PySem.W.dataLe false enc)) → Q (.ref (s.heap.objs.size + 1)) { s with heap := sortedAll s.heap vs (List.toArray out) }) :
    wpAny (model prog w) A (call (.builtin "sorted") [.ref l]) Q E s := by
  have er' : EachIs (fun v b => ∃ as, Reads (PySem.W.sortingHeap (PySem.W.copyHeap s.heap vs) (s.heap.objs.size + 1) vs) v (enc b) as) vs bs := er.mono fun _ _ ⟨as, r⟩ => ⟨as, PyProof.Rows.Reads.keeps (fun _ _ => PySem.W.sorting_copy_old) r⟩
  exact PySem.W.sorted_vals hl (sortsAt_any (s := { s with heap := PySem.W.sortingHeap (PySem.W.copyHeap s.heap vs) (s.heap.objs.size + 1) vs }) (PySem.W.each_map (R := fun v d => ∃ as, Reads (PySem.W.sortingHeap (PySem.W.copyHeap s.heap vs) (s.heap.objs.size + 1) vs) v d as) enc er') hal hk (PySem.W.bound_map hu)) (by rw [e.length]; exact hL)
    (h _ (by rw [PySem.W.sortVals_length false rfl]; exact e.length) (PySem.W.sortVals_data false e er' hal))
end
end DL
/-! sorted of data: as a rule. -/
namespace DL
open PySem PySem.Spec PyProof.Rows
open PySem.W (EachIs)
/-- a new empty list ahead; with the items in it -/
def nl (h : Heap) : Heap := h.push (seqObj "list" #[] 0)
def laid (h : Heap) (vs : List Value) : Heap := (nl h).update h.objs.size (Obj.mapSeq (· ++ vs.toArray))
theorem nl_at (h : Heap) : (nl h).get? h.objs.size = some (seqObj "list" #[] 0) := Heap.get?_push_size _ rfl
section
variable {prog : Program} {w : World} {A : Around} {E : Value → Shared → Prop} {s : Shared} {vs : List Value} {l : Addr}
/-- what is walked is laid item by item into a new list -/
def Collects (prog : Program) (w : World) (s : Shared) (l : Addr) (vs : List Value) : Prop :=
  ∀ (A : Around) (E : Value → Shared → Prop) (Q : List Value → Shared → Prop), Q vs { s with heap := laid s.heap vs } → wpAny (model prog w) A (collect (.ref l)) Q E s
theorem collects_list (hl : s.heap.IsList l vs.toArray) (few : vs.length ≤ sizeLine) : Collects prog w s l vs := fun _ _ _ q => PyProof.Rows.collect_list hl q few
theorem collects_tuple (hl : s.heap.IsTuple l vs.toArray) (few : vs.length ≤ sizeLine) : Collects prog w s l vs := by
  intro A E Q q
  obtain ⟨ob, at_l, isT, ep, items⟩ := hl
  have still : (nl s.heap).get? l = some ob := Heap.get?_push_of_some _ at_l
  have fits : ((#[] : Array Value) ++ vs.toArray).size ≤ sizeLine + 1 := by simpa using Nat.le_succ_of_le few
  have back : ((#[] : Array Value) ++ vs.toArray).toList = vs := by simp
  unfold collect
  apply wpAny_bind; apply wpAny_runValue; apply codeAny_builtin entry_proto_collect'
  apply wpAny_bind; refine wpAny_newList ?_ (Nat.zero_le _)
  apply wpAny_pure
  refine And.intro (Code.quiet_builtin _ (by decide +kernel)) (codeAny_builtin entry_list_iadd' ?_)
  change wpAny _ _ (Builtin.List.listExtendWith (Value.ref s.heap.objs.size) (Value.ref l) (Value.ref s.heap.objs.size)) _ _ (Shared.mk (nl s.heap) s.gens s.drawn s.toks s.os)
  delta Builtin.List.listExtendWith
  have ty : (Shared.mk (nl s.heap) s.gens s.drawn s.toks s.os).TypeIs (.ref l) "tuple" := ⟨ob, still, isT⟩
  have eqT : (Value.type "tuple" == Value.type "tuple") = true := by decide +kernel
  apply wpAny_bind; refine wpAny_typeOf ty ?_
  rw [eqT, Bool.or_true, if_pos rfl]
  apply wpAny_bind; apply listItems_at still items
  apply wpAny_bind; apply listItems_at (nl_at s.heap) rfl
  rw [if_neg (show ¬ _ by simp)]
  apply wpAny_bind
  refine listUpdate_at (nl_at s.heap) rfl ?_ (Nat.zero_le _) fits
  apply wpAny_pure
  refine wpAny_bind (wpAny_load (get?_update_seq (nl_at s.heap) _) (wpAny_pure ?_))
  rw [back]
  exact q
/-- sorted(..) of what is so laid: a sort of that list's copy -/
theorem sorted_col {kw : List (Str × Value)} {Q : Value → Shared → Prop} (hc : Collects prog w s l vs) (few : vs.length ≤ sizeLine) (k1 : argsOk "sorted" ⟨[.ref l], kw⟩) (k2 : ∀ x, argsOk "list.sort" ⟨[.ref x], kw⟩)
    (go : ∀ E', wpAny (model prog w) A.in1.in1 (Builtin.«list.sort» ⟨[.ref (s.heap.objs.size + 1)], kw⟩) (fun f s' => f = .done (.ret .none) ∧ Q (.ref (s.heap.objs.size + 1)) s') E' { s with heap := PySem.W.copyHeap s.heap vs }) :
    wpAny (model prog w) A (call (.builtin "sorted") [.ref l] kw) Q E s := by
  have size1 : (laid s.heap vs).objs.size = s.heap.objs.size + 1 := (Heap.size_update ..).trans (PyProof.Rows.size_push' ..)
  apply call_function_entry_kw kind_sorted plain_sorted entry_sorted k1
  delta Builtin.«sorted»
  apply wpAny_bind (m := checkCount "sorted" 1 1 _); apply wpAny_pure
  apply wpAny_bind; apply hc
  apply wpAny_bind; refine wpAny_newList ?_ few
  change wpAny _ _ _ _ _ (Shared.mk (PySem.W.copyHeap s.heap vs) s.gens s.drawn s.toks s.os)
  have size2 : ({ s with heap := laid s.heap vs } : Shared).heap.objs.size = s.heap.objs.size + 1 := size1
  rw [size2]
  apply wpAny_bind; apply wpAny_holding
  refine wpAny_call_entry_kw slot_list_sort ⟨_, PySem.W.copyHeap_at s.heap vs, rfl⟩ entry_list_sort (wpAny_mono (go _) ?_ fun _ _ z => z) (k2 _)
  rintro f s' ⟨rfl, done⟩
  exact ⟨.none, rfl, wpAny_pure ⟨_, rfl, done⟩⟩
variable {β : Type} {bs : List β} {enc : β → PyData} {R : Value → β → Prop}
theorem sorted_colAny {l : Addr} {Q : Value → Shared → Prop} (hcol : Collects prog w s l vs) (e : EachIs R vs bs) (er : EachIs (fun v b => ∃ as, Reads s.heap v (enc b) as) vs bs) (hal : PySem.W.AllAlike (bs.map enc)) (hk : SortableT (bs.map enc)) (hL : bs.length ≤ sizeLine)
    (hu : ∀ b, b ∈ bs → A.units + 2 + (enc b).depth < cLine) (h : ∀ out, out.length = bs.length → EachIs R out (bs.mergeSort (PySem.W.dataLe false enc)) → Q (.ref (s.heap.objs.size + 1)) { s with heap := sortedAll s.heap vs (List.toArray out) }) :
    wpAny (model prog w) A (call (.builtin "sorted") [.ref l]) Q E s := by
  have er' : EachIs (fun v b => ∃ as, Reads (PySem.W.sortingHeap (PySem.W.copyHeap s.heap vs) (s.heap.objs.size + 1) vs) v (enc b) as) vs bs := er.mono fun _ _ ⟨as, r⟩ => ⟨as, PyProof.Rows.Reads.keeps (fun _ _ => PySem.W.sorting_copy_old) r⟩
  have S := sortsAt_any (prog := prog) (w := w) (A := A.in1.in1) (s := { s with heap := PySem.W.sortingHeap (PySem.W.copyHeap s.heap vs) (s.heap.objs.size + 1) vs }) (PySem.W.each_map (R := fun v d => ∃ as, Reads (PySem.W.sortingHeap (PySem.W.copyHeap s.heap vs) (s.heap.objs.size + 1) vs) v d as) enc er') hal hk (PySem.W.bound_map hu)
  have hl : vs.length ≤ sizeLine := by rw [e.length]; exact hL
  exact sorted_col hcol hl (args_sorted1 _) (fun _ => args_list_sort _) fun _ => PySem.W.list_sort_vals (s := { s with heap := PySem.W.copyHeap s.heap vs }) (PySem.W.copyHeap_at s.heap vs) S hl
    ⟨rfl, h _ (by rw [PySem.W.sortVals_length false rfl]; exact e.length) (PySem.W.sortVals_data false e er' hal)⟩
end
end DL
namespace DL
open PySem PySem.Spec L2 Gd
open PySem.W (EachIs)
theorem each_of_vals : ∀ {bs : List (V × D)} {us : List Value}, Vals (bs.map (·.1)) us → EachIs (fun u (b : V × D) => RelV b.1 u) us bs
  | [], _, h => by cases h; exact .nil
  | _ :: _, _, h => by
    cases h with
    | cons h t => exact .cons h (each_of_vals t)
theorem vals_of_each : ∀ {bs : List (V × D)} {us : List Value}, EachIs (fun u (b : V × D) => RelV b.1 u) us bs → Vals (bs.map (·.1)) us
  | _, _, .nil => .nil
  | _, _, .cons h t => .cons h (vals_of_each t)
/-- data that can be sorted: any two alike; tuples, or neither tuples nor None -/
structure SortOk (ds : List D) : Prop where
  al : ∀ a ∈ ds, ∀ b ∈ ds, PySem.W.alike (py a) (py b) = true
  ty : (∀ a ∈ ds, ∃ xs, a = .tup xs) ∨ (∀ a ∈ ds, py a ≠ .none ∧ ∀ xs, a ≠ .tup xs)
  dn : ∀ a ∈ ds, dn 40 a = true
def sortD (ds : List D) : List D := ds.mergeSort (PySem.W.dataLe false py)
def rSortG (K : PySem.W.Frag) : List V → Hp → VK → Prop := fun vs H Q => ∃ (a : Addr) (bs : List (V × D)), vs = [.ref a] ∧ (SqL K H a (bs.map (·.1)) ∨ SqT K H a (bs.map (·.1))) ∧ (∀ b ∈ bs, Dp K H b.1 (py b.2)) ∧ SortOk (bs.map (·.2)) ∧
  ∀ p, H p = none → Q (.ref p) (upd H p (.lst ((bs.mergeSort (PySem.W.dataLe false fun b => py b.2)).map (·.1))))
section
variable {X : Cx} {dx : Dx} {K : PySem.W.Frag}
theorem cr_sortG (hu : X.A.units + 64 < cLine) : CallR X (.builtin "sorted") (rSortG X.K) := by
  intro pins s σ H vs us Q I r h
  obtain ⟨a, bs, rfl, hs, hd, ok, q⟩ := h
  obtain ⟨u, rfl, ru⟩ := vals1 r
  obtain rfl : u = Value.ref a := ru
  have key : ∃ its : List Value, Vals (bs.map (·.1)) its ∧ its.length ≤ sizeLine ∧ Collects X.prog X.w s a its := by
    rcases hs with hs | hs
    · obtain ⟨its, rv, hl, hz⟩ := I.list hs
      have hz : its.length ≤ sizeLine := by rw [← rv.length]; exact hz
      exact ⟨its, rv, hz, collects_list hl.isList hz⟩
    · obtain ⟨its, rv, pt, hz⟩ := I.tuple hs
      have hz : its.length ≤ sizeLine := by rw [← rv.length]; exact hz
      exact ⟨its, rv, hz, collects_tuple (show s.heap.IsTuple a its.toArray from pt) hz⟩
  obtain ⟨its, rv, hz, hcol⟩ := key
  have e := each_of_vals rv
  have len : bs.length = its.length := e.length.symm
  have er : EachIs (fun v (b : V × D) => ∃ as, Reads s.heap v (py b.2) as) its bs := (PySem.W.each_mem e).mono fun u b hb => Dp.reads I _ _ _ (hd b hb.2) hb.1
  have memd : ∀ d, d ∈ bs.map (fun b => py b.2) → ∃ c, c ∈ bs.map (·.2) ∧ d = py c := fun d hm => by
    obtain ⟨b, hb, rfl⟩ := List.mem_map.mp hm
    exact ⟨b.2, List.mem_map.mpr ⟨b, hb, rfl⟩, rfl⟩
  refine sorted_colAny (enc := fun b : V × D => py b.2) hcol e er (fun d hd d' hd' => ?_) ?_ (by rw [len]; exact hz) (fun b hb => ?_) fun out hl eo => ?_
  · obtain ⟨c, hc, rfl⟩ := memd d hd
    obtain ⟨c', hc', rfl⟩ := memd d' hd'
    exact ok.al c hc c' hc'
  · rcases ok.ty with t | t
    · refine .inl fun d hd => ?_
      obtain ⟨c, hc, rfl⟩ := memd d hd
      obtain ⟨xs, rfl⟩ := t c hc
      exact ⟨_, rfl⟩
    · refine .inr fun d hd => ?_
      obtain ⟨c, hc, rfl⟩ := memd d hd
      obtain ⟨h1, h2⟩ := t c hc
      refine ⟨h1, fun xs e => ?_⟩
      cases c with
      | tup ys => exact h2 ys rfl
      | _ => cases e
  · have := py_depth (ok.dn b.2 (List.mem_map.mpr ⟨b, hb, rfl⟩))
    omega
  · have keep : ∀ b u, s.heap.get? b = some u → (PyProof.Rows.sortedAll s.heap its (List.toArray out)).get? b = some u := fun b u e => PyProof.Rows.sortedAll_old e
    obtain ⟨n, hn⟩ := PyProof.Rows.sortedAll_at s.heap its (List.toArray out)
    have hnone : H (s.heap.objs.size + 1) = none := I.hok.fresh (Nat.le_succ _)
    refine ⟨.ref (s.heap.objs.size + 1), upd H (s.heap.objs.size + 1) (.lst ((bs.mergeSort (PySem.W.dataLe false fun b => py b.2)).map (·.1))), I.laid (t' := s.toks) keep (Nat.le_succ _) ⟨?_, out, n, vals_of_each eo, hn⟩, rfl, q _ hnone⟩
    rw [List.length_map, (List.mergeSort_perm _ _).length_eq, len]
    exact hz
theorem cr_sortG_ (K : PySem.W.Frag) (hu : X.A.units + 64 < cLine) (hK : X.K = K := by rfl) : CallR X (.builtin "sorted") (rSortG K) := by subst hK; exact cr_sortG hu
theorem DtAll.pairs {M : Mm} {H : Hp} : ∀ {bs : List (V × D)}, (∀ b ∈ bs, Dt K M H b.1 b.2) → DtAll K M H (bs.map (·.1)) (bs.map (·.2))
  | [], _ => .nil
  | b :: bs, h => .cons (h b List.mem_cons_self) (DtAll.pairs fun c m => h c (List.mem_cons_of_mem _ m))
theorem DtAll.zip {M : Mm} {H : Hp} : ∀ {vs : List V} {ds : List D}, DtAll K M H vs ds → (vs.zip ds).map (·.1) = vs ∧ (vs.zip ds).map (·.2) = ds ∧ ∀ b ∈ vs.zip ds, Dt K M H b.1 b.2
  | _, _, .nil => ⟨rfl, rfl, fun b m => nomatch m⟩
  | _, _, .cons h t => by
    obtain ⟨a, b, c⟩ := DtAll.zip t
    refine ⟨by rw [List.zip_cons_cons, List.map_cons, a], by rw [List.zip_cons_cons, List.map_cons, b], fun p m => ?_⟩
    rw [List.zip_cons_cons] at m
    rcases List.mem_cons.mp m with rfl | m
    · exact h
    · exact c p m
def kD : Key → D
  | .inl i => .int i
  | .inr x => .str x
/-- the items of a list, a tuple -/
def seqOf (S : Sto) : D → Option (List D)
  | .lst ds => some ds
  | .tup ds => some ds
  | .fls ns => some (ns.map D.int)
  | .adr p => getS S p
  | _ => none
def fSorted (d : D) (S : Sto) (Q : D → Sto → Prop) : Prop := opt (seqOf S d) fun ds => SortOk ds ∧ Q (.lst (sortD ds)) S
theorem seq_of {H : Hp} {S : Sto} {v : V} {d : D} {ds : List D} (r : HR K dx H S) (h : Dt K (Mu dx S) H v d) (e : seqOf S d = some ds) : ∃ a vs, v = .ref a ∧ (SqL K H a vs ∨ SqT K H a vs) ∧ DtAll K (Mu dx S) H vs ds := by
  cases h with
  | tup n h a => cases e; exact ⟨_, _, rfl, .inr (.inl h), a⟩
  | ktup h a => cases e; exact ⟨_, _, rfl, .inr (.inr h), a⟩
  | lst n h a => cases e; exact ⟨_, _, rfl, .inl (SqL.of h), a⟩
  | fls n h => cases e; exact ⟨_, _, rfl, .inl (.inl h), DtAll.ints _⟩
  | kfls h => cases e; exact ⟨_, _, rfl, .inl (.inr h), DtAll.ints _⟩
  | adr p =>
    obtain ⟨_, vs, eh, al⟩ := r.get e
    exact ⟨_, _, rfl, .inl (SqL.of eh), al⟩
  | _ => cases e
theorem cd_sorted : CallD K dx (rSortG K) (one fSorted) := by
  refine cd_one fun v d H S Q Qh r h t k => ?_
  obtain ⟨ds, e, ok, t⟩ := opt_run t
  obtain ⟨a, vs, rfl, hs, al⟩ := seq_of r h e
  obtain ⟨z1, z2, z3⟩ := al.zip
  refine ⟨a, vs.zip ds, rfl, by rw [z1]; exact hs, fun b hb => dp_of (z3 b hb) (ok.dn b.2 (by rw [← z2]; exact List.mem_map.mpr ⟨b, hb, rfl⟩)), by rw [z2]; exact ok, fun p n => ?_⟩
  have e2 : sortD ds = ((vs.zip ds).mergeSort (PySem.W.dataLe false fun b => py b.2)).map (·.2) := by
    unfold sortD
    have m := PySem.W.sort_maps (r := PySem.W.dataLe false fun b : V × D => py b.2) (s := PySem.W.dataLe false py) (l := vs.zip ds) (fun b : V × D => b.2) (fun _ _ _ _ => rfl)
    rw [z2] at m
    exact m.symm
  obtain ⟨r2, x2, d2⟩ := new_lst r n (DtAll.pairs (bs := (vs.zip ds).mergeSort (PySem.W.dataLe false fun b => py b.2)) fun b hb => z3 b ((List.mergeSort_perm _ _).mem_iff.mp hb))
  rw [← e2] at d2
  exact k _ _ _ S r2 x2 d2 t
end
end DL
/-! Dicts: items, in, comprehensions, what is not changed any more. -/
namespace DL
open PySem PySem.Spec L2 Gd

/-! ### tables of keys -/
def valD (kvs : List (Key × D)) (k : Key) : Option D := (kvs.find? fun kv => decide (kv.1 = k)).map (·.2)
def putD (kvs : List (Key × D)) (k : Key) (d : D) : List (Key × D) :=
  if (kvs.any fun kv => decide (kv.1 = k)) = true then kvs.map (fun kv => if kv.1 = k then (kv.1, d) else kv) else kvs ++ [(k, d)]
def dropD (kvs : List (Key × D)) (k : Key) : List (Key × D) := kvs.filter fun kv => decide (kv.1 ≠ k)
theorem valD_nil {k : Key} : valD [] k = none := rfl
theorem valD_pos {p : Key × D} {r : List (Key × D)} {k : Key} (e : p.1 = k) : valD (p :: r) k = some p.2 := by simp [valD, List.find?_cons, e]
theorem valD_neg {p : Key × D} {r : List (Key × D)} {k : Key} (e : ¬ p.1 = k) : valD (p :: r) k = valD r k := by simp [valD, List.find?_cons, e]
def KD (K : PySem.W.Frag) (M : Mm) (H : Hp) (ws : List (Key × V)) (kvs : List (Key × D)) : Prop := ws.map (·.1) = kvs.map (·.1) ∧ DtAll K M H (ws.map (·.2)) (kvs.map (·.2))
section
variable {K : PySem.W.Frag} {M : Mm} {H : Hp}
theorem KD.nil : KD K M H [] [] := ⟨rfl, .nil⟩
theorem KD.cons {p : Key × V} {q : Key × D} {ws : List (Key × V)} {kvs : List (Key × D)} (e : p.1 = q.1) (h : Dt K M H p.2 q.2) (t : KD K M H ws kvs) : KD K M H (p :: ws) (q :: kvs) :=
  ⟨by rw [List.map_cons, List.map_cons, e, t.1], .cons h t.2⟩
theorem KD.case {motive : List (Key × V) → List (Key × D) → Prop} (h0 : motive [] []) (h1 : ∀ p q ws kvs, p.1 = q.1 → Dt K M H p.2 q.2 → KD K M H ws kvs → motive ws kvs → motive (p :: ws) (q :: kvs)) :
    ∀ {ws : List (Key × V)} {kvs : List (Key × D)}, KD K M H ws kvs → motive ws kvs
  | [], [], _ => h0
  | [], q :: kvs, h => by cases h.1
  | p :: ws, [], h => by cases h.1
  | p :: ws, q :: kvs, h => by
    obtain ⟨e, a⟩ := h
    rw [List.map_cons, List.map_cons] at e
    obtain ⟨e1, e2⟩ := List.cons.inj e
    cases a with
    | cons a1 a2 => exact h1 p q ws kvs e1 a1 ⟨e2, a2⟩ (KD.case h0 h1 ⟨e2, a2⟩)
theorem KD.append {ws ws' : List (Key × V)} {kvs kvs' : List (Key × D)} (a : KD K M H ws kvs) (b : KD K M H ws' kvs') : KD K M H (ws ++ ws') (kvs ++ kvs') :=
  ⟨by rw [List.map_append, List.map_append, a.1, b.1], by rw [List.map_append, List.map_append]; exact a.2.append b.2⟩
theorem KD.length {ws : List (Key × V)} {kvs : List (Key × D)} (a : KD K M H ws kvs) : ws.length = kvs.length := by
  have := congrArg List.length a.1
  simpa using this
theorem KD.any {ws : List (Key × V)} {kvs : List (Key × D)} (a : KD K M H ws kvs) (k : Key) : (ws.any fun kv => decide (kv.1 = k)) = kvs.any fun kv => decide (kv.1 = k) := by
  refine KD.case (motive := fun ws kvs => (ws.any fun kv => decide (kv.1 = k)) = kvs.any fun kv => decide (kv.1 = k)) rfl (fun p q ws kvs e _ _ ih => ?_) a
  rw [List.any_cons, List.any_cons, ih, e]
theorem KD.val {ws : List (Key × V)} {kvs : List (Key × D)} (a : KD K M H ws kvs) (k : Key) : (valD kvs k = none ∧ valV ws k = none) ∨ ∃ v d, valD kvs k = some d ∧ valV ws k = some v ∧ Dt K M H v d := by
  refine KD.case (motive := fun ws kvs => (valD kvs k = none ∧ valV ws k = none) ∨ ∃ v d, valD kvs k = some d ∧ valV ws k = some v ∧ Dt K M H v d) (.inl ⟨rfl, rfl⟩) (fun p q ws kvs e h _ ih => ?_) a
  by_cases c : q.1 = k
  · exact .inr ⟨p.2, q.2, valD_pos c, valV_pos (e.trans c), h⟩
  · rw [valD_neg c, valV_neg (fun z => c (e.symm.trans z))]
    exact ih
theorem KD.put {ws : List (Key × V)} {kvs : List (Key × D)} (a : KD K M H ws kvs) (k : Key) {v : V} {d : D} (h : Dt K M H v d) : KD K M H (putK ws k v) (putD kvs k d) := by
  unfold putK putD
  rw [a.any k]
  split
  · refine KD.case (motive := fun ws kvs => KD K M H (ws.map fun kv => if kv.1 = k then (kv.1, v) else kv) (kvs.map fun kv => if kv.1 = k then (kv.1, d) else kv)) KD.nil (fun p q ws kvs e hd _ ih => ?_) a
    rw [List.map_cons, List.map_cons]
    by_cases c : q.1 = k
    · rw [if_pos c, if_pos (e.trans c)]
      exact KD.cons e h ih
    · rw [if_neg c, if_neg (fun z => c (e.symm.trans z))]
      exact KD.cons e hd ih
  · exact a.append (KD.cons rfl h KD.nil)
theorem KD.drop {ws : List (Key × V)} {kvs : List (Key × D)} (a : KD K M H ws kvs) (k : Key) : KD K M H (dropK ws k) (dropD kvs k) := by
  unfold dropK dropD
  refine KD.case (motive := fun ws kvs => KD K M H (ws.filter fun kv => decide (kv.1 ≠ k)) (kvs.filter fun kv => decide (kv.1 ≠ k))) KD.nil (fun p q ws kvs e hd _ ih => ?_) a
  by_cases c : q.1 = k
  · rw [List.filter_cons_of_neg (by simpa using e.trans c), List.filter_cons_of_neg (by simpa using c)]
    exact ih
  · rw [List.filter_cons_of_pos (by simpa using fun z => c (e.symm.trans z)), List.filter_cons_of_pos (by simpa using c)]
    exact KD.cons e hd ih
theorem KD.ext {M' : Mm} {H' : Hp} (x : Ext M H M' H') {ws : List (Key × V)} {kvs : List (Key × D)} (a : KD K M H ws kvs) : KD K M' H' ws kvs := ⟨a.1, a.2.ext x⟩
theorem KD.extD {M' : Mm} {H' : Hp} (x : ExtD M H M' H') {ws : List (Key × V)} {kvs : List (Key × D)} (a : KD K M H ws kvs) : KD K M' H' ws kvs := ⟨a.1, a.2.extD x⟩
end
theorem zip_fst : ∀ {ks : List Key} {vs : List D}, ks.length = vs.length → (ks.zip vs).map (·.1) = ks ∧ (ks.zip vs).map (·.2) = vs
  | [], [], _ => ⟨rfl, rfl⟩
  | k :: ks, v :: vs, h => by
    obtain ⟨a, b⟩ := zip_fst (ks := ks) (vs := vs) (by simpa using h)
    exact ⟨by rw [List.zip_cons_cons, List.map_cons, a], by rw [List.zip_cons_cons, List.map_cons, b]⟩
/-- the frozen form -/
def dicOf (kvs : List (Key × D)) : D := .dic (kvs.map (·.1)) (kvs.map (·.2))
def kvsOf (S : Sto) : D → Option (List (Key × D))
  | .dic ks vs => some (ks.zip vs)
  | .dlt ks vs => some (ks.zip vs)
  | .adr p => getK S p
  | _ => none
theorem zip_unzip : ∀ (kvs : List (Key × D)), (kvs.map (·.1)).zip (kvs.map (·.2)) = kvs
  | [] => rfl
  | p :: kvs => by rw [List.map_cons, List.map_cons, List.zip_cons_cons, zip_unzip kvs]
theorem kvsOf_dic {S : Sto} (kvs : List (Key × D)) : kvsOf S (dicOf kvs) = some kvs := by
  show some ((kvs.map (·.1)).zip (kvs.map (·.2))) = some kvs
  rw [zip_unzip]
def keyOf : D → Option Key
  | .int i => some (.inl i)
  | .str x => some (.inr x)
  | _ => none
section
variable {X : Cx} {dx : Dx} {K : PySem.W.Frag}
theorem kvs_of {H : Hp} {S : Sto} {v : V} {d : D} {kvs : List (Key × D)} (r : HR K dx H S) (h : Dt K (Mu dx S) H v d) (e : kvsOf S d = some kvs) : ∃ a ws, v = .ref a ∧ Rd H a (.dK ws) ∧ KD K (Mu dx S) H ws kvs := by
  cases h with
  | dic n h k a =>
    cases e
    subst k
    have l := a.length
    rw [List.length_map] at l
    obtain ⟨z1, z2⟩ := zip_fst (ks := List.map (fun p : Key × V => p.1) _) (vs := _) ((List.length_map _).trans l)
    exact ⟨_, _, rfl, .inr ⟨_, h⟩, z1.symm, by rw [z2]; exact a⟩
  | dlt n h k a =>
    cases e
    subst k
    have l := a.length
    rw [List.length_map] at l
    obtain ⟨z1, z2⟩ := zip_fst (ks := List.map (fun p : Key × V => p.1) _) (vs := _) ((List.length_map _).trans l)
    exact ⟨_, _, rfl, .inl h, z1.symm, by rw [z2]; exact a⟩
  | adr p =>
    obtain ⟨_, ws, eh, hk, al⟩ := r.getD e
    exact ⟨_, _, rfl, .inl eh, hk, al⟩
  | _ => cases e
theorem key_of {H : Hp} {M : Mm} {v : V} {d : D} {k : Key} (h : Dt K M H v d) (e : keyOf d = some k) : v = kV k := by
  cases h with
  | int i => cases e; rfl
  | str x => cases e; rfl
  | _ => cases e

/-! ### d[k], k in d -/
def rDGet : R2 := fun x y H Q => ∃ a v, x = .ref a ∧ DGet H a y (some v) ∧ Q v H
theorem ix_dict (hu : X.A.units + 1 < cLine) : IxR X rDGet := by
  intro value slice pins s σ H x y v u Q I rx ry h hs
  obtain ⟨a, z, rfl, g, q⟩ := h
  obtain rfl : v = Value.ref a := rx
  have hT := dict_typeIs I g
  unfold PyProof.Rows.subscriptTail
  refine wpAny_bind ?_
  rw [getitemInPython_of_ne hT.not_modules]
  refine wpAny_bind (wpAny_specialOf hT PySem.F.slot_dict_getitem.lookup ?_)
  have fin : wpAny (model X.prog X.w) X.A (subscripted slice false (.ref a) u) (fun r s₃ => wpAny (model X.prog X.w) X.A (PySem.letTemporaryGo value (.ref a) r >>= fun _ => pure r) (EP X pins σ Q) X.xe s₃) X.xe s := by
    rw [hs]
    exact wpAny_operating (d_getItem hu I g ry fun w' s' I' rw' => wpAny_bind (wpAny_letTemporaryGo (wpAny_pure ⟨z, H, I', rw', q⟩)))
  first
    | exact wpAny_pure (wpAny_bind fin)
    | exact wpAny_bind (wpAny_pure (wpAny_bind fin))
    | exact wpAny_bind fin
def fIxK : F2 := fun o i S Q => opt (kvsOf S o) fun kvs => opt (keyOf i) fun k => opt (valD kvs k) fun d => Q d S
theorem od_ixK : OpD K dx rDGet fIxK := by
  intro x y p q H S Q Qh r hx hy t k
  obtain ⟨kvs, e1, t⟩ := opt_run t
  obtain ⟨ky, e2, t⟩ := opt_run t
  obtain ⟨d, e3, t⟩ := opt_run t
  obtain ⟨a, ws, rfl, rd, al⟩ := kvs_of r hx e1
  obtain rfl := key_of hy e2
  rcases al.val ky with ⟨z, _⟩ | ⟨v, d', z1, z2, hd⟩
  · rw [e3] at z; cases z
  · rw [e3] at z1
    cases z1
    exact ⟨a, v, rfl, .inl ⟨ws, ky, rd, rfl, z2.symm⟩, k _ H _ S r Ext.refl hd t⟩
theorem de_ixK {a b : Expr} {ta tb : TE} {fa fb : DTE} {pos : Pos} (hu : X.A.units + 64 < cLine) (ha : DE X dx a ta fa) (hb : DE X dx b tb fb) (hs : PlainIx b := by exact fun _ _ => rfl) : DE X dx (.Subscript a b pos) (tOp rDGet ta tb) (dOp fIxK fa fb) :=
  ⟨pe_ix (ix_dict (by omega)) ha.pe hb.pe hs, op_go od_ixK ha hb⟩
def rDIn (neg : Bool) : R2 := fun y x H Q => ∃ a o, x = .ref a ∧ DGet H a y o ∧ Q (.bl (if neg then !o.isSome else o.isSome)) H
theorem op_din (hu : X.A.units + 64 < cLine) : OpR X (compareOp .In) (rDIn false) := by
  intro pins s σ H y x v u Q I ry rx h
  obtain ⟨a, o, rfl, g, q⟩ := h
  obtain rfl : u = Value.ref a := rx
  exact d_in (by omega) I g ry fun s3 I3 => ⟨.bl o.isSome, H, I3, rfl, q⟩
theorem op_dnotin (hu : X.A.units + 64 < cLine) : OpR X (compareOp .NotIn) (rDIn true) := by
  intro pins s σ H y x v u Q I ry rx h
  obtain ⟨a, o, rfl, g, q⟩ := h
  obtain rfl : u = Value.ref a := rx
  exact d_notIn (by omega) I g ry fun s3 I3 => ⟨.bl (!o.isSome), H, I3, rfl, q⟩
def hasD (kvs : List (Key × D)) (k : Key) : Bool := (valD kvs k).isSome
def fInK (neg : Bool) : F2 := fun i o S Q => opt (kvsOf S o) fun kvs => opt (keyOf i) fun k => Q (.bl (if neg then !hasD kvs k else hasD kvs k)) S
theorem od_inK (neg : Bool) : OpD K dx (rDIn neg) (fInK neg) := by
  intro y x q p H S Q Qh r hy hx t k
  obtain ⟨kvs, e1, t⟩ := opt_run t
  obtain ⟨ky, e2, t⟩ := opt_run t
  obtain ⟨a, ws, rfl, rd, al⟩ := kvs_of r hx e1
  obtain rfl := key_of hy e2
  refine ⟨a, valV ws ky, rfl, .inl ⟨ws, ky, rd, rfl, rfl⟩, ?_⟩
  have e : (valV ws ky).isSome = hasD kvs ky := by
    unfold hasD
    rcases al.val ky with ⟨z1, z2⟩ | ⟨v, d', z1, z2, hd⟩
    · rw [z1, z2]; rfl
    · rw [z1, z2]; rfl
  rw [e]
  exact k _ H _ S r Ext.refl (.bl _) t
end

/-! ### locking -/
section
variable {X : Cx} {dx : Dx} {e : Expr} {st : Stmt} {sts : List Stmt} {te : TE} {ts : TS} {fa : DTE} {t : DTS}
/-- what is handed on is locked -/
def tLkV (te : TE) : TE := fun σ H Q => te σ H fun v H1 => ∃ d u, v = .ref d ∧ H1 d = some u ∧ Mut (some u) ∧ ∀ od, Q v (upd H1 d (.frz od u))
theorem pe_lkV (h : PE X e te) : PE X e (tLkV te) := by
  refine ⟨fun pins s σ H Q I w => thn (h.run pins s σ H _ I w) fun u s1 ⟨v, H1, I1, r, d, o, _, hd, mu, q⟩ => ?_⟩
  obtain ⟨od, I2⟩ := I1.lock hd mu
  exact ⟨v, _, I2, r, q od⟩
/-- behind the statement something is locked -/
def tLkA (ts : TS) : TS := fun D σ H => ts { D with nx := fun σ' H' => ∃ d u, H' d = some u ∧ Mut (some u) ∧ ∀ od, D.nx σ' (upd H' d (.frz od u)) } σ H
theorem ps_lkA (h : PS X st ts) : PS X st (tLkA ts) := by
  refine ⟨fun pins s σ H D I w => thn (h.run pins s σ H _ I w) fun f s1 q => ?_⟩
  cases f with
  | next =>
    obtain ⟨σ', H', I2, d, o, hd, mu, q⟩ := q
    obtain ⟨od, I3⟩ := I2.lock hd mu
    exact ⟨σ', _, I3, q od⟩
  | brk => exact q
  | cont => exact q
  | ret v => exact q
/-- .. ahead of the statements, or nothing is -/
def tLkB (ts : TS) : TS := fun D σ H => ts D σ H ∨ ∃ d u, H d = some u ∧ Mut (some u) ∧ ∀ od, ts D σ (upd H d (.frz od u))
theorem pss_lkB (h : PSs X sts ts) : PSs X sts (tLkB ts) := by
  refine ⟨fun pins s σ H D I w => ?_⟩
  rcases w with w | ⟨d, u, hd, mu, w⟩
  · exact h.run pins s σ H D I w
  · obtain ⟨od, I2⟩ := I.lock hd mu
    exact h.run pins s σ _ D I2 (w od)
/-- a dict of one's own is not changed any more -/
def dFrzE (fa : DTE) : DTE := fun δ S Q => fa δ S fun d S1 => match d with
  | .adr p => opt (getK S1 p) fun kvs => Q (dicOf kvs) (delS S1 p)
  | _ => False
theorem de_frzK (h : DE X dx e te fa) : DE X dx e (tLkV te) (dFrzE fa) := by
  refine ⟨pe_lkV h.pe, fun σ H δ S Q Qh r s t k => ?_⟩
  refine h.go σ H δ S _ _ r s t fun v H1 d S1 r1 x1 d1 t1 => ?_
  cases d with
  | adr p =>
    obtain ⟨kvs, g, t1⟩ := opt_run t1
    cases d1
    obtain ⟨ws, e0, _, _⟩ := r1.frozenD g ⟨.none, .none, .plain, #[]⟩
    refine ⟨p, .dK ws, rfl, e0, trivial, fun od => ?_⟩
    obtain ⟨ws', e1, r2, x2, d2⟩ := r1.frozenD g od
    rw [e0] at e1
    cases e1
    exact k _ _ _ _ r2 (x1.trans x2) d2 t1
  | _ => exact t1.elim
/-- the dict in slot i is not changed any more -/
def dFrzK (i : Nat) (t : DTS) : DTS := fun DD δ S => match gt δ i with
  | some (.adr p) => opt (getK S p) fun kvs => t DD (put δ i (dicOf kvs)) (delS S p)
  | _ => t DD δ S
theorem dss_frzK (i : Nat) (h : DSs X dx sts ts t) : DSs X dx sts (tLkB ts) (dFrzK i t) := by
  refine ⟨pss_lkB h.pe, fun σ H δ S DD E r s q k => ?_⟩
  unfold dFrzK at q
  split at q
  · rename_i p g
    obtain ⟨kvs, eg, q⟩ := opt_run q
    obtain ⟨v, e1, d1⟩ := s.ix i _ (gt_ix g)
    cases d1
    rw [put_set] at q
    obtain ⟨ws, e0, _, _⟩ := r.frozenD eg ⟨.none, .none, .plain, #[]⟩
    refine .inr ⟨p, .dK ws, e0, trivial, fun od => ?_⟩
    obtain ⟨ws', e2, r2, x2, d2⟩ := r.frozenD eg od
    rw [e0] at e2
    cases e2
    have s2 := (s.ext x2).set i d2
    have e3 : σ.set i (some (.ref p)) = σ := by
      apply List.ext_getElem?
      intro j
      by_cases hj : i = j
      · subst hj
        rw [List.getElem?_set_self (List.getElem?_eq_some_iff.mp e1).1, e1]
      · rw [List.getElem?_set_ne hj]
    rw [e3] at s2
    exact h.go σ _ _ _ DD E r2 s2 q (k.on x2)
  · exact .inl (h.go σ H δ S DD E r s q k)
end
end DL
/-! Dict comprehensions of one clause; keys put, taken away; displays. -/
namespace L2
open PySem PySem.Spec PyProof.Rows
section
variable {X : Cx}
theorem ps_setDc {i : Nat} {y : Str} {py : Pos} {kx vx tg iter : Expr} {ifs : List Expr} {scope : Scope} {own : List (Str × Nat)} {pos spos : Pos} {wi : TI} {g : TG} {tt : TT} {tk tv : TE} (hc : X.calm = true) (hN : X.N.Nodup) (hy : X.N[i]? = some y) (hyl : X.env.scope.names.lookup y = some .local)
    (hsw : swapsWith (.DictComp kx vx [⟨tg, iter, ifs, 0⟩] scope pos) (some (.Name y py)) spos.line X.env = pure true) (hi : PI X tg iter wi) (ok : BlkOk X.N X.env.scope scope own)
    (hg : ∀ (s : Shared) (H : Hp) (C : Addr) (cl : List (Str × Addr)) (fp : List Addr), PG (X.blk s H scope (compEnvC scope cl C X.env) fp) tg g) (ht : ∀ (s : Shared) (H : Hp) (C : Addr) (cl : List (Str × Addr)) (fp : List Addr), PTs (X.blk s H scope (compEnvC scope cl C X.env) fp) ifs tt)
    (hk : ∀ (s : Shared) (H : Hp) (C : Addr) (cl : List (Str × Addr)) (fp : List Addr), PE (X.blk s H scope (compEnvC scope cl C X.env) fp) kx tk)
    (he : ∀ (s : Shared) (H : Hp) (C : Addr) (cl : List (Str × Addr)) (fp : List Addr), PE (X.blk s H scope (compEnvC scope cl C X.env) fp) vx tv) (hs : ∀ x, foldedSetIterable iter X.env x = pure x := by intro _; rfl) :
    PS X (.Assign [.Name y py] (.DictComp kx vx [⟨tg, iter, ifs, 0⟩] scope pos) spos) (tAsg (tDc wi g tt tk tv (own.map (·.2))) (gName i)) := by
  refine ⟨fun pins s σ H D I h => ?_⟩
  rw [exec_Assign_Name_used _ _ _ _ hsw]
  refine wpAny_bind (wpAny_standAt (wpAny_bind ?_))
  show wpAny _ X.A (do let _ ← comprehension (.DictComp kx vx [⟨tg, iter, ifs, 0⟩] scope pos) scope X.env (firstIterPos [⟨tg, iter, ifs, 0⟩] pos) newDict false (eval iter X.env) (some (assign (.Name y py) X.env))) _ _ s
  have h : tDc wi g tt tk tv (own.map (·.2)) σ H (fun x H1 => gName i x σ H1 D.nx) := h
  refine wpAny_bind (thn (dc_core (Qf := fun _ s' => SP X pins D .next s') hc hN I hi ok hg ht hk he hs h fun L C s' m H' I' q hn f => ?_) fun _ s' hq => wpAny_pure (wpAny_pure hq))
  show wpAny _ _ (assign (.Name y py) X.env (.ref L)) _ _ _
  refine wpAny_assign_Name (store_ok2 (v := V.ref L) I' hN hy (.inl hyl) rfl (fun s2 I2 ⟨a, sb, ha⟩ => ?_) (.inr hyl))
  obtain ⟨f0, f1, f2, f3, f4, f5⟩ := f
  have haC : C ≠ a := by
    rcases ha with z | z
    · rw [z]; exact f1
    · exact fun e => f4 y a z e.symm
  refine ⟨m, hn.sameBut sb haC, fun h3 sb3 => ?_⟩
  exact ⟨_, H', I2.turned (t' := s2.toks) (fun b o hb e => (sb3.2 b hb).trans e) f0 f1 f3 f4 f5, q⟩
end
end L2
namespace DL
open PySem PySem.Spec L2 Gd
section
variable {X : Cx} {dx : Dx} {pos : Pos} {tg kx vx iter : Expr} {ifs : List Expr} {tk tv : TE} {fk fv : DTE} {wi : TI} {fi : DTA} {g : TG} {f : DTG} {tt : TT} {ft : DTT} {o : List Nat} {scope : Scope} {own : List (Str × Nat)}
def dcGo (g : DTG) (tt : DTT) (tk tv : DTE) (own : List Nat) (δ : Sl) (Q : D → Sto → Prop) : List D → List (Key × D) → Sto → Prop
  | [], acc, S => Q (dicOf acc) S
  | x :: xs, acc, S => g x (wipeD δ own) fun δ1 => tt δ1 S fun b S1 =>
      if b = true then tk δ1 S1 fun kd S2 => tv δ1 S2 fun d S3 => opt (keyOf kd) fun k => Fit (acc.length + 1) ∧ dcGo g tt tk tv own δ Q xs (putD acc k d) S3 else dcGo g tt tk tv own δ Q xs acc S1
def dDc (ti : DTA) (g : DTG) (tt : DTT) (tk tv : DTE) (own : List Nat) : DTE := fun δ S Q => ti δ S fun xs S1 => dcGo g tt tk tv own δ Q xs [] S1
theorem dc_goX (hi : DI X dx tg iter wi fi) (sub : ∀ j ∈ o, j ∈ own.map (·.2))
    (hg : ∀ (m : Addr → Prop) (s : Shared) (H : Hp) (C : Addr) (cl : List (Str × Addr)) (fp : List Addr), DG (Blk X scope s H C cl fp) { dx with M0 := m } tg g f o)
    (ht : ∀ (m : Addr → Prop) (s : Shared) (H : Hp) (C : Addr) (cl : List (Str × Addr)) (fp : List Addr), DTs (Blk X scope s H C cl fp) { dx with M0 := m } ifs tt ft)
    (hk : ∀ (m : Addr → Prop) (s : Shared) (H : Hp) (C : Addr) (cl : List (Str × Addr)) (fp : List Addr), DE (Blk X scope s H C cl fp) { dx with M0 := m } kx tk fk)
    (hv : ∀ (m : Addr → Prop) (s : Shared) (H : Hp) (C : Addr) (cl : List (Str × Addr)) (fp : List Addr), DE (Blk X scope s H C cl fp) { dx with M0 := m } vx tv fv) :
    ∀ σ H δ S (Q : D → Sto → Prop) (Qx : V → Hp → Prop), HR X.K dx H S → SR X.K dx σ H δ S → dDc fi f ft fk fv (own.map (·.2)) δ S Q →
      (∀ p H1 ws acc S', H1 p = some (.dK ws) → (∀ od, HR X.K dx (upd H1 p (.frz od (.dK ws))) S' ∧ Ext (Mu dx S) H (Mu dx S') (upd H1 p (.frz od (.dK ws))) ∧ Dt X.K (Mu dx S') (upd H1 p (.frz od (.dK ws))) (.ref p) (dicOf acc)) → Q (dicOf acc) S' → Qx (.ref p) H1) →
      tDc wi g tt tk tv (own.map (·.2)) σ H Qx := by
  intro σ H δ S Q Qx r s q k
  refine hi.go σ H δ S _ _ r s q fun J H0 xs S0 r0 x0 wk q0 => ?_
  intro p n
  obtain ⟨G, Y, wl, all⟩ := wk
  have h0 : dx.H0 p = none := r0.old n
  have hp : ¬ dx.hand p := fun h => r0.live p (r0.hm p h) n
  have s0 := (s.ext x0)
  have np : ∀ {S'' : Sto} {H'' : Hp}, HR X.K (dx.and p) H'' S'' → ¬ (Mu (dx.and p) S'').ch p := fun r'' z => by
    rcases z with z | z
    · exact hp z
    · exact (r''.own p z).2 (.inr rfl)
  let Pw : (List (Key × D) → Sto → Prop) → Hp → Prop := fun R H' => ∃ S' acc ws, HR X.K (dx.and p) H' S' ∧ Ext (Mu dx S0) H0 (Mu (dx.and p) S') H' ∧ H' p = some (.dK ws) ∧ KD X.K (Mu (dx.and p) S') H' ws acc ∧ R acc S'
  refine ⟨fun i m H' => m = xs.length - i ∧ i ≤ xs.length ∧ Pw (dcGo f ft fk fv (own.map (·.2)) δ Q (xs.drop i)) H', ⟨xs.length, by simp, Nat.zero_le _, S0, [], [], r0.andO n _, ext_and n, upd_same, KD.nil, q0⟩, ?_⟩
  rintro i m H1 ⟨rfl, hi', S', acc, ws, r', x', ep, al, q'⟩
  have gs := (all _ H1 r'.mu_live x'.d)
  by_cases hlt : i < xs.length
  · refine .inr ⟨wl.goes i H1 hlt gs.1, Pw (dcGo f ft fk fv (own.map (·.2)) δ Q (xs.drop (i + 1))), fun H' w' => ⟨xs.length - (i + 1), by omega, rfl, hlt, w'⟩, fun v H2 y => ?_⟩
    obtain ⟨sm, d, ed, dd⟩ := gs.2 i v H2 hlt (wl.yields i H1 v H2 hlt gs.1 y)
    have e1 : xs.drop i = d :: xs.drop (i + 1) := by
      rw [List.drop_eq_getElem_cons hlt]
      have := List.getElem?_eq_getElem hlt
      rw [this] at ed
      cases ed
      rfl
    rw [e1] at q'
    have xs2 : Ext (Mu (dx.and p) S') H1 (Mu (dx.and p) S') H2 := Ext.same sm
    have r2 := r'.same sm
    have sd : SR X.K (dx.and p) (L2.wipe σ (own.map (·.2))) H2 (wipeD δ (own.map (·.2))) S' :=
      ⟨(s0.wipe _).len, fun j c hc => let ⟨u, a, b⟩ := (s0.wipe (own.map (·.2))).ix j c hc; ⟨u, a, b.ext (x'.trans xs2)⟩⟩
    refine (hg (dx.and p).M0 X.s_0 X.H_0 0 [] []).go v d _ H2 _ S' _ _ r2 sd dd q' fun σ3 δ3 s3 l3 o3 q3 => ⟨wipe_wipe l3 sub o3, ?_⟩
    refine (ht (dx.and p).M0 X.s_0 X.H_0 0 [] []).go σ3 H2 δ3 S' _ _ r2 s3 q3 fun b H3 S3 r3 x3 q4 => ?_
    have ep3 : H3 p = some (.dK ws) := x3.keep p _ (np r2) (sm p _ ep)
    have xt3 := (x'.trans xs2).trans x3
    have al3 := al.ext (xs2.trans x3)
    cases b with
    | false =>
      rw [if_neg Bool.false_ne_true] at q4 ⊢
      exact ⟨S3, acc, ws, r3, xt3, ep3, al3, q4⟩
    | true =>
      rw [if_pos rfl] at q4 ⊢
      refine (hk (dx.and p).M0 X.s_0 X.H_0 0 [] []).go σ3 H3 δ3 S3 _ _ r3 (s3.ext x3) q4 fun y H4 kd S4 r4 x4 d4 q5 => ?_
      refine (hv (dx.and p).M0 X.s_0 X.H_0 0 [] []).go σ3 H4 δ3 S4 _ _ r4 (s3.ext (x3.trans x4)) q5 fun z H5 c S5 r5 x5 d5 q6 => ?_
      obtain ⟨ky, ek, q7⟩ := opt_run q6
      have ep5 : H5 p = some (.dK ws) := x5.keep p _ (np r4) (x4.keep p _ (np r3) ep3)
      have al5 := (al3.ext (x4.trans x5)).put ky d5
      refine ⟨ws, ky, key_of (d4.ext x5) ek, ep5, ?_, S5, putD acc ky c, _, r5.and_putO h0 hp (ls_at ep5 trivial) _, ext_put ((xt3.trans x4).trans x5) n, upd_same, al5.extD extD_put, q7.2⟩
      have := q7.1.line
      rw [al3.length]
      omega
  · have e : i = xs.length := by omega
    subst e
    rw [List.drop_length] at q'
    refine .inl ⟨wl.stops H1 gs.1, k p H1 ws acc S' ep (fun od => ?_) q'⟩
    have r2 := (r'.and_putO h0 hp (ls_at ep trivial) (.frz od (.dK ws))).unand hp
    have x2 : Ext (Mu dx S0) H0 (Mu dx S') (upd H1 p (.frz od (.dK ws))) := (ext_put x' n).trans ext_back
    refine ⟨r2, x0.trans x2, .dic ?_ upd_same al.1 ((al.2.extD extD_put).ext ext_back)⟩
    rintro (z | z | z)
    · exact r0.live p z n
    · exact hp z
    · exact (r'.own p z).2 (.inr rfl)
theorem dc_go (hi : DI X dx tg iter wi fi) (sub : ∀ j ∈ o, j ∈ own.map (·.2))
    (hg : ∀ (m : Addr → Prop) (s : Shared) (H : Hp) (C : Addr) (cl : List (Str × Addr)) (fp : List Addr), DG (Blk X scope s H C cl fp) { dx with M0 := m } tg g f o)
    (ht : ∀ (m : Addr → Prop) (s : Shared) (H : Hp) (C : Addr) (cl : List (Str × Addr)) (fp : List Addr), DTs (Blk X scope s H C cl fp) { dx with M0 := m } ifs tt ft)
    (hk : ∀ (m : Addr → Prop) (s : Shared) (H : Hp) (C : Addr) (cl : List (Str × Addr)) (fp : List Addr), DE (Blk X scope s H C cl fp) { dx with M0 := m } kx tk fk)
    (hv : ∀ (m : Addr → Prop) (s : Shared) (H : Hp) (C : Addr) (cl : List (Str × Addr)) (fp : List Addr), DE (Blk X scope s H C cl fp) { dx with M0 := m } vx tv fv) :
    ∀ σ H δ S Q Qh, HR X.K dx H S → SR X.K dx σ H δ S → dDc fi f ft fk fv (own.map (·.2)) δ S Q → ThE X.K dx H S Q Qh → tLkV (tDc wi g tt tk tv (own.map (·.2))) σ H Qh := by
  intro σ H δ S Q Qh r s q k
  refine dc_goX hi sub hg ht hk hv σ H δ S Q _ r s q fun p H1 ws acc S' ep h q' => ⟨p, .dK ws, rfl, ep, trivial, fun od => ?_⟩
  obtain ⟨r2, x2, d2⟩ := h od
  exact k _ _ _ _ r2 x2 d2 q'
/-- {k: v for tg in iter if ..}, never changed -/
theorem de_dc (hc : X.calm = true) (hN : X.N.Nodup) (hi : DI X dx tg iter wi fi) (ok : BlkOk X.N X.env.scope scope own) (sub : ∀ j ∈ o, j ∈ own.map (·.2))
    (hg : ∀ (m : Addr → Prop) (s : Shared) (H : Hp) (C : Addr) (cl : List (Str × Addr)) (fp : List Addr), DG (Blk X scope s H C cl fp) { dx with M0 := m } tg g f o)
    (ht : ∀ (m : Addr → Prop) (s : Shared) (H : Hp) (C : Addr) (cl : List (Str × Addr)) (fp : List Addr), DTs (Blk X scope s H C cl fp) { dx with M0 := m } ifs tt ft)
    (hk : ∀ (m : Addr → Prop) (s : Shared) (H : Hp) (C : Addr) (cl : List (Str × Addr)) (fp : List Addr), DE (Blk X scope s H C cl fp) { dx with M0 := m } kx tk fk)
    (hv : ∀ (m : Addr → Prop) (s : Shared) (H : Hp) (C : Addr) (cl : List (Str × Addr)) (fp : List Addr), DE (Blk X scope s H C cl fp) { dx with M0 := m } vx tv fv)
    (hs : ∀ x, foldedSetIterable iter X.env x = pure x := by intro _; rfl) : DE X dx (.DictComp kx vx [⟨tg, iter, ifs, 0⟩] scope pos) (tLkV (tDc wi g tt tk tv (own.map (·.2)))) (dDc fi f ft fk fv (own.map (·.2))) :=
  ⟨pe_lkV (pe_dc hc hN hi.pe ok (fun s H C cl fp => (hg dx.M0 s H C cl fp).pe) (fun s H C cl fp => (ht dx.M0 s H C cl fp).pe) (fun s H C cl fp => (hk dx.M0 s H C cl fp).pe) (fun s H C cl fp => (hv dx.M0 s H C cl fp).pe) hs), dc_go hi sub hg ht hk hv⟩
/-- y = {k: v for ..}, never changed -/
theorem ds_setDc {i : Nat} {y : Str} {py spos : Pos} (hc : X.calm = true) (hN : X.N.Nodup) (hy : X.N[i]? = some y) (hyl : X.env.scope.names.lookup y = some .local)
    (hsw : swapsWith (.DictComp kx vx [⟨tg, iter, ifs, 0⟩] scope pos) (some (.Name y py)) spos.line X.env = pure true) (hi : DI X dx tg iter wi fi) (ok : BlkOk X.N X.env.scope scope own) (sub : ∀ j ∈ o, j ∈ own.map (·.2))
    (hg : ∀ (m : Addr → Prop) (s : Shared) (H : Hp) (C : Addr) (cl : List (Str × Addr)) (fp : List Addr), DG (Blk X scope s H C cl fp) { dx with M0 := m } tg g f o)
    (ht : ∀ (m : Addr → Prop) (s : Shared) (H : Hp) (C : Addr) (cl : List (Str × Addr)) (fp : List Addr), DTs (Blk X scope s H C cl fp) { dx with M0 := m } ifs tt ft)
    (hk : ∀ (m : Addr → Prop) (s : Shared) (H : Hp) (C : Addr) (cl : List (Str × Addr)) (fp : List Addr), DE (Blk X scope s H C cl fp) { dx with M0 := m } kx tk fk)
    (hv : ∀ (m : Addr → Prop) (s : Shared) (H : Hp) (C : Addr) (cl : List (Str × Addr)) (fp : List Addr), DE (Blk X scope s H C cl fp) { dx with M0 := m } vx tv fv)
    (hs : ∀ x, foldedSetIterable iter X.env x = pure x := by intro _; rfl) :
    DS X dx (.Assign [.Name y py] (.DictComp kx vx [⟨tg, iter, ifs, 0⟩] scope pos) spos) (tLkA (tAsg (tDc wi g tt tk tv (own.map (·.2))) (gName i))) (dSet i (dDc fi f ft fk fv (own.map (·.2)))) := by
  refine ⟨ps_lkA (ps_setDc hc hN hy hyl hsw hi.pe ok (fun s H C cl fp => (hg dx.M0 s H C cl fp).pe) (fun s H C cl fp => (ht dx.M0 s H C cl fp).pe) (fun s H C cl fp => (hk dx.M0 s H C cl fp).pe) (fun s H C cl fp => (hv dx.M0 s H C cl fp).pe) hs), fun σ H δ S DD E r s q k => ?_⟩
  show tDc wi g tt tk tv (own.map (·.2)) σ H fun x H1 => gName i x σ H1 fun σ' H' => ∃ d u, H' d = some u ∧ Mut (some u) ∧ ∀ od, E.nx σ' (upd H' d (.frz od u))
  refine dc_goX hi sub hg ht hk hv σ H δ S (fun d S1 => DD.nx (put δ i d) S1) _ r s q fun p H1 ws acc S' ep h q' => ?_
  refine ⟨p, .dK ws, ep, trivial, fun od => ?_⟩
  obtain ⟨r2, x2, d2⟩ := h od
  have q' : DD.nx (put δ i (dicOf acc)) S' := q'
  rw [put_set] at q'
  exact k.nx _ _ _ S' r2 x2 ((s.ext x2).set i d2) q'
end
end DL
/-! set(..) of a list or a tuple: whatever its loop does. -/
namespace DL
open PySem PySem.Spec PyProof.Rows L2
/-- a new empty set's object -/
abbrev eset (w : World) : Obj := { cls := .type "set", dict := none, data := .set #[] 0 (.fresh 0 0 (!w.params.followText "set-order")) }
abbrev gSame : Array GenState → Array GenState → Prop := fun a b => b = a
section
variable {P : Program} {w : World} {A : Around} {E : Value → Shared → Prop} {s : Shared}
/-- what the loop that fills the set at S from the walk at S + 1 must do; Fin: what is so behind it -/
def FillsSet (P : Program) (w : World) (A : Around) (s : Shared) (l : Addr) (items : Array Value) (Fin : Shared → Prop) : Prop :=
  ∀ (A' : Around) (St : Nat → Shared → Prop) (h2 : Heap) (R : Result → Shared → Prop), A'.units ≤ A.units + 3 → WalksS P w A'.in1 (s.heap.objs.size + 1) [s.heap.objs.size + 1, l] [s.heap.objs.size + 1] gSame items.size (fun i v => items[i]? = some v) St →
    St 0 { s with heap := h2 } → (∀ b o, s.heap.get? b = some o → h2.get? b = some o) → h2.get? s.heap.objs.size = some (eset w) →
    (∀ s', Moved [s.heap.objs.size, s.heap.objs.size + 1] gSame { s with heap := h2 } s' → Fin s' → R (.ok (.ret .none)) s') →
    codeAny (model P w) A' (.builtin "set.update.loop" ⟨[.ref s.heap.objs.size, .ref (s.heap.objs.size + 1)], []⟩) R { s with heap := h2 }
set_option maxHeartbeats 3200000 in
theorem call_set_seq {l : Addr} {items : Array Value} {Q : Value → Shared → Prop} {Fin : Shared → Prop} (hh : A.handled = none) (hl : s.heap.IsList l items ∨ s.heap.IsTuple l items) (fill : FillsSet P w A s l items Fin)
    (h : ∀ (h' : Heap) (tk : Nat), Fin { s with heap := h', toks := tk } → (∀ b o, s.heap.get? b = some o → h'.get? b = some o) → Q (.ref s.heap.objs.size) { s with heap := h', toks := tk }) :
    wpAny (model P w) A (call (.type "set") [.ref l]) Q E s := by
  have m1 := F.called_set.mro
  obtain ⟨mc, mt, m1⟩ := m1
  have m2 := F.called_set.made
  have m3 := F.called_set.sub
  have m4 := F.called_set.notType
  have m5 := F.called_set.canCreate
  have m6 := F.typeCall_set_1 (.ref l)
  have m7 := F.called_set.init.lookup
  have m8 := F.called_set.init.bind (.ref s.heap.objs.size)
  have at_S : (s.heap.push (eset w)).get? s.heap.objs.size = some (eset w) := Heap.get?_push_size _ rfl
  have two : (s.heap.push (eset w)).objs.size = s.heap.objs.size + 1 := Heap.size_push ..
  have old : ∀ b o, s.heap.get? b = some o → (s.heap.push (eset w)).get? b = some o := fun b o e => Heap.get?_push_of_some _ e
  apply wpAny_call; apply codeAny_of_tree
  change wpAny _ _ (callAny (.type "set") _) _ _ _
  apply wpAny_pure
  refine And.intro (Code.quiet_builtin _ (by decide +kernel)) (codeAny_builtin F.entry_type_call ?_)
  rw [Around.under_plain (weight_type_call_type "set" [.ref l] []) rfl]
  repeat (any_goals (first | assumption | wp_step))
  refine codeAny_mono (code_set_led1 (.ref l) (E := E) (Q₁ := fun ob t => ob = Value.ref s.heap.objs.size ∧ t = { s with heap := s.heap.push (eset w) }) ⟨rfl, rfl⟩) fun r t hr => ?_
  rcases r with e | fl
  · exact hr
  rcases fl with _ | _ | _ | v
  rotate_left 3
  · obtain ⟨rfl, rfl⟩ := hr
    have isS : Shared.TypeIs { s with heap := s.heap.push (eset w) } (.ref s.heap.objs.size) "set" := ⟨_, at_S, rfl⟩
    repeat (any_goals (first | assumption | wp_step))
    refine codeAny_mono (codeAny_call_builtin (R := wants (fun v t => v = Value.none ∧ ∃ h' tk, t = { s with heap := h', toks := tk } ∧ Fin t ∧ ∀ b o, s.heap.get? b = some o → h'.get? b = some o) E) F.called_set.init.plain F.entry_set_init (check_set_init_1 isS ?_)) fun r t hr => ?_
    · have low : ∀ {o : Obj}, s.heap.get? l = some o → l ≠ s.heap.objs.size + 1 := fun e => Nat.ne_of_lt (Nat.lt_succ_of_lt (Heap.lt_size e))
      have quiet : ∀ A' : Around, A'.handled = A.handled → A'.handled = none := fun A' e => e.trans hh
      have ending : ∀ (A' : Around) (St : Nat → Shared → Prop) (it : Obj) (R : Result → Shared → Prop), A'.units ≤ A.units + 3 → WalksS P w A'.in1 (s.heap.objs.size + 1) [s.heap.objs.size + 1, l] [s.heap.objs.size + 1] gSame items.size (fun i v => items[i]? = some v) St →
          St 0 { s with heap := (s.heap.push (eset w)).push it } → (∀ h' tk, Fin { s with heap := h', toks := tk } → (∀ b o, s.heap.get? b = some o → h'.get? b = some o) → R (.ok (.ret .none)) { s with heap := h', toks := tk }) →
          codeAny (model P w) A' (.builtin "set.update.loop" ⟨[.ref s.heap.objs.size, .ref (s.heap.objs.size + 1)], []⟩) R { s with heap := (s.heap.push (eset w)).push it } := by
        intro A' St it R hu W st hR
        refine fill A' St _ R hu W st (fun b o e => Heap.get?_push_of_some _ (old b o e)) (Heap.get?_push_of_some _ at_S) fun t mv fin => ?_
        obtain ⟨h', g', d', tk', os'⟩ := t
        cases (show g' = s.gens from mv.gens)
        cases (show d' = s.drawn from mv.drawn)
        cases (show os' = s.os from mv.os)
        refine hR h' tk' fin fun b o e => ?_
        have lt := Heap.lt_size e
        exact mv.heap b o (by simp only [List.mem_cons, List.not_mem_nil, or_false, not_or]; exact ⟨Nat.ne_of_lt lt, Nat.ne_of_lt (Nat.lt_succ_of_lt lt)⟩) (Heap.get?_push_of_some _ (old b o e))
      rcases hl with hl | hl
      all_goals
        obtain ⟨⟨oc, od, odt, osl⟩, at_l, isT, ep, its⟩ := hl
        cases isT; cases its
        have lw := low at_l
        have at_l2 := old _ _ at_l
        have s1 := F.sub_list_set
        have s2 := F.sub_list_frozenset
        have s3 := F.sub_tuple_set
        have s4 := F.sub_tuple_frozenset
        have n1 : (Value.type "list" == Value.type "dict") = false := by decide
        have n2 : (Value.type "tuple" == Value.type "dict") = false := by decide
        unfold Builtin.«set.__init__» noKeywords Builtin.Frozenset.updateFrom
        generalize hPI : pyIter = PI
        wp_walk
        subst hPI
        first
          | refine wpAny_pyIter_list (items := items) ⟨_, at_l2, rfl, ep, rfl⟩ ?_
          | refine wpAny_pyIter_tuple (items := items) ⟨_, at_l2, rfl, ep, rfl⟩ ?_
        apply wpAny_bind; apply wpAny_runValue
        rw [two]
      · refine ending _ _ _ _ (by simp [Around.units]) (Walks.list (by simp [hh]) _ l lw items).toS ⟨⟨_, by rw [← two]; exact Heap.get?_push_size _ rfl, rfl, rfl⟩, (show (s.heap.push (eset w)).IsList l items from ⟨_, at_l2, rfl, ep, rfl⟩).push _⟩ fun h' tk fin kp => ?_
        exact wpAny_pure (wpAny_pure ⟨rfl, h', tk, rfl, fin, kp⟩)
      · refine ending _ _ _ _ (by simp [Around.units]) (Walks.tuple (by simp [hh]) _ l lw items).toS ⟨⟨_, by rw [← two]; exact Heap.get?_push_size _ rfl, rfl, rfl⟩, (show (s.heap.push (eset w)).IsTuple l items from ⟨_, at_l2, rfl, ep, rfl⟩).push _⟩ fun h' tk fin kp => ?_
        exact wpAny_pure (wpAny_pure ⟨rfl, h', tk, rfl, fin, kp⟩)
    · rcases r with e | fl
      · exact hr
      rcases fl with _ | _ | _ | v
      rotate_left 3
      · obtain ⟨rfl, h', tk, rfl, fin, kp⟩ := hr
        repeat (any_goals (first | assumption | wp_step))
        exact h h' tk fin kp
      all_goals exact hr.elim
  all_goals exact hr.elim
end
end DL
/-! sorted(set(..)). -/
namespace DL
open PySem PySem.Spec PyProof.Rows L2
open PySem.W (EachIs)
section
variable {P : Program} {w : World} {A : Around} {E : Value → Shared → Prop} {s : Shared}
theorem not_two {S l : Addr} (lt : l < S) : S ∉ [S + 1, l] := by
  simp only [List.mem_cons, List.not_mem_nil, or_false, not_or]
  exact ⟨Nat.ne_of_lt (Nat.lt_succ_self _), Nat.ne_of_gt lt⟩
theorem none_above {h : Heap} {b : Addr} (le : h.objs.size ≤ b) : h.get? b = none := Heap.get?_none_of_le le
theorem fills_ints {l : Addr} {items : Array Value} {ns : List Int} (lt : l < s.heap.objs.size) (its : IntsAre items.toList ns) (few : ns.length + 1 < scanBound) :
    FillsSet P w A s l items fun t => ∃ c, SetR w t.heap s.heap.objs.size (fun j => decide (j ∈ ns)) c ∧ c ≤ ns.length := by
  intro A' St h2 R _ W st kp at_S hR
  have many : items.size = ns.length := by rw [← Array.length_toList]; exact IntsAre.length its
  refine set_update_ints W s.heap.objs.size (not_two lt) ns many few (fun i v e => ?_) (items.size - 0) 0 _ rfl (Nat.zero_le _) st ⟨0, Nat.le_refl _, setR_new_at at_S⟩ fun s' c mv hc hS => hR s' mv ⟨c, hS, many ▸ hc⟩
  have hi : i < ns.length := by rw [← many]; exact (Array.getElem?_eq_some_iff.mp e).1
  obtain ⟨t, e2⟩ := IntsAre.int_at its i v (by rw [Array.getElem?_toList]; exact e)
  rw [List.getD_eq_getElem?_getD, List.getElem?_eq_getElem hi] at e2
  exact ⟨ns[i], t, List.getElem?_eq_getElem hi, e2⟩
theorem keys_le {α : Type} : ∀ {ks us : List α}, ks.Nodup → (∀ k ∈ ks, k ∈ us) → ks.length ≤ us.length
  | [], _, _, _ => Nat.zero_le _
  | k :: ks, us, nd, h => by
    have ⟨n1, n2⟩ := List.nodup_cons.mp nd
    obtain ⟨a, b, rfl⟩ := List.append_of_mem (h k List.mem_cons_self)
    have := keys_le (ks := ks) (us := a ++ b) n2 fun j m => by
      have := h j (List.mem_cons_of_mem _ m)
      have ne : j ≠ k := fun e => n1 (e ▸ m)
      simp only [List.mem_append, List.mem_cons] at this ⊢
      rcases this with h | h | h
      · exact .inl h
      · exact absurd h ne
      · exact .inr h
    simp only [List.length_append, List.length_cons] at this ⊢
    omega
/-- the loop that fills a set with tuples of ints: of any number of items, few different ones -/
theorem fill_tups {I S : Addr} {fp wr : List Addr} {G : Array GenState → Array GenState → Prop} {ks : List (Addr × List Int)} {us : List (List Int)} {Pv : Nat → Value → Prop} {St : Nat → Shared → Prop} {R : Result → Shared → Prop} {h0 : Heap}
    (W : WalksS P w A.in1 I fp wr G ks.length Pv St) (out : S ∉ fp) (few : us.length < 63) (inU : ∀ p ∈ ks, p.2 ∈ us) (vals : ∀ i v, Pv i v → ∃ p, ks[i]? = some p ∧ v = .ref p.1)
    (tups : ∀ p ∈ ks, IsT P w h0 p.2 p.1) (noS : h0.get? S = none) (noW : ∀ b ∈ wr, h0.get? b = none) (units : A.in1.units < cLine) :
    ∀ (m i : Nat) (s : Shared), i + m = ks.length → St i s → (∀ b o, h0.get? b = some o → s.heap.get? b = some o) → (∃ L es ep t, SetTR P w s.heap S L es ep t ∧ Got ks i L) →
      (∀ s' L es ep t, Moved (S :: wr) G s s' → SetTR P w s'.heap S L es ep t → Got ks ks.length L → R (.ok (.ret .none)) s') →
      codeAny (model P w) A (.builtin "set.update.loop" ⟨[.ref S, .ref I], []⟩) R s
  | 0, i, s, em, st, kp, ⟨L, es, ep, t, hS, g⟩, hR => by
    have ei : i = ks.length := em
    subst ei
    refine codeAny_builtin F.entry_set_update_loop ?_
    rw [Around.under_plainId F.plain_set_update_loop _]
    show wpAny _ A.in1 (pyNext (.ref I) >>= _) _ _ s
    refine wpAny_bind (W.done s _ _ st fun s1 mv => ?_)
    show wpAny _ A.in1 (ret Value.none) _ _ s1
    have kp1 : ∀ b o, h0.get? b = some o → s1.heap.get? b = some o := fun b o e => mv.heap b o (fun z => by rw [noW b z] at e; cases e) (kp b o e)
    exact wpAny_pure (hR s1 L es ep t (mv.mono fun b z => List.mem_cons_of_mem _ z) (hS.keep (fun o e => mv.heap S o (fun z => out (W.sub _ z)) e) fun p z => isT_keep (tups p (List.mem_of_mem_take (g.sub p z))) kp1) g)
  | m + 1, i, s, em, st, kp, ⟨L, es, ep, t, hS, g⟩, hR => by
    have lt : i < ks.length := by omega
    refine codeAny_builtin F.entry_set_update_loop ?_
    rw [Around.under_plainId F.plain_set_update_loop _]
    show wpAny _ A.in1 (pyNext (.ref I) >>= _) _ _ s
    refine wpAny_bind (W.item i s _ _ lt st fun v s1 pv st1 mv => ?_)
    obtain ⟨p, ep1, rfl⟩ := vals i v pv
    have kp1 : ∀ b o, h0.get? b = some o → s1.heap.get? b = some o := fun b o e => mv.heap b o (fun z => by rw [noW b z] at e; cases e) (kp b o e)
    have hS1 : SetTR P w s1.heap S L es ep t := hS.keep (fun o e => mv.heap S o (fun z => out (W.sub _ z)) e) fun q z => isT_keep (tups q (List.mem_of_mem_take (g.sub q z))) kp1
    have tp : IsT P w s1.heap p.2 p.1 := isT_keep (tups p (List.mem_of_getElem? ep1)) kp1
    have small : L.length ≤ us.length := by
      have := keys_le (us := us) hS.nd fun k z => by
        obtain ⟨q, zq, rfl⟩ := List.mem_map.mp z
        exact inU q (List.mem_of_mem_take (g.sub q zq))
      rwa [List.length_map] at this
    show wpAny _ A.in1 (holding [Value.ref p.1] (setAdd S (.ref p.1)) >>= _) _ _ s1
    refine wpAny_bind (wpAny_holding ?_)
    unfold setAdd
    refine wpAny_holding (wpAny_bind (wpAny_pyHash_tuple units tp ?_))
    refine add_at (s := { s1 with toks := s1.toks + (p.2.length + 1) }) hS1 tp units (by omega) fun b h2 L2 es2 ep2 t2 sb hS2 old new => ?_
    have g2 : Got ks (i + 1) L2 := by
      rcases Classical.em (p.2 ∈ L.map (·.2)) with c | c
      · exact (old c).symm ▸ g.same ep1 c
      · exact g.more ep1 (new c)
    have kp2 : ∀ b o, h0.get? b = some o → h2.get? b = some o := fun b o e => (sb.2 b fun z => by rw [z, noS] at e; cases e).trans (kp1 b o e)
    refine wpAny_pure ⟨plainId_quiet F.plain_set_update_loop _, fill_tups W out few inU vals tups noS noW units m (i + 1) _ (by omega) (W.frame _ s1 _ _ st1 (Nat.le_add_right _ _) fun b z o e => ?_) kp2 ⟨L2, es2, ep2, t2, hS2, g2⟩ fun s3 L3 es3 ep3 t3 mv3 hS3 g3 => ?_⟩
    · exact (sb.2 b fun y : b = S => out (y ▸ z)).trans e
    · refine hR s3 L3 es3 ep3 t3 (Moved.trans W.gtrans ((mv.mono fun b z => List.mem_cons_of_mem _ z).then_heap (Nat.le_add_right _ _) fun b o z e => ?_) mv3) hS3 g3
      exact (sb.2 b fun y : b = S => z (y ▸ List.mem_cons_self)).trans e
theorem fills_tups {l : Addr} {items : Array Value} (ks : List (Addr × List Int)) (us : List (List Int)) (lt : l < s.heap.objs.size) (its : items.toList = ks.map fun p => Value.ref p.1) (tups : ∀ p ∈ ks, IsT P w s.heap p.2 p.1) (few : us.length < 63) (inU : ∀ p ∈ ks, p.2 ∈ us) (hu : A.units + 4 < cLine) :
    FillsSet P w A s l items fun t => ∃ L es ep tb, SetTR P w t.heap s.heap.objs.size L es ep tb ∧ Got ks ks.length L := by
  intro A' St h2 R le W st kp at_S hR
  have many : items.size = ks.length := by
    have := congrArg List.length its
    rwa [Array.length_toList, List.length_map] at this
  have hv : ∀ i v, items[i]? = some v → ∃ p : Addr × List Int, ks[i]? = some p ∧ v = Value.ref p.1 := fun i v e => by
    rw [← Array.getElem?_toList, its, List.getElem?_map] at e
    obtain ⟨p, e1, e2⟩ := Option.map_eq_some_iff.mp e
    exact ⟨p, e1, e2.symm⟩
  rw [many] at W
  refine fill_tups W (not_two lt) few inU hv tups (none_above (Nat.le_refl _)) (fun b hb => none_above (by rw [List.mem_singleton.mp hb]; exact Nat.le_succ _))
    (by have : A'.in1.units = A'.units + 1 := rfl; omega) ks.length 0 _ (by omega) st kp ⟨[], #[], 0, _, setTR_fresh at_S, Got.zero ks⟩ fun s' L es ep tb mv hS g => hR s' mv ⟨L, es, ep, tb, hS, g⟩

/-! ### sorted of a set of tuples of ints of any lengths -/
theorem perm_map_inv {α β : Type} {f : α → β} : ∀ {L : List α} {vs : List β}, vs.Perm (L.map f) → ∃ L1 : List α, L1.Perm L ∧ vs = L1.map f := by
  intro L vs h
  generalize e : L.map f = ws at h
  induction h generalizing L with
  | nil => exact ⟨[], by rw [List.map_eq_nil_iff.mp e], rfl⟩
  | cons x _ ih =>
    cases L with
    | nil => cases e
    | cons a L =>
      rw [List.map_cons] at e
      obtain ⟨e1, e2⟩ := List.cons.inj e
      obtain ⟨L1, p1, rfl⟩ := ih e2
      exact ⟨a :: L1, p1.cons a, by rw [List.map_cons, e1]⟩
  | swap x y l =>
    match L, e with
    | a :: b :: L, e =>
      rw [List.map_cons, List.map_cons] at e
      obtain ⟨e1, e2⟩ := List.cons.inj e
      obtain ⟨e2, e3⟩ := List.cons.inj e2
      exact ⟨b :: a :: L, List.Perm.swap a b L, by rw [List.map_cons, List.map_cons, e1, e2, e3]⟩
  | trans _ _ ih1 ih2 =>
    obtain ⟨L2, p2, e2⟩ := ih2 e
    obtain ⟨L1, p1, e1⟩ := ih1 e2.symm
    exact ⟨L1, p1.trans p2, e1⟩
theorem each_map_of {α β : Type} {R : β → α → Prop} {f : α → β} : ∀ {bs : List α}, (∀ b ∈ bs, R (f b) b) → EachIs R (bs.map f) bs
  | [], _ => .nil
  | b :: bs, h => .cons (h b List.mem_cons_self) (each_map_of fun c m => h c (List.mem_cons_of_mem _ m))
theorem map_of_each {α β : Type} {f : α → β} : ∀ {vs : List β} {bs : List α}, EachIs (fun v b => v = f b) vs bs → vs = bs.map f
  | _, _, .nil => rfl
  | _, _, .cons h t => by rw [List.map_cons, h, map_of_each t]
theorem list_tri : ∀ (a b : List Int), a < b ∨ a = b ∨ b < a
  | [], [] => .inr (.inl rfl)
  | [], _ :: _ => .inl (List.nil_lt_cons _ _)
  | _ :: _, [] => .inr (.inr (List.nil_lt_cons _ _))
  | x :: a, y :: b => by
    rcases Int.lt_trichotomy x y with h | h | h
    · exact .inl (List.cons_lt_cons_iff.mpr (.inl h))
    · subst h
      rcases list_tri a b with h | h | h
      · exact .inl (List.cons_lt_cons_iff.mpr (.inr ⟨rfl, h⟩))
      · exact .inr (.inl (by rw [h]))
      · exact .inr (.inr (List.cons_lt_cons_iff.mpr (.inr ⟨rfl, h⟩)))
    · exact .inr (.inr (List.cons_lt_cons_iff.mpr (.inl h)))
theorem reads_tup {h : Heap} {ns : List Int} {b : Addr} (x : IsT P w h ns b) : ∃ as, Reads h (.ref b) (.tuple (ns.map .int)) as := by
  obtain ⟨o, its, n, e1, e2, e3, e4⟩ := x
  have all : ∀ {us : List Value} {ks : List Int}, ItemsAre (intKind P w) ks us → ∃ as, ReadsAll h us (ks.map .int) as := by
    intro us ks i
    induction i with
    | nil => exact ⟨_, .nil⟩
    | cons h1 _ ih =>
      obtain ⟨t, rfl⟩ := Value.isInt_shape h1
      obtain ⟨as, r⟩ := ih
      exact ⟨_, .cons (.int _ t) r⟩
  obtain ⟨as, r⟩ := all e4
  exact ⟨_, .tuple e1 e2 e3 r⟩
def encT (p : Addr × List Int) : PyData := .tuple (p.2.map .int)
theorem alike_encT (p q : Addr × List Int) : PySem.W.alike (encT p) (encT q) = true := by
  unfold encT
  rw [PySem.W.alike]
  exact PySem.W.alike_ints _ _
theorem depth_encT (p : Addr × List Int) : (encT p).depth = 1 := by
  unfold encT
  rw [PyData.depth, PySem.W.depth_ints]
theorem dataLe_encT (p q : Addr × List Int) : PySem.W.dataLe false encT p q = !decide (q.2 < p.2) := by
  show (!PySem.W.dataLt (encT q) (encT p)) = _
  unfold encT
  rw [PySem.W.dataLt_tuple]
  exact congrArg _ (PySem.W.dataLt_ints _ _)
set_option maxHeartbeats 2000000 in
theorem sorted_setTT {a : Addr} {L : List (Addr × List Int)} {es : Array (Int × Value)} {ep : Nat} {t : SetTable} {Q : Value → Shared → Prop} (R : SetTR P w s.heap a L es ep t) (hh : A.handled = none) (hu : A.units + 8 < cLine)
    (hQ : ∀ s' p (out : List Value) (c : Nat) (L' : List (Addr × List Int)), (∀ b o, s.heap.get? b = some o → s'.heap.get? b = some o) → s'.gens = s.gens → s'.os = s.os → s.heap.objs.size ≤ p →
      s'.heap.get? p = some (seqObj "list" out.toArray c) → out = L'.map (fun q => Value.ref q.1) → L'.Perm L → L'.Pairwise (fun q r => q.2 < r.2) → Q (.ref p) s') :
    wpAny (model P w) A (call (.builtin "sorted") [.ref a]) Q E s := by
  obtain ⟨o, ho, hex, hd⟩ := R.ob
  have few := R.few
  have size := R.size
  apply Calls.call_function_entry kind_sorted plain_sorted entry_sorted (args_sorted1 _)
  delta Builtin.«sorted»
  apply wpAny_bind (m := checkCount "sorted" 1 1 _); apply wpAny_pure
  apply wpAny_bind
  refine collect_set (A := A.in1) hh ⟨o, ho, hex.1, hd⟩ R.fits (by unfold scanBound; omega) R.tab.ris R.led fun s1 vs k1 z1 g1 o1 pm => ?_
  have rows : es.toList.map (·.2) = L.map fun q => Value.ref q.1 := by
    rw [R.rows]
    unfold rowsOf
    rw [List.map_map]
    rfl
  rw [rows] at pm
  obtain ⟨L1, pL, rfl⟩ := perm_map_inv pm
  have len : (L1.map fun q : Addr × List Int => Value.ref q.1).length ≤ sizeLine := by rw [List.length_map, pL.length_eq, sizeLine_eq]; omega
  apply wpAny_bind; refine wpAny_newList ?_ len
  apply wpAny_bind; apply wpAny_holding
  have atL : (s1.heap.push (seqObj "list" (L1.map fun q => Value.ref q.1).toArray 0)).get? s1.heap.objs.size = some (seqObj "list" (L1.map fun q => Value.ref q.1).toArray 0) := Heap.get?_push_size _ rfl
  have oldL : ∀ b u, s.heap.get? b = some u → (s1.heap.push (seqObj "list" (L1.map fun q => Value.ref q.1).toArray 0)).get? b = some u := fun b u e => Heap.get?_push_of_some _ (k1 b u e)
  have ne : ∀ b u, s.heap.get? b = some u → b ≠ s1.heap.objs.size := fun b u e => Nat.ne_of_lt (Nat.lt_of_lt_of_le (Heap.lt_size e) z1)
  have er : EachIs (fun v b => ∃ as, Reads (PySem.W.sortingHeap (s1.heap.push (seqObj "list" (L1.map fun q => Value.ref q.1).toArray 0)) s1.heap.objs.size (L1.map fun q => Value.ref q.1)) v (encT b) as) (L1.map fun q => Value.ref q.1) L1 := by
    refine each_map_of fun b hb => ?_
    exact reads_tup (isT_keep (R.tup b (pL.mem_iff.mp hb)) fun c u e => PySem.W.sortingHeap_old (ne c u e) (oldL c u e))
  have e0 : EachIs (fun v (b : Addr × List Int) => v = Value.ref b.1) (L1.map fun q => Value.ref q.1) L1 := each_map_of fun b _ => rfl
  have hal : PySem.W.AllAlike (L1.map encT) := PySem.W.AllAlike.of alike_encT
  have S := sortsAt_tups (prog := P) (w := w) (A := A.in1.in1) (s := { s1 with heap := PySem.W.sortingHeap (s1.heap.push (seqObj "list" (L1.map fun q => Value.ref q.1).toArray 0)) s1.heap.objs.size (L1.map fun q => Value.ref q.1) }) (PySem.W.each_map (R := fun v d => ∃ as, Reads (PySem.W.sortingHeap (s1.heap.push (seqObj "list" (L1.map fun q => Value.ref q.1).toArray 0)) s1.heap.objs.size (L1.map fun q => Value.ref q.1)) v d as) encT er) hal
    (fun d hd => by obtain ⟨b, _, rfl⟩ := List.mem_map.mp hd; exact ⟨_, rfl⟩) (fun d hd => by
      obtain ⟨b, _, rfl⟩ := List.mem_map.mp hd
      rw [depth_encT]
      have : A.in1.in1.units = A.units + 2 := rfl
      omega)
  refine wpAny_call_entry slot_list_sort ⟨_, atL, rfl⟩ entry_list_sort (PySem.W.list_sort_vals (s := { s1 with heap := s1.heap.push (seqObj "list" (L1.map fun q => Value.ref q.1).toArray 0) }) atL S len ⟨.none, rfl, ?_⟩) (args_list_sort _)
  have eo := PySem.W.sortVals_data false e0 er hal
  have eo := map_of_each eo
  generalize PySem.W.sortVals _ false _ _ = out at eo ⊢
  obtain ⟨c, hc⟩ := sortedHeap_at (vs := L1.map fun q => Value.ref q.1) (out := out.toArray) atL
  apply wpAny_pure
  refine ⟨_, rfl, hQ _ s1.heap.objs.size out c (L1.mergeSort (PySem.W.dataLe false encT)) (fun b u e => ?_) g1 o1 z1 hc eo ((List.mergeSort_perm _ _).trans pL) ?_⟩
  · have lt := Heap.lt_size (k1 b u e)
    show (sortedHeap _ s1.heap.objs.size _ _).get? b = some u
    rw [sortedHeap_old (Nat.ne_of_lt lt) (by rw [PyProof.Rows.size_push']; exact Nat.lt_succ_of_lt lt)]
    exact oldL b u e
  · have sp := PySem.W.sort_pairwise (PySem.W.sortLe_total (PyProof.Rows.listOrd PyProof.Rows.itemOrd) false fun b => PySem.W.keyToks (encT b)) L1
    have nd : ((L1.mergeSort (PySem.W.dataLe false encT)).map (·.2)).Nodup := (((List.mergeSort_perm L1 (PySem.W.dataLe false encT)).trans pL).map (·.2)).nodup_iff.mpr R.nd
    refine ((List.pairwise_map.mp nd).and sp).imp ?_
    rintro q r ⟨hne, hle⟩
    have hle : PySem.W.dataLe false encT q r = true := hle
    rw [dataLe_encT] at hle
    have nlt : ¬ r.2 < q.2 := by simpa using hle
    rcases list_tri q.2 r.2 with h | h | h
    · exact h
    · exact absurd h hne
    · exact absurd h nlt
end
end DL
/-! sorted(set(..)) as a rule over data. -/
namespace DL
open PySem PySem.Spec L2 Gd
def tupI (ns : List Int) : D := .tup (ns.map D.int)
section
variable {X : Cx} {dx : Dx} {K : PySem.W.Frag}
theorem seq_items {pins : List (Addr × Obj)} {σ : L2.St} {H : Hp} {s : Shared} {a : Addr} {xs : List V} (I : Inv X pins σ H s) (h : SqL X.K H a xs ∨ SqT X.K H a xs) :
    ∃ its : List Value, Vals xs its ∧ xs.length ≤ sizeLine ∧ (s.heap.IsList a its.toArray ∨ s.heap.IsTuple a its.toArray) ∧ a < s.heap.objs.size := by
  rcases h with h | h
  · obtain ⟨its, rv, pl, hz⟩ := I.list h
    obtain ⟨o, n, e, _⟩ := id pl
    exact ⟨its, rv, hz, .inl pl.isList, Heap.lt_size e⟩
  · obtain ⟨its, rv, pt, hz⟩ := I.tuple h
    obtain ⟨o, e, _⟩ := id pt
    exact ⟨its, rv, hz, .inr (show s.heap.IsTuple a its.toArray from pt), Heap.lt_size e⟩
/-- set(xs) of ints -/
def rSetI (K : PySem.W.Frag) (w : World) : List V → Hp → VK → Prop := fun vs H Q => ∃ (a : Addr) (ns : List Int), vs = [.ref a] ∧ (SqL K H a (ns.map V.int) ∨ SqT K H a (ns.map V.int)) ∧ ns.length < 1000 ∧
  ∀ p c, H p = none → (∃ ks : List Int, ks.Nodup ∧ ks.length = c ∧ ∀ k ∈ ks, k ∈ ns) → Q (.ref p) (upd H p (SetO w p (fun j => decide (j ∈ ns)) c))
theorem cr_setI (hc : X.calm = true) : CallR X (.type "set") (rSetI X.K X.w) := by
  intro pins s σ H vs us Q I r h
  obtain ⟨a, ns, rfl, hs, few, q⟩ := h
  obtain ⟨its, rv, hz, hl, lt⟩ := seq_items I hs
  rw [Vals.ref1 r]
  have hn : H s.heap.objs.size = none := I.hok.fresh (Nat.le_refl _)
  refine call_set_seq (P := X.prog) (I.ok.hd hc) hl (fills_ints (ns := ns) lt (by simpa using ints_of_vals rv) (by unfold scanBound; omega)) fun h' tk ⟨c, R, hc'⟩ kp => ?_
  refine ⟨.ref s.heap.objs.size, upd H s.heap.objs.size (SetO X.w s.heap.objs.size (fun j => decide (j ∈ ns)) c), I.laid (t' := tk) kp (Nat.le_refl _) (setO_new R), rfl, q _ c hn ?_⟩
  obtain ⟨o, es, ep, t, _, _, _, _, nd, mem, _, _, sz, _⟩ := R
  exact ⟨_, nd, by rw [List.length_map, Array.length_toList, sz], fun k m => of_decide_eq_true ((mem k).mpr m)⟩
/-- set(xs) of tuples of ints -/
def rSetT (K : PySem.W.Frag) (P : Program) (w : World) : List V → Hp → VK → Prop := fun vs H Q => ∃ (a : Addr) (ks : List (Addr × List Int)), vs = [.ref a] ∧ (SqL K H a (ks.map fun p => V.ref p.1) ∨ SqT K H a (ks.map fun p => V.ref p.1)) ∧ (∀ p ∈ ks, SqT K H p.1 (p.2.map V.int)) ∧ (∃ us : List (List Int), us.length < 63 ∧ ∀ p ∈ ks, p.2 ∈ us) ∧
  ∀ p L, H p = none → (∀ x ∈ L, x ∈ ks) → (∀ x ∈ ks, x.2 ∈ L.map (·.2)) → Q (.ref p) (upd H p (SetTO P w p L))
theorem cr_setT (hc : X.calm = true) (hu : X.A.units + 64 < cLine) : CallR X (.type "set") (rSetT X.K X.prog X.w) := by
  intro pins s σ H vs us Q I r h
  obtain ⟨a, ks, rfl, hs, hk, ⟨us, few, inU⟩, q⟩ := h
  obtain ⟨its, rv, hz, hl, lt⟩ := seq_items I hs
  rw [Vals.ref1 r]
  have hn : H s.heap.objs.size = none := I.hok.fresh (Nat.le_refl _)
  refine call_set_seq (P := X.prog) (I.ok.hd hc) hl (fills_tups ks us lt (by simpa using refs_of_vals rv) (fun p hp => I.isT (hk p hp)) few inU (by omega)) fun h' tk ⟨L, es, ep, tb, R, g⟩ kp => ?_
  refine ⟨.ref s.heap.objs.size, upd H s.heap.objs.size (SetTO X.prog X.w s.heap.objs.size L), I.laid (t' := tk) kp (Nat.le_refl _) (setTO_new R.t0), rfl, q _ L hn (fun p hp => List.mem_of_mem_take (g.sub p hp)) fun p hp => ?_⟩
  exact g.all p (by rw [List.take_length]; exact hp)
/-- sorted of it -/
def rSortTT (K : PySem.W.Frag) (P : Program) (w : World) : List V → Hp → VK → Prop := fun vs H Q => ∃ (a : Addr) (L : List (Addr × List Int)), vs = [.ref a] ∧ H a = some (SetTO P w a L) ∧ (∀ p ∈ L, SqT K H p.1 (p.2.map V.int)) ∧
  ∀ (L' : List (Addr × List Int)) (p : Addr), L'.Perm L → L'.Pairwise (fun q r => q.2 < r.2) → H p = none → Q (.ref p) (upd H p (.lst (L'.map fun q => V.ref q.1)))
theorem cr_sortTT (hc : X.calm = true) (hu : X.A.units + 64 < cLine) : CallR X (.builtin "sorted") (rSortTT X.K X.prog X.w) := by
  intro pins s σ H vs us Q I r h
  obtain ⟨a, L, rfl, ha, hk, q⟩ := h
  have R0 : SetT0 X.prog X.w s.heap a L := (I.hok a _ ha).1
  obtain ⟨es, ep, t, R⟩ := R0.full fun p hp => I.isT (hk p hp)
  rw [Vals.ref1 r]
  refine sorted_setTT R (I.ok.hd hc) (by omega) fun s' p out c L' k g o hp hg hout pm pw => ?_
  have few : (L'.map fun q => V.ref q.1).length ≤ sizeLine := by
    have := R.few
    rw [List.length_map, pm.length_eq, sizeLine_eq]
    omega
  have hn : H p = none := I.hok.fresh hp
  have rv : Vals (L'.map fun q => V.ref q.1) out := by rw [hout]; exact vals_of_refs L'
  obtain ⟨h1, g1, d1, t1, o1⟩ := s'
  cases (show g1 = s.gens from g)
  cases (show o1 = s.os from o)
  exact ⟨.ref p, upd H p (.lst (L'.map fun q => V.ref q.1)), I.call (ch := []) (Un.laid k hp hn) (I.hok.laid k hp ⟨few, out, c, rv, hg⟩) I.bare (fun _ z => nomatch z), rfl, q L' p pm pw hn⟩

/-! ### over data -/
theorem nodup_le {α : Type} : ∀ {ks us : List α}, ks.Nodup → (∀ k ∈ ks, k ∈ us) → ks.length ≤ us.length
  | [], _, _, _ => Nat.zero_le _
  | k :: ks, us, nd, h => by
    have ⟨n1, n2⟩ := List.nodup_cons.mp nd
    obtain ⟨a, b, rfl⟩ := List.append_of_mem (h k List.mem_cons_self)
    have := nodup_le (ks := ks) (us := a ++ b) n2 fun j m => by
      have := h j (List.mem_cons_of_mem _ m)
      have ne : j ≠ k := fun e => n1 (e ▸ m)
      simp only [List.mem_append, List.mem_cons] at this ⊢
      rcases this with h | h | h
      · exact .inl h
      · exact absurd h ne
      · exact .inr h
    simp only [List.length_append, List.length_cons] at this ⊢
    omega
def SetSortI (S : Sto) (d : D) (Q : D → Sto → Prop) : Prop := ∃ ns : List Int, seqOf S d = some (ns.map D.int) ∧ ns.length < 1000 ∧ (∃ us : List Int, us.length < 64 ∧ ∀ k ∈ ns, k ∈ us) ∧ ∀ es : List Int, es.Pairwise (· < ·) → (∀ k, k ∈ es ↔ k ∈ ns) → Q (.lst (es.map D.int)) S
def SetSortT (S : Sto) (d : D) (Q : D → Sto → Prop) : Prop := ∃ L : List (List Int), seqOf S d = some (L.map tupI) ∧ (∃ us : List (List Int), us.length < 63 ∧ ∀ k ∈ L, k ∈ us) ∧ ∀ es : List (List Int), es.Pairwise (· < ·) → (∀ k, k ∈ es ↔ k ∈ L) → Q (.lst (es.map tupI)) S
def fSortSet (d : D) (S : Sto) (Q : D → Sto → Prop) : Prop := SetSortI S d Q ∨ SetSortT S d Q
def dSortSet (t : DTE) : DTE := fun δ S Q => t δ S fun d S1 => fSortSet d S1 Q
def rSetA (K : PySem.W.Frag) (P : Program) (w : World) : List V → Hp → VK → Prop := fun vs H Q => rSetI K w vs H Q ∨ rSetT K P w vs H Q
def rSortA (K : PySem.W.Frag) (P : Program) (w : World) : List V → Hp → VK → Prop := fun vs H Q => rSortedSet w vs H Q ∨ rSortTT K P w vs H Q
theorem CallR.or {f : Value} {r r' : List V → Hp → VK → Prop} (h : CallR X f r) (h' : CallR X f r') : CallR X f (fun vs H Q => r vs H Q ∨ r' vs H Q) := by
  intro pins s σ H vs us Q I rv q
  rcases q with q | q
  · exact h pins s σ H vs us Q I rv q
  · exact h' pins s σ H vs us Q I rv q
theorem cr_setA (hc : X.calm = true) (hu : X.A.units + 64 < cLine) : CallR X (.type "set") (rSetA X.K X.prog X.w) := CallR.or (cr_setI hc) (cr_setT hc hu)
theorem cr_sortA (hc : X.calm = true) (hu : X.A.units + 64 < cLine) : CallR X (.builtin "sorted") (rSortA X.K X.prog X.w) := CallR.or (cr_sortedSet hc) (cr_sortTT hc hu)
def tSortSet (X : Cx) (te : TE) : TE := tCB (rSortA X.K X.prog X.w) (tCons (tCB (rSetA X.K X.prog X.w) (tCons te tNil)) tNil)
theorem DtAll.tups {M : Mm} {H : Hp} : ∀ {vs : List V} {L : List (List Int)}, DtAll K M H vs (L.map tupI) → ∃ ks : List (Addr × List Int), ks.map (fun p => V.ref p.1) = vs ∧ ks.map (·.2) = L ∧ (∀ p ∈ ks, SqT K H p.1 (p.2.map V.int)) ∧ ∀ p ∈ ks, Dt K M H (.ref p.1) (tupI p.2)
  | _, [], h => by
    cases h
    exact ⟨[], rfl, rfl, (fun p m => nomatch m), (fun p m => nomatch m)⟩
  | _, ns :: L, h => by
    cases h with
    | cons h t =>
      obtain ⟨ks, e1, e2, e3, e4⟩ := DtAll.tups t
      obtain ⟨a, xs, rfl, hs, al⟩ := Dt.sqT (ds := ns.map D.int) h
      refine ⟨(a, ns) :: ks, by rw [List.map_cons, e1], by rw [List.map_cons, e2], fun p m => ?_, fun p m => ?_⟩
      · rcases List.mem_cons.mp m with rfl | m
        · rw [Dt.ints_of al] at hs
          exact hs
        · exact e3 p m
      · rcases List.mem_cons.mp m with rfl | m
        · exact h
        · exact e4 p m
theorem DtAll.ofKeys {M : Mm} {H : Hp} : ∀ {ks : List (Addr × List Int)}, (∀ p ∈ ks, Dt K M H (.ref p.1) (tupI p.2)) → DtAll K M H (ks.map fun p => V.ref p.1) ((ks.map (·.2)).map tupI)
  | [], _ => .nil
  | p :: ks, h => .cons (h p List.mem_cons_self) (DtAll.ofKeys fun q m => h q (List.mem_cons_of_mem _ m))
theorem sortSet_go {te : TE} {fa : DTE} (go : ∀ σ H δ S Q Qh, HR X.K dx H S → SR X.K dx σ H δ S → fa δ S Q → ThE X.K dx H S Q Qh → te σ H Qh) :
    ∀ σ H δ S Q Qh, HR X.K dx H S → SR X.K dx σ H δ S → dSortSet fa δ S Q → ThE X.K dx H S Q Qh → tSortSet X te σ H Qh := by
  intro σ H δ S Q Qh r s t k
  refine go σ H δ S _ _ r s t fun v H1 d S1 r1 x1 d1 t1 => ?_
  rcases t1 with ⟨ns, e, few, ⟨us, uf, um⟩, t1⟩ | ⟨L, e, ⟨us, few, inU⟩, t1⟩
  · obtain ⟨a, vs, rfl, hs, al⟩ := seq_of r1 d1 e
    rw [Dt.ints_of al] at hs
    refine .inl ⟨a, ns, rfl, hs, few, fun p c n hc => .inl ⟨p, _, c, rfl, upd_same, by obtain ⟨ks, nd, rfl, sub⟩ := hc; have := nodup_le nd fun k m => um k (sub k m); omega, fun es q sorted mem len n2 => ?_⟩⟩
    have sm1 : Same H1 (upd H1 p (SetO X.w p (fun j => decide (j ∈ ns)) c)) := same_new n
    have r2 := (r1.same sm1)
    obtain ⟨r3, x3, d3⟩ := new_lst (ds := es.map D.int) r2 n2 (DtAll.ints es)
    exact k _ _ _ S1 r3 ((x1.trans (Ext.same sm1)).trans x3) d3 (t1 es sorted fun j => (mem j).trans (by simp))
  · obtain ⟨a, vs, rfl, hs, al⟩ := seq_of r1 d1 e
    obtain ⟨ks, rfl, rfl, hk, hd⟩ := DtAll.tups al
    refine .inr ⟨a, ks, rfl, hs, hk, ⟨us, few, fun p m => inU _ (List.mem_map.mpr ⟨p, m, rfl⟩)⟩, fun p L n sub all => .inr ⟨p, L, rfl, upd_same, fun x m => ?_, fun L' q pm pw n2 => ?_⟩⟩
    · have := hk x (sub x m)
      rcases this with h | h
      · rcases h with h | ⟨o, h⟩
        · exact .inl (.inl ((same_new n) _ _ h))
        · exact .inl (.inr ⟨o, (same_new n) _ _ h⟩)
      · exact .inr h
    · have sm1 : Same H1 (upd H1 p (SetTO X.prog X.w p L)) := same_new n
      have r2 := (r1.same sm1)
      have al2 := DtAll.ofKeys (ks := L') fun x m => (hd x (sub x (pm.mem_iff.mp m))).ext (Ext.same sm1)
      obtain ⟨r3, x3, d3⟩ := new_lst r2 n2 al2
      refine k _ _ _ S1 r3 ((x1.trans (Ext.same sm1)).trans x3) d3 (t1 (L'.map (·.2)) (List.pairwise_map.mpr pw) fun j => ?_)
      constructor
      · intro m
        obtain ⟨x, mx, rfl⟩ := List.mem_map.mp m
        exact List.mem_map.mpr ⟨x, sub x (pm.mem_iff.mp mx), rfl⟩
      · intro m
        obtain ⟨x, mx, rfl⟩ := List.mem_map.mp m
        obtain ⟨y, my, e2⟩ := List.mem_map.mp (all x mx)
        exact List.mem_map.mpr ⟨y, pm.mem_iff.mpr my, e2⟩
/-- sorted(set(e)) -/
theorem de_sortSet {e st : Expr} {te : TE} {fa : DTE} (h : DE X dx e te fa) (hp : PE X e te → PE X st (tSortSet X te)) : DE X dx st (tSortSet X te) (dSortSet fa) := ⟨hp h.pe, sortSet_go h.go⟩
end
end DL
/-! sorted(xs, key=len) of tuples. -/
namespace DL
open PySem PySem.Spec L2 Gd
open PySem.W (EachIs)
theorem each_refs : ∀ {ks : List (Addr × Nat)} {us : List Value}, Vals (ks.map fun p => V.ref p.1) us → EachIs (fun u (p : Addr × Nat) => u = Value.ref p.1) us ks
  | [], _, h => by cases h; exact .nil
  | p :: ks, _, h => by
    cases h with
    | cons h t => exact .cons h (each_refs t)
theorem vals_refs : ∀ {ks : List (Addr × Nat)} {us : List Value}, EachIs (fun u (p : Addr × Nat) => u = Value.ref p.1) us ks → Vals (ks.map fun p => V.ref p.1) us
  | _, _, .nil => .nil
  | _, _, .cons h t => .cons h (vals_refs t)
/-- p.2 is how long the tuple at p.1 is -/
def rSortLen (K : PySem.W.Frag) : List V → Hp → VK → Prop := fun vs H Q => ∃ (a : Addr) (ks : List (Addr × Nat)), vs = [.ref a] ∧ SqL K H a (ks.map fun p => V.ref p.1) ∧ (∀ p ∈ ks, ∃ ys, SqT K H p.1 ys ∧ ys.length = p.2) ∧
  ∀ q, H q = none → Q (.ref q) (upd H q (.lst ((ks.mergeSort fun p r => decide (p.2 ≤ r.2)).map fun p => V.ref p.1)))
def tSortLen (K : PySem.W.Frag) (te : TE) : TE := tCB (rSortLen K) (tCons te tNil)
section
variable {X : Cx} {dx : Dx} {K : PySem.W.Frag}
theorem call_sortLen (hu : X.A.units + 64 < cLine) {pins : List (Addr × Obj)} {s : Shared} {σ : L2.St} {H : Hp} {vs : List V} {us : List Value} {Q : VK} (I : Inv X pins σ H s) (r : Vals vs us) (h : rSortLen X.K vs H Q) :
    wpAny (model X.prog X.w) X.A (call (.builtin "sorted") us [(Str.ofString "key", .builtin "len")]) (EP X pins σ Q) X.xe s := by
  obtain ⟨a, ks, rfl, hs, hk, q⟩ := h
  obtain ⟨its, rv, pl, hz⟩ := I.list hs
  rw [Vals.ref1 r]
  have e := each_refs rv
  have len : ks.length = its.length := e.length.symm
  rw [List.length_map] at hz
  refine PySem.W.sorted_key_data (b := false) (fun p : Addr × Nat => .int (p.2 : Int)) pl.isList e (fun d hd d' hd' => ?_) (.inr fun d hd => ?_) hz (fun p _ => ?_) (PyProof.Rows.ksk_s1 _ _) (fun _ => PyProof.Rows.ksk_l1 _ _) (fun _ => PyProof.Rows.ksk_t4 _ _) (fun v p hv hp h tk keep => ?_) fun out c h' tk keep fresh at_ l eo => ?_
  · obtain ⟨_, _, rfl⟩ := List.mem_map.mp hd
    obtain ⟨_, _, rfl⟩ := List.mem_map.mp hd'
    rfl
  · obtain ⟨_, _, rfl⟩ := List.mem_map.mp hd
    exact ⟨(fun z => nomatch z), fun xs z => nomatch z⟩
  · have : (PyData.int (p.2 : Int)).depth = 0 := by rw [PyData.depth]
    omega
  · obtain ⟨ys, ht, el⟩ := hk p hp
    obtain ⟨tits, tr, tp, tz⟩ := I.tuple ht
    obtain ⟨o, eo, ec, n, ed⟩ := tp
    have hl := tr.length
    have two := line63
    subst hv
    refine PyProof.Rows.len_tuple (s := { s with heap := h, toks := tk }) (items := tits.toArray) ⟨o, keep _ _ eo, ec, n, ed⟩ (by simp only [List.size_toArray]; omega) ?_
    refine ⟨h, tk + 2, rfl, fun b o e => e, ?_⟩
    have ez : ((tits.toArray.size : Nat) : Int) = (p.2 : Int) := by simp only [List.size_toArray]; omega
    rw [ez]
    exact .int _ _
  · have hn : H (s.heap.objs.size + 1) = none := I.hok.fresh (Nat.le_succ _)
    have e2 : PySem.W.dataLe false (fun p : Addr × Nat => .int (p.2 : Int)) = fun p r => decide (p.2 ≤ r.2) := by
      rw [PySem.W.dataLe_int]
      funext p r
      exact decide_eq_decide.mpr Int.ofNat_le
    rw [e2] at eo
    refine ⟨.ref (s.heap.objs.size + 1), upd H (s.heap.objs.size + 1) (.lst ((ks.mergeSort fun p r => decide (p.2 ≤ r.2)).map fun p => V.ref p.1)), I.laid (t' := tk) keep (Nat.le_succ _) ⟨?_, out, c, vals_refs eo, at_⟩, rfl, q _ hn⟩
    rw [List.length_map, (List.mergeSort_perm _ _).length_eq]
    exact hz
theorem pe_sortLen {e : Expr} {te : TE} {p p2 p3 pos : Pos} (hu : X.A.units + 64 < cLine) (h : PE X e te) (g1 : Gl X "sorted") (m1 : X.mg "sorted" = none) (g2 : Gl X "len") (m2 : X.mg "len" = none)
    (he : backTo pos (starEach [e] X.env) = (false, eval e X.env) :: backTo pos (starEach [] X.env) := by rfl) (hpl : (backTo pos (starEach [e] X.env)).any (·.1) = false := by rfl)
    (hs : starEach [e] X.env = (false, eval e X.env) :: starEach [] X.env := by rfl) :
    PE X (.Call (.Name "sorted" p) [e] [⟨some "key", .Name "len" p2, p3⟩] pos) (tSortLen X.K te) := by
  refine ⟨fun pins s σ H Q I w => ?_⟩
  refine wpAny_Call_Name_kw (ld_blt I g1 m1 rfl ?_ (by decide) (by decide))
  have ha : PA X [e] (tCons te tNil) := pa_cons h pa_nil hs
  refine PyProof.Rows.callWith_kw (thn (ha.run pos pins s σ H (fun vs H1 => rSortLen X.K vs H1 Q) I w) fun us s1 ⟨vs, H1, I1, r1, q1⟩ => ?_) he hpl
  show wpAny _ _ (evalAll [(do let v ← eval (.Name "len" p2) X.env; standAt pos; pure v)]) _ _ s1
  refine wpAny_evalAll_cons (wpAny_bind (ld_blt I1 g2 m2 rfl (wpAny_bind (wpAny_standAt (wpAny_pure (wpAny_evalAll_nil ?_)))) (by decide) (by decide)))
  exact call_sortLen hu I1 r1 q1
/-! ### over data -/
def lenT : D → Option Nat
  | .tup ds => some ds.length
  | _ => none
def lenD (d : D) : Nat := (lenT d).getD 0
def fSortLen (d : D) (S : Sto) (Q : D → Sto → Prop) : Prop := match d with
  | .lst ds => (∀ x ∈ ds, (lenT x).isSome = true) ∧ Q (.lst (ds.mergeSort fun x y => decide (lenD x ≤ lenD y))) S
  | _ => False
def dSortLen (t : DTE) : DTE := fun δ S Q => t δ S fun d S1 => fSortLen d S1 Q
theorem DtAll.lens {M : Mm} {H : Hp} : ∀ {vs : List V} {ds : List D}, DtAll K M H vs ds → (∀ x ∈ ds, (lenT x).isSome = true) →
    ∃ ks : List ((Addr × Nat) × D), ks.map (fun p => V.ref p.1.1) = vs ∧ ks.map (·.2) = ds ∧ (∀ p ∈ ks, (∃ ys, SqT K H p.1.1 ys ∧ ys.length = p.1.2) ∧ p.1.2 = lenD p.2 ∧ Dt K M H (.ref p.1.1) p.2)
  | _, _, .nil, _ => ⟨[], rfl, rfl, fun p m => nomatch m⟩
  | _, d :: ds, .cons h t, ok => by
    obtain ⟨ks, e1, e2, e3⟩ := DtAll.lens t fun x m => ok x (List.mem_cons_of_mem _ m)
    have o1 := ok d List.mem_cons_self
    cases d with
    | tup xs =>
      obtain ⟨a, ys, rfl, hs, al⟩ := h.sqT
      refine ⟨((a, xs.length), .tup xs) :: ks, by rw [List.map_cons, e1], by rw [List.map_cons, e2], fun p m => ?_⟩
      rcases List.mem_cons.mp m with rfl | m
      · exact ⟨⟨ys, hs, al.length⟩, rfl, h⟩
      · exact e3 p m
    | _ => cases o1
theorem sortLen_go {te : TE} {fa : DTE} (go : ∀ σ H δ S Q Qh, HR X.K dx H S → SR X.K dx σ H δ S → fa δ S Q → ThE X.K dx H S Q Qh → te σ H Qh) :
    ∀ σ H δ S Q Qh, HR X.K dx H S → SR X.K dx σ H δ S → dSortLen fa δ S Q → ThE X.K dx H S Q Qh → tSortLen X.K te σ H Qh := by
  intro σ H δ S Q Qh r s t k
  refine go σ H δ S _ _ r s t fun v H1 d S1 r1 x1 d1 t1 => ?_
  cases d with
  | lst ds =>
    obtain ⟨ok, t1⟩ := t1
    obtain ⟨a, vs, rfl, _, eh, al⟩ := d1.sqL
    obtain ⟨ks, rfl, rfl, hk⟩ := al.lens ok
    refine ⟨a, ks.map (·.1), rfl, by rw [List.map_map]; exact SqL.of eh, fun p m => ?_, fun q n => ?_⟩
    · obtain ⟨x, mx, rfl⟩ := List.mem_map.mp m
      exact (hk x mx).1
    · have e1 := PySem.W.sort_maps (r := fun x y : (Addr × Nat) × D => decide (x.1.2 ≤ y.1.2)) (s := fun p r : Addr × Nat => decide (p.2 ≤ r.2)) (l := ks) (fun x => x.1) (fun _ _ _ _ => rfl)
      have e2 := PySem.W.sort_maps (r := fun x y : (Addr × Nat) × D => decide (x.1.2 ≤ y.1.2)) (s := fun x y => decide (lenD x ≤ lenD y)) (l := ks) (fun x => x.2) (fun a ha b hb => by rw [(hk a ha).2.1, (hk b hb).2.1])
      have al2 : DtAll X.K (Mu dx S1) H1 ((ks.mergeSort fun x y => decide (x.1.2 ≤ y.1.2)).map fun p => V.ref p.1.1) ((ks.mergeSort fun x y => decide (x.1.2 ≤ y.1.2)).map (·.2)) := by
        have := DtAll.pairs (K := X.K) (M := Mu dx S1) (H := H1) (bs := (ks.mergeSort fun x y => decide (x.1.2 ≤ y.1.2)).map fun p => (V.ref p.1.1, p.2)) fun b hb => by
          obtain ⟨x, mx, rfl⟩ := List.mem_map.mp hb
          exact (hk x ((List.mergeSort_perm _ _).mem_iff.mp mx)).2.2
        rw [List.map_map, List.map_map] at this
        exact this
      rw [← e1, List.map_map]
      rw [← e2] at t1
      obtain ⟨r2, x2, d2⟩ := new_lst r1 n al2
      exact k _ _ _ S1 r2 (x1.trans x2) d2 t1
  | _ => exact t1.elim
theorem de_sortLen {e st : Expr} {te : TE} {fa : DTE} (K : PySem.W.Frag) (h : DE X dx e te fa) (hp : PE X e te → PE X st (tSortLen X.K te)) (hK : X.K = K := by rfl) : DE X dx st (tSortLen K te) (dSortLen fa) := by
  subst hK
  exact ⟨hp h.pe, sortLen_go h.go⟩
end
end DL
namespace DL
open PySem PySem.Spec L2 Gd
section
variable {X : Cx} {dx : Dx}
theorem de_sortLen_ (K : PySem.W.Frag) {e : Expr} {te : TE} {fa : DTE} {p p2 p3 pos : Pos} (hu : X.A.units + 64 < cLine) (h : DE X dx e te fa) (g1 : Gl X "sorted") (m1 : X.mg "sorted" = none) (g2 : Gl X "len") (m2 : X.mg "len" = none)
    (he : backTo pos (starEach [e] X.env) = (false, eval e X.env) :: backTo pos (starEach [] X.env) := by rfl) (hpl : (backTo pos (starEach [e] X.env)).any (·.1) = false := by rfl)
    (hs : starEach [e] X.env = (false, eval e X.env) :: starEach [] X.env := by rfl) (hK : X.K = K := by rfl) :
    DE X dx (.Call (.Name "sorted" p) [e] [⟨some "key", .Name "len" p2, p3⟩] pos) (tSortLen K te) (dSortLen fa) :=
  de_sortLen K h (fun h1 => pe_sortLen hu h1 g1 m1 g2 m2 he hpl hs) hK
theorem de_sortSet_ (K : PySem.W.Frag) (P : Program) (w : World) {e st : Expr} {te : TE} {fa : DTE} (h : DE X dx e te fa)
    (hp : PE X e te → PE X st (tCB (rSortA K P w) (tCons (tCB (rSetA K P w) (tCons te tNil)) tNil))) (h1 : X.K = K := by rfl) (h2 : X.prog = P := by rfl) (h3 : X.w = w := by rfl) :
    DE X dx st (tCB (rSortA K P w) (tCons (tCB (rSetA K P w) (tCons te tNil)) tNil)) (dSortSet fa) := by
  subst h1 h2 h3
  exact de_sortSet h hp
theorem cr_setA_ (K : PySem.W.Frag) (P : Program) (w : World) (hc : X.calm = true) (hu : X.A.units + 64 < cLine) (h1 : X.K = K := by rfl) (h2 : X.prog = P := by rfl) (h3 : X.w = w := by rfl) : CallR X (.type "set") (rSetA K P w) := by
  subst h1 h2 h3
  exact cr_setA hc hu
theorem cr_sortA_ (K : PySem.W.Frag) (P : Program) (w : World) (hc : X.calm = true) (hu : X.A.units + 64 < cLine) (h1 : X.K = K := by rfl) (h2 : X.prog = P := by rfl) (h3 : X.w = w := by rfl) : CallR X (.builtin "sorted") (rSortA K P w) := by
  subst h1 h2 h3
  exact cr_sortA hc hu
end
end DL
/-! One's own lists lent to a def that only reads them. -/
namespace DL
open PySem PySem.Spec L2 Gd
/-- nothing in it may be a list -/
def noL : D → Bool
  | .non => true
  | .bl _ => true
  | .int _ => true
  | .str _ => true
  | .tup xs => noLs xs
  | .lst _ => false
  | .fls _ => false
  | .adr _ => true
  | .dic _ _ => false
  | .dlt _ _ => false
  | .obj _ _ _ => false
where noLs : List D → Bool
  | [] => true
  | x :: xs => noL x && noLs xs
section
variable {K : PySem.W.Frag} {dx : Dx} {H : Hp} {S : Sto}
/-- what may change while one's own lists are lent -/
def Lent (dx : Dx) (S : Sto) (b : Addr) : Prop := dx.M0 b ∨ dx.hand b ∨ (b ∈ S.map (·.1) ∧ getS S b = none)
theorem Lent.mu {b : Addr} (h : Lent dx S b) : (Mu dx S).mu b := by
  rcases h with h | h | h
  · exact .inl h
  · exact .inr (.inl h)
  · exact .inr (.inr h.1)
theorem lent_arg (r : HR K dx H S) {v : V} {d : D} (h : Dt K (Mu dx S) H v d) : Dt K (Fo (Lent dx S)) H v (frz S d) := by
  have le : Ext (Mu dx S) H (Fo (Lent dx S)) H := Ext.less (fun b z => (z.elim id False.elim : Lent dx S b).mu) (fun b z => z.elim)
  cases d with
  | adr p =>
    cases hg : getS S p with
    | none =>
      show Dt K _ H v (frzO p (getS S p))
      rw [hg]
      exact h.ext le
    | some xs =>
      show Dt K _ H v (frzO p (getS S p))
      rw [hg]
      cases h
      have m := getS_mem hg
      have mp : p ∈ S.map (·.1) := List.mem_map.mpr ⟨_, m, rfl⟩
      obtain ⟨vs, e, a⟩ := r.getL hg
      refine .lst ?_ e (a.ext le)
      rintro ((z | z | z) | z)
      · exact r.own_not mp z
      · exact r.own_not mp (r.hm _ z)
      · rw [hg] at z
        cases z.2
      · exact z
  | _ => exact h.ext le
theorem lent_args (r : HR K dx H S) : ∀ {vs : List V} {ds : List D}, DtAll K (Mu dx S) H vs ds → DtAll K (Fo (Lent dx S)) H vs (ds.map (frz S))
  | _, _, .nil => .nil
  | _, _, .cons h t => .cons (lent_arg r h) (lent_args r t)
mutual
theorem lent_back {H' : Hp} (hk : ∀ b xs, getS S b = some xs → ∃ vs, H' b = some (.lst vs)) : ∀ {v : V} {d : D}, Dt K (Fo (Lent dx S)) H' v d → noL d = true → Dt K (Mu dx S) H' v d
  | _, _, .non, _ => .non
  | _, _, .bl b, _ => .bl b
  | _, _, .int i, _ => .int i
  | _, _, .str x, _ => .str x
  | _, _, .tup (a := a) n h al, q => by
    refine .tup ?_ h (lent_backs hk al q)
    rintro (z | z | z)
    · exact n (.inl (.inl z))
    · exact n (.inl (.inr (.inl z)))
    · cases hg : getS S a with
      | none => exact n (.inl (.inr (.inr ⟨z, hg⟩)))
      | some xs =>
        obtain ⟨vs, e⟩ := hk a xs hg
        rcases h with h | ⟨o, h⟩
        · rw [e] at h; cases h
        · rw [e] at h; cases h
  | _, _, .ktup h al, q => .ktup h (lent_backs hk al q)
  | _, _, .adr a, _ => .adr a
  | _, _, .lst _ _ _, q => (Bool.false_ne_true q).elim
  | _, _, .fls _ _, q => (Bool.false_ne_true q).elim
  | _, _, .kfls _, q => (Bool.false_ne_true q).elim
  | _, _, .dic _ _ _ _, q => (Bool.false_ne_true q).elim
  | _, _, .dlt _ _ _ _, q => (Bool.false_ne_true q).elim
  | _, _, .obj _ _ _ _ _, q => (Bool.false_ne_true q).elim
  | _, _, .ztup _ _ _, q => (Bool.false_ne_true q).elim
theorem lent_backs {H' : Hp} (hk : ∀ b xs, getS S b = some xs → ∃ vs, H' b = some (.lst vs)) : ∀ {vs : List V} {ds : List D}, DtAll K (Fo (Lent dx S)) H' vs ds → noL.noLs ds = true → DtAll K (Mu dx S) H' vs ds
  | _, _, .nil, _ => .nil
  | _, _, .cons h t, q => by
    have q : (noL _ && noL.noLs _) = true := q
    rw [Bool.and_eq_true] at q
    exact .cons (lent_back hk h q.1) (lent_backs hk t q.2)
end
def dCallL (spec : DSpec) (fa : DTA) : DTE := fun δ S Q => fa δ S fun ds S1 => spec (ds.map (frz S1)) fun d => noL d = true ∧ Q d S1
theorem spdL_go {hand : Addr → Prop} {J : Hp → Prop} {vs : List V} {ds : List D} {spec : DSpec} {Q : D → Sto → Prop} {Qh : VK} {E : XK} (r : HR K dx H S) (a : DtAll K (Mu dx S) H vs ds)
    (h : (hand = noHand ∧ J = noJ) ∨ (hand = dx.hand ∧ J = dx.J)) (t : spec (ds.map (frz S)) fun d => noL d = true ∧ Q d S) (kk : ThE K dx H S Q Qh) : spD K hand J spec vs H Qh E := by
  have own : ∀ b xs, getS S b = some xs → ∃ vs, H b = some (.lst vs) := fun b xs e => let ⟨vs, e, _⟩ := r.getL e; ⟨vs, e⟩
  rcases h with ⟨rfl, rfl⟩ | ⟨rfl, rfl⟩
  · refine ⟨Lent dx S, _, _, fun b z => r.mu_live b z.mu, fun b z => z.elim, fun _ _ _ _ => trivial, trivial, lent_args r a, t, fun v H' d kp lv j hd q => ?_⟩
    have sm : Same H H' := fun b o e => kp b o e fun z => z
    exact kk v H' d S (r.same sm) (Ext.same sm) (lent_back (fun b xs e => let ⟨vs, e⟩ := own b xs e; ⟨vs, sm _ _ e⟩) hd q.1) q.2
  · refine ⟨Lent dx S, _, _, fun b z => r.mu_live b z.mu, fun b z => .inr (.inl z), r.stab, r.j, lent_args r a, t, fun v H' d kp lv j hd q => ?_⟩
    have xx : Ext (Mu dx S) H (Mu dx S) H' := ⟨fun b o n e => kp b o e fun z => n (.inl z), fun b m n => absurd m n, fun b m n => absurd m n⟩
    have nh : ∀ {b : Addr}, b ∈ S.map (·.1) → ¬ dx.hand b := fun m z => (r.own _ m).2 (r.hm _ z)
    refine kk v H' d S ⟨fun q xs m => ?_, r.nd, fun b m => lv b (.inl m), r.own, fun b o e n => kp b o (r.keep b o e n) n, j, r.stab, r.hm⟩ xx (lent_back (fun b xs e => ?_) hd q.1) q.2
    · obtain ⟨ws, e, al⟩ := r.sto q xs m
      exact ⟨ws, kp q _ e (nh (List.mem_map.mpr ⟨_, m, rfl⟩)), al.ext xx⟩
    · obtain ⟨vs, e2⟩ := own b xs e
      exact ⟨vs, kp b _ e2 (nh (List.mem_map.mpr ⟨_, getS_mem e, rfl⟩))⟩
end
section
variable {X : Cx} {dx : Dx} {k : Nat} {f c d : Addr} {fd : FuncData} {ps : List Str} {x : Str} {p pos : Pos} {e : Expr} {es : List Expr} {ta : TA} {fa : DTA} {spec : DSpec} {specR : Addr → DSpec}
theorem de_callL_ (K : PySem.W.Frag) (F : FnG X.prog X.w K X.mg X.base CX0 k f fd ps (spP K spec)) (room : Room k X.A) (guard : X.A.guards = some [])
    (hg : Gl X x) (hm : X.mg x = some (.ref f)) (kp : PySem.W.keepIn K (.ref f) = true) (hb : Binds K fd ps []) (ha : DA X dx (e :: es) ta fa)
    (hdb : (x == ("__debug__" : Str)) = false := by decide)
    (he : starEach (e :: es) X.env = (false, eval e X.env) :: starEach es X.env := by rfl)
    (hpl : (backTo pos (starEach es X.env)).any (·.1) = false := by rfl) (hK : X.K = K := by rfl) :
    DE X dx (.Call (.Name x p) (e :: es) [] pos) (tCall (spP K spec) [] (fun _ _ _ => False) ta) (dCallL spec fa) := by
  subst hK
  refine ⟨pe_callG F room guard hg hm kp hb .nil pass0 ha.pe hdb he hpl, fun σ H δ S Q Qh r s t kk => ?_⟩
  refine ha.go σ H δ S _ _ r s t fun vs H1 ds S1 r1 x1 d1 t1 => ?_
  rw [List.append_nil]
  exact spdL_go r1 d1 (.inl ⟨rfl, rfl⟩) t1 (kk.on x1)
theorem de_callRL_ (K : PySem.W.Frag) (F : FnG X.prog X.w K X.mg X.base CX0 k f fd ps (spR K specR)) (room : Room k X.A) (guard : X.A.guards = some [])
    (hg : Gl X x) (hm : X.mg x = some (.ref f)) (kp : PySem.W.keepIn K (.ref f) = true) (hb : Binds K fd ps []) (h1 : dx.hand = handR c d) (h2 : dx.J = RandOk c d) (ha : DA X dx (e :: es) ta fa)
    (hdb : (x == ("__debug__" : Str)) = false := by decide)
    (he : starEach (e :: es) X.env = (false, eval e X.env) :: starEach es X.env := by rfl)
    (hpl : (backTo pos (starEach es X.env)).any (·.1) = false := by rfl) (hK : X.K = K := by rfl) :
    DE X dx (.Call (.Name x p) (e :: es) [] pos) (tCall (spR K specR) [] (fun _ _ _ => False) ta) (dCallL (specR c) fa) := by
  subst hK
  refine ⟨pe_callG F room guard hg hm kp hb .nil pass0 ha.pe hdb he hpl, fun σ H δ S Q Qh r s t kk => ?_⟩
  refine ha.go σ H δ S _ _ r s t fun vs H1 ds S1 r1 x1 d1 t1 => ?_
  rw [List.append_nil]
  exact ⟨c, d, spdL_go r1 d1 (.inr ⟨h1.symm, h2.symm⟩) t1 (kk.on x1)⟩
end
end DL
/-! A list of one's own while an expression only reads it. -/
namespace DL
open PySem PySem.Spec L2 Gd
section
variable {K : PySem.W.Frag} {M M' : Mm} {H : Hp}
mutual
theorem loan_back {p : Addr} {vs : List V} (hp : H p = some (.lst vs)) (hm : ∀ b, M'.mu b → M.mu b ∨ b = p) : ∀ {v : V} {d : D}, Dt K M H v d → noL d = true → Dt K M' H v d
  | _, _, .non, _ => .non
  | _, _, .bl b, _ => .bl b
  | _, _, .int i, _ => .int i
  | _, _, .str x, _ => .str x
  | _, _, .tup n h al, q => by
    refine .tup (fun z => ?_) h (loan_backs hp hm al q)
    rcases hm _ z with z | z
    · exact n z
    · subst z
      rcases h with h | ⟨o, h⟩
      · rw [hp] at h; cases h
      · rw [hp] at h; cases h
  | _, _, .ktup h al, q => .ktup h (loan_backs hp hm al q)
  | _, _, .adr a, _ => .adr a
  | _, _, .lst _ _ _, q => (Bool.false_ne_true q).elim
  | _, _, .fls _ _, q => (Bool.false_ne_true q).elim
  | _, _, .kfls _, q => (Bool.false_ne_true q).elim
  | _, _, .dic _ _ _ _, q => (Bool.false_ne_true q).elim
  | _, _, .dlt _ _ _ _, q => (Bool.false_ne_true q).elim
  | _, _, .obj _ _ _ _ _, q => (Bool.false_ne_true q).elim
  | _, _, .ztup _ _ _, q => (Bool.false_ne_true q).elim
theorem loan_backs {p : Addr} {vs : List V} (hp : H p = some (.lst vs)) (hm : ∀ b, M'.mu b → M.mu b ∨ b = p) : ∀ {us : List V} {ds : List D}, DtAll K M H us ds → noL.noLs ds = true → DtAll K M' H us ds
  | _, _, .nil, _ => .nil
  | _, _, .cons h t, q => by
    have q : (noL _ && noL.noLs _) = true := q
    rw [Bool.and_eq_true] at q
    exact .cons (loan_back hp hm h q.1) (loan_backs hp hm t q.2)
end
end
def celN : Cel → Bool
  | .l xs => noL.noLs xs
  | .d kvs => noL.noLs (kvs.map (·.2))
/-- the list in slot i is only read while t is found -/
def dLoan (i : Nat) (t : DTE) : DTE := fun δ S Q => match gt δ i with
  | some (.adr p) => opt (getS S p) fun ds => t (put δ i (.lst ds)) (delS S p) fun d S1 => noL d = true ∧ (S1.all fun q => celN q.2) = true ∧ Q d ((p, .l ds) :: S1)
  | _ => False
section
variable {X : Cx} {dx : Dx} {e : Expr} {te : TE} {t : DTE}
theorem mu_back {dx : Dx} {p : Addr} {ds : List D} {S1 : Sto} : ∀ b, (Mu dx ((p, .l ds) :: S1)).mu b → (Mu dx S1).mu b ∨ b = p := by
  rintro b (z | z | z)
  · exact .inl (.inl z)
  · exact .inl (.inr (.inl z))
  · rcases List.mem_cons.mp z with z | z
    · exact .inr z
    · exact .inl (.inr (.inr z))
theorem de_loan (i : Nat) (h : DE X dx e te t) : DE X dx e te (dLoan i t) := by
  refine ⟨h.pe, fun σ H δ S Q Qh r s q k => ?_⟩
  unfold dLoan at q
  split at q
  · rename_i p g
    obtain ⟨ds, eg, q⟩ := opt_run q
    obtain ⟨v, e1, d1⟩ := s.ix i _ (gt_ix g)
    cases d1
    rw [put_set] at q
    have m := getS_mem eg
    have mp : p ∈ S.map (·.1) := List.mem_map.mpr ⟨_, m, rfl⟩
    obtain ⟨vs, eh, al⟩ := r.getL eg
    have r2 := r.del p
    have s2 := (s.ext (ext_del (p := p))).set i (r.frozen eg)
    have e2 : σ.set i (some (.ref p)) = σ := by
      apply List.ext_getElem?
      intro j
      by_cases hj : i = j
      · subst hj
        rw [List.getElem?_set_self (List.getElem?_eq_some_iff.mp e1).1, e1]
      · rw [List.getElem?_set_ne hj]
    rw [e2] at s2
    have np : ¬ (Mu dx (delS S p)).mu p := by
      rintro (z | z | z)
      · exact r.own_not mp z
      · exact r.own_not mp (r.hm _ z)
      · exact (delS_mem z).2 rfl
    refine h.go σ H _ _ _ Qh r2 s2 q fun w H1 d S1 r1 x1 d1 q1 => ?_
    have nc : ¬ (Mu dx (delS S p)).ch p := fun z => np (.inr z)
    have eh1 : H1 p = some (.lst vs) := x1.keep p _ nc eh
    have n1 : ¬ (Mu dx S1).mu p := fun z => by
      have := x1.fresh p z np
      rw [eh] at this
      cases this
    have X1 : Ext (Mu dx S) H (Mu dx ((p, .l ds) :: S1)) H1 := by
      refine ⟨fun b o n eb => x1.keep b o (fun z => n (z.elim .inl fun z => .inr (delS_mem z).1)) eb, fun b z n => ?_, fun b z n => ?_⟩
      · rcases mu_back b z with z | z
        · exact x1.fresh b z fun z => n (z.elim .inl fun z => .inr (z.elim .inl fun z => .inr (delS_mem z).1))
        · subst z; exact absurd (.inr (.inr mp)) n
      · rcases z with z | z
        · exact absurd (.inl z) n
        · rcases List.mem_cons.mp z with z | z
          · subst z; exact absurd (.inr mp) n
          · exact x1.freshC b (.inr z) fun z => n (z.elim .inl fun z => .inr (delS_mem z).1)
    refine k w H1 d _ ⟨fun b c mb => ?_, ?_, r1.live, fun b mb => ?_, r1.keep, r1.j, r1.stab, r1.hm⟩ X1 (loan_back eh1 mu_back d1 q1.1) q1.2.2
    · rcases List.mem_cons.mp mb with mb | mb
      · cases mb
        exact ⟨_, eh1, .l (al.ext X1)⟩
      · obtain ⟨o, eo, co⟩ := r1.sto b c mb
        have cn := List.all_eq_true.mp q1.2.1 _ mb
        refine ⟨o, eo, ?_⟩
        cases co with
        | l a => exact .l (loan_backs eh1 mu_back a cn)
        | d hk a => exact .d hk (loan_backs eh1 mu_back a cn)
    · exact List.nodup_cons.mpr ⟨fun z => n1 (.inr (.inr z)), r1.nd⟩
    · rcases List.mem_cons.mp mb with mb | mb
      · subst mb; exact r.own _ mp
      · exact r1.own b mb
  · exact q.elim
/-- a list that will be changed, beside others -/
def dNewF (t : DTA) : DTE := fun δ S Q => t δ S fun ds S1 => Fit ds.length ∧ ∀ p, p ∉ S1.map (·.1) → Q (.adr p) ((p, .l ds) :: S1)
theorem de_newF {es : List Expr} {pos : Pos} {tr : TA} {fr : DTA} (h : DA X dx es tr fr) : DE X dx (.List es pos) (tLst tr) (dNewF fr) := by
  refine ⟨pe_lst h.pe, fun σ H δ S Q Qh r0 s0 t k => ?_⟩
  refine h.go σ H δ S _ _ r0 s0 t fun vs H1 ds S1 r1 x1 d1 t1 => ⟨by rw [d1.length]; exact t1.1.line, fun p n => ?_⟩
  have g := r1.grow n d1
  exact k _ _ _ _ g (x1.trans (ext_own r1 n)) (.adr p) (t1.2 p (List.nodup_cons.mp g.nd).1)
/-- .. and beside what is handed over -/
def dNewR (a : Addr) (t : DTA) : DTE := fun δ S Q => t δ S fun ds S1 => Fit ds.length ∧ ∀ p, p ≠ a → p ∉ S1.map (·.1) → Q (.adr p) ((p, .l ds) :: S1)
theorem de_newR {a c : Addr} {es : List Expr} {pos : Pos} {tr : TA} {fr : DTA} (h1 : dx.hand = handR a c) (h : DA X dx es tr fr) : DE X dx (.List es pos) (tLst tr) (dNewR a fr) := by
  refine ⟨pe_lst h.pe, fun σ H δ S Q Qh r0 s0 t k => ?_⟩
  refine h.go σ H δ S _ _ r0 s0 t fun vs H1 ds S1 r1 x1 d1 t1 => ⟨by rw [d1.length]; exact t1.1.line, fun p n => ?_⟩
  have g := r1.grow n d1
  refine k _ _ _ _ g (x1.trans (ext_own r1 n)) (.adr p) (t1.2 p (fun e => ?_) (List.nodup_cons.mp g.nd).1)
  subst e
  have hp : dx.hand p := by rw [h1]; exact .inl rfl
  exact (g.own p List.mem_cons_self).2 (g.hm p hp)
end
end DL
/-! xs[::-1] of a list or of a tuple. -/
namespace DL
open PySem PySem.Spec PyProof.Rows L2 HT
section
variable {P : Program} {w : World} {A : Around} {E : Value → Shared → Prop} {s : Shared}
theorem back_adjust (n : Nat) : Builtin.Slice.sliceAdjust none none (-1) (n : Int) = ((n : Int) - 1, -1) := by
  unfold Builtin.Slice.sliceAdjust
  have : (-1 : Int) < 0 := by decide
  simp only [this, if_true]
theorem back_places (n : Nat) : Builtin.Slice.slicePlaces ((n : Int) - 1) (-1) (-1) = n := by
  unfold Builtin.Slice.slicePlaces
  have h1 : ¬ ((-1 : Int) > 0) := by decide
  simp only [h1, if_false]
  by_cases z : n = 0
  · subst z; decide
  · rw [if_pos (by omega), show (-(-1 : Int)) = 1 from rfl, Int.ediv_one]
    omega
theorem filterMap_some {α β : Type} {f : α → Option β} {g : α → β} : ∀ {l : List α}, (∀ x ∈ l, f x = some (g x)) → l.filterMap f = l.map g
  | [], _ => rfl
  | x :: l, h => by rw [List.filterMap_cons_some (h x List.mem_cons_self), filterMap_some fun y m => h y (List.mem_cons_of_mem _ m), List.map_cons]
theorem back_pick (its : List Value) : (List.range its.length).filterMap (fun (k : Nat) => its.toArray[(((its.length : Int) - 1) + (k : Int) * (-1)).toNat]?) = its.reverse := by
  apply List.ext_getElem?
  intro i
  have all : (List.range its.length).filterMap (fun (k : Nat) => its.toArray[(((its.length : Int) - 1) + (k : Int) * (-1)).toNat]?) = (List.range its.length).map fun k => its.getD (its.length - 1 - k) .none := by
    refine filterMap_some fun k m => ?_
    have lt := List.mem_range.mp m
    have e : (((its.length : Int) - 1) + (k : Int) * (-1)).toNat = its.length - 1 - k := by omega
    have lt2 : its.length - 1 - k < its.length := by omega
    rw [e]
    show its.toArray[its.length - 1 - k]? = some (its.getD (its.length - 1 - k) .none)
    rw [List.getElem?_toArray, List.getD_eq_getElem?_getD, List.getElem?_eq_getElem lt2]
    rfl
  rw [all, List.getElem?_map]
  by_cases lt : i < its.length
  · rw [List.getElem?_range lt, List.getElem?_reverse lt]
    show some (its.getD (its.length - 1 - i) .none) = _
    rw [List.getD_eq_getElem?_getD, List.getElem?_eq_getElem (by omega)]
    rfl
  · rw [List.getElem?_eq_none (by rw [List.length_range]; omega), List.getElem?_eq_none (by rw [List.length_reverse]; omega)]
    rfl
/-- what the machine makes of t[::-1] -/
theorem getItem_tuple_back {t sl : Addr} {its : List Value} {c : Value} {Q : Value → Shared → Prop} (ht : IsTup s.heap t its.toArray) (hs : s.heap.IsSliceOf sl .none .none c) (pc : IsPart c (some (-1))) (few : its.length ≤ sizeLine)
    (h2 : Q (.ref s.heap.objs.size) { s with heap := s.heap.push { cls := .type "tuple", data := .seq its.reverse.toArray } }) : wpAny (model P w) A (getItem (.ref t) (.ref sl)) Q E s := by
  obtain ⟨so, so1, so2, so3⟩ := id hs
  have isS : s.TypeIs (.ref sl) "slice" := ⟨so, so1, so2⟩
  have isT := ht.typeIs
  have fit : sizeOk (.seq its.reverse.toArray) := by
    show its.reverse.toArray.size ≤ sizeLine
    rw [List.size_toArray, List.length_reverse]
    exact few
  have sz : its.toArray.size = its.length := List.size_toArray ..
  unfold getItem
  refine wpAny_holding (wpAny_bind (wpAny_sequenceKey isT (by decide) (wpAny_bind (wpAny_callSpecial?_slot (name := Str.ofString "__getitem__") isT PyProof.Rows.slot_tuple_getitem (wpAny_call_entry PyProof.Rows.slot_tuple_getitem isT entry_tuple_getitem ?_ (args_tuple_getitem _ _))))))
  show wpAny _ _ (Builtin.Tuple.tupleItemsOf (.ref t) >>= _) _ _ s
  refine wpAny_bind (tupleItemsOf_ ht (wpAny_bind (wpAny_typeOf isS ?_)))
  rw [if_pos (by decide)]
  have cut : ∀ {R : Int × Int × Nat → Shared → Prop} {B : Around}, R ((its.length : Int) - 1, -1, its.length) s → wpAny (model P w) B (Builtin.Slice.sliceApplied (.ref sl) (pure ((its.toArray.size : Nat) : Int))) R E s := by
    intro R B hR
    rw [sz]
    unfold Builtin.Slice.sliceApplied Builtin.Slice.sliceFields
    refine wpAny_bind (wpAny_bind (wpAny_field so1 so3 (x := .none) rfl (wpAny_bind (wpAny_field so1 so3 (x := .none) rfl (wpAny_bind (wpAny_field so1 so3 (x := c) rfl (wpAny_pure (wpAny_bind (slicePart_ pc ?_)))))))))
    show wpAny _ _ (if ((-1 : Int) == 0) = true then _ else _) _ _ s
    rw [if_neg (by decide)]
    refine wpAny_bind (slicePart_none (wpAny_bind (slicePart_none (wpAny_bind (wpAny_pure ?_)))))
    show wpAny _ _ (match Builtin.Slice.sliceAdjust none none (-1) (its.length : Int) with | (x, y) => pure (x, (-1 : Int), Builtin.Slice.slicePlaces x y (-1))) _ _ s
    rw [back_adjust]
    show wpAny _ _ (pure ((its.length : Int) - 1, (-1 : Int), Builtin.Slice.slicePlaces ((its.length : Int) - 1) (-1) (-1))) _ _ s
    rw [back_places]
    exact wpAny_pure hR
  refine wpAny_bind (cut ?_)
  show wpAny _ _ (if ((its.length : Int) - 1 == 0 && (-1 : Int) == 1 && its.length == its.toArray.size) = true then _ else _) _ _ s
  rw [if_neg (by rw [show ((-1 : Int) == 1) = false from rfl, Bool.and_false, Bool.false_and]; exact Bool.false_ne_true), back_pick]
  first
    | exact wpAny_bind (m := Builtin.Tuple.tupleExact _) (wpAny_newObj_type (wpAny_pure ⟨_, rfl, wpAny_pure h2⟩) fit)
    | exact wpAny_bind (m := Builtin.Tuple.tupleExact _) (wpAny_newObj_type (wpAny_bind (wpAny_pure (wpAny_pure ⟨_, rfl, wpAny_pure h2⟩))) fit)
    | exact wpAny_bind (wpAny_bind (m := Builtin.Tuple.tupleExact _) (wpAny_newObj_type (wpAny_pure (wpAny_pure ⟨_, rfl, wpAny_pure h2⟩)) fit))
    | exact wpAny_bind (wpAny_bind (m := Builtin.Tuple.tupleExact _) (wpAny_newObj_type (wpAny_pure ⟨_, rfl, wpAny_pure h2⟩) fit))
end
section
variable {X : Cx} {dx : Dx} {K : PySem.W.Frag}
def tRevA (K : PySem.W.Frag) (te : TE) : TE := fun σ H Q => te σ H fun x H1 => ∃ a xs, x = .ref a ∧ ((SqL K H1 a xs ∧ ∀ p, H1 p = none → Q (.ref p) (upd H1 p (.lst xs.reverse))) ∨ (SqT K H1 a xs ∧ ∀ p, H1 p = none → Q (.ref p) (upd H1 p (.tup xs.reverse))))
theorem pe_revA {e : Expr} {te : TE} {k : Nat} {p1 p2 p3 pos : Pos} (he : PE X e te) : PE X (.Subscript e (.Slice none none (some (.UnaryOp .USub (.Constant (.int 1) k p1) p2)) p3) pos) (tRevA X.K te) := by
  constructor
  intro pins s σ H Q I h
  refine Subscript_ (thn (he.run pins s σ H _ I h) fun v s1 ⟨x, H1, I1, r1, a, xs, ex, both⟩ => ?_)
  subst ex
  cases r1
  have step : PO X (some (.UnaryOp .USub (.Constant (.int 1) k p1) p2)) (tPart (tUn (rU fun i => .int (-i)) (tC (.int 1)))) := po_some (pe_un un_neg pe_int)
  refine wpAny_Slice (thn (po_none.run pins s1 σ H1 (fun o H2 => o = none ∧ H2 = H1) I1 ⟨rfl, rfl⟩) fun v1 s2 ⟨o1, H2, I2, q1, n1, n2⟩ => ?_)
  cases n1; cases n2
  refine thn (po_none.run pins s2 σ _ (fun o H3 => o = none ∧ H3 = _) I2 ⟨rfl, rfl⟩) fun v2 s3 ⟨o2, H3, I3, q2, n1, n2⟩ => ?_
  cases n1; cases n2
  refine thn (step.run pins s3 σ _ (fun o H4 => o = some (-1) ∧ H4 = _) I3 ⟨1, rfl, -1, rfl, rfl, rfl⟩) fun v3 s4 ⟨o3, H4, I4, q3, n1, n2⟩ => ?_
  cases n1; cases n2
  have I5 := I4.kept (t' := s4.toks) (h' := s4.heap.push { cls := .type "slice", data := .fields #[v1, v2, v3] }) fun b ob z => Heap.get?_push_of_some _ z
  have sl := Heap.IsSliceOf.new s4.heap v1 v2 v3
  show wpAny (model X.prog X.w) X.A (subscriptTail e (.Slice none none (some (.UnaryOp .USub (.Constant (.int 1) k p1) p2)) p3) (.ref a) (.ref s4.heap.objs.size)) (EP X pins σ Q) X.xe { s4 with heap := s4.heap.push { cls := .type "slice", data := .fields #[v1, v2, v3] } }
  have fr := I5.hok.fresh (Nat.le_refl _)
  rcases both with ⟨hs, q⟩ | ⟨hs, q⟩
  · obtain ⟨its, r, pl, hz⟩ := I5.list hs
    have len := r.length
    refine tail_any (ops := [.ref a, .ref s4.heap.objs.size]) pl.isList.typeIs (PySem.slot_list_getitem.lookup) ?_ (by with_unfolding_all rfl)
    refine wpAny_getItem_list_slice pl.isList sl q1 q2 q3 (by decide) ?_ (by rw [List.size_toArray]; omega)
    rw [PySem.W.krv_pick]
    exact ⟨.ref _, _, I5.laid (t' := s4.toks) (o := .lst xs.reverse) (fun b ob z => Heap.get?_push_of_some _ z) (Nat.le_refl _) ⟨by rw [List.length_reverse]; exact hz, _, 0, r.reverse, Heap.get?_push_size _ rfl⟩, rfl, q _ fr⟩
  · obtain ⟨its, r, pt, hz⟩ := I5.tuple hs
    have len := r.length
    cases q1; cases q2
    refine tail_any (ops := [.ref a, .ref s4.heap.objs.size]) pt.typeIs (PyProof.Rows.slot_tuple_getitem.lookup) ?_ (by with_unfolding_all rfl)
    refine getItem_tuple_back pt sl q3 (by omega) ?_
    exact ⟨.ref _, _, I5.laid (t' := s4.toks) (o := .tup xs.reverse) (fun b ob z => Heap.get?_push_of_some _ z) (Nat.le_refl _) ⟨by rw [List.length_reverse]; exact hz, _, r.reverse, IsTup.new _ _⟩, rfl, q _ fr⟩
def fRevA : D → Sto → (D → Sto → Prop) → Prop
  | .lst ds, S, Q => Q (.lst ds.reverse) S
  | .tup ds, S, Q => Q (.tup ds.reverse) S
  | .adr p, S, Q => opt (getS S p) fun ds => Q (.lst ds.reverse) S
  | _, _, _ => False
theorem de_revA {e : Expr} {te : TE} {fa : DTE} {k' : Nat} {p1 p2 p3 pos : Pos} (K : PySem.W.Frag) (he : DE X dx e te fa) (hK : X.K = K := by rfl) : DE X dx (.Subscript e (.Slice none none (some (.UnaryOp .USub (.Constant (.int 1) k' p1) p2)) p3) pos) (tRevA K te) (dUn fRevA fa) := by
  subst hK
  refine ⟨pe_revA he.pe, fun σ H δ S Q Qh r s t k => ?_⟩
  refine he.go σ H δ S _ _ r s t fun v H1 d S1 r1 x1 d1 t1 => ?_
  cases d with
  | lst ds =>
    obtain ⟨a, vs, rfl, _, eh, al⟩ := d1.sqL
    refine ⟨a, vs, rfl, .inl ⟨SqL.of eh, fun p n => ?_⟩⟩
    obtain ⟨r2, x2, d2⟩ := new_lst r1 n al.reverse
    exact k _ _ _ S1 r2 (x1.trans x2) d2 t1
  | tup ds =>
    obtain ⟨a, vs, rfl, hs, al⟩ := d1.sqT
    refine ⟨a, vs, rfl, .inr ⟨hs, fun p n => ?_⟩⟩
    obtain ⟨r2, x2, d2⟩ := new_tup r1 n al.reverse
    exact k _ _ _ S1 r2 (x1.trans x2) d2 t1
  | adr q =>
    obtain ⟨ds, g, t1⟩ := opt_run t1
    cases d1
    obtain ⟨_, vs, eh, al⟩ := r1.get g
    refine ⟨q, vs, rfl, .inl ⟨SqL.of eh, fun p n => ?_⟩⟩
    obtain ⟨r2, x2, d2⟩ := new_lst r1 n al.reverse
    exact k _ _ _ S1 r2 (x1.trans x2) d2 t1
  | _ => exact t1.elim
end
end DL
/-! Dicts that are changed; what is walked of a locked one. -/
namespace DL
open PySem PySem.Spec L2 Gd
section
variable {X : Cx} {dx : Dx} {K : PySem.W.Frag} {pos pos' tpos : Pos} {o i e value : Expr} {to ti te : TE} {fo fi fe : DTE}
/-! ### d[k] = e, del d[k] -/
def fPutK (o i d : D) (S : Sto) (k : Sto → Prop) : Prop := match o with
  | .adr p => opt (getK S p) fun kvs => opt (keyOf i) fun ky => Fit (kvs.length + 1) ∧ k (setS S p (.d (putD kvs ky d)))
  | _ => False
def dPutK (fe fo fi : DTE) : DTS := fun DD δ S => fe δ S fun d S1 => fo δ S1 fun o S2 => fi δ S2 fun i S3 => fPutK o i d S3 fun S4 => DD.nx δ S4
theorem ds_putK (hu : X.A.units + 64 < cLine) (hE : DE X dx value te fe) (hO : DE X dx o to fo) (hI : DE X dx i ti fi) (hs : swapsWith value (some (.Subscript o i pos')) pos.line X.env = pure false := by rfl) :
    DS X dx (.Assign [.Subscript o i pos'] value pos) (sDPut to ti te) (dPutK fe fo fi) := by
  refine ⟨ps_dput (by omega) hO.pe hI.pe hE.pe hs, fun σ H δ S DD E r s q k => ?_⟩
  refine hE.go σ H δ S _ _ r s q fun v H1 d S1 r1 x1 d1 t1 => ?_
  refine hO.go σ H1 δ S1 _ _ r1 (s.ext x1) t1 fun vo H2 od S2 r2 x2 d2 t2 => ?_
  refine hI.go σ H2 δ S2 _ _ r2 (s.ext (x1.trans x2)) t2 fun vi H3 id S3 r3 x3 d3 t3 => ?_
  cases od with
  | adr p =>
    obtain ⟨kvs, g, t3⟩ := opt_run t3
    obtain ⟨ky, ek, t3⟩ := opt_run t3
    have d2' := d2.ext x3
    cases d2'
    obtain rfl := key_of d3 ek
    obtain ⟨m, ws, eh, hk, al⟩ := r3.getD g
    have KD0 : KD X.K (Mu dx S3) H3 ws kvs := ⟨hk, al⟩
    have KD1 := KD0.put ky (d1.ext (x2.trans x3))
    have len : ws.length = kvs.length := by
      have := congrArg List.length hk
      rwa [List.length_map, List.length_map] at this
    have ft := t3.1.line
    refine ⟨p, _, rfl, DPut.k eh (by omega), ?_⟩
    have x4 : Ext (Mu dx S3) H3 (Mu dx (setS S3 p (.d (putD kvs ky d)))) (upd H3 p (.dK (putK ws ky v))) := ext_set m
    exact k.nx _ _ _ _ (r3.putC m (.d KD1.1 KD1.2)) (((x1.trans x2).trans x3).trans x4) (s.ext (((x1.trans x2).trans x3).trans x4)) t3.2
  | _ => exact t3.elim
def dDelK (fo fi : DTE) : DTS := fun DD δ S => fo δ S fun o S1 => fi δ S1 fun i S2 => match o with
  | .adr p => opt (getK S2 p) fun kvs => opt (keyOf i) fun ky => (valD kvs ky).isSome = true ∧ DD.nx δ (setS S2 p (.d (dropD kvs ky)))
  | _ => False
theorem ds_delK (hO : DE X dx o to fo) (hI : DE X dx i ti fi) : DS X dx (.Delete [.Subscript o i tpos] pos) (sDDel to ti) (dDelK fo fi) := by
  refine ⟨ps_ddel hO.pe hI.pe, fun σ H δ S DD E r s q k => ?_⟩
  refine hO.go σ H δ S _ _ r s q fun vo H1 od S1 r1 x1 d1 t1 => ?_
  refine hI.go σ H1 δ S1 _ _ r1 (s.ext x1) t1 fun vi H2 id S2 r2 x2 d2 t2 => ?_
  cases od with
  | adr p =>
    obtain ⟨kvs, g, t2⟩ := opt_run t2
    obtain ⟨ky, ek, t2⟩ := opt_run t2
    have d1' := d1.ext x2
    cases d1'
    obtain rfl := key_of d2 ek
    obtain ⟨m, ws, eh, hk, al⟩ := r2.getD g
    have KD0 : KD X.K (Mu dx S2) H2 ws kvs := ⟨hk, al⟩
    have KD1 := KD0.drop ky
    have has : (valV ws ky).isSome = true := by
      rcases KD0.val ky with ⟨z1, z2⟩ | ⟨v, d', z1, z2, hd⟩
      · rw [z1] at t2
        exact absurd t2.1 (by decide)
      · rw [z2]; rfl
    refine ⟨p, ws, ky, rfl, eh, rfl, has, ?_⟩
    have x4 : Ext (Mu dx S2) H2 (Mu dx (setS S2 p (.d (dropD kvs ky)))) (upd H2 p (.dK (dropK ws ky))) := ext_set m
    exact k.nx _ _ _ _ (r2.putC m (.d KD1.1 KD1.2)) ((x1.trans x2).trans x4) (s.ext ((x1.trans x2).trans x4)) t2.2
  | _ => exact t2.elim
/-! ### displays -/
/-- {}, to be filled -/
def dNewK : DTE := fun _ S Q => ∀ p, p ∉ S.map (·.1) → Q (.adr p) ((p, .d []) :: S)
theorem de_newK : DE X dx (.Dict [] [] pos) tDNewK dNewK := by
  refine ⟨pe_dnewK, fun σ H δ S Q Qh r s t k => ?_⟩
  intro p n
  have g := r.growC (o := .dK []) (xs := .d []) n (.d rfl .nil)
  exact k _ _ _ _ g (ext_own r n) (.adr p) (t p (List.nodup_cons.mp g.nd).1)
/-- {k: v}, to be filled -/
def dNewK1 (fk fv : DTE) : DTE := fun δ S Q => ∀ p, p ∉ S.map (·.1) → fk δ ((p, .d []) :: S) fun kd S1 => fv δ S1 fun d S2 => opt (keyOf kd) fun ky => getK S2 p = some [] ∧ Q (.adr p) (setS S2 p (.d [(ky, d)]))
theorem de_newK1 {kx vx : Expr} {tk tv : TE} {fk fv : DTE} (hk : DE X dx kx tk fk) (hv : DE X dx vx tv fv) : DE X dx (.Dict [some kx] [vx] pos) (tDisp [(tk, tv)]) (dNewK1 fk fv) := by
  refine ⟨pe_disp (pps_cons hk.pe hv.pe pps_nil) rfl rfl (by simp) (by simp), fun σ H δ S Q Qh r s t k => ?_⟩
  intro p n
  have g := r.growC (o := .dK []) (xs := .d []) n (.d rfl .nil)
  have x0 : Ext (Mu dx S) H (Mu dx ((p, .d []) :: S)) (upd H p (.dK [])) := ext_own r n
  refine hk.go σ _ δ _ _ _ g (s.ext x0) (t p (List.nodup_cons.mp g.nd).1) fun vk H1 kd S1 r1 x1 d1 t1 => ?_
  refine hv.go σ H1 δ S1 _ _ r1 (s.ext (x0.trans x1)) t1 fun vv H2 d S2 r2 x2 d2 t2 => ?_
  obtain ⟨ky, ek, gp, t2⟩ := opt_run t2
  obtain rfl := key_of (d1.ext x2) ek
  obtain ⟨m, ws, eh, hk0, al⟩ := r2.getD gp
  have e0 : ws = [] := by
    have := congrArg List.length hk0
    rw [List.length_map] at this
    exact List.length_eq_zero_iff.mp this
  subst e0
  refine ⟨eh, [(ky, vv)], rfl, by simp, ?_⟩
  have x3 : Ext (Mu dx S2) H2 (Mu dx (setS S2 p (.d [(ky, d)]))) (upd H2 p (.dK [(ky, vv)])) := ext_set m
  exact k _ _ _ _ (r2.putC (o := .dK [(ky, vv)]) (xs := .d [(ky, d)]) m (.d rfl (.cons d2 .nil))) (((x0.trans x1).trans x2).trans x3) (.adr p) t2
end
/-! ### for k in d, for k, v in d.items() -/
section
variable {X : Cx} {dx : Dx} {K : PySem.W.Frag} {tg e : Expr} {te : TE} {fe : DTE}
def keysD : D → Sto → (List D → Sto → Prop) → Prop
  | .dic ks _, S, Q => Q (ks.map kD) S
  | _, _, _ => False
def dKeys (t : DTE) : DTA := fun δ S Q => t δ S fun d S1 => keysD d S1 Q
theorem dt_key {K : PySem.W.Frag} {M : Mm} {H : Hp} (k : Key) : Dt K M H (kV k) (kD k) := by
  cases k with
  | inl i => exact .int i
  | inr x => exact .str x
theorem di_keys (h : DE X dx e te fe) : DI X dx tg e (iKeys te) (dKeys fe) := by
  refine ⟨pi_keys h.pe, fun σ H δ S Q R r0 s0 t k => ?_⟩
  refine h.go σ H δ S _ _ r0 s0 t fun v H1 d S1 r1 x1 d1 t1 => ?_
  cases d1 with
  | dic n hr hk al =>
    rename_i a o ws ks ds
    subst hk
    refine ⟨a, o, rfl, .inl ⟨ws, hr, k _ H1 _ S1 r1 x1 ?_ t1⟩⟩
    refine ⟨_, _, (by rw [List.length_map, List.length_map]; exact walk_keys (d := a) (o := o) (kvs := ws)), fun M H' lv x => ⟨x.keep _ _ n hr, fun i y H2 hi q => ?_⟩⟩
    obtain ⟨rfl, ky, vv, e1, rfl⟩ := q
    refine ⟨Same.refl _, kD ky, ?_, dt_key ky⟩
    rw [List.getElem?_map, List.getElem?_map, e1]
    rfl
  | _ => exact t1.elim
def itemsD (Q : List D → Sto → Prop) : D → Sto → Prop
  | .dic ks vs, S => Q (List.zipWith (fun k v => D.tup [kD k, v]) ks vs) S
  | _, _ => False
def dItems (t : DTE) : DTA := fun δ S Q => t δ S (itemsD Q)
theorem di_items {elts : List Expr} {kk : Nat} {tpos apos cpos : Pos} (h : DE X dx e te fe) (hp : PE X e te → PI X (.Tuple elts kk tpos) (.Call (.Attribute e "items" apos) [] [] cpos) (iItems te)) :
    DI X dx (.Tuple elts kk tpos) (.Call (.Attribute e "items" apos) [] [] cpos) (iItems te) (dItems fe) := by
  refine ⟨hp h.pe, fun σ H δ S Q R r0 s0 t k => ?_⟩
  refine h.go σ H δ S _ _ r0 s0 t fun v H1 d S1 r1 x1 d1 t1 => ?_
  cases d1 with
  | dic n hr hk al =>
    rename_i a o ws ks ds
    subst hk
    have len : ws.length = ds.length := by
      have := al.length
      rwa [List.length_map] at this
    refine ⟨a, o, ws, rfl, hr, k _ H1 _ S1 r1 x1 ?_ t1⟩
    have lz : (List.zipWith (fun k v => D.tup [kD k, v]) (ws.map (·.1)) ds).length = ws.length := by
      rw [List.length_zipWith, List.length_map]
      omega
    refine ⟨_, _, (by rw [lz]; exact walk_items (d := a) (o := o) (kvs := ws)), fun M H' lv x => ⟨x.keep _ _ n hr, fun i y H2 hi q => ?_⟩⟩
    obtain ⟨T, kx, vx, rfl, hT, rfl, e1, e2⟩ := q
    have e1 : Option.map (fun kv : Key × V => kV kv.1) ws[i]? = some kx := e1
    have e2 : Option.map Prod.snd ws[i]? = some vx := e2
    cases ei : ws[i]? with
    | none =>
      rw [ei] at e1
      cases e1
    | some kv =>
      rw [ei] at e1 e2
      cases e1
      cases e2
      have ev : (ws.map (·.2))[i]? = some kv.2 := by rw [List.getElem?_map, ei]; rfl
      obtain ⟨dd, e3, d3⟩ := (al.extD x).getV ev
      have sm : Same H' (upd H' T (.tup [kV kv.1, kv.2])) := same_new hT
      refine ⟨sm, .tup [kD kv.1, dd], ?_, ?_⟩
      · rw [List.getElem?_zipWith, List.getElem?_map, ei, e3]
        rfl
      · have nT : ¬ M.mu T := fun z => lv T z hT
        exact .tup nT (.inl upd_same) (.cons (dt_key kv.1) (.cons (d3.extD (Ext.same sm).d) .nil))
  | _ => exact t1.elim
end
end DL
/-! Boxes: a list of three numbers, made by a def anew, changed by those that it is handed to. -/
namespace DL
open PySem PySem.Spec L2 Gd
def BxOk (x y z : Int) : Prop := 0 ≤ x ∧ 0 ≤ y ∧ y < 2 ^ 40 ∧ 0 ≤ z
def handB (b : Addr) : Addr → Prop := fun c => c = b
def BoxAt (b : Addr) : Hp → Prop := fun H => ∃ x y z : Int, H b = some (.lst [.int x, .int y, .int z]) ∧ BxOk x y z
theorem BoxAt.stab {b : Addr} : ∀ H1 H2 : Hp, (∀ c, handB b c → H2 c = H1 c) ∧ Stays H1 H2 → BoxAt b H1 → BoxAt b H2 := fun H1 H2 e ⟨x, y, z, h, ok⟩ => ⟨x, y, z, (e.1 b rfl).trans h, ok⟩
def spBx (K : PySem.W.Frag) (spec : Addr → DSpec) : Sp := fun vs H Q E => ∃ b, spD K (handB b) (BoxAt b) (spec b) vs H Q E
/-- a new list of numbers is handed back -/
def spN (K : PySem.W.Frag) (spec : List D → (List Int → Prop) → Prop) : Sp := fun vs H Q _ => ∃ (m : Addr → Prop) (ds : List D) (post : List Int → Prop), (∀ b, m b → H b ≠ none) ∧ DtAll K (Fo m) H vs ds ∧ spec ds post ∧
  ∀ (l : Addr) (H' : Hp) (ns : List Int), (∀ b o, H b = some o → H' b = some o) → H l = none → H' l = some (.lst (ns.map V.int)) → post ns → Q (.ref l) H'
/-- a list of one's own is handed back as it is -/
def isA (Q : Addr → Sto → Prop) : D → Sto → Prop
  | .adr p, S => Q p S
  | _, _ => False
def dRetA (f : DTE) : DTS := fun DD δ S => f δ S (isA fun p S1 => DD.rt (.adr p) S1)
section
variable {P : Program} {w : World} {K : PySem.W.Frag} {mg : Str → Option Value} {base : Heap}
theorem fnBx {k : Nat} {x qual : Str} {st : Stmt} {f : Addr} {fd : FuncData} {N ps : List Str} {spec : Addr → DSpec}
    (F : Fun K x qual st f fd) (S : FnScope N ps (defScope st)) (len : ∀ b ds post, spec b ds post → ds.length = ps.length)
    (body : ∀ (cdv : Value) (A : Around) (fr : List Env) (s : Shared) (H : Hp) (E : XK), Room k (A.deeper (PyProof.Rows.envOfC qual (defScope st) s.heap.objs.size f cdv)) → A.guards = some [] →
      ∀ (b : Addr) (dx : Dx), dx.hand = handB b → dx.J = BoxAt b → ∃ ts t, DSs (Body P w K mg base N qual st f cdv A fr s H E) dx (defBody st) ts t ∧
        ∀ ds post, spec b ds post → t { nx := fun _ _ => post .non, rt := fun d _ => post d } (startD N ds) []) :
    FnG P w K mg base CX0 (k + 1) f fd ps (spBx K spec) := by
  refine fnG_body F S ?_ ?_
  · rintro vs H Q E ⟨b, m, ds, post, _, _, _, _, al, sp, _⟩
    rw [al.length]
    exact len b ds post sp
  · rintro cdv A fr s H vs Q E room guard ⟨b, m, ds, post, live, hm, stab, j, al, sp, k'⟩
    obtain ⟨ts, t, h, q⟩ := body cdv A fr s H E room guard b ⟨m, H, handB b, BoxAt b⟩ rfl rfl
    refine ⟨ts, h.pe.nox, ?_⟩
    have le : ExtD (Fo m) H (Mu ⟨m, H, handB b, BoxAt b⟩ []) H := by
      refine ⟨fun _ _ _ e => e, fun c z n => ?_⟩
      rcases z with z | z | z
      · exact absurd (.inl z) n
      · exact absurd (.inl (hm c z)) n
      · cases z
    have r : HR K ⟨m, H, handB b, BoxAt b⟩ H [] := ⟨fun p xs z => (nomatch z), List.nodup_nil, live, fun p z => (nomatch z), fun c o e _ => e, j, stab, hm⟩
    refine h.go _ H (startD N ds) [] { nx := fun _ _ => post .non, rt := fun d _ => post d } _ r (start_sr (al.extD le)) (q ds post sp) ⟨?_, ?_, ?_, ?_⟩
    · intro σ' H' δ' S' r' x' s' p'
      exact k' .non H' .non r'.keep r'.live r'.j .non p'
    · intro σ' H' δ' S' r' x' s' p'
      exact p'.elim
    · intro σ' H' δ' S' r' x' s' p'
      exact p'.elim
    · intro v H' d S' r' x' hd p'
      exact k' v H' d r'.keep r'.live r'.j hd p'
/-- a number below another one, out of the box -/
def spTake : Addr → DSpec := fun b ds post => ∃ m : Int, ds = [.adr b, .int m] ∧ 1 ≤ m ∧ m < 2 ^ 62 ∧ ∀ r : Int, 0 ≤ r → r < m → post (.int r)
def takeEnd (b : Addr) (m : Int) : D → Sto → Prop := fun d S => ∃ r x y z : Int, d = .int r ∧ 0 ≤ r ∧ r < m ∧ getS S b = some [.int x, .int y, .int z] ∧ BxOk x y z
theorem fnTake {k : Nat} {x qual : Str} {st : Stmt} {f : Addr} {fd : FuncData} {N ps : List Str}
    (F : Fun K x qual st f fd) (S : FnScope N ps (defScope st)) (len : ps.length = 2)
    (body : ∀ (cdv : Value) (A : Around) (fr : List Env) (s : Shared) (H : Hp) (E : XK), Room k (A.deeper (PyProof.Rows.envOfC qual (defScope st) s.heap.objs.size f cdv)) → A.guards = some [] →
      ∀ (dx : Dx), ∃ ts t, DSs (Body P w K mg base N qual st f cdv A fr s H E) dx (defBody st) ts t ∧
        ∀ (b : Addr) (x y z m : Int), BxOk x y z → 1 ≤ m → m < 2 ^ 62 → t { nx := fun _ _ => False, rt := takeEnd b m } (startD N [.adr b, .int m]) [(b, .l [.int x, .int y, .int z])]) :
    FnG P w K mg base CX0 (k + 1) f fd ps (spBx K spTake) := by
  refine fnG_body F S ?_ ?_
  · rintro vs H Q E ⟨b, m, ds, post, _, _, _, _, al, ⟨_, rfl, _⟩, _⟩
    rw [al.length, len]
    rfl
  · rintro cdv A fr s H vs Q E room guard ⟨b, mm, ds, post, live, hm, stab, ⟨x, y, z, hb, ok⟩, al, ⟨m, rfl, m1, m2, kp⟩, k'⟩
    have hvs : vs = [.ref b, .int m] := by
      cases al with
      | cons h1 al =>
        cases h1
        cases al with
        | cons h2 al =>
          cases h2
          cases al
          rfl
    subst hvs
    let H0 : Hp := fun c => if c = b then none else H c
    obtain ⟨ts, t, h, q⟩ := body cdv A fr s H E room guard ⟨fun c => mm c ∧ c ≠ b, H0, noHand, noJ⟩
    refine ⟨ts, h.pe.nox, ?_⟩
    have h1 : ∀ c, c ≠ b → H0 c = H c := fun c e => if_neg e
    have r : HR K ⟨fun c => mm c ∧ c ≠ b, H0, noHand, noJ⟩ H [(b, .l [.int x, .int y, .int z])] := by
      refine ⟨fun p xs mp => ?_, by simp, fun c mb => live c mb.1, fun p mp => ?_, fun c o e _ => ?_, trivial, fun _ _ _ _ => trivial, fun c z => z.elim⟩
      · cases List.mem_singleton.mp mp
        exact ⟨_, hb, .l (.cons (.int x) (.cons (.int y) (.cons (.int z) .nil)))⟩
      · have e : p = b := by simpa using mp
        subst e
        exact ⟨if_pos rfl, fun z => z.2 rfl⟩
      · by_cases e2 : c = b
        · have e : H0 c = some o := e
          rw [show H0 c = none from if_pos e2] at e
          cases e
        · have e : H0 c = some o := e
          rw [h1 c e2] at e
          exact e
    refine h.go _ H (startD N [.adr b, .int m]) _ _ _ r (start_sr (.cons (.adr b) (.cons (.int m) .nil))) (q b x y z m ok m1 m2) ⟨?_, ?_, ?_, ?_⟩
    · intro σ' H' δ' S' r' x' s' p'
      exact p'.elim
    · intro σ' H' δ' S' r' x' s' p'
      exact p'.elim
    · intro σ' H' δ' S' r' x' s' p'
      exact p'.elim
    · rintro v H' d S' r' x' hd ⟨r, x2, y2, z2, rfl, r0, r1, gb, ok'⟩
      obtain ⟨_, vb, eb, db⟩ := r'.get gb
      have e3 : vb = [x2, y2, z2].map V.int := Dt.ints_of (ns := [x2, y2, z2]) db
      subst e3
      have hd2 : Dt K (Fo mm) H' v (.int r) := by
        cases hd
        exact .int r
      refine k' v H' _ (fun c o e n => r'.keep c o ((h1 c n).trans e) fun z => z) (fun c mb => ?_) ⟨x2, y2, z2, eb, ok'⟩ hd2 (kp r r0 r1)
      by_cases e2 : c = b
      · subst e2
        rw [eb]
        exact fun z => nomatch z
      · exact r'.live c ⟨mb, e2⟩
theorem fnN {k : Nat} {x qual : Str} {st : Stmt} {f : Addr} {fd : FuncData} {N ps : List Str} {spec : List D → (List Int → Prop) → Prop}
    (F : Fun K x qual st f fd) (S : FnScope N ps (defScope st)) (len : ∀ ds post, spec ds post → ds.length = ps.length)
    (body : ∀ (cdv : Value) (A : Around) (fr : List Env) (s : Shared) (H : Hp) (E : XK), Room k (A.deeper (PyProof.Rows.envOfC qual (defScope st) s.heap.objs.size f cdv)) → A.guards = some [] →
      ∀ dx : Dx, dx.hand = noHand → dx.J = noJ → ∃ ts t, DSs (Body P w K mg base N qual st f cdv A fr s H E) dx (defBody st) ts t ∧
        ∀ ds post, spec ds post → t { nx := fun _ _ => False, rt := fun d S => ∃ p ns, d = .adr p ∧ getS S p = some (ns.map D.int) ∧ post ns } (startD N ds) []) :
    FnG P w K mg base CX0 (k + 1) f fd ps (spN K spec) := by
  refine fnG_body F S ?_ ?_
  · rintro vs H Q E ⟨m, ds, post, _, al, sp, _⟩
    rw [al.length]
    exact len ds post sp
  · rintro cdv A fr s H vs Q E room guard ⟨m, ds, post, live, al, sp, k'⟩
    obtain ⟨ts, t, h, q⟩ := body cdv A fr s H E room guard ⟨m, H, noHand, noJ⟩ rfl rfl
    refine ⟨ts, h.pe.nox, ?_⟩
    have le : ExtD (Fo m) H (Mu ⟨m, H, noHand, noJ⟩ []) H := by
      refine ⟨fun _ _ _ e => e, fun c z n => ?_⟩
      rcases z with z | z | z
      · exact absurd (.inl z) n
      · exact z.elim
      · cases z
    have r : HR K ⟨m, H, noHand, noJ⟩ H [] := ⟨fun p xs z => (nomatch z), List.nodup_nil, live, fun p z => (nomatch z), fun c o e _ => e, trivial, fun _ _ _ _ => trivial, fun c z => z.elim⟩
    refine h.go _ H (startD N ds) [] _ _ r (start_sr (al.extD le)) (q ds post sp) ⟨?_, ?_, ?_, ?_⟩
    · intro σ' H' δ' S' r' x' s' p'
      exact p'.elim
    · intro σ' H' δ' S' r' x' s' p'
      exact p'.elim
    · intro σ' H' δ' S' r' x' s' p'
      exact p'.elim
    · rintro v H' d S' r' x' hd ⟨p, ns, rfl, g, p'⟩
      cases hd
      obtain ⟨mp, us, e, al2⟩ := r'.get g
      rw [Dt.ints_of al2] at e
      exact k' p H' ns (fun b o eb => r'.keep b o eb fun z => z) (r'.own p mp).1 e p'
/-- a law that makes its boxes itself -/
theorem fnLaw0 {k : Nat} {x qual : Str} {st : Stmt} {f : Addr} {fd : FuncData} {N ps : List Str}
    (F : Fun K x qual st f fd) (S : FnScope N ps (defScope st)) (len : ps.length = 1)
    (body : ∀ (cdv : Value) (A : Around) (fr : List Env) (s : Shared) (H : Hp) (E : XK), Room k (A.deeper (PyProof.Rows.envOfC qual (defScope st) s.heap.objs.size f cdv)) → A.guards = some [] →
      ∀ dx : Dx, dx.hand = noHand → dx.J = noJ → ∃ ts t, DSs (Body P w K mg base N qual st f cdv A fr s H E) dx (defBody st) ts t ∧
        ∀ ns : List Int, ns.length ≤ 63 → t { nx := fun _ _ => False, rt := fun d _ => d = .bl true } (startD N [.fls ns]) []) :
    FnG P w K mg base CX0 (k + 1) f fd ps (spL K) := by
  refine fnG_body F S ?_ ?_
  · rintro vs H Q E ⟨a, ns, rfl, _⟩
    rw [len]
    rfl
  · rintro cdv A fr s H vs Q E room guard ⟨a0, ns, rfl, few, only, hS, k'⟩
    obtain ⟨ts, t, h, q⟩ := body cdv A fr s H E room guard ⟨fun _ => False, H, noHand, noJ⟩ rfl rfl
    refine ⟨ts, h.pe.nox, ?_⟩
    have nm : ∀ b, ¬ (Mu ⟨fun _ => False, H, noHand, noJ⟩ []).mu b := fun b z => by
      rcases z with z | z | z
      · exact z
      · exact z
      · cases z
    have d0 : Dt K (Mu ⟨fun _ => False, H, noHand, noJ⟩ []) H (.ref a0) (.fls ns) := by
      rcases hS with h | h
      · exact .fls (nm _) h
      · exact .kfls h
    have r : HR K ⟨fun _ => False, H, noHand, noJ⟩ H [] := ⟨fun p xs z => (nomatch z), List.nodup_nil, fun b z => z.elim, fun p z => (nomatch z), fun c o e _ => e, trivial, fun _ _ _ _ => trivial, fun c z => z.elim⟩
    refine h.go _ H (startD N [.fls ns]) [] _ _ r (start_sr (.cons d0 .nil)) (q ns few) ⟨?_, ?_, ?_, ?_⟩
    · intro σ' H' δ' S' r' x' s' p'
      exact p'.elim
    · intro σ' H' δ' S' r' x' s' p'
      exact p'.elim
    · intro σ' H' δ' S' r' x' s' p'
      exact p'.elim
    · rintro v H' d S' r' x' hd rfl
      cases hd
      exact k' H'
end
section
variable {K : PySem.W.Frag} {dx : Dx} {H H' : Hp} {S : Sto}
/-- what a call made anew becomes one's own -/
theorem HR.adopt (r : HR K dx H S) (sm : Same H H') {l : Addr} {ns : List Int} (hn : H l = none) (e : H' l = some (.lst (ns.map V.int))) :
    HR K dx H' ((l, .l (ns.map D.int)) :: S) ∧ Ext (Mu dx S) H (Mu dx ((l, .l (ns.map D.int)) :: S)) H' ∧ l ∉ S.map (·.1) := by
  have nl : l ∉ S.map (·.1) := fun z => by
    obtain ⟨⟨q, c⟩, mq, rfl⟩ := List.mem_map.mp z
    obtain ⟨o, eo, _⟩ := r.sto q c mq
    rw [hn] at eo
    cases eo
  have nM : ¬ dx.M0 l := fun z => r.live l z hn
  have x : Ext (Mu dx S) H (Mu dx ((l, .l (ns.map D.int)) :: S)) H' := by
    have key : ∀ b, b = l ∨ (Mu dx S).ch b ↔ (Mu dx ((l, .l (ns.map D.int)) :: S)).ch b := fun b => by
      constructor
      · rintro (z | z | z)
        · exact .inr (by rw [z]; exact List.mem_cons_self)
        · exact .inl z
        · exact .inr (List.mem_cons_of_mem _ z)
      · rintro (z | z)
        · exact .inr (.inl z)
        · rcases List.mem_cons.mp z with z | z
          · exact .inl z
          · exact .inr (.inr z)
    refine ⟨fun b o n eb => sm b o eb, fun b m n => ?_, fun b m n => ?_⟩
    · rcases m with m | m
      · exact absurd (.inl m) n
      · rcases (key b).mpr m with z | z
        · rw [z]; exact hn
        · exact absurd (.inr z) n
    · rcases (key b).mpr m with z | z
      · rw [z]; exact hn
      · exact absurd z n
  have r2 := r.same sm
  refine ⟨⟨fun q c mq => ?_, List.nodup_cons.mpr ⟨nl, r.nd⟩, r2.live, fun p mp => ?_, r2.keep, r2.j, r.stab, r.hm⟩, x, nl⟩
  · rcases List.mem_cons.mp mq with z | z
    · cases z
      exact ⟨_, e, .l (DtAll.ints ns)⟩
    · obtain ⟨o, eo, co⟩ := r.sto q c z
      exact ⟨o, sm _ _ eo, co.ext x⟩
  · rcases List.mem_cons.mp mp with z | z
    · subst z
      refine ⟨?_, nM⟩
      cases h0 : dx.H0 p with
      | none => rfl
      | some o =>
        by_cases hh : dx.hand p
        · exact absurd (r.hm p hh) nM
        · have := r.keep p o h0 hh
          rw [hn] at this
          cases this
    · exact r.own p z
end
section
variable {X : Cx} {dx : Dx} {k : Nat} {f b : Addr} {fd : FuncData} {ps : List Str} {x : Str} {p pos : Pos} {e : Expr} {es : List Expr} {ta : TA} {fa : DTA} {spec : Addr → DSpec} {specN : List D → (List Int → Prop) → Prop}
def dCallN (spec : List D → (List Int → Prop) → Prop) (fa : DTA) : DTE := fun δ S Q => fa δ S fun ds S1 => spec ds fun ns => ∀ p, p ∉ S1.map (·.1) → Q (.adr p) ((p, .l (ns.map D.int)) :: S1)
theorem de_callN_ (K : PySem.W.Frag) (F : FnG X.prog X.w K X.mg X.base CX0 k f fd ps (spN K specN)) (room : Room k X.A) (guard : X.A.guards = some [])
    (hg : Gl X x) (hm : X.mg x = some (.ref f)) (kp : PySem.W.keepIn K (.ref f) = true) (hb : Binds K fd ps []) (ha : DA X dx (e :: es) ta fa)
    (hdb : (x == ("__debug__" : Str)) = false := by decide)
    (he : starEach (e :: es) X.env = (false, eval e X.env) :: starEach es X.env := by rfl)
    (hpl : (backTo pos (starEach es X.env)).any (·.1) = false := by rfl) (hK : X.K = K := by rfl) :
    DE X dx (.Call (.Name x p) (e :: es) [] pos) (tCall (spN K specN) [] (fun _ _ _ => False) ta) (dCallN specN fa) := by
  subst hK
  refine ⟨pe_callG F room guard hg hm kp hb .nil pass0 ha.pe hdb he hpl, fun σ H δ S Q Qh r s t kk => ?_⟩
  refine ha.go σ H δ S _ _ r s t fun vs H1 ds S1 r1 x1 d1 t1 => ?_
  rw [List.append_nil]
  have le : Ext (Mu dx S1) H1 (Fo (Mu dx S1).mu) H1 := Ext.less (fun b z => z.elim id False.elim) (fun b z => z.elim)
  refine ⟨(Mu dx S1).mu, ds, _, r1.mu_live, d1.ext le, t1, fun l H' ns kp hn eh q => ?_⟩
  have sm : Same H1 H' := fun b o e => kp b o e
  obtain ⟨r2, x2, nl⟩ := r1.adopt sm hn eh
  exact kk (.ref l) H' (.adr l) _ r2 (x1.trans x2) (.adr l) (q l nl)
theorem de_callBx_ (K : PySem.W.Frag) (F : FnG X.prog X.w K X.mg X.base CX0 k f fd ps (spBx K spec)) (room : Room k X.A) (guard : X.A.guards = some [])
    (hg : Gl X x) (hm : X.mg x = some (.ref f)) (kp : PySem.W.keepIn K (.ref f) = true) (hb : Binds K fd ps []) (h1 : dx.hand = handB b) (h2 : dx.J = BoxAt b) (ha : DA X dx (e :: es) ta fa)
    (hdb : (x == ("__debug__" : Str)) = false := by decide)
    (he : starEach (e :: es) X.env = (false, eval e X.env) :: starEach es X.env := by rfl)
    (hpl : (backTo pos (starEach es X.env)).any (·.1) = false := by rfl) (hK : X.K = K := by rfl) :
    DE X dx (.Call (.Name x p) (e :: es) [] pos) (tCall (spBx K spec) [] (fun _ _ _ => False) ta) (dCall (spec b) fa) := by
  subst hK
  refine ⟨pe_callG F room guard hg hm kp hb .nil pass0 ha.pe hdb he hpl, fun σ H δ S Q Qh r s t kk => ?_⟩
  refine ha.go σ H δ S _ _ r s t fun vs H1 ds S1 r1 x1 d1 t1 => ?_
  rw [List.append_nil]
  exact ⟨b, spd_go r1 d1 (.inr ⟨h1.symm, h2.symm⟩) t1 (kk.on x1)⟩
def headA : List D → Option Addr
  | .adr p :: _ => some p
  | _ => none
/-- the box is one's own -/
def dCallOB (spec : Addr → DSpec) (fa : DTA) : DTE := fun δ S Q => fa δ S fun ds S1 => opt (headA ds) fun p => ∃ x y z : Int, getS S1 p = some [.int x, .int y, .int z] ∧ BxOk x y z ∧ spec p ds fun d => ∀ x y z : Int, BxOk x y z → Q d (setS S1 p (.l [.int x, .int y, .int z]))
theorem de_callOB_ (K : PySem.W.Frag) (F : FnG X.prog X.w K X.mg X.base CX0 k f fd ps (spBx K spec)) (room : Room k X.A) (guard : X.A.guards = some [])
    (hg : Gl X x) (hm : X.mg x = some (.ref f)) (kp : PySem.W.keepIn K (.ref f) = true) (hb : Binds K fd ps []) (ha : DA X dx (e :: es) ta fa)
    (hdb : (x == ("__debug__" : Str)) = false := by decide)
    (he : starEach (e :: es) X.env = (false, eval e X.env) :: starEach es X.env := by rfl)
    (hpl : (backTo pos (starEach es X.env)).any (·.1) = false := by rfl) (hK : X.K = K := by rfl) :
    DE X dx (.Call (.Name x p) (e :: es) [] pos) (tCall (spBx K spec) [] (fun _ _ _ => False) ta) (dCallOB spec fa) := by
  subst hK
  refine ⟨pe_callG F room guard hg hm kp hb .nil pass0 ha.pe hdb he hpl, fun σ H δ S Q Qh r s t kk => ?_⟩
  refine ha.go σ H δ S _ _ r s t fun vs H1 ds S1 r1 x1 d1 t1 => ?_
  rw [List.append_nil]
  obtain ⟨q, eq, x0, y0, z0, g, ok, t1⟩ := opt_run t1
  obtain ⟨mq, us, eh, al⟩ := r1.get g
  have eu : us = [x0, y0, z0].map V.int := Dt.ints_of (ns := [x0, y0, z0]) al
  subst eu
  have le : Ext (Mu dx S1) H1 (Fo (Mu dx S1).mu) H1 := Ext.less (fun b z => z.elim id False.elim) (fun b z => z.elim)
  refine ⟨q, (Mu dx S1).mu, ds, _, r1.mu_live, fun c z => ?_, BoxAt.stab, ⟨x0, y0, z0, eh, ok⟩, d1.ext le, t1, fun v H' d kp lv j hd t2 => ?_⟩
  · have z : c = q := z
    subst z
    exact .inr (.inr mq)
  · obtain ⟨x2, y2, z2, e2, ok2⟩ := j
    have r2 := r1.putC (o := .lst [.int x2, .int y2, .int z2]) (xs := .l [.int x2, .int y2, .int z2]) mq (.l (.cons (.int x2) (.cons (.int y2) (.cons (.int z2) .nil))))
    have sm : Same (upd H1 q (.lst [.int x2, .int y2, .int z2])) H' := fun c o ec => by
      by_cases z : c = q
      · subst z
        rw [upd_same] at ec
        rw [← ec]
        exact e2
      · rw [upd_ne z] at ec
        exact kp c o ec z
    have xx : Ext (Mu dx S1) H1 (Mu dx (setS S1 q (.l [.int x2, .int y2, .int z2]))) H' := (ext_set mq).trans (Ext.same sm)
    have ge : ExtD (Fo (Mu dx S1).mu) H' (Mu dx (setS S1 q (.l [.int x2, .int y2, .int z2]))) H' := ⟨fun _ _ _ e => e, fun c z n => by
      rw [mu_set] at z
      exact absurd (.inl z) n⟩
    exact kk v H' d _ (r2.same sm) (x1.trans xx) (hd.extD ge) (t2 x2 y2 z2 ok2)
theorem ds_retA {fe : DTE} {te : TE} (h : DE X dx e te fe) (hs : swapsWith e none pos.line X.env = pure false := by rfl) : DS X dx (.Return (some e) pos) (tRet te) (dRetA fe) := by
  have h0 := ds_ret (pos := pos) h
  refine ⟨h0.pe, fun σ H δ S DD E r s q k => ?_⟩
  refine h.go σ H δ S _ _ r s q fun v H1 d S1 r1 x1 d1 t1 => ?_
  cases d with
  | adr p =>
    cases d1
    exact k.rt _ H1 _ S1 r1 x1 (.adr p) t1
  | _ => exact t1.elim
end
end DL
/-! _law_box, _law_take. -/
namespace DL
open PySem PySem.Spec L2 Gd
def rBox : DTS := (dSeqS (dSet 2 (dOp fAdd (dOp fMul (dC (.int 7411)) (dVar 1)) (dC (.int 1304)))) (dSeqS (dIfS (dTest (dOp fLt (dVar 1) (dCB (one fLen) (dCons (dVar 0) dNil)))) (dSet 2 (dCB (one fAbs) (dCons (dOp fIx (dVar 0) (dVar 1)) dNil))) (dIfS (dTest (dOp fGt (dCB (one fLen) (dCons (dVar 0) dNil)) (dC (.int 0)))) (dSet 2 (dOp fAdd (dVar 2) (dOp fMul (dOp fMod (dCB (one fInt) (dCons (dCB (one fAbs) (dCons (dOp fIx (dVar 0) (dOp fMod (dCB (one fInt) (dCons (dVar 1) dNil)) (dCB (one fLen) (dCons (dVar 0) dNil)))) dNil)) dNil)) (dC (.int 2147483629))) (dC (.int 60719))))) dNext)) (dSeqS (dSet 3 (dCB (one fInt) (dCons (dOp fGe (dVar 2) (dOp fPow (dC (.int 10)) (dC (.int 18)))) dNil))) (dRetA (dNew (dCons (dOp fIx (dLst (dCons (dC (.int 0)) (dCons (dVar 2) dNil))) (dVar 3)) (dCons (dOp fAdd (dOp fMod (dCB (one fInt) (dCons (dOp fAdd (dOp fAdd (dOp fMul (dOp fMod (dCB (one fInt) (dCons (dVar 2) dNil)) (dC (.int 2147483629))) (dC (.int 48271))) (dOp fMul (dC (.int 30011)) (dVar 1))) (dC (.int 977))) dNil)) (dC (.int 2147483629))) (dC (.int 1))) (dCons (dC (.int 0)) dNil))))))))
def rTake : DTS := (dSeqS (dIfS (dTest (dOp fGt (dOp fIx (dVar 0) (dC (.int 0))) (dC (.int 0)))) (dSeqS (dSet 3 (dOp fMod (dCB (one fInt) (dCons (dOp fIx (dVar 0) (dC (.int 0))) dNil)) (dVar 1))) (dSeqS (dSetI (dOp fDiv (dOp fIx (dVar 0) (dC (.int 0))) (dVar 1)) (dVar 0) (dC (.int 0))) (dRet (dVar 3)))) dNext) (dSeqS (dSetI (dOp fAdd (dOp fIx (dVar 0) (dC (.int 2))) (dC (.int 1))) (dVar 0) (dC (.int 2))) (dSeqS (dSet 2 (dOp fMod (dCB (one fInt) (dCons (dOp fAdd (dOp fMul (dOp fAdd (dOp fIx (dVar 0) (dC (.int 1))) (dOp fMul (dC (.int 99991)) (dOp fIx (dVar 0) (dC (.int 2))))) (dC (.int 69621))) (dC (.int 53))) dNil)) (dC (.int 2147483563)))) (dSeqS (dSetI (dOp fAdd (dOp fMod (dCB (one fInt) (dCons (dOp fAdd (dOp fMul (dVar 2) (dC (.int 40692))) (dC (.int 27011))) dNil)) (dC (.int 2147483629))) (dC (.int 1))) (dVar 0) (dC (.int 1))) (dRet (dOp fMod (dCB (one fInt) (dCons (dOp fDiv (dOp fAdd (dOp fMul (dVar 2) (dC (.int 2147483647))) (dOp fIx (dVar 0) (dC (.int 1)))) (dC (.int 8191))) dNil)) (dVar 1)))))))
theorem set0 {x y z d : D} : ([x, y, z] : List D).set 0 d = [d, y, z] := rfl
theorem set1 {x y z d : D} : ([x, y, z] : List D).set 1 d = [x, d, z] := rfl
theorem set2 {x y z d : D} : ([x, y, z] : List D).set 2 d = [x, y, d] := rfl
theorem small_log {m : Int} (h : m < 2 ^ 62) (h0 : 1 ≤ m) : m.natAbs.log2 < 9000 := by
  have := (Nat.log2_lt (n := m.natAbs) (k := 62) (by omega)).mpr (by omega)
  omega
theorem vcTake : ∀ (b : Addr) (x y z m : Int), BxOk x y z → 1 ≤ m → m < 2 ^ 62 → rTake { nx := fun _ _ => False, rt := takeEnd b m } [some (.adr b), some (.int m), none, none] [(b, Cel.l [.int x, .int y, .int z])] := by
  rintro b x y z m ⟨x0, y0, y1, z0⟩ m1 m2
  have hm : (0 : Int) < m := by omega
  refine opt_of getS_self (opt_of (x := D.int x) rfl ?_)
  show (if decide ((0 : Int) < x) = true then _ else _)
  by_cases h : (0 : Int) < x
  · rw [if_pos (decide_eq_true h)]
    refine opt_of getS_self (opt_of (x := D.int x) rfl ⟨hm, ?_⟩)
    refine opt_of getS_self (opt_of (x := D.int x) rfl ⟨⟨hm, small_log m2 m1⟩, ?_⟩)
    refine opt_of getS_self (opt_of (x := 0) rfl ?_)
    rw [setS_one, set0]
    exact ⟨x % m, x / m, y, z, rfl, Int.emod_nonneg _ (by omega), Int.emod_lt_of_pos _ hm, getS_self, Int.ediv_nonneg x0 (by omega), y0, y1, z0⟩
  · rw [if_neg (by simpa using h)]
    refine opt_of getS_self (opt_of (x := D.int z) rfl ?_)
    refine opt_of getS_self (opt_of (x := 2) rfl ?_)
    rw [setS_one, set2]
    refine opt_of getS_self (opt_of (x := D.int y) rfl ?_)
    refine opt_of getS_self (opt_of (x := D.int (z + 1)) rfl ⟨MOk.left (by decide), MOk.right (by decide), (by show (0 : Int) < 2147483563; decide), ?_⟩)
    refine ⟨MOk.right (by decide), (by show (0 : Int) < 2147483629; decide), ?_⟩
    refine opt_of getS_self (opt_of (x := 1) rfl ?_)
    rw [setS_one, set1]
    refine ⟨MOk.right (by decide), ?_⟩
    refine opt_of getS_self (opt_of (x := D.int ((((y + 99991 * (z + 1)) * 69621 + 53) % 2147483563 * 40692 + 27011) % 2147483629 + 1)) rfl ⟨⟨by decide, by decide⟩, hm, ?_⟩)
    have a1 := Int.emod_nonneg (((y + 99991 * (z + 1)) * 69621 + 53) % 2147483563 * 40692 + 27011) (b := 2147483629) (by decide)
    have a2 := Int.emod_lt_of_pos (((y + 99991 * (z + 1)) * 69621 + 53) % 2147483563 * 40692 + 27011) (b := 2147483629) (by decide)
    exact ⟨_, x, (((y + 99991 * (z + 1)) * 69621 + 53) % 2147483563 * 40692 + 27011) % 2147483629 + 1, z + 1, rfl, Int.emod_nonneg _ (by omega), Int.emod_lt_of_pos _ hm, getS_self, x0, by omega, by omega, by omega⟩
def spBox : List D → (List Int → Prop) → Prop := fun ds post => ∃ (ns : List Int) (k : Nat), ds = [.fls ns, .int (k : Int)] ∧ ns.length ≤ 63 ∧ k < 1000 ∧ ∀ x y z : Int, BxOk x y z → post [x, y, z]
theorem lnBox : ∀ ds post, spBox ds post → ds.length = 2 := by
  rintro ds post ⟨ns, k, rfl, _⟩
  rfl
theorem box_end {post : List Int → Prop} {c k : Int} {x0 x3 : Option D} (hc : 0 ≤ c) (h : ∀ x y z : Int, BxOk x y z → post [x, y, z]) :
    (dSeqS (dSet 3 (dCB (one fInt) (dCons (dOp fGe (dVar 2) (dOp fPow (dC (.int 10)) (dC (.int 18)))) dNil))) (dRetA (dNew (dCons (dOp fIx (dLst (dCons (dC (.int 0)) (dCons (dVar 2) dNil))) (dVar 3)) (dCons (dOp fAdd (dOp fMod (dCB (one fInt) (dCons (dOp fAdd (dOp fAdd (dOp fMul (dOp fMod (dCB (one fInt) (dCons (dVar 2) dNil)) (dC (.int 2147483629))) (dC (.int 48271))) (dOp fMul (dC (.int 30011)) (dVar 1))) (dC (.int 977))) dNil)) (dC (.int 2147483629))) (dC (.int 1))) (dCons (dC (.int 0)) dNil))))))
      { nx := fun _ _ => False, rt := fun d S => ∃ p ns, d = .adr p ∧ getS S p = some (ns.map D.int) ∧ post ns } [x0, some (.int k), some (.int c), x3] [] := by
  refine ⟨⟨by decide, by decide, by decide⟩, ?_⟩
  refine ⟨by show 2 ≤ 16777216; decide, ?_⟩
  have at01 : ∃ x : Int, 0 ≤ x ∧ atI [D.int 0, .int c] (if decide (10 ^ (18 : Int).toNat ≤ c) = true then 1 else 0) = some (.int x) := by
    split
    · exact ⟨c, hc, rfl⟩
    · exact ⟨0, Int.le_refl _, rfl⟩
  obtain ⟨x, hx, ex⟩ := at01
  refine opt_of ex ⟨(by show (0 : Int) < 2147483629; decide), MOk.right (by decide), MOk.left (by decide), (by show (0 : Int) < 2147483629; decide), by show 3 ≤ 16777216; decide, fun p => ?_⟩
  generalize hr : (c % 2147483629 * 48271 + 30011 * k + 977) = r
  have a1 := Int.emod_nonneg r (b := 2147483629) (by decide)
  have a2 := Int.emod_lt_of_pos r (b := 2147483629) (by decide)
  exact ⟨p, [x, r % 2147483629 + 1, 0], rfl, getS_self, h _ _ _ ⟨hx, by omega, by omega, Int.le_refl _⟩⟩
theorem vcBox : ∀ ds post, spBox ds post → rBox { nx := fun _ _ => False, rt := fun d S => ∃ p ns, d = .adr p ∧ getS S p = some (ns.map D.int) ∧ post ns } (ds.map some ++ List.replicate (4 - ds.length) none) [] := by
  rintro ds post ⟨ns, k, rfl, hl, hk, h⟩
  refine ⟨MOk.left (by decide), ?_⟩
  show (if decide ((k : Int) < (ns.length : Int)) = true then _ else _)
  by_cases lt : k < ns.length
  · rw [if_pos (decide_eq_true (by omega))]
    have e : atI ns (k : Int) = some ns[k] := atI_nat (List.getElem?_eq_getElem lt)
    refine opt_of e ?_
    exact box_end (by omega) h
  · rw [if_neg (by simpa using (by omega : (ns.length : Int) ≤ (k : Int)))]
    show (if decide ((0 : Int) < (ns.length : Int)) = true then _ else _)
    by_cases p : 0 < ns.length
    · rw [if_pos (decide_eq_true (by omega))]
      refine ⟨by omega, ?_⟩
      have m0 : (k : Int) % (ns.length : Int) = ((k % ns.length : Nat) : Int) := by omega
      have ml : k % ns.length < ns.length := Nat.mod_lt _ p
      have e : atI ns ((k : Int) % (ns.length : Int)) = some ns[k % ns.length] := by
        rw [m0]
        exact atI_nat (List.getElem?_eq_getElem ml)
      refine opt_of e ⟨(by show (0 : Int) < 2147483629; decide), MOk.right (by decide), ?_⟩
      generalize ha : ((ns[k % ns.length].natAbs : Int)) % 2147483629 = q
      have q0 : 0 ≤ q := by rw [← ha]; exact Int.emod_nonneg _ (by decide)
      exact box_end (by omega) h
    · rw [if_neg (by simpa using (by omega : (ns.length : Int) ≤ 0))]
      exact box_end (by omega) h
end DL
/-! max, min, remove, pop at a place, sorted of a dict, tuple(range(n)). -/
namespace DL
open PySem PySem.Spec L2 Gd
section
variable {K : PySem.W.Frag} {dx : Dx}
/-! ### max, min -/
def fMax2 : D → D → Sto → (D → Sto → Prop) → Prop
  | .int i, .int j, S, Q => Q (.int (if j > i then j else i)) S
  | _, _, _, _ => False
def fMin2 : D → D → Sto → (D → Sto → Prop) → Prop
  | .int i, .int j, S, Q => Q (.int (if j < i then j else i)) S
  | _, _, _, _ => False
theorem cd_max2 : CallD K dx (fun xs H Q => ∃ i j, xs = [V.int i, V.int j] ∧ Q (.int (if j > i then j else i)) H) (two fMax2) := by
  refine cd_two fun v u p q H S Q Qh r h1 h2 t k => ?_
  cases h1 with
  | int i =>
    cases h2 with
    | int j => exact ⟨i, j, rfl, k _ H _ S r Ext.refl (.int _) t⟩
    | _ => exact t.elim
  | _ => cases h2 <;> exact t.elim
theorem cd_min2 : CallD K dx (fun xs H Q => ∃ i j, xs = [V.int i, V.int j] ∧ Q (.int (if j < i then j else i)) H) (two fMin2) := by
  refine cd_two fun v u p q H S Q Qh r h1 h2 t k => ?_
  cases h1 with
  | int i =>
    cases h2 with
    | int j => exact ⟨i, j, rfl, k _ H _ S r Ext.refl (.int _) t⟩
    | _ => exact t.elim
  | _ => cases h2 <;> exact t.elim
/-- of a list of numbers, not empty -/
def fMaxL (d : D) (S : Sto) (Q : D → Sto → Prop) : Prop := opt (asL S d) fun ds => opt (asI ds) fun ns => 0 < ns.length ∧ ∀ m ∈ ns, (∀ y ∈ ns, y ≤ m) → Q (.int m) S
def fMinL (d : D) (S : Sto) (Q : D → Sto → Prop) : Prop := opt (asL S d) fun ds => opt (asI ds) fun ns => 0 < ns.length ∧ ∀ m ∈ ns, (∀ y ∈ ns, m ≤ y) → Q (.int m) S
theorem cd_maxL : CallD K dx (rMax K) (one fMaxL) := by
  refine cd_one fun v d H S Q Qh r h t k => ?_
  obtain ⟨ds, e1, t⟩ := opt_run t
  obtain ⟨ns, e2, pos, t⟩ := opt_run t
  obtain ⟨p, vs, rfl, eh, al⟩ := asL_at r h e1
  rw [asI_at e2] at al
  rw [Dt.ints_of al] at eh
  exact ⟨p, ns, rfl, SqL.of eh, pos, fun m mm hm => k _ H _ S r Ext.refl (.int m) (t m mm hm)⟩
theorem cd_minL : CallD K dx (rMin K) (one fMinL) := by
  refine cd_one fun v d H S Q Qh r h t k => ?_
  obtain ⟨ds, e1, t⟩ := opt_run t
  obtain ⟨ns, e2, pos, t⟩ := opt_run t
  obtain ⟨p, vs, rfl, eh, al⟩ := asL_at r h e1
  rw [asI_at e2] at al
  rw [Dt.ints_of al] at eh
  exact ⟨p, ns, rfl, SqL.of eh, pos, fun m mm hm => k _ H _ S r Ext.refl (.int m) (t m mm hm)⟩
/-! ### xs.pop(i) -/
def fPopAt : D → List D → Sto → (D → Sto → Prop) → Prop
  | .adr p, [.int i], S, Q => opt (getS S p) fun ds => (-(2 ^ 63) ≤ i ∧ i < 2 ^ 63) ∧ opt (seqIndex? i ds.length) fun n => opt ds[n]? fun d => Q d (setS S p (.l (ds.eraseIdx n)))
  | _, _, _, _ => False
theorem DtAll.eraseIdx {M : Mm} {H : Hp} : ∀ {vs : List V} {ds : List D} (n : Nat), DtAll K M H vs ds → DtAll K M H (vs.eraseIdx n) (ds.eraseIdx n)
  | _, _, _, .nil => .nil
  | _, _, 0, .cons _ t => t
  | _, _, n + 1, .cons h t => .cons h (DtAll.eraseIdx n t)
theorem md_popAt : MetD K dx rPopAt fPopAt := by
  intro x vs p ds H S Q Qh r hx al t k
  cases hx with
  | adr p =>
    cases al with
    | nil => exact t.elim
    | cons h al =>
      cases al with
      | cons _ _ => cases h <;> exact t.elim
      | nil =>
        cases h with
        | int i =>
          obtain ⟨ds0, g, b, t⟩ := opt_run t
          obtain ⟨n, en, t⟩ := opt_run t
          obtain ⟨d, ed, t⟩ := opt_run t
          obtain ⟨m, ws, eh, a0⟩ := r.get g
          obtain ⟨v, ev, dv⟩ := a0.get ed
          have x1 : Ext (Mu dx S) H (Mu dx (setS S p (.l (ds0.eraseIdx n)))) (upd H p (.lst (ws.eraseIdx n))) := ext_set m
          exact ⟨p, ws, i, n, v, rfl, rfl, eh, b.1, b.2, by rw [a0.length]; exact en, ev, k _ _ _ _ (r.put m (DtAll.eraseIdx n a0)) x1 (dv.ext x1) t⟩
        | _ => exact t.elim
  | _ => exact t.elim
/-! ### xs.remove(number) -/
def fRemove : D → List D → Sto → (D → Sto → Prop) → Prop
  | .adr p, [.int i], S, Q => opt (getS S p) fun ds => opt (asI ds) fun ns => ∃ j : Nat, ns[j]? = some i ∧ (∀ m : Nat, m < j → ns[m]? ≠ some i) ∧ Q .non (setS S p (.l ((ns.eraseIdx j).map D.int)))
  | _, _, _, _ => False
theorem md_remove : MetD K dx rRemI fRemove := by
  intro x vs p ds H S Q Qh r hx al t k
  cases hx with
  | adr p =>
    cases al with
    | nil => exact t.elim
    | cons h al =>
      cases al with
      | cons _ _ => cases h <;> exact t.elim
      | nil =>
        cases h with
        | int i =>
          obtain ⟨ds0, g, t⟩ := opt_run t
          obtain ⟨ns, en, j, e1, e2, t⟩ := opt_run t
          obtain ⟨m, ws, eh, a0⟩ := r.get g
          rw [asI_at en] at a0
          rw [Dt.ints_of a0] at eh
          exact ⟨p, ns, i, j, rfl, rfl, eh, e1, e2, k _ _ _ _ (r.put m (DtAll.ints (ns.eraseIdx j))) (ext_set m) .non t⟩
        | _ => exact t.elim
  | _ => exact t.elim
/-! ### sorted of a dict of numbers -/
def rSortDI : List V → Hp → VK → Prop := fun xs H Q => ∃ (a : Addr) (kvs : List (Key × V)) (ks : List Int), xs = [.ref a] ∧ Rd H a (.dK kvs) ∧ kvs.map (·.1) = ks.map Sum.inl ∧ ks.length < 64 ∧
    ∀ (ys : List Int) (p : Addr), ys.Perm ks → ys.Pairwise (· ≤ ·) → H p = none → Q (.ref p) (upd H p (.lst (ys.map V.int)))
def fSortDI (d : D) (S : Sto) (Q : D → Sto → Prop) : Prop := opt (kvsOf S d) fun kvs => ∃ ks : List Int, kvs.map (·.1) = ks.map Sum.inl ∧ ks.length < 64 ∧ ∀ ys : List Int, ys.Perm ks → ys.Pairwise (· ≤ ·) → Q (.lst (ys.map D.int)) S
theorem cd_sortDI : CallD K dx rSortDI (one fSortDI) := by
  refine cd_one fun v d H S Q Qh r h t k => ?_
  obtain ⟨kvs, e, ks, ek, few, t⟩ := opt_run t
  obtain ⟨a, ws, rfl, rd, hk, al⟩ := kvs_of r h e
  refine ⟨a, ws, ks, rfl, rd, hk.trans ek, few, fun ys p pm pw n => ?_⟩
  obtain ⟨r2, x2, d2⟩ := new_lst r n (DtAll.ints ys)
  exact k _ _ _ S r2 x2 d2 (t ys pm pw)
end
section
variable {X : Cx} {dx : Dx}
theorem cr_sortDI (hc : X.calm = true) : CallR X (.builtin "sorted") rSortDI := call_sortedDI hc
/-- [..] that will be changed, in a def that is handed the box -/
theorem de_newB {a : Addr} {es : List Expr} {pos : Pos} {tr : TA} {fr : DTA} (h1 : dx.hand = handB a) (h : DA X dx es tr fr) : DE X dx (.List es pos) (tLst tr) (dNewR a fr) := by
  refine ⟨pe_lst h.pe, fun σ H δ S Q Qh r0 s0 t k => ?_⟩
  refine h.go σ H δ S _ _ r0 s0 t fun vs H1 ds S1 r1 x1 d1 t1 => ⟨by rw [d1.length]; exact t1.1.line, fun p n => ?_⟩
  have g := r1.grow n d1
  refine k _ _ _ _ g (x1.trans (ext_own r1 n)) (.adr p) (t1.2 p (fun e => ?_) (List.nodup_cons.mp g.nd).1)
  subst e
  have hp : dx.hand p := by rw [h1]; exact rfl
  exact (g.own p List.mem_cons_self).2 (g.hm p hp)
theorem cr_max_ (K : PySem.W.Frag) (hc : X.calm = true) (hK : X.K = K := by rfl) : CallR X (.builtin "max") (rMax K) := by subst hK; exact cr_max hc
theorem cr_min_ (K : PySem.W.Frag) (hc : X.calm = true) (hK : X.K = K := by rfl) : CallR X (.builtin "min") (rMin K) := by subst hK; exact cr_min hc
/-- sorted(set(e)), by its form -/
theorem de_sortSetS (K : PySem.W.Frag) (P : Program) (w : World) {e : Expr} {te : TE} {fa : DTE} {p p2 pos pos2 : Pos} (hc : X.calm = true) (hu : X.A.units + 64 < cLine) (h : DE X dx e te fa)
    (g1 : Gl X "sorted") (m1 : X.mg "sorted" = none) (g2 : Gl X "set") (m2 : X.mg "set" = none)
    (hs : starEach [e] X.env = (false, eval e X.env) :: starEach [] X.env := by rfl) (h1 : X.K = K := by rfl) (h2 : X.prog = P := by rfl) (h3 : X.w = w := by rfl) :
    DE X dx (.Call (.Name "sorted" p) [.Call (.Name "set" p2) [e] [] pos2] [] pos) (tCB (rSortA K P w) (tCons (tCB (rSetA K P w) (tCons te tNil)) tNil)) (dSortSet fa) :=
  de_sortSet_ K P w h (fun he => pe_callB (cr_sortA_ K P w hc hu h1 h2 h3) g1 m1 rfl (pa_cons (pe_callTy (cr_setA_ K P w hc hu h1 h2 h3) g2 m2 rfl (pa_cons he pa_nil hs) (he := hs)) pa_nil)) h1 h2 h3
/-! ### tuple(range(n)), list(range(n)) -/
def dTupRg (t : DTE) : DTE := fun δ S Q => t δ S (isI fun j S1 => RgOk 0 j ∧ Q (.tup (rngD 0 1 j.toNat)) S1)
def dLstRg (t : DTE) : DTE := fun δ S Q => t δ S (isI fun j S1 => RgOk 0 j ∧ Q (.lst (rngD 0 1 j.toNat)) S1)
theorem rgV_all {K : PySem.W.Frag} {M : Mm} {H : Hp} (j : Int) : DtAll K M H (rgV 0 j) (rngD 0 1 j.toNat) := by
  have e : rngD 0 1 j.toNat = (((List.range (j - 0).toNat).map fun i : Nat => (0 : Int) + (i : Nat)).map D.int) := by
    unfold rngD
    rw [Int.sub_zero, List.map_map]
    apply List.map_congr_left
    intro i _
    simp
  have e2 : rgV 0 j = (((List.range (j - 0).toNat).map fun i : Nat => (0 : Int) + (i : Nat)).map V.int) := by
    unfold rgV
    rw [List.map_map]
    rfl
  rw [e, e2]
  exact DtAll.ints _
theorem de_tupRg {a : Expr} {ta : TE} {fa : DTE} {p p2 pos pos2 : Pos} (hc : X.calm = true) (h : DE X dx a ta fa) (g1 : Gl X "tuple") (m1 : X.mg "tuple" = none) (g2 : Gl X "range") (m2 : X.mg "range" = none)
    (na : starEach [a] X.env = (false, eval a X.env) :: starEach [] X.env := by rfl) : DE X dx (.Call (.Name "tuple" p) [.Call (.Name "range" p2) [a] [] pos2] [] pos) (tTupRg (tRg1 ta)) (dTupRg fa) := by
  refine ⟨pe_tupRg hc g1 m1 (prg_1 g2 m2 h.pe na), fun σ H δ S Q Qh r s t k => ?_⟩
  refine h.go σ H δ S _ _ r s t fun v H1 d S1 r1 x1 d1 t1 => ?_
  cases d1 with
  | int j =>
    refine ⟨j, rfl, t1.1, fun q n => ?_⟩
    obtain ⟨r2, x2, d2⟩ := new_tup r1 n (rgV_all j)
    exact k _ _ _ S1 r2 (x1.trans x2) d2 t1.2
  | _ => exact t1.elim
theorem de_lstRg {a : Expr} {ta : TE} {fa : DTE} {p p2 pos pos2 : Pos} (hc : X.calm = true) (h : DE X dx a ta fa) (g1 : Gl X "list") (m1 : X.mg "list" = none) (g2 : Gl X "range") (m2 : X.mg "range" = none)
    (na : starEach [a] X.env = (false, eval a X.env) :: starEach [] X.env := by rfl) : DE X dx (.Call (.Name "list" p) [.Call (.Name "range" p2) [a] [] pos2] [] pos) (tLstRg (tRg1 ta)) (dLstRg fa) := by
  refine ⟨pe_listRg hc g1 m1 (prg_1 g2 m2 h.pe na), fun σ H δ S Q Qh r s t k => ?_⟩
  refine h.go σ H δ S _ _ r s t fun v H1 d S1 r1 x1 d1 t1 => ?_
  cases d1 with
  | int j =>
    refine ⟨j, rfl, t1.1, fun q n => ?_⟩
    obtain ⟨r2, x2, d2⟩ := new_lst r1 n (rgV_all j)
    exact k _ _ _ S1 r2 (x1.trans x2) d2 t1.2
  | _ => exact t1.elim
end
end DL
/-! Several except clauses that bear one name; own errors with one attribute. -/
namespace DL
open PySem PySem.Spec PyProof.Rows L2 Gd

/-- a clause: the class that it names, and what its suite reads -/
abbrev Cl1 := Value × (Addr → Value → Option Addr → TS)
/-- behind a suite the name in slot i is gone -/
def gone (i : Nat) (D : Ends) : Ends where
  nx := fun σ H => D.nx (σ.set i none) H
  rt := D.rt
  bk := fun σ H => D.bk (σ.set i none) H
  ct := fun σ H => D.ct (σ.set i none) H
/-- what the clauses wish, from the first one on -/
def wCl (K : PySem.W.Frag) (m i : Nat) (Wout : WX) (D : Ends) : List Cl1 → WX
  | [] => Wout
  | p :: r => fun cls d σ H => ∃ b, PySem.W.exmOne K cls p.1 = some b ∧
      (b = true → σ.length = m → ∀ a, H a = none → p.2 a cls d (gone i D) (σ.set i (some (.ref a))) H) ∧ (b = false → wCl K m i Wout D r cls d σ H)
inductive CleOk (X : Cx) (n : Str) : List ExceptHandler → List Cl1 → Prop
  | nil : CleOk X n [] []
  | cons {x : Str} {q : Cl1} {s1 : Stmt} {sr : List Stmt} {p1 p2 : Pos} {hr : List ExceptHandler} {r : List Cl1} : Names X x q.1 →
      (∀ (a : Addr) (oe : Obj) (cls : Value) (d : Option Addr) (pn : List (Addr × Obj)), Zc cls d oe → (∃ vs, oe.data = .fields vs) → PSs (X.suite a ((a, oe) :: pn)) (s1 :: sr) (q.2 a cls d)) →
      CleOk X n hr r → CleOk X n (.ExceptHandler (some (.Name x p1)) (some n) (s1 :: sr) p2 :: hr) (q :: r)

section
variable {X : Cx} {body : List Stmt} {h0 : ExceptHandler} {hr : List ExceptHandler} {l : List Cl1} {pos : Pos} {tb : WX → TS} {Wout : WX} {n : Str} {i : Nat}
/-- where an error of the body has come down -/
structure Down (X : Cx) (pins : List (Addr × Obj)) (a : Addr) (B : Heap) (sI s' : Shared) (σ : L2.St) (H : Hp) (cls : Value) (d : Option Addr) (h : Heap) : Prop where
  inv : Inv X pins σ H sI
  gr : ∀ b o, sI.heap.get? b = some o → b ∉ frs X.stack → B.get? b = some o
  up : sI.heap.UpToSlots h
  fly : HandSPX.FlyingZ B (X.env :: X.outer) a (Zc cls d) h
  na : H a = none
  os : s'.os = sI.os
  bare : AllBare s'.gens
section
variable {pins : List (Addr × Obj)} {a : Addr} {B : Heap} {sI s' : Shared} {σ : L2.St} {H : Hp} {cls : Value} {d : Option Addr} {h : Heap}
theorem Down.here (x : Down X pins a B sI s' σ H cls d h) : Inv X pins σ H { s' with heap := h } := x.inv.landed x.gr x.fly.1 x.up x.os x.bare
theorem Down.on (x : Down X pins a B sI s' σ H cls d h) {h2 : Heap} (f : HandSPX.FlyingZ B (X.env :: X.outer) a (Zc cls d) h2) (u : h.UpToSlots h2) : Down X pins a B sI s' σ H cls d h2 :=
  ⟨x.inv, x.gr, x.up.trans u, f, x.na, x.os, x.bare⟩
theorem Down.nofr (x : Down X pins a B sI s' σ H cls d h) : a ∉ frs (X.env :: X.outer) := fun m => by
  obtain ⟨oe, vs, e, _, dd⟩ := x.fly.there
  obtain ⟨_, o, e2, nf⟩ := x.fly.2.2.1.mem m
  rw [e] at e2
  cases e2
  exact nf vs dd
/-- as the suite sees it -/
theorem Down.suite (hf : X.env.frame = some X.env.locals) (x : Down X pins a B sI s' σ H cls d h) {oe : Obj} {vs : Array Value} (e : h.get? a = some oe) (dd : oe.data = .fields vs) :
    Inv (X.suite a ((a, oe) :: (X.pn ++ pins))) [] σ H { s' with heap := h } := by
  refine x.here.suite e dd x.na (fun z => ?_) fun m => ?_
  · exact x.nofr (List.mem_filterMap.mpr ⟨X.env, List.mem_cons_self, by rw [hf, z]⟩)
  · obtain ⟨ev, m2, q⟩ := List.mem_filterMap.mp m
    exact x.nofr (List.mem_filterMap.mpr ⟨ev, List.mem_cons_of_mem _ m2, q⟩)
end
/-- one clause after another is asked -/
theorem asked (hs : X.stack = X.env :: X.outer) (hf : X.env.frame = some X.env.locals) (nd : X.N.Nodup) (hi : X.N[i]? = some n) (loc : X.env.kindOf n = some .local) (tk : Takes X Wout)
    {pins : List (Addr × Obj)} {D : Ends} {a : Addr} {B : Heap} {sI s' : Shared} {σ : L2.St} {H : Hp} {cls : Value} {d : Option Addr} {h : Heap} {hds : List ExceptHandler} {r : List Cl1}
    (ok : CleOk X n hds r) : Down X pins a B sI s' σ H cls d h → wCl X.K X.N.length i Wout D r cls d σ H → wpAny (model X.prog X.w) X.A (handleBy (.ref a) X.env hds) (SP X pins D) X.xe { s' with heap := h } := by
  induction ok with
  | nil =>
    intro x w
    obtain ⟨_, _, _, oe, vs, T, oT, ts, e1, _, d1, e2, _⟩ := id x.fly
    apply wpAny_handleBy_nil
    unfold PySem.passOn
    apply wpAny_bind (wpAny_field e1 d1 e2 _)
    rw [if_neg (by simp)]
    have last : wpAny (model X.prog X.w) X.A (setFlight (.ref a) X.env.frame) (fun _ s4 => wpAny (model X.prog X.w) X.A (throw (.ref a) : Sem Flow) (SP X pins D) X.xe s4) X.xe { s' with heap := h } := by
      rw [hf]
      apply HandSPX.setFlight_upZ x.fly
      intro h4 hh up4
      apply wpAny_throw
      exact tk _ _ ⟨a, B, sI, pins, σ, H, cls, d, rfl, x.inv, x.gr, x.up.trans up4, .inr (.inr (by rw [hs]; exact hh)), x.na, x.os, x.bare, w⟩
    first
      | exact wpAny_bind last
      | exact wpAny_bind (wpAny_pure (wpAny_bind last))
  | @cons y q s1 sr p1 p2 hr r nm su _ ih =>
    rintro x ⟨b, eb, yes, no⟩
    obtain ⟨oe, vs, e1, z1, d1⟩ := x.fly.there
    have kI := x.here.kIn
    have ty : PySem.W.Looks (model X.prog X.w) h (typeOf (.ref a)) cls := fun A Q E s k t => wpAny_typeOf_ref (k _ _ e1) (by rw [z1.1]; exact t)
    have m := PySem.W.exm_one (M := model X.prog X.w) kI ty eb
    have S1 := x.suite hf e1 d1
    have name : ∀ {Q : Value → Shared → Prop} {E : Value → Shared → Prop}, Q q.1 { s' with heap := h } → wpAny (model X.prog X.w) (X.A.mark (some (.ref a))) (eval (.Name y p1) X.env) Q E { s' with heap := h } := by
      intro Q E t
      rcases nm with ⟨g, g2, g3 | ⟨g3, g4, g5⟩⟩
      · exact ld_glob (X := X.suite a ((a, oe) :: (X.pn ++ pins))) S1 g g3 t g2
      · exact ld_blt (X := X.suite a ((a, oe) :: (X.pn ++ pins))) S1 g g3 g4 t g5 g2
    apply wpAny_handleBy_cons (codeAny_handlers_test (name (m.here _))) (fun z => nomatch z)
    cases b with
    | false => exact ih x (no rfl)
    | true =>
      apply codeAny_handlers_suite_as
      apply HandSPX.lands_againZ x.fly
      intro h4 f4 u4
      have x4 := x.on f4 u4
      obtain ⟨oe4, vs4, e4, z4, d4⟩ := f4.there
      apply store_ok (X := X.suite a ((a, oe4) :: (X.pn ++ pins))) (v := .ref a) (x4.suite hf e4 d4) nd hi (.inl loc) rfl _ (.inr loc)
      intro s5 S5
      have behind : ∀ {σ6 : L2.St} {H6 : Hp} {s6 : Shared} {G : Shared → Prop}, Inv (X.suite a ((a, oe4) :: (X.pn ++ pins))) [] σ6 H6 s6 → (∀ s7, Inv X pins (σ6.set i none) H6 s7 → G s7) →
          wpAny (model X.prog X.w) X.A (do bindName X.env n .none; unbindBehindTheSuite X.env n p2) (fun _ s7 => G s7) X.xe s6 := fun I6 g => gone_ok (I6.unsuite x.here.ok) nd hi loc g
      refine wpAny_mono ((su a oe4 cls d (X.pn ++ pins) z4 ⟨_, d4⟩).run [] s5 _ H _ S5 (yes rfl x.inv.len a x.na)) ?_ (fun _ _ z => z.elim)
      intro f s6 hsp
      cases f with
      | ret u =>
        obtain ⟨v6, σ6, H6, I6, r6, q6⟩ := hsp
        exact behind I6 fun s7 J => ⟨_, _, _, J, r6, q6⟩
      | _ =>
        obtain ⟨σ6, H6, I6, q6⟩ := hsp
        exact behind I6 fun s7 J => ⟨_, _, J, q6⟩
/-- try: .. / except A as n: .. / except B as n: .. -/
theorem ps_tryAs (hs : X.stack = X.env :: X.outer) (hf : X.env.frame = some X.env.locals) (nd : X.N.Nodup) (hi : X.N[i]? = some n) (loc : X.env.kindOf n = some .local) (tk : Takes X Wout)
    (hb : ∀ (W : WX) (pn : List (Addr × Obj)) (xe : Value → Shared → Prop), Takes (X.tr pn xe) W → PassesOwn (model X.prog X.w) X.A X.env xe → PSs (X.tr pn xe) body (tb W))
    (ok : CleOk X n (h0 :: hr) l) : PS X (.Try body (h0 :: hr) [] [] pos) (fun D σ H => tb (wCl X.K X.N.length i Wout D l) D σ H) := by
  constructor
  intro pins s σ H D I t
  have okX := I.ok
  apply wpAny_Try_except
  refine wpAny_mono ((hb (wCl X.K X.N.length i Wout D l) (X.pn ++ pins) (fun e s1 => wpAny (model X.prog X.w) X.A (noteFrame e X.env) (fun _ s2 => wpAny (model X.prog X.w) X.A (setFlight e none) (fun _ s3 =>
    wpAny (model X.prog X.w) X.A (handleBy e X.env (h0 :: hr)) (SP X pins D) X.xe s3) X.xe s2) X.xe s1) ?_ PassesOwn.looking).run [] s σ H D (I.toTry _) t) ?_ (fun _ _ z => z)
  · rintro u s' ⟨a, B, sI, pins', σ', H', cls, d, rfl, J, gr, up, sky, na, os, bare, w⟩
    have fr : X.A.frames = some (X.env :: X.outer) := by rw [okX.frames, hs]
    have sky2 : Sky B (X.env :: X.outer) a (Zc cls d) X.env.locals s'.heap := by rw [← hs]; exact sky
    refine Sky.land Zc.steady fr hf sky2 fun h3 f3 u3 => ?_
    exact asked hs hf nd hi loc tk ok ⟨J.ofTry okX, gr, up.trans u3, f3, na, os, bare⟩ w
  · intro f s1 hsp
    cases f with
    | ret u =>
      obtain ⟨v, σ', H', J, r, q⟩ := hsp
      exact ⟨v, σ', H', J.ofTry okX, r, q⟩
    | next =>
      obtain ⟨σ', H', J, q⟩ := hsp
      exact wpAny_execs_nil ⟨σ', H', J.ofTry okX, q⟩
    | _ =>
      obtain ⟨σ', H', J, q⟩ := hsp
      exact ⟨σ', H', J.ofTry okX, q⟩
end

/-- isinstance(e, c), e the error that the suite holds, with attributes of its own -/
theorem call_isD {X : Cx} {a D : Addr} {d : Option Addr} {oe : Obj} {pn : List (Addr × Obj)} (C : ExcC X.K D) (hz : Zc (.ref D) d oe) (hf : ∃ vs, oe.data = .fields vs) (hd : ∀ dd, d = some dd → ∀ (H : Hp) (h : Heap), HOk X.prog X.w H h → (∃ fs, H dd = some (.xd fs)) → ∃ o, h.get? dd = some o) :
    CallR (X.suite a ((a, oe) :: pn)) (.builtin "isinstance") (fun xs H Q => (∀ dd, d = some dd → ∃ fs, H dd = some (.xd fs)) ∧ rIsE X.K D a xs H Q) := by
  rintro pins s σ H xs us Q I r ⟨hx, c, cv, b, rfl, hcv, e, q⟩
  cases r with
  | cons rx rr =>
    cases rr with
    | cons rt rr =>
      cases rr
      cases rx
      cases hcv _ rt
      obtain ⟨g, _⟩ := I.pin (a, oe) (List.mem_append_left _ List.mem_cons_self)
      obtain ⟨vs, hv⟩ := hf
      have J : ∃ od, PySem.W.InstAt s.heap a oe D od := by
        cases d with
        | none => exact ⟨none, g, hz.1, by unfold PySem.W.notCls; rw [hv] <;> rfl, by rw [hz.2]; exact trivial⟩
        | some dd =>
          obtain ⟨o, ho⟩ := hd dd rfl H s.heap I.hok (hx dd rfl)
          exact ⟨some o, g, hz.1, by unfold PySem.W.notCls; rw [hv] <;> rfl, by rw [hz.2]; exact ho⟩
      obtain ⟨od, J⟩ := J
      have cl : (PySem.W.clsIn X.K D).isSome = true := by
        obtain ⟨cd, e, _⟩ := PySem.W.any_some C.hd
        rw [e] <;> rfl
      exact PySem.W.kia_one (PySem.W.kitx_exc cl C.hg C.hk C.hs C.ha C.hn C.ht C.hm) I.kIn J e (fun z => nomatch z) fun tk => ⟨.bl b, H, I.kept (t' := tk) fun _ _ z => z, rfl, q⟩
end DL
/-! A frame with tables of code objects beside the source of draws: for laws that make lambdas. -/
namespace DL
open PySem PySem.Spec L2 Gd
open LamX (Tabs TabS TabB CodeO ExtN)

theorem codeO_notLs {c : Addr} {q : Str} : ¬ Ls (CodeO c q) := fun z => z
/-- tables stay as they are where all but lists stay -/
theorem Tabs.kept {T : List (Addr × Str)} {H H' : Hp} (t : Tabs T H) (k : ∀ b u, ¬ Ls u → H b = some u → H' b = some u) : Tabs T H' := fun p m => by
  obtain ⟨ps, h1, h2, h3⟩ := t p m
  refine ⟨ps, k _ _ (fun z => z) h1, h2, fun pos cv e => ?_⟩
  obtain ⟨c, e1, e2⟩ := h3 pos cv e
  exact ⟨c, e1, k _ _ codeO_notLs e2⟩
def handT (a c : Addr) (T : List (Addr × Str)) : Addr → Prop := fun b => (b = a ∨ b = c) ∨ b ∈ T.map (·.1)
def JT (a c : Addr) (T : List (Addr × Str)) : Hp → Prop := fun H => RandOk a c H ∧ Tabs T H
theorem RandOk.stab {a c : Addr} : ∀ H1 H2 : Hp, (∀ b, handR a c b → H2 b = H1 b) ∧ Stays H1 H2 → RandOk a c H1 → RandOk a c H2 := by
  rintro H1 H2 ⟨same, _⟩ ⟨ne, cs, z, e1, e2, ok⟩
  exact ⟨ne, cs, z, (same a (.inl rfl)).trans e1, (same c (.inr rfl)).trans e2, ok⟩
theorem JT.stab {a c : Addr} {T : List (Addr × Str)} : ∀ H1 H2 : Hp, (∀ b, handT a c T b → H2 b = H1 b) ∧ Stays H1 H2 → JT a c T H1 → JT a c T H2 := by
  rintro H1 H2 ⟨same, st⟩ ⟨j1, j2⟩
  exact ⟨RandOk.stab H1 H2 ⟨fun b h => same b (.inl h), st⟩ j1, Tabs.kept j2 st⟩
def spT (K : PySem.W.Frag) (T : List (Addr × Str)) (spec : Addr → DSpec) : Sp := fun vs H Q E => ∃ a c, spD K (handT a c T) (JT a c T) (spec a) vs H Q E
/-- who needs the source of draws alone is content with more -/
theorem spT.less {K : PySem.W.Frag} {T : List (Addr × Str)} {spec : Addr → DSpec} : ∀ vs H Q E, spT K T spec vs H Q E → spR K spec vs H Q E := by
  rintro vs H Q E ⟨a, c, m, ds, post, live, hm, _, ⟨j, tb⟩, al, sp, k'⟩
  refine ⟨a, c, m, ds, post, live, fun b h => hm b (.inl h), RandOk.stab, j, al, sp, fun v H' d kp lv j' hd q => ?_⟩
  refine k' v H' d (fun b o e n => kp b o e fun z => n (.inl z)) lv ⟨j', Tabs.kept tb fun b u n e => kp b u e ?_⟩ hd q
  obtain ⟨_, cs, z, ea, ec, _⟩ := j
  rintro (rfl | rfl)
  · rw [ea] at e
    cases e
    exact n trivial
  · rw [ec] at e
    cases e
    exact n trivial
section
variable {P : Program} {w : World} {K : PySem.W.Frag} {mg : Str → Option Value} {base : Heap}
/-- a def whose code object is known -/
def CodeAt (fd : FuncData) (c : Addr) : Prop := fd.code = .ref c
theorem fnG_bodyC {CX : CXT} {k : Nat} {x qual : Str} {st : Stmt} {f : Addr} {fd : FuncData} {N ps : List Str} {sp : Sp}
    (F : Fun K x qual st f fd) (S : FnScope N ps (defScope st))
    (many : ∀ vs H Q E, sp vs H Q E → vs.length = ps.length)
    (body : ∀ (A : Around) (fr : List Env) (s : Shared) (H : Hp) (vs : List V) (Q : VK) (E : XK),
      Room k (A.deeper (PyProof.Rows.envOfC qual (defScope st) s.heap.objs.size f fd.code)) → A.guards = some [] → sp vs H Q E →
      ∃ t, PSs (cxOf CX P w K mg base N qual (defScope st) f fd.code A fr s H E) (defBody st) t ∧
        t { nx := fun _ H' => Q .non H', rt := Q } (L2.start N vs) H) :
    FnG P w K mg base CX (k + 1) f fd ps sp := by
  obtain ⟨oc, od, kV, doc, pm, an, cdv, ct, osl, rfl, found, code⟩ := F.ex
  have F2 : Fun K x qual st f (PySem.W.fnOf x qual (defArgs st) (defBody st) (defScope st) .none kV doc pm an cdv ct) := F
  refine ⟨many, fun A fr s H args us vs Q E room guard env bind rel want => ?_⟩
  have n1 : vs.length = ps.length := many vs H Q E want
  have kin : K.In s.heap := env.mod.kin.keeps (fun b o h => (env.bs b o h).1)
  have calm : s.heap.NoLimit := env.mod.nolimit.keeps (fun b o h => (env.bs b o h).1)
  refine codeAny_call_function room.depth (kin f _ found) rfl S.co S.gen rfl (PySem.W.codeRec_of kin code) (bind _ _ _ _ ?_)
  refine wpAny_newFunctionEnv_cells S.kind ?_ ?_
  · rintro ⟨n, v⟩ hm
    rcases S.par n (List.of_mem_zip hm).1 with q | q
    · exact .inl q
    · exact .inr ⟨q, PySem.W.cellsFrom_some _ _ _ (.inl q)⟩
  · intro e1 he s1 into
    subst he
    refine ⟨calm.keeps into.toInCall.keep, codeAny_func ?_⟩
    obtain ⟨t, ht, go⟩ := body A fr s H vs Q E (room.deeper _) guard want
    have I0 := inv_start (CX := CX) (P := P) (mg := mg) (E := E) S room.hd env n1 rel into
    refine wpAny_mono (ht.run [] s1 (L2.start N vs) H _ I0 go) (fun fl s2 h2 => ?_) (fun e2 s2 h2 => h2)
    cases fl with
    | next =>
      obtain ⟨σ2, H2, J, q⟩ := h2
      exact ⟨.non, H2, J.os, J.bare, J.base, J.hok, rfl, q⟩
    | ret u =>
      obtain ⟨v, σ2, H2, J, r2, q⟩ := h2
      exact ⟨v, H2, J.os, J.bare, J.base, J.hok, r2, q⟩
    | brk =>
      obtain ⟨_, _, _, no⟩ := h2
      exact no.elim
    | cont =>
      obtain ⟨_, _, _, no⟩ := h2
      exact no.elim
theorem fnT {k : Nat} {x qual : Str} {st : Stmt} {f : Addr} {fd : FuncData} {N ps : List Str} {T : List (Addr × Str)} {spec : Addr → DSpec}
    (F : Fun K x qual st f fd) (S : FnScope N ps (defScope st)) (len : ∀ a ds post, spec a ds post → ds.length = ps.length)
    (body : ∀ (A : Around) (fr : List Env) (s : Shared) (H : Hp) (E : XK), Room k (A.deeper (PyProof.Rows.envOfC qual (defScope st) s.heap.objs.size f fd.code)) → A.guards = some [] →
      ∀ (a c : Addr) (dx : Dx), dx.hand = handT a c T → dx.J = JT a c T → ∃ ts t, DSs (Body P w K mg base N qual st f fd.code A fr s H E) dx (defBody st) ts t ∧
        ∀ ds post, spec a ds post → t { nx := fun _ _ => post .non, rt := fun d _ => post d } (startD N ds) []) :
    FnG P w K mg base CX0 (k + 1) f fd ps (spT K T spec) := by
  refine fnG_bodyC F S ?_ ?_
  · rintro vs H Q E ⟨a, c, m, ds, post, _, _, _, _, al, sp, _⟩
    rw [al.length]
    exact len a ds post sp
  · rintro A fr s H vs Q E room guard ⟨a, c, m, ds, post, live, hm, stab, j, al, sp, k'⟩
    obtain ⟨ts, t, h, q⟩ := body A fr s H E room guard a c ⟨m, H, handT a c T, JT a c T⟩ rfl rfl
    refine ⟨ts, h.pe.nox, ?_⟩
    have le : ExtD (Fo m) H (Mu ⟨m, H, handT a c T, JT a c T⟩ []) H := by
      refine ⟨fun _ _ _ e => e, fun b z n => ?_⟩
      rcases z with z | z | z
      · exact absurd (.inl z) n
      · exact absurd (.inl (hm b z)) n
      · cases z
    have r : HR K ⟨m, H, handT a c T, JT a c T⟩ H [] := ⟨fun p xs z => (nomatch z), List.nodup_nil, live, fun p z => (nomatch z), fun b o e _ => e, j, stab, hm⟩
    refine h.go _ H (startD N ds) [] { nx := fun _ _ => post .non, rt := fun d _ => post d } _ r (start_sr (al.extD le)) (q ds post sp) ⟨?_, ?_, ?_, ?_⟩
    · intro σ' H' δ' S' r' x' s' p'
      exact k' .non H' .non r'.keep r'.live r'.j .non p'
    · intro σ' H' δ' S' r' x' s' p'
      exact p'.elim
    · intro σ' H' δ' S' r' x' s' p'
      exact p'.elim
    · intro v H' d S' r' x' hd p'
      exact k' v H' d r'.keep r'.live r'.j hd p'
def spLT (K : PySem.W.Frag) (T : List (Addr × Str)) : Sp := fun vs H Q _ => ∃ (a : Addr) (ns : List Int), vs = [.ref a] ∧ ns.length ≤ 63 ∧ (∀ b u, H b = some u → (∃ o, u = .frz o (.lst (ns.map V.int))) ∨ u = .tbl #[]) ∧
  (∀ p ∈ T, H p.1 = some (.tbl #[])) ∧ SqL K H a (ns.map V.int) ∧ ∀ H', Q (.bl true) H'
theorem fnLawT {k : Nat} {x qual : Str} {st : Stmt} {f : Addr} {fd : FuncData} {N ps : List Str} {T : List (Addr × Str)} {y : Str} {py ps1 : Pos} {rest : List Stmt} {e1 : Expr}
    (F : Fun K x qual st f fd) (S : FnScope N ps (defScope st)) (len : ps.length = 1) (hb : defBody st = .Assign [.Name y py] e1 ps1 :: rest)
    (body : ∀ (A : Around) (fr : List Env) (s : Shared) (H : Hp) (E : XK), Room k (A.deeper (PyProof.Rows.envOfC qual (defScope st) s.heap.objs.size f fd.code)) → A.guards = some [] →
      ∃ te ts, (∀ dx, DE (Body P w K mg base N qual st f fd.code A fr s H E) dx e1 te (dCall spHeap (dCons (dVar 0) dNil))) ∧ PS (Body P w K mg base N qual st f fd.code A fr s H E) (.Assign [.Name y py] e1 ps1) (tAsg te (gName 1)) ∧
        ∀ (a c : Addr) (dx : Dx), dx.hand = handT a c T → dx.J = JT a c T → ∃ t, DSs (Body P w K mg base N qual st f fd.code A fr s H E) dx rest ts t ∧
          ∀ ns : List Int, ns.length ≤ 63 → t { nx := fun _ _ => False, rt := fun d _ => d = .bl true } (put (startD N [.fls ns]) 1 (.adr a)) []) :
    FnG P w K mg base CX0 (k + 1) f fd ps (spLT K T) := by
  refine fnG_bodyC F S ?_ ?_
  · rintro vs H Q E ⟨a, ns, rfl, _⟩
    rw [len]
    rfl
  · rintro A fr s H vs Q E room guard ⟨a0, ns, rfl, few, only, tbs, hS, k'⟩
    obtain ⟨te, ts, he, hp, hr⟩ := body A fr s H E room guard
    refine ⟨tSeq (tAsg te (gName 1)) ts, ?_, ?_⟩
    · rw [hb]
      refine (pss_cons hp ?_).nox
      obtain ⟨t, h, _⟩ := hr 0 0 ⟨fun _ => False, H, handT 0 0 T, JT 0 0 T⟩ rfl rfl
      exact h.pe
    · let dx0 : Dx := ⟨fun _ => False, H, noHand, noJ⟩
      have r0 : HR K dx0 H [] := ⟨fun p xs z => (nomatch z), List.nodup_nil, fun b z => z.elim, fun p z => (nomatch z), fun b o e _ => e, trivial, fun _ _ _ _ => trivial, fun b z => z.elim⟩
      have nm : ∀ b, ¬ (Mu dx0 []).mu b := fun b z => by
        rcases z with z | z | z
        · exact z
        · exact z
        · cases z
      have d0 : Dt K (Mu dx0 []) H (.ref a0) (.fls ns) := by
        rcases hS with h | h
        · exact .fls (nm _) h
        · exact .kfls h
      refine (he dx0).go (L2.start N [.ref a0]) H (startD N [.fls ns]) [] (fun d S => S = [] ∧ ∃ cs z, ROk cs z ∧ d = .lst [.lst (cs.map D.int), .int z]) _ r0 (start_sr (.cons d0 .nil)) ?_ ?_
      · exact ⟨ns, rfl, few, fun cs z ok => ⟨rfl, cs, z, ok, rfl⟩⟩
      · rintro v H' d S' r' x' hd ⟨rfl, cs, z, ok, rfl⟩
        obtain ⟨a, vs, rfl, _, ha, al⟩ := hd.sqL
        have key : ∃ c, vs = [.ref c, .int z] ∧ H' c = some (.lst (cs.map V.int)) := by
          cases al with
          | cons h1 al =>
            obtain ⟨c, ws, rfl, _, hc, bl⟩ := h1.sqL
            rw [Dt.ints_of bl] at hc
            cases al with
            | cons h2 al =>
              cases h2
              cases al
              exact ⟨c, rfl, hc⟩
        obtain ⟨c, rfl, hc⟩ := key
        have ne : a ≠ c := fun e => by
          subst e
          rw [ha] at hc
          cases cs with
          | nil => cases hc
          | cons i cs => injection hc with hc; injection hc with hc; injection hc with hc; cases hc
        have tb' : ∀ p ∈ T, H' p.1 = some (.tbl #[]) := fun p m => r'.keep p.1 _ (tbs p m) (fun z => z)
        have isT : ∀ b, b ∈ T.map (·.1) → H' b = some (.tbl #[]) := fun b m => by
          obtain ⟨p, mp, e⟩ := List.mem_map.mp m
          rw [← e]
          exact tb' p mp
        let dx1 : Dx := ⟨handT a c T, H', handT a c T, JT a c T⟩
        have r1 : HR K dx1 H' [] := by
          refine ⟨fun p xs z => (nomatch z), List.nodup_nil, fun b hb => ?_, fun p z => (nomatch z), fun b o e _ => e, ⟨⟨ne, cs, z, ha, hc, ok⟩, fun p m => LamX.TabS.nil (tb' p m)⟩, JT.stab, fun b z => z⟩
          rcases hb with (rfl | rfl) | hb
          · rw [ha]; exact fun z => nomatch z
          · rw [hc]; exact fun z => nomatch z
          · rw [isT b hb]; exact fun z => nomatch z
        have d1 : Dt K (Mu dx1 []) H' (.ref a0) (.fls ns) := by
          rcases hS with h | h
          · obtain ⟨o, e⟩ := Rd.some h
            have frz : ∃ o', o = .frz o' (.lst (ns.map V.int)) := by
              rcases only a0 o e with h2 | h2
              · exact h2
              · exfalso
                subst h2
                rcases h with h | ⟨o', h⟩
                · rw [e] at h; cases h
                · rw [e] at h; cases h
            obtain ⟨o', rfl⟩ := frz
            have e2 := r'.keep a0 _ e (fun z => z)
            refine .fls ?_ (.inr ⟨o', e2⟩)
            have nh : ¬ handT a c T a0 := by
              rintro ((z | z) | z)
              · rw [z, ha] at e2; cases e2
              · rw [z, hc] at e2; cases e2
              · rw [isT a0 z] at e2; cases e2
            rintro (z | z)
            · exact nh z
            · rcases z with z | z
              · exact nh z
              · cases z
          · exact .kfls h
        obtain ⟨t, h, q⟩ := hr a c dx1 rfl rfl
        have s1 : SR K dx1 ((L2.start N [.ref a0]).set 1 (some (.ref a))) H' (put (startD N [.fls ns]) 1 (.adr a)) [] := by
          rw [put_set]
          exact (start_sr (.cons d1 .nil)).set 1 (.adr a)
        show ts _ ((L2.start N [.ref a0]).set 1 (some (.ref a))) H'
        refine h.go _ H' _ [] { nx := fun _ _ => False, rt := fun d _ => d = .bl true } _ r1 s1 (q ns few) ⟨?_, ?_, ?_, ?_⟩
        · intro σ' H' δ' S' r' x' s' p'
          exact p'.elim
        · intro σ' H' δ' S' r' x' s' p'
          exact p'.elim
        · intro σ' H' δ' S' r' x' s' p'
          exact p'.elim
        · rintro v H2 d S' r' x' hd rfl
          cases hd
          exact k' H2
end
section
variable {X : Cx} {dx : Dx} {k : Nat} {f a c : Addr} {fd : FuncData} {ps : List Str} {x : Str} {p pos : Pos} {e : Expr} {es : List Expr} {ta : TA} {fa : DTA} {spec : Addr → DSpec} {T : List (Addr × Str)}
theorem de_callT (K : PySem.W.Frag) (F : FnG X.prog X.w K X.mg X.base CX0 k f fd ps (spT K T spec)) (room : Room k X.A) (guard : X.A.guards = some [])
    (hg : Gl X x) (hm : X.mg x = some (.ref f)) (kp : PySem.W.keepIn K (.ref f) = true) (hb : Binds K fd ps []) (h1 : dx.hand = handT a c T) (h2 : dx.J = JT a c T) (ha : DA X dx (e :: es) ta fa) (hK : X.K = K := by rfl)
    (hdb : (x == ("__debug__" : Str)) = false := by decide)
    (he : starEach (e :: es) X.env = (false, eval e X.env) :: starEach es X.env := by rfl)
    (hpl : (backTo pos (starEach es X.env)).any (·.1) = false := by rfl) :
    DE X dx (.Call (.Name x p) (e :: es) [] pos) (tCall (spT K T spec) [] (fun _ _ _ => False) ta) (dCall (spec a) fa) := by
  subst hK
  refine ⟨pe_callG F room guard hg hm kp hb .nil pass0 ha.pe hdb he hpl, fun σ H δ S Q Qh r s t kk => ?_⟩
  refine ha.go σ H δ S _ _ r s t fun vs H1 ds S1 r1 x1 d1 t1 => ?_
  rw [List.append_nil]
  exact ⟨a, c, spd_go r1 d1 (.inr ⟨h1.symm, h2.symm⟩) t1 (kk.on x1)⟩
/-- f(heap, ..), f in need of the source alone -/
theorem de_callRT (K : PySem.W.Frag) (F : FnG X.prog X.w K X.mg X.base CX0 k f fd ps (spR K spec)) (room : Room k X.A) (guard : X.A.guards = some [])
    (hg : Gl X x) (hm : X.mg x = some (.ref f)) (kp : PySem.W.keepIn K (.ref f) = true) (hb : Binds K fd ps []) (h1 : dx.hand = handT a c T) (h2 : dx.J = JT a c T) (ha : DA X dx (e :: es) ta fa) (hK : X.K = K := by rfl)
    (hdb : (x == ("__debug__" : Str)) = false := by decide)
    (he : starEach (e :: es) X.env = (false, eval e X.env) :: starEach es X.env := by rfl)
    (hpl : (backTo pos (starEach es X.env)).any (·.1) = false := by rfl) :
    DE X dx (.Call (.Name x p) (e :: es) [] pos) (tCall (spT K T spec) [] (fun _ _ _ => False) ta) (dCall (spec a) fa) :=
  de_callT K (F.weaker spT.less) room guard hg hm kp hb h1 h2 ha hK hdb he hpl
end
end DL
/-! A lambda handed to a def: all but the maker's own table of code objects stays. -/
namespace DL
open PySem PySem.Spec PyProof.Rows L2 Gd
open LamX (Tabs TabS TabB CodeO LamS GivesTo lamEnv lamCx)

section
variable {X : Cx} {pins : List (Addr × Obj)} {σ : L2.St} {H : Hp} {s : Shared}
/-- the tables behind the making -/
theorem tabs_more {T : List (Addr × Str)} {P c' : Addr} {q : Str} {ps : Array Value} {pos : Pos} (t : Tabs T H) (hP : H P = some (.tbl ps)) (ok : TriplesOk ps.toList)
    (know : ∀ (p : Pos) (cv : Value), codeAmong p ps.toList = some cv → ∃ c, cv = .ref c ∧ H c = some (CodeO c q)) (one : ∀ p ∈ T, p.1 = P → p.2 = q) (fresh : H c' = none) :
    Tabs T (upd (upd H P (.tbl (ps ++ #[rawInt pos.line, rawInt pos.col, .ref c']))) c' (CodeO c' q)) := by
  have neP : P ≠ c' := ne_of_none hP fresh
  have stay : ∀ b u, b ≠ P → H b = some u → upd (upd H P (.tbl (ps ++ #[rawInt pos.line, rawInt pos.col, .ref c']))) c' (CodeO c' q) b = some u := fun b u n e => by
    rw [upd_ne (ne_of_none e fresh), upd_ne n]
    exact e
  have code : ∀ c k, H c = some (CodeO c k) → upd (upd H P (.tbl (ps ++ #[rawInt pos.line, rawInt pos.col, .ref c']))) c' (CodeO c' q) c = some (CodeO c k) := fun c k e => stay c _ (fun z => by
    rw [z, hP] at e
    exact LamX.codeO_ne (c := P) (q := k) ps (Option.some.inj e).symm) e
  intro p m
  by_cases z : p.1 = P
  · rw [one p m z, z]
    have el : (ps ++ #[rawInt pos.line, rawInt pos.col, .ref c']).toList = ps.toList ++ [rawInt pos.line, rawInt pos.col, .ref c'] := by simp
    refine ⟨_, (upd_ne neP).trans upd_same, by rw [el]; exact PySem.TriplesOk_snoc _ _ _ _ ok, fun p2 cv hc => ?_⟩
    rw [el] at hc
    rcases LamX.among_app _ ok hc with h | h
    · obtain ⟨c0, e1, e2⟩ := know p2 cv h
      exact ⟨c0, e1, code _ _ e2⟩
    · exact ⟨c', h, upd_same⟩
  · obtain ⟨qs, a1, a2, a3⟩ := t p m
    refine ⟨qs, stay _ _ z a1, a2, fun p2 cv hc => ?_⟩
    obtain ⟨c0, e1, e2⟩ := a3 p2 cv hc
    exact ⟨c0, e1, code _ _ e2⟩
abbrev lamOf (X : Cx) (params : Arguments) (body : Expr) (scope : Scope) (pm : Value) (c' : Addr) (ctv : Value) : Obj :=
  PySem.W.kla_obj "<lambda>" (X.env.qual ++ "<lambda>") params body scope (cloFrom X.env.cells scope.names []) pm c' ctv
theorem lam_made {T : List (Addr × Str)} {c P : Addr} {params : Arguments} {body : Expr} {scope : Scope} {pos : Pos} {E Q : Value → Shared → Prop} (I : Inv X pins σ H s) (TB : TabB X.base X.mg c P) (hcode : X.env.code = .ref c)
    (hm : (P, X.env.qual ++ "<lambda>") ∈ T) (one : ∀ p ∈ T, p.1 = P → p.2 = X.env.qual ++ "<lambda>") (tabs : Tabs T H) (hdef : defaultsOf params X.env = ([], [])) (free : ∀ y ∈ scope.names, y.2 = .free → ∃ c, X.env.cells.lookup y.1 = some c)
    (go : ∀ (f c' : Addr) (pm ctv : Value) (H1 : Hp) (s1 : Shared), Inv X pins σ H1 s1 → (∀ b u, b ≠ P → H b = some u → H1 b = some u) → Tabs T H1 →
      s1.heap.get? f = some (lamOf X params body scope pm c' ctv) → H1 f = none → f ∉ frs X.stack → H1 c' = some (CodeO c' (X.env.qual ++ "<lambda>")) → Q (.ref f) s1) :
    wpAny (model X.prog X.w) X.A (eval (.Lambda params body scope pos) X.env) Q E s := by
  obtain ⟨ps, hP, ok, know⟩ := tabs _ hm
  have atP : s.heap.get? P = some { cls := .none, data := .fields ps } := I.hok P _ hP
  have blt : s.heap.BuiltinsAt X.mg P := TB.bm.keeps I.bk
  have notFr : ∀ f, s.heap.objs.size ≤ f → f ∉ frs X.stack := fun f hf z => by
    rcases List.mem_cons.mp (I.stkSub _ z) with e | e
    · exact absurd I.lt (by rw [← e]; exact Nat.not_lt.mpr hf)
    · exact I.nofs hf e
  apply PySem.W.kla_eval hdef
  cases known : codeAmong pos ps.toList with
  | some cv =>
    obtain ⟨c', rfl, hco⟩ := know pos cv known
    refine PySem.W.kla_makeFunctionHit (mg := X.mg) (c := c) (P := P) (ps := ps) (closure_ok free) I.ok.glob (I.mod.glob.keeps I.bk) hcode (TB.code.keeps I.bk) atP ok known blt ?_
    intro ctv h' tk keep more
    refine go h'.objs.size c' ((X.mg "__name__").getD .none) ctv H _ (I.kept fun b o e => Heap.get?_push_of_some _ (keep b o e)) (fun _ _ _ e => e) tabs (Heap.get?_push_size _ rfl) (I.hok.fresh more) (notFr _ more) hco
  | none =>
    refine PySem.W.kla_makeFunction (mg := X.mg) (c := c) (P := P) (ps := ps) (closure_ok free) I.ok.glob (I.mod.glob.keeps I.bk) hcode (TB.code.keeps I.bk) atP ok known TB.gP blt ?_
    rintro c' ctv h' tk keep ge lt ⟨c2, oc, vs, t, e2, hoc, hd, hv⟩ atP'
    cases e2
    have sz : s.heap.objs.size ≤ h'.objs.size := Nat.le_trans ge (Nat.le_of_lt lt)
    have fresh : H c' = none := I.hok.fresh ge
    have I1 := LamX.inv_table (t' := tk) (more := #[rawInt pos.line, rawInt pos.col, .ref c']) (h' := h'.push (lamOf X params body scope ((X.mg "__name__").getD .none) c' ctv)) I hP
      (fun b o n e => Heap.get?_push_of_some _ (keep b o n e)) (Heap.get?_push_of_some _ atP') ge ⟨oc, vs, t, Heap.get?_push_of_some _ hoc, hd, hv⟩
    refine go h'.objs.size c' ((X.mg "__name__").getD .none) ctv _ _ I1 (fun b u n e => ?_) (tabs_more tabs hP ok know one fresh) (Heap.get?_push_size _ rfl) ?_ (notFr _ sz) upd_same
    · rw [upd_ne (ne_of_none e fresh), upd_ne n]
      exact e
    · rw [upd_ne (Nat.ne_of_gt lt), upd_ne (Nat.ne_of_gt (Nat.lt_of_lt_of_le (Heap.lt_size atP) sz))]
      exact I.hok.fresh sz
end
def tLm (T : List (Addr × Str)) (P : Addr) (TT : (XK → Hp → VK → Prop) → Hp → VK → Prop) (t : XK → TE) : TE := fun σ H Q => Tabs T H ∧ ∀ H1, (∀ b u, b ≠ P → H b = some u → H1 b = some u) → Tabs T H1 → TT (fun E H' Q' => t E σ H' Q') H1 Q
section
variable {X : Cx}
/-- x(lambda: body) -/
theorem pe_lm {T : List (Addr × Str)} {TT : (XK → Hp → VK → Prop) → Hp → VK → Prop} {x a : Str} {g c P : Addr} {k : Nat} {st : Stmt} {fd : FuncData} {Ng : List Str}
    {params : Arguments} {body : Expr} {scope : Scope} {t : XK → TE} {p lpos pos : Pos} (F : Fun X.K x x st g fd) (hg : Gl X x) (hm : X.mg x = some (.ref g)) (hb : L2.Binds X.K fd [a] []) (Sg : FnScope Ng [a] (defScope st)) (hNg : Ng[0]? = some a) (hva : Vis (defScope st) a)
    (hG : ∀ cdv, GivesTo X Ng x (defScope st) g cdv (defBody st) a (X.env.qual ++ "<lambda>") TT)
    (TB : TabB X.base X.mg c P) (hcode : X.env.code = .ref c) (hmT : (P, X.env.qual ++ "<lambda>") ∈ T) (one : ∀ p ∈ T, p.1 = P → p.2 = X.env.qual ++ "<lambda>") (room : Room (k + 2) X.A) (L : LamS X.env.scope scope) (hdef : defaultsOf params X.env = ([], []))
    (hbind : ∀ (q : Str) (cl : List (Str × Addr)) (pm cv ctv : Value), bindArgs (PySem.W.kla_fn "<lambda>" q params body scope cl pm cv ctv) ⟨[], []⟩ = pure [])
    (hbody : ∀ (A : Around) (outer : List Env) (s : Shared) (H : Hp) (E : XK) (f c' : Addr), Room k (A.deeper (lamEnv X scope s.heap.objs.size f c')) → PE (lamCx X A outer s H E scope f c') body (t E))
    (hdb : (x == ("__debug__" : Str)) = false := by decide) (hd : (a == ("__debug__" : Str)) = false := by decide) (hcd : (a == ("__classdict__" : Str)) = false := by decide) :
    PE X (.Call (.Name x p) [.Lambda params body scope lpos] [] pos) (tLm T P TT t) := by
  constructor
  rintro pins s σ H Q I ⟨tabs, h⟩
  obtain ⟨oc, od, kV, doc, pm, an, cdv, ct, osl, rfl, lk, code⟩ := F.ex
  apply wpAny_Call_Name_kw
  apply ld_glob I hg hm _ hdb
  refine PySem.W.callWith_K (h₀ := X.base) I.ok.mod.kin F.kp ?_ rfl rfl
  show wpAny _ _ (spliced ((false, eval (.Lambda params body scope lpos) X.env) :: backTo pos (starEach [] X.env))) _ _ s
  apply Calls.spliced_cons
  refine lam_made I TB hcode hmT one tabs hdef (L.has I.ok) fun f c' pm' ctv H1 s1 I1 keep T1 hf free nfr hco => ?_
  refine Calls.spliced_nil ⟨I1.kIn, ?_⟩
  have ran : codeAny (model X.prog X.w) X.A (.call (.ref g) ⟨[.ref f], []⟩) (CR C8.CX0 X.stack X.prog X.w H1 s1 Q C8.E0) s1 := by
    refine LamX.run_ofS (N := Ng) (ps := [a]) (us := [.ref f]) (vs := [.ref f]) lk code Sg room I1.env0 (hb s1 [.ref f] I1.kIn rfl) (.cons rfl .nil) rfl fun room2 => ?_
    obtain ⟨t2, ht, hq⟩ := hG cdv f c' s1 H1 Q (fun E H' Q' => t E σ H' Q') (fun W pn xe E p1 p2 tk hW => LamX.pe_act (i := 0) I1 L hf free nfr (hbind _ _ _ _ _) tk hW room2 (fun A outer s H r2 => hbody A outer s H E f c' r2) hNg hva hd hcd) hco (h H1 keep T1)
    exact ⟨t2, ht.nox, hq⟩
  apply wpAny_call
  refine codeAny_mono ran fun r s2 hq => ?_
  cases r with
  | error e => exact (show False from hq).elim
  | ok fl =>
    cases fl with
    | ret u => exact I1.after hq
    | _ => exact False.elim hq
end
end DL
/-! Defs that raise an own error, over data; what a law hears of them. -/
namespace DL
open PySem PySem.Spec L2 Gd
open LamX (Tabs TabS TabB CodeO LamS GivesTo lamEnv lamCx)

/-! ### defs without a guard -/
theorem FnG.of {P : Program} {w : World} {K : PySem.W.Frag} {mg : Str → Option Value} {base : Heap} {CX : CXT} {k : Nat} {f : Addr} {fd : FuncData} {ps : List Str} {sp : Sp} (F : FnOk P w K mg base CX k f fd ps sp) : FnG P w K mg base CX k f fd ps sp :=
  ⟨F.len, fun A fr s H args us vs Q E r _ e b v q => F.run A fr s H args us vs Q E r e b v q⟩
section
variable {P : Program} {w : World} {K : PySem.W.Frag} {mg : Str → Option Value} {base : Heap}
theorem fnU {k : Nat} {x qual : Str} {st : Stmt} {f : Addr} {fd : FuncData} {N ps : List Str} {spec : DSpec}
    (F : Fun K x qual st f fd) (S : FnScope N ps (defScope st)) (len : ∀ ds post, spec ds post → ds.length = ps.length)
    (body : ∀ (cdv : Value) (A : Around) (fr : List Env) (s : Shared) (H : Hp) (E : XK), Room k (A.deeper (PyProof.Rows.envOfC qual (defScope st) s.heap.objs.size f cdv)) →
      ∀ dx : Dx, ∃ ts t, DSs (Body P w K mg base N qual st f cdv A fr s H E) dx (defBody st) ts t ∧
        ∀ ds post, spec ds post → t { nx := fun _ _ => post .non, rt := fun d _ => post d } (startD N ds) []) :
    FnOk P w K mg base CX0 (k + 1) f fd ps (spP K spec) := by
  refine Fun.ok F S ?_ ?_
  · rintro vs H Q E ⟨m, ds, post, _, _, _, _, a, sp, _⟩
    rw [a.length]
    exact len ds post sp
  · rintro cdv A fr s H vs Q E room ⟨m, ds, post, live, hm, stab, j, a, sp, k'⟩
    obtain ⟨ts, t, h, q⟩ := body cdv A fr s H E room ⟨m, H, noHand, noJ⟩
    refine ⟨ts, h.pe, ?_⟩
    have le : ExtD (Fo m) H (Mu ⟨m, H, noHand, noJ⟩ []) H := by
      refine ⟨fun _ _ _ e => e, fun b z n => ?_⟩
      rcases z with z | z | z
      · exact absurd (.inl z) n
      · exact z.elim
      · cases z
    have r : HR K ⟨m, H, noHand, noJ⟩ H [] := ⟨fun p xs z => (nomatch z), List.nodup_nil, live, fun p z => (nomatch z), fun b o e _ => e, j, stab, hm⟩
    refine h.go _ H (startD N ds) [] { nx := fun _ _ => post .non, rt := fun d _ => post d } _ r (start_sr (a.extD le)) (q ds post sp) ⟨?_, ?_, ?_, ?_⟩
    · intro σ' H' δ' S' r' x' s' p'
      exact k' .non H' .non r'.keep r'.live r'.j .non p'
    · intro σ' H' δ' S' r' x' s' p'
      exact p'.elim
    · intro σ' H' δ' S' r' x' s' p'
      exact p'.elim
    · intro v H' d S' r' x' hd p'
      exact k' v H' d r'.keep r'.live r'.j hd p'
end
section
variable {X : Cx} {dx : Dx} {k : Nat} {f : Addr} {fd : FuncData} {ps : List Str} {x : Str} {p pos : Pos} {e : Expr} {es : List Expr} {ta : TA} {fa : DTA} {spec : DSpec}
theorem de_callU (K : PySem.W.Frag) (F : FnOk X.prog X.w K X.mg X.base CX0 k f fd ps (spP K spec)) (room : Room k X.A)
    (hg : Gl X x) (hm : X.mg x = some (.ref f)) (kp : PySem.W.keepIn K (.ref f) = true) (hb : Binds K fd ps []) (ha : DA X dx (e :: es) ta fa) (hK : X.K = K := by rfl)
    (hdb : (x == ("__debug__" : Str)) = false := by decide)
    (he : starEach (e :: es) X.env = (false, eval e X.env) :: starEach es X.env := by rfl)
    (hpl : (backTo pos (starEach es X.env)).any (·.1) = false := by rfl) :
    DE X dx (.Call (.Name x p) (e :: es) [] pos) (tCall (spP K spec) [] (fun _ _ _ => False) ta) (dCall spec fa) := by
  subst hK
  refine ⟨pe_call F room hg hm kp hb .nil pass0 ha.pe hdb he hpl, fun σ H δ S Q Qh r s t kk => ?_⟩
  refine ha.go σ H δ S _ _ r s t fun vs H1 ds S1 r1 x1 d1 t1 => ?_
  rw [List.append_nil]
  exact spd_go r1 d1 (.inl ⟨rfl, rfl⟩) t1 (kk.on x1)
end

/-! ### errors with one word -/
/-- self.word = word -/
def spInit (K : PySem.W.Frag) : Sp := fun vs H Q _ => ∃ (a C : Addr) (w : Str), vs = [.ref a, .str w] ∧ OexC K C ∧ PySem.W.findIn K (.ref C) "word" = some none ∧ H a = some (exo a C none) ∧
  ∀ d, H d = none → d ≠ a → Q .non (upd (upd H d (exd d [("word", .str w)])) a (exo a C (some d)))
theorem fnInit {P : Program} {w : World} {K : PySem.W.Frag} {mg : Str → Option Value} {base : Heap} {qual : Str} {st : Stmt} {f : Addr} {fd : FuncData} {p1 p2 p3 p4 : Pos}
    (F : Fun K "__init__" qual st f fd) (S : FnScope ["self", "word"] ["self", "word"] (defScope st)) (hv0 : Vis (defScope st) "self") (hv1 : Vis (defScope st) "word")
    (hb : defBody st = [.Assign [.Attribute (.Name "self" p1) "word" p2] (.Name "word" p3) p4]) : FnOk P w K mg base CX0 1 f fd ["self", "word"] (spInit K) := by
  refine Fun.ok F S ?_ ?_
  · rintro vs H Q E ⟨a, C, x, rfl, _⟩
    rfl
  · rintro cdv A fr s H vs Q E room ⟨a, C, x, rfl, T, no, ha, k⟩
    rw [hb]
    refine ⟨_, pss_one (ps_ost (to := tVar 0) (te := tVar 1) (pe_var (i := 0) rfl hv0 (by decide) (by decide)) (pe_var (i := 1) rfl hv1 (by decide) (by decide))), ?_⟩
    refine ⟨.str x, rfl, .ref a, rfl, a, C, rfl, T, no, .inl ⟨ha, fun d n ne => ?_⟩⟩
    exact k d n ne
/-- an own error class of the text, with its __init__ -/
structure ErrD (K : PySem.W.Frag) (mg : Str → Option Value) (x qual : Str) (st : Stmt) where
  C : Addr
  f : Addr
  fd : FuncData
  m : mg x = some (.ref C)
  T : OexC K C
  iC : PySem.W.findIn K (.ref C) "__init__" = some (some (.ref f))
  tI : PySem.W.typeIn K (.ref f) = some (.type "function")
  F : Fun K "__init__" qual st f fd
  b : Binds K fd ["self", "word"] []
  no : PySem.W.findIn K (.ref C) "word" = some none
  is : ExcC K C
  gt : XfC K C
/-- raises the error of the class at C with the word -/
def spX (K : PySem.W.Frag) (C : Addr) (wd : Str) (dom : List D → Prop) : Sp := fun vs H _ E => ∃ (m : Addr → Prop) (ds : List D), (∀ b, m b → H b ≠ none) ∧ DtAll K (Fo m) H vs ds ∧ dom ds ∧
  ∀ H' d, Same H H' → H' d = some (.xd [("word", .str wd)]) → E (.ref C) (some d) H'
/-- an error with the word is let out -/
def Lets (dx : Dx) (E : XK) (C : Addr) (wd : Str) : Prop := ∀ H' d, Same dx.H0 H' → H' d = some (.xd [("word", .str wd)]) → E (.ref C) (some d) H'
abbrev WE1 (E : XK) : WX := fun cls d _ H => E cls d H
section
variable {P : Program} {w : World} {K : PySem.W.Frag} {mg : Str → Option Value} {base : Heap}
abbrev BodyX (P : Program) (w : World) (K : PySem.W.Frag) (mg : Str → Option Value) (base : Heap) (N : List Str) (qual : Str) (st : Stmt) (f : Addr) (cdv : Value) (A : Around) (fr : List Env) (s : Shared) (H : Hp) (E : XK) : Cx :=
  cxOf (L2.CX P w) P w K mg base N qual (defScope st) f cdv A fr s H E
theorem fnX {k : Nat} {x qual : Str} {st : Stmt} {f C : Addr} {fd : FuncData} {N ps : List Str} {wd : Str} {dom : List D → Prop}
    (F : Fun K x qual st f fd) (S : FnScope N ps (defScope st)) (len : ∀ ds, dom ds → ds.length = ps.length)
    (body : ∀ (cdv : Value) (A : Around) (fr : List Env) (s : Shared) (H : Hp) (E : XK), Room k (A.deeper (PyProof.Rows.envOfC qual (defScope st) s.heap.objs.size f cdv)) →
      ∀ dx : Dx, dx.hand = noHand → Lets dx E C wd → Takes (BodyX P w K mg base N qual st f cdv A fr s H E) (WE1 E) → ∃ ts t, DSs (BodyX P w K mg base N qual st f cdv A fr s H E) dx (defBody st) ts t ∧
        ∀ ds, dom ds → t { nx := fun _ _ => False, rt := fun _ _ => False } (startD N ds) []) :
    FnOk P w K mg base (L2.CX P w) (k + 1) f fd ps (spX K C wd dom) := by
  obtain ⟨oc, od, kV, doc, pm, an, cdv, ct, osl, rfl, found, code⟩ := F.ex
  refine fn_of found code S ?_ ?_
  · rintro vs H Q E ⟨m, ds, _, a, dm, _⟩
    rw [a.length]
    exact len ds dm
  · rintro A fr s H vs Q E room ⟨m, ds, live, a, dm, out⟩
    obtain ⟨ts, t, h, q⟩ := body cdv A fr s H E room ⟨m, H, noHand, noJ⟩ rfl out (takes_of rfl rfl rfl rfl)
    refine ⟨ts, h.pe, ?_⟩
    have le : ExtD (Fo m) H (Mu ⟨m, H, noHand, noJ⟩ []) H := by
      refine ⟨fun _ _ _ e => e, fun b z n => ?_⟩
      rcases z with z | z | z
      · exact absurd (.inl z) n
      · exact z.elim
      · cases z
    have r : HR K ⟨m, H, noHand, noJ⟩ H [] := ⟨fun p xs z => (nomatch z), List.nodup_nil, live, fun p z => (nomatch z), fun b o e _ => e, trivial, fun _ _ _ _ => trivial, fun b z => z.elim⟩
    exact h.go _ H (startD N ds) [] { nx := fun _ _ => False, rt := fun _ _ => False } _ r (start_sr (a.extD le)) (q ds dm)
      ⟨fun _ _ _ _ _ _ _ z => z.elim, fun _ _ _ _ _ _ _ z => z.elim, fun _ _ _ _ _ _ _ z => z.elim, fun _ _ _ _ _ _ _ z => z.elim⟩
end
section
variable {X : Cx} {dx : Dx} {k : Nat} {f C : Addr} {fd : FuncData} {ps : List Str} {x qual wd : Str} {st : Stmt} {p p2 pos pos' : Pos} {j : Nat} {e : Expr} {es : List Expr} {ta : TA} {fa : DTA} {dom : List D → Prop} {E : XK}
/-- raise Error("word") -/
def dRaise : DTS := fun _ _ _ => True
theorem ds_raise (K : PySem.W.Frag) {fI : Addr} {fdI : FuncData} (T : OexC K C) (iC : PySem.W.findIn K (.ref C) "__init__" = some (some (.ref fI))) (tI : PySem.W.typeIn K (.ref fI) = some (.type "function")) (b : Binds K fdI ["self", "word"] [])
    (no : PySem.W.findIn K (.ref C) "word" = some none) (m : X.mg x = some (.ref C)) (I : FnOk X.prog X.w K X.mg X.base CX0 1 fI fdI ["self", "word"] (spInit K)) (hc : X.calm = true) (tk : Takes X (WE1 E)) (out : Lets dx E C wd) (hh : dx.hand = noHand) (room : Room 2 X.A) (hg : Gl X x)
    (hw : wd.length ≤ 1000) (hK : X.K = K := by rfl) (hdb : (x == ("__debug__" : Str)) = false := by decide) :
    DS X dx (.Raise (some (.Call (.Name x p) [.Constant (.str wd) j p2] [] pos)) none pos') (fun _ σ H => tMkO C (spInit K) [] (tCons (tC (.str wd)) tNil) σ H fun cls d H' => WE1 E cls d σ H') dRaise := by
  subst hK
  refine ⟨ps_raise hc tk (pmk_oex T iC tI I room b .nil pass0 hg m (pa_cons pe_str pa_nil) hdb), fun σ H δ S DD EE r s t kk => ?_⟩
  show (1 : Nat) ≤ 1000 ∧ _
  refine ⟨by decide, fun a n => ⟨a, C, wd, rfl, T, no, upd_same, fun d nd ne => ?_⟩⟩
  have hd : H d = none := by
    rw [upd_ne ne] at nd
    exact nd
  refine ⟨rfl, d, [("word", .str wd)], upd_same, (upd_ne ne).trans upd_same, hd, out _ d (fun b o e0 => ?_) upd_same⟩
  have eb : H b = some o := r.keep b o e0 fun z => by
    rw [hh] at z
    exact z
  have na : b ≠ a := ne_of_none eb n
  have nb : b ≠ d := ne_of_none eb hd
  rw [upd_ne nb, del_ne na, upd_ne na, upd_ne nb, upd_ne na]
  exact eb
/-- g(..) that raises -/
def dCallX (dom : List D → Prop) (fa : DTA) : DTE := fun δ S _ => fa δ S fun ds _ => dom ds
theorem de_callX (K : PySem.W.Frag) (F : FnOk X.prog X.w K X.mg X.base (L2.CX X.prog X.w) k f fd ps (spX K C wd dom)) (room : Room k X.A) (hg : Gl X x) (hm : X.mg x = some (.ref f)) (kp : PySem.W.keepIn K (.ref f) = true) (hb : Binds K fd ps [])
    (tk : Takes X (WE1 E)) (out : Lets dx E C wd) (hh : dx.hand = noHand) (ha : DA X dx (e :: es) ta fa) (hK : X.K = K := by rfl) (hdb : (x == ("__debug__" : Str)) = false := by decide)
    (he : starEach (e :: es) X.env = (false, eval e X.env) :: starEach es X.env := by rfl) (hpl : (backTo pos (starEach es X.env)).any (·.1) = false := by rfl) :
    DE X dx (.Call (.Name x p) (e :: es) [] pos) (tCall (spX K C wd dom) [] E ta) (dCallX dom fa) := by
  subst hK
  refine ⟨pe_call F room hg hm kp hb .nil (passes_call tk fun _ _ _ _ h => h) ha.pe hdb he hpl, fun σ H δ S Q Qh r s t kk => ?_⟩
  refine ha.go σ H δ S _ _ r s t fun vs H1 ds S1 r1 x1 d1 t1 => ?_
  rw [List.append_nil]
  have le : Ext (Mu dx S1) H1 (Fo (Mu dx S1).mu) H1 := Ext.less (fun b z => z.elim id False.elim) (fun b z => z.elim)
  refine ⟨(Mu dx S1).mu, ds, r1.mu_live, d1.ext le, t1, fun H' d same hx => out H' d (fun b o e0 => same b o (r1.keep b o e0 fun z => ?_)) hx⟩
  rw [hh] at z
  exact z
end
end DL
/-! What a law hears of an error: two classes with one word each. -/
namespace DL
open PySem PySem.Spec L2 Gd
open LamX (Tabs TabS TabB CodeO LamS GivesTo lamEnv lamCx)

/-- the classes that a law hears of: A is told by its word, B by a text ahead of it; N is above both -/
structure Ears (K : PySem.W.Frag) (mg : Str → Option Value) (xA xB xN : Str) (A B : Addr) : Prop where
  mA : mg xA = some (.ref A)
  mB : mg xB = some (.ref B)
  mN : ∃ N, mg xN = some (.ref N) ∧ PySem.W.kitOne K (.ref A) (.ref N) = some true ∧ PySem.W.kitOne K (.ref B) (.ref N) = some true
  bi : mg "isinstance" = none
  AA : PySem.W.exmOne K (.ref A) (.ref A) = some true
  BA : PySem.W.exmOne K (.ref B) (.ref A) = some false
  BB : PySem.W.exmOne K (.ref B) (.ref B) = some true
  kAB : PySem.W.kitOne K (.ref A) (.ref B) = some false
  isA : ExcC K A
  isB : ExcC K B
  gtA : XfC K A
  gtB : XfC K B
  noA : PySem.W.findIn K (.ref A) "word" = some none
  noB : PySem.W.findIn K (.ref B) "word" = some none
/-- an error's word as it is told -/
def Told (A B : Addr) (pre : Str) (cls : Value) (w : Str) (r : Str) : Prop := (cls = .ref A ∧ r = w) ∨ (cls = .ref B ∧ r = pre ++ w)
def TTh (A B : Addr) (pre : Str) : (XK → Hp → VK → Prop) → Hp → VK → Prop := fun tl H Q =>
  tl (fun cls d H' => ∃ (e : Addr) (w r : Str), d = some e ∧ H' e = some (.xd [("word", .str w)]) ∧ pre.length + w.length ≤ sizeLine ∧ Told A B pre cls w r ∧ Q (.str r) H') H fun _ H' => Q (.str "") H'

section
variable {X : Cx} {a : Addr} {oe : Obj} {cls : Value} {d : Option Addr} {pn : List (Addr × Obj)}
theorem xd_there {P : Program} {w : World} {H : Hp} {h : Heap} {e : Addr} (ok : HOk P w H h) (z : ∃ fs, H e = some (.xd fs)) : ∃ o, h.get? e = some o := by
  obtain ⟨fs, z⟩ := z
  have q : ObjOk P w H h e (.xd fs) := ok e _ z
  obtain ⟨mA, ⟨o, _, _, ho, _⟩, _⟩ := q
  exact ⟨o, ho⟩
theorem yes_then {p q : Prop} (h : p) : if true = true then p else q := by
  rw [if_pos rfl]
  exact h
/-- isinstance(e, N) in a suite -/
theorem pe_isN {C N : Addr} {n y : Str} {i : Nat} {p1 p2 p3 pos : Pos} (is : ExcC X.K C) (hz : Zc (.ref C) d oe) (hf : ∃ vs, oe.data = .fields vs) (hb : X.mg "isinstance" = none) (gi : Gl X "isinstance") (gn : Gl X y) (mN : X.mg y = some (.ref N))
    (hN : X.N[i]? = some n) (hv : Vis X.env.scope n) (h1 : (n == ("__debug__" : Str)) = false := by decide) (h2 : (n == ("__classdict__" : Str)) = false := by decide) (h3 : (y == ("__debug__" : Str)) = false := by decide) :
    PE (X.suite a ((a, oe) :: pn)) (.Call (.Name "isinstance" p1) [.Name n p2, .Name y p3] [] pos) (fun σ H Q => σ[i]? = some (some (.ref a)) ∧ (∀ e, d = some e → ∃ fs, H e = some (.xd fs)) ∧ ∃ b, PySem.W.kitOne X.K (.ref C) (.ref N) = some b ∧ Q (.bl b) H) := by
  have h := pe_callB (X := X.suite a ((a, oe) :: pn)) (p := p1) (pos := pos) (call_isD is hz hf fun e _ H h ok z => xd_there ok z) gi hb rfl
    (pa_cons (pe_var (X := X.suite a ((a, oe) :: pn)) (i := i) (pos := p2) hN hv h1 h2) (pa_cons (pe_glob (X := X.suite a ((a, oe) :: pn)) (v := .ref N) (u := .ref N) (pos := p3) gn mN rfl h3) pa_nil))
  refine ⟨fun pins s σ H Q I t => h.run pins s σ H Q I ?_⟩
  obtain ⟨e1, e2, b, e3, q⟩ := t
  exact ⟨.ref a, e1, e2, .ref N, .ref N, b, rfl, fun u z => z, e3, q⟩
end
section
variable {X : Cx} {A B : Addr} {xA xB xN x nm q pre mix : Str} {sg : Scope} {g : Addr} {cdg : Value} {Ng : List Str} {j1 j2 j3 j4 : Nat}
  {p1 p2 p3 p4 p5 p6 p7 p8 p9 a1 a2 a3 a4 a5 a6 a7 a8 a9 b1 b2 b3 b4 b5 b6 b7 b8 b9 c1 c2 c3 c4 c5 c6 c7 c8 c9 : Pos}
/-- try: f() / except A as e: return e.word if isinstance(e, N) and not isinstance(e, B) else mix / except B as e: return pre + e.word if isinstance(e, N) else mix / return '' -/
theorem heard_gives (ear : Ears X.K X.mg xA xB xN A B) (hp : pre.length ≤ 1000)
    (h0 : Ng = [nm, "error"]) (nd : Ng.Nodup) (loc : sg.names.lookup ("error" : Str) = some .local) (gA : sg.names.lookup xA = some .globalImplicit) (gB : sg.names.lookup xB = some .globalImplicit) (gN : sg.names.lookup xN = some .globalImplicit) (gi : sg.names.lookup ("isinstance" : Str) = some .globalImplicit)
    (dA : (xA == ("__debug__" : Str)) = false) (dB : (xB == ("__debug__" : Str)) = false) (dN : (xN == ("__debug__" : Str)) = false) :
    GivesTo X Ng x sg g cdg [.Try [.Expr (.Call (.Name nm p1) [] [] p2) p3]
      [.ExceptHandler (some (.Name xA a1)) (some "error") [.Return (some (.IfExp (.BoolOp .And [.Call (.Name "isinstance" a2) [.Name "error" a3, .Name xN a4] [] a5, .UnaryOp .Not (.Call (.Name "isinstance" a6) [.Name "error" a7, .Name xB a8] [] a9) b1] b2) (.Attribute (.Name "error" b3) "word" b4) (.Constant (.str mix) j1 b5) b6)) b7] b8,
       .ExceptHandler (some (.Name xB b9)) (some "error") [.Return (some (.IfExp (.Call (.Name "isinstance" c1) [.Name "error" c2, .Name xN c3] [] c4) (.BinOp (.Constant (.str pre) j2 c5) .Add (.Attribute (.Name "error" c6) "word" c7) c8) (.Constant (.str mix) j3 c9) p4)) p5] p6] [] [] p7,
      .Return (some (.Constant (.str "") j4 p8)) p9] nm q (TTh A B pre) := by
  subst h0
  obtain ⟨N, mN, kAN, kBN⟩ := ear.mN
  intro f c' s H Q tl act hc h
  let Z := (cxOf C8.CX0 X.prog X.w X.K X.mg X.base [nm, "error"] x sg g cdg X.A X.stack s H C8.E0).nox
  have hlen : Z.N.length = 2 := rfl
  -- the suites
  let tA : Addr → Value → Option Addr → TS := fun a cls d D σ H => cls = .ref A ∧ σ[1]? = some (some (.ref a)) ∧ ∃ (e : Addr) (w : Str), d = some e ∧ H e = some (.xd [("word", .str w)]) ∧ D.rt (.str w) H
  let tB : Addr → Value → Option Addr → TS := fun a cls d D σ H => cls = .ref B ∧ σ[1]? = some (some (.ref a)) ∧ ∃ (e : Addr) (w : Str), d = some e ∧ H e = some (.xd [("word", .str w)]) ∧ pre.length + w.length ≤ sizeLine ∧ D.rt (.str (pre ++ w)) H
  have suA : ∀ (a : Addr) (oe : Obj) (cls : Value) (d : Option Addr) (pn : List (Addr × Obj)), Zc cls d oe → (∃ vs, oe.data = .fields vs) →
      PSs (Z.suite a ((a, oe) :: pn)) [.Return (some (.IfExp (.BoolOp .And [.Call (.Name "isinstance" a2) [.Name "error" a3, .Name xN a4] [] a5, .UnaryOp .Not (.Call (.Name "isinstance" a6) [.Name "error" a7, .Name xB a8] [] a9) b1] b2) (.Attribute (.Name "error" b3) "word" b4) (.Constant (.str mix) j1 b5) b6)) b7] (tA a cls d) := by
    intro a oe cls d pn hz hf
    refine ⟨fun pins s σ H D I t => ?_⟩
    obtain ⟨rfl, hs, e, w, rfl, he, q⟩ := t
    have i1 := pe_isN (X := Z) (a := a) (pn := pn) (i := 1) (n := "error") (p1 := a2) (p2 := a3) (p3 := a4) (pos := a5) ear.isA hz hf ear.bi gi gN mN rfl (.inl loc) (by decide) (by decide) dN
    have i2 := pe_isN (X := Z) (a := a) (pn := pn) (i := 1) (n := "error") (p1 := a6) (p2 := a7) (p3 := a8) (pos := a9) ear.isA hz hf ear.bi gi gB ear.mB rfl (.inl loc) (by decide) (by decide) dB
    have at_ := pe_xf (X := Z) (a := a) (pn := pn) (n := "word") (pos := b4) ear.gtA ear.noA hz hf (pe_var (X := Z.suite a ((a, oe) :: pn)) (i := 1) (pos := b3) (x := "error") rfl (.inl loc) (by decide) (by decide))
    have all := pss_one (ps_ret (pos := b7) (pe_ifExp (pos := b6) (PW.pt (pw_and (pos := b2) (pt_val i1) (pw_and1 (pt_not (pos := b1) (pt_val i2))))) at_ (pe_str (x := mix) (j := j1) (pos := b5))))
    refine all.run pins s σ H D I ?_
    have xd : ∀ e', (some e : Option Addr) = some e' → ∃ fs, H e' = some (.xd fs) := fun e' z => by
      cases z
      exact ⟨_, he⟩
    refine ⟨hs, xd, true, kAN, true, rfl, yes_then ?_⟩
    refine ⟨hs, xd, false, ear.kAB, false, rfl, yes_then ?_⟩
    exact ⟨.ref a, hs, rfl, rfl, e, _, .str w, rfl, he, rfl, q⟩
  have suB : ∀ (a : Addr) (oe : Obj) (cls : Value) (d : Option Addr) (pn : List (Addr × Obj)), Zc cls d oe → (∃ vs, oe.data = .fields vs) →
      PSs (Z.suite a ((a, oe) :: pn)) [.Return (some (.IfExp (.Call (.Name "isinstance" c1) [.Name "error" c2, .Name xN c3] [] c4) (.BinOp (.Constant (.str pre) j2 c5) .Add (.Attribute (.Name "error" c6) "word" c7) c8) (.Constant (.str mix) j3 c9) p4)) p5] (tB a cls d) := by
    intro a oe cls d pn hz hf
    refine ⟨fun pins s σ H D I t => ?_⟩
    obtain ⟨rfl, hs, e, w, rfl, he, hl, q⟩ := t
    have i1 := pe_isN (X := Z) (a := a) (pn := pn) (i := 1) (n := "error") (p1 := c1) (p2 := c2) (p3 := c3) (pos := c4) ear.isB hz hf ear.bi gi gN mN rfl (.inl loc) (by decide) (by decide) dN
    have at_ := pe_xf (X := Z) (a := a) (pn := pn) (n := "word") (pos := c7) ear.gtB ear.noB hz hf (pe_var (X := Z.suite a ((a, oe) :: pn)) (i := 1) (pos := c6) (x := "error") rfl (.inl loc) (by decide) (by decide))
    have all := pss_one (ps_ret (pos := p5) (pe_ifExp (pos := p4) (pt_val i1) (pe_op (pos := c8) op_add_str (pe_str (x := pre) (j := j2) (pos := c5)) at_) (pe_str (x := mix) (j := j3) (pos := c9))))
    refine all.run pins s σ H D I ?_
    have xd : ∀ e', (some e : Option Addr) = some e' → ∃ fs, H e' = some (.xd fs) := fun e' z => by
      cases z
      exact ⟨_, he⟩
    refine ⟨hs, xd, true, kBN, true, rfl, yes_then ?_⟩
    exact ⟨.ref a, hs, rfl, rfl, e, _, .str w, rfl, he, rfl, pre, w, rfl, rfl, hl, q⟩
  refine ⟨_, pss_cons (ps_tryAs (X := Z) (n := "error") (i := 1) (l := [(.ref A, tA), (.ref B, tB)]) (Wout := fun _ _ _ _ => False)
      (tb := fun W D σ H => ∃ Ech : XK, (∀ cls d σ' H', Ech cls d H' → W cls d σ' H') ∧ σ[0]? = some (some (.ref f)) ∧ H c' = some (CodeO c' q) ∧ tl Ech H fun _ H' => D.nx σ H')
      rfl rfl nd rfl loc takes_none5 (fun W pn xe tk _ => ?_) (.cons ⟨gA, dA, .inl ear.mA⟩ suA (.cons ⟨gB, dB, .inl ear.mB⟩ suB .nil))) (pss_one (ps_ret pe_str)), ?_⟩
  · refine ⟨fun pins s' σ H' D I t => ?_⟩
    obtain ⟨Ech, hW, t1, t2, t3⟩ := t
    exact (pss_one (ps_expr (pos := p3) (act W pn xe Ech p1 p2 tk hW))).run pins s' σ H' D I ⟨t1, t2, t3⟩
  · refine ⟨_, ?_, rfl, hc, h⟩
    rintro cls d σ' H' ⟨e, w, r, rfl, he, hl, told, q⟩
    have at1 : ∀ a : Addr, σ'.length = 2 → (σ'.set 1 (some (.ref a)))[1]? = some (some (V.ref a)) := fun a l => List.getElem?_set_self (by omega)
    rcases told with ⟨rfl, rfl⟩ | ⟨rfl, rfl⟩
    · exact ⟨true, ear.AA, fun _ l a _ => ⟨rfl, at1 a l, e, _, rfl, he, q⟩, fun z => nomatch z⟩
    · exact ⟨false, ear.BA, (fun z => nomatch z), fun _ => ⟨true, ear.BB, fun _ l a _ => ⟨rfl, at1 a l, e, _, rfl, he, hl, q⟩, fun z => nomatch z⟩⟩
end
end DL
/-! A law that hears of errors: its step over data; its end, with tables of code objects. -/
namespace DL
open PySem PySem.Spec L2 Gd
open LamX (Tabs TabS TabB CodeO LamS GivesTo lamEnv lamCx)

theorem HR.table {K : PySem.W.Frag} {dx : Dx} {H H1 : Hp} {S : Sto} {P : Addr} (r : HR K dx H S) (hP : dx.hand P) (keep : ∀ b u, b ≠ P → H b = some u → H1 b = some u) (there : H1 P ≠ none) (j : dx.J H1) :
    HR K dx H1 S ∧ Ext (Mu dx S) H (Mu dx S) H1 := by
  have x : Ext (Mu dx S) H (Mu dx S) H1 := by
    refine ⟨fun b u n e => keep b u (fun z => ?_) e, fun b m n => absurd m n, fun b m n => absurd m n⟩
    rw [z] at n
    exact n (.inl hP)
  refine ⟨⟨fun p c m => ?_, r.nd, fun b m => ?_, r.own, fun b o e n => ?_, j, r.stab, r.hm⟩, x⟩
  · obtain ⟨o, e, al⟩ := r.sto p c m
    refine ⟨o, keep p o (fun z => ?_) e, al.ext x⟩
    have np := (r.own p (List.mem_map.mpr ⟨_, m, rfl⟩)).2
    rw [z] at np
    exact np (r.hm P hP)
  · by_cases z : b = P
    · rw [z]
      exact there
    · cases e : H b with
      | none => exact absurd e (r.live b m)
      | some o =>
        rw [keep b o z e]
        exact fun y => nomatch y
  · refine keep b o (fun z => ?_) (r.keep b o e n)
    rw [z] at n
    exact n hP

section
variable {X : Cx} {dx : Dx} {k : Nat} {f A B C a c cc P : Addr} {fd : FuncData} {ps Ng : List Str} {x y nm pre wd rs : Str} {st : Stmt} {params : Arguments} {scope : Scope} {p p2 p3 lpos pos : Pos} {e : Expr} {es : List Expr} {ta : TA} {fa : DTA} {dom : List D → Prop} {T : List (Addr × Str)}
/-- _law_heard(lambda: g(..)), g an own def that raises: what is told -/
def dHeard (dom : List D → Prop) (rs : Str) (fa : DTA) : DTE := fun δ S Q => fa δ S fun ds S1 => dom ds ∧ Q (.str rs) S1
theorem de_heard (K : PySem.W.Frag) (D : CalD K X.mg x st [nm]) (hg : Gl X x) (Sg : FnScope Ng [nm] (defScope st)) (hNg : Ng[0]? = some nm) (hva : Vis (defScope st) nm)
    (hG : ∀ cdv, GivesTo X Ng x (defScope st) D.f cdv (defBody st) nm (X.env.qual ++ "<lambda>") (TTh A B pre))
    (TB : TabB X.base X.mg cc P) (hcode : X.env.code = .ref cc) (hmT : (P, X.env.qual ++ "<lambda>") ∈ T) (one : ∀ q ∈ T, q.1 = P → q.2 = X.env.qual ++ "<lambda>") (room : Room (k + 2) X.A) (L : LamS X.env.scope scope)
    (h1 : dx.hand = handT a c T) (h2 : dx.J = JT a c T)
    (F : FnOk X.prog X.w K X.mg X.base (L2.CX X.prog X.w) k f fd ps (spX K C wd dom)) (hy : scope.names.lookup y = some .globalImplicit) (hm : X.mg y = some (.ref f)) (kp : PySem.W.keepIn K (.ref f) = true) (hb : Binds K fd ps [])
    (told : Told A B pre (.ref C) wd rs) (hl : pre.length + wd.length ≤ sizeLine)
    (ha : ∀ (A : Around) (outer : List Env) (s : Shared) (H : Hp) (E : XK) (f c' : Addr), DA (lamCx X A outer s H E scope f c') dx (e :: es) ta fa) (hK : X.K = K := by rfl)
    (hdef : defaultsOf params X.env = ([], []) := by rfl)
    (hbind : ∀ (q : Str) (cl : List (Str × Addr)) (pm cv ctv : Value), bindArgs (PySem.W.kla_fn "<lambda>" q params (.Call (.Name y p2) (e :: es) [] p3) scope cl pm cv ctv) ⟨[], []⟩ = pure [] := by intros; rfl)
    (hdb : (x == ("__debug__" : Str)) = false := by decide) (hd : (nm == ("__debug__" : Str)) = false := by decide) (hcd : (nm == ("__classdict__" : Str)) = false := by decide) (hyd : (y == ("__debug__" : Str)) = false := by decide)
    (he : ∀ env : Env, starEach (e :: es) env = (false, eval e env) :: starEach es env := by intro _; rfl)
    (hpl : ∀ env : Env, (backTo p3 (starEach es env)).any (·.1) = false := by intro _; rfl) :
    DE X dx (.Call (.Name x p) [.Lambda params (.Call (.Name y p2) (e :: es) [] p3) scope lpos] [] pos) (tLm T P (TTh A B pre) (fun E => tCall (spX K C wd dom) [] E ta)) (dHeard dom rs fa) := by
  subst hK
  refine ⟨pe_lm D.F hg D.m D.b Sg hNg hva hG TB hcode hmT one room L hdef hbind (fun A' outer s H E f' c' room' => ?_) hdb hd hcd, fun σ H δ S Q Qh r s t kk => ?_⟩
  · have tk : Takes (lamCx X A' outer s H E scope f' c') (WE1 E) := takes_of rfl rfl rfl rfl
    exact pe_call (X := lamCx X A' outer s H E scope f' c') F room' hy hm kp hb .nil (passes_call tk fun _ _ _ _ h => h) (ha A' outer s H E f' c').pe hyd (he _) (hpl _)
  · have j : JT a c T H := h2 ▸ r.j
    refine ⟨j.2, fun H1 keep tabs => ?_⟩
    have hP : dx.hand P := by
      rw [h1]
      exact .inr (List.mem_map.mpr ⟨_, hmT, rfl⟩)
    obtain ⟨qs, eP, _⟩ := j.2 _ hmT
    have rnd : RandOk a c H1 := by
      obtain ⟨ne, cs, z, ea, ec, ok⟩ := j.1
      refine ⟨ne, cs, z, keep a _ (fun z => ?_) ea, keep c _ (fun z => ?_) ec, ok⟩
      · rw [z, eP] at ea
        cases ea
      · rw [z, eP] at ec
        cases ec
    obtain ⟨r1, x1⟩ := r.table hP keep (by obtain ⟨qs, e1, _⟩ := tabs _ hmT; rw [e1]; exact fun y => nomatch y) (by rw [h2]; exact ⟨rnd, tabs⟩)
    refine (ha X.A X.outer X.s_0 X.H_0 (fun _ _ _ => False) 0 0).go σ H1 δ S _ _ r1 (s.ext x1) t fun vs H2 ds S2 r2 x2 d2 t2 => ?_
    rw [List.append_nil]
    have le : Ext (Mu dx S2) H2 (Fo (Mu dx S2).mu) H2 := Ext.less (fun b z => z.elim id False.elim) (fun b z => z.elim)
    refine ⟨(Mu dx S2).mu, ds, r2.mu_live, d2.ext le, t2.1, fun H' d same hx => ⟨d, wd, rs, rfl, hx, hl, told, ?_⟩⟩
    exact kk (.str rs) H' (.str rs) S2 (r2.same same) ((x1.trans x2).trans (Ext.same same)) (.str rs) t2.2
end

/-! ### the end -/
section
variable {P : Program} {w : World} {K : PySem.W.Frag} {mg mb : Str → Option Value} {k : Nat} {fa a : Addr} {fd : FuncData} {x : Str} {sp : Sp} {s1 : Shared} {vs : List Value} {ns : List Int}
abbrev noTab : Obj := { cls := .none, data := .fields #[] }
/-- the heap as it stands when the law is called: the script, and the tables cs -/
structure EntryT (P : Program) (w : World) (K : PySem.W.Frag) (H : Hp) (h : Heap) (a : Addr) (ns : List Int) (cs : List Addr) : Prop where
  ok : HOk P w H h
  only : ∀ b u, H b = some u → (b = a ∧ K.lookup a = none ∧ ∃ o, h.get? b = some o ∧ u = .frz o (.lst (ns.map V.int))) ∨ (b ∈ cs ∧ u = .tbl #[])
  script : SqL K H a (ns.map V.int)
  tabs : ∀ b ∈ cs, H b = some (.tbl #[])
theorem entryT_of {cs : List Addr} (inK : K.In s1.heap) (at_ : s1.heap.get? a = some { cls := .type "list", data := .seq vs.toArray }) (its : PyProof.Rows.IntsAre vs ns) (few : ns.length ≤ sizeLine)
    (tb : ∀ b ∈ cs, s1.heap.get? b = some noTab) : ∃ H, EntryT P w K H s1.heap a ns cs := by
  obtain ⟨H, E⟩ := entry_of (P := P) (w := w) inK at_ its few
  have na : a ∉ cs := fun z => by
    have := tb a z
    rw [at_] at this
    have := congrArg Obj.data (Option.some.inj this)
    cases this
  have nH : ∀ b, b ∈ cs → H b = none := fun b m => by
    cases e : H b with
    | none => rfl
    | some u =>
      obtain ⟨rfl, _⟩ := E.only b u e
      exact absurd m na
  let H2 : Hp := fun b => if b ∈ cs then some (.tbl #[]) else H b
  have yes : ∀ b, b ∈ cs → H2 b = some (.tbl #[]) := fun b m => if_pos m
  have no : ∀ b, b ∉ cs → H2 b = H b := fun b m => if_neg m
  refine ⟨H2, fun b u e => ?_, fun b u e => ?_, ?_, yes⟩
  · by_cases m : b ∈ cs
    · rw [yes b m] at e
      cases e
      exact tb b m
    · rw [no b m] at e
      refine (E.ok b u e).stay (fun _ _ _ q => q) (fun d q => ?_) fun d xs q => ?_
      · rw [no d fun z => by rw [nH d z] at q; cases q]
        exact q
      · rw [no d fun z => by rw [nH d z] at q; cases q]
        exact q
  · by_cases m : b ∈ cs
    · rw [yes b m] at e
      cases e
      exact .inr ⟨m, rfl⟩
    · rw [no b m] at e
      exact .inl (E.only b u e)
  · rcases E.script with (h | ⟨o, h⟩) | h
    · exact .inl (.inl ((no a na).trans h))
    · exact .inl (.inr ⟨o, (no a na).trans h⟩)
    · exact .inr h
theorem law_runT {cs : List (Addr × Addr)} (inK : K.In s1.heap) (ng : s1.heap.Ns mainGlobals mg) (nbl : s1.heap.Ns builtinsNs mb) (same : ∀ y : Str, y ≠ "__name__" → mb y = bootBuiltins y) (calm : s1.heap.NoLimit) (gens : s1.gens = #[])
    (hT : ∀ p ∈ cs, s1.heap.get? p.2 = some noTab) (nT : ∀ p ∈ cs, K.lookup p.2 = none) (hC : ∀ p ∈ cs, PySem.W.CodeHd s1.heap p.1 p.2)
    (hbm : ∃ (bm : Addr) (ob : Obj), mg "__builtins__" = some (.ref bm) ∧ bm ≠ builtinsNs ∧ s1.heap.get? bm = some ob ∧ ob.cls = .type "module" ∧ ob.dict = some builtinsNs ∧ ob.data = .plain)
    (at_ : s1.heap.get? a = some { cls := .type "list", data := .seq vs.toArray }) (its : PyProof.Rows.IntsAre vs ns) (few : ns.length ≤ sizeLine) (room : Room k callerA)
    (F : ∀ base : Heap, K.In base → base.Ns mainGlobals mg → (∀ p ∈ cs, TabB base mg p.1 p.2) → FnG P w K mg base CX0 k fa fd [x] sp) (bind : ∀ (s : Shared) (u : Value), BindsTo s fd ⟨[u], []⟩ [(x, u)])
    (hsp : ∀ H : Hp, (∀ b u, H b = some u → (∃ o, u = .frz o (.lst (ns.map V.int))) ∨ u = .tbl #[]) → (∀ p ∈ cs, H p.2 = some (.tbl #[])) → SqL K H a (ns.map V.int) → sp [.ref a] H (fun v _ => v = .bl true) fun _ _ _ => False) :
    codeAny (model P w) callerA (.call (.ref fa) ⟨[.ref a], []⟩) (fun r s' => r = .ok (.ret (.bool true)) ∧ OldK s1.heap s'.heap ∧ s'.os = s1.os ∧ PyProof.Rows.AllBare s'.gens) s1 := by
  have tb : ∀ b ∈ cs.map (·.2), s1.heap.get? b = some noTab := fun b m => by
    obtain ⟨p, mp, rfl⟩ := List.mem_map.mp m
    exact hT p mp
  obtain ⟨H, E⟩ := entryT_of (P := P) (w := w) inK at_ its few tb
  have free : ∀ {b : Addr} {o : Obj}, s1.heap.get? b = some o → (∀ xs n, o.data ≠ .seq xs n) → o.data ≠ .fields #[] → H b = none := by
    intro b o e d d2
    cases q : H b with
    | none => rfl
    | some u =>
      rcases E.only b u q with ⟨rfl, _⟩ | ⟨m, _⟩
      · rw [at_] at e
        cases e
        exact absurd rfl (d _ _)
      · rw [tb b m] at e
        cases e
        exact absurd rfl d2
  have ns_of : ∀ {b : Addr} {m : Str → Option Value}, s1.heap.Ns b m → (hidT s1.heap H).Ns b m := by
    rintro b m ⟨o, es, ep, e, d, q⟩
    exact ⟨o, es, ep, hidT_get e (free e (fun xs n z => by rw [d] at z; cases z) fun z => by rw [d] at z; cases z), d, q⟩
  have kin : K.In (hidT s1.heap H) := by
    intro b o e
    refine hidT_get (inK b o e) ?_
    cases q : H b with
    | none => rfl
    | some u =>
      rcases E.only b u q with ⟨rfl, z, _⟩ | ⟨m, _⟩
      · rw [z] at e
        cases e
      · obtain ⟨p, mp, rfl⟩ := List.mem_map.mp m
        rw [nT p mp] at e
        cases e
  have modf : Mod K mg (hidT s1.heap H) := ⟨kin, ns_of ng, ⟨mb, ns_of nbl, same⟩, by obtain ⟨mc, z1, z2⟩ := calm; exact ⟨mc, ns_of z1, z2⟩⟩
  have none_ : ∀ {b : Addr}, b ∈ frs ([] : List Env) → False := fun h => by simp [frs] at h
  have env0 : Env0 P w K mg (hidT s1.heap H) callerA [] s1 H :=
    ⟨rfl, modf, fun b o e => of_hidT e, Nat.le_of_eq (hidT_size _ _), trivial, fun b hb => (none_ hb).elim, E.ok, .of_eq gens⟩
  have TB : ∀ p ∈ cs, TabB (hidT s1.heap H) mg p.1 p.2 := by
    intro p mp
    have tp := hT p mp
    refine ⟨?_, ?_, ?_⟩
    · obtain ⟨o, us, file, tf, flags, tg, inF, text, tt, e, c1, c2, c3, rest⟩ := hC p mp
      refine ⟨o, us, file, tf, flags, tg, inF, text, tt, hidT_get e (free e (fun xs n z => ?_) fun z => ?_), c1, c2, c3, rest⟩
      · rw [c2] at z
        cases z
      · rw [c2] at z
        cases z
        simp at c3
    · obtain ⟨bm, ob, b1, b2, b3, b4, b5, b6⟩ := hbm
      refine ⟨bm, ob, b1, b2, fun z => ?_, fun z => ?_, hidT_get b3 (free b3 (fun xs n z => ?_) fun z => ?_), b4, b5, b6⟩
      · obtain ⟨o, es, ep, e, hd, _⟩ := ng
        rw [z, e] at b3
        cases b3
        rw [hd] at b6
        cases b6
      · rw [z, tp] at b3
        cases b3
        cases b6
      · rw [b6] at z
        cases z
      · rw [b6] at z
        cases z
    · intro z
      obtain ⟨o, es, ep, e, hd, _⟩ := ng
      rw [z, tp] at e
      cases e
      cases hd
  apply codeAny_mono ((F _ kin (ns_of ng) TB).goes callerA [] s1 H ⟨[.ref a], []⟩ [.ref a] [.ref a] _ _ room rfl env0 (bind s1 (.ref a)) (.cons rfl .nil)
    (hsp H (fun b u q => by
      rcases E.only b u q with ⟨_, _, o, _, z⟩ | ⟨_, z⟩
      · exact .inl ⟨o, z⟩
      · exact .inr z) (fun p mp => E.tabs _ (List.mem_map.mpr ⟨p, mp, rfl⟩)) E.script))
  intro r s2 h
  match r, h with
  | .error e, h => exact h.elim
  | .ok .next, h => exact h.elim
  | .ok .brk, h => exact h.elim
  | .ok .cont, h => exact h.elim
  | .ok (.ret u), ⟨v, H2, os, bare, un, hok, rv, q⟩ =>
    have q : v = .bl true := q
    subst q
    obtain rfl : u = .bool true := rv
    have rest : ∀ b o, b ∉ cs.map (·.2) → s1.heap.get? b = some o → s2.heap.get? b = some o := by
      intro b o nb e
      cases z : H b with
      | none => exact un.keep b o e z (fun hb => none_ hb) (by simp)
      | some u =>
        rcases E.only b u z with ⟨_, _, o2, e2, rfl⟩ | ⟨m, _⟩
        · have z2 := un.frzs b o2 _ z
          obtain ⟨e3, _⟩ := hok b _ z2
          rw [e] at e2
          cases e2
          exact e3
        · exact absurd m nb
    have more : ∀ p ∈ cs, ∃ xs : Array Value, s2.heap.get? p.2 = some { cls := .none, data := .fields xs } := fun p mp => by
      obtain ⟨xs, z⟩ := un.tbls p.2 #[] (E.tabs _ (List.mem_map.mpr ⟨p, mp, rfl⟩))
      exact ⟨_, hok p.2 _ z⟩
    refine ⟨rfl, ⟨fun b o e => ?_, fun b o e => ?_⟩, os, bare⟩
    · by_cases m : b ∈ cs.map (·.2)
      · obtain ⟨p, mp, rfl⟩ := List.mem_map.mp m
        obtain ⟨xs, z⟩ := more p mp
        rw [hT p mp] at e
        cases e
        exact .inr (.inl ⟨((hC p mp).tab (hT p mp)).isCodeTable, rfl, #[], xs, rfl, by rw [Array.empty_append]; exact z⟩)
      · exact .inl (rest b o m e)
    · by_cases m : b ∈ cs.map (·.2)
      · obtain ⟨p, mp, rfl⟩ := List.mem_map.mp m
        obtain ⟨xs, z⟩ := more p mp
        exact ⟨_, z⟩
      · exact ⟨o, rest b o m e⟩
/-- the goal that the head leaves, with tables -/
theorem walkT {l : PySem.W.OpenLaw} {n k : Nat} {q : Program} {loose : List Str} {XP : (Str → Option Value) → Heap → Prop} {YP : World → Heap → Prop} {d : DefRec} {K : Params → PySem.W.Frag} {x : Str}
    (most : l.most = some n) (few : n ≤ sizeLine) (plain : d.params.defaults = []) (room : Room k callerA)
    (hY : ∀ (w : World) (h : Heap), YP w h → (K w.params).In h)
    (F : ∀ (w : World) (mg : Str → Option Value) (fa : Addr) (h : Heap), (K w.params).In h → h.Ns mainGlobals mg → mg d.name = some (.ref fa) →
      ∃ (fd : FuncData) (cs : List (Addr × Addr)) (sp : Sp), (∀ (s : Shared) (u : Value), BindsTo s fd ⟨[u], []⟩ [(x, u)]) ∧
        (∀ p ∈ cs, (K w.params).lookup p.2 = none ∧ ∃ (z : Str) (dd : DefRec), (PyProof.Rows.recsOf q).find? (fun e => e.name == z) = some dd ∧ PySem.W.tabIn (K w.params) z = some p) ∧
        (∀ (H : Hp) (a : Addr) (ns : List Int), ns.length ≤ n → (∀ b u, H b = some u → (∃ o, u = .frz o (.lst (ns.map V.int))) ∨ u = .tbl #[]) → (∀ p ∈ cs, H p.2 = some (.tbl #[])) → SqL (K w.params) H a (ns.map V.int) → sp [.ref a] H (fun v _ => v = .bl true) fun _ _ _ => False) ∧
        ∀ base : Heap, (K w.params).In base → base.Ns mainGlobals mg → (∀ p ∈ cs, TabB base mg p.1 p.2) → FnG l.prog w (K w.params) mg base CX0 k fa fd [x] sp) :
    PySem.W.WalkO q loose XP YP l.row.toRowW d [] (fun f vs => PySem.call f vs) := by
  apply Att.attach_call most plain
  intro w s0 s1 mg mb fa o pm cd doc a vs ns G Y ho hd hcd hmg hobj hints hlen hg
  have inK := hY w _ Y
  obtain ⟨fd, cs, sp, hb, hT, hsp, hF⟩ := F w mg fa _ inK G.T.g hmg
  have tab : ∀ p ∈ cs, PySem.W.CodeHd s1.heap p.1 p.2 ∧ s1.heap.get? p.2 = some noTab := fun p m => by
    obtain ⟨_, z, dd, h1, h2⟩ := hT p m
    exact PySem.W.tab_of G.T inK h1 h2
  exact law_runT (cs := cs) inK G.T.g G.T.b G.T.builtins G.T.nolimit hg (fun p m => (tab p m).2) (fun p m => (hT p m).1) (fun p m => (tab p m).1) G.T.bmain hobj hints (Nat.le_trans hlen few) room hF hb (fun H hO hB hS => hsp H a ns hlen hO hB hS)
end
section
variable {K : PySem.W.Frag}
theorem kit_of {A B : Addr} {b : Bool} (hc : PySem.W.hasDictIn K B = true) (ht : PySem.W.typeIn K (.ref B) = some (.type "type")) (hs : PySem.W.subIn K (.ref A) (.ref B) = some b) (hb : A = B → b = true) : PySem.W.kitOne K (.ref A) (.ref B) = some b := by
  unfold PySem.W.kitOne
  by_cases e : A = B
  · subst e
    rw [if_pos (by simp), hb rfl]
  · rw [if_neg (by simpa using e)]
    obtain ⟨cd, hcd, _⟩ := PySem.W.any_some hc
    have e2 : ((PySem.W.clsIn K B).isSome && PySem.W.typeIn K (.ref B) == some (.type "type")) = true := by
      rw [hcd, ht] <;> rfl
    show (if ((PySem.W.clsIn K B).isSome && PySem.W.typeIn K (.ref B) == some (.type "type")) = true then PySem.W.subIn K (.ref A) (.ref B) else none) = some b
    rw [if_pos e2]
    exact hs
theorem tabIn_mk {x : Str} {f c P : Addr} {oc oc2 : Value} {od od2 : Option Addr} {fd : FuncData} {sl sl2 : Array (Option Value)} {vs : Array Value} (a : PySem.W.nsIn K mainGlobals x = some (some (.ref f))) (l : K.lookup f = some ⟨oc, od, .func fd, sl⟩) (hc : fd.code = .ref c)
    (lc : K.lookup c = some ⟨oc2, od2, .fields vs, sl2⟩) (hv : vs[11]? = some (.ref P)) : PySem.W.tabIn K x = some (c, P) := by
  unfold PySem.W.tabIn
  simp only [a, l, hc, lc, hv]
end
end DL
/-! Own classes over data: attributes, making, isinstance. -/
namespace DL
open PySem PySem.Spec L2 Gd

/-! ### attributes -/
def fldAt : List Str → List D → Str → Option D
  | n :: ns, d :: ds, f => if f = n then some d else fldAt ns ds f
  | _, _, _ => none
theorem fld_get {K : PySem.W.Frag} {M : Mm} {H : Hp} {f : Str} {d : D} : ∀ {fs : List (Str × V)} {ds : List D}, DtAll K M H (fs.map (·.2)) ds → fldAt (fs.map (·.1)) ds f = some d → ∃ v, fs.lookup f = some v ∧ Dt K M H v d
  | [], _, _, e => by cases e
  | (n, x) :: fs, _, .cons h t, e => by
    have e : (if f = n then some _ else fldAt (fs.map (·.1)) _ f) = some d := e
    by_cases q : f = n
    · rw [if_pos q] at e
      cases e
      refine ⟨x, ?_, h⟩
      rw [q]
      exact List.lookup_cons_self
    · rw [if_neg q] at e
      obtain ⟨v, e1, d1⟩ := fld_get t e
      refine ⟨v, ?_, d1⟩
      rw [List.lookup_cons, beq_false_of_ne q]
      exact e1
/-- f is an attribute of the objects of class c, of no class of it -/
structure FldD (K : PySem.W.Frag) (c f : Str) : Prop where
  ok : ∀ C, KCls K c C → Cls K C ∧ NoAttr K C f
section
variable {X : Cx} {dx : Dx} {e : Expr} {te : TE} {fe : DTE} {c f : Str} {pos : Pos}
/-- e.f -/
def dFld (c f : Str) (fe : DTE) : DTE := fun δ S Q => fe δ S fun d S1 => match d with
  | .obj c' ns ds => c' = c ∧ opt (fldAt ns ds f) fun d => Q d S1
  | _ => False
theorem de_fld (K : PySem.W.Frag) (k : FldD K c f) (h : DE X dx e te fe) (hK : X.K = K := by rfl) (hb : attributeBase e f X.env (eval e X.env) = eval e X.env := by rfl) : DE X dx (.Attribute e f pos) (tFld K te f) (dFld c f fe) := by
  subst hK
  refine ⟨pe_fld h.pe hb, fun σ H δ S Q Qh r s t kk => ?_⟩
  refine h.go σ H δ S _ _ r s t fun v H1 d S1 r1 x1 d1 t1 => ?_
  cases d1 with
  | obj n ho hc hn al =>
    obtain ⟨rfl, t1⟩ := t1
    obtain ⟨d, ed, q⟩ := opt_run t1
    subst hn
    obtain ⟨u, eu, du⟩ := fld_get al ed
    obtain ⟨c1, c2⟩ := k.ok _ hc
    exact ⟨_, _, _, _, u, rfl, ho, c1, c2, eu, kk u H1 d S1 r1 x1 du q⟩
  | ztup n h al => exact t1.2.elim
  | _ => exact t1.elim
end

/-! ### a class of the text -/
structure ClsD (K : PySem.W.Frag) (mg : Str → Option Value) (c : Str) where
  C : Addr
  m : mg c = some (.ref C)
  at_ : KCls K c C
  is : C8.InsC K C
  out : ∀ t ∈ ["NoneType", "bool", "int", "str", "tuple", "list"], PySem.W.kitOne K (.type t) (.ref C) = some false
section
variable {K : PySem.W.Frag} {mg : Str → Option Value} {c f : Str}
theorem ClsD.one (D : ClsD K mg c) {C : Addr} (h : KCls K c C) : C = D.C := by
  have a := D.at_
  unfold KCls at h a
  rw [h] at a
  cases a
  rfl
theorem ClsD.fld (D : ClsD K mg c) (no : NoAttr K D.C f) : FldD K c f := ⟨fun C h => by
  rw [D.one h]
  exact ⟨D.is.cl, no⟩⟩
end
section
variable {X : Cx} {dx : Dx} {e : Expr} {te : TE} {fe : DTE} {c : Str} {p p2 pos : Pos}
/-- isinstance(e, c), c a class of the text -/
def dIsC (c : Str) (fe : DTE) : DTE := fun δ S Q => fe δ S fun d S1 => match d with
  | .obj c' ns _ => c' = c ∧ ns ≠ [] ∧ Q (.bl true) S1
  | d => noAdr d = true ∧ Q (.bl false) S1
theorem de_isC (K : PySem.W.Frag) {C : Addr} (D : ClsD K X.mg c) (h : DE X dx e te fe) (hp : PE X e te → PE X (.Call (.Name "isinstance" p) [e, .Name c p2] [] pos) (tCB (rIsi K) (tCons te (tCons (tC (.ref C)) tNil)))) (hK : X.K = K := by rfl) (hC : D.C = C := by rfl) :
    DE X dx (.Call (.Name "isinstance" p) [e, .Name c p2] [] pos) (tCB (rIsi K) (tCons te (tCons (tC (.ref C)) tNil))) (dIsC c fe) := by
  subst hK
  subst hC
  refine ⟨hp h.pe, fun σ H δ S Q Qh r s t kk => ?_⟩
  refine h.go σ H δ S _ _ r s t fun v H1 d S1 r1 x1 d1 t1 => ?_
  have side : noAdr d = true → Q (.bl false) S1 → rIsi X.K [v, .ref D.C] H1 Qh := fun na q =>
    ⟨v, .ref D.C, _, _, false, rfl, .own D.C, ty_of d1 na, D.out _ (by cases d <;> simp [tyD]), kk _ H1 _ S1 r1 x1 (.bl false) q⟩
  cases d1 with
  | obj n ho hc hn al =>
    obtain ⟨rfl, _, q⟩ := t1
    have e := D.one hc
    subst e
    exact ⟨_, .ref D.C, _, _, true, rfl, .own D.C, .base (TyOf.ins ho D.is.cl D.is.ha D.is.hn D.is.htk D.is.hm), D.is.me, kk _ H1 _ S1 r1 x1 (.bl true) q⟩
  | adr a => cases t1.1
  | ztup n h a => exact absurd rfl t1.2.1
  | dic n ho hk al => cases t1.1
  | dlt n ho hk al => cases t1.1
  | _ => exact side t1.1 t1.2
end

/-! ### making -/
/-- __init__ that keeps its parameters as attributes, for arguments with dom -/
def spIni (K : PySem.W.Frag) (fl : List Str) (dom : List D → Prop) : Sp := fun vs H Q _ => ∃ (a C x : Addr) (ws : List V) (m : Addr → Prop) (ds : List D),
  vs = .ref a :: ws ∧ H a = some (.ins C x []) ∧ Cls K C ∧ (∀ f ∈ fl, NoAttr K C f) ∧ (∀ b, m b → H b ≠ none) ∧ m a ∧ DtAll K (Fo m) H ws ds ∧ dom ds ∧
  ∀ H' us, (∀ b o, H b = some o → b ≠ a → H' b = some o) → H' a = some (.ins C x (fl.zip us)) → us.length = fl.length → DtAll K (Fo m) H' us ds → Q .non H'
end DL
namespace DL
open PySem PySem.Spec L2 Gd
theorem kit_out {K : PySem.W.Frag} {B : Addr} (hc : PySem.W.hasDictIn K B = true) (ht : PySem.W.typeIn K (.ref B) = some (.type "type")) : ∀ t ∈ ["NoneType", "bool", "int", "str", "tuple", "list"], PySem.W.kitOne K (.type t) (.ref B) = some false := by
  have go : ∀ t, PySem.W.subIn K (.type t) (.ref B) = some false → PySem.W.kitOne K (.type t) (.ref B) = some false := by
    intro t hs
    unfold PySem.W.kitOne
    rw [if_neg (by simp)]
    obtain ⟨cd, hcd, _⟩ := PySem.W.any_some hc
    have e2 : ((PySem.W.clsIn K B).isSome && PySem.W.typeIn K (.ref B) == some (.type "type")) = true := by
      rw [hcd, ht] <;> rfl
    show (if ((PySem.W.clsIn K B).isSome && PySem.W.typeIn K (.ref B) == some (.type "type")) = true then PySem.W.subIn K (.type t) (.ref B) else none) = some false
    rw [if_pos e2]
    exact hs
  intro t m
  simp only [List.mem_cons, List.not_mem_nil, or_false] at m
  rcases m with rfl | rfl | rfl | rfl | rfl | rfl <;> exact go _ rfl
end DL
/-! Objects over data: __init__ that keeps its parameters, and C(..). -/
namespace DL
open PySem PySem.Spec L2 Gd

/-! ### statements over data, then others -/
structure DPre (X : Cx) (dx : Dx) (sts : List Stmt) (us ts : TS) (t : DTS) : Prop where
  pe : PSs X sts ts
  go : ∀ σ H δ S DD E, HR X.K dx H S → SR X.K dx σ H δ S → t DD δ S → ThS X.K dx H S DD { E with nx := us E } → ts E σ H
section
variable {X : Cx} {dx : Dx} {st : Stmt} {sts : List Stmt} {us ts vs : TS} {t u : DTS}
theorem dpre_nil (h : PSs X sts us) : DPre X dx sts us us dNext := ⟨h, fun σ H δ S DD E r s q k => k.nx σ H δ S r Ext.refl s q⟩
theorem dpre_cons (h : DS X dx st ts t) (h2 : DPre X dx sts us vs u) : DPre X dx (st :: sts) us (tSeq ts vs) (dSeqS t u) := by
  refine ⟨pss_cons h.pe h2.pe, fun σ H δ S DD E r s q k => ?_⟩
  refine h.go σ H δ S { DD with nx := u DD } _ r s q ⟨fun σ1 H1 δ1 S1 r1 x1 s1 q1 => ?_, k.bk, k.ct, k.rt⟩
  exact h2.go σ1 H1 δ1 S1 DD E r1 s1 q1 (k.on x1)
end

/-! ### self.f = x, one after another -/
def sIni (K : PySem.W.Frag) : List (Str × Nat) → TS
  | [] => tNext
  | (f, i) :: r => tSeq (sFld K (tVar 0) (tVar i) f) (sIni K r)
theorem putF_new {f : Str} {v : V} : ∀ {fs : List (Str × V)}, f ∉ fs.map (·.1) → putF f v fs = fs ++ [(f, v)]
  | [], _ => rfl
  | (g, x) :: r, h => by
    have n : g ≠ f := fun e => h (by rw [e]; exact List.mem_cons_self)
    show (if g = f then (g, v) :: r else (g, x) :: putF f v r) = (g, x) :: (r ++ [(f, v)])
    rw [if_neg n, putF_new fun m => h (List.mem_cons_of_mem _ m)]
theorem ini_run {K : PySem.W.Frag} {a C x : Addr} {E : Ends} (hc : Cls K C) : ∀ (l : List (Str × Nat)) (fs : List (Str × V)) (σ : L2.St) (H : Hp) (vs : List V), σ[0]? = some (some (.ref a)) → H a = some (.ins C x fs) →
    (∀ p ∈ l, NoAttr K C p.1) → fs.length + l.length < 1000 → vs.length = l.length → (∀ (j : Nat) p v, l[j]? = some p → vs[j]? = some v → σ[p.2]? = some (some v)) → (fs.map (·.1) ++ l.map (·.1)).Nodup →
    (∀ H', (∀ b, b ≠ a → H' b = H b) → H' a = some (.ins C x (fs ++ (l.map (·.1)).zip vs)) → E.nx σ H') → sIni K l E σ H
  | [], fs, σ, H, vs, h0, ha, hn, hl, hv, hs, nd, k => by
    refine k H (fun b _ => rfl) ?_
    rw [ha]
    simp
  | (f, i) :: r, fs, σ, H, [], h0, ha, hn, hl, hv, hs, nd, k => by cases hv
  | (f, i) :: r, fs, σ, H, v :: vs, h0, ha, hn, hl, hv, hs, nd, k => by
    rw [List.length_cons] at hl
    refine ⟨v, hs 0 (f, i) v rfl rfl, .ref a, h0, a, C, x, fs, rfl, ha, hc, hn _ List.mem_cons_self, by omega, ?_⟩
    have nf : f ∉ fs.map (·.1) := fun m => by
      have := (List.nodup_append.mp nd).2.2 f m f List.mem_cons_self
      exact this rfl
    rw [putF_new nf]
    refine ini_run (E := E) hc r (fs ++ [(f, v)]) σ _ vs h0 upd_same (fun p m => hn p (List.mem_cons_of_mem _ m)) ?_ (by simpa using hv) (fun j p u e1 e2 => hs (j + 1) p u e1 e2) ?_ ?_
    · rw [List.length_append, List.length_singleton]
      omega
    · rw [List.map_append, List.append_assoc]
      exact nd
    · intro H' h1 h2
      refine k H' (fun b n => ?_) ?_
      · rw [h1 b n, upd_ne n]
      · rw [h2, List.append_assoc]
        rfl

/-! ### __init__ -/
section
variable {P : Program} {w : World} {K : PySem.W.Frag} {mg : Str → Option Value} {base : Heap}
/-- where the attributes come from -/
structure SlF (fl : List Str) (l : List (Str × Nat)) (n : Nat) : Prop where
  nm : l.map (·.1) = fl
  nd : fl.Nodup
  few : fl.length < 1000
  len : l.length = n
theorem fnIni {k : Nat} {qual : Str} {st : Stmt} {f : Addr} {fd : FuncData} {N ps : List Str} {fl : List Str} {l : List (Str × Nat)} {dom : List D → Prop}
    (F : Fun K "__init__" qual st f fd) (S : FnScope N ps (defScope st)) (len : ∀ ds, dom ds → ds.length + 1 = ps.length ∧ SlF fl l ds.length)
    (body : ∀ (cdv : Value) (A : Around) (fr : List Env) (s : Shared) (H : Hp) (E : XK), Room k (A.deeper (PyProof.Rows.envOfC qual (defScope st) s.heap.objs.size f cdv)) →
      ∀ dx : Dx, ∃ ts t, DPre (Body P w K mg base N qual st f cdv A fr s H E) dx (defBody st) (sIni K l) ts t ∧
        ∀ a ds, dom ds → t { nx := fun δ _ => δ[0]? = some (some (.adr a)) ∧ ∀ (j : Nat) p d, l[j]? = some p → ds[j]? = some d → δ[p.2]? = some (some d), rt := fun _ _ => False } (startD N (.adr a :: ds)) []) :
    FnOk P w K mg base CX0 (k + 1) f fd ps (spIni K fl dom) := by
  refine Fun.ok F S ?_ ?_
  · rintro vs H Q E ⟨a, C, x, ws, m, ds, rfl, _, _, _, _, _, al, dm, _⟩
    rw [List.length_cons, al.length]
    exact (len ds dm).1
  · rintro cdv A fr s H vs Q E room ⟨a, C, x, ws, m, ds, rfl, ha, hc, hn, live, na, al, dm, out⟩
    obtain ⟨ts, t, h, q⟩ := body cdv A fr s H E room ⟨m, H, noHand, noJ⟩
    refine ⟨ts, h.pe, ?_⟩
    obtain ⟨_, sl⟩ := len ds dm
    have le : ExtD (Fo m) H (Mu ⟨m, H, noHand, noJ⟩ []) H := by
      refine ⟨fun _ _ _ e => e, fun b z n => ?_⟩
      rcases z with z | z | z
      · exact absurd (.inl z) n
      · exact z.elim
      · cases z
    have r : HR K ⟨m, H, noHand, noJ⟩ H [] := ⟨fun p xs z => (nomatch z), List.nodup_nil, live, fun p z => (nomatch z), fun b o e _ => e, trivial, fun _ _ _ _ => trivial, fun b z => z.elim⟩
    refine h.go _ H (startD N (.adr a :: ds)) [] _ _ r (start_sr (.cons (.adr a) (al.extD le))) (q a ds dm) ⟨?_, ?_, ?_, ?_⟩
    · rintro σ' H' δ' S' r' x' s' ⟨p0, p'⟩
      have ha' : H' a = some (.ins C x []) := r'.keep a _ ha fun z => z
      obtain ⟨v0, e0, d0⟩ := s'.ix 0 _ p0
      have e0 : σ'[0]? = some (some (.ref a)) := by
        cases d0
        exact e0
      -- the values of the parameters
      have vals : ∃ us : List V, us.length = l.length ∧ (∀ (j : Nat) p v, l[j]? = some p → us[j]? = some v → σ'[p.2]? = some (some v)) ∧ DtAll K (Mu ⟨m, H, noHand, noJ⟩ S') H' us ds := by
        have hl := sl.len
        clear sl q dm al
        have get : ∀ (l : List (Str × Nat)) (ds : List D), l.length = ds.length → (∀ (j : Nat) p d, l[j]? = some p → ds[j]? = some d → δ'[p.2]? = some (some d)) →
            ∃ us : List V, us.length = l.length ∧ (∀ (j : Nat) p v, l[j]? = some p → us[j]? = some v → σ'[p.2]? = some (some v)) ∧ DtAll K (Mu ⟨m, H, noHand, noJ⟩ S') H' us ds := by
          intro l
          induction l with
          | nil =>
            intro ds e _
            cases ds with
            | nil => exact ⟨[], rfl, fun j p v e => by simp at e, .nil⟩
            | cons _ _ => cases e
          | cons p l ih =>
            intro ds e hp
            cases ds with
            | nil => cases e
            | cons d ds =>
              obtain ⟨us, u1, u2, u3⟩ := ih ds (by simpa using e) fun j p d e1 e2 => hp (j + 1) p d e1 e2
              obtain ⟨v, ev, dv⟩ := s'.ix p.2 d (hp 0 p d rfl rfl)
              refine ⟨v :: us, by simp [u1], fun j q w e1 e2 => ?_, .cons dv u3⟩
              cases j with
              | zero =>
                cases e1
                cases e2
                exact ev
              | succ j => exact u2 j q w e1 e2
        exact get l ds hl p'
      obtain ⟨us, u1, u2, u3⟩ := vals
      refine ini_run (a := a) (C := C) (x := x) hc l [] σ' H' us e0 ha' (fun p m => hn _ (by rw [← sl.nm]; exact List.mem_map.mpr ⟨p, m, rfl⟩)) ?_ u1 u2 (by rw [List.map_nil, List.nil_append, sl.nm]; exact sl.nd) ?_
      · have := sl.few
        rw [← sl.nm, List.length_map] at this
        simpa using this
      · intro H2 h1 h2
        have x2 : ExtD (Mu ⟨m, H, noHand, noJ⟩ S') H' (Fo m) H2 := by
          refine ⟨fun b o n e => ?_, fun b z n => ?_⟩
          · rw [h1 b fun z => n (.inl (by rw [z]; exact na))]
            exact e
          · rcases z with z | z
            · exact absurd (.inl z) n
            · exact z.elim
        refine out H2 us (fun b o e n => ?_) (by rw [h2, List.nil_append, sl.nm]) (by rw [u1, ← sl.nm, List.length_map]) ?_
        · rw [h1 b n]
          exact r'.keep b o e fun z => z
        · exact u3.extD x2
    · intro σ' H' δ' S' r' x' s' p'
      exact p'.elim
    · intro σ' H' δ' S' r' x' s' p'
      exact p'.elim
    · intro v H' d S' r' x' hd p'
      exact p'.elim
end

/-! ### C(..) -/
section
variable {X : Cx} {dx : Dx} {k : Nat} {f : Addr} {fd : FuncData} {ps fl : List Str} {c : Str} {p pos : Pos} {e : Expr} {es : List Expr} {ta : TA} {fa : DTA} {dom : List D → Prop}
def dMake (c : Str) (fl : List Str) (dom : List D → Prop) (fa : DTA) : DTE := fun δ S Q => fa δ S fun ds S1 => dom ds ∧ Q (.obj c fl ds) S1
theorem de_make (K : PySem.W.Frag) {C : Addr} (D : ClsD K X.mg c) (M : Mk K D.C f) (F : FnOk X.prog X.w K X.mg X.base CX0 k f fd ps (spIni K fl dom)) (no : ∀ g ∈ fl, NoAttr K D.C g) (room : Room (k + 1) X.A) (hg : Gl X c) (hb : Binds K fd ps []) (ha : DA X dx (e :: es) ta fa)
    (hK : X.K = K := by rfl) (hdb : (c == ("__debug__" : Str)) = false := by decide)
    (he : starEach (e :: es) X.env = (false, eval e X.env) :: starEach es X.env := by rfl) (hpl : (backTo pos (starEach es X.env)).any (·.1) = false := by rfl) (hC : D.C = C := by rfl) :
    DE X dx (.Call (.Name c p) (e :: es) [] pos) (tMake C (spIni K fl dom) [] E0 ta) (dMake c fl dom fa) := by
  subst hK
  subst hC
  refine ⟨pe_make M F room hg D.m hb .nil pass0 ha.pe hdb he hpl, fun σ H δ S Q Qh r s t kk => ?_⟩
  refine ha.go σ H δ S _ _ r s t fun vs H1 ds S1 r1 x1 d1 ⟨t1, t2⟩ => ?_
  intro a x na nx ne
  rw [List.append_nil]
  have old : ∀ b o, H1 b = some o → upd (upd H1 x (.own a)) a (.ins D.C x []) b = some o := fun b o e0 => by
    rw [upd_ne (ne_of_none e0 na), upd_ne (ne_of_none e0 nx)]
    exact e0
  refine ⟨a, D.C, x, vs, fun b => (Mu dx S1).mu b ∨ b = a, ds, rfl, upd_same, D.is.cl, no, fun b m => ?_, .inr rfl, ?_, t1, fun H' us kp h2 hl du => ⟨rfl, ?_⟩⟩
  · rcases m with m | m
    · intro z
      have := r1.mu_live b m
      cases e0 : H1 b with
      | none => exact this e0
      | some o =>
        rw [old b o e0] at z
        cases z
    · rw [m, upd_same]
      exact fun z => nomatch z
  · refine d1.extD ⟨fun b o _ e0 => old b o e0, fun b z n => ?_⟩
    rcases z with z | z
    · rcases z with z | z
      · exact absurd z n
      · rw [z]
        exact na
    · exact z.elim
  · have sm : Same H1 H' := fun b o e0 => kp b o (old b o e0) (ne_of_none e0 na)
    have out : ¬ (Mu dx S1).mu a := fun z => r1.mu_live a z na
    refine kk (.ref a) H' (.obj c fl ds) S1 (r1.same sm) (x1.trans (Ext.same sm)) (.obj out h2 D.at_ ?_ ?_) t2
    · rw [List.map_fst_zip]
      omega
    · rw [List.map_snd_zip (by omega)]
      exact du.extD ⟨fun _ _ _ e0 => e0, fun b z n => absurd (.inl (.inl z)) n⟩
end
end DL
/-! One's own lists and dicts lent to a def that only reads them; what comes back holds neither. -/
namespace DL
open PySem PySem.Spec L2 Gd
def noM : D → Bool
  | .non => true
  | .bl _ => true
  | .int _ => true
  | .str _ => true
  | .tup xs => noMs xs
  | .adr _ => true
  | .obj _ _ xs => noMs xs
  | _ => false
where noMs : List D → Bool
  | [] => true
  | x :: xs => noM x && noMs xs
/-- what is lent, as data -/
def lendO (S : Sto) (p : Addr) : Option (List D) → D
  | some xs => .lst xs
  | none => match getK S p with
    | some kvs => .dlt (kvs.map (·.1)) (kvs.map (·.2))
    | none => .adr p
def lend (S : Sto) : D → D
  | .adr p => lendO S p (getS S p)
  | d => d
section
variable {K : PySem.W.Frag} {dx : Dx} {H : Hp} {S : Sto}
def LentA (dx : Dx) (b : Addr) : Prop := dx.M0 b ∨ dx.hand b
theorem LentA.mu {b : Addr} (h : LentA dx b) : (Mu dx S).mu b := h.elim .inl fun z => .inr (.inl z)
theorem lentA_arg (r : HR K dx H S) {v : V} {d : D} (h : Dt K (Mu dx S) H v d) : Dt K (Fo (LentA dx)) H v (lend S d) := by
  have le : Ext (Mu dx S) H (Fo (LentA dx)) H := Ext.less (fun b z => (z.elim id False.elim : LentA dx b).mu) (fun b z => z.elim)
  have out : ∀ p, p ∈ S.map (·.1) → ¬ (Fo (LentA dx)).mu p := by
    rintro p mp ((z | z) | z)
    · exact r.own_not mp z
    · exact r.own_not mp (r.hm _ z)
    · exact z
  cases d with
  | adr p =>
    show Dt K _ H v (lendO S p (getS S p))
    cases hg : getS S p with
    | some xs =>
      cases h
      obtain ⟨vs, e, a⟩ := r.getL hg
      exact .lst (out p (List.mem_map.mpr ⟨_, getS_mem hg, rfl⟩)) e (a.ext le)
    | none =>
      show Dt K _ H v (match getK S p with | some kvs => D.dlt (kvs.map (·.1)) (kvs.map (·.2)) | none => D.adr p)
      cases hk : getK S p with
      | none => exact h.ext le
      | some kvs =>
        cases h
        obtain ⟨mp, ws, e, hw, a⟩ := r.getD hk
        exact .dlt (out p mp) e hw (a.ext le)
  | _ => exact h.ext le
theorem lentA_args (r : HR K dx H S) : ∀ {vs : List V} {ds : List D}, DtAll K (Mu dx S) H vs ds → DtAll K (Fo (LentA dx)) H vs (ds.map (lend S))
  | _, _, .nil => .nil
  | _, _, .cons h t => .cons (lentA_arg r h) (lentA_args r t)
mutual
theorem lentA_back {H' : Hp} (hk : ∀ b, b ∈ S.map (·.1) → ∃ u, H' b = some u ∧ Ls u) : ∀ {v : V} {d : D}, Dt K (Fo (LentA dx)) H' v d → noM d = true → Dt K (Mu dx S) H' v d
  | _, _, .non, _ => .non
  | _, _, .bl b, _ => .bl b
  | _, _, .int i, _ => .int i
  | _, _, .str x, _ => .str x
  | _, _, .tup (a := a) n h al, q => by
    refine .tup ?_ h (lentA_backs hk al q)
    rintro (z | z | z)
    · exact n (.inl (.inl z))
    · exact n (.inl (.inr z))
    · obtain ⟨u, e, l⟩ := hk a z
      rcases h with h | ⟨o, h⟩
      · rw [e] at h; cases h; exact l
      · rw [e] at h; cases h; exact l
  | _, _, .ktup h al, q => .ktup h (lentA_backs hk al q)
  | _, _, .adr a, _ => .adr a
  | _, _, .lst _ _ _, q => (Bool.false_ne_true q).elim
  | _, _, .fls _ _, q => (Bool.false_ne_true q).elim
  | _, _, .kfls _, q => (Bool.false_ne_true q).elim
  | _, _, .dic _ _ _ _, q => (Bool.false_ne_true q).elim
  | _, _, .dlt _ _ _ _, q => (Bool.false_ne_true q).elim
  | _, _, .obj (a := a) n h c k al, q => by
    refine .obj ?_ h c k (lentA_backs hk al q)
    rintro (z | z | z)
    · exact n (.inl (.inl z))
    · exact n (.inl (.inr z))
    · obtain ⟨u, e, l⟩ := hk a z
      rw [e] at h; cases h; exact l
  | _, _, .ztup (a := a) n ⟨o, h, z0⟩ al, q => by
    have q : (true && noM.noMs _) = true := q
    rw [Bool.true_and] at q
    refine .ztup ?_ ⟨o, h, z0⟩ (lentA_backs hk al q)
    rintro (z | z | z)
    · exact n (.inl (.inl z))
    · exact n (.inl (.inr z))
    · obtain ⟨u, e, l⟩ := hk a z
      rw [e] at h; cases h; exact l
theorem lentA_backs {H' : Hp} (hk : ∀ b, b ∈ S.map (·.1) → ∃ u, H' b = some u ∧ Ls u) : ∀ {vs : List V} {ds : List D}, DtAll K (Fo (LentA dx)) H' vs ds → noM.noMs ds = true → DtAll K (Mu dx S) H' vs ds
  | _, _, .nil, _ => .nil
  | _, _, .cons h t, q => by
    have q : (noM _ && noM.noMs _) = true := q
    rw [Bool.and_eq_true] at q
    exact .cons (lentA_back hk h q.1) (lentA_backs hk t q.2)
end
def dCallA (spec : DSpec) (fa : DTA) : DTE := fun δ S Q => fa δ S fun ds S1 => spec (ds.map (lend S1)) fun d => noM d = true ∧ Q d S1
theorem spdA_go {vs : List V} {ds : List D} {spec : DSpec} {Q : D → Sto → Prop} {Qh : VK} {E : XK} (r : HR K dx H S) (a : DtAll K (Mu dx S) H vs ds)
    (t : spec (ds.map (lend S)) fun d => noM d = true ∧ Q d S) (kk : ThE K dx H S Q Qh) : spD K noHand noJ spec vs H Qh E := by
  refine ⟨LentA dx, _, _, fun b z => r.mu_live b z.mu, fun b z => z.elim, fun _ _ _ _ => trivial, trivial, lentA_args r a, t, fun v H' d kp lv j hd q => ?_⟩
  have sm : Same H H' := fun b o e => kp b o e fun z => z
  refine kk v H' d S (r.same sm) (Ext.same sm) (lentA_back (fun b mb => ?_) hd q.1) q.2
  obtain ⟨⟨p, c⟩, mp, rfl⟩ := List.mem_map.mp mb
  obtain ⟨o, e, al⟩ := r.sto p c mp
  exact ⟨o, sm _ _ e, al.ls⟩
end
section
variable {X : Cx} {dx : Dx} {k : Nat} {f : Addr} {fd : FuncData} {ps : List Str} {x : Str} {p pos : Pos} {e : Expr} {es : List Expr} {ta : TA} {fa : DTA} {spec : DSpec}
theorem de_callA_ (K : PySem.W.Frag) (F : FnG X.prog X.w K X.mg X.base CX0 k f fd ps (spP K spec)) (room : Room k X.A) (guard : X.A.guards = some [])
    (hg : Gl X x) (hm : X.mg x = some (.ref f)) (kp : PySem.W.keepIn K (.ref f) = true) (hb : Binds K fd ps []) (ha : DA X dx (e :: es) ta fa)
    (hdb : (x == ("__debug__" : Str)) = false := by decide)
    (he : starEach (e :: es) X.env = (false, eval e X.env) :: starEach es X.env := by rfl)
    (hpl : (backTo pos (starEach es X.env)).any (·.1) = false := by rfl) (hK : X.K = K := by rfl) :
    DE X dx (.Call (.Name x p) (e :: es) [] pos) (tCall (spP K spec) [] (fun _ _ _ => False) ta) (dCallA spec fa) := by
  subst hK
  refine ⟨pe_callG F room guard hg hm kp hb .nil pass0 ha.pe hdb he hpl, fun σ H δ S Q Qh r s t kk => ?_⟩
  refine ha.go σ H δ S _ _ r s t fun vs H1 ds S1 r1 x1 d1 t1 => ?_
  rw [List.append_nil]
  exact spdA_go r1 d1 t1 (kk.on x1)
theorem de_callUA (K : PySem.W.Frag) (F : FnOk X.prog X.w K X.mg X.base CX0 k f fd ps (spP K spec)) (room : Room k X.A)
    (hg : Gl X x) (hm : X.mg x = some (.ref f)) (kp : PySem.W.keepIn K (.ref f) = true) (hb : Binds K fd ps []) (ha : DA X dx (e :: es) ta fa) (hK : X.K = K := by rfl)
    (hdb : (x == ("__debug__" : Str)) = false := by decide)
    (he : starEach (e :: es) X.env = (false, eval e X.env) :: starEach es X.env := by rfl)
    (hpl : (backTo pos (starEach es X.env)).any (·.1) = false := by rfl) :
    DE X dx (.Call (.Name x p) (e :: es) [] pos) (tCall (spP K spec) [] (fun _ _ _ => False) ta) (dCallA spec fa) := by
  subst hK
  refine ⟨pe_call F room hg hm kp hb .nil pass0 ha.pe hdb he hpl, fun σ H δ S Q Qh r s t kk => ?_⟩
  refine ha.go σ H δ S _ _ r s t fun vs H1 ds S1 r1 x1 d1 t1 => ?_
  rw [List.append_nil]
  exact spdA_go r1 d1 t1 (kk.on x1)
end
end DL
/-! d.get(k), d.get(k, x) over data. -/
namespace DL
open PySem PySem.Spec L2 Gd
section
variable {X : Cx} {dx : Dx} {o e f : Expr} {to te tf : TE} {fo fe ff : DTE} {apos cpos : Pos}
def isDic (S : Sto) (d : D) : Prop := (kvsOf S d).isSome = true
theorem isDic_at {K : PySem.W.Frag} {H : Hp} {S : Sto} {v : V} {d : D} (r : HR K dx H S) (h : Dt K (Mu dx S) H v d) (q : isDic S d) : ∃ a, v = .ref a ∧ IsD H a := by
  obtain ⟨kvs, e⟩ := Option.isSome_iff_exists.mp q
  obtain ⟨a, ws, ea, rd, _⟩ := kvs_of r h e
  exact ⟨a, ea, .inl ⟨ws, rd⟩⟩
def dGet1 (fo fe : DTE) : DTE := fun δ S Q => fo δ S fun d S1 => isDic S1 d ∧ fe δ S1 fun i S2 => opt (kvsOf S2 d) fun kvs => opt (keyOf i) fun k => Q ((valD kvs k).getD .non) S2
def dGet2 (fo fe ff : DTE) : DTE := fun δ S Q => fo δ S fun d S1 => isDic S1 d ∧ fe δ S1 fun i S2 => ff δ S2 fun z S3 => opt (kvsOf S3 d) fun kvs => opt (keyOf i) fun k => Q ((valD kvs k).getD z) S3
theorem de_get1 (hu : X.A.units + 64 < cLine) (ho : DE X dx o to fo) (he : DE X dx e te fe) (m : M1 X o "get" apos e cpos := by exact ⟨rfl, rfl, rfl, rfl⟩) : DE X dx (.Call (.Attribute o "get" apos) [e] [] cpos) (tDGet1 to te) (dGet1 fo fe) := by
  refine ⟨pe_dget1 (by omega) ho.pe he.pe m, fun σ H δ S Q Qh r0 s t k => ?_⟩
  refine ho.go σ H δ S _ _ r0 s t fun v H1 d S1 r1 x1 d1 t1 => ?_
  obtain ⟨a, rfl, isd⟩ := isDic_at r1 d1 t1.1
  refine ⟨a, rfl, isd, ?_⟩
  refine he.go σ H1 δ S1 _ _ r1 (s.ext x1) t1.2 fun y H2 i S2 r2 x2 d2 t2 => ?_
  obtain ⟨kvs, e1, t2⟩ := opt_run t2
  obtain ⟨ky, e2, t2⟩ := opt_run t2
  obtain ⟨b, ws, eb, rd, al⟩ := kvs_of r2 (d1.ext x2) e1
  cases eb
  obtain rfl := key_of d2 e2
  refine ⟨valV ws ky, .inl ⟨ws, ky, rd, rfl, rfl⟩, ?_⟩
  rcases al.val ky with ⟨z1, z2⟩ | ⟨u, du, z1, z2, hd⟩
  · rw [z1] at t2
    rw [z2]
    exact k _ H2 _ S2 r2 (x1.trans x2) .non t2
  · rw [z1] at t2
    rw [z2]
    exact k _ H2 _ S2 r2 (x1.trans x2) hd t2
theorem de_get2 (hu : X.A.units + 64 < cLine) (ho : DE X dx o to fo) (he : DE X dx e te fe) (hf : DE X dx f tf ff) (m : M2 X o "get" apos e f cpos := by exact ⟨rfl, rfl, rfl, rfl⟩) : DE X dx (.Call (.Attribute o "get" apos) [e, f] [] cpos) (tDGet2 to te tf) (dGet2 fo fe ff) := by
  refine ⟨pe_dget2 (by omega) ho.pe he.pe hf.pe m, fun σ H δ S Q Qh r0 s t k => ?_⟩
  refine ho.go σ H δ S _ _ r0 s t fun v H1 d S1 r1 x1 d1 t1 => ?_
  obtain ⟨a, rfl, isd⟩ := isDic_at r1 d1 t1.1
  refine ⟨a, rfl, isd, ?_⟩
  refine he.go σ H1 δ S1 _ _ r1 (s.ext x1) t1.2 fun y H2 i S2 r2 x2 d2 t2 => ?_
  refine hf.go σ H2 δ S2 _ _ r2 (s.ext (x1.trans x2)) t2 fun w H3 z S3 r3 x3 d3 t3 => ?_
  obtain ⟨kvs, e1, t3⟩ := opt_run t3
  obtain ⟨ky, e2, t3⟩ := opt_run t3
  obtain ⟨b, ws, eb, rd, al⟩ := kvs_of r3 (d1.ext (x2.trans x3)) e1
  cases eb
  obtain rfl := key_of (d2.ext x3) e2
  refine ⟨valV ws ky, .inl ⟨ws, ky, rd, rfl, rfl⟩, ?_⟩
  rcases al.val ky with ⟨z1, z2⟩ | ⟨u, du, z1, z2, hd⟩
  · rw [z1] at t3
    rw [z2]
    exact k _ H3 _ S3 r3 ((x1.trans x2).trans x3) d3 t3
  · rw [z1] at t3
    rw [z2]
    exact k _ H3 _ S3 r3 ((x1.trans x2).trans x3) hd t3
end
section
variable {X : Cx} {dx : Dx} {k : Nat} {f : Addr} {fd : FuncData} {ps : List Str} {x : Str} {p pos : Pos} {spec : DSpec}
/-- f() -/
theorem de_call0_ (K : PySem.W.Frag) (F : FnG X.prog X.w K X.mg X.base CX0 k f fd ps (spP K spec)) (room : Room k X.A) (guard : X.A.guards = some [])
    (hg : Gl X x) (hm : X.mg x = some (.ref f)) (kp : PySem.W.keepIn K (.ref f) = true) (hb : Binds K fd ps []) (hdb : (x == ("__debug__" : Str)) = false := by decide) (hK : X.K = K := by rfl) :
    DE X dx (.Call (.Name x p) [] [] pos) (tCall (spP K spec) [] (fun _ _ _ => False) tNil) (dCall spec dNil) := by
  subst hK
  exact de_call0 F room guard hg hm kp hb (.inl ⟨rfl, rfl⟩) hdb
end
section
variable {X : Cx} {dx : Dx} {tg a : Expr} {ta : TE} {fa : DTE} {p p2 p3 pos : Pos}
/-- reversed(range(a)) -/
def dRevRg (fa : DTE) : DTA := fun δ S Q => fa δ S fun d S1 => match d with
  | .int j => Rg j ∧ Q (rngD (0 + (((j - 0).toNat : Nat) : Int) - 1) (-1) (j - 0).toNat) S1
  | _ => False
theorem di_revRg (hg : Gl X "reversed") (hm : X.mg "reversed" = none) (hg2 : Gl X "range") (hm2 : X.mg "range" = none) (ha : DE X dx a ta fa)
    (na : starEach [a] X.env = (false, eval a X.env) :: starEach [] X.env := by rfl) (hs : starEach [.Call (.Name "range" p2) [a] [] p3] X.env = (false, eval (.Call (.Name "range" p2) [a] [] p3) X.env) :: starEach [] X.env := by rfl) :
    DI X dx tg (.Call (.Name "reversed" p) [.Call (.Name "range" p2) [a] [] p3] [] pos) (iRevR (tRg1 ta)) (dRevRg fa) := by
  refine ⟨pi_revR hg hm (prg_1 hg2 hm2 ha.pe na) hs, fun σ H δ S Q R r0 s0 t k => ?_⟩
  refine ha.go σ H δ S _ _ r0 s0 t fun v H1 d S1 r1 x1 d1 t1 => ?_
  cases d1 with
  | int j => exact ⟨j, rfl, by decide, by decide, t1.1.1, t1.1.2, k _ H1 _ S1 r1 x1 walks_rngC t1.2⟩
  | _ => exact t1.elim
end
end DL
/-! List comprehensions of any number of clauses. -/
namespace L2
open PySem PySem.Spec PyProof.Rows
section
variable {prog : Program} {w : World} {A : Around} {R : Result → Shared → Prop} {s : Shared} {elt : Expr} {gs : List Comprehension} {scope : Scope} {pos : Pos} {it acc : Value} {env : Env}
/-- what a clause does behind its tests: the next clause, or the end -/
def tailS (c : Expr) (d : Nat) (it acc : Value) (env : Env) : Option Expr → Sem Fin
  | some i => eval i env >>= fun x => standAt i.pos >>= fun _ => foldedSetIterable i env x >>= fun x =>
      holding [x] (pyIter x) >>= fun z => runOwn (.compStart c (d + 1) z acc env) env >>= fun _ => again (.compLoop c d it acc env)
  | none => (match c with
    | .ListComp elt .. => eval elt env >>= fun x => call (.builtin "list.append") [acc, x] >>= fun _ => pure ()
    | _ => pure ()) >>= fun _ => again (.compLoop c d it acc env)
/-- what a clause does with an item -/
def itemS (c t : Expr) (ifs : List Expr) (d : Nat) (it acc : Value) (env : Env) (nx : Option Expr) (v : Value) : Sem Fin :=
  letOwnedTupleGo t it v >>= fun _ => assign t env v >>= fun _ =>
    (forIn ifs true fun b r => if r = true then (do let ok ← isTrue b env (eval b env); pure (ForInStep.yield ok)) else pure (ForInStep.yield r)) >>= fun ok =>
      if ok = true then tailS c d it acc env nx else again (.compLoop c d it acc env)
def NextIs (gs : List Comprehension) (d : Nat) : Option Expr → Prop
  | none => gs[d + 1]? = none
  | some i => ∃ t ifs, gs[d + 1]? = some ⟨t, i, ifs, 0⟩
theorem turnL {t i : Expr} {ifs : List Expr} {d : Nat} {nx : Option Expr} (hg : gs[d]? = some ⟨t, i, ifs, 0⟩) (hn : NextIs gs d nx) :
    compTurn (.ListComp elt gs scope pos) d it acc env = (standAt i.pos >>= fun _ => pyNext it >>= fun r => match r with
      | none => pure (.done .next)
      | some v => itemS (.ListComp elt gs scope pos) t ifs d it acc env nx v) := by
  unfold compTurn
  simp only [hg]
  unfold itemS tailS
  cases nx with
  | none => simp only [show gs[d + 1]? = none from hn]; rfl
  | some q => obtain ⟨t1, f1, e⟩ := hn; simp only [e]; rfl
/-- the loop of any clause -/
theorem loopL {t i : Expr} {ifs : List Expr} {d : Nat} {nx : Option Expr} (hg : gs[d]? = some ⟨t, i, ifs, 0⟩) (hn : NextIs gs d nx) (I : Nat → Shared → Prop)
    (turn : ∀ n s, I n s → wpAny (model prog w) A (pyNext it) (fun r s₁ => match r with
      | none => R (.ok .next) s₁
      | some v => wpAny (model prog w) A (itemS (.ListComp elt gs scope pos) t ifs d it acc env nx v) (fun f s' => f = .again (.compLoop (.ListComp elt gs scope pos) d it acc env) ∧ ∃ m, m < n ∧ I m s') (fun _ _ => False) s₁) (fun _ _ => False) s)
    (n : Nat) (h : I n s) : codeAny (model prog w) A (.compLoop (.ListComp elt gs scope pos) d it acc env) R s := by
  refine codeAny_loop rfl I (fun n s hI => ?_) n h
  show wpAny _ A ((compTurn (.ListComp elt gs scope pos) d it acc env).onRaise (fun x => do noteFrame x env; theTreesLotGoes x)) _ _ s
  refine wpAny_noted ?_
  rw [turnL hg hn]
  refine wpAny_bind (wpAny_standAt (wpAny_bind (wpAny_mono (turn n s hI) (fun r s₁ h₁ => ?_) fun _ _ h' => h'.elim)))
  cases r with
  | none => exact wpAny_pure h₁
  | some v =>
    refine wpAny_mono h₁ (fun f s' q => ?_) fun _ _ h' => h'.elim
    obtain ⟨rfl, q⟩ := q
    exact ⟨rfl, q⟩
end
end L2
namespace L2
open PySem PySem.Spec PyProof.Rows
theorem wipe_more {σ : St} {vs ws : List Nat} (h : ∀ i ∈ ws, i ∈ vs) {j : Nat} {v : V} (e : (wipe σ vs)[j]? = some (some v)) : (wipe σ ws)[j]? = some (some v) := by
  obtain ⟨e1, e2⟩ := wipe_some e
  rw [wipe_out fun z => e2 (h j z)]
  exact e1
/-- what is reached behind a clause's tests -/
abbrev TN := St → Hp → (Hp → Prop) → Prop
def tnE (te : TE) (D : Addr) : TN := fun σ H Nx => te σ H fun y H7 => ∃ xs, H7 D = some (.lst xs) ∧ xs.length < sizeLine ∧ Nx (upd H7 D (.lst (xs ++ [y])))
def tnC (wi : TI) (g : TG) (tt : TT) (t : TN) (vs : List Nat) : TN := fun σ H Nx => wi σ H fun J H4 => ∃ W : Nat → Nat → Hp → Prop, (∃ m, W 0 m H4) ∧ ∀ j k H, W j k H →
  (J.stop j H ∧ Nx H) ∨ (J.go j H ∧ ∃ N1 : Hp → Prop, (∀ H', N1 H' → ∃ k', k' < k ∧ W (j + 1) k' H') ∧ ∀ x H', J.yld j H x H' → g x (wipe σ vs) H' fun σ3 H5 => wipe σ3 vs = wipe σ vs ∧ tt σ3 H5 fun b H6 =>
    if b = true then t σ3 H6 N1 else N1 H6)
structure PN (X : Cx) (c : Expr) (d : Nat) (D : Addr) (nx : Option Expr) (vs : List Nat) (t : TN) : Prop where
  run : ∀ (pins : List (Addr × Obj)) (s : Shared) (σ : St) (H : Hp) (N : Hp → Prop) (it : Value), Inv X pins σ H s → t σ H N →
    wpAny (model X.prog X.w) X.A (tailS c d it (.ref D) X.env nx) (fun f s' => f = .again (.compLoop c d it (.ref D) X.env) ∧ ∃ H', Inv X pins (wipe σ vs) H' s' ∧ N H') (fun _ _ => False) s
section
variable {X : Cx} {elt : Expr} {gs : List Comprehension} {scope : Scope} {pos : Pos} {d : Nat} {D : Addr} {te : TE}
theorem pn_end (hx : X.xe = fun _ _ => False) (he : PE X elt te) : PN X (.ListComp elt gs scope pos) d D none [] (tnE te D) := by
  refine ⟨fun pins s σ H N it I h => ?_⟩
  have r := he.run pins s σ H _ I h
  rw [hx] at r
  refine wpAny_bind (wpAny_bind (thn r fun z s1 ⟨y, H1, I1, r1, xs, hD, hz, n⟩ => wpAny_bind (app_ok I1 hD hz r1 fun s2 I2 => wpAny_pure (wpAny_pure ⟨rfl, _, I2, n⟩))))
/-- an item of a clause: the store, the tests, what is behind them -/
theorem item_ok {s : Shared} {σ : St} {t : Expr} {ifs : List Expr} {nx : Option Expr} {ws vs : List Nat} {T : TN} {g : TG} {tt : TT} {u it : Value} {N : Hp → Prop} {R : Shared → Prop} {c : Expr}
    (hx : X.xe = fun _ _ => False) (hg : PG X t g) (ht : PTs X ifs tt) (inner : PN X c d D nx ws T) (sub : ∀ i ∈ ws, i ∈ vs)
    (go : wpAny (model X.prog X.w) X.A (letOwnedTupleGo t it u) (fun _ s' => ∃ pins x H', Inv X pins (wipe σ vs) H' s' ∧ RelV x u ∧ (g x (wipe σ vs) H' fun σ3 H5 => wipe σ3 vs = wipe σ vs ∧ tt σ3 H5 fun b H6 => if b = true then T σ3 H6 N else N H6) ∧
      ∀ s2 H2, Inv X pins (wipe σ vs) H2 s2 → N H2 → R s2) (fun _ _ => False) s) :
    wpAny (model X.prog X.w) X.A (itemS c t ifs d it (.ref D) X.env nx u) (fun f s' => f = .again (.compLoop c d it (.ref D) X.env) ∧ R s') (fun _ _ => False) s := by
  refine wpAny_bind (thn go fun _ s1 ⟨pins, x, H1, I1, r1, q1, fin⟩ => ?_)
  have r := hg.run pins s1 _ H1 x u _ I1 r1 q1
  rw [hx] at r
  refine wpAny_bind (thn r fun _ s2 ⟨σ2, H2, I2, w2, q2⟩ => ?_)
  have r := ht.run pins s2 σ2 H2 _ I2 q2
  rw [hx] at r
  refine wpAny_bind (thn r fun b s3 ⟨H3, I3, q3⟩ => ?_)
  have back : ∀ {σ' : St} {H' : Hp} {s' : Shared}, Inv X pins σ' H' s' → σ'.length = σ2.length → (∀ (j : Nat) v, (wipe σ2 vs)[j]? = some (some v) → σ'[j]? = some (some v)) → Inv X pins (wipe σ vs) H' s' := fun I' l k => by
    rw [← w2]
    exact I'.weak (by rw [wipe_length, l]) k
  cases b with
  | false =>
    rw [if_neg Bool.false_ne_true] at q3 ⊢
    exact wpAny_pure ⟨rfl, fin _ H3 (back I3 rfl fun j v e => (wipe_some e).1) q3⟩
  | true =>
    rw [if_pos rfl] at q3 ⊢
    refine thn (inner.run pins s3 σ2 H3 N it I3 q3) fun f s4 ⟨e, H4, I4, n4⟩ => ⟨e, fin _ H4 (back I4 (wipe_length _ _) fun j v e => wipe_more sub e) n4⟩
end
end L2
namespace L2
open PySem PySem.Spec PyProof.Rows
section
variable {prog : Program} {w : World} {A : Around} {R : Result → Shared → Prop} {s : Shared} {elt : Expr} {gs : List Comprehension} {scope : Scope} {pos : Pos} {it acc : Value} {env : Env} {d : Nat}
/-- a later clause's start -/
theorem startL {t i : Expr} {ifs : List Expr} (hg : gs[d]? = some ⟨t, i, ifs, 0⟩) (h0 : codeAny (model prog w) A (.compLoop (.ListComp elt gs scope pos) d it acc env) R s)
    (h : wpAny (model prog w) A (pyIter it) (fun z s' => codeAny (model prog w) A (.compLoop (.ListComp elt gs scope pos) d z acc env) R s') (fun _ _ => False) s) :
    codeAny (model prog w) A (.compStart (.ListComp elt gs scope pos) d it acc env) R s := by
  have cl : (clausesOf (.ListComp elt gs scope pos))[d]? = some ⟨t, i, ifs, 0⟩ := hg
  have quiet : (Code.compStart (.ListComp elt gs scope pos) d it acc env).isFrame = (Code.compLoop (.ListComp elt gs scope pos) d it acc env).isFrame := rfl
  refine codeAny_of_tree ?_
  show wpAny _ _ ((compStart (.ListComp elt gs scope pos) d it acc env).onRaise (fun x => do noteFrame x env; standAt theWindowsPlace)) _ _ s
  refine wpAny_notedAt ?_
  unfold compStart
  rw [cl]
  show wpAny _ _ (ask >>= _) _ _ s
  refine wpAny_bind (wpAny_askSetting (wpAny_ite ?_))
  split
  · first
      | exact wpAny_bind (wpAny_pure (wpAny_pure (And.intro rfl h0)))
      | exact wpAny_pure (And.intro rfl h0)
  · refine wpAny_bind (wpAny_rule ?_)
    show wpAny _ _ (standAt i.pos >>= _) _ _ s
    exact wpAny_bind (wpAny_standAt (wpAny_bind (wpAny_mono h (fun _ _ q => wpAny_pure (And.intro rfl q)) fun _ _ x => x.elim)))
end
section
variable {X : Cx} {elt : Expr} {gs : List Comprehension} {scope : Scope} {pos : Pos} {d : Nat} {D : Addr} {te : TE}
theorem pn_next {t i : Expr} {ifs : List Expr} {nx : Option Expr} {ws vs : List Nat} {T : TN} {wi : TI} {g : TG} {tt : TT} (hc : X.calm = true) (hx : X.xe = fun _ _ => False) (hd : gs[d + 1]? = some ⟨t, i, ifs, 0⟩) (hn : NextIs gs (d + 1) nx)
    (hi : PI X t i wi) (hg : PG X t g) (ht : PTs X ifs tt) (inner : PN X (.ListComp elt gs scope pos) (d + 1) D nx ws T) (sub : ∀ j ∈ ws, j ∈ vs) (hs : ∀ env x, foldedSetIterable i env x = pure x) :
    PN X (.ListComp elt gs scope pos) d D (some i) vs (tnC wi g tt T vs) := by
  refine ⟨fun pins s σ H N it I h => ?_⟩
  have r := hi.run pins s σ H _ I h
  rw [hx] at r
  refine wpAny_bind (thn r fun xv s1 q1 => wpAny_bind (wpAny_standAt (wpAny_bind (wpAny_of_eq (hs X.env xv) (wpAny_bind (wpAny_holding (thn q1 fun itv s2 q2 => ?_)))))))
  obtain ⟨it1, fp, tn, J, H2, e, I2, T2, st2, f2, W, ⟨m0, w0⟩, turn⟩ := q2
  subst e
  refine wpAny_bind (wpAny_runOwn ?_)
  rw [Around.mark_none]
  have stat : ∀ {H' : Hp}, (∀ b ∈ fp, H' b = none) → ∀ b ∈ fp, FpOk X pins H' b := fun hn b hb => ⟨hn b hb, (f2 b hb).2⟩
  have loop : codeAny (model X.prog X.w) X.A (.compLoop (.ListComp elt gs scope pos) (d + 1) (.ref it1) (.ref D) X.env) (fun r s' => match r with
      | .ok f => f = .next ∧ ∃ H', Inv X pins (wipe σ vs) H' s' ∧ N H'
      | .error _ => False) s2 := by
    refine loopL hd hn (fun k s' => ∃ j H', Inv X pins (wipe σ vs) H' s' ∧ tn j s'.heap ∧ (∀ b ∈ fp, H' b = none) ∧ W j k H') ?_ m0 ⟨0, H2, I2.weak (wipe_length _ _) (fun j v e => (wipe_some e).1), st2, fun b hb => (f2 b hb).1, w0⟩
    rintro k s3 ⟨j, H3, I3, st3, n3, w3⟩
    rcases turn j k H3 w3 with ⟨stop, nd⟩ | ⟨go, N1, hN1, step⟩
    · refine thnF (T2.done X rfl rfl rfl hc j pins s3 (wipe σ vs) H3 (fun _ _ => False) I3 (stat n3) st3 stop) fun r s4 ⟨hr, I4⟩ => ?_
      subst hr
      exact ⟨rfl, H3, I4, nd⟩
    · refine thnF (T2.item X rfl rfl rfl hc j pins s3 (wipe σ vs) H3 (fun _ _ => False) I3 (stat n3) st3 go) fun r s4 ⟨u, hr, h4⟩ => ?_
      subst hr
      refine item_ok (N := N1) (σ := σ) hx hg ht inner sub (thnF h4 fun _ s5 ⟨x, H5, I5, r5, y5, st5, n5⟩ => ?_)
      refine ⟨pins ++ pinsAt fp s5.heap, x, H5, I5.pinned (stat n5) (T2.obj _ _ st5), r5, step x H5 y5, fun s6 H6 I6 n6 => ?_⟩
      obtain ⟨k', hk, w'⟩ := hN1 H6 n6
      have pin : ∀ b ∈ fp, ∀ o, s5.heap.get? b = some o → s6.heap.get? b = some o ∧ H6 b = none := fun b hb o e =>
        let z := I6.pin (b, o) (List.mem_append_right _ (List.mem_append_right _ (mem_pinsAt hb e)))
        ⟨z.1, z.2.1⟩
      refine ⟨k', hk, j + 1, H6, I6.unpinned, T2.keep _ _ _ st5 fun b hb o e => (pin b hb o e).1, fun b hb => ?_, w'⟩
      obtain ⟨o, e, _⟩ := T2.obj _ _ st5 b hb
      exact (pin b hb o e).2
  refine codeAny_mono (startL hd loop (T2.self X.A 0 _ _ _ st2 loop)) fun r s' hr => ?_
  cases r with
  | ok f =>
    obtain ⟨rfl, q⟩ := hr
    first
      | exact wpAny_pure ⟨rfl, q⟩
      | exact wpAny_bind (wpAny_pure (wpAny_pure ⟨rfl, q⟩))
  | error e => exact hr.elim
end
end L2
namespace L2
open PySem PySem.Spec PyProof.Rows
section
variable {X : Cx}
/-- [elt for tg in iter if .. for ..]: the first clause, and what is behind its tests -/
def tLcN (wi : TI) (g : TG) (tt : TT) (T : Addr → TN) (vs : List Nat) : TE := fun σ H Q => wi σ H fun J H1 => ∀ D, H1 D = none → ∃ W : Nat → Nat → Hp → Prop, (∃ m, W 0 m (upd H1 D (.lst []))) ∧ ∀ i m H, W i m H →
  (J.stop i H ∧ Q (.ref D) H) ∨ (J.go i H ∧ ∃ N : Hp → Prop, (∀ H', N H' → ∃ m', m' < m ∧ W (i + 1) m' H') ∧ ∀ x H', J.yld i H x H' → g x (wipe σ vs) H' fun σ2 H2 => wipe σ2 vs = wipe σ vs ∧ tt σ2 H2 fun b H3 =>
    if b = true then T D σ2 H3 N else N H3)
abbrev BlkX (X : Cx) (scope : Scope) (s : Shared) (H : Hp) (C : Addr) (cl : List (Str × Addr)) (fp : List Addr) : Cx := X.blk s H scope (compEnvC scope cl C X.env) fp
theorem lcN_core {pins : List (Addr × Obj)} {s : Shared} {σ : St} {H : Hp} {Q : VK} {elt tg iter i1 : Expr} {ifs : List Expr} {gs : List Comprehension} {scope : Scope} {own : List (Str × Nat)} {ws : List Nat} {pos pos' : Pos} {wi : TI} {g : TG} {tt : TT} {T : Addr → TN}
    {use : Option (Value → Sem Unit)} {Qf : Value → Shared → Prop} (hc : X.calm = true) (hN : X.N.Nodup) (I : Inv X pins σ H s) (hi : PI X tg iter wi) (ok : BlkOk X.N X.env.scope scope own) (hnx : NextIs (⟨tg, iter, ifs, 0⟩ :: gs) 0 (some i1))
    (hg : ∀ s H C cl fp, PG (BlkX X scope s H C cl fp) tg g) (ht : ∀ s H C cl fp, PTs (BlkX X scope s H C cl fp) ifs tt)
    (hT : ∀ s H C cl fp D, PN (BlkX X scope s H C cl fp) (.ListComp elt (⟨tg, iter, ifs, 0⟩ :: gs) scope pos) 0 D (some i1) ws (T D)) (sub : ∀ i ∈ ws, i ∈ own.map (·.2)) (hs : ∀ x, foldedSetIterable iter X.env x = pure x)
    (h : tLcN wi g tt T (own.map (·.2)) σ H Q)
    (hRR : ∀ D C s' m H', Inv X pins σ H' s' → Q (.ref D) H' → s'.heap.Ns C m → FpOk X pins H' C → compPost (model X.prog X.w) X.A X.xe use Qf (.ref D) C (.ok .next) s') :
    wpAny (model X.prog X.w) X.A (comprehension (.ListComp elt (⟨tg, iter, ifs, 0⟩ :: gs) scope pos) scope X.env pos' (newList []) false (eval iter X.env) use) Qf X.xe s := by
  have clo : ∀ y ∈ scope.names, y.2 = .free → ∃ c, X.env.cells.lookup y.1 = some c := fun y hy e => (ok.free y hy e).elim (fun k => I.ok.has _ (.inl k)) fun k => I.ok.has _ (.inr k)
  refine wpAny_comprehension_free (use := use) rfl hs (closure_ok clo) ok.kind (fun y hy e => by rw [ok.uniq y hy, e]) (thn (hi.run pins s σ H _ I h) fun xv s1 hx => thn hx fun itv s2 h2 => ?_)
  obtain ⟨it, fp, tn, J, H2, e, Y2, Tn, st2, f2, q⟩ := h2
  subst e
  refine wpAny_newObj_type (newEnv_comp ?_) (Nat.zero_le _)
  generalize eD : s2.heap.objs.size = D
  have nD : H2 D = none := Y2.hok.fresh (Nat.le_of_eq eD)
  obtain ⟨W, ⟨n0, z0⟩, each⟩ := q D nD
  generalize es3 : ({ s2 with heap := s2.heap.push { cls := .type "list", data := .seq ([] : List Value).toArray } } : Shared) = s3
  have eh3 : s3.heap = s2.heap.push { cls := .type "list", data := .seq ([] : List Value).toArray } := by subst es3; rfl
  have Y3 : Inv X pins σ (upd H2 D (.lst [])) s3 := by
    subst es3
    refine Y2.laid (t' := s2.toks) (fun b o e => Heap.get?_push_of_some _ e) (Nat.le_of_eq eD) ⟨Nat.zero_le _, [], 0, .nil, ?_⟩
    subst eD
    exact Heap.get?_push_size _ rfl
  have ok3 : ∀ b ∈ fp, FpOk X pins (upd H2 D (.lst [])) b ∧ b < s3.heap.objs.size := fun b hb => by
    obtain ⟨o, e, _⟩ := Tn.obj _ _ st2 b hb
    have lt := Heap.lt_size e
    exact ⟨⟨by rw [upd_ne (Nat.ne_of_lt (eD ▸ lt))]; exact (f2 b hb).1, (f2 b hb).2⟩, by rw [eh3, Heap.size_push]; exact Nat.lt_succ_of_lt lt⟩
  have t3 : tn 0 s3.heap := Tn.keep _ _ _ st2 fun b _ o e => eh3 ▸ Heap.get?_push_of_some _ e
  have Y4 := block_start Y3 ok hN ok3
  have qg := hg s3 (upd H2 D (.lst [])) s3.heap.objs.size (cellsFrom (s3.heap.objs.size + 1) scope.names (cloFrom X.env.cells scope.names [])) fp
  have qt := ht s3 (upd H2 D (.lst [])) s3.heap.objs.size (cellsFrom (s3.heap.objs.size + 1) scope.names (cloFrom X.env.cells scope.names [])) fp
  have qT := hT s3 (upd H2 D (.lst [])) s3.heap.objs.size (cellsFrom (s3.heap.objs.size + 1) scope.names (cloFrom X.env.cells scope.names [])) fp D
  dsimp only [BlkX] at qg qt qT
  show codeAny _ _ (.compStart (.ListComp elt (⟨tg, iter, ifs, 0⟩ :: gs) scope pos) 0 (.ref it) (.ref D) (compEnvC scope (cellsFrom (s3.heap.objs.size + 1) scope.names (cloFrom X.env.cells scope.names [])) s3.heap.objs.size X.env)) (compPost (model X.prog X.w) X.A X.xe use Qf (.ref D) s3.heap.objs.size)
    { s3 with heap := pushCells (s3.heap.push { cls := .type "dict", data := .dict #[] }) scope.names }
  have none3 : ∀ b ∈ fp, (upd H2 D (.lst [])) b = none := fun b hb => (ok3 b hb).1.1
  generalize ece : compEnvC scope (cellsFrom (s3.heap.objs.size + 1) scope.names (cloFrom X.env.cells scope.names [])) s3.heap.objs.size X.env = ce at Y4 qg qt qT ⊢
  have loc3 : ce.locals = s3.heap.objs.size := by subst ece; rfl
  generalize eH3 : upd H2 D (.lst []) = H3 at Y3 Y4 qg qt qT z0 none3 ok3
  generalize es4 : ({ s3 with heap := pushCells (s3.heap.push { cls := .type "dict", data := .dict #[] }) scope.names } : Shared) = s4 at Y4 ⊢
  have t4 : tn 0 s4.heap := Tn.keep _ _ _ t3 fun b _ o e => es4 ▸ pushCells_keeps _ _ _ _ (Heap.get?_push_of_some _ e)
  generalize hB : X.blk s3 H3 scope ce fp = B at Y4 qg qt qT
  have bA : B.A = X.A := by subst hB; rfl
  have stat : ∀ {σ' : St} {H' : Hp} {s' : Shared}, Inv B [] σ' H' s' → (∀ b ∈ fp, H' b = none) → ∀ b ∈ fp, FpOk B [] H' b := fun {σ' H' s'} I' ns b hb => by
    subst hB
    exact ⟨ns b hb, (I'.ok.exf b hb).1, I'.ok.exfs b hb, .inl hb, fun x c e => (I'.ok.exf b hb).2 x c e, fun p hp => absurd (show p ∈ ([] : List (Addr × Obj)) ++ [] from hp) (by simp)⟩
  have loop : codeAny (model X.prog X.w) X.A (.compLoop (.ListComp elt (⟨tg, iter, ifs, 0⟩ :: gs) scope pos) 0 (.ref it) (.ref D) ce) (compPost (model X.prog X.w) X.A X.xe use Qf (.ref D) s3.heap.objs.size) s4 := by
    refine loopL (t := tg) (i := iter) (ifs := ifs) rfl hnx (fun n s' => ∃ i H', Inv B [] (wipe σ (own.map (·.2))) H' s' ∧ tn i s'.heap ∧ (∀ b ∈ fp, H' b = none) ∧ W i n H') ?_ n0 ⟨0, H3, Y4, t4, none3, z0⟩
    rintro n u5 ⟨i, G5, Y5, st5, n5, w5⟩
    rcases each i n G5 w5 with ⟨stop, qq⟩ | ⟨go, N, hN, step⟩
    · have td := Tn.done B (by subst hB; rfl) (by subst hB; rfl) (by subst hB; rfl) (by subst hB; exact hc) i [] u5 _ G5 (fun _ _ => False) Y5 (stat Y5 n5) st5 stop
      rw [bA] at td
      refine thn td fun r u6 ⟨hr, Y6⟩ => ?_
      subst hr hB
      have Y7 : Inv X pins σ G5 u6 := Y3.call' (ch := fp) Y6.os Y6.base Y6.hok Y6.bare fun b hb => ⟨(ok3 b hb).1.2.2.2.1, (ok3 b hb).1.2.1, (ok3 b hb).1.2.2.2.2.1, (ok3 b hb).1.2.2.2.2.2⟩
      have noC : G5 s3.heap.objs.size = none := by
        have z : G5 ce.locals = none := Y6.free
        rwa [loc3] at z
      obtain ⟨m, ns, _⟩ := Y6.loc
      have ns : u6.heap.Ns ce.locals m := ns
      rw [loc3] at ns
      exact hRR D s3.heap.objs.size u6 m G5 Y7 qq ns (Y3.fpOk (Nat.le_refl _) noC)
    · have ti := Tn.item B (by subst hB; rfl) (by subst hB; rfl) (by subst hB; rfl) (by subst hB; exact hc) i [] u5 _ G5 (fun _ _ => False) Y5 (stat Y5 n5) st5 go
      rw [bA] at ti
      refine thn ti fun r u6 ⟨u, hr, h6⟩ => ?_
      subst hr
      have key := item_ok (X := B) (s := u6) (σ := σ) (t := tg) (ifs := ifs) (vs := own.map (·.2)) (u := u) (it := .ref it) (N := N) (R := fun s' => ∃ m, m < n ∧ ∃ i H', Inv B [] (wipe σ (own.map (·.2))) H' s' ∧ tn i s'.heap ∧ (∀ b ∈ fp, H' b = none) ∧ W i m H')
        (by subst hB; rfl) qg qt qT sub (by
          subst hB
          refine thn h6 fun _ s7 ⟨x, H7, Y7, r7, y7, st7, n7⟩ => ?_
          refine ⟨[] ++ pinsAt fp s7.heap, x, H7, Y7.pinned (stat Y7 n7) (Tn.obj _ _ st7), r7, step x H7 y7, fun s8 H8 Y8 nx => ?_⟩
          obtain ⟨m', hm, w'⟩ := hN H8 nx
          have pin' : ∀ b ∈ fp, ∀ o, s7.heap.get? b = some o → s8.heap.get? b = some o ∧ H8 b = none := fun b hb o e =>
            let z := Y8.pin (b, o) (List.mem_append_right _ (List.mem_append_right _ (mem_pinsAt hb e)))
            ⟨z.1, z.2.1⟩
          refine ⟨m', hm, i + 1, H8, Y8.unpinned, Tn.keep _ _ _ st7 fun b hb o e => (pin' b hb o e).1, fun b hb => ?_, w'⟩
          obtain ⟨o, e, _⟩ := Tn.obj _ _ st7 b hb
          exact (pin' b hb o e).2)
      subst hB
      exact key
  exact codeAny_compStart_list loop (Tn.self X.A 0 _ _ _ t4 loop)
end
end L2
namespace L2
open PySem PySem.Spec PyProof.Rows
section
variable {X : Cx} {elt tg iter i1 : Expr} {ifs : List Expr} {gs : List Comprehension} {scope : Scope} {own : List (Str × Nat)} {ws : List Nat} {pos : Pos} {wi : TI} {g : TG} {tt : TT} {T : Addr → TN}
theorem pe_lcN (hc : X.calm = true) (hN : X.N.Nodup) (hi : PI X tg iter wi) (ok : BlkOk X.N X.env.scope scope own) (hnx : NextIs (⟨tg, iter, ifs, 0⟩ :: gs) 0 (some i1)) (hg : ∀ s H C cl fp, PG (BlkX X scope s H C cl fp) tg g) (ht : ∀ s H C cl fp, PTs (BlkX X scope s H C cl fp) ifs tt)
    (hT : ∀ s H C cl fp D, PN (BlkX X scope s H C cl fp) (.ListComp elt (⟨tg, iter, ifs, 0⟩ :: gs) scope pos) 0 D (some i1) ws (T D)) (sub : ∀ i ∈ ws, i ∈ own.map (·.2)) (hs : ∀ x, foldedSetIterable iter X.env x = pure x := by intro _; rfl) :
    PE X (.ListComp elt (⟨tg, iter, ifs, 0⟩ :: gs) scope pos) (tLcN wi g tt T (own.map (·.2))) := by
  constructor
  intro pins s σ H Q I h
  rw [eval_ListComp]
  refine lcN_core hc hN I hi ok hnx hg ht hT sub hs h fun D C s' m H' I' q ns f => ⟨m, ns, fun h'' only => ?_⟩
  exact ⟨.ref D, H', I'.turned (t' := s'.toks) (fun b o hb e => (only.2 b hb).trans e) f.1 f.2.1 f.2.2.2.1 f.2.2.2.2.1 f.2.2.2.2.2, rfl, q⟩
theorem ps_setLcN {i : Nat} {y : Str} {py spos : Pos} (hc : X.calm = true) (hN : X.N.Nodup) (hy : X.N[i]? = some y) (hyl : X.env.scope.names.lookup y = some .local)
    (hsw : swapsWith (.ListComp elt (⟨tg, iter, ifs, 0⟩ :: gs) scope pos) (some (.Name y py)) spos.line X.env = pure true) (hi : PI X tg iter wi) (ok : BlkOk X.N X.env.scope scope own) (hnx : NextIs (⟨tg, iter, ifs, 0⟩ :: gs) 0 (some i1))
    (hg : ∀ s H C cl fp, PG (BlkX X scope s H C cl fp) tg g) (ht : ∀ s H C cl fp, PTs (BlkX X scope s H C cl fp) ifs tt)
    (hT : ∀ s H C cl fp D, PN (BlkX X scope s H C cl fp) (.ListComp elt (⟨tg, iter, ifs, 0⟩ :: gs) scope pos) 0 D (some i1) ws (T D)) (sub : ∀ i ∈ ws, i ∈ own.map (·.2)) (hs : ∀ x, foldedSetIterable iter X.env x = pure x := by intro _; rfl) :
    PS X (.Assign [.Name y py] (.ListComp elt (⟨tg, iter, ifs, 0⟩ :: gs) scope pos) spos) (tAsg (tLcN wi g tt T (own.map (·.2))) (gName i)) := by
  constructor
  intro pins s σ H D I h
  rw [exec_Assign_Name_used _ _ _ _ hsw]
  refine wpAny_bind (wpAny_standAt (wpAny_bind ?_))
  show wpAny _ X.A (do let _ ← comprehension (.ListComp elt (⟨tg, iter, ifs, 0⟩ :: gs) scope pos) scope X.env (firstIterPos (⟨tg, iter, ifs, 0⟩ :: gs) pos) (newList []) false (eval iter X.env) (some (assign (.Name y py) X.env))) _ _ s
  have h : tLcN wi g tt T (own.map (·.2)) σ H (fun x H1 => gName i x σ H1 D.nx) := h
  refine wpAny_bind (thn (lcN_core (Qf := fun _ s' => SP X pins D .next s') hc hN I hi ok hnx hg ht hT sub hs h fun L C s' m H' I' q ns f => ?_) fun _ s' hq => wpAny_pure (wpAny_pure hq))
  show wpAny _ _ (assign (.Name y py) X.env (.ref L)) _ _ _
  refine wpAny_assign_Name (store_ok2 (v := V.ref L) I' hN hy (.inl hyl) rfl (fun s2 Y2 ⟨a, only, ha⟩ => ?_) (.inr hyl))
  have haC : C ≠ a := ha.elim (fun z => by rw [z]; exact f.2.1) fun z e => f.2.2.2.2.1 y a z e.symm
  exact ⟨m, ns.sameBut only haC, fun eh3 only3 => ⟨_, H', Y2.turned (t' := s2.toks) (fun b o hb e => (only3.2 b hb).trans e) f.1 f.2.1 f.2.2.2.1 f.2.2.2.2.1 f.2.2.2.2.2, q⟩⟩
end
end L2
namespace DL
open PySem PySem.Spec L2 Gd
/-- what is reached behind a clause's tests, over data: the items so far, those behind it -/
abbrev DTN := Sl → Sto → List D → (List D → Sto → Prop) → Prop
def dnE (fa : DTE) : DTN := fun δ S acc k => fa δ S fun d S' => Fit (acc.length + 1) ∧ k (acc ++ [d]) S'
def lcnGo (f : DTG) (ft : DTT) (t : DTN) (vs : List Nat) (δ : Sl) (k : List D → Sto → Prop) : List D → List D → Sto → Prop
  | [], acc, S => k acc S
  | x :: xs, acc, S => f x (wipeD δ vs) fun δ1 => ft δ1 S fun b S1 => if b = true then t δ1 S1 acc (lcnGo f ft t vs δ k xs) else lcnGo f ft t vs δ k xs acc S1
def dnC (fi : DTA) (f : DTG) (ft : DTT) (t : DTN) (vs : List Nat) : DTN := fun δ S acc k => fi δ S fun ys S' => lcnGo f ft t vs δ k ys acc S'
def dLcN (fi : DTA) (f : DTG) (ft : DTT) (t : DTN) (vs : List Nat) : DTE := fun δ S Q => fi δ S fun xs S1 => lcnGo f ft t vs δ (fun acc S => Q (.lst acc) S) xs [] S1
structure DN (K : PySem.W.Frag) (dx : Dx) (p : Addr) (T : TN) (t : DTN) : Prop where
  go : ∀ (M : Mm) (H0 : Hp) σ H δ S acc vs k N, H0 p = none → dx.H0 p = none → ¬ dx.hand p → HR K (dx.and p) H S → SR K (dx.and p) σ H δ S → Ext M H0 (Mu (dx.and p) S) H → H p = some (.lst vs) → DtAll K (Mu (dx.and p) S) H vs acc → t δ S acc k →
    (∀ H' S' acc' vs', HR K (dx.and p) H' S' → Ext M H0 (Mu (dx.and p) S') H' → ExtD (Mu (dx.and p) S) H (Mu (dx.and p) S') H' → H' p = some (.lst vs') → DtAll K (Mu (dx.and p) S') H' vs' acc' → k acc' S' → N H') → T σ H N
theorem ext_puts {M : Mm} {dx : Dx} {p : Addr} {H H1 : Hp} {S1 : Sto} {o : HO} (x : Ext M H (Mu (dx.and p) S1) H1) (n : H p = none) : Ext M H (Mu (dx.and p) S1) (upd H1 p o) :=
  ⟨fun b u z e => by rw [upd_ne (ne_of_none e n)]; exact x.keep b u z e, x.fresh, x.freshC⟩
theorem np_of {K : PySem.W.Frag} {dx : Dx} {p : Addr} {H : Hp} {S : Sto} (hp : ¬ dx.hand p) (r : HR K (dx.and p) H S) : ¬ (Mu (dx.and p) S).ch p := fun z => z.elim hp fun z => (r.own p z).2 (.inr rfl)
section
variable {X B : Cx} {dx : Dx} {p : Addr} {tg iter elt : Expr} {ifs : List Expr} {te : TE} {fa : DTE} {wi : TI} {fi : DTA} {g : TG} {f : DTG} {tt : TT} {ft : DTT} {o vs : List Nat} {T : TN} {t : DTN}
theorem dn_end (he : DE B (dx.and p) elt te fa) : DN B.K dx p (tnE te p) (dnE fa) := by
  refine ⟨fun M H0 σ H δ S acc vs k N n h0 hp r s x ep al q fin => ?_⟩
  refine he.go σ H δ S _ _ r s q fun y H1 c S1 r1 x1 d1 q1 => ?_
  have ep1 : H1 p = some (.lst vs) := x1.keep p _ (np_of hp r) ep
  have al1 := (al.ext x1).append (.cons d1 .nil)
  refine ⟨vs, ep1, ?_, fin _ S1 _ (vs ++ [y]) (r1.and_put h0 hp (ls_at ep1 trivial) _) (ext_puts (x.trans x1) n) (x1.d.trans extD_put) upd_same (al1.extD extD_put) q1.2⟩
  have := q1.1.line
  rw [al.length]
  omega
/-- the turns of a clause -/
theorem dn_turns (hg : DG B (dx.and p) tg g f o) (ht : DTs B (dx.and p) ifs tt ft) (inner : DN B.K dx p T t) (sub : ∀ j ∈ o, j ∈ vs) {M : Mm} {H0 H1 : Hp} {σ : L2.St} {δ : Sl} {S1 : Sto} {k : List D → Sto → Prop} {N : Hp → Prop} {xs : List D} {J : It} {acc : List D} {vl : List V} {G : Hp → Prop} {Y : Nat → Hp → V → Hp → Prop}
    (n : H0 p = none) (h0 : dx.H0 p = none) (hp : ¬ dx.hand p) (wl : Walk J xs.length G Y)
    (all : ∀ H' S', HR B.K (dx.and p) H' S' → Ext M H0 (Mu (dx.and p) S') H' → ExtD (Mu (dx.and p) S1) H1 (Mu (dx.and p) S') H' → G H' ∧ ∀ i v H2, i < xs.length → Y i H' v H2 → Same H' H2 ∧ ∃ d, xs[i]? = some d ∧ Dt B.K (Mu (dx.and p) S') H2 v d)
    (r : HR B.K (dx.and p) H1 S1) (s : SR B.K (dx.and p) σ H1 δ S1) (x : Ext M H0 (Mu (dx.and p) S1) H1) (ep : H1 p = some (.lst vl)) (al : DtAll B.K (Mu (dx.and p) S1) H1 vl acc) (q : lcnGo f ft t vs δ k xs acc S1)
    (fin : ∀ H' S' acc' vs', HR B.K (dx.and p) H' S' → Ext M H0 (Mu (dx.and p) S') H' → ExtD (Mu (dx.and p) S1) H1 (Mu (dx.and p) S') H' → H' p = some (.lst vs') → DtAll B.K (Mu (dx.and p) S') H' vs' acc' → k acc' S' → N H') :
    ∃ W : Nat → Nat → Hp → Prop, (∃ m, W 0 m H1) ∧ ∀ j k H, W j k H → (J.stop j H ∧ N H) ∨ (J.go j H ∧ ∃ N1 : Hp → Prop, (∀ H', N1 H' → ∃ k', k' < k ∧ W (j + 1) k' H') ∧ ∀ x H', J.yld j H x H' → g x (L2.wipe σ vs) H' fun σ3 H5 => L2.wipe σ3 vs = L2.wipe σ vs ∧ tt σ3 H5 fun b H6 =>
      if b = true then T σ3 H6 N1 else N1 H6) := by
  let Pw : List D → Hp → Prop := fun ys H' => ∃ S' acc vl, HR B.K (dx.and p) H' S' ∧ Ext M H0 (Mu (dx.and p) S') H' ∧ ExtD (Mu (dx.and p) S1) H1 (Mu (dx.and p) S') H' ∧ H' p = some (.lst vl) ∧ DtAll B.K (Mu (dx.and p) S') H' vl acc ∧ lcnGo f ft t vs δ k ys acc S'
  refine ⟨fun i m H' => m = xs.length - i ∧ i ≤ xs.length ∧ Pw (xs.drop i) H', ⟨xs.length, by simp, Nat.zero_le _, S1, acc, vl, r, x, ExtD.refl, ep, al, q⟩, ?_⟩
  rintro i m H2 ⟨rfl, hi', S2, acc2, vl2, r2, x2, xd2, ep2, al2, q2⟩
  have gs := all H2 S2 r2 x2 xd2
  by_cases hlt : i < xs.length
  · refine .inr ⟨wl.goes i H2 hlt gs.1, Pw (xs.drop (i + 1)), fun H' w' => ⟨xs.length - (i + 1), by omega, rfl, hlt, w'⟩, fun v H3 y => ?_⟩
    obtain ⟨sm, d, ed, dd⟩ := gs.2 i v H3 hlt (wl.yields i H2 v H3 hlt gs.1 y)
    have e1 : xs.drop i = d :: xs.drop (i + 1) := by
      rw [List.drop_eq_getElem_cons hlt]
      have := List.getElem?_eq_getElem hlt
      rw [this] at ed
      cases ed
      rfl
    rw [e1] at q2
    have xs3 : Ext (Mu (dx.and p) S2) H2 (Mu (dx.and p) S2) H3 := Ext.same sm
    have r3 := r2.same sm
    have s3 : SR B.K (dx.and p) (L2.wipe σ vs) H3 (wipeD δ vs) S2 := (s.extD (xd2.trans xs3.d)).wipe vs
    refine hg.go v d _ H3 _ S2 _ _ r3 s3 dd q2 fun σ4 δ4 s4 l4 o4 q4 => ⟨wipe_wipe l4 sub o4, ?_⟩
    refine ht.go σ4 H3 δ4 S2 _ _ r3 s4 q4 fun b H4 S4 r4 x4 q5 => ?_
    have ep4 : H4 p = some (.lst vl2) := x4.keep p _ (np_of hp r3) (sm p _ ep2)
    have xt4 := (x2.trans xs3).trans x4
    have xd4 := (xd2.trans xs3.d).trans x4.d
    have al4 := al2.ext (xs3.trans x4)
    cases b with
    | false =>
      rw [if_neg Bool.false_ne_true] at q5 ⊢
      exact ⟨S4, acc2, vl2, r4, xt4, xd4, ep4, al4, q5⟩
    | true =>
      rw [if_pos rfl] at q5 ⊢
      exact inner.go M H0 σ4 H4 δ4 S4 acc2 vl2 _ _ n h0 hp r4 (s4.ext x4) xt4 ep4 al4 q5 fun H5 S5 acc5 vl5 r5 x5 xd5 ep5 al5 q6 => ⟨S5, acc5, vl5, r5, x5, xd4.trans xd5, ep5, al5, q6⟩
  · have e : i = xs.length := by omega
    subst e
    rw [List.drop_length] at q2
    exact .inl ⟨wl.stops H2 gs.1, fin H2 S2 acc2 vl2 r2 x2 xd2 ep2 al2 q2⟩
theorem dn_next (hi : DI B (dx.and p) tg iter wi fi) (hg : DG B (dx.and p) tg g f o) (ht : DTs B (dx.and p) ifs tt ft) (inner : DN B.K dx p T t) (sub : ∀ j ∈ o, j ∈ vs) : DN B.K dx p (tnC wi g tt T vs) (dnC fi f ft t vs) := by
  refine ⟨fun M H0 σ H δ S acc vl k N n h0 hp r s x ep al q fin => ?_⟩
  refine hi.go σ H δ S _ _ r s q fun J H1 xs S1 r1 x1 wk q1 => ?_
  obtain ⟨G, Y, wl, all⟩ := wk
  have ep1 : H1 p = some (.lst vl) := x1.keep p _ (np_of hp r) ep
  refine dn_turns hg ht inner sub n h0 hp wl (fun H' S' r' _ xd' => all _ H' r'.mu_live xd') r1 (s.ext x1) (x.trans x1) ep1 (al.ext x1) q1 fun H' S' acc' vs' r' x' xd' ep' al' q' => fin H' S' acc' vs' r' x' (x1.d.trans xd') ep' al' q'
/-- a comprehension of several clauses -/
theorem lcN_go {T : Addr → TN} (hi : DI X dx tg iter wi fi) (hg : ∀ p, DG B (dx.and p) tg g f o) (ht : ∀ p, DTs B (dx.and p) ifs tt ft) (eK : B.K = X.K) (inner : ∀ p, DN B.K dx p (T p) t) (sub : ∀ j ∈ o, j ∈ vs) :
    ∀ σ H δ S Q Qh, HR X.K dx H S → SR X.K dx σ H δ S → dLcN fi f ft t vs δ S Q → ThE X.K dx H S Q Qh → tLcN wi g tt T vs σ H Qh := by
  intro σ H δ S Q Qh r s q k
  refine hi.go σ H δ S _ _ r s q fun J H0 xs S0 r0 x0 wk q0 => ?_
  intro p n
  obtain ⟨G, Y, wl, all⟩ := wk
  have h0 : dx.H0 p = none := r0.old n
  have hp : ¬ dx.hand p := fun h => r0.live p (r0.hm p h) n
  have s1 : SR X.K (dx.and p) σ (upd H0 p (.lst [])) δ S0 := ⟨(s.ext x0).len, fun j c hc => let ⟨u, a, b⟩ := (s.ext x0).ix j c hc; ⟨u, a, b.ext (ext_and n)⟩⟩
  rw [← eK] at s1
  refine dn_turns (M := Mu dx S0) (hg p) (ht p) (inner p) sub n h0 hp wl (fun H' S' r' x' _ => by rw [eK] at r' ⊢; exact all _ H' r'.mu_live x'.d) (by rw [eK]; exact r0.and n []) s1 (ext_and n) upd_same .nil q0 fun H' S' acc' vs' r' x' xd' ep' al' q' => ?_
  rw [eK] at r' al'
  have r2 := r'.unand hp
  refine k (.ref p) H' _ S' r2 (x0.trans (x'.trans ext_back)) (.lst ?_ ep' (al'.ext ext_back)) q'
  rintro (z | z | z)
  · exact r0.live p z n
  · exact hp z
  · exact (r'.own p z).2 (.inr rfl)
end
end DL
namespace DL
open PySem PySem.Spec L2 Gd
/-- what is behind a clause's tests, in any block of the comprehension -/
structure DNs (X : Cx) (dx : Dx) (scope : Scope) (pos : Pos) (elt : Expr) (gs : List Comprehension) (d : Nat) (nx : Option Expr) (ws : List Nat) (T : Addr → TN) (t : DTN) : Prop where
  nt : NextIs gs d nx
  pn : X.calm = true → ∀ s H C cl fp D, PN (Blk X scope s H C cl fp) (.ListComp elt gs scope pos) d D nx ws (T D)
  dn : ∀ p, DN X.K dx p (T p) t
section
variable {X : Cx} {dx : Dx} {pos : Pos} {tg e elt iter i1 : Expr} {ifs : List Expr} {te : TE} {fa : DTE} {wi : TI} {fi : DTA} {g : TG} {f : DTG} {tt : TT} {ft : DTT} {o ws vs : List Nat} {scope : Scope} {own : List (Str × Nat)} {gs : List Comprehension} {d : Nat} {nx : Option Expr} {T : Addr → TN} {t : DTN}
theorem dns_end (hn : NextIs gs d none) (he : ∀ (m : Addr → Prop) (s : Shared) (H : Hp) (C : Addr) (cl : List (Str × Addr)) (fp : List Addr), DE (Blk X scope s H C cl fp) { dx with M0 := m } elt te fa) :
    DNs X dx scope pos elt gs d none [] (fun D => tnE te D) (dnE fa) :=
  ⟨hn, fun _ s H C cl fp D => pn_end rfl (he dx.M0 s H C cl fp).pe, fun p => dn_end (B := Blk X scope X.s_0 X.H_0 0 [] []) (he (dx.and p).M0 X.s_0 X.H_0 0 [] [])⟩
theorem dns_next (hd : gs[d + 1]? = some ⟨tg, iter, ifs, 0⟩)
    (hi : ∀ (m : Addr → Prop) (s : Shared) (H : Hp) (C : Addr) (cl : List (Str × Addr)) (fp : List Addr), DI (Blk X scope s H C cl fp) { dx with M0 := m } tg iter wi fi)
    (hg : ∀ (m : Addr → Prop) (s : Shared) (H : Hp) (C : Addr) (cl : List (Str × Addr)) (fp : List Addr), DG (Blk X scope s H C cl fp) { dx with M0 := m } tg g f o)
    (ht : ∀ (m : Addr → Prop) (s : Shared) (H : Hp) (C : Addr) (cl : List (Str × Addr)) (fp : List Addr), DTs (Blk X scope s H C cl fp) { dx with M0 := m } ifs tt ft)
    (inner : DNs X dx scope pos elt gs (d + 1) nx ws T t) (sub : ∀ j ∈ ws, j ∈ vs) (subo : ∀ j ∈ o, j ∈ vs) (hs : ∀ env x, foldedSetIterable iter env x = pure x := by intro _ _; rfl) :
    DNs X dx scope pos elt gs d (some iter) vs (fun D => tnC wi g tt (T D) vs) (dnC fi f ft t vs) :=
  ⟨⟨_, _, hd⟩, fun hc s H C cl fp D => pn_next hc rfl hd inner.nt (hi dx.M0 s H C cl fp).pe (hg dx.M0 s H C cl fp).pe (ht dx.M0 s H C cl fp).pe (inner.pn hc s H C cl fp D) sub hs,
    fun p => dn_next (B := Blk X scope X.s_0 X.H_0 0 [] []) (hi (dx.and p).M0 X.s_0 X.H_0 0 [] []) (hg (dx.and p).M0 X.s_0 X.H_0 0 [] []) (ht (dx.and p).M0 X.s_0 X.H_0 0 [] []) (inner.dn p) subo⟩
theorem de_lcN (hc : X.calm = true) (hN : X.N.Nodup) (hi : DI X dx tg iter wi fi) (ok : BlkOk X.N X.env.scope scope own) (subo : ∀ j ∈ o, j ∈ own.map (·.2))
    (hg : ∀ (m : Addr → Prop) (s : Shared) (H : Hp) (C : Addr) (cl : List (Str × Addr)) (fp : List Addr), DG (Blk X scope s H C cl fp) { dx with M0 := m } tg g f o)
    (ht : ∀ (m : Addr → Prop) (s : Shared) (H : Hp) (C : Addr) (cl : List (Str × Addr)) (fp : List Addr), DTs (Blk X scope s H C cl fp) { dx with M0 := m } ifs tt ft)
    (inner : DNs X dx scope pos elt (⟨tg, iter, ifs, 0⟩ :: gs) 0 (some i1) ws T t) (sub : ∀ j ∈ ws, j ∈ own.map (·.2)) (hs : ∀ x, foldedSetIterable iter X.env x = pure x := by intro _; rfl) :
    DE X dx (.ListComp elt (⟨tg, iter, ifs, 0⟩ :: gs) scope pos) (tLcN wi g tt T (own.map (·.2))) (dLcN fi f ft t (own.map (·.2))) :=
  ⟨pe_lcN hc hN hi.pe ok inner.nt (fun s H C cl fp => (hg dx.M0 s H C cl fp).pe) (fun s H C cl fp => (ht dx.M0 s H C cl fp).pe) (fun s H C cl fp D => inner.pn hc s H C cl fp D) sub hs,
    lcN_go (B := Blk X scope X.s_0 X.H_0 0 [] []) hi (fun p => hg (dx.and p).M0 X.s_0 X.H_0 0 [] []) (fun p => ht (dx.and p).M0 X.s_0 X.H_0 0 [] []) rfl inner.dn subo⟩
theorem ds_setLcN {i : Nat} {y : Str} {py spos : Pos} (hc : X.calm = true) (hN : X.N.Nodup) (hy : X.N[i]? = some y) (hyl : X.env.scope.names.lookup y = some .local)
    (hsw : swapsWith (.ListComp elt (⟨tg, iter, ifs, 0⟩ :: gs) scope pos) (some (.Name y py)) spos.line X.env = pure true) (hi : DI X dx tg iter wi fi) (ok : BlkOk X.N X.env.scope scope own) (subo : ∀ j ∈ o, j ∈ own.map (·.2))
    (hg : ∀ (m : Addr → Prop) (s : Shared) (H : Hp) (C : Addr) (cl : List (Str × Addr)) (fp : List Addr), DG (Blk X scope s H C cl fp) { dx with M0 := m } tg g f o)
    (ht : ∀ (m : Addr → Prop) (s : Shared) (H : Hp) (C : Addr) (cl : List (Str × Addr)) (fp : List Addr), DTs (Blk X scope s H C cl fp) { dx with M0 := m } ifs tt ft)
    (inner : DNs X dx scope pos elt (⟨tg, iter, ifs, 0⟩ :: gs) 0 (some i1) ws T t) (sub : ∀ j ∈ ws, j ∈ own.map (·.2)) (hs : ∀ x, foldedSetIterable iter X.env x = pure x := by intro _; rfl) :
    DS X dx (.Assign [.Name y py] (.ListComp elt (⟨tg, iter, ifs, 0⟩ :: gs) scope pos) spos) (tAsg (tLcN wi g tt T (own.map (·.2))) (gName i)) (dSet i (dLcN fi f ft t (own.map (·.2)))) :=
  ⟨ps_setLcN hc hN hy hyl hsw hi.pe ok inner.nt (fun s H C cl fp => (hg dx.M0 s H C cl fp).pe) (fun s H C cl fp => (ht dx.M0 s H C cl fp).pe) (fun s H C cl fp D => inner.pn hc s H C cl fp D) sub hs,
    set_go (lcN_go (B := Blk X scope X.s_0 X.H_0 0 [] []) hi (fun p => hg (dx.and p).M0 X.s_0 X.H_0 0 [] []) (fun p => ht (dx.and p).M0 X.s_0 X.H_0 0 [] []) rfl inner.dn subo)⟩
end
end DL
/-! enumerate of a tuple. -/
namespace L2
open PySem PySem.Spec PyProof.Rows
open AutoSeq1 (wpAny_loadPart')
theorem meets_enumT (l : Addr) (items : Array Value) (n : Nat) (dct : Option Addr) (sl : Array (Option Value)) :
    Meets (Builtin.«enumerate.__new__» ⟨[.type "enumerate", .ref l], []⟩) fun _ R s => s.heap.get? l = some { cls := .type "tuple", dict := dct, data := .seq items n, slots := sl } ∧
      R (.ok (.ret (.ref (s.heap.push { cls := .type "tuple_iterator", data := .fields #[.ref l, .int 0 0] }).objs.size)))
        { s with heap := (s.heap.push { cls := .type "tuple_iterator", data := .fields #[.ref l, .int 0 0] }).push { cls := .type "enumerate", data := .fields #[.none, .bool false, .ref s.heap.objs.size, rawInt 0, .none, .none] } } :=
  .of_wp fun prog w A R s z => by
    obtain ⟨hp, g, d, tk, os⟩ := s
    obtain ⟨at_l, fin⟩ := z
    have isE := sub_enumerate
    have isT : Heap.IsTuple (Shared.heap ⟨hp, g, d, tk, os⟩) l items := ⟨_, at_l, rfl, n, rfl⟩
    wp_walk using wpAny_loadPart' at_l
    refine wpAny_stack_any fun st => wpAny_pure ?_
    split
    · rename_i c _ _ _ _ _
      cases (c == Value.type "enumerate")
      all_goals
        wp_walk using wpAny_loadPart' at_l, wpAny_pyIter_tuple isT
        exact ⟨_, rfl, fin⟩
    · wp_walk using wpAny_loadPart' at_l, wpAny_pyIter_tuple isT
      exact ⟨_, rfl, fin⟩
section
variable {prog : Program} {w : World} {A : Around} {E : Value → Shared → Prop} {s : Shared}
theorem call_enumT {l : Addr} {items : Array Value} {Q : Value → Shared → Prop} (isT : s.heap.IsTuple l items)
    (h : ∀ h', IsEnum h' (s.heap.objs.size + 1) s.heap.objs.size 0 .none → h'.IsTupleIter s.heap.objs.size l 0 → (∀ b o, s.heap.get? b = some o → h'.get? b = some o) → Q (.ref (s.heap.objs.size + 1)) { s with heap := h' }) :
    wpAny (model prog w) A (call (.type "enumerate") [.ref l]) Q E s := by
  obtain ⟨⟨c, dct, dt, sl⟩, at_l, cT, n, its⟩ := isT
  cases (show c = .type "tuple" from cT)
  cases (show dt = .seq items n from its)
  refine callType_new F.called_enumerate (by decide) (F.typeCall_enumerate_1 _) (F.newCall_enumerate_1 _) (fun obj => F.args_object_init_2 obj _) F.entry_enumerate_new (meets_enumT l items n dct sl) ⟨at_l, ?_⟩
  have two : (s.heap.push { cls := .type "tuple_iterator", data := .fields #[.ref l, .int 0 0] }).objs.size = s.heap.objs.size + 1 := Heap.size_push ..
  show _ ∧ _
  rw [two]
  have isE : IsEnum ((s.heap.push { cls := .type "tuple_iterator", data := .fields #[.ref l, .int 0 0] }).push { cls := .type "enumerate", data := .fields #[.none, .bool false, .ref s.heap.objs.size, rawInt 0, .none, .none] })
      (s.heap.objs.size + 1) s.heap.objs.size 0 .none := by
    have := Heap.get?_push_size (s.heap.push { cls := .type "tuple_iterator", data := .fields #[.ref l, .int 0 0] }) (o := { cls := .type "enumerate", data := .fields #[.none, .bool false, .ref s.heap.objs.size, rawInt 0, .none, .none] }) rfl
    rwa [two] at this
  exact ⟨⟨_, isE, rfl⟩, h _ isE ⟨_, Heap.get?_push_of_some _ (Heap.get?_push_size _ rfl), rfl, rfl⟩ fun b o x => Heap.get?_push_of_some _ (Heap.get?_push_of_some _ x)⟩
end
/-- the tuple at a, each item in a new pair -/
def IteT (K : PySem.W.Frag) (a : Addr) : It :=
  ⟨fun i H => ∃ (xs : List V) (x : V), SqT K H a xs ∧ xs[i]? = some x, fun i H v H' => ∃ T x, v = .ref T ∧ H T = none ∧ H' = upd H T (.tup [.int (i : Nat), x]) ∧ ∀ xs, SqT K H a xs → xs[i]? = some x, fun i H => ∃ xs : List V, SqT K H a xs ∧ xs.length ≤ i⟩
theorem tuple_iter_at {h h' : Heap} {a t i} (x : h.IsTupleIter a t i) (e : ∀ o, h.get? a = some o → h'.get? a = some o) : h'.IsTupleIter a t i := let ⟨o, ho, r⟩ := x; ⟨o, e _ ho, r⟩
theorem turn_enumT {P : Program} {w : World} {K : PySem.W.Frag} {elts : List Expr} {kk : Nat} {tpos : Pos} (a e it : Addr) :
    Turn P w K (.Tuple elts kk tpos) (IteT K a) [e, it] e (fun i h => (∃ old, IsEnum h e it ((i : Nat) : Int) old) ∧ h.IsTupleIter it a i ∧ e ≠ it ∧ a ≠ it ∧ e ≠ a) where
  mem := by simp
  obj := fun i h st b hb => by
    obtain ⟨⟨old, isE⟩, ⟨o, ho, hc, hd⟩, _⟩ := st
    rcases (by simpa using hb : b = e ∨ b = it) with z | z <;> rw [z]
    · exact ⟨_, isE, fun v q => nomatch q⟩
    · exact ⟨o, ho, fun v q => by rw [hd] at q; cases q⟩
  keep := fun i h h' st k => let ⟨⟨old, isE⟩, st1, ne⟩ := st; ⟨⟨old, k e (by simp) _ isE⟩, tuple_iter_at st1 fun o q => k it (by simp) o q, ne⟩
  item := by
    intro X hP hw hK hc i pins s σ H E I hf st hg
    subst hP hw hK
    obtain ⟨⟨old, isE⟩, st1, ne, ne2, ne3⟩ := st
    obtain ⟨xs, x, hq, hx⟩ := hg
    obtain ⟨its, rv, p, hz⟩ := I.tuple hq
    obtain ⟨u, hu, ru⟩ := rv.get hx
    have el : e < s.heap.objs.size := Heap.lt_size isE
    have il : it < s.heap.objs.size := by obtain ⟨_, q, _⟩ := st1; exact Heap.lt_size q
    have lt : i < its.length := (List.getElem?_eq_some_iff.mp hu).1
    refine wpAny_pyNext_enum_itemD (Draws.tuple (prog := X.prog) (w := X.w) (A := X.A.in1) (by exact I.ok.hd hc) it a ne2 its.toArray) isE ⟨st1, (show s.heap.IsTuple a its.toArray from p)⟩ (by simpa using lt) ne (by simp [ne, ne3]) fun y h1 tk py ho st2 hT sz kp => ?_
    obtain rfl : y = u := by
      have : its[i]? = some y := by simpa using py
      rw [hu] at this
      cases this
      rfl
    refine ⟨_, rfl, wpAny_letOwnedTupleGo_enum (s := { s with heap := h1, toks := tk + 1 }) ho fun h2 isE2 sb => ?_⟩
    have hT2 : h2.get? s.heap.objs.size = some { cls := .type "tuple", data := .seq #[.int i tk, y] } := (sb.2 _ (Nat.ne_of_gt el)).trans hT
    have new : ObjOk X.prog X.w (upd H s.heap.objs.size (.tup [.int (i : Nat), x])) h2 s.heap.objs.size (.tup [.int (i : Nat), x]) :=
      ⟨by show 2 ≤ sizeLine; decide, [.int i tk, y], .cons ⟨_, rfl⟩ (.cons ru .nil), ⟨_, hT2, rfl, _, rfl⟩⟩
    have I1 : Inv X pins σ (upd H s.heap.objs.size (.tup [.int (i : Nat), x])) { s with heap := h2, toks := tk + 1 } :=
      I.turnedNew (ch := [e, it]) (fun b ob hb q => (sb.2 b (fun z => hb (by simp [z]))).trans (kp b ob (fun z => hb (by simp [z])) (fun z => hb (by simp [z])) q)) hf (Nat.le_refl _) new
    refine ⟨.ref s.heap.objs.size, _, I1, rfl, ⟨_, x, rfl, I.hok.fresh (Nat.le_refl _), rfl, fun ys hy => by rw [I.tuple_inj hy hq]; exact hx⟩, ⟨⟨y, ?_⟩, tuple_iter_at st2.1 fun o q => (sb.2 it (Ne.symm ne)).trans q, ne, ne2, ne3⟩, fun b hb => ?_⟩
    · rw [show ((i + 1 : Nat) : Int) = (i : Int) + 1 by omega]
      exact isE2
    · have lb : b < s.heap.objs.size := by rcases (by simpa using hb : b = e ∨ b = it) with z | z <;> rw [z] <;> assumption
      rw [upd_ne (Nat.ne_of_lt lb)]
      exact (hf b hb).1
  done := by
    intro X hP hw hK hc i pins s σ H E I hf st hg
    subst hP hw hK
    obtain ⟨⟨old, isE⟩, st1, ne, ne2, ne3⟩ := st
    obtain ⟨xs, hq, hx⟩ := hg
    obtain ⟨its, rv, p, hz⟩ := I.tuple hq
    obtain ⟨f0, f1, f2, f3, f4, f5⟩ := hf it (by simp)
    have len := rv.length
    have hT : s.TypeIs (.ref e) "enumerate" := ⟨_, isE, rfl⟩
    unfold pyNext
    refine wpAny_bind (wpAny_attempt (wpAny_callSpecial?_slot (name := Str.ofString "__next__") hT F.slot_enumerate_next (wpAny_call_entry F.slot_enumerate_next hT F.entry_enumerate_next ?_ (F.args_enumerate_next_1 _))))
    show wpAny _ _ (field (.ref e) 2 >>= _) _ _ _
    refine wpAny_bind (wpAny_field isE rfl (x := .ref it) rfl ?_)
    refine wpAny_bind (RZ.nextOf_tuple_end (A := X.A.in1) (by exact I.ok.hd hc) st1 (show s.heap.IsTuple a its.toArray from p) (by simp; omega) fun h' x xb hx' => ?_)
    obtain ⟨o, ho, hc'⟩ := hx'
    refine wpAny_bind (wpAny_isInstance (T := "StopIteration") (b := true) ⟨o, ho, hc'⟩ isSubtype_stop ?_)
    exact wpAny_pure ⟨rfl, I.turned (t' := s.toks) (fun b o hb q => xb b o hb q) f0 f1 f3 f4 f5⟩
  self := fun A i s Q E st h => let ⟨⟨_, isE⟩, _⟩ := st; wpAny_pyIter_enum isE h
theorem walk_enumT {K : PySem.W.Frag} {a : Addr} {xs : List V} : Walk (IteT K a) xs.length (fun H => SqT K H a xs) (YPair (fun i => some (.int (i : Nat))) (fun i => xs[i]?)) := by
  refine ⟨fun i _ hi q => ⟨xs, xs[i], q, by simp [hi]⟩, fun _ q => ⟨xs, q, Nat.le_refl _⟩, fun i H v H' _ q y => ?_⟩
  obtain ⟨T, x, h1, h2, h3, h4⟩ := y
  exact ⟨T, .int (i : Nat), x, h1, h2, h3, rfl, h4 xs q⟩
def iEnumA (K : PySem.W.Frag) (ta : TA) : TI := fun σ H R => ta σ H fun vs H1 => ∃ a xs, vs = [.ref a] ∧ ((SqL K H1 a xs ∧ R (Ite K a) H1) ∨ (SqT K H1 a xs ∧ R (IteT K a) H1))
theorem pi_enumA {X : Cx} {e : Expr} {ta : TA} {p pos tpos : Pos} {elts : List Expr} {kk : Nat} (hg : Gl X "enumerate") (hm : X.mg "enumerate" = none) (ha : PA X [e] ta) (hs : starEach [e] X.env = [(false, eval e X.env)] := by rfl) :
    PI X (.Tuple elts kk tpos) (.Call (.Name "enumerate" p) [e] [] pos) (iEnumA X.K ta) := by
  refine ⟨fun pins s σ H R I h => ?_⟩
  refine Call_ (ld_blt I hg hm boot_enumerate (PyProof.Rows.callWith_type1 (thn (ha.run pos pins s σ H _ I h) fun us s1 ⟨vs, H1, I1, r1, a, xs, ex, q1⟩ => ?_) hs rfl))
  subst ex
  cases r1 with
  | cons r rr =>
    cases rr
    cases r
    have two : ∀ b ∈ [s1.heap.objs.size + 1, s1.heap.objs.size], s1.heap.objs.size ≤ b := fun b hb => by
      rcases (by simpa using hb : b = s1.heap.objs.size + 1 ∨ b = s1.heap.objs.size) with z | z <;> rw [z]
      · exact Nat.le_add_right _ _
      · exact Nat.le_refl _
    rcases q1 with ⟨hq, q⟩ | ⟨hq, q⟩
    · obtain ⟨its, rv, p', hz⟩ := I1.list hq
      refine call_enumerate_list p'.isList fun h' isE st sz kp => wpAny_pyIter_enum isE ?_
      exact ⟨s1.heap.objs.size + 1, [s1.heap.objs.size + 1, s1.heap.objs.size], _, _, H1, rfl, I1.kept (t' := s1.toks) kp, turn_enum a (s1.heap.objs.size + 1) s1.heap.objs.size, ⟨⟨.none, isE⟩, st, Nat.succ_ne_self _⟩, fun b hb => I1.fpOk (two b hb) (I1.hok.fresh (two b hb)), q⟩
    · obtain ⟨its, rv, p', hz⟩ := I1.tuple hq
      have isT : s1.heap.IsTuple a its.toArray := p'
      have al : a < s1.heap.objs.size := by obtain ⟨_, q, _⟩ := isT; exact Heap.lt_size q
      refine call_enumT isT fun h' isE st kp => wpAny_pyIter_enum isE ?_
      exact ⟨s1.heap.objs.size + 1, [s1.heap.objs.size + 1, s1.heap.objs.size], _, _, H1, rfl, I1.kept (t' := s1.toks) kp, turn_enumT a (s1.heap.objs.size + 1) s1.heap.objs.size, ⟨⟨.none, isE⟩, st, Nat.succ_ne_self _, Nat.ne_of_lt al, Nat.ne_of_gt (Nat.lt_succ_of_lt al)⟩, fun b hb => I1.fpOk (two b hb) (I1.hok.fresh (two b hb)), q⟩
end L2
namespace DL
open PySem PySem.Spec L2 Gd
def fEnumA (Q : List D → Sto → Prop) : List D → Sto → Prop
  | [.lst xs], S => Q (enD xs) S
  | [.tup xs], S => Q (enD xs) S
  | _, _ => False
theorem fEnumA_one {Q : List D → Sto → Prop} {ds : List D} {S : Sto} (t : fEnumA Q ds S) : ∃ xs, (ds = [.lst xs] ∨ ds = [.tup xs]) ∧ Q (enD xs) S := by
  unfold fEnumA at t
  split at t
  · exact ⟨_, .inl rfl, t⟩
  · exact ⟨_, .inr rfl, t⟩
  · exact t.elim
def dEnumA (ta : DTA) : DTA := fun δ S Q => ta δ S (fEnumA Q)
section
variable {X : Cx} {dx : Dx} {tg : Expr} {pos : Pos}
theorem walks_pairs {J : It} {K : PySem.W.Frag} {G : Hp → Prop} {S : Sto} {H : Hp} {xs : List D} {ws : List V} (wl : Walk J ws.length G (YPair (fun i => some (.int (i : Nat))) (fun i => ws[i]?))) (al : DtAll K (Mu dx S) H ws xs) (keep : ∀ M H2, ExtD (Mu dx S) H M H2 → G H2) : Walks K dx J (enD xs) S H := by
  have e : (enD xs).length = ws.length := by unfold enD; rw [List.length_map, List.length_range, al.length]
  refine ⟨_, _, by rw [e]; exact wl, fun M H2 lv x2 => ⟨keep M H2 x2, fun i v H3 hi y => ?_⟩⟩
  obtain ⟨T, x, y, rfl, n, rfl, ex, ey⟩ := y
  cases ex
  obtain ⟨d, e1, dd⟩ := (al.extD x2).getV ey
  refine ⟨same_new n, .tup [.int (i : Nat), d], ?_, .tup (fun z => lv T z n) (.inl upd_same) (.cons (.int _) (.cons (dd.ext (ext_new n)) .nil))⟩
  rw [e] at hi
  unfold enD
  rw [List.getElem?_map, List.getElem?_range (by rw [← al.length]; exact hi)]
  show some (D.tup [.int (i : Nat), xs.getD i .non]) = _
  rw [List.getD_eq_getElem?_getD, e1]
  rfl
theorem di_enumA (K : PySem.W.Frag) {x : Str} {p : Pos} {es : List Expr} {ta : TA} {fa : DTA} (ha : DA X dx es ta fa) (hp : PA X es ta → PI X tg (.Call (.Name x p) es [] pos) (iEnumA K ta)) (hK : X.K = K := by rfl) : DI X dx tg (.Call (.Name x p) es [] pos) (iEnumA K ta) (dEnumA fa) := by
  subst hK
  refine ⟨hp ha.pe, fun σ H δ S Q R r s t k => ?_⟩
  refine ha.go σ H δ S _ _ r s t fun vs H1 ds S1 r1 x1 d1 t1 => ?_
  obtain ⟨xs, ed, t2⟩ := fEnumA_one t1
  rcases ed with rfl | rfl
  · cases d1 with
    | cons h1 d1 =>
      cases d1
      obtain ⟨a, ws, rfl, nm, hl, al⟩ := h1.sqL
      exact ⟨a, ws, rfl, .inl ⟨SqL.of hl, k _ H1 _ S1 r1 x1 (walks_pairs walk_enum al fun M H2 x2 => SqL.of (x2.keep _ _ nm hl)) t2⟩⟩
  · cases d1 with
    | cons h1 d1 =>
      cases d1
      cases h1 with
      | tup nm hl al => exact ⟨_, _, rfl, .inr ⟨.inl hl, k _ H1 _ S1 r1 x1 (walks_pairs walk_enumT al fun M H2 x2 => .inl (x2.rd nm hl)) t2⟩⟩
      | ktup hl al => exact ⟨_, _, rfl, .inr ⟨.inr hl, k _ H1 _ S1 r1 x1 (walks_pairs walk_enumT al fun M H2 x2 => .inr hl) t2⟩⟩
end
/-! ### not x, as a value, of any x -/
def dNotT (t : DTE) : DTE := fun δ S Q => t δ S fun d S1 => fTru d S1 fun k S2 => Q (.bl (!k)) S2
theorem de_notT_ (K : PySem.W.Frag) {X : Cx} {dx : Dx} {e : Expr} {te : TE} {fa : DTE} {pos : Pos} (h : DE X dx e te fa) (hK : X.K = K := by rfl) : DE X dx (.UnaryOp .Not e pos) (tNotT K te) (dNotT fa) := by
  subst hK
  refine ⟨pe_notT h.pe, fun σ H δ S Q Qh r0 s0 t k => ?_⟩
  refine h.go σ H δ S _ _ r0 s0 t fun v H1 d S1 r1 x1 d1 t1 => ?_
  obtain ⟨z, tv, q⟩ := tru_go r1 d1 t1
  exact ⟨z, tv, k _ H1 _ S1 r1 x1 (.bl _) q⟩
/-! ### list(x), to be changed -/
section
variable {K : PySem.W.Frag} {dx : Dx}
def fListF (d : D) (S : Sto) (Q : D → Sto → Prop) : Prop := opt (seqOf S d) fun ds => ∀ p, p ∉ S.map (·.1) → Q (.adr p) ((p, .l ds) :: S)
def fListR (a : Addr) (d : D) (S : Sto) (Q : D → Sto → Prop) : Prop := opt (seqOf S d) fun ds => ∀ p, p ≠ a → p ∉ S.map (·.1) → Q (.adr p) ((p, .l ds) :: S)
theorem list_own {v : V} {d : D} {H : Hp} {S : Sto} {Q : D → Sto → Prop} {Qh : VK} {ds : List D} (r : HR K dx H S) (h : Dt K (Mu dx S) H v d) (e : seqOf S d = some ds) (t : ∀ p, ¬ (Mu dx S).mu p → p ∉ S.map (·.1) → Q (.adr p) ((p, .l ds) :: S)) (k : ThE K dx H S Q Qh) : rList K [v] H Qh := by
  obtain ⟨a, vs, rfl, hs, al⟩ := seq_of r h e
  refine ⟨a, vs, rfl, hs, fun p n => ?_⟩
  have g := r.grow n al
  exact k _ _ _ _ g (ext_own r n) (.adr p) (t p (r.mu_ne n) (List.nodup_cons.mp g.nd).1)
theorem cd_listF : CallD K dx (rList K) (one fListF) := by
  refine cd_one fun v d H S Q Qh r h t k => ?_
  obtain ⟨ds, e, t⟩ := opt_run t
  exact list_own r h e (fun p _ n => t p n) k
theorem cd_listB {a : Addr} (h1 : dx.hand = handB a) : CallD K dx (rList K) (one (fListR a)) := by
  refine cd_one fun v d H S Q Qh r h t k => ?_
  obtain ⟨ds, e, t⟩ := opt_run t
  exact list_own r h e (fun p m n => t p (fun z => m (.inr (.inl (by rw [h1]; exact z)))) n) k
theorem cd_listR {a c : Addr} (h1 : dx.hand = handR a c) : CallD K dx (rList K) (one (fListR a)) := by
  refine cd_one fun v d H S Q Qh r h t k => ?_
  obtain ⟨ds, e, t⟩ := opt_run t
  exact list_own r h e (fun p m n => t p (fun z => m (.inr (.inl (by rw [h1]; exact .inl z)))) n) k
end
end DL
/-! Lists that are made by a comprehension or a sum of two, to be changed later. -/
namespace DL
open PySem PySem.Spec L2 Gd
section
variable {K : PySem.W.Frag} {dx : Dx} {H : Hp} {S : Sto} {p : Addr}
/-- a list that was under way becomes one's own -/
theorem mu_own {c : Cel} {b : Addr} : (Mu dx ((p, c) :: S)).mu b ↔ (Mu (dx.and p) S).mu b := by
  rw [mu_and]
  constructor
  · rintro (h | h | h)
    · exact .inl (.inl h)
    · exact .inl (.inr (.inl h))
    · rcases List.mem_cons.mp h with h | h
      · exact .inr h
      · exact .inl (.inr (.inr h))
  · rintro ((h | h | h) | h)
    · exact .inl h
    · exact .inr (.inl h)
    · exact .inr (.inr (List.mem_cons_of_mem _ h))
    · exact .inr (.inr (by rw [h]; exact List.mem_cons_self))
theorem HR.own_and (r : HR K (dx.and p) H S) (hp : ¬ dx.hand p) (h0 : dx.H0 p = none) (nM : ¬ dx.M0 p) {vs : List V} {ds : List D} (e : H p = some (.lst vs)) (al : DtAll K (Mu (dx.and p) S) H vs ds) : HR K dx H ((p, .l ds) :: S) := by
  have x : ExtD (Mu (dx.and p) S) H (Mu dx ((p, .l ds) :: S)) H := ⟨fun _ _ _ e => e, fun b m n => absurd (mu_own.mp m) n⟩
  have np : p ∉ S.map (·.1) := fun z => (r.own p z).2 (.inr rfl)
  refine ⟨fun b c m => ?_, ?_, fun b m => r.live b (.inl m), fun b m => ?_, r.keep, r.j, r.stab, fun b h => (r.hm b h).resolve_right fun z => hp (by have z : b = p := z; rw [← z]; exact h)⟩
  · rcases List.mem_cons.mp m with m | m
    · cases m
      exact ⟨_, e, .l (al.extD x)⟩
    · obtain ⟨o, eo, co⟩ := r.sto b c m
      exact ⟨o, eo, co.extD x⟩
  · rw [List.map_cons]
    exact List.nodup_cons.mpr ⟨np, r.nd⟩
  · rw [List.map_cons] at m
    rcases List.mem_cons.mp m with m | m
    · have m : b = p := m
      rw [m]
      exact ⟨h0, nM⟩
    · exact ⟨(r.own b m).1, fun z => (r.own b m).2 (.inl z)⟩
end
/-- bad: what it is known not to be -/
def dLcNO (bad : Addr → Prop) (fi : DTA) (f : DTG) (ft : DTT) (t : DTN) (vs : List Nat) : DTE := fun δ S Q => fi δ S fun xs S1 => lcnGo f ft t vs δ (fun acc S => ∀ p, ¬ bad p → p ∉ S.map (·.1) → Q (.adr p) ((p, .l acc) :: S)) xs [] S1
section
variable {X B : Cx} {dx : Dx} {tg iter elt : Expr} {ifs : List Expr} {te : TE} {fa : DTE} {wi : TI} {fi : DTA} {g : TG} {f : DTG} {tt : TT} {ft : DTT} {o vs : List Nat} {t : DTN} {bad : Addr → Prop} {pos : Pos} {scope : Scope} {own : List (Str × Nat)}
theorem lcN_goO {T : Addr → TN} (hb : ∀ b, bad b → dx.hand b) (hi : DI X dx tg iter wi fi) (hg : ∀ p, DG B (dx.and p) tg g f o) (ht : ∀ p, DTs B (dx.and p) ifs tt ft) (eK : B.K = X.K) (inner : ∀ p, DN B.K dx p (T p) t) (sub : ∀ j ∈ o, j ∈ vs) :
    ∀ σ H δ S Q Qh, HR X.K dx H S → SR X.K dx σ H δ S → dLcNO bad fi f ft t vs δ S Q → ThE X.K dx H S Q Qh → tLcN wi g tt T vs σ H Qh := by
  intro σ H δ S Q Qh r s q k
  refine hi.go σ H δ S _ _ r s q fun J H0 xs S0 r0 x0 wk q0 => ?_
  intro p n
  obtain ⟨G, Y, wl, all⟩ := wk
  have h0 : dx.H0 p = none := r0.old n
  have hp : ¬ dx.hand p := fun h => r0.live p (r0.hm p h) n
  have nM : ¬ dx.M0 p := fun z => r0.live p z n
  have s1 : SR X.K (dx.and p) σ (upd H0 p (.lst [])) δ S0 := ⟨(s.ext x0).len, fun j c hc => let ⟨u, a, b⟩ := (s.ext x0).ix j c hc; ⟨u, a, b.ext (ext_and n)⟩⟩
  rw [← eK] at s1
  refine dn_turns (M := Mu dx S0) (hg p) (ht p) (inner p) sub n h0 hp wl (fun H' S' r' x' _ => by rw [eK] at r' ⊢; exact all _ H' r'.mu_live x'.d) (by rw [eK]; exact r0.and n []) s1 (ext_and n) upd_same .nil q0 fun H' S' acc' vs' r' x' xd' ep' al' q' => ?_
  rw [eK] at r' al'
  have np : p ∉ S'.map (·.1) := fun z => (r'.own p z).2 (.inr rfl)
  have xo : Ext (Mu dx S0) H0 (Mu dx ((p, .l acc') :: S')) H' := by
    refine ⟨x'.keep, fun b m n' => x'.fresh b (mu_own.mp m) n', fun b m n' => ?_⟩
    by_cases e : b = p
    · rw [e]; exact n
    · refine x'.freshC b ?_ n'
      rcases m with m | m
      · exact .inl m
      · exact .inr ((List.mem_cons.mp m).resolve_left e)
  exact k (.ref p) H' _ _ (r'.own_and hp h0 nM ep' al') (x0.trans xo) (.adr p) (q' p (fun z => hp (hb p z)) np)
theorem ds_setLcO {i : Nat} {y : Str} {py spos : Pos} (hb : ∀ b, bad b → dx.hand b) (hc : X.calm = true) (hN : X.N.Nodup) (hy : X.N[i]? = some y) (hyl : X.env.scope.names.lookup y = some .local)
    (hsw : swapsWith (.ListComp elt [⟨tg, iter, ifs, 0⟩] scope pos) (some (.Name y py)) spos.line X.env = pure true) (hi : DI X dx tg iter wi fi) (ok : BlkOk X.N X.env.scope scope own) (sub : ∀ j ∈ o, j ∈ own.map (·.2))
    (hg : ∀ (m : Addr → Prop) (s : Shared) (H : Hp) (C : Addr) (cl : List (Str × Addr)) (fp : List Addr), DG (Blk X scope s H C cl fp) { dx with M0 := m } tg g f o)
    (ht : ∀ (m : Addr → Prop) (s : Shared) (H : Hp) (C : Addr) (cl : List (Str × Addr)) (fp : List Addr), DTs (Blk X scope s H C cl fp) { dx with M0 := m } ifs tt ft)
    (he : ∀ (m : Addr → Prop) (s : Shared) (H : Hp) (C : Addr) (cl : List (Str × Addr)) (fp : List Addr), DE (Blk X scope s H C cl fp) { dx with M0 := m } elt te fa)
    (hs : ∀ x, foldedSetIterable iter X.env x = pure x := by intro _; rfl) :
    DS X dx (.Assign [.Name y py] (.ListComp elt [⟨tg, iter, ifs, 0⟩] scope pos) spos) (tAsg (tLc wi g tt te (own.map (·.2))) (gName i)) (dSet i (dLcNO bad fi f ft (dnE fa) (own.map (·.2)))) :=
  ⟨ps_setLc hc hN hy hyl hsw hi.pe ok (fun s H C cl fp => (hg dx.M0 s H C cl fp).pe) (fun s H C cl fp => (ht dx.M0 s H C cl fp).pe) (fun s H C cl fp => (he dx.M0 s H C cl fp).pe) hs,
    set_go (lcN_goO (T := fun D => tnE te D) (B := Blk X scope X.s_0 X.H_0 0 [] []) hb hi (fun p => hg (dx.and p).M0 X.s_0 X.H_0 0 [] []) (fun p => ht (dx.and p).M0 X.s_0 X.H_0 0 [] []) rfl (fun p => dn_end (B := Blk X scope X.s_0 X.H_0 0 [] []) (he (dx.and p).M0 X.s_0 X.H_0 0 [] [])) sub)⟩
/-- a sum of two lists, to be changed -/
def fAddO (bad : Addr → Prop) : F2 := fun p q S Q => opt (asL S p) fun xs => opt (asL S q) fun ys => Fit (xs.length + ys.length) ∧ ∀ l, ¬ bad l → l ∉ S.map (·.1) → Q (.adr l) ((l, .l (xs ++ ys)) :: S)
theorem od_addO (hb : ∀ b, bad b → dx.hand b) {K : PySem.W.Frag} : OpD K dx (DL.rAdd K) (fAddO bad) := by
  intro x y p q H S Q Qh r hx hy t k
  obtain ⟨xs, e1, t⟩ := opt_run t
  obtain ⟨ys, e2, t⟩ := opt_run t
  obtain ⟨l, vs, rfl, h1, a1⟩ := asL_at r hx e1
  obtain ⟨b, ws, rfl, h2, a2⟩ := asL_at r hy e2
  refine .inr (.inr (.inr ⟨l, b, vs, ws, rfl, rfl, h1, h2, by rw [a1.length, a2.length]; exact t.1.line, fun z n => ?_⟩))
  have g := r.grow n (a1.append a2)
  exact k _ _ _ _ g (ext_own r n) (.adr z) (t.2 z (fun m => r.mu_ne n (.inr (.inl (hb z m)))) (List.nodup_cons.mp g.nd).1)
theorem no_bad : ∀ b, (fun _ : Addr => False) b → dx.hand b := fun _ z => z.elim
theorem bad_B {a : Addr} (h1 : dx.hand = handB a) : ∀ b, b = a → dx.hand b := fun b z => by rw [h1]; exact z
theorem bad_R {a c : Addr} (h1 : dx.hand = handR a c) : ∀ b, b = a → dx.hand b := fun b z => by rw [h1]; exact .inl z
end
/-! ### text * int, also times 0 -/
section
variable {X : Cx} {dx : Dx} {K : PySem.W.Frag}
def rMulS0 : R2 := fun x y H Q => ∃ z k, x = .str z ∧ y = .int k ∧ 0 ≤ k ∧ k ≤ 1000 ∧ 1 ≤ z.length ∧ z.length ≤ 1000 ∧ Q (.str (repS k.toNat z)) H
theorem op_mulS0 : OpR X (binaryOp .Mult) rMulS0 := by
  intro pins s σ H x y v u Q I rx ry h
  obtain ⟨z, k, rfl, rfl, h2, h1000, l1, l2, q⟩ := h
  by_cases k0 : 1 ≤ k
  · exact op_mulS pins s σ H _ _ v u Q I rx ry ⟨z, k, rfl, rfl, k0, h1000, l1, l2, q⟩
  · have e : k = 0 := by omega
    subst e
    obtain ⟨t, rfl⟩ := rx
    obtain ⟨t', rfl⟩ := ry
    exact PySem.P.mul_str_none (by decide) (by decide) ⟨.str (repS 0 z), H, I.tok _, ⟨_, rfl⟩, q⟩
def fMulS0 : F2
  | .str z, .int k, S, Q => 0 ≤ k ∧ k ≤ 1000 ∧ 1 ≤ z.length ∧ z.length ≤ 1000 ∧ Q (.str (repS k.toNat z)) S
  | _, _, _, _ => False
theorem od_mulS0 : OpD K dx rMulS0 fMulS0 := by
  intro x y p q H S Q Qh r hx hy t k
  cases hx with
  | str z =>
    cases hy with
    | int j => exact ⟨z, j, rfl, rfl, t.1, t.2.1, t.2.2.1, t.2.2.2.1, k _ H _ S r Ext.refl (.str _) t.2.2.2.2⟩
    | _ => exact t.elim
  | _ => cases hy <;> exact t.elim
end
end DL
/-! A tuple in a tuple of tuples. -/
namespace DL
open PySem PySem.Spec L2 Gd
section
variable {X : Cx} {dx : Dx} {K : PySem.W.Frag}
def rInT (K : PySem.W.Frag) (neg : Bool) : R2 := fun x y H Q => ∃ d ds, Dp K H x d ∧ Dp K H y (.tuple ds) ∧ SeqAt.shaped d = true ∧ SeqAt.shaped (.tuple ds) = true ∧ Q (.bl (if neg then !ds.any fun z => PyData.eqv z d else ds.any fun z => PyData.eqv z d)) H
theorem op_inT (hu : X.A.units + 65 < cLine) : OpR X (compareOp .In) (rInT X.K false) := by
  intro pins s σ H x y v u Q I rx ry h
  obtain ⟨d, ds, hd, he, sd, se, q⟩ := h
  obtain ⟨as, r1⟩ := Dp.reads I d x v hd rx
  obtain ⟨bs, r2⟩ := Dp.reads I (.tuple ds) y u he ry
  exact SeqAt.in_tuple_reads r2 r1 (SeqAt.canLay_of_shaped se) (SeqAt.canLay_of_shaped sd) (PyProof.Rows.room_in_shaped sd hu) ⟨.bl _, H, I, rfl, q⟩
theorem op_notInT (hu : X.A.units + 65 < cLine) : OpR X (compareOp .NotIn) (rInT X.K true) := by
  intro pins s σ H x y v u Q I rx ry h
  obtain ⟨d, ds, hd, he, sd, se, q⟩ := h
  obtain ⟨as, r1⟩ := Dp.reads I d x v hd rx
  obtain ⟨bs, r2⟩ := Dp.reads I (.tuple ds) y u he ry
  exact SeqAt.notIn_tuple_reads r2 r1 (SeqAt.canLay_of_shaped se) (SeqAt.canLay_of_shaped sd) (PyProof.Rows.room_in_shaped sd hu) ⟨.bl _, H, I, rfl, q⟩
theorem op_inT_ (K : PySem.W.Frag) {k : Nat} {A : Around} (room : Room k A) (hA : X.A = A := by rfl) (hK : X.K = K := by rfl) : OpR X (compareOp .In) (rInT K false) := by
  subst hK
  subst hA
  exact op_inT (by have := room.un; omega)
theorem op_notInT_ (K : PySem.W.Frag) {k : Nat} {A : Around} (room : Room k A) (hA : X.A = A := by rfl) (hK : X.K = K := by rfl) : OpR X (compareOp .NotIn) (rInT K true) := by
  subst hK
  subst hA
  exact op_notInT (by have := room.un; omega)
def fInD (neg : Bool) : F2
  | p, .tup xs, S, Q => dn 40 p = true ∧ dn 40 (.tup xs) = true ∧ Q (.bl (if neg then !xs.any fun y => deq y p else xs.any fun y => deq y p)) S
  | _, _, _, _ => False
theorem any_py (p : D) : ∀ xs : List D, ((pyAll xs).any fun z => PyData.eqv z (py p)) = xs.any fun y => deq y p
  | [] => rfl
  | x :: xs => by
    rw [List.any_cons, ← any_py p xs]
    rfl
theorem od_inD (neg : Bool) : OpD K dx (rInT K neg) (fInD neg) := by
  intro x y p q H S Q Qh r hx hy t k
  cases q with
  | tup xs =>
    have t : dn 40 p = true ∧ dn 40 (.tup xs) = true ∧ Q (.bl (if neg then !xs.any fun y => deq y p else xs.any fun y => deq y p)) S := by cases p <;> exact t
    refine ⟨_, _, dp_of hx t.1, dp_of hy t.2.1, py_shaped t.1, py_shaped t.2.1, ?_⟩
    rw [any_py]
    exact k _ H _ S r Ext.refl (.bl _) t.2.2
  | _ => cases p <;> exact t.elim
end
end DL
/-! Tuples of which it is known that they have no dict: made by tuple(list), asked by t.index(x); read as any tuple. -/
namespace DL
open PySem PySem.Spec L2 Gd PyProof.Rows
section
variable {X : Cx} {dx : Dx} {K : PySem.W.Frag}
/-! ### tuple(xs), xs a list -/
def rTupleZ (K : PySem.W.Frag) : List V → Hp → VK → Prop := fun xs H Q => ∃ p ys, xs = [.ref p] ∧ SqL K H p ys ∧ ∀ l o, H l = none → o.dict = none → Q (.ref l) (upd H l (.frz o (.tup ys)))
theorem cr_tupleZ : CallR X (.type "tuple") (rTupleZ X.K) := by
  intro pins s σ H xs us Q I r h
  obtain ⟨p, ys, rfl, hq, q⟩ := h
  obtain ⟨u, rfl, ru⟩ := vals1 r
  cases ru
  obtain ⟨its, rv, pl, fits⟩ := I.list hq
  have len := rv.length
  refine call_tuple_list pl.isList (fun h2 kept => ?_) (by rw [List.size_toArray]; omega)
  have J : Inv X pins σ H { s with heap := h2 } := I.kept (t' := s.toks) kept
  let o : Obj := { cls := .type "tuple", data := .seq its.toArray }
  have new : ObjOk X.prog X.w (upd H h2.objs.size (.frz o (.tup ys))) (h2.push o) h2.objs.size (.frz o (.tup ys)) := ⟨Heap.get?_push_size _ rfl, fits, its, rv, IsTup.new h2 its.toArray⟩
  exact ⟨.ref h2.objs.size, _, J.laid (t' := s.toks) (fun _ _ e => Heap.get?_push_of_some _ e) (Nat.le_refl _) new, rfl, q _ o (J.hok.fresh (Nat.le_refl _)) rfl⟩
theorem cr_tupleZ_ (K : PySem.W.Frag) (hK : X.K = K := by rfl) : CallR X (.type "tuple") (rTupleZ K) := by subst hK; exact cr_tupleZ
theorem new_tupZ {H : Hp} {S : Sto} {p : Addr} {o : Obj} {vs : List V} {ds : List D} (r : HR K dx H S) (n : H p = none) (z : o.dict = none) (a : DtAll K (Mu dx S) H vs ds) :
    HR K dx (upd H p (.frz o (.tup vs))) S ∧ Ext (Mu dx S) H (Mu dx S) (upd H p (.frz o (.tup vs))) ∧ Dt K (Mu dx S) (upd H p (.frz o (.tup vs))) (.ref p) (zD ds) :=
  ⟨r.same (same_new n), ext_new n, .ztup (r.mu_ne n) ⟨o, upd_same, z⟩ (a.ext (ext_new n))⟩
def fTupleZ : D → Sto → (D → Sto → Prop) → Prop
  | .lst ds, S, Q => Q (zD ds) S
  | .adr p, S, Q => opt (getS S p) fun ds => Q (zD ds) S
  | _, _, _ => False
theorem cd_tupleZ : CallD K dx (rTupleZ K) (one fTupleZ) := by
  refine cd_one fun v d H S Q Qh r h t k => ?_
  cases d with
  | lst ds =>
    obtain ⟨p, xs, rfl, _, hs, al⟩ := h.sqL
    refine ⟨p, xs, rfl, SqL.of hs, fun l o n z => ?_⟩
    obtain ⟨r2, x2, d2⟩ := new_tupZ r n z al
    exact k _ _ _ S r2 x2 d2 t
  | adr p =>
    cases h
    obtain ⟨ds, g, t⟩ := opt_run t
    obtain ⟨_, ws, eh, al⟩ := r.get g
    refine ⟨p, ws, rfl, SqL.of eh, fun l o n z => ?_⟩
    obtain ⟨r2, x2, d2⟩ := new_tupZ r n z al
    exact k _ _ _ S r2 x2 d2 t
  | _ => exact t.elim
/-! ### read as any tuple -/
def unz : D → D
  | .obj _ [] (.non :: ds) => .tup ds
  | d => d
theorem unz_ok {M : Mm} {H : Hp} {v : V} {d : D} (h : Dt K M H v d) : Dt K M H v (unz d) := by
  cases h with
  | ztup n h a => exact .tup n h.rd a
  | obj n h c k a =>
    rename_i a C x fs c ns ds
    cases ns with
    | nil =>
      have : fs = [] := List.map_eq_nil_iff.mp k
      subst this
      cases a
      exact .obj n h c rfl .nil
    | cons m ns => exact .obj n h c k a
  | non => exact .non
  | bl b => exact .bl b
  | int i => exact .int i
  | str x => exact .str x
  | tup n h a => exact .tup n h a
  | ktup h a => exact .ktup h a
  | lst n h a => exact .lst n h a
  | fls n h => exact .fls n h
  | kfls h => exact .kfls h
  | adr a => exact .adr a
  | dic n h k a => exact .dic n h k a
  | dlt n h k a => exact .dlt n h k a
def dWk (fe : DTE) : DTE := fun δ S Q => fe δ S fun d S1 => Q (unz d) S1
theorem de_wk {e : Expr} {te : TE} {fe : DTE} (h : DE X dx e te fe) : DE X dx e te (dWk fe) :=
  ⟨h.pe, fun σ H δ S Q Qh r s t k => h.go σ H δ S _ _ r s t fun v H1 d S1 r1 x1 d1 t1 => k v H1 _ S1 r1 x1 (unz_ok d1) t1⟩
end
/-! ### t.index(x) -/
def tBMZ (r : V → List V → Hp → VK → Prop) (to : TE) (t : TA) : TE := fun σ H Q => to σ H fun x H1 => (∃ a ys, x = .ref a ∧ ZT H1 a ys) ∧ t σ H1 fun xs H2 => r x xs H2 Q
section
variable {X : Cx} {dx : Dx} {K : PySem.W.Frag} {o e : Expr} {es : List Expr} {to : TE} {t : TA} {name : Str} {apos cpos : Pos} {id : String} {r : V → List V → Hp → VK → Prop}
theorem pe_bmZ (pa : PlainAttrs "tuple") (slot : Slot "tuple" name id) (hty : typeOf (.builtin id) = pure (.type "method_descriptor")) (hm : MtR X id r) (ho : PE X o to) (ha : PA X (e :: es) t)
    (hbase : attributeBase o name X.env (eval o X.env) = eval o X.env := by rfl)
    (hfew : ((backTo cpos (starEach (e :: es) X.env)).all (fun x => !x.1) && (backToKw cpos (keywordEach [] X.env)).all (fun x => x.1.isSome)
      && decide ((e :: es).length + ([] : List Keyword).length + (if ([] : List Keyword).isEmpty then 0 else 1) < 30)) = true := by rfl)
    (hline : (apos.endLine == cpos.line) = true := by rfl) (hs : starEach (e :: es) X.env = (false, eval e X.env) :: starEach es X.env := by rfl) (hplain : (backTo cpos (starEach es X.env)).any (·.1) = false := by rfl) :
    PE X (.Call (.Attribute o name apos) (e :: es) [] cpos) (tBMZ r to t) := by
  constructor
  intro pins s σ H Q I h
  refine wpAny_Call_method_late hbase hfew hline rfl (thn (ho.run pins s σ H _ I h) fun v s1 ⟨x, H1, I1, r1, ⟨a, ys, ex, ob, eH, nod⟩, q1⟩ => ?_)
  subst ex
  obtain rfl : v = .ref a := r1
  obtain ⟨there, _, its, _, isT⟩ := (show ObjOk X.prog X.w H1 s1.heap a (.frz ob (.tup ys)) from I1.hok a _ eH)
  refine ⟨"tuple", id, pa, slot, hty, isT.typeIs, fun b eb => ?_, ?_⟩
  · cases eb
    exact ⟨ob, there, nod⟩
  · have hA := ha.run cpos pins s1 σ H1 _ I1 q1
    rw [hs] at hA ⊢
    refine Calls.callWith_builtin (show (false || (backTo cpos (starEach es X.env)).any (·.1)) = false by rw [hplain]; rfl) (Calls.evalArgs_plain ?_)
    exact thn hA fun us s2 ⟨vs, H2, I2, r2, q2⟩ => hm pins s2 σ H2 (.ref a) vs (.ref a) us Q I2 rfl r2 q2
/-- the first place of an equal one -/
def rIndexT (K : PySem.W.Frag) : V → List V → Hp → VK → Prop := fun x xs H Q => ∃ (a : Addr) (y : V) (d : PyData) (ds : List PyData) (j : Nat) (z : PyData), x = V.ref a ∧ xs = [y] ∧ Dp K H (V.ref a) (.tuple ds) ∧ Dp K H y d ∧
  SeqAt.shaped (.tuple ds) = true ∧ SeqAt.shaped d = true ∧ (ds[j]? = some z ∧ PyData.eqv z d = true) ∧ (∀ (m : Nat) (c : PyData), m < j → ds[m]? = some c → PyData.eqv c d = false) ∧ Q (.int (j : Nat)) H
theorem mt_indexT (hu : X.A.units + 65 < cLine) : MtR X "tuple.index" (rIndexT X.K) := by
  intro pins s σ H x xs v us Q I rx rxs h
  obtain ⟨a, y, d, ds, j, z, rfl, rfl, hl, hy, sl, sd, ⟨hz, hit⟩, before, q⟩ := h
  cases rx
  obtain ⟨uy, rfl, ry⟩ := vals1 rxs
  obtain ⟨bs, ready⟩ := Dp.reads I d y uy hy ry
  have can : PyData.canLayAll0 ds = true := SeqAt.canLay_of_shaped sl
  cases hl with
  | tup hs ha =>
    obtain ⟨its, rv, ⟨⟨cls, dd, data, slots⟩, there, hc, n, hdt⟩, fits⟩ := I.tuple hs
    simp only at hc hdt
    subst hc hdt
    obtain ⟨as, all⟩ := Dp.readsAll I ds _ its ha rv
    have same : its.map (SeqAt.readOf s.heap) = ds := SeqAt.readsAll_map ds its as can all
    have size : its.toArray.size = ds.length := by rw [← same, List.length_map, List.size_toArray]
    have what : ∀ (m : Nat) (hm : m < its.toArray.size), ds[m]? = some (SeqAt.readOf s.heap its.toArray[m]) := fun m hm => by
      have hm2 : m < its.length := by simpa using hm
      rw [← same, List.getElem?_map, List.getElem?_eq_getElem hm2]
      rfl
    have lj : j < its.toArray.size := by rw [size]; exact (List.getElem?_eq_some_iff.mp hz).1
    let e : Nat → Bool := fun m => match ds[m]? with
      | some c => PyData.eqv c d
      | none => false
    have ej : e j = true := by show (match ds[j]? with | some c => PyData.eqv c d | none => false) = true; rw [hz]; exact hit
    have el : ∀ m (hm : m < its.toArray.size), 0 ≤ m → m < j → e m = false := fun m hm _ hmj => by
      show (match ds[m]? with | some c => PyData.eqv c d | none => false) = false
      rw [what m hm]
      exact before m _ hmj (what m hm)
    have alike : ∀ m (hm : m < its.toArray.size), SeqAt.EqAt X.A.in1 s its.toArray[m] uy (e m) := fun m hm => by
      have := SeqAt.items_eqAt (A := X.A) (vs := its.toArray) (show ReadsAll s.heap its.toArray.toList ds as from all) ready can (SeqAt.canLay_of_shaped sd) (room_in_shaped sd hu) its.toArray[m] (Array.getElem_mem hm)
      have em : e m = PyData.eqv (SeqAt.readOf s.heap its.toArray[m]) d := by
        show (match ds[m]? with | some c => PyData.eqv c d | none => false) = _
        rw [what m hm]
      rw [em]
      exact this
    exact call_meets PySem.F.slot_tuple_index ⟨_, there, rfl⟩ PySem.F.entry_tuple_index (PySem.F.args_tuple_index_2 _ _)
      (SeqAt.tuple_index2_found a its.toArray n dd slots uy e j lj (Nat.zero_le _) lj ej el) ⟨there, alike, .int (j : Nat), H, I.tok _, ⟨_, rfl⟩, q⟩
theorem mt_indexT_ (K : PySem.W.Frag) {k : Nat} {A : Around} (room : Room k A) (hA : X.A = A := by rfl) (hK : X.K = K := by rfl) : MtR X "tuple.index" (rIndexT K) := by
  subst hK
  subst hA
  exact mt_indexT (by have := room.un; omega)
/-- where the first alike stands -/
def idxD (y : D) : List D → Option Nat
  | [] => none
  | x :: xs => if deq x y = true then some 0 else (idxD y xs).map (· + 1)
theorem idx_at {y : D} : ∀ {xs : List D} {j : Nat}, idxD y xs = some j → (∃ x, xs[j]? = some x ∧ deq x y = true) ∧ ∀ m x, m < j → xs[m]? = some x → deq x y = false
  | [], _, h => nomatch h
  | x :: xs, j, h => by
    have h : (if deq x y = true then some 0 else (idxD y xs).map (· + 1)) = some j := h
    by_cases e : deq x y = true
    · rw [if_pos e] at h
      cases h
      exact ⟨⟨x, rfl, e⟩, fun m _ l => absurd l (Nat.not_lt_zero m)⟩
    · rw [if_neg e] at h
      obtain ⟨i, ei, rfl⟩ := Option.map_eq_some_iff.mp h
      obtain ⟨⟨z, z1, z2⟩, all⟩ := idx_at ei
      refine ⟨⟨z, z1, z2⟩, fun m w l g => ?_⟩
      cases m with
      | zero =>
        cases g
        exact Bool.eq_false_iff.mpr e
      | succ m => exact all m w (by omega) g
theorem pyAll_get : ∀ {xs : List D} {m : Nat}, (pyAll xs)[m]? = xs[m]?.map py
  | [], _ => rfl
  | x :: xs, 0 => rfl
  | x :: xs, m + 1 => pyAll_get (xs := xs) (m := m)
def fIndexZ : D → List D → Sto → (D → Sto → Prop) → Prop
  | .obj _ [] (.non :: xs), [y], S, Q => dn 40 y = true ∧ dn 40 (.tup xs) = true ∧ opt (idxD y xs) fun j => Q (.int (j : Nat)) S
  | _, _, _, _ => False
/-- the way to a method of a tuple without a dict -/
def dMZ (f : D → List D → Sto → (D → Sto → Prop) → Prop) (fo : DTE) (fa : DTA) : DTE := fun δ S Q => fo δ S fun d S1 => (∃ c xs, d = .obj c [] (.non :: xs)) ∧ fa δ S1 fun ds S2 => f d ds S2 Q
theorem de_indexZ_ (K : PySem.W.Frag) {fo : DTE} {ta : TA} {fa : DTA} (ho : DE X dx o to fo) (ha : DA X dx es ta fa) (hp : PE X o to → PA X es ta → PE X (.Call (.Attribute o name apos) es [] cpos) (tBMZ (rIndexT K) to ta)) (hK : X.K = K := by rfl) :
    DE X dx (.Call (.Attribute o name apos) es [] cpos) (tBMZ (rIndexT K) to ta) (dMZ fIndexZ fo fa) := by
  subst hK
  refine ⟨hp ho.pe ha.pe, fun σ H δ S Q Qh r s t k => ?_⟩
  refine ho.go σ H δ S _ _ r s t fun v H1 d S1 r1 x1 d1 t1 => ?_
  obtain ⟨⟨c, xs, rfl⟩, t1⟩ := t1
  generalize ed : D.obj c [] (.non :: xs) = dd at d1 t1
  cases d1 with
  | ztup nm hz al =>
    cases ed
    refine ⟨⟨_, _, rfl, hz⟩, ?_⟩
    refine ha.go σ H1 δ S1 _ _ r1 (s.ext x1) t1 fun vs H2 ds S2 r2 x2 d2 t2 => ?_
    match ds, d2, t2 with
    | [y], .cons dy .nil, t2 =>
      obtain ⟨h1, h2, t2⟩ := t2
      obtain ⟨j, ej, q⟩ := opt_run t2
      obtain ⟨⟨z, z1, z2⟩, before⟩ := idx_at ej
      have whole : Dt X.K (Mu dx S2) H2 _ (.tup xs) := unz_ok (Dt.ext x2 (.ztup nm hz al))
      refine ⟨_, _, py y, pyAll xs, j, py z, rfl, rfl, dp_of whole h2, dp_of dy h1, py_shaped h2, py_shaped h1, ⟨by rw [pyAll_get, z1]; rfl, z2⟩, fun m c l g => ?_, k _ H2 _ S2 r2 (x1.trans x2) (.int _) q⟩
      rw [pyAll_get] at g
      obtain ⟨w, w1, rfl⟩ := Option.map_eq_some_iff.mp g
      exact before m w l w1
    | [], _, t2 => exact t2.elim
    | _ :: _ :: _, _, t2 => exact t2.elim
  | obj nm ho2 hc hn al =>
    rename_i fs _ _ _
    cases ed
    have : fs = [] := List.map_eq_nil_iff.mp hn
    subst this
    cases al
  | _ => cases ed
end
end DL
/-! Dict comprehensions of any number of clauses (as De5 has them for lists). -/
namespace L2
open PySem PySem.Spec PyProof.Rows
section
variable {prog : Program} {w : World} {A : Around} {R : Result → Shared → Prop} {s : Shared} {kx vx : Expr} {gs : List Comprehension} {scope : Scope} {pos : Pos} {it acc : Value} {env : Env}
/-- what a clause does behind its tests: the next clause, or the end -/
def tailK (c : Expr) (d : Nat) (it acc : Value) (env : Env) : Option Expr → Sem Fin
  | some i => eval i env >>= fun x => standAt i.pos >>= fun _ => foldedSetIterable i env x >>= fun x =>
      holding [x] (pyIter x) >>= fun z => runOwn (.compStart c (d + 1) z acc env) env >>= fun _ => again (.compLoop c d it acc env)
  | none => (match c with
    | .DictComp kx vx .. => (do
        let kv ← eval kx env
        let vv ← holding [kv] (eval vx env)
        match acc with
        | .ref d => do
          standAt { kx.pos with endLine := vx.pos.endLine, endCol := vx.pos.endCol }
          holding [kv, vv] (dictSet d kv vv)
        | _ => unsupported "internal:dictcomp")
    | _ => pure ()) >>= fun _ => again (.compLoop c d it acc env)
/-- what a clause does with an item -/
def itemK (c t : Expr) (ifs : List Expr) (d : Nat) (it acc : Value) (env : Env) (nx : Option Expr) (v : Value) : Sem Fin :=
  letOwnedTupleGo t it v >>= fun _ => assign t env v >>= fun _ =>
    (forIn ifs true fun b r => if r = true then (do let ok ← isTrue b env (eval b env); pure (ForInStep.yield ok)) else pure (ForInStep.yield r)) >>= fun ok =>
      if ok = true then tailK c d it acc env nx else again (.compLoop c d it acc env)
theorem turnK {t i : Expr} {ifs : List Expr} {d : Nat} {nx : Option Expr} (hg : gs[d]? = some ⟨t, i, ifs, 0⟩) (hn : NextIs gs d nx) :
    compTurn (.DictComp kx vx gs scope pos) d it acc env = (standAt i.pos >>= fun _ => pyNext it >>= fun r => match r with
      | none => pure (.done .next)
      | some v => itemK (.DictComp kx vx gs scope pos) t ifs d it acc env nx v) := by
  unfold compTurn
  simp only [hg]
  unfold itemK tailK
  cases nx with
  | none => simp only [show gs[d + 1]? = none from hn]; rfl
  | some q => obtain ⟨t1, f1, e⟩ := hn; simp only [e]; rfl
/-- the loop of any clause -/
theorem loopK {t i : Expr} {ifs : List Expr} {d : Nat} {nx : Option Expr} (hg : gs[d]? = some ⟨t, i, ifs, 0⟩) (hn : NextIs gs d nx) (I : Nat → Shared → Prop)
    (turn : ∀ n s, I n s → wpAny (model prog w) A (pyNext it) (fun r s₁ => match r with
      | none => R (.ok .next) s₁
      | some v => wpAny (model prog w) A (itemK (.DictComp kx vx gs scope pos) t ifs d it acc env nx v) (fun f s' => f = .again (.compLoop (.DictComp kx vx gs scope pos) d it acc env) ∧ ∃ m, m < n ∧ I m s') (fun _ _ => False) s₁) (fun _ _ => False) s)
    (n : Nat) (h : I n s) : codeAny (model prog w) A (.compLoop (.DictComp kx vx gs scope pos) d it acc env) R s := by
  refine codeAny_loop rfl I (fun n s hI => ?_) n h
  show wpAny _ A ((compTurn (.DictComp kx vx gs scope pos) d it acc env).onRaise (fun x => do noteFrame x env; theTreesLotGoes x)) _ _ s
  refine wpAny_noted ?_
  rw [turnK hg hn]
  refine wpAny_bind (wpAny_standAt (wpAny_bind (wpAny_mono (turn n s hI) (fun r s₁ h₁ => ?_) fun _ _ h' => h'.elim)))
  cases r with
  | none => exact wpAny_pure h₁
  | some v =>
    refine wpAny_mono h₁ (fun f s' q => ?_) fun _ _ h' => h'.elim
    obtain ⟨rfl, q⟩ := q
    exact ⟨rfl, q⟩
end
end L2
namespace L2
open PySem PySem.Spec PyProof.Rows
def tnEK (tk tv : TE) (D : Addr) : TN := fun σ H Nx => tk σ H fun y H6 => tv σ H6 fun z H7 => ∃ kvs k, y = kV k ∧ H7 D = some (.dK kvs) ∧ kvs.length < sizeLine ∧ Nx (upd H7 D (.dK (putK kvs k z)))
structure PNK (X : Cx) (c : Expr) (d : Nat) (D : Addr) (nx : Option Expr) (vs : List Nat) (t : TN) : Prop where
  run : ∀ (pins : List (Addr × Obj)) (s : Shared) (σ : St) (H : Hp) (N : Hp → Prop) (it : Value), Inv X pins σ H s → t σ H N →
    wpAny (model X.prog X.w) X.A (tailK c d it (.ref D) X.env nx) (fun f s' => f = .again (.compLoop c d it (.ref D) X.env) ∧ ∃ H', Inv X pins (wipe σ vs) H' s' ∧ N H') (fun _ _ => False) s
section
variable {X : Cx} {kx vx : Expr} {gs : List Comprehension} {scope : Scope} {pos : Pos} {d : Nat} {D : Addr} {te : TE}
theorem pnk_end {tk tv : TE} (hx : X.xe = fun _ _ => False) (hk : PE X kx tk) (hv : PE X vx tv) : PNK X (.DictComp kx vx gs scope pos) d D none [] (tnEK tk tv D) := by
  refine ⟨fun pins s σ H N it I h => ?_⟩
  have r := hk.run pins s σ H _ I h
  rw [hx] at r
  refine wpAny_bind (wpAny_bind (thn r fun kv s1 ⟨y, H1, I1, r1, q1⟩ => ?_))
  have r := hv.run pins s1 σ H1 _ I1 q1
  rw [hx] at r
  refine wpAny_bind (wpAny_holding (thn r fun vv s2 ⟨z, H2, I2, r2, kvs, k, ek, hD, lt, n⟩ => ?_))
  subst ek
  exact wpAny_bind (wpAny_standAt (wpAny_holding (d_dictSet I2 hD lt r1 r2 fun s3 I3 => wpAny_pure ⟨rfl, _, I3, n⟩)))
/-- an item of a clause: the store, the tests, what is behind them -/
theorem itemk_ok {s : Shared} {σ : St} {t : Expr} {ifs : List Expr} {nx : Option Expr} {ws vs : List Nat} {T : TN} {g : TG} {tt : TT} {u it : Value} {N : Hp → Prop} {R : Shared → Prop} {c : Expr}
    (hx : X.xe = fun _ _ => False) (hg : PG X t g) (ht : PTs X ifs tt) (inner : PNK X c d D nx ws T) (sub : ∀ i ∈ ws, i ∈ vs)
    (go : wpAny (model X.prog X.w) X.A (letOwnedTupleGo t it u) (fun _ s' => ∃ pins x H', Inv X pins (wipe σ vs) H' s' ∧ RelV x u ∧ (g x (wipe σ vs) H' fun σ3 H5 => wipe σ3 vs = wipe σ vs ∧ tt σ3 H5 fun b H6 => if b = true then T σ3 H6 N else N H6) ∧
      ∀ s2 H2, Inv X pins (wipe σ vs) H2 s2 → N H2 → R s2) (fun _ _ => False) s) :
    wpAny (model X.prog X.w) X.A (itemK c t ifs d it (.ref D) X.env nx u) (fun f s' => f = .again (.compLoop c d it (.ref D) X.env) ∧ R s') (fun _ _ => False) s := by
  refine wpAny_bind (thn go fun _ s1 ⟨pins, x, H1, I1, r1, q1, fin⟩ => ?_)
  have r := hg.run pins s1 _ H1 x u _ I1 r1 q1
  rw [hx] at r
  refine wpAny_bind (thn r fun _ s2 ⟨σ2, H2, I2, w2, q2⟩ => ?_)
  have r := ht.run pins s2 σ2 H2 _ I2 q2
  rw [hx] at r
  refine wpAny_bind (thn r fun b s3 ⟨H3, I3, q3⟩ => ?_)
  have back : ∀ {σ' : St} {H' : Hp} {s' : Shared}, Inv X pins σ' H' s' → σ'.length = σ2.length → (∀ (j : Nat) v, (wipe σ2 vs)[j]? = some (some v) → σ'[j]? = some (some v)) → Inv X pins (wipe σ vs) H' s' := fun I' l k => by
    rw [← w2]
    exact I'.weak (by rw [wipe_length, l]) k
  cases b with
  | false =>
    rw [if_neg Bool.false_ne_true] at q3 ⊢
    exact wpAny_pure ⟨rfl, fin _ H3 (back I3 rfl fun j v e => (wipe_some e).1) q3⟩
  | true =>
    rw [if_pos rfl] at q3 ⊢
    refine thn (inner.run pins s3 σ2 H3 N it I3 q3) fun f s4 ⟨e, H4, I4, n4⟩ => ⟨e, fin _ H4 (back I4 (wipe_length _ _) fun j v e => wipe_more sub e) n4⟩
end
end L2
namespace L2
open PySem PySem.Spec PyProof.Rows
section
variable {prog : Program} {w : World} {A : Around} {R : Result → Shared → Prop} {s : Shared} {kx vx : Expr} {gs : List Comprehension} {scope : Scope} {pos : Pos} {it acc : Value} {env : Env} {d : Nat}
/-- a later clause's start -/
theorem startK {t i : Expr} {ifs : List Expr} (hg : gs[d]? = some ⟨t, i, ifs, 0⟩) (h0 : codeAny (model prog w) A (.compLoop (.DictComp kx vx gs scope pos) d it acc env) R s)
    (h : wpAny (model prog w) A (pyIter it) (fun z s' => codeAny (model prog w) A (.compLoop (.DictComp kx vx gs scope pos) d z acc env) R s') (fun _ _ => False) s) :
    codeAny (model prog w) A (.compStart (.DictComp kx vx gs scope pos) d it acc env) R s := by
  have cl : (clausesOf (.DictComp kx vx gs scope pos))[d]? = some ⟨t, i, ifs, 0⟩ := hg
  have quiet : (Code.compStart (.DictComp kx vx gs scope pos) d it acc env).isFrame = (Code.compLoop (.DictComp kx vx gs scope pos) d it acc env).isFrame := rfl
  refine codeAny_of_tree ?_
  show wpAny _ _ ((compStart (.DictComp kx vx gs scope pos) d it acc env).onRaise (fun x => do noteFrame x env; standAt theWindowsPlace)) _ _ s
  refine wpAny_notedAt ?_
  unfold compStart
  rw [cl]
  show wpAny _ _ (ask >>= _) _ _ s
  refine wpAny_bind (wpAny_askSetting (wpAny_ite ?_))
  split
  · first
      | exact wpAny_bind (wpAny_pure (wpAny_pure (And.intro rfl h0)))
      | exact wpAny_pure (And.intro rfl h0)
  · refine wpAny_bind (wpAny_rule ?_)
    show wpAny _ _ (standAt i.pos >>= _) _ _ s
    exact wpAny_bind (wpAny_standAt (wpAny_bind (wpAny_mono h (fun _ _ q => wpAny_pure (And.intro rfl q)) fun _ _ x => x.elim)))
end
section
variable {X : Cx} {kx vx : Expr} {gs : List Comprehension} {scope : Scope} {pos : Pos} {d : Nat} {D : Addr} {te : TE}
theorem pnk_next {t i : Expr} {ifs : List Expr} {nx : Option Expr} {ws vs : List Nat} {T : TN} {wi : TI} {g : TG} {tt : TT} (hc : X.calm = true) (hx : X.xe = fun _ _ => False) (hd : gs[d + 1]? = some ⟨t, i, ifs, 0⟩) (hn : NextIs gs (d + 1) nx)
    (hi : PI X t i wi) (hg : PG X t g) (ht : PTs X ifs tt) (inner : PNK X (.DictComp kx vx gs scope pos) (d + 1) D nx ws T) (sub : ∀ j ∈ ws, j ∈ vs) (hs : ∀ env x, foldedSetIterable i env x = pure x) :
    PNK X (.DictComp kx vx gs scope pos) d D (some i) vs (tnC wi g tt T vs) := by
  refine ⟨fun pins s σ H N it I h => ?_⟩
  have r := hi.run pins s σ H _ I h
  rw [hx] at r
  refine wpAny_bind (thn r fun xv s1 q1 => wpAny_bind (wpAny_standAt (wpAny_bind (wpAny_of_eq (hs X.env xv) (wpAny_bind (wpAny_holding (thn q1 fun itv s2 q2 => ?_)))))))
  obtain ⟨it1, fp, tn, J, H2, e, I2, T2, st2, f2, W, ⟨m0, w0⟩, turn⟩ := q2
  subst e
  refine wpAny_bind (wpAny_runOwn ?_)
  rw [Around.mark_none]
  have stat : ∀ {H' : Hp}, (∀ b ∈ fp, H' b = none) → ∀ b ∈ fp, FpOk X pins H' b := fun hn b hb => ⟨hn b hb, (f2 b hb).2⟩
  have loop : codeAny (model X.prog X.w) X.A (.compLoop (.DictComp kx vx gs scope pos) (d + 1) (.ref it1) (.ref D) X.env) (fun r s' => match r with
      | .ok f => f = .next ∧ ∃ H', Inv X pins (wipe σ vs) H' s' ∧ N H'
      | .error _ => False) s2 := by
    refine loopK hd hn (fun k s' => ∃ j H', Inv X pins (wipe σ vs) H' s' ∧ tn j s'.heap ∧ (∀ b ∈ fp, H' b = none) ∧ W j k H') ?_ m0 ⟨0, H2, I2.weak (wipe_length _ _) (fun j v e => (wipe_some e).1), st2, fun b hb => (f2 b hb).1, w0⟩
    rintro k s3 ⟨j, H3, I3, st3, n3, w3⟩
    rcases turn j k H3 w3 with ⟨stop, nd⟩ | ⟨go, N1, hN1, step⟩
    · refine thnF (T2.done X rfl rfl rfl hc j pins s3 (wipe σ vs) H3 (fun _ _ => False) I3 (stat n3) st3 stop) fun r s4 ⟨hr, I4⟩ => ?_
      subst hr
      exact ⟨rfl, H3, I4, nd⟩
    · refine thnF (T2.item X rfl rfl rfl hc j pins s3 (wipe σ vs) H3 (fun _ _ => False) I3 (stat n3) st3 go) fun r s4 ⟨u, hr, h4⟩ => ?_
      subst hr
      refine itemk_ok (N := N1) (σ := σ) hx hg ht inner sub (thnF h4 fun _ s5 ⟨x, H5, I5, r5, y5, st5, n5⟩ => ?_)
      refine ⟨pins ++ pinsAt fp s5.heap, x, H5, I5.pinned (stat n5) (T2.obj _ _ st5), r5, step x H5 y5, fun s6 H6 I6 n6 => ?_⟩
      obtain ⟨k', hk, w'⟩ := hN1 H6 n6
      have pin : ∀ b ∈ fp, ∀ o, s5.heap.get? b = some o → s6.heap.get? b = some o ∧ H6 b = none := fun b hb o e =>
        let z := I6.pin (b, o) (List.mem_append_right _ (List.mem_append_right _ (mem_pinsAt hb e)))
        ⟨z.1, z.2.1⟩
      refine ⟨k', hk, j + 1, H6, I6.unpinned, T2.keep _ _ _ st5 fun b hb o e => (pin b hb o e).1, fun b hb => ?_, w'⟩
      obtain ⟨o, e, _⟩ := T2.obj _ _ st5 b hb
      exact (pin b hb o e).2
  refine codeAny_mono (startK hd loop (T2.self X.A 0 _ _ _ st2 loop)) fun r s' hr => ?_
  cases r with
  | ok f =>
    obtain ⟨rfl, q⟩ := hr
    first
      | exact wpAny_pure ⟨rfl, q⟩
      | exact wpAny_bind (wpAny_pure (wpAny_pure ⟨rfl, q⟩))
  | error e => exact hr.elim
end
end L2
namespace L2
open PySem PySem.Spec PyProof.Rows
section
variable {X : Cx}
/-- [elt for tg in iter if .. for ..]: the first clause, and what is behind its tests -/
def tDcN (wi : TI) (g : TG) (tt : TT) (T : Addr → TN) (vs : List Nat) : TE := fun σ H Q => wi σ H fun J H1 => ∀ D, H1 D = none → ∃ W : Nat → Nat → Hp → Prop, (∃ m, W 0 m (upd H1 D (.dK []))) ∧ ∀ i m H, W i m H →
  (J.stop i H ∧ Q (.ref D) H) ∨ (J.go i H ∧ ∃ N : Hp → Prop, (∀ H', N H' → ∃ m', m' < m ∧ W (i + 1) m' H') ∧ ∀ x H', J.yld i H x H' → g x (wipe σ vs) H' fun σ2 H2 => wipe σ2 vs = wipe σ vs ∧ tt σ2 H2 fun b H3 =>
    if b = true then T D σ2 H3 N else N H3)
theorem dcN_core {pins : List (Addr × Obj)} {s : Shared} {σ : St} {H : Hp} {Q : VK} {kx vx tg iter i1 : Expr} {ifs : List Expr} {gs : List Comprehension} {scope : Scope} {own : List (Str × Nat)} {ws : List Nat} {pos pos' : Pos} {wi : TI} {g : TG} {tt : TT} {T : Addr → TN}
    {use : Option (Value → Sem Unit)} {Qf : Value → Shared → Prop} (hc : X.calm = true) (hN : X.N.Nodup) (I : Inv X pins σ H s) (hi : PI X tg iter wi) (ok : BlkOk X.N X.env.scope scope own) (hnx : NextIs (⟨tg, iter, ifs, 0⟩ :: gs) 0 (some i1))
    (hg : ∀ s H C cl fp, PG (BlkX X scope s H C cl fp) tg g) (ht : ∀ s H C cl fp, PTs (BlkX X scope s H C cl fp) ifs tt)
    (hT : ∀ s H C cl fp D, PNK (BlkX X scope s H C cl fp) (.DictComp kx vx (⟨tg, iter, ifs, 0⟩ :: gs) scope pos) 0 D (some i1) ws (T D)) (sub : ∀ i ∈ ws, i ∈ own.map (·.2)) (hs : ∀ x, foldedSetIterable iter X.env x = pure x)
    (h : tDcN wi g tt T (own.map (·.2)) σ H Q)
    (hRR : ∀ D C s' m H', Inv X pins σ H' s' → Q (.ref D) H' → s'.heap.Ns C m → FpOk X pins H' C → compPost (model X.prog X.w) X.A X.xe use Qf (.ref D) C (.ok .next) s') :
    wpAny (model X.prog X.w) X.A (comprehension (.DictComp kx vx (⟨tg, iter, ifs, 0⟩ :: gs) scope pos) scope X.env pos' (newDict) false (eval iter X.env) use) Qf X.xe s := by
  have clo : ∀ y ∈ scope.names, y.2 = .free → ∃ c, X.env.cells.lookup y.1 = some c := fun y hy e => (ok.free y hy e).elim (fun k => I.ok.has _ (.inl k)) fun k => I.ok.has _ (.inr k)
  refine wpAny_comprehension_free (use := use) rfl hs (closure_ok clo) ok.kind (fun y hy e => by rw [ok.uniq y hy, e]) (thn (hi.run pins s σ H _ I h) fun xv s1 hx => thn hx fun itv s2 h2 => ?_)
  obtain ⟨it, fp, tn, J, H2, e, Y2, Tn, st2, f2, q⟩ := h2
  subst e
  refine wpAny_newObj_type (newEnv_comp ?_)
  generalize eD : s2.heap.objs.size = D
  have nD : H2 D = none := Y2.hok.fresh (Nat.le_of_eq eD)
  obtain ⟨W, ⟨n0, z0⟩, each⟩ := q D nD
  generalize es3 : ({ s2 with heap := s2.heap.push { cls := .type "dict", data := .dict #[] } } : Shared) = s3
  have eh3 : s3.heap = s2.heap.push { cls := .type "dict", data := .dict #[] } := by subst es3; rfl
  have Y3 : Inv X pins σ (upd H2 D (.dK [])) s3 := by
    subst es3
    refine Y2.laid (t' := s2.toks) (fun b o e => Heap.get?_push_of_some _ e) (Nat.le_of_eq eD) ?_
    subst eD
    exact dk_empty s2.heap Y2.big
  have ok3 : ∀ b ∈ fp, FpOk X pins (upd H2 D (.dK [])) b ∧ b < s3.heap.objs.size := fun b hb => by
    obtain ⟨o, e, _⟩ := Tn.obj _ _ st2 b hb
    have lt := Heap.lt_size e
    exact ⟨⟨by rw [upd_ne (Nat.ne_of_lt (eD ▸ lt))]; exact (f2 b hb).1, (f2 b hb).2⟩, by rw [eh3, Heap.size_push]; exact Nat.lt_succ_of_lt lt⟩
  have t3 : tn 0 s3.heap := Tn.keep _ _ _ st2 fun b _ o e => eh3 ▸ Heap.get?_push_of_some _ e
  have Y4 := block_start Y3 ok hN ok3
  have qg := hg s3 (upd H2 D (.dK [])) s3.heap.objs.size (cellsFrom (s3.heap.objs.size + 1) scope.names (cloFrom X.env.cells scope.names [])) fp
  have qt := ht s3 (upd H2 D (.dK [])) s3.heap.objs.size (cellsFrom (s3.heap.objs.size + 1) scope.names (cloFrom X.env.cells scope.names [])) fp
  have qT := hT s3 (upd H2 D (.dK [])) s3.heap.objs.size (cellsFrom (s3.heap.objs.size + 1) scope.names (cloFrom X.env.cells scope.names [])) fp D
  dsimp only [BlkX] at qg qt qT
  show codeAny _ _ (.compStart (.DictComp kx vx (⟨tg, iter, ifs, 0⟩ :: gs) scope pos) 0 (.ref it) (.ref D) (compEnvC scope (cellsFrom (s3.heap.objs.size + 1) scope.names (cloFrom X.env.cells scope.names [])) s3.heap.objs.size X.env)) (compPost (model X.prog X.w) X.A X.xe use Qf (.ref D) s3.heap.objs.size)
    { s3 with heap := pushCells (s3.heap.push { cls := .type "dict", data := .dict #[] }) scope.names }
  have none3 : ∀ b ∈ fp, (upd H2 D (.dK [])) b = none := fun b hb => (ok3 b hb).1.1
  generalize ece : compEnvC scope (cellsFrom (s3.heap.objs.size + 1) scope.names (cloFrom X.env.cells scope.names [])) s3.heap.objs.size X.env = ce at Y4 qg qt qT ⊢
  have loc3 : ce.locals = s3.heap.objs.size := by subst ece; rfl
  generalize eH3 : upd H2 D (.dK []) = H3 at Y3 Y4 qg qt qT z0 none3 ok3
  generalize es4 : ({ s3 with heap := pushCells (s3.heap.push { cls := .type "dict", data := .dict #[] }) scope.names } : Shared) = s4 at Y4 ⊢
  have t4 : tn 0 s4.heap := Tn.keep _ _ _ t3 fun b _ o e => es4 ▸ pushCells_keeps _ _ _ _ (Heap.get?_push_of_some _ e)
  generalize hB : X.blk s3 H3 scope ce fp = B at Y4 qg qt qT
  have bA : B.A = X.A := by subst hB; rfl
  have stat : ∀ {σ' : St} {H' : Hp} {s' : Shared}, Inv B [] σ' H' s' → (∀ b ∈ fp, H' b = none) → ∀ b ∈ fp, FpOk B [] H' b := fun {σ' H' s'} I' ns b hb => by
    subst hB
    exact ⟨ns b hb, (I'.ok.exf b hb).1, I'.ok.exfs b hb, .inl hb, fun x c e => (I'.ok.exf b hb).2 x c e, fun p hp => absurd (show p ∈ ([] : List (Addr × Obj)) ++ [] from hp) (by simp)⟩
  have loop : codeAny (model X.prog X.w) X.A (.compLoop (.DictComp kx vx (⟨tg, iter, ifs, 0⟩ :: gs) scope pos) 0 (.ref it) (.ref D) ce) (compPost (model X.prog X.w) X.A X.xe use Qf (.ref D) s3.heap.objs.size) s4 := by
    refine loopK (t := tg) (i := iter) (ifs := ifs) rfl hnx (fun n s' => ∃ i H', Inv B [] (wipe σ (own.map (·.2))) H' s' ∧ tn i s'.heap ∧ (∀ b ∈ fp, H' b = none) ∧ W i n H') ?_ n0 ⟨0, H3, Y4, t4, none3, z0⟩
    rintro n u5 ⟨i, G5, Y5, st5, n5, w5⟩
    rcases each i n G5 w5 with ⟨stop, qq⟩ | ⟨go, N, hN, step⟩
    · have td := Tn.done B (by subst hB; rfl) (by subst hB; rfl) (by subst hB; rfl) (by subst hB; exact hc) i [] u5 _ G5 (fun _ _ => False) Y5 (stat Y5 n5) st5 stop
      rw [bA] at td
      refine thn td fun r u6 ⟨hr, Y6⟩ => ?_
      subst hr hB
      have Y7 : Inv X pins σ G5 u6 := Y3.call' (ch := fp) Y6.os Y6.base Y6.hok Y6.bare fun b hb => ⟨(ok3 b hb).1.2.2.2.1, (ok3 b hb).1.2.1, (ok3 b hb).1.2.2.2.2.1, (ok3 b hb).1.2.2.2.2.2⟩
      have noC : G5 s3.heap.objs.size = none := by
        have z : G5 ce.locals = none := Y6.free
        rwa [loc3] at z
      obtain ⟨m, ns, _⟩ := Y6.loc
      have ns : u6.heap.Ns ce.locals m := ns
      rw [loc3] at ns
      exact hRR D s3.heap.objs.size u6 m G5 Y7 qq ns (Y3.fpOk (Nat.le_refl _) noC)
    · have ti := Tn.item B (by subst hB; rfl) (by subst hB; rfl) (by subst hB; rfl) (by subst hB; exact hc) i [] u5 _ G5 (fun _ _ => False) Y5 (stat Y5 n5) st5 go
      rw [bA] at ti
      refine thn ti fun r u6 ⟨u, hr, h6⟩ => ?_
      subst hr
      have key := itemk_ok (X := B) (s := u6) (σ := σ) (t := tg) (ifs := ifs) (vs := own.map (·.2)) (u := u) (it := .ref it) (N := N) (R := fun s' => ∃ m, m < n ∧ ∃ i H', Inv B [] (wipe σ (own.map (·.2))) H' s' ∧ tn i s'.heap ∧ (∀ b ∈ fp, H' b = none) ∧ W i m H')
        (by subst hB; rfl) qg qt qT sub (by
          subst hB
          refine thn h6 fun _ s7 ⟨x, H7, Y7, r7, y7, st7, n7⟩ => ?_
          refine ⟨[] ++ pinsAt fp s7.heap, x, H7, Y7.pinned (stat Y7 n7) (Tn.obj _ _ st7), r7, step x H7 y7, fun s8 H8 Y8 nx => ?_⟩
          obtain ⟨m', hm, w'⟩ := hN H8 nx
          have pin' : ∀ b ∈ fp, ∀ o, s7.heap.get? b = some o → s8.heap.get? b = some o ∧ H8 b = none := fun b hb o e =>
            let z := Y8.pin (b, o) (List.mem_append_right _ (List.mem_append_right _ (mem_pinsAt hb e)))
            ⟨z.1, z.2.1⟩
          refine ⟨m', hm, i + 1, H8, Y8.unpinned, Tn.keep _ _ _ st7 fun b hb o e => (pin' b hb o e).1, fun b hb => ?_, w'⟩
          obtain ⟨o, e, _⟩ := Tn.obj _ _ st7 b hb
          exact (pin' b hb o e).2)
      subst hB
      exact key
  exact codeAny_compStart_dict loop (Tn.self X.A 0 _ _ _ t4 loop)
end
end L2
namespace L2
open PySem PySem.Spec PyProof.Rows
section
variable {X : Cx} {kx vx tg iter i1 : Expr} {ifs : List Expr} {gs : List Comprehension} {scope : Scope} {own : List (Str × Nat)} {ws : List Nat} {pos : Pos} {wi : TI} {g : TG} {tt : TT} {T : Addr → TN}
theorem pe_dcN (hc : X.calm = true) (hN : X.N.Nodup) (hi : PI X tg iter wi) (ok : BlkOk X.N X.env.scope scope own) (hnx : NextIs (⟨tg, iter, ifs, 0⟩ :: gs) 0 (some i1)) (hg : ∀ s H C cl fp, PG (BlkX X scope s H C cl fp) tg g) (ht : ∀ s H C cl fp, PTs (BlkX X scope s H C cl fp) ifs tt)
    (hT : ∀ s H C cl fp D, PNK (BlkX X scope s H C cl fp) (.DictComp kx vx (⟨tg, iter, ifs, 0⟩ :: gs) scope pos) 0 D (some i1) ws (T D)) (sub : ∀ i ∈ ws, i ∈ own.map (·.2)) (hs : ∀ x, foldedSetIterable iter X.env x = pure x := by intro _; rfl) :
    PE X (.DictComp kx vx (⟨tg, iter, ifs, 0⟩ :: gs) scope pos) (tDcN wi g tt T (own.map (·.2))) := by
  constructor
  intro pins s σ H Q I h
  rw [arm_eval_DictComp]
  refine dcN_core hc hN I hi ok hnx hg ht hT sub hs h fun D C s' m H' I' q ns f => ⟨m, ns, fun h'' only => ?_⟩
  exact ⟨.ref D, H', I'.turned (t' := s'.toks) (fun b o hb e => (only.2 b hb).trans e) f.1 f.2.1 f.2.2.2.1 f.2.2.2.2.1 f.2.2.2.2.2, rfl, q⟩
theorem ps_setDcN {i : Nat} {y : Str} {py spos : Pos} (hc : X.calm = true) (hN : X.N.Nodup) (hy : X.N[i]? = some y) (hyl : X.env.scope.names.lookup y = some .local)
    (hsw : swapsWith (.DictComp kx vx (⟨tg, iter, ifs, 0⟩ :: gs) scope pos) (some (.Name y py)) spos.line X.env = pure true) (hi : PI X tg iter wi) (ok : BlkOk X.N X.env.scope scope own) (hnx : NextIs (⟨tg, iter, ifs, 0⟩ :: gs) 0 (some i1))
    (hg : ∀ s H C cl fp, PG (BlkX X scope s H C cl fp) tg g) (ht : ∀ s H C cl fp, PTs (BlkX X scope s H C cl fp) ifs tt)
    (hT : ∀ s H C cl fp D, PNK (BlkX X scope s H C cl fp) (.DictComp kx vx (⟨tg, iter, ifs, 0⟩ :: gs) scope pos) 0 D (some i1) ws (T D)) (sub : ∀ i ∈ ws, i ∈ own.map (·.2)) (hs : ∀ x, foldedSetIterable iter X.env x = pure x := by intro _; rfl) :
    PS X (.Assign [.Name y py] (.DictComp kx vx (⟨tg, iter, ifs, 0⟩ :: gs) scope pos) spos) (tAsg (tDcN wi g tt T (own.map (·.2))) (gName i)) := by
  constructor
  intro pins s σ H D I h
  rw [exec_Assign_Name_used _ _ _ _ hsw]
  refine wpAny_bind (wpAny_standAt (wpAny_bind ?_))
  show wpAny _ X.A (do let _ ← comprehension (.DictComp kx vx (⟨tg, iter, ifs, 0⟩ :: gs) scope pos) scope X.env (firstIterPos (⟨tg, iter, ifs, 0⟩ :: gs) pos) (newDict) false (eval iter X.env) (some (assign (.Name y py) X.env))) _ _ s
  have h : tDcN wi g tt T (own.map (·.2)) σ H (fun x H1 => gName i x σ H1 D.nx) := h
  refine wpAny_bind (thn (dcN_core (Qf := fun _ s' => SP X pins D .next s') hc hN I hi ok hnx hg ht hT sub hs h fun L C s' m H' I' q ns f => ?_) fun _ s' hq => wpAny_pure (wpAny_pure hq))
  show wpAny _ _ (assign (.Name y py) X.env (.ref L)) _ _ _
  refine wpAny_assign_Name (store_ok2 (v := V.ref L) I' hN hy (.inl hyl) rfl (fun s2 Y2 ⟨a, only, ha⟩ => ?_) (.inr hyl))
  have haC : C ≠ a := ha.elim (fun z => by rw [z]; exact f.2.1) fun z e => f.2.2.2.2.1 y a z e.symm
  exact ⟨m, ns.sameBut only haC, fun eh3 only3 => ⟨_, H', Y2.turned (t' := s2.toks) (fun b o hb e => (only3.2 b hb).trans e) f.1 f.2.1 f.2.2.2.1 f.2.2.2.2.1 f.2.2.2.2.2, q⟩⟩
end
end L2
namespace DL
open PySem PySem.Spec L2 Gd
/-- what is reached behind a clause's tests, over data: the items so far, those behind it -/
abbrev DTNK := Sl → Sto → List (Key × D) → (List (Key × D) → Sto → Prop) → Prop
def dnEK (fk fv : DTE) : DTNK := fun δ S acc k => fk δ S fun kd S1 => fv δ S1 fun d S2 => opt (keyOf kd) fun ky => Fit (acc.length + 1) ∧ k (putD acc ky d) S2
def dcnGo (f : DTG) (ft : DTT) (t : DTNK) (vs : List Nat) (δ : Sl) (k : List (Key × D) → Sto → Prop) : List D → List (Key × D) → Sto → Prop
  | [], acc, S => k acc S
  | x :: xs, acc, S => f x (wipeD δ vs) fun δ1 => ft δ1 S fun b S1 => if b = true then t δ1 S1 acc (dcnGo f ft t vs δ k xs) else dcnGo f ft t vs δ k xs acc S1
def dnCK (fi : DTA) (f : DTG) (ft : DTT) (t : DTNK) (vs : List Nat) : DTNK := fun δ S acc k => fi δ S fun ys S' => dcnGo f ft t vs δ k ys acc S'
def dDcN (fi : DTA) (f : DTG) (ft : DTT) (t : DTNK) (vs : List Nat) : DTE := fun δ S Q => fi δ S fun xs S1 => dcnGo f ft t vs δ (fun acc S => Q (dicOf acc) S) xs [] S1
structure DNK (K : PySem.W.Frag) (dx : Dx) (p : Addr) (T : TN) (t : DTNK) : Prop where
  go : ∀ (M : Mm) (H0 : Hp) σ H δ S acc vs k N, H0 p = none → dx.H0 p = none → ¬ dx.hand p → HR K (dx.and p) H S → SR K (dx.and p) σ H δ S → Ext M H0 (Mu (dx.and p) S) H → H p = some (.dK vs) → KD K (Mu (dx.and p) S) H vs acc → t δ S acc k →
    (∀ H' S' acc' vs', HR K (dx.and p) H' S' → Ext M H0 (Mu (dx.and p) S') H' → ExtD (Mu (dx.and p) S) H (Mu (dx.and p) S') H' → H' p = some (.dK vs') → KD K (Mu (dx.and p) S') H' vs' acc' → k acc' S' → N H') → T σ H N
section
variable {X B : Cx} {dx : Dx} {p : Addr} {tg iter kx vx : Expr} {ifs : List Expr} {te : TE} {fa : DTE} {wi : TI} {fi : DTA} {g : TG} {f : DTG} {tt : TT} {ft : DTT} {o vs : List Nat} {T : TN} {t : DTNK}
theorem dnk_end {kx vx : Expr} {tk tv : TE} {fk fv : DTE} (hk : DE B (dx.and p) kx tk fk) (hv : DE B (dx.and p) vx tv fv) : DNK B.K dx p (tnEK tk tv p) (dnEK fk fv) := by
  refine ⟨fun M H0 σ H δ S acc vs k N n h0 hp r s x ep al q fin => ?_⟩
  refine hk.go σ H δ S _ _ r s q fun y H1 kd S1 r1 x1 d1 q1 => ?_
  refine hv.go σ H1 δ S1 _ _ r1 (s.ext x1) q1 fun z H2 c S2 r2 x2 d2 q2 => ?_
  obtain ⟨ky, ek, q3⟩ := opt_run q2
  have ep2 : H2 p = some (.dK vs) := x2.keep p _ (np_of hp r1) (x1.keep p _ (np_of hp r) ep)
  have al2 := (al.ext (x1.trans x2)).put ky d2
  refine ⟨vs, ky, key_of (d1.ext x2) ek, ep2, ?_, fin _ S2 _ _ (r2.and_putO h0 hp (ls_at ep2 trivial) _) (ext_puts ((x.trans x1).trans x2) n) ((x1.trans x2).d.trans extD_put) upd_same (al2.extD extD_put) q3.2⟩
  have := q3.1.line
  rw [al.length]
  omega
/-- the turns of a clause -/
theorem dnk_turns (hg : DG B (dx.and p) tg g f o) (ht : DTs B (dx.and p) ifs tt ft) (inner : DNK B.K dx p T t) (sub : ∀ j ∈ o, j ∈ vs) {M : Mm} {H0 H1 : Hp} {σ : L2.St} {δ : Sl} {S1 : Sto} {k : List (Key × D) → Sto → Prop} {N : Hp → Prop} {xs : List D} {J : It} {acc : List (Key × D)} {vl : List (Key × V)} {G : Hp → Prop} {Y : Nat → Hp → V → Hp → Prop}
    (n : H0 p = none) (h0 : dx.H0 p = none) (hp : ¬ dx.hand p) (wl : Walk J xs.length G Y)
    (all : ∀ H' S', HR B.K (dx.and p) H' S' → Ext M H0 (Mu (dx.and p) S') H' → ExtD (Mu (dx.and p) S1) H1 (Mu (dx.and p) S') H' → G H' ∧ ∀ i v H2, i < xs.length → Y i H' v H2 → Same H' H2 ∧ ∃ d, xs[i]? = some d ∧ Dt B.K (Mu (dx.and p) S') H2 v d)
    (r : HR B.K (dx.and p) H1 S1) (s : SR B.K (dx.and p) σ H1 δ S1) (x : Ext M H0 (Mu (dx.and p) S1) H1) (ep : H1 p = some (.dK vl)) (al : KD B.K (Mu (dx.and p) S1) H1 vl acc) (q : dcnGo f ft t vs δ k xs acc S1)
    (fin : ∀ H' S' acc' vs', HR B.K (dx.and p) H' S' → Ext M H0 (Mu (dx.and p) S') H' → ExtD (Mu (dx.and p) S1) H1 (Mu (dx.and p) S') H' → H' p = some (.dK vs') → KD B.K (Mu (dx.and p) S') H' vs' acc' → k acc' S' → N H') :
    ∃ W : Nat → Nat → Hp → Prop, (∃ m, W 0 m H1) ∧ ∀ j k H, W j k H → (J.stop j H ∧ N H) ∨ (J.go j H ∧ ∃ N1 : Hp → Prop, (∀ H', N1 H' → ∃ k', k' < k ∧ W (j + 1) k' H') ∧ ∀ x H', J.yld j H x H' → g x (L2.wipe σ vs) H' fun σ3 H5 => L2.wipe σ3 vs = L2.wipe σ vs ∧ tt σ3 H5 fun b H6 =>
      if b = true then T σ3 H6 N1 else N1 H6) := by
  let Pw : List D → Hp → Prop := fun ys H' => ∃ S' acc vl, HR B.K (dx.and p) H' S' ∧ Ext M H0 (Mu (dx.and p) S') H' ∧ ExtD (Mu (dx.and p) S1) H1 (Mu (dx.and p) S') H' ∧ H' p = some (.dK vl) ∧ KD B.K (Mu (dx.and p) S') H' vl acc ∧ dcnGo f ft t vs δ k ys acc S'
  refine ⟨fun i m H' => m = xs.length - i ∧ i ≤ xs.length ∧ Pw (xs.drop i) H', ⟨xs.length, by simp, Nat.zero_le _, S1, acc, vl, r, x, ExtD.refl, ep, al, q⟩, ?_⟩
  rintro i m H2 ⟨rfl, hi', S2, acc2, vl2, r2, x2, xd2, ep2, al2, q2⟩
  have gs := all H2 S2 r2 x2 xd2
  by_cases hlt : i < xs.length
  · refine .inr ⟨wl.goes i H2 hlt gs.1, Pw (xs.drop (i + 1)), fun H' w' => ⟨xs.length - (i + 1), by omega, rfl, hlt, w'⟩, fun v H3 y => ?_⟩
    obtain ⟨sm, d, ed, dd⟩ := gs.2 i v H3 hlt (wl.yields i H2 v H3 hlt gs.1 y)
    have e1 : xs.drop i = d :: xs.drop (i + 1) := by
      rw [List.drop_eq_getElem_cons hlt]
      have := List.getElem?_eq_getElem hlt
      rw [this] at ed
      cases ed
      rfl
    rw [e1] at q2
    have xs3 : Ext (Mu (dx.and p) S2) H2 (Mu (dx.and p) S2) H3 := Ext.same sm
    have r3 := r2.same sm
    have s3 : SR B.K (dx.and p) (L2.wipe σ vs) H3 (wipeD δ vs) S2 := (s.extD (xd2.trans xs3.d)).wipe vs
    refine hg.go v d _ H3 _ S2 _ _ r3 s3 dd q2 fun σ4 δ4 s4 l4 o4 q4 => ⟨wipe_wipe l4 sub o4, ?_⟩
    refine ht.go σ4 H3 δ4 S2 _ _ r3 s4 q4 fun b H4 S4 r4 x4 q5 => ?_
    have ep4 : H4 p = some (.dK vl2) := x4.keep p _ (np_of hp r3) (sm p _ ep2)
    have xt4 := (x2.trans xs3).trans x4
    have xd4 := (xd2.trans xs3.d).trans x4.d
    have al4 := al2.ext (xs3.trans x4)
    cases b with
    | false =>
      rw [if_neg Bool.false_ne_true] at q5 ⊢
      exact ⟨S4, acc2, vl2, r4, xt4, xd4, ep4, al4, q5⟩
    | true =>
      rw [if_pos rfl] at q5 ⊢
      exact inner.go M H0 σ4 H4 δ4 S4 acc2 vl2 _ _ n h0 hp r4 (s4.ext x4) xt4 ep4 al4 q5 fun H5 S5 acc5 vl5 r5 x5 xd5 ep5 al5 q6 => ⟨S5, acc5, vl5, r5, x5, xd4.trans xd5, ep5, al5, q6⟩
  · have e : i = xs.length := by omega
    subst e
    rw [List.drop_length] at q2
    exact .inl ⟨wl.stops H2 gs.1, fin H2 S2 acc2 vl2 r2 x2 xd2 ep2 al2 q2⟩
theorem dnk_next (hi : DI B (dx.and p) tg iter wi fi) (hg : DG B (dx.and p) tg g f o) (ht : DTs B (dx.and p) ifs tt ft) (inner : DNK B.K dx p T t) (sub : ∀ j ∈ o, j ∈ vs) : DNK B.K dx p (tnC wi g tt T vs) (dnCK fi f ft t vs) := by
  refine ⟨fun M H0 σ H δ S acc vl k N n h0 hp r s x ep al q fin => ?_⟩
  refine hi.go σ H δ S _ _ r s q fun J H1 xs S1 r1 x1 wk q1 => ?_
  obtain ⟨G, Y, wl, all⟩ := wk
  have ep1 : H1 p = some (.dK vl) := x1.keep p _ (np_of hp r) ep
  refine dnk_turns hg ht inner sub n h0 hp wl (fun H' S' r' _ xd' => all _ H' r'.mu_live xd') r1 (s.ext x1) (x.trans x1) ep1 (al.ext x1) q1 fun H' S' acc' vs' r' x' xd' ep' al' q' => fin H' S' acc' vs' r' x' (x1.d.trans xd') ep' al' q'
/-- a dict comprehension of several clauses, never changed -/
theorem dcN_goX {T : Addr → TN} (hi : DI X dx tg iter wi fi) (hg : ∀ p, DG B (dx.and p) tg g f o) (ht : ∀ p, DTs B (dx.and p) ifs tt ft) (eK : B.K = X.K) (inner : ∀ p, DNK B.K dx p (T p) t) (sub : ∀ j ∈ o, j ∈ vs) :
    ∀ σ H δ S (Q : D → Sto → Prop) (Qx : V → Hp → Prop), HR X.K dx H S → SR X.K dx σ H δ S → dDcN fi f ft t vs δ S Q →
      (∀ p H1 ws acc S', H1 p = some (.dK ws) → (∀ od, HR X.K dx (upd H1 p (.frz od (.dK ws))) S' ∧ Ext (Mu dx S) H (Mu dx S') (upd H1 p (.frz od (.dK ws))) ∧ Dt X.K (Mu dx S') (upd H1 p (.frz od (.dK ws))) (.ref p) (dicOf acc)) → Q (dicOf acc) S' → Qx (.ref p) H1) →
      tDcN wi g tt T vs σ H Qx := by
  intro σ H δ S Q Qx r s q k
  refine hi.go σ H δ S _ _ r s q fun J H0 xs S0 r0 x0 wk q0 => ?_
  intro p n
  obtain ⟨G, Y, wl, all⟩ := wk
  have h0 : dx.H0 p = none := r0.old n
  have hp : ¬ dx.hand p := fun h => r0.live p (r0.hm p h) n
  have s1 : SR X.K (dx.and p) σ (upd H0 p (.dK [])) δ S0 := ⟨(s.ext x0).len, fun j c hc => let ⟨u, a, b⟩ := (s.ext x0).ix j c hc; ⟨u, a, b.ext (ext_and n)⟩⟩
  rw [← eK] at s1
  refine dnk_turns (M := Mu dx S0) (hg p) (ht p) (inner p) sub n h0 hp wl (fun H' S' r' x' _ => by rw [eK] at r' ⊢; exact all _ H' r'.mu_live x'.d) (by rw [eK]; exact r0.andO n _) s1 (ext_and n) upd_same KD.nil q0 fun H' S' acc' ws r' x' xd' ep' al' q' => ?_
  rw [eK] at r' al'
  refine k p H' ws acc' S' ep' (fun od => ?_) q'
  have r2 := (r'.and_putO h0 hp (ls_at ep' trivial) (.frz od (.dK ws))).unand hp
  have x2 : Ext (Mu dx S0) H0 (Mu dx S') (upd H' p (.frz od (.dK ws))) := (ext_put x' n).trans ext_back
  refine ⟨r2, x0.trans x2, .dic ?_ upd_same al'.1 ((al'.2.extD extD_put).ext ext_back)⟩
  rintro (z | z | z)
  · exact r0.live p z n
  · exact hp z
  · exact (r'.own p z).2 (.inr rfl)
end
/-- what is behind a clause's tests, in any block of the dict comprehension -/
structure DNsK (X : Cx) (dx : Dx) (scope : Scope) (pos : Pos) (kx vx : Expr) (gs : List Comprehension) (d : Nat) (nx : Option Expr) (ws : List Nat) (T : Addr → TN) (t : DTNK) : Prop where
  nt : NextIs gs d nx
  pn : X.calm = true → ∀ s H C cl fp D, PNK (Blk X scope s H C cl fp) (.DictComp kx vx gs scope pos) d D nx ws (T D)
  dn : ∀ p, DNK X.K dx p (T p) t
section
variable {X : Cx} {dx : Dx} {pos : Pos} {tg e kx vx iter i1 : Expr} {ifs : List Expr} {tk tv : TE} {fk fv : DTE} {wi : TI} {fi : DTA} {g : TG} {f : DTG} {tt : TT} {ft : DTT} {o ws vs : List Nat} {scope : Scope} {own : List (Str × Nat)} {gs : List Comprehension} {d : Nat} {nx : Option Expr} {T : Addr → TN} {t : DTNK}
theorem dnsk_end (hn : NextIs gs d none) (hk : ∀ (m : Addr → Prop) (s : Shared) (H : Hp) (C : Addr) (cl : List (Str × Addr)) (fp : List Addr), DE (Blk X scope s H C cl fp) { dx with M0 := m } kx tk fk)
    (hv : ∀ (m : Addr → Prop) (s : Shared) (H : Hp) (C : Addr) (cl : List (Str × Addr)) (fp : List Addr), DE (Blk X scope s H C cl fp) { dx with M0 := m } vx tv fv) :
    DNsK X dx scope pos kx vx gs d none [] (fun D => tnEK tk tv D) (dnEK fk fv) :=
  ⟨hn, fun _ s H C cl fp D => pnk_end rfl (hk dx.M0 s H C cl fp).pe (hv dx.M0 s H C cl fp).pe, fun p => dnk_end (B := Blk X scope X.s_0 X.H_0 0 [] []) (hk (dx.and p).M0 X.s_0 X.H_0 0 [] []) (hv (dx.and p).M0 X.s_0 X.H_0 0 [] [])⟩
theorem dnsk_next (hd : gs[d + 1]? = some ⟨tg, iter, ifs, 0⟩)
    (hi : ∀ (m : Addr → Prop) (s : Shared) (H : Hp) (C : Addr) (cl : List (Str × Addr)) (fp : List Addr), DI (Blk X scope s H C cl fp) { dx with M0 := m } tg iter wi fi)
    (hg : ∀ (m : Addr → Prop) (s : Shared) (H : Hp) (C : Addr) (cl : List (Str × Addr)) (fp : List Addr), DG (Blk X scope s H C cl fp) { dx with M0 := m } tg g f o)
    (ht : ∀ (m : Addr → Prop) (s : Shared) (H : Hp) (C : Addr) (cl : List (Str × Addr)) (fp : List Addr), DTs (Blk X scope s H C cl fp) { dx with M0 := m } ifs tt ft)
    (inner : DNsK X dx scope pos kx vx gs (d + 1) nx ws T t) (sub : ∀ j ∈ ws, j ∈ vs) (subo : ∀ j ∈ o, j ∈ vs) (hs : ∀ env x, foldedSetIterable iter env x = pure x := by intro _ _; rfl) :
    DNsK X dx scope pos kx vx gs d (some iter) vs (fun D => tnC wi g tt (T D) vs) (dnCK fi f ft t vs) :=
  ⟨⟨_, _, hd⟩, fun hc s H C cl fp D => pnk_next hc rfl hd inner.nt (hi dx.M0 s H C cl fp).pe (hg dx.M0 s H C cl fp).pe (ht dx.M0 s H C cl fp).pe (inner.pn hc s H C cl fp D) sub hs,
    fun p => dnk_next (B := Blk X scope X.s_0 X.H_0 0 [] []) (hi (dx.and p).M0 X.s_0 X.H_0 0 [] []) (hg (dx.and p).M0 X.s_0 X.H_0 0 [] []) (ht (dx.and p).M0 X.s_0 X.H_0 0 [] []) (inner.dn p) subo⟩
/-- y = {k: v for .. for ..}, never changed -/
theorem ds_setDcN {i : Nat} {y : Str} {py spos : Pos} (hc : X.calm = true) (hN : X.N.Nodup) (hy : X.N[i]? = some y) (hyl : X.env.scope.names.lookup y = some .local)
    (hsw : swapsWith (.DictComp kx vx (⟨tg, iter, ifs, 0⟩ :: gs) scope pos) (some (.Name y py)) spos.line X.env = pure true) (hi : DI X dx tg iter wi fi) (ok : BlkOk X.N X.env.scope scope own) (subo : ∀ j ∈ o, j ∈ own.map (·.2))
    (hg : ∀ (m : Addr → Prop) (s : Shared) (H : Hp) (C : Addr) (cl : List (Str × Addr)) (fp : List Addr), DG (Blk X scope s H C cl fp) { dx with M0 := m } tg g f o)
    (ht : ∀ (m : Addr → Prop) (s : Shared) (H : Hp) (C : Addr) (cl : List (Str × Addr)) (fp : List Addr), DTs (Blk X scope s H C cl fp) { dx with M0 := m } ifs tt ft)
    (inner : DNsK X dx scope pos kx vx (⟨tg, iter, ifs, 0⟩ :: gs) 0 (some i1) ws T t) (sub : ∀ j ∈ ws, j ∈ own.map (·.2)) (hs : ∀ x, foldedSetIterable iter X.env x = pure x := by intro _; rfl) :
    DS X dx (.Assign [.Name y py] (.DictComp kx vx (⟨tg, iter, ifs, 0⟩ :: gs) scope pos) spos) (tLkA (tAsg (tDcN wi g tt T (own.map (·.2))) (gName i))) (dSet i (dDcN fi f ft t (own.map (·.2)))) := by
  refine ⟨ps_lkA (ps_setDcN hc hN hy hyl hsw hi.pe ok inner.nt (fun s H C cl fp => (hg dx.M0 s H C cl fp).pe) (fun s H C cl fp => (ht dx.M0 s H C cl fp).pe) (fun s H C cl fp D => inner.pn hc s H C cl fp D) sub hs), fun σ H δ S DD E r s q k => ?_⟩
  show tDcN wi g tt T (own.map (·.2)) σ H fun x H1 => gName i x σ H1 fun σ' H' => ∃ d u, H' d = some u ∧ Mut (some u) ∧ ∀ od, E.nx σ' (upd H' d (.frz od u))
  refine dcN_goX (B := Blk X scope X.s_0 X.H_0 0 [] []) hi (fun p => hg (dx.and p).M0 X.s_0 X.H_0 0 [] []) (fun p => ht (dx.and p).M0 X.s_0 X.H_0 0 [] []) rfl inner.dn subo σ H δ S (fun d S1 => DD.nx (put δ i d) S1) _ r s q fun p H1 ws acc S' ep h q' => ?_
  refine ⟨p, .dK ws, ep, trivial, fun od => ?_⟩
  obtain ⟨r2, x2, d2⟩ := h od
  have q' : DD.nx (put δ i (dicOf acc)) S' := q'
  rw [put_set] at q'
  exact k.nx _ _ _ S' r2 x2 ((s.ext x2).set i d2) q'
/-- {k: v for .. for ..}, never changed -/
theorem de_dcN (hc : X.calm = true) (hN : X.N.Nodup) (hi : DI X dx tg iter wi fi) (ok : BlkOk X.N X.env.scope scope own) (subo : ∀ j ∈ o, j ∈ own.map (·.2))
    (hg : ∀ (m : Addr → Prop) (s : Shared) (H : Hp) (C : Addr) (cl : List (Str × Addr)) (fp : List Addr), DG (Blk X scope s H C cl fp) { dx with M0 := m } tg g f o)
    (ht : ∀ (m : Addr → Prop) (s : Shared) (H : Hp) (C : Addr) (cl : List (Str × Addr)) (fp : List Addr), DTs (Blk X scope s H C cl fp) { dx with M0 := m } ifs tt ft)
    (inner : DNsK X dx scope pos kx vx (⟨tg, iter, ifs, 0⟩ :: gs) 0 (some i1) ws T t) (sub : ∀ j ∈ ws, j ∈ own.map (·.2)) (hs : ∀ x, foldedSetIterable iter X.env x = pure x := by intro _; rfl) :
    DE X dx (.DictComp kx vx (⟨tg, iter, ifs, 0⟩ :: gs) scope pos) (tLkV (tDcN wi g tt T (own.map (·.2)))) (dDcN fi f ft t (own.map (·.2))) :=
  ⟨pe_lkV (pe_dcN hc hN hi.pe ok inner.nt (fun s H C cl fp => (hg dx.M0 s H C cl fp).pe) (fun s H C cl fp => (ht dx.M0 s H C cl fp).pe) (fun s H C cl fp D => inner.pn hc s H C cl fp D) sub hs), fun σ H δ S Q Qh r s q k => by
    refine dcN_goX (B := Blk X scope X.s_0 X.H_0 0 [] []) hi (fun p => hg (dx.and p).M0 X.s_0 X.H_0 0 [] []) (fun p => ht (dx.and p).M0 X.s_0 X.H_0 0 [] []) rfl inner.dn subo σ H δ S Q _ r s q fun p H1 ws acc S' ep h q' => ⟨p, .dK ws, rfl, ep, trivial, fun od => ?_⟩
    obtain ⟨r2, x2, d2⟩ := h od
    exact k _ _ _ _ r2 x2 d2 q'⟩
end
end DL
/-! Small helpers for any law. -/
namespace DL
open PySem PySem.Spec L2 Gd
section
variable {α : Type} [LT α] [DecidableLT α]
def insA (x : α) : List α → List α
  | [] => [x]
  | y :: ys => if x < y then x :: y :: ys else if y < x then y :: insA x ys else y :: ys
structure Lin (α : Type) [LT α] : Prop where
  irr : ∀ a : α, ¬ a < a
  tr : ∀ a b c : α, a < b → b < c → a < c
  tri : ∀ a b : α, a < b ∨ a = b ∨ b < a
theorem mem_insA (h : Lin α) {x : α} : ∀ {ys : List α} {k : α}, k ∈ insA x ys ↔ k = x ∨ k ∈ ys
  | [], k => by simp [insA]
  | y :: ys, k => by
    unfold insA
    split
    · simp
    · split
      · rw [List.mem_cons, mem_insA h, List.mem_cons]
        constructor
        · rintro (a | a | a)
          · exact .inr (.inl a)
          · exact .inl a
          · exact .inr (.inr a)
        · rintro (a | a | a)
          · exact .inr (.inl a)
          · exact .inl a
          · exact .inr (.inr a)
      · rename_i n1 n2
        have e : x = y := by
          rcases h.tri x y with a | a | a
          · exact absurd a n1
          · exact a
          · exact absurd a n2
        subst e
        simp
theorem asc_insA (h : Lin α) {x : α} : ∀ {ys : List α}, ys.Pairwise (· < ·) → (insA x ys).Pairwise (· < ·)
  | [], _ => by simp [insA]
  | y :: ys, a => by
    have ⟨a1, a2⟩ := List.pairwise_cons.mp a
    unfold insA
    split
    · rename_i l
      refine List.pairwise_cons.mpr ⟨fun z m => ?_, a⟩
      rcases List.mem_cons.mp m with rfl | m
      · exact l
      · exact h.tr _ _ _ l (a1 z m)
    · split
      · rename_i l
        refine List.pairwise_cons.mpr ⟨fun z m => ?_, asc_insA h a2⟩
        rcases (mem_insA h).mp m with rfl | m
        · exact l
        · exact a1 z m
      · exact a
theorem asc_of (h : Lin α) : ∀ xs : List α, ∃ es : List α, es.Pairwise (· < ·) ∧ ∀ k, k ∈ es ↔ k ∈ xs
  | [] => ⟨[], .nil, fun k => Iff.rfl⟩
  | x :: xs => by
    obtain ⟨es, p, m⟩ := asc_of h xs
    exact ⟨insA x es, asc_insA h p, fun k => by rw [mem_insA h, m, List.mem_cons]⟩
theorem asc_ext (h : Lin α) : ∀ {es fs : List α}, es.Pairwise (· < ·) → fs.Pairwise (· < ·) → (∀ k, k ∈ es ↔ k ∈ fs) → es = fs
  | [], [], _, _, _ => rfl
  | [], f :: fs, _, _, m => nomatch (m f).mpr List.mem_cons_self
  | e :: es, [], _, _, m => nomatch (m e).mp List.mem_cons_self
  | e :: es, f :: fs, pe, pf, m => by
    have ⟨e1, e2⟩ := List.pairwise_cons.mp pe
    have ⟨f1, f2⟩ := List.pairwise_cons.mp pf
    have q : e = f := by
      rcases List.mem_cons.mp ((m e).mp List.mem_cons_self) with q | q
      · exact q
      · rcases List.mem_cons.mp ((m f).mpr List.mem_cons_self) with q2 | q2
        · exact q2.symm
        · exact absurd (h.tr _ _ _ (e1 f q2) (f1 e q)) (h.irr _)
    subst q
    rw [asc_ext h e2 f2 fun k => ?_]
    constructor
    · intro a
      rcases List.mem_cons.mp ((m k).mp (List.mem_cons_of_mem _ a)) with q | q
      · subst q; exact absurd (e1 _ a) (h.irr _)
      · exact q
    · intro a
      rcases List.mem_cons.mp ((m k).mpr (List.mem_cons_of_mem _ a)) with q | q
      · subst q; exact absurd (f1 _ a) (h.irr _)
      · exact q
theorem asc_nodup (h : Lin α) {es : List α} (p : es.Pairwise (· < ·)) : es.Nodup := p.imp fun {a b} l e => by subst e; exact h.irr _ l
end
theorem linI : Lin Int := ⟨fun a => Int.lt_irrefl a, fun _ _ _ => Int.lt_trans, fun a b => Int.lt_trichotomy a b⟩
theorem linL : Lin (List Int) := ⟨fun a => List.lt_irrefl a, fun _ _ _ => List.lt_trans, list_tri⟩

abbrev Lot := List Int
abbrev Asc (a : Lot) : Prop := a.Pairwise (· < ·)
def tups (L : List Lot) : List D := L.map tupI
/-- one turn of a comprehension without what changes the store -/
theorem lc_fm {g : DTG} {tt : DTT} {te : DTE} {own : List Nat} {δ : Sl} {S : Sto} {Q : D → Sto → Prop} {α : Type} (enc : α → D) (f : α → Option D) : ∀ (L : List α) (acc : List D), acc.length + L.length ≤ 16777216 →
    (∀ x ∈ L, ∀ (kf : Sto → Prop) (k : D → Sto → Prop), (∀ d, f x = some d → k d S) → (f x = none → kf S) → g (enc x) (wipeD δ own) fun δ1 => tt δ1 S fun b S1 => if b = true then te δ1 S1 k else kf S1) →
    Q (.lst (acc ++ L.filterMap f)) S → lcGo g tt te own δ Q (L.map enc) acc S
  | [], acc, _, _, h => by simpa [lcGo] using h
  | x :: L, acc, hl, hx, h => by
    rw [List.length_cons] at hl
    refine hx x List.mem_cons_self (fun S1 => lcGo g tt te own δ Q (L.map enc) acc S1) (fun d S2 => Fit (acc.length + 1) ∧ lcGo g tt te own δ Q (L.map enc) (acc ++ [d]) S2) (fun d e => ⟨by unfold Fit; omega, ?_⟩) (fun e => ?_)
    · refine lc_fm enc f L _ (by rw [List.length_append, List.length_singleton]; omega) (fun y m => hx y (List.mem_cons_of_mem _ m)) ?_
      rw [List.filterMap_cons_some e] at h
      rwa [List.append_assoc]
    · refine lc_fm enc f L _ (by omega) (fun y m => hx y (List.mem_cons_of_mem _ m)) ?_
      rw [List.filterMap_cons_none e] at h
      exact h
/-- [e for x in xs] -/
theorem lc_map {g : DTG} {te : DTE} {own : List Nat} {δ : Sl} {S : Sto} {Q : D → Sto → Prop} {α : Type} (enc : α → D) (f : α → D) (L : List α) (hl : L.length ≤ 16777216)
    (hx : ∀ x ∈ L, ∀ k : D → Sto → Prop, k (f x) S → g (enc x) (wipeD δ own) fun δ1 => te δ1 S k) (h : Q (.lst (L.map f)) S) : lcGo g dYes te own δ Q (L.map enc) [] S := by
  refine lc_fm enc (fun x => some (f x)) L [] (by rw [List.length_nil]; omega) (fun x m kf k hk _ => hx x m k (hk _ rfl)) ?_
  rw [List.nil_append]
  have e : L.filterMap (fun x => some (f x)) = L.map f := by rw [← List.filterMap_eq_map]; rfl
  rw [e]
  exact h
/-- [e for x in xs if c] -/
theorem lc_filter {g : DTG} {tt : DTT} {te : DTE} {own : List Nat} {δ : Sl} {S : Sto} {Q : D → Sto → Prop} {α : Type} (enc : α → D) (p : α → Bool) (f : α → D) (L : List α) (hl : L.length ≤ 16777216)
    (hx : ∀ x ∈ L, ∀ (kf : Sto → Prop) (k : D → Sto → Prop), (p x = true → k (f x) S) → (p x = false → kf S) → g (enc x) (wipeD δ own) fun δ1 => tt δ1 S fun b S1 => if b = true then te δ1 S1 k else kf S1)
    (h : Q (.lst ((L.filter p).map f)) S) : lcGo g tt te own δ Q (L.map enc) [] S := by
  refine lc_fm enc (fun x => if p x = true then some (f x) else none) L [] (by rw [List.length_nil]; omega) (fun x m kf k hk h0 => hx x m kf k (fun e => hk _ (by rw [if_pos e])) (fun e => h0 (by rw [if_neg (by rw [e]; decide)]))) ?_
  rw [List.nil_append]
  have e : L.filterMap (fun x => if p x = true then some (f x) else none) = (L.filter p).map f := by
    clear hx h hl
    induction L with
    | nil => rfl
    | cons x L ih =>
      by_cases q : p x = true
      · rw [List.filterMap_cons_some (b := f x) (by rw [if_pos q]), ih, List.filter_cons_of_pos q, List.map_cons]
      · rw [List.filterMap_cons_none (by rw [if_neg q]), ih, List.filter_cons_of_neg q]
  rw [e]
  exact h
theorem own_self {p : Addr} {xs : List D} {S : Sto} : isOwn ((p, .l xs) :: S) (.adr p) := by
  show (getS _ p).isSome = true
  rw [getS_self]
  rfl
theorem own_next {p q : Addr} {xs ys : List D} {S : Sto} (h : q ≠ p) : isOwn ((q, .l ys) :: (p, .l xs) :: S) (.adr p) := by
  show (getS _ p).isSome = true
  rw [getS_other h, getS_self]
  rfl
/-! ### sorted tuples of numbers -/
theorem py_ints (ns : List Int) : pyAll (ns.map D.int) = ns.map PyData.int := by
  induction ns with
  | nil => rfl
  | cons n ns ih => show py (.int n) :: pyAll (ns.map D.int) = _; rw [ih]; rfl
theorem py_tup (ns : List Int) : py (tupI ns) = encT ((0 : Nat), ns) := by
  show PyData.tuple (pyAll (ns.map D.int)) = _
  rw [py_ints]
  rfl
theorem dn_tup (n : Nat) (ns : List Int) : dn (n + 2) (tupI ns) = true := by
  show (ns.map D.int).all (dn (n + 1)) = true
  rw [List.all_eq_true]
  intro x m
  obtain ⟨i, _, rfl⟩ := List.mem_map.mp m
  rfl
theorem dn_tups (n : Nat) (L : List Lot) : dn (n + 3) (.tup (tups L)) = true := by
  show (tups L).all (dn (n + 2)) = true
  rw [List.all_eq_true]
  intro x m
  obtain ⟨i, _, rfl⟩ := List.mem_map.mp m
  exact dn_tup n i
theorem sortOk_tups (L : List Lot) : SortOk (tups L) := by
  refine ⟨fun a ma b mb => ?_, .inl fun a ma => ?_, fun a ma => ?_⟩
  · obtain ⟨x, _, rfl⟩ := List.mem_map.mp ma
    obtain ⟨y, _, rfl⟩ := List.mem_map.mp mb
    rw [py_tup, py_tup]
    exact alike_encT _ _
  · obtain ⟨x, _, rfl⟩ := List.mem_map.mp ma
    exact ⟨_, rfl⟩
  · obtain ⟨x, _, rfl⟩ := List.mem_map.mp ma
    exact dn_tup 38 x
theorem sort_tups (X : List Lot) (nd : X.Nodup) : ∃ es : List Lot, sortD (tups X) = tups es ∧ es.Pairwise (· < ·) ∧ ∀ b, b ∈ es ↔ b ∈ X := by
  have e1 : (X.mergeSort fun a b => !decide (b < a)).map tupI = sortD (tups X) := PySem.W.sort_maps tupI fun a _ b _ => by
    show _ = PySem.W.dataLe false id (py (tupI a)) (py (tupI b))
    rw [py_tup, py_tup]
    exact (dataLe_encT ((0 : Nat), a) ((0 : Nat), b)).symm
  have pm := List.mergeSort_perm X fun a b => !decide (b < a)
  refine ⟨_, e1.symm, ?_, fun b => pm.mem_iff⟩
  have tot : PySem.W.TotalLe fun a b : Lot => !decide (b < a) := by
    have := PySem.W.sortLe_total (PyProof.Rows.listOrd PyProof.Rows.itemOrd) false fun b : Lot => PySem.W.keyToks (encT ((0 : Nat), b))
    have e : (fun a b : Lot => !decide (b < a)) = fun a b : Lot => PySem.W.dataLe false encT ((0 : Nat), a) ((0 : Nat), b) := by
      funext a b
      exact (dataLe_encT ((0 : Nat), a) ((0 : Nat), b)).symm
    rw [e]
    exact this
  have sp := PySem.W.sort_pairwise tot X
  refine ((pm.nodup_iff.mpr nd).and sp).imp ?_
  rintro q r ⟨ne, hle⟩
  have nlt : ¬ r < q := by simpa using hle
  rcases list_tri q r with h | h | h
  · exact h
  · exact absurd h ne
  · exact absurd h nlt
theorem seq_tup {S : Sto} (ds : List D) : seqOf S (.tup ds) = some ds := rfl

/-! ### the table of bits -/
theorem valD_map {α : Type} (key : α → Key) (val : α → D) : ∀ (L : List α), (∀ a ∈ L, ∀ b ∈ L, key a = key b → val a = val b) → ∀ a ∈ L, valD (L.map fun x => (key x, val x)) (key a) = some (val a)
  | [], _, a, m => nomatch m
  | x :: L, inj, a, m => by
    rw [List.map_cons]
    by_cases e : key x = key a
    · rw [valD_pos e]
      rw [inj x List.mem_cons_self a m e]
    · rw [valD_neg e]
      refine valD_map key val L (fun a ma b mb => inj a (List.mem_cons_of_mem _ ma) b (List.mem_cons_of_mem _ mb)) a ?_
      rcases List.mem_cons.mp m with rfl | m
      · exact absurd rfl e
      · exact m
theorem putD_new {kvs : List (Key × D)} {k : Key} {d : D} (h : ∀ kv ∈ kvs, kv.1 ≠ k) : putD kvs k d = kvs ++ [(k, d)] := by
  unfold putD
  rw [if_neg]
  intro q
  obtain ⟨kv, m, e⟩ := List.any_eq_true.mp q
  exact h kv m (of_decide_eq_true e)
/-- a table made by one clause, the store as it is -/
theorem dc_map {g : DTG} {tk tv : DTE} {own : List Nat} {δ : Sl} {S : Sto} {Q : D → Sto → Prop} {α : Type} (enc : α → D) (key : α → D) (kk : α → Key) (val : α → D) : ∀ (L acc : List α), acc.length + L.length ≤ 16777216 → ((acc ++ L).map kk).Nodup → (∀ x ∈ L, keyOf (key x) = some (kk x)) →
    (∀ x ∈ L, ∀ k : D → D → Sto → Prop, k (key x) (val x) S → g (enc x) (wipeD δ own) fun δ1 => tk δ1 S fun kd S2 => tv δ1 S2 fun d S3 => k kd d S3) →
    Q (dicOf ((acc ++ L).map fun x => (kk x, val x))) S → dcGo g dYes tk tv own δ Q (L.map enc) (acc.map fun x => (kk x, val x)) S
  | [], acc, _, _, _, _, h => by simpa [dcGo] using h
  | x :: L, acc, hl, nd, hk, hx, h => by
    rw [List.length_cons] at hl
    refine hx x List.mem_cons_self (fun kd d S3 => opt (keyOf kd) fun k => Fit ((acc.map fun x => (kk x, val x)).length + 1) ∧ dcGo g dYes tk tv own δ Q (L.map enc) (putD (acc.map fun x => (kk x, val x)) k d) S3) ?_
    refine opt_of (hk x List.mem_cons_self) ⟨by rw [List.length_map]; unfold Fit; omega, ?_⟩
    rw [putD_new, show (acc.map fun x => (kk x, val x)) ++ [(kk x, val x)] = (acc ++ [x]).map fun x => (kk x, val x) from by rw [List.map_append]; rfl]
    · have e : acc ++ x :: L = acc ++ [x] ++ L := by simp
      rw [e] at nd h
      exact dc_map enc key kk val L (acc ++ [x]) (by rw [List.length_append, List.length_singleton]; omega) nd (fun y m => hk y (List.mem_cons_of_mem _ m)) (fun y m => hx y (List.mem_cons_of_mem _ m)) h
    · intro kv m e
      obtain ⟨y, my, rfl⟩ := List.mem_map.mp m
      rw [List.map_append, List.map_cons] at nd
      exact (List.pairwise_append.mp nd).2.2 (kk y) (List.mem_map.mpr ⟨y, my, rfl⟩) (kk x) List.mem_cons_self e
/-- the flat list of lots -/
theorem lc2_in {g : DTG} {te : DTE} {own : List Nat} {δ : Sl} {S : Sto} {k : List D → Sto → Prop} (hx : ∀ (x : Int) (k : D → Sto → Prop), k (.int x) S → g (.int x) (wipeD δ own) fun δ1 => te δ1 S k) : ∀ (l : Lot) (acc : List D), acc.length + l.length ≤ 16777216 →
    k (acc ++ l.map D.int) S → lc2In g dYes te own δ k (l.map D.int) acc S
  | [], acc, _, h => by simpa [lc2In] using h
  | x :: l, acc, hl, h => by
    rw [List.length_cons] at hl
    refine hx x (fun d S2 => Fit (acc.length + 1) ∧ lc2In g dYes te own δ k (l.map D.int) (acc ++ [d]) S2) ⟨by unfold Fit; omega, ?_⟩
    refine lc2_in hx l _ (by rw [List.length_append, List.length_singleton]; omega) ?_
    rw [List.append_assoc]
    exact h
theorem asB_all {α : Type} (L : List α) (f : α → Bool) : asB (L.map fun x => D.bl (f x)) = some (L.map f) := by
  have := asB_map (L.map f)
  rwa [List.map_map] at this

theorem deq_no {d : D} (h : dn 40 d = true) : (!deq d d) = false := by rw [deq_refl h]; rfl
theorem ft (n : Nat) (h : n ≤ 1000000 := by decide) : Fit n := by unfold Fit; omega
/-- the turns of one clause of many: what each item adds -/
theorem lcn_flat {f : DTG} {ft : DTT} {t : DTN} {vs : List Nat} {δ : Sl} {S : Sto} {k : List D → Sto → Prop} {α : Type} (enc : α → D) (g : α → List D) : ∀ (L : List α) (acc : List D), acc.length + (L.flatMap g).length ≤ 16777216 →
    (∀ x ∈ L, ∀ (acc : List D) (k : List D → Sto → Prop), acc.length + (g x).length ≤ 16777216 → k (acc ++ g x) S → f (enc x) (wipeD δ vs) fun δ1 => ft δ1 S fun b S1 => if b = true then t δ1 S1 acc k else k acc S1) →
    k (acc ++ L.flatMap g) S → lcnGo f ft t vs δ k (L.map enc) acc S
  | [], acc, _, _, h => by simpa [lcnGo] using h
  | x :: L, acc, hl, hx, h => by
    rw [List.flatMap_cons, List.length_append] at hl
    refine hx x List.mem_cons_self acc (fun acc S1 => lcnGo f ft t vs δ k (L.map enc) acc S1) (by omega) ?_
    rw [List.flatMap_cons, ← List.append_assoc] at h
    exact lcn_flat enc g L _ (by rw [List.length_append]; omega) (fun y m => hx y (List.mem_cons_of_mem _ m)) h
theorem setS_two {p q : Addr} (h : q ≠ p) {a b c : Cel} : setS [(q, a), (p, b)] p c = [(q, a), (p, c)] := by
  unfold setS
  simp [h]
theorem setS_fst {p q : Addr} (h : q ≠ p) {a b c : Cel} : setS [(q, a), (p, b)] q c = [(q, c), (p, b)] := by
  unfold setS
  simp [Ne.symm h]
theorem delS_fst {p q : Addr} (h : q ≠ p) {a b : Cel} : delS [(q, a), (p, b)] q = [(p, b)] := by
  unfold delS
  simp [Ne.symm h]
theorem delS_snd {p q : Addr} (h : q ≠ p) {a b : Cel} : delS [(q, a), (p, b)] p = [(q, a)] := by
  unfold delS
  simp [h]
theorem cut_to {α : Type} (xs : List α) (p : Nat) : cutD xs none (some (p : Int)) = xs.take p := by
  unfold cutD
  rw [HT.sIx_nat, show HT.sIx xs.length 0 none = 0 from rfl, List.drop_zero, Nat.sub_zero]
  by_cases h : p ≤ xs.length
  · rw [Nat.min_eq_left h]
  · rw [Nat.min_eq_right (by omega), List.take_of_length_le (Nat.le_refl _), List.take_of_length_le (by omega)]
theorem cut_off {α : Type} (xs : List α) (p : Nat) : cutD xs (some (p : Int)) none = xs.drop p := by
  unfold cutD
  rw [HT.sIx_nat, show HT.sIx xs.length xs.length none = xs.length from rfl]
  by_cases h : p ≤ xs.length
  · rw [Nat.min_eq_left h, List.take_of_length_le (by rw [List.length_drop]; omega)]
  · rw [Nat.min_eq_right (by omega), List.drop_eq_nil_of_le (Nat.le_refl _), List.drop_eq_nil_of_le (by omega), List.take_nil]
theorem gt_var {δ : Sl} {i : Nat} {d : D} {S : Sto} {Q : D → Sto → Prop} (e : gt δ i = some d) (h : Q d S) : dVar i δ S Q := by
  unfold dVar
  rw [e]
  exact h
/-- a slice of a tuple up to a number, from a number on -/
theorem sl_to {j k : Nat} {δ : Sl} {S : Sto} {Q : D → Sto → Prop} {xs : List D} {n : Nat} (h1 : gt δ j = some (.tup xs)) (h2 : gt δ k = some (.int (n : Int))) (h : Q (.tup (xs.take n)) S) : dSl (dVar j) dNoPart (dPart (dVar k)) δ S Q := by
  refine gt_var h1 (gt_var h2 ?_)
  show Q (.tup (cutD xs none (some (n : Int)))) S
  rw [cut_to]
  exact h
theorem sl_off {j k : Nat} {δ : Sl} {S : Sto} {Q : D → Sto → Prop} {xs : List D} {n : Nat} (h1 : gt δ j = some (.tup xs)) (h2 : gt δ k = some (.int (n : Int))) (h : Q (.tup (xs.drop n)) S) : dSl (dVar j) (dPart (dVar k)) dNoPart δ S Q := by
  refine gt_var h1 (gt_var h2 ?_)
  show Q (.tup (cutD xs (some (n : Int)) none)) S
  rw [cut_off]
  exact h
/-- the pairs of enumerate, from a number on -/
def enFrom : Nat → List D → List D
  | _, [] => []
  | n, x :: xs => .tup [.int (n : Int), x] :: enFrom (n + 1) xs
theorem enFrom_is : ∀ (xs : List D) (n : Nat), enFrom n xs = (List.range xs.length).map fun i => D.tup [.int ((n + i : Nat) : Int), xs.getD i .non]
  | [], _ => rfl
  | x :: xs, n => by
    rw [List.length_cons, List.range_succ_eq_map, List.map_cons, List.map_map]
    show _ :: enFrom (n + 1) xs = _
    rw [enFrom_is xs]
    refine congrArg (List.cons _) (List.map_congr_left fun i _ => ?_)
    show D.tup [.int ((n + 1 + i : Nat) : Int), xs.getD i .non] = D.tup [.int ((n + (i + 1) : Nat) : Int), (x :: xs).getD (i + 1) .non]
    rw [show n + 1 + i = n + (i + 1) by omega]
    rfl
theorem enD_from (xs : List D) : enD xs = enFrom 0 xs := by
  rw [enFrom_is]
  unfold enD
  refine List.map_congr_left fun i _ => ?_
  rw [Nat.zero_add]
theorem atI_nat {α : Type} (xs : List α) (i : Nat) : atI xs (i : Int) = xs[i]? := by
  unfold atI ixN
  rw [if_pos (by omega)]
  by_cases h : i < xs.length
  · rw [if_pos (by omega)]
    simp
  · rw [if_neg (by omega), List.getElem?_eq_none (by omega)]
    rfl
theorem fld_one {f : Str} {d : D} : fldAt [f] [d] f = some d := by
  unfold fldAt
  simp
/-! ### sorted numbers -/
theorem sortOk_ints (ns : List Int) : SortOk (ns.map D.int) := by
  refine ⟨fun a ma b mb => ?_, .inr fun a ma => ?_, fun a ma => ?_⟩
  · obtain ⟨x, _, rfl⟩ := List.mem_map.mp ma
    obtain ⟨y, _, rfl⟩ := List.mem_map.mp mb
    rfl
  · obtain ⟨x, _, rfl⟩ := List.mem_map.mp ma
    exact ⟨(fun z => nomatch z), (fun _ z => nomatch z)⟩
  · obtain ⟨x, _, rfl⟩ := List.mem_map.mp ma
    rfl
theorem dataLe_int (a b : Int) : PySem.W.dataLe false py (.int a) (.int b) = decide (a ≤ b) := by
  show (!PySem.W.dataLt (.int b) (.int a)) = _
  rw [PySem.W.dataLt_int, ← decide_not]
  exact decide_eq_decide.mpr Int.not_lt
/-- sorted numbers: ascending, the same ones -/
theorem sort_ints (ns : List Int) : ∃ es : List Int, sortD (ns.map D.int) = es.map D.int ∧ es.Pairwise (· ≤ ·) ∧ es.Perm ns := by
  have e1 : (ns.mergeSort fun a b => decide (a ≤ b)).map D.int = sortD (ns.map D.int) := PySem.W.sort_maps D.int fun a _ b _ => (dataLe_int a b).symm
  refine ⟨_, e1.symm, ?_, List.mergeSort_perm _ _⟩
  have := List.pairwise_mergeSort (le := fun a b : Int => decide (a ≤ b)) (fun a b c h1 h2 => by simp only [decide_eq_true_eq] at *; omega) (fun a b => by simp only [Bool.or_eq_true, decide_eq_true_eq]; omega) ns
  exact this.imp fun h => of_decide_eq_true h
/-- different ones: strictly ascending -/
theorem sort_ints_nd (ns : List Int) (nd : ns.Nodup) : ∃ es : List Int, sortD (ns.map D.int) = es.map D.int ∧ Asc es ∧ es.Perm ns := by
  obtain ⟨es, e, p, q⟩ := sort_ints ns
  refine ⟨es, e, ?_, q⟩
  refine ((q.nodup_iff.mpr nd).and p).imp ?_
  rintro a b ⟨h1, h2⟩
  omega
theorem sorted_ints {P : List D → Prop} {ns : List Int} (h : ∀ es : List Int, es.Pairwise (· ≤ ·) → es.Perm ns → P (es.map D.int)) : SortOk (ns.map D.int) ∧ P (sortD (ns.map D.int)) := by
  obtain ⟨es, e1, e2, e3⟩ := sort_ints ns
  rw [e1]
  exact ⟨sortOk_ints ns, h es e2 e3⟩
theorem fSorted_ints {S : Sto} {Q : D → Sto → Prop} {d : D} {ns : List Int} (e : seqOf S d = some (ns.map D.int)) (h : ∀ es : List Int, es.Pairwise (· ≤ ·) → es.Perm ns → Q (.lst (es.map D.int)) S) : fSorted d S Q := by
  obtain ⟨es, e1, e2, e3⟩ := sort_ints ns
  refine opt_of e ⟨sortOk_ints ns, ?_⟩
  rw [e1]
  exact h es e2 e3
theorem tups_rsz {n : Nat} : ∀ (es : List Lot), (∀ l ∈ es, l.length ≤ n) → rszAll (tups es) ≤ es.length * (1923 * n + 6)
  | [], _ => Nat.zero_le _
  | l :: es, h => by
    have ih := tups_rsz es fun x m => h x (List.mem_cons_of_mem _ m)
    have hl := h l List.mem_cons_self
    have e : ∀ l : Lot, rszAll (l.map D.int) = 1923 * l.length := by
      intro l
      induction l with
      | nil => rfl
      | cons x l ih => show 1921 + 2 + rszAll (l.map D.int) = _; rw [ih, List.length_cons]; omega
    have : 1923 * l.length ≤ 1923 * n := Nat.mul_le_mul_left _ hl
    show (rszAll (l.map D.int) + 4) + 2 + rszAll (tups es) ≤ _
    have e3 : (es.length + 1) * (1923 * n + 6) = es.length * (1923 * n + 6) + (1923 * n + 6) := Nat.succ_mul _ _
    rw [e, List.length_cons, e3]
    omega
theorem tups_ish : ∀ (es : List Lot), (∀ l ∈ es, ∀ x ∈ l, x.natAbs < 2 ^ 60) → ishAll (tups es) = true
  | [], _ => rfl
  | l :: es, h => by
    have ih := tups_ish es fun x m => h x (List.mem_cons_of_mem _ m)
    have hl := h l List.mem_cons_self
    have e : ∀ l : Lot, (∀ x ∈ l, x.natAbs < 2 ^ 60) → ishAll (l.map D.int) = true := by
      intro l hl
      induction l with
      | nil => rfl
      | cons x l ih2 =>
        show (decide (x.natAbs < 2 ^ 1900) && ishAll (l.map D.int)) = true
        rw [ih2 fun y m => hl y (List.mem_cons_of_mem _ m), Bool.and_true]
        exact decide_eq_true (Nat.lt_trans (hl x List.mem_cons_self) (Nat.pow_lt_pow_right (by decide) (by decide)))
    show (ishAll (l.map D.int) && ishAll (tups es)) = true
    rw [e l hl, ih]
    rfl
theorem tups_Rp {es : List Lot} {n : Nat} (few : es.length * (1923 * n + 6) ≤ 16000000) (short : ∀ l ∈ es, l.length ≤ n) (small : ∀ l ∈ es, ∀ x ∈ l, x.natAbs < 2 ^ 60) : Rp (.tup (tups es)) := by
  refine ⟨dn_tups 37 es, tups_ish es small, ?_⟩
  have := tups_rsz es short
  show rszAll (tups es) + 4 ≤ 16777216
  omega
theorem bl_Rp (b : Bool) : Rp (.bl b) := by
  refine ⟨rfl, rfl, ?_⟩
  show 5 ≤ 16777216
  decide
end DL
namespace DL
open PySem PySem.Spec L2 Gd
namespace K36
abbrev prog : Program := PySem.Challenge.pw_allworlds_k36_whole_steps_of_trees
def top (i : Nat) : Stmt := prog.main.body.getD i (.Pass ⟨0, 0, 0, 0⟩)
abbrev s_children_in : Stmt := top 1
abbrev s_below_lot : Stmt := top 2
abbrev s_way_up : Stmt := top 3
abbrev s_cluster_way : Stmt := top 4
abbrev s_neighbours_in : Stmt := top 6
abbrev s_next_to : Stmt := top 7
abbrev s_steps_to : Stmt := top 8
abbrev s_steps_from : Stmt := top 9
abbrev s_steps_into : Stmt := top 10
abbrev s_side_of : Stmt := top 11
abbrev s_steps_joining : Stmt := top 12
abbrev s__law_box : Stmt := top 14
abbrev s__law_take : Stmt := top 15
abbrev s__law_pick : Stmt := top 16
abbrev s__law_chain : Stmt := top 17
abbrev s__law_way : Stmt := top 18
abbrev s__law_tree : Stmt := top 19
abbrev s__law_steps : Stmt := top 20
abbrev s__law_ends_right : Stmt := top 21
abbrev s__law_step_right : Stmt := top 22
abbrev s_law : Stmt := top 23
structure Txt (K : PySem.W.Frag) (mg : Str → Option Value) where
  children_in : CalD K mg "children_in" s_children_in ["tree", "number"]
  below_lot : CalD K mg "below_lot" s_below_lot ["tree", "number"]
  way_up : CalD K mg "way_up" s_way_up ["tree", "number"]
  cluster_way : CalD K mg "cluster_way" s_cluster_way ["tree", "one", "other"]
  neighbours_in : CalD K mg "neighbours_in" s_neighbours_in ["tree", "number"]
  next_to : CalD K mg "next_to" s_next_to ["tree", "goal"]
  steps_to : CalD K mg "steps_to" s_steps_to ["tree", "goal"]
  steps_from : CalD K mg "steps_from" s_steps_from ["tree", "start"]
  steps_into : CalD K mg "steps_into" s_steps_into ["tree", "step"]
  side_of : CalD K mg "side_of" s_side_of ["tree", "step"]
  steps_joining : CalD K mg "steps_joining" s_steps_joining ["tree", "lot", "goal"]
  _law_box : CalD K mg "_law_box" s__law_box ["_law_script", "_law_k"]
  _law_take : CalD K mg "_law_take" s__law_take ["_law_box_here", "_law_many"]
  _law_pick : CalD K mg "_law_pick" s__law_pick ["_law_box_here", "_law_some"]
  _law_chain : CalD K mg "_law_chain" s__law_chain ["_law_above", "_law_number"]
  _law_way : CalD K mg "_law_way" s__law_way ["_law_above", "_law_one", "_law_other"]
  _law_tree : CalD K mg "_law_tree" s__law_tree ["_law_box_here"]
  _law_steps : CalD K mg "_law_steps" s__law_steps ["_law_above", "_law_goal"]
  _law_ends_right : CalD K mg "_law_ends_right" s__law_ends_right ["_law_box_here", "_law_tree_here", "_law_goal"]
  _law_step_right : CalD K mg "_law_step_right" s__law_step_right ["_law_tree_here", "_law_step", "_law_inward", "_law_outward"]
  law : CalD K mg "law" s_law ["_law_script"]
  b_abs : mg "abs" = none
  b_any : mg "any" = none
  b_enumerate : mg "enumerate" = none
  b_int : mg "int" = none
  b_len : mg "len" = none
  b_range : mg "range" = none
  b_repr : mg "repr" = none
  b_sorted : mg "sorted" = none
  b_tuple : mg "tuple" = none
def kb_steps_to_0_goal_tree_g {α : Type} (us ws : List α) : List α := match us, ws with
  | [], [w0, w1] => [w1, w0]
  | _, _ => []
theorem kb_steps_to_0_goal_tree {K : PySem.W.Frag} {f : Addr} {fd : FuncData} (F : Fun K "steps_to" "steps_to" s_steps_to f fd) : KBinds K fd ["tree", "goal"] ["goal", "tree"] kb_steps_to_0_goal_tree_g kb_steps_to_0_goal_tree_g := by
  obtain ⟨oc, od, kV, doc, pm, an, cdv, ct, osl, rfl, lk, hcd⟩ := F.ex
  constructor
  · intro s us ws _ hl
    unfold kb_steps_to_0_goal_tree_g at hl ⊢
    split at hl
    · exact .of_eq rfl
    · cases hl
  · intro vs us zs ws r1 r2
    cases r1 with
    | cons _ _ => exact .nil
    | nil =>
      cases r2 with
      | nil => exact .nil
      | cons cw0 r2 =>
        cases r2 with
        | nil => exact .nil
        | cons cw1 r2 =>
          cases r2 with
          | cons _ _ => exact .nil
          | nil =>
            exact (.cons cw1 (.cons cw0 .nil))
theorem kb_steps_to_0_goal_tree_ord : KOrd kb_steps_to_0_goal_tree_g kb_steps_to_0_goal_tree_g := by
  constructor
  · intro K M H vs ws ds es r1 r2
    cases r1 with
    | cons _ _ => exact .nil
    | nil =>
      cases r2 with
      | nil => exact .nil
      | cons cw0 r2 =>
        cases r2 with
        | nil => exact .nil
        | cons cw1 r2 =>
          cases r2 with
          | cons _ _ => exact .nil
          | nil =>
            exact (.cons cw1 (.cons cw0 .nil))
def kb_steps_from_0_start_tree_g {α : Type} (us ws : List α) : List α := match us, ws with
  | [], [w0, w1] => [w1, w0]
  | _, _ => []
theorem kb_steps_from_0_start_tree {K : PySem.W.Frag} {f : Addr} {fd : FuncData} (F : Fun K "steps_from" "steps_from" s_steps_from f fd) : KBinds K fd ["tree", "start"] ["start", "tree"] kb_steps_from_0_start_tree_g kb_steps_from_0_start_tree_g := by
  obtain ⟨oc, od, kV, doc, pm, an, cdv, ct, osl, rfl, lk, hcd⟩ := F.ex
  constructor
  · intro s us ws _ hl
    unfold kb_steps_from_0_start_tree_g at hl ⊢
    split at hl
    · exact .of_eq rfl
    · cases hl
  · intro vs us zs ws r1 r2
    cases r1 with
    | cons _ _ => exact .nil
    | nil =>
      cases r2 with
      | nil => exact .nil
      | cons cw0 r2 =>
        cases r2 with
        | nil => exact .nil
        | cons cw1 r2 =>
          cases r2 with
          | cons _ _ => exact .nil
          | nil =>
            exact (.cons cw1 (.cons cw0 .nil))
theorem kb_steps_from_0_start_tree_ord : KOrd kb_steps_from_0_start_tree_g kb_steps_from_0_start_tree_g := by
  constructor
  · intro K M H vs ws ds es r1 r2
    cases r1 with
    | cons _ _ => exact .nil
    | nil =>
      cases r2 with
      | nil => exact .nil
      | cons cw0 r2 =>
        cases r2 with
        | nil => exact .nil
        | cons cw1 r2 =>
          cases r2 with
          | cons _ _ => exact .nil
          | nil =>
            exact (.cons cw1 (.cons cw0 .nil))
def kb_neighbours_in_0_number_tree_g {α : Type} (us ws : List α) : List α := match us, ws with
  | [], [w0, w1] => [w1, w0]
  | _, _ => []
theorem kb_neighbours_in_0_number_tree {K : PySem.W.Frag} {f : Addr} {fd : FuncData} (F : Fun K "neighbours_in" "neighbours_in" s_neighbours_in f fd) : KBinds K fd ["tree", "number"] ["number", "tree"] kb_neighbours_in_0_number_tree_g kb_neighbours_in_0_number_tree_g := by
  obtain ⟨oc, od, kV, doc, pm, an, cdv, ct, osl, rfl, lk, hcd⟩ := F.ex
  constructor
  · intro s us ws _ hl
    unfold kb_neighbours_in_0_number_tree_g at hl ⊢
    split at hl
    · exact .of_eq rfl
    · cases hl
  · intro vs us zs ws r1 r2
    cases r1 with
    | cons _ _ => exact .nil
    | nil =>
      cases r2 with
      | nil => exact .nil
      | cons cw0 r2 =>
        cases r2 with
        | nil => exact .nil
        | cons cw1 r2 =>
          cases r2 with
          | cons _ _ => exact .nil
          | nil =>
            exact (.cons cw1 (.cons cw0 .nil))
theorem kb_neighbours_in_0_number_tree_ord : KOrd kb_neighbours_in_0_number_tree_g kb_neighbours_in_0_number_tree_g := by
  constructor
  · intro K M H vs ws ds es r1 r2
    cases r1 with
    | cons _ _ => exact .nil
    | nil =>
      cases r2 with
      | nil => exact .nil
      | cons cw0 r2 =>
        cases r2 with
        | nil => exact .nil
        | cons cw1 r2 =>
          cases r2 with
          | cons _ _ => exact .nil
          | nil =>
            exact (.cons cw1 (.cons cw0 .nil))
def kb_steps_joining_0_goal_lot_tree_g {α : Type} (us ws : List α) : List α := match us, ws with
  | [], [w0, w1, w2] => [w2, w1, w0]
  | _, _ => []
theorem kb_steps_joining_0_goal_lot_tree {K : PySem.W.Frag} {f : Addr} {fd : FuncData} (F : Fun K "steps_joining" "steps_joining" s_steps_joining f fd) : KBinds K fd ["tree", "lot", "goal"] ["goal", "lot", "tree"] kb_steps_joining_0_goal_lot_tree_g kb_steps_joining_0_goal_lot_tree_g := by
  obtain ⟨oc, od, kV, doc, pm, an, cdv, ct, osl, rfl, lk, hcd⟩ := F.ex
  constructor
  · intro s us ws _ hl
    unfold kb_steps_joining_0_goal_lot_tree_g at hl ⊢
    split at hl
    · exact .of_eq rfl
    · cases hl
  · intro vs us zs ws r1 r2
    cases r1 with
    | cons _ _ => exact .nil
    | nil =>
      cases r2 with
      | nil => exact .nil
      | cons cw0 r2 =>
        cases r2 with
        | nil => exact .nil
        | cons cw1 r2 =>
          cases r2 with
          | nil => exact .nil
          | cons cw2 r2 =>
            cases r2 with
            | cons _ _ => exact .nil
            | nil =>
              exact (.cons cw2 (.cons cw1 (.cons cw0 .nil)))
theorem kb_steps_joining_0_goal_lot_tree_ord : KOrd kb_steps_joining_0_goal_lot_tree_g kb_steps_joining_0_goal_lot_tree_g := by
  constructor
  · intro K M H vs ws ds es r1 r2
    cases r1 with
    | cons _ _ => exact .nil
    | nil =>
      cases r2 with
      | nil => exact .nil
      | cons cw0 r2 =>
        cases r2 with
        | nil => exact .nil
        | cons cw1 r2 =>
          cases r2 with
          | nil => exact .nil
          | cons cw2 r2 =>
            cases r2 with
            | cons _ _ => exact .nil
            | nil =>
              exact (.cons cw2 (.cons cw1 (.cons cw0 .nil)))
def kb_side_of_0_step_tree_g {α : Type} (us ws : List α) : List α := match us, ws with
  | [], [w0, w1] => [w1, w0]
  | _, _ => []
theorem kb_side_of_0_step_tree {K : PySem.W.Frag} {f : Addr} {fd : FuncData} (F : Fun K "side_of" "side_of" s_side_of f fd) : KBinds K fd ["tree", "step"] ["step", "tree"] kb_side_of_0_step_tree_g kb_side_of_0_step_tree_g := by
  obtain ⟨oc, od, kV, doc, pm, an, cdv, ct, osl, rfl, lk, hcd⟩ := F.ex
  constructor
  · intro s us ws _ hl
    unfold kb_side_of_0_step_tree_g at hl ⊢
    split at hl
    · exact .of_eq rfl
    · cases hl
  · intro vs us zs ws r1 r2
    cases r1 with
    | cons _ _ => exact .nil
    | nil =>
      cases r2 with
      | nil => exact .nil
      | cons cw0 r2 =>
        cases r2 with
        | nil => exact .nil
        | cons cw1 r2 =>
          cases r2 with
          | cons _ _ => exact .nil
          | nil =>
            exact (.cons cw1 (.cons cw0 .nil))
theorem kb_side_of_0_step_tree_ord : KOrd kb_side_of_0_step_tree_g kb_side_of_0_step_tree_g := by
  constructor
  · intro K M H vs ws ds es r1 r2
    cases r1 with
    | cons _ _ => exact .nil
    | nil =>
      cases r2 with
      | nil => exact .nil
      | cons cw0 r2 =>
        cases r2 with
        | nil => exact .nil
        | cons cw1 r2 =>
          cases r2 with
          | cons _ _ => exact .nil
          | nil =>
            exact (.cons cw1 (.cons cw0 .nil))
def kb_steps_into_0_step_tree_g {α : Type} (us ws : List α) : List α := match us, ws with
  | [], [w0, w1] => [w1, w0]
  | _, _ => []
theorem kb_steps_into_0_step_tree {K : PySem.W.Frag} {f : Addr} {fd : FuncData} (F : Fun K "steps_into" "steps_into" s_steps_into f fd) : KBinds K fd ["tree", "step"] ["step", "tree"] kb_steps_into_0_step_tree_g kb_steps_into_0_step_tree_g := by
  obtain ⟨oc, od, kV, doc, pm, an, cdv, ct, osl, rfl, lk, hcd⟩ := F.ex
  constructor
  · intro s us ws _ hl
    unfold kb_steps_into_0_step_tree_g at hl ⊢
    split at hl
    · exact .of_eq rfl
    · cases hl
  · intro vs us zs ws r1 r2
    cases r1 with
    | cons _ _ => exact .nil
    | nil =>
      cases r2 with
      | nil => exact .nil
      | cons cw0 r2 =>
        cases r2 with
        | nil => exact .nil
        | cons cw1 r2 =>
          cases r2 with
          | cons _ _ => exact .nil
          | nil =>
            exact (.cons cw1 (.cons cw0 .nil))
theorem kb_steps_into_0_step_tree_ord : KOrd kb_steps_into_0_step_tree_g kb_steps_into_0_step_tree_g := by
  constructor
  · intro K M H vs ws ds es r1 r2
    cases r1 with
    | cons _ _ => exact .nil
    | nil =>
      cases r2 with
      | nil => exact .nil
      | cons cw0 r2 =>
        cases r2 with
        | nil => exact .nil
        | cons cw1 r2 =>
          cases r2 with
          | cons _ _ => exact .nil
          | nil =>
            exact (.cons cw1 (.cons cw0 .nil))
theorem sc_children_in : FnScope ["tree", "number", "below", "over"] ["tree", "number"] (defScope s_children_in) := ⟨rfl, rfl, rfl, by decide +kernel, rfl, by decide +kernel, by decide +kernel⟩
theorem sc_below_lot : FnScope ["tree", "number", "found", "below", "over"] ["tree", "number"] (defScope s_below_lot) := ⟨rfl, rfl, rfl, by decide +kernel, rfl, by decide +kernel, by decide +kernel⟩
theorem sc_way_up : FnScope ["tree", "number", "way"] ["tree", "number"] (defScope s_way_up) := ⟨rfl, rfl, rfl, by decide +kernel, rfl, by decide +kernel, by decide +kernel⟩
theorem sc_cluster_way : FnScope ["tree", "one", "other", "up", "down", "meet", "number"] ["tree", "one", "other"] (defScope s_cluster_way) := ⟨rfl, rfl, rfl, by decide +kernel, rfl, by decide +kernel, by decide +kernel⟩
theorem sc_neighbours_in : FnScope ["tree", "number", "above", "below"] ["tree", "number"] (defScope s_neighbours_in) := ⟨rfl, rfl, rfl, by decide +kernel, rfl, by decide +kernel, by decide +kernel⟩
theorem sc_next_to : FnScope ["tree", "goal", "found", "rim", "further", "number", "near"] ["tree", "goal"] (defScope s_next_to) := ⟨rfl, rfl, rfl, by decide +kernel, rfl, by decide +kernel, by decide +kernel⟩
theorem sc_steps_to : FnScope ["tree", "goal", "found", "number", "_", "near", "far"] ["tree", "goal"] (defScope s_steps_to) := ⟨rfl, rfl, rfl, by decide +kernel, rfl, by decide +kernel, by decide +kernel⟩
theorem sc_steps_from : FnScope ["tree", "start", "found", "number", "_", "near", "far"] ["tree", "start"] (defScope s_steps_from) := ⟨rfl, rfl, rfl, by decide +kernel, rfl, by decide +kernel, by decide +kernel⟩
theorem sc_steps_into : FnScope ["tree", "step", "near"] ["tree", "step"] (defScope s_steps_into) := ⟨rfl, rfl, rfl, by decide +kernel, rfl, by decide +kernel, by decide +kernel⟩
theorem sc_side_of : FnScope ["tree", "step", "beyond", "start", "goal", "number"] ["tree", "step"] (defScope s_side_of) := ⟨rfl, rfl, rfl, by decide +kernel, rfl, by decide +kernel, by decide +kernel⟩
theorem sc_steps_joining : FnScope ["tree", "lot", "goal", "on_way", "start", "number", "step"] ["tree", "lot", "goal"] (defScope s_steps_joining) := ⟨rfl, rfl, rfl, by decide +kernel, rfl, by decide +kernel, by decide +kernel⟩
theorem sc__law_box : FnScope ["_law_script", "_law_k", "_law_cell", "_law_great"] ["_law_script", "_law_k"] (defScope s__law_box) := ⟨rfl, rfl, rfl, by decide +kernel, rfl, by decide +kernel, by decide +kernel⟩
theorem sc__law_take : FnScope ["_law_box_here", "_law_many", "_law_raw", "_law_digit"] ["_law_box_here", "_law_many"] (defScope s__law_take) := ⟨rfl, rfl, rfl, by decide +kernel, rfl, by decide +kernel, by decide +kernel⟩
theorem sc__law_pick : FnScope ["_law_box_here", "_law_some"] ["_law_box_here", "_law_some"] (defScope s__law_pick) := ⟨rfl, rfl, rfl, by decide +kernel, rfl, by decide +kernel, by decide +kernel⟩
theorem sc__law_chain : FnScope ["_law_above", "_law_number", "_law_found", "_law_turn"] ["_law_above", "_law_number"] (defScope s__law_chain) := ⟨rfl, rfl, rfl, by decide +kernel, rfl, by decide +kernel, by decide +kernel⟩
theorem sc__law_way : FnScope ["_law_above", "_law_one", "_law_other", "_law_top", "_law_ours", "_law_theirs", "_law_number"] ["_law_above", "_law_one", "_law_other"] (defScope s__law_way) := ⟨rfl, rfl, rfl, by decide +kernel, rfl, by decide +kernel, by decide +kernel⟩
theorem sc__law_tree : FnScope ["_law_box_here", "_law_at", "_law_clusters", "_law_above", "_law_upper", "_law_kept"] ["_law_box_here"] (defScope s__law_tree) := ⟨rfl, rfl, rfl, by decide +kernel, rfl, by decide +kernel, by decide +kernel⟩
theorem sc__law_steps : FnScope ["_law_above", "_law_goal", "_law_ways", "_law_size", "_law_inward", "_law_outward", "_law_at", "_law_way_here"] ["_law_above", "_law_goal"] (defScope s__law_steps) := ⟨rfl, rfl, rfl, by decide +kernel, rfl, by decide +kernel, by decide +kernel⟩
theorem sc__law_ends_right : FnScope ["_law_box_here", "_law_tree_here", "_law_goal", "_law_above", "_law_near", "_law_lot", "_law_due", "_law_every", "_law_inward", "_law_outward", "_law_at", "_law_step"] ["_law_box_here", "_law_tree_here", "_law_goal"] (defScope s__law_ends_right) := ⟨rfl, rfl, rfl, by decide +kernel, rfl, by decide +kernel, by decide +kernel⟩
theorem sc__law_step_right : FnScope ["_law_tree_here", "_law_step", "_law_inward", "_law_outward", "_law_side", "_law_near", "_law_into", "_law_goal", "_law_above", "_law_size", "_law_before", "_law_at", "_law_told", "_law_other"] ["_law_tree_here", "_law_step", "_law_inward", "_law_outward"] (defScope s__law_step_right) := ⟨rfl, rfl, rfl, by decide +kernel, rfl, by decide +kernel, by decide +kernel⟩
theorem sc_law : FnScope ["_law_script", "_law_k", "_law_fork", "_law_box_here", "_law_tree_here", "_law_inward", "_law_outward", "_law_goal", "_law_step"] ["_law_script"] (defScope s_law) := ⟨rfl, rfl, rfl, by decide +kernel, rfl, by decide +kernel, by decide +kernel⟩
end K36
end DL
/-! Trees told by what is above each place; ways between two places. -/
namespace Tw
structure Tre where
  n : Nat
  pf : Nat → Nat
  one : 1 ≤ n
  few : n ≤ 8
  lt : ∀ i, 0 < i → pf i < i
def upF (t : Tre) : Nat → Nat → List Nat
  | 0, i => [i]
  | k + 1, i => if i = 0 then [0] else i :: upF t k (t.pf i)
def up (t : Tre) (i : Nat) : List Nat := upF t i i
variable {t : Tre}
theorem upF_eq : ∀ (k l i : Nat), i ≤ k → i ≤ l → upF t k i = upF t l i
  | 0, 0, _, _, _ => rfl
  | 0, l + 1, i, h, _ => by
    have : i = 0 := by omega
    subst this
    rfl
  | k + 1, 0, i, _, h => by
    have : i = 0 := by omega
    subst this
    rfl
  | k + 1, l + 1, i, h1, h2 => by
    show (if i = 0 then [0] else i :: upF t k (t.pf i)) = (if i = 0 then [0] else i :: upF t l (t.pf i))
    by_cases z : i = 0
    · rw [if_pos z, if_pos z]
    · have := t.lt i (by omega)
      rw [if_neg z, if_neg z, upF_eq k l (t.pf i) (by omega) (by omega)]
theorem up_zero : up t 0 = [0] := rfl
theorem up_pos {i : Nat} (h : 0 < i) : up t i = i :: up t (t.pf i) := by
  have l := t.lt i h
  unfold up
  obtain ⟨k, rfl⟩ : ∃ k, i = k + 1 := ⟨i - 1, by omega⟩
  show (if k + 1 = 0 then [0] else (k + 1) :: upF t k (t.pf (k + 1))) = _
  rw [if_neg (by omega), upF_eq k (t.pf (k + 1)) _ (by omega) (Nat.le_refl _)]
theorem mem_up_self (i : Nat) : i ∈ up t i := by
  by_cases z : 0 < i
  · rw [up_pos z]; exact List.mem_cons_self
  · have : i = 0 := by omega
    subst this
    exact List.mem_cons_self
theorem up_head (i : Nat) : (up t i).head? = some i := by
  by_cases z : 0 < i
  · rw [up_pos z]; rfl
  · have : i = 0 := by omega
    subst this
    rfl
theorem up_ind {P : Nat → Prop} (h0 : P 0) (h : ∀ i, 0 < i → P (t.pf i) → P i) (i : Nat) : P i := by
  induction i using Nat.strongRecOn with
  | _ i ih =>
    by_cases z : 0 < i
    · exact h i z (ih _ (t.lt i z))
    · have : i = 0 := by omega
      subst this
      exact h0
theorem up_le (i : Nat) : ∀ j ∈ up t i, j ≤ i := by
  refine up_ind (t := t) (P := fun i => ∀ j ∈ up t i, j ≤ i) (fun j m => by rw [up_zero] at m; simp at m; omega) (fun i z ih j m => ?_) i
  rw [up_pos z] at m
  rcases List.mem_cons.mp m with rfl | m
  · exact Nat.le_refl _
  · have := ih j m
    have := t.lt i z
    omega
theorem up_dec (i : Nat) : (up t i).Pairwise (· > ·) := by
  refine up_ind (t := t) (P := fun i => (up t i).Pairwise (· > ·)) (by rw [up_zero]; exact List.pairwise_singleton _ _) (fun i z ih => ?_) i
  rw [up_pos z]
  refine List.pairwise_cons.mpr ⟨fun j m => ?_, ih⟩
  have := up_le (t := t) _ j m
  have := t.lt i z
  omega
theorem zero_up (i : Nat) : 0 ∈ up t i := by
  refine up_ind (t := t) (P := fun i => 0 ∈ up t i) List.mem_cons_self (fun i z ih => ?_) i
  rw [up_pos z]
  exact List.mem_cons_of_mem _ ih
theorem up_trans {i j : Nat} (h : j ∈ up t i) : ∃ pre, up t i = pre ++ up t j ∧ (∀ k ∈ pre, j < k) := by
  revert h
  refine up_ind (t := t) (P := fun i => j ∈ up t i → ∃ pre, up t i = pre ++ up t j ∧ ∀ k ∈ pre, j < k) (fun h => ?_) (fun i z ih h => ?_) i
  · rw [up_zero] at h
    simp at h
    subst h
    exact ⟨[], rfl, fun k m => nomatch m⟩
  · rw [up_pos z] at h
    rcases List.mem_cons.mp h with rfl | h
    · exact ⟨[], rfl, fun k m => nomatch m⟩
    · obtain ⟨pre, e, l⟩ := ih h
      refine ⟨i :: pre, by rw [up_pos z, e]; rfl, fun k m => ?_⟩
      rcases List.mem_cons.mp m with rfl | m
      · have := up_le (t := t) _ j h
        have := t.lt k z
        omega
      · exact l k m
/-- above what is above is above -/
theorem up_pf {i j : Nat} (h : j ∈ up t i) (z : 0 < j) : t.pf j ∈ up t i := by
  obtain ⟨pre, e, _⟩ := up_trans h
  rw [e, up_pos z]
  exact List.mem_append_right _ (List.mem_cons_of_mem _ (mem_up_self _))
theorem up_up {i j k : Nat} (h : j ∈ up t i) (h2 : k ∈ up t j) : k ∈ up t i := by
  obtain ⟨pre, e, _⟩ := up_trans h
  rw [e]
  exact List.mem_append_right _ h2
/-! ### ways -/
def dnw (t : Tre) (a b : Nat) : List Nat := ((up t b).takeWhile fun v => decide (v ≠ a)) ++ [a]
def wayF (t : Tre) (b : Nat) : Nat → Nat → List Nat
  | 0, a => (dnw t a b).reverse
  | k + 1, a => if a ∈ up t b then (dnw t a b).reverse else a :: wayF t b k (t.pf a)
def way (t : Tre) (a b : Nat) : List Nat := wayF t b a a
theorem wayF_eq (b : Nat) : ∀ (k l a : Nat), a ≤ k → a ≤ l → wayF t b k a = wayF t b l a
  | 0, 0, _, _, _ => rfl
  | 0, l + 1, a, h, _ => by
    have : a = 0 := by omega
    subst this
    show _ = (if 0 ∈ up t b then _ else _)
    rw [if_pos (zero_up b)]
    rfl
  | k + 1, 0, a, _, h => by
    have : a = 0 := by omega
    subst this
    show (if 0 ∈ up t b then _ else _) = _
    rw [if_pos (zero_up b)]
    rfl
  | k + 1, l + 1, a, h1, h2 => by
    show (if a ∈ up t b then _ else _) = (if a ∈ up t b then _ else _)
    by_cases z : a ∈ up t b
    · rw [if_pos z, if_pos z]
    · have a0 : 0 < a := by
        rcases Nat.eq_zero_or_pos a with rfl | q
        · exact absurd (zero_up b) z
        · exact q
      have := t.lt a a0
      rw [if_neg z, if_neg z, wayF_eq b k l (t.pf a) (by omega) (by omega)]
theorem way_in {a b : Nat} (h : a ∈ up t b) : way t a b = (dnw t a b).reverse := by
  unfold way
  cases a with
  | zero => rfl
  | succ k =>
    show (if k + 1 ∈ up t b then _ else _) = _
    rw [if_pos h]
theorem way_out {a b : Nat} (h : a ∉ up t b) : 0 < a ∧ way t a b = a :: way t (t.pf a) b := by
  have a0 : 0 < a := by
    rcases Nat.eq_zero_or_pos a with rfl | q
    · exact absurd (zero_up b) h
    · exact q
  refine ⟨a0, ?_⟩
  have l := t.lt a a0
  unfold way
  obtain ⟨k, rfl⟩ : ∃ k, a = k + 1 := ⟨a - 1, by omega⟩
  show (if k + 1 ∈ up t b then _ else (k + 1) :: wayF t b k (t.pf (k + 1))) = _
  rw [if_neg h, wayF_eq b k (t.pf (k + 1)) _ (by omega) (Nat.le_refl _)]
theorem takeW_split {a : Nat} : ∀ {pre post : List Nat}, (∀ k ∈ pre, k ≠ a) → ((pre ++ a :: post).takeWhile fun v => decide (v ≠ a)) = pre
  | [], post, _ => by
    rw [List.nil_append, List.takeWhile_cons_of_neg (by simp)]
  | k :: pre, post, h => by
    rw [List.cons_append, List.takeWhile_cons_of_pos (by exact decide_eq_true (h k List.mem_cons_self)), takeW_split fun j m => h j (List.mem_cons_of_mem _ m)]
theorem up_cons (j : Nat) : ∃ r, up t j = j :: r := by
  by_cases z : 0 < j
  · exact ⟨_, up_pos z⟩
  · have : j = 0 := by omega
    subst this
    exact ⟨[], rfl⟩
theorem dnw_of {a b : Nat} {pre : List Nat} (e : up t b = pre ++ up t a) (l : ∀ k ∈ pre, a < k) : dnw t a b = pre ++ [a] := by
  unfold dnw
  obtain ⟨r, er⟩ := up_cons (t := t) a
  rw [e, er, takeW_split fun k m z => by have := l k m; omega]
theorem way_self (a : Nat) : way t a a = [a] := by
  rw [way_in (mem_up_self a), dnw_of (pre := []) rfl (fun k m => nomatch m)]
  rfl
/-- one step up from what lies above b leads away from b -/
theorem way_up_in {c b : Nat} (h : c ∈ up t b) (z : 0 < c) : way t (t.pf c) b = t.pf c :: way t c b := by
  rw [way_in h, way_in (up_pf h z)]
  obtain ⟨pre, e, l⟩ := up_trans h
  have e2 : up t b = (pre ++ [c]) ++ up t (t.pf c) := by rw [e, up_pos z, List.append_assoc]; rfl
  have lt := t.lt c z
  rw [dnw_of e l, dnw_of e2 fun k m => by
    rcases List.mem_append.mp m with m | m
    · have := l k m; omega
    · rw [List.mem_singleton.mp m]; exact lt]
  rw [List.reverse_append]
  rfl
/-- each tie between two places leads towards b at one of its ends -/
theorem tie_way {u b : Nat} (z : 0 < u) : (u ∉ up t b ∧ way t u b = u :: way t (t.pf u) b) ∨ (u ∈ up t b ∧ way t (t.pf u) b = t.pf u :: way t u b) := by
  by_cases h : u ∈ up t b
  · exact .inr ⟨h, way_up_in h z⟩
  · exact .inl ⟨h, (way_out h).2⟩
theorem way_head (a b : Nat) : ∃ r, way t a b = a :: r := by
  by_cases h : a ∈ up t b
  · rw [way_in h]
    unfold dnw
    rw [List.reverse_append]
    exact ⟨_, rfl⟩
  · exact ⟨_, (way_out h).2⟩
/-- from any other place there is a first step -/
theorem way_next {v b : Nat} (ne : v ≠ b) : ∃ w, way t v b = v :: way t w b ∧ ((0 < v ∧ w = t.pf v) ∨ (0 < w ∧ t.pf w = v ∧ w ∈ up t b)) := by
  by_cases h : v ∈ up t b
  · obtain ⟨pre, e, l⟩ := up_trans h
    have np : pre ≠ [] := fun z => by
      rw [z, List.nil_append] at e
      have h1 := up_head (t := t) b
      rw [e, up_head] at h1
      cases h1
      exact ne rfl
    obtain ⟨pr, c, rfl⟩ : ∃ pr c, pre = pr ++ [c] := by
      rcases List.eq_nil_or_concat pre with q | ⟨pr, c, q⟩
      · exact absurd q np
      · exact ⟨pr, c, by rw [q, List.concat_eq_append]⟩
    have mc : c ∈ up t b := by rw [e]; exact List.mem_append_left _ (List.mem_append_right _ (List.mem_singleton.mpr rfl))
    have lc := l c (List.mem_append_right _ (List.mem_singleton.mpr rfl))
    have c0 : 0 < c := by omega
    obtain ⟨pre2, e2, l2⟩ := up_trans mc
    -- what follows c is v
    have pv : t.pf c = v := by
      have nd : (up t b).Pairwise (· > ·) := up_dec b
      have m1 : t.pf c ∈ up t b := up_pf mc c0
      have lt := t.lt c c0
      rw [e, List.append_assoc] at m1 nd
      -- pf c < c, so it is not in pr; it is v or below it
      obtain ⟨_, n2, n3⟩ := List.pairwise_append.mp nd
      rcases List.mem_append.mp m1 with m | m
      · have := n3 _ m c (List.mem_cons_self)
        omega
      · rcases List.mem_cons.mp m with m | m
        · omega
        · have hv : t.pf c ≤ v := up_le v _ m
          -- v is above c
          have mv : v ∈ up t c := by
            have : v ∈ pre2 ++ up t c := by rw [← e2]; exact h
            rcases List.mem_append.mp this with q | q
            · have := l2 v q; omega
            · exact q
          rw [up_pos c0] at mv
          rcases List.mem_cons.mp mv with q | q
          · omega
          · have := up_le (t := t) _ v q
            omega
    exact ⟨c, by rw [← pv]; exact way_up_in mc c0, .inr ⟨c0, pv, mc⟩⟩
  · exact ⟨t.pf v, (way_out h).2, .inl ⟨(way_out h).1, rfl⟩⟩
end Tw
namespace Tw
variable {t : Tre}
/-- the law's and the program's words for the same way -/
theorem way_words (a b : Nat) : ∃ m, m ∈ up t b ∧ (up t a).filter (fun v => decide (v ∈ up t b)) = m :: ((up t a).filter fun v => decide (v ∈ up t b)).tail ∧
    way t a b = (up t a).filter (fun v => !decide (v ∈ up t b)) ++ [m] ++ ((up t b).filter fun v => !decide (v ∈ up t a)).reverse ∧
    (∃ i, (up t a)[i]? = some m ∧ (∀ j v, j < i → (up t a)[j]? = some v → v ≠ m) ∧ ∃ k, (up t b)[k]? = some m ∧ (∀ j v, j < k → (up t b)[j]? = some v → v ≠ m) ∧ way t a b = (up t a).take i ++ ((up t b).take (k + 1)).reverse) := by
  have inn : ∀ a, a ∈ up t b → ∃ m, m ∈ up t b ∧ (up t a).filter (fun v => decide (v ∈ up t b)) = m :: ((up t a).filter fun v => decide (v ∈ up t b)).tail ∧
    way t a b = (up t a).filter (fun v => !decide (v ∈ up t b)) ++ [m] ++ ((up t b).filter fun v => !decide (v ∈ up t a)).reverse ∧
    (∃ i, (up t a)[i]? = some m ∧ (∀ j v, j < i → (up t a)[j]? = some v → v ≠ m) ∧ ∃ k, (up t b)[k]? = some m ∧ (∀ j v, j < k → (up t b)[j]? = some v → v ≠ m) ∧ way t a b = (up t a).take i ++ ((up t b).take (k + 1)).reverse) := by
    intro a h
    obtain ⟨pre, e, l⟩ := up_trans h
    obtain ⟨r, er⟩ := up_cons (t := t) a
    have all : ∀ v ∈ up t a, v ∈ up t b := fun v m => up_up h m
    have f1 : (up t a).filter (fun v => decide (v ∈ up t b)) = up t a := List.filter_eq_self.mpr fun v m => decide_eq_true (all v m)
    have f2 : (up t a).filter (fun v => !decide (v ∈ up t b)) = [] := List.filter_eq_nil_iff.mpr fun v m => by rw [decide_eq_true (all v m)]; decide
    have f3 : (up t b).filter (fun v => !decide (v ∈ up t a)) = pre := by
      rw [e, List.filter_append]
      have g1 : pre.filter (fun v => !decide (v ∈ up t a)) = pre := List.filter_eq_self.mpr fun v m => by
        have : v ∉ up t a := fun q => by have := up_le a v q; have := l v m; omega
        rw [decide_eq_false this]; rfl
      have g2 : (up t a).filter (fun v => !decide (v ∈ up t a)) = [] := List.filter_eq_nil_iff.mpr fun v m => by rw [decide_eq_true m]; decide
      rw [g1, g2, List.append_nil]
    refine ⟨a, h, by rw [f1, er]; rfl, by rw [f2, f3, way_in h, dnw_of e l, List.reverse_append]; rfl, 0, by rw [er]; rfl, fun j v z => absurd z (Nat.not_lt_zero _), pre.length, ?_, fun j v lj g => ?_, ?_⟩
    · rw [e, er, List.getElem?_append_right (Nat.le_refl _), Nat.sub_self]; rfl
    · rw [e, List.getElem?_append_left lj] at g
      have := l v (List.mem_of_getElem? g)
      omega
    · rw [way_in h, dnw_of e l, List.take_zero, List.nil_append, e, er]
      congr 1
      rw [List.take_append, List.take_of_length_le (by omega), Nat.add_sub_cancel_left]
      rfl
  refine up_ind (t := t) (P := fun a => ∃ m, m ∈ up t b ∧ (up t a).filter (fun v => decide (v ∈ up t b)) = m :: ((up t a).filter fun v => decide (v ∈ up t b)).tail ∧
    way t a b = (up t a).filter (fun v => !decide (v ∈ up t b)) ++ [m] ++ ((up t b).filter fun v => !decide (v ∈ up t a)).reverse ∧
    (∃ i, (up t a)[i]? = some m ∧ (∀ j v, j < i → (up t a)[j]? = some v → v ≠ m) ∧ ∃ k, (up t b)[k]? = some m ∧ (∀ j v, j < k → (up t b)[j]? = some v → v ≠ m) ∧ way t a b = (up t a).take i ++ ((up t b).take (k + 1)).reverse)) (inn 0 (zero_up b)) (fun a z ih => ?_) a
  by_cases h : a ∈ up t b
  · exact inn a h
  · obtain ⟨m, mb, e1, e2, i, i1, i2, k, k1, k2, e3⟩ := ih
    have ne : m ≠ a := fun q => h (q ▸ mb)
    refine ⟨m, mb, ?_, ?_, i + 1, by rw [up_pos z]; exact i1, fun j v lj g => ?_, k, k1, k2, ?_⟩
    · rw [up_pos z, List.filter_cons_of_neg (by rw [decide_eq_false h]; decide)]
      exact e1
    · have f : (up t b).filter (fun v => !decide (v ∈ up t a)) = (up t b).filter fun v => !decide (v ∈ up t (t.pf a)) := by
        refine List.filter_congr fun v mv => ?_
        have va : v ≠ a := fun q => h (q ▸ mv)
        rw [up_pos z, show decide (v ∈ a :: up t (t.pf a)) = decide (v ∈ up t (t.pf a)) from decide_eq_decide.mpr ⟨fun q => (List.mem_cons.mp q).resolve_left va, fun q => List.mem_cons_of_mem _ q⟩]
      rw [(way_out h).2, e2, f]
      conv => rhs; rw [up_pos z]
      rw [List.filter_cons_of_pos (by rw [decide_eq_false h]; rfl)]
      rfl
    · rw [up_pos z] at g
      cases j with
      | zero => cases g; exact Ne.symm ne
      | succ j => exact i2 j v (by omega) g
    · rw [(way_out h).2, e3, up_pos z]
      rfl
theorem mem_way_in {a b v : Nat} (h : a ∈ up t b) : v ∈ way t a b ↔ v ∈ up t b ∧ a ≤ v := by
  obtain ⟨pre, e, l⟩ := up_trans h
  rw [way_in h, dnw_of e l, List.mem_reverse, e]
  constructor
  · intro m
    rcases List.mem_append.mp m with m | m
    · exact ⟨List.mem_append_left _ m, Nat.le_of_lt (l v m)⟩
    · rw [List.mem_singleton.mp m]
      exact ⟨List.mem_append_right _ (mem_up_self a), Nat.le_refl _⟩
  · rintro ⟨m, le⟩
    rcases List.mem_append.mp m with m | m
    · exact List.mem_append_left _ m
    · have := up_le (t := t) a v m
      exact List.mem_append_right _ (List.mem_singleton.mpr (by omega))
/-- the side of a step up: what lies below it -/
theorem side_up {s x : Nat} (z : 0 < s) : s ∈ way t x (t.pf s) ↔ s ∈ up t x := by
  have lt := t.lt s z
  have inn : ∀ x, x ∈ up t (t.pf s) → (s ∈ way t x (t.pf s) ↔ s ∈ up t x) := fun x h => by
    rw [mem_way_in h]
    constructor
    · rintro ⟨m, _⟩
      have := up_le (t := t) _ s m
      omega
    · intro m
      have := up_le (t := t) _ s m
      have := up_le (t := t) _ x h
      omega
  refine up_ind (t := t) (P := fun x => s ∈ way t x (t.pf s) ↔ s ∈ up t x) (inn 0 (zero_up _)) (fun x z2 ih => ?_) x
  by_cases h : x ∈ up t (t.pf s)
  · exact inn x h
  · rw [(way_out h).2, up_pos z2, List.mem_cons, List.mem_cons, ih]
/-- the side of a step down: what does not lie below it -/
theorem side_down {g x : Nat} (z : 0 < g) : t.pf g ∈ way t x g ↔ g ∉ up t x := by
  have lt := t.lt g z
  have inn : ∀ x, x ∈ up t g → (t.pf g ∈ way t x g ↔ g ∉ up t x) := fun x h => by
    rw [mem_way_in h]
    have xg := up_le (t := t) _ x h
    constructor
    · rintro ⟨_, le⟩ m
      have := up_le (t := t) _ g m
      omega
    · intro n
      refine ⟨up_pf (mem_up_self g) z, ?_⟩
      rw [up_pos z] at h
      rcases List.mem_cons.mp h with q | q
      · exact absurd (q ▸ mem_up_self x) n
      · exact up_le _ x q
  refine up_ind (t := t) (P := fun x => t.pf g ∈ way t x g ↔ g ∉ up t x) (inn 0 (zero_up _)) (fun x z2 ih => ?_) x
  by_cases h : x ∈ up t g
  · exact inn x h
  · have n1 : t.pf g ≠ x := fun q => h (q ▸ up_pf (mem_up_self g) z)
    have n2 : g ≠ x := fun q => h (q ▸ mem_up_self g)
    rw [(way_out h).2, up_pos z2, List.mem_cons, List.mem_cons, ih]
    constructor
    · rintro (q | q) (q2 | q2)
      · exact n1 q
      · exact n1 q
      · exact n2 q2
      · exact q q2
    · intro q
      exact .inr fun q2 => q (.inr q2)
end Tw
namespace DL
open PySem PySem.Spec L2 Gd
namespace K36
open Tw
def tupN (l : List Nat) : D := .tup (nD l)
def abv (t : Tre) (i : Nat) : Int := if i = 0 then -1 else (t.pf i : Int)
def abI (t : Tre) : List Int := (List.range t.n).map (abv t)
def treeD (C : List D) (t : Tre) : D := .tup [.tup C, .tup ((abI t).map D.int)]
def kids (t : Tre) (g : Nat) : List Nat := (List.range t.n).filter fun i => decide (0 < i) && decide (t.pf i = g)
def below (t : Tre) (g : Nat) : List Nat := (List.range t.n).filter fun i => decide (g ∈ up t i)
def nbr (t : Tre) (g : Nat) : List Nat := if g = 0 then kids t g else t.pf g :: kids t g
def nx (t : Tre) (g v : Nat) : Nat := (Tw.way t v g).getD 1 0
def prD (p : Nat × Nat) : D := .tup [.int (p.1 : Int), .int (p.2 : Int)]
def grp (t : Tre) (g s : Nat) : List (Nat × Nat) := ((List.range t.n).filter fun v => decide (v ≠ g) && decide ((Tw.way t v g).length = s)).map fun v => (v, nx t g v)
def sizes (t : Tre) : List Nat := (List.range t.n).reverse.map (· + 2)
def inw (t : Tre) (g : Nat) : List (Nat × Nat) := (sizes t).flatMap (grp t g)
def outw (t : Tre) (g : Nat) : List (Nat × Nat) := ((sizes t).reverse.flatMap (grp t g)).map fun p => (p.2, p.1)
def stD (t : Tre) (g v : Nat) : D := .tup [.int (((Tw.way t v g).length - 1 : Nat) : Int), .int (nx t g v : Int)]
def Tie (t : Tre) (a b : Nat) : Prop := (0 < a ∧ t.pf a = b) ∨ (0 < b ∧ t.pf b = a)
def sp_children_in : DSpec := fun ds post => ∃ (C : List D) (t : Tre) (g : Nat), ds = [treeD C t, .int (g : Int)] ∧ g < t.n ∧ post (tupN (kids t g))
def sp_below_lot : DSpec := fun ds post => ∃ (C : List D) (t : Tre) (g : Nat), ds = [treeD C t, .int (g : Int)] ∧ g < t.n ∧ post (tupN (below t g))
def sp_way_up : DSpec := fun ds post => ∃ (C : List D) (t : Tre) (g : Nat), ds = [treeD C t, .int (g : Int)] ∧ g < t.n ∧ post (zD (nD (up t g)))
def sp_cluster_way : DSpec := fun ds post => ∃ (C : List D) (t : Tre) (a b : Nat), ds = [treeD C t, .int (a : Int), .int (b : Int)] ∧ a < t.n ∧ b < t.n ∧ post (tupN (Tw.way t a b))
def sp_neighbours_in : DSpec := fun ds post => ∃ (C : List D) (t : Tre) (g : Nat), ds = [treeD C t, .int (g : Int)] ∧ g < t.n ∧ post (tupN (nbr t g))
def sp_next_to : DSpec := fun ds post => ∃ (C : List D) (t : Tre) (g : Nat), ds = [treeD C t, .int (g : Int)] ∧ g < t.n ∧ ∀ l : List Nat, l.Perm ((List.range t.n).filter fun v => decide (v ≠ g)) → post (.dic (l.map fun v : Nat => Sum.inl (v : Int)) (l.map (stD t g)))
def sp_steps_to : DSpec := fun ds post => ∃ (C : List D) (t : Tre) (g : Nat), ds = [treeD C t, .int (g : Int)] ∧ g < t.n ∧ post (zD ((inw t g).map prD))
def sp_steps_from : DSpec := fun ds post => ∃ (C : List D) (t : Tre) (g : Nat), ds = [treeD C t, .int (g : Int)] ∧ g < t.n ∧ post (zD ((outw t g).map prD))
def sp_steps_into : DSpec := fun ds post => ∃ (C : List D) (t : Tre) (a b : Nat), ds = [treeD C t, prD (a, b)] ∧ a < t.n ∧ post (.tup (((nbr t a).filter fun v => decide (v ≠ b)).map fun v => prD (v, a)))
def sp_side_of : DSpec := fun ds post => ∃ (C : List D) (t : Tre) (a b : Nat), ds = [treeD C t, prD (a, b)] ∧ a < t.n ∧ b < t.n ∧ Tie t a b ∧ post (tupN ((List.range t.n).filter fun v => decide (a ∈ Tw.way t v b)))
def sp_steps_joining : DSpec := fun ds post => ∃ (C : List D) (t : Tre) (lot : List Nat) (g : Nat), ds = [treeD C t, tupN lot, .int (g : Int)] ∧ (∀ v ∈ lot, v < t.n) ∧ lot.length ≤ 8 ∧ g < t.n ∧ post (.tup (((inw t g).filter fun p => lot.any fun v => decide (p.1 ∈ Tw.way t v g)).map prD))
abbrev sp__law_box := spBox
abbrev sp__law_pick := spPick
def sp__law_chain : DSpec := fun ds post => ∃ (t : Tre) (g : Nat), ds = [.tup ((abI t).map D.int), .int (g : Int)] ∧ g < t.n ∧ post (.lst (nD (up t g)))
def sp__law_way : DSpec := fun ds post => ∃ (t : Tre) (a b : Nat), ds = [.tup ((abI t).map D.int), .int (a : Int), .int (b : Int)] ∧ a < t.n ∧ b < t.n ∧ post (.lst (nD (Tw.way t a b)))
def sp__law_tree (a : Addr) : DSpec := fun ds post => ds = [.adr a] ∧ ∀ (C : List D) (t : Tre), post (treeD C t)
def sp__law_steps : DSpec := fun ds post => ∃ (t : Tre) (g : Nat), ds = [.tup ((abI t).map D.int), .int (g : Int)] ∧ g < t.n ∧ post (.tup [.tup ((inw t g).map prD), .tup ((outw t g).map prD)])
def sp__law_ends_right (a : Addr) : DSpec := fun ds post => ∃ (C : List D) (t : Tre) (g : Nat), ds = [.adr a, treeD C t, .int (g : Int)] ∧ g < t.n ∧ post (.bl true)
def sp__law_step_right : DSpec := fun ds post => ∃ (C : List D) (t : Tre) (a b : Nat), ds = [treeD C t, prD (a, b), .lst ((List.range t.n).map fun g => zD ((inw t g).map prD)), .lst ((List.range t.n).map fun g => zD ((outw t g).map prD))] ∧ a < t.n ∧ b < t.n ∧ Tie t a b ∧ post (.bl true)
end K36
end DL
namespace DL
open PySem PySem.Spec L2 Gd
namespace K36
def r_children_in : DTS := (dRet (dCB (one fTuple) (dCons (dLc (dEnumA (dCons (dOp fIx (dVar 0) (dC (.int 1))) dNil)) (dgTup 2 (dgCons (dgName 2) (dgCons (dgName 3) dgNil))) (dTest (dOp fEq (dVar 3) (dVar 1))) (dVar 2) [2, 3]) dNil)))
abbrev N_children_in : List Str := ["tree", "number", "below", "over"]
def b0_below_lot : DTS := (dIfS (dTest (dOp (fInK false) (dVar 4) (dVar 2))) (dPutK (dC (.bl true)) (dVar 2) (dVar 3)) dNext)
def r_below_lot : DTS := (dSeqS (dSet 2 (dNewK1 (dVar 1) (dC (.bl true)))) (dSeqS (dFor (dEnumA (dCons (dOp fIx (dVar 0) (dC (.int 1))) dNil)) (dgTup 2 (dgCons (dgName 3) (dgCons (dgName 4) dgNil))) b0_below_lot) (dFrzK 2 (dRet (dCB (one fTuple) (dCons (dCB (one fSortDI) (dCons (dVar 2) dNil)) dNil))))))
abbrev N_below_lot : List Str := ["tree", "number", "found", "below", "over"]
def r_way_up : DTS := (dSeqS (dSet 2 (dNew (dCons (dVar 1) dNil))) (dSeqS (dWhile (dTest (dOp fNe (dOp fIx (dOp fIx (dVar 0) (dC (.int 1))) (dOp fIx (dVar 2) (dUn fNeg (dC (.int 1))))) (dUn fNeg (dC (.int 1))))) (dDrop (dML fAppend (dVar 2) (dCons (dOp fIx (dOp fIx (dVar 0) (dC (.int 1))) (dOp fIx (dVar 2) (dUn fNeg (dC (.int 1))))) dNil)))) (dFrz 2 (dRet (dCB (one fTupleZ) (dCons (dVar 2) dNil))))))
abbrev N_way_up : List Str := ["tree", "number", "way"]
def r_cluster_way : DTS := (dSeqS (dSet 3 (dCall sp_way_up (dCons (dVar 0) (dCons (dVar 1) dNil)))) (dSeqS (dSet 4 (dCall sp_way_up (dCons (dVar 0) (dCons (dVar 2) dNil)))) (dSeqS (dSet 5 (dOp fIx (dLc (dSeq (dWk (dVar 3))) (dgName 6) (dTest (dOp (fInN false) (dVar 6) (dWk (dVar 4)))) (dVar 6) [6]) (dC (.int 0)))) (dRet (dOp fAdd (dSl (dWk (dVar 3)) dNoPart (dPart (dMZ fIndexZ (dVar 3) (dCons (dVar 5) dNil)))) (dUn fRevA (dSl (dWk (dVar 4)) dNoPart (dPart (dOp fAdd (dMZ fIndexZ (dVar 4) (dCons (dVar 5) dNil)) (dC (.int 1)))))))))))
abbrev N_cluster_way : List Str := ["tree", "one", "other", "up", "down", "meet", "number"]
def r_neighbours_in : DTS := (dSeqS (dSet 2 (dOp fIx (dOp fIx (dVar 0) (dC (.int 1))) (dVar 1))) (dSeqS (dSet 3 (dCall sp_children_in (dCons (dVar 0) (dCons (dVar 1) dNil)))) (dRet (dIfE (dTest (dOp fEq (dVar 2) (dUn fNeg (dC (.int 1))))) (dVar 3) (dOp fAdd (dTup (dCons (dVar 2) dNil)) (dVar 3))))))
abbrev N_neighbours_in : List Str := ["tree", "number", "above", "below"]
def b0_next_to : DTS := (dIfS (dTest (dOp (fInK true) (dVar 6) (dVar 2))) (dSeqS (dPutK (dTup (dCons (dOp fAdd (dOp fIx (dOp fIxK (dVar 2) (dVar 5)) (dC (.int 0))) (dC (.int 1))) (dCons (dVar 5) dNil))) (dVar 2) (dVar 6)) (dDrop (dML fAppend (dVar 4) (dCons (dVar 6) dNil)))) dNext)
def b1_next_to : DTS := (dFor (dSeq (dCall sp_neighbours_in (dCons (dVar 0) (dCons (dVar 5) dNil)))) (dgName 6) b0_next_to)
def r_next_to : DTS := (dSeqS (dSet 2 (dNewK1 (dVar 1) (dTup (dCons (dC (.int 0)) (dCons (dVar 1) dNil))))) (dSeqS (dSet 3 (dLst (dCons (dVar 1) dNil))) (dSeqS (dWhile (dTr (dVar 3)) (dSeqS (dSet 4 (dNewF dNil)) (dSeqS (dFor (dSeq (dVar 3)) (dgName 5) b1_next_to) (dFrz 4 (dSet 3 (dVar 4)))))) (dSeqS (dDelK (dVar 2) (dVar 1)) (dFrzK 2 (dRet (dVar 2)))))))
abbrev N_next_to : List Str := ["tree", "goal", "found", "rim", "further", "number", "near"]
def r_steps_to : DTS := (dSeqS (dSet 2 (dCB (one fSorted) (dCons (dLc (dItems (dCall sp_next_to (dCons (dVar 0) (dCons (dVar 1) dNil)))) (dgTup 2 (dgCons (dgName 3) (dgCons (dgTup 2 (dgCons (dgName 6) (dgCons (dgName 5) dgNil))) dgNil))) dYes (dTup (dCons (dUn fNeg (dVar 6)) (dCons (dVar 3) (dCons (dVar 5) dNil)))) [3, 6, 5]) dNil))) (dRet (dCB (one fTupleZ) (dCons (dLc (dSeq (dVar 2)) (dgTup 3 (dgCons (dgName 4) (dgCons (dgName 3) (dgCons (dgName 5) dgNil)))) dYes (dTup (dCons (dVar 3) (dCons (dVar 5) dNil))) [4, 3, 5]) dNil))))
abbrev N_steps_to : List Str := ["tree", "goal", "found", "number", "_", "near", "far"]
def r_steps_from : DTS := (dSeqS (dSet 2 (dCB (one fSorted) (dCons (dLc (dItems (dCall sp_next_to (dCons (dVar 0) (dCons (dVar 1) dNil)))) (dgTup 2 (dgCons (dgName 3) (dgCons (dgTup 2 (dgCons (dgName 6) (dgCons (dgName 5) dgNil))) dgNil))) dYes (dTup (dCons (dVar 6) (dCons (dVar 3) (dCons (dVar 5) dNil)))) [3, 6, 5]) dNil))) (dRet (dCB (one fTupleZ) (dCons (dLc (dSeq (dVar 2)) (dgTup 3 (dgCons (dgName 4) (dgCons (dgName 3) (dgCons (dgName 5) dgNil)))) dYes (dTup (dCons (dVar 5) (dCons (dVar 3) dNil))) [4, 3, 5]) dNil))))
abbrev N_steps_from : List Str := ["tree", "start", "found", "number", "_", "near", "far"]
def r_steps_into : DTS := (dRet (dCB (one fTuple) (dCons (dLc (dSeq (dCall sp_neighbours_in (dCons (dVar 0) (dCons (dOp fIx (dVar 1) (dC (.int 0))) dNil)))) (dgName 2) (dTest (dOp fNe (dVar 2) (dOp fIx (dVar 1) (dC (.int 1))))) (dTup (dCons (dVar 2) (dCons (dOp fIx (dVar 1) (dC (.int 0))) dNil))) [2]) dNil)))
abbrev N_steps_into : List Str := ["tree", "step", "near"]
def r_side_of : DTS := (dSeqS (dAsg (dVar 1) (dgTup 2 (dgCons (dgName 3) (dgCons (dgName 4) dgNil)))) (dSeqS (dIfS (dTest (dOp fEq (dOp fIx (dOp fIx (dVar 0) (dC (.int 1))) (dVar 3)) (dVar 4))) (dRet (dCall sp_below_lot (dCons (dVar 0) (dCons (dVar 3) dNil)))) dNext) (dSeqS (dSet 2 (dCall sp_below_lot (dCons (dVar 0) (dCons (dVar 4) dNil)))) (dRet (dCB (one fTuple) (dCons (dLc (dRng1 (dCons (dCB (one fLen) (dCons (dOp fIx (dVar 0) (dC (.int 1))) dNil)) dNil)) (dgName 5) (dTest (dOp (fInN true) (dVar 5) (dVar 2))) (dVar 5) [5]) dNil))))))
abbrev N_side_of : List Str := ["tree", "step", "beyond", "start", "goal", "number"]
def r_steps_joining : DTS := (dSeqS (dSet 3 (dDcN (dSeq (dVar 1)) (dgName 4) dYes (dnCK (dSeq (dCall sp_cluster_way (dCons (dVar 0) (dCons (dVar 4) (dCons (dVar 2) dNil))))) (dgName 5) dYes (dnEK (dVar 5) (dC (.bl true))) [5]) [4, 5])) (dRet (dCB (one fTuple) (dCons (dLc (dSeq (dWk (dCall sp_steps_to (dCons (dVar 0) (dCons (dVar 2) dNil))))) (dgName 6) (dTest (dOp (fInK false) (dOp fIx (dVar 6) (dC (.int 0))) (dVar 3))) (dVar 6) [6]) dNil))))
abbrev N_steps_joining : List Str := ["tree", "lot", "goal", "on_way", "start", "number", "step"]
def r__law_box : DTS := (dSeqS (dSet 2 (dOp fAdd (dOp fMul (dC (.int 7411)) (dVar 1)) (dC (.int 1304)))) (dSeqS (dIfS (dTest (dOp fLt (dVar 1) (dCB (one fLen) (dCons (dVar 0) dNil)))) (dSet 2 (dCB (one fAbs) (dCons (dOp fIx (dVar 0) (dVar 1)) dNil))) (dIfS (dTest (dOp fGt (dCB (one fLen) (dCons (dVar 0) dNil)) (dC (.int 0)))) (dSet 2 (dOp fAdd (dVar 2) (dOp fMul (dOp fMod (dCB (one fInt) (dCons (dCB (one fAbs) (dCons (dOp fIx (dVar 0) (dOp fMod (dCB (one fInt) (dCons (dVar 1) dNil)) (dCB (one fLen) (dCons (dVar 0) dNil)))) dNil)) dNil)) (dC (.int 2147483629))) (dC (.int 60719))))) dNext)) (dSeqS (dSet 3 (dCB (one fInt) (dCons (dOp fGe (dVar 2) (dOp fPow (dC (.int 10)) (dC (.int 18)))) dNil))) (dRetA (dNew (dCons (dOp fIx (dLst (dCons (dC (.int 0)) (dCons (dVar 2) dNil))) (dVar 3)) (dCons (dOp fAdd (dOp fMod (dCB (one fInt) (dCons (dOp fAdd (dOp fAdd (dOp fMul (dOp fMod (dCB (one fInt) (dCons (dVar 2) dNil)) (dC (.int 2147483629))) (dC (.int 48271))) (dOp fMul (dC (.int 30011)) (dVar 1))) (dC (.int 977))) dNil)) (dC (.int 2147483629))) (dC (.int 1))) (dCons (dC (.int 0)) dNil))))))))
abbrev N__law_box : List Str := ["_law_script", "_law_k", "_law_cell", "_law_great"]
def r__law_take : DTS := (dSeqS (dIfS (dTest (dOp fGt (dOp fIx (dVar 0) (dC (.int 0))) (dC (.int 0)))) (dSeqS (dSet 3 (dOp fMod (dCB (one fInt) (dCons (dOp fIx (dVar 0) (dC (.int 0))) dNil)) (dVar 1))) (dSeqS (dSetI (dOp fDiv (dOp fIx (dVar 0) (dC (.int 0))) (dVar 1)) (dVar 0) (dC (.int 0))) (dRet (dVar 3)))) dNext) (dSeqS (dSetI (dOp fAdd (dOp fIx (dVar 0) (dC (.int 2))) (dC (.int 1))) (dVar 0) (dC (.int 2))) (dSeqS (dSet 2 (dOp fMod (dCB (one fInt) (dCons (dOp fAdd (dOp fMul (dOp fAdd (dOp fIx (dVar 0) (dC (.int 1))) (dOp fMul (dC (.int 99991)) (dOp fIx (dVar 0) (dC (.int 2))))) (dC (.int 69621))) (dC (.int 53))) dNil)) (dC (.int 2147483563)))) (dSeqS (dSetI (dOp fAdd (dOp fMod (dCB (one fInt) (dCons (dOp fAdd (dOp fMul (dVar 2) (dC (.int 40692))) (dC (.int 27011))) dNil)) (dC (.int 2147483629))) (dC (.int 1))) (dVar 0) (dC (.int 1))) (dRet (dOp fMod (dCB (one fInt) (dCons (dOp fDiv (dOp fAdd (dOp fMul (dVar 2) (dC (.int 2147483647))) (dOp fIx (dVar 0) (dC (.int 1)))) (dC (.int 8191))) dNil)) (dVar 1)))))))
abbrev N__law_take : List Str := ["_law_box_here", "_law_many", "_law_raw", "_law_digit"]
def r__law_pick (a : Addr) : DTS := (dRet (dOp fIx (dVar 1) (dCall (spTake a) (dCons (dVar 0) (dCons (dCB (one fLen) (dCons (dVar 1) dNil)) dNil)))))
abbrev N__law_pick : List Str := ["_law_box_here", "_law_some"]
def b0__law_chain : DTS := (dIfS (dTest (dOp fGt (dOp fIx (dVar 2) (dUn fNeg (dC (.int 1)))) (dC (.int 0)))) (dDrop (dML fAppend (dVar 2) (dCons (dOp fIx (dVar 0) (dOp fIx (dVar 2) (dUn fNeg (dC (.int 1))))) dNil))) dNext)
def r__law_chain : DTS := (dSeqS (dSet 2 (dNew (dCons (dVar 1) dNil))) (dSeqS (dFor (dRng1 (dCons (dCB (one fLen) (dCons (dVar 0) dNil)) dNil)) (dgName 3) b0__law_chain) (dFrz 2 (dRet (dVar 2)))))
abbrev N__law_chain : List Str := ["_law_above", "_law_number", "_law_found", "_law_turn"]
def r__law_way : DTS := (dSeqS (dAsg (dTup (dCons (dCall sp__law_chain (dCons (dVar 0) (dCons (dVar 1) dNil))) (dCons (dCall sp__law_chain (dCons (dVar 0) (dCons (dVar 2) dNil))) dNil))) (dgTup 2 (dgCons (dgName 4) (dgCons (dgName 5) dgNil)))) (dSeqS (dSet 3 (dOp fIx (dLc (dSeq (dVar 4)) (dgName 6) (dTest (dOp (fInN false) (dVar 6) (dVar 5))) (dVar 6) [6]) (dC (.int 0)))) (dRet (dOp fAdd (dOp fAdd (dLc (dSeq (dVar 4)) (dgName 6) (dTest (dOp (fInN true) (dVar 6) (dVar 5))) (dVar 6) [6]) (dLst (dCons (dVar 3) dNil))) (dUn fRev (dLc (dSeq (dVar 5)) (dgName 6) (dTest (dOp (fInN true) (dVar 6) (dVar 4))) (dVar 6) [6]))))))
abbrev N__law_way : List Str := ["_law_above", "_law_one", "_law_other", "_law_top", "_law_ours", "_law_theirs", "_law_number"]
def b0__law_tree (a : Addr) : DTS := (dSeqS (dSet 4 (dOp fSub (dC (.int 0)) (dC (.int 1)))) (dSeqS (dIfS (dTest (dOp fGt (dVar 1) (dC (.int 0)))) (dSet 4 (dOp fIx (dLst (dCons (dCall (spTake a) (dCons (dVar 0) (dCons (dVar 1) dNil))) (dCons (dOp fSub (dVar 1) (dC (.int 1))) (dCons (dOp fDiv (dVar 1) (dC (.int 2))) (dCons (dCall (spTake a) (dCons (dVar 0) (dCons (dVar 1) dNil))) dNil))))) (dCall (spTake a) (dCons (dVar 0) (dCons (dC (.int 4)) dNil))))) dNext) (dSeqS (dSet 5 (dIfE (dAnd (dTest (dOp fGt (dVar 1) (dC (.int 0)))) (dTest (dOp fGt (dCall (spTake a) (dCons (dVar 0) (dCons (dC (.int 4)) dNil))) (dC (.int 0))))) (dLst (dCons (dOp fIx (dOp fIx (dVar 2) (dVar 4)) (dUn fNeg (dC (.int 1)))) dNil)) (dLst dNil))) (dSeqS (dDrop (dML fAppend (dVar 2) (dCons (dCB (one fTuple) (dCons (dCB (one fSorted) (dCons (dOp fAdd (dVar 5) (dLst (dCons (dVar 1) dNil))) dNil)) dNil)) dNil))) (dDrop (dML fAppend (dVar 3) (dCons (dVar 4) dNil)))))))
def r__law_tree (a : Addr) : DTS := (dSeqS (dPar [2, 3] (dCons (dNewR a dNil) (dCons (dNewR a dNil) dNil))) (dSeqS (dFor (dRng1 (dCons (dCall (sp__law_pick a) (dCons (dVar 0) (dCons (dLst (dCons (dC (.int 1)) (dCons (dC (.int 6)) (dCons (dC (.int 3)) (dCons (dC (.int 5)) (dCons (dC (.int 2)) (dCons (dC (.int 8)) (dCons (dC (.int 5)) (dCons (dC (.int 4)) dNil))))))))) dNil))) dNil)) (dgName 1) (b0__law_tree a)) (dFrz 2 (dFrz 3 (dRet (dTup (dCons (dCB (one fTuple) (dCons (dVar 2) dNil)) (dCons (dCB (one fTuple) (dCons (dVar 3) dNil)) dNil))))))))
abbrev N__law_tree : List Str := ["_law_box_here", "_law_at", "_law_clusters", "_law_above", "_law_upper", "_law_kept"]
def b0__law_steps : DTS := (dSeqS (dSet 4 (dOp fAdd (dVar 4) (dLc (dSeq (dVar 2)) (dgName 7) (dTest (dOp fEq (dCB (one fLen) (dCons (dVar 7) dNil)) (dVar 3))) (dTup (dCons (dOp fIx (dVar 7) (dC (.int 0))) (dCons (dOp fIx (dVar 7) (dC (.int 1))) dNil))) [7]))) (dSet 5 (dOp fAdd (dLc (dSeq (dVar 2)) (dgName 7) (dTest (dOp fEq (dCB (one fLen) (dCons (dVar 7) dNil)) (dVar 3))) (dTup (dCons (dOp fIx (dVar 7) (dC (.int 1))) (dCons (dOp fIx (dVar 7) (dC (.int 0))) dNil))) [7]) (dVar 5))))
def r__law_steps : DTS := (dSeqS (dPar [4, 5] (dCons (dLst dNil) (dCons (dLst dNil) dNil))) (dSeqS (dSet 2 (dLc (dRng1 (dCons (dCB (one fLen) (dCons (dVar 0) dNil)) dNil)) (dgName 6) (dTest (dOp fNe (dVar 6) (dVar 1))) (dCall sp__law_way (dCons (dVar 0) (dCons (dVar 6) (dCons (dVar 1) dNil)))) [6])) (dSeqS (dFor (dRng3 (dCons (dOp fAdd (dCB (one fLen) (dCons (dVar 0) dNil)) (dC (.int 1))) (dCons (dC (.int 1)) (dCons (dUn fNeg (dC (.int 1))) dNil)))) (dgName 3) b0__law_steps) (dRet (dTup (dCons (dCB (one fTuple) (dCons (dVar 4) dNil)) (dCons (dCB (one fTuple) (dCons (dVar 5) dNil)) dNil)))))))
abbrev N__law_steps : List Str := ["_law_above", "_law_goal", "_law_ways", "_law_size", "_law_inward", "_law_outward", "_law_at", "_law_way_here"]
def r__law_ends_right (a : Addr) : DTS := (dSeqS (dSet 3 (dOp fIx (dVar 1) (dC (.int 1)))) (dSeqS (dAsg (dCall sp__law_steps (dCons (dVar 3) (dCons (dVar 2) dNil))) (dgTup 2 (dgCons (dgName 8) (dgCons (dgName 9) dgNil)))) (dSeqS (dIfS (dOr (dTest (dOp fNe (dCB (one fRepr) (dCons (dWk (dCall sp_steps_to (dCons (dVar 1) (dCons (dVar 2) dNil)))) dNil)) (dCB (one fRepr) (dCons (dVar 8) dNil)))) (dTest (dOp fNe (dWk (dCallK sp_steps_to kb_steps_to_0_goal_tree_g dNil (dCons (dVar 2) (dCons (dVar 1) dNil)))) (dVar 8)))) (dRet (dC (.bl false))) dNext) (dSeqS (dIfS (dOr (dTest (dOp fNe (dCB (one fRepr) (dCons (dWk (dCall sp_steps_from (dCons (dVar 1) (dCons (dVar 2) dNil)))) dNil)) (dCB (one fRepr) (dCons (dVar 9) dNil)))) (dTest (dOp fNe (dWk (dCallK sp_steps_from kb_steps_from_0_start_tree_g dNil (dCons (dVar 2) (dCons (dVar 1) dNil)))) (dVar 9)))) (dRet (dC (.bl false))) dNext) (dSeqS (dSet 4 (dCB (one fTuple) (dCons (dLc (dRng1 (dCons (dCB (one fLen) (dCons (dVar 3) dNil)) dNil)) (dgName 10) (dOr (dTest (dOp fEq (dOp fIx (dVar 3) (dVar 10)) (dVar 2))) (dAnd (dTest (dOp fEq (dVar 10) (dOp fIx (dVar 3) (dVar 2)))) (dTest (dOp fGt (dVar 2) (dC (.int 0)))))) (dVar 10) [10]) dNil))) (dSeqS (dIfS (dOr (dTest (dOp fNe (dCB (one fRepr) (dCons (dCall sp_neighbours_in (dCons (dVar 1) (dCons (dVar 2) dNil))) dNil)) (dCB (one fRepr) (dCons (dVar 4) dNil)))) (dTest (dOp fNe (dCallK sp_neighbours_in kb_neighbours_in_0_number_tree_g dNil (dCons (dVar 2) (dCons (dVar 1) dNil))) (dVar 4)))) (dRet (dC (.bl false))) dNext) (dSeqS (dSet 5 (dCB (one fTuple) (dCons (dLc (dRng1 (dCons (dCB (one fLen) (dCons (dVar 3) dNil)) dNil)) (dgName 10) (dTest (dOp fEq (dCall (spTake a) (dCons (dVar 0) (dCons (dC (.int 3)) dNil))) (dC (.int 0)))) (dVar 10) [10]) dNil))) (dSeqS (dSet 6 (dCB (one fTuple) (dCons (dLc (dSeq (dVar 8)) (dgName 11) (dTr (dCB (one fAny) (dCons (dLc (dSeq (dVar 5)) (dgName 10) dYes (dOp (fInN false) (dOp fIx (dVar 11) (dC (.int 0))) (dCall sp__law_way (dCons (dVar 3) (dCons (dVar 10) (dCons (dVar 2) dNil))))) [10]) dNil))) (dVar 11) [11]) dNil))) (dSeqS (dIfS (dOr (dTest (dOp fNe (dCB (one fRepr) (dCons (dCall sp_steps_joining (dCons (dVar 1) (dCons (dVar 5) (dCons (dVar 2) dNil)))) dNil)) (dCB (one fRepr) (dCons (dVar 6) dNil)))) (dTest (dOp fNe (dCallK sp_steps_joining kb_steps_joining_0_goal_lot_tree_g dNil (dCons (dVar 2) (dCons (dVar 5) (dCons (dVar 1) dNil)))) (dVar 6)))) (dRet (dC (.bl false))) dNext) (dSeqS (dSet 7 (dTupRg (dCB (one fLen) (dCons (dVar 3) dNil)))) (dRet (dAndV (dOp fEq (dCall sp_steps_joining (dCons (dVar 1) (dCons (dVar 7) (dCons (dVar 2) dNil)))) (dVar 8)) (dAndV (dOp fEq (dCall sp_steps_joining (dCons (dVar 1) (dCons (dTup dNil) (dCons (dVar 2) dNil)))) (dTup dNil)) (dOp fEq (dCall sp_steps_joining (dCons (dVar 1) (dCons (dTup (dCons (dVar 2) dNil)) (dCons (dVar 2) dNil)))) (dTup dNil)))))))))))))))
abbrev N__law_ends_right : List Str := ["_law_box_here", "_law_tree_here", "_law_goal", "_law_above", "_law_near", "_law_lot", "_law_due", "_law_every", "_law_inward", "_law_outward", "_law_at", "_law_step"]
def b0__law_step_right : DTS := (dSeqS (dIfS (dAnd (dTest (dOp (fInN true) (dVar 7) (dVar 4))) (dTest (dOp fGt (dMZ fIndexZ (dVar 12) (dCons (dVar 10) dNil)) (dMZ fIndexZ (dVar 12) (dCons (dVar 1) dNil))))) (dRet (dC (.bl false))) dNext) (dIfS (dAnd (dTest (dOp (fInN false) (dVar 7) (dVar 4))) (dAnd (dTest (dOp (fInD false) (dVar 10) (dWk (dVar 12)))) (dTest (dOp fGt (dMZ fIndexZ (dVar 12) (dCons (dVar 10) dNil)) (dMZ fIndexZ (dVar 12) (dCons (dVar 1) dNil)))))) (dRet (dC (.bl false))) dNext))
def b1__law_step_right : DTS := (dSeqS (dAsg (dOp fIx (dLst (dCons (dTup (dCons (dVar 2) (dCons (dVar 3) dNil))) (dCons (dTup (dCons (dVar 3) (dCons (dVar 2) dNil))) dNil))) (dCB (one fInt) (dCons (dOp (fInN false) (dVar 7) (dVar 4)) dNil))) (dgTup 2 (dgCons (dgName 12) (dgCons (dgName 13) dgNil)))) (dSeqS (dPar [12, 13] (dCons (dOp fIx (dWk (dVar 12)) (dVar 7)) (dCons (dOp fIx (dWk (dVar 13)) (dVar 7)) dNil))) (dSeqS (dIfS (dOr (dTest (dOp (fInD true) (dVar 1) (dWk (dVar 12)))) (dOr (dTest (dOp (fInD false) (dVar 1) (dWk (dVar 13)))) (dTest (dOp (fInD true) (dUn fRevA (dVar 1)) (dWk (dVar 13)))))) (dRet (dC (.bl false))) dNext) (dFor (dSeq (dVar 6)) (dgName 10) b0__law_step_right))))
def r__law_step_right : DTS := (dSeqS (dAsg (dTup (dCons (dOp fIx (dVar 0) (dC (.int 1))) (dCons (dCB (one fLen) (dCons (dOp fIx (dVar 0) (dC (.int 1))) dNil)) dNil))) (dgTup 2 (dgCons (dgName 8) (dgCons (dgName 9) dgNil)))) (dSeqS (dSet 4 (dCB (one fTuple) (dCons (dLc (dRng1 (dCons (dVar 9) dNil)) (dgName 11) (dTest (dOp (fInN false) (dOp fIx (dVar 1) (dC (.int 0))) (dCall sp__law_way (dCons (dVar 8) (dCons (dVar 11) (dCons (dOp fIx (dVar 1) (dC (.int 1))) dNil)))))) (dVar 11) [11]) dNil))) (dSeqS (dSet 5 (dLc (dRng1 (dCons (dVar 9) dNil)) (dgName 11) (dOr (dTest (dOp fEq (dOp fIx (dVar 8) (dVar 11)) (dOp fIx (dVar 1) (dC (.int 0))))) (dAnd (dTest (dOp fGt (dOp fIx (dVar 1) (dC (.int 0))) (dC (.int 0)))) (dTest (dOp fEq (dVar 11) (dOp fIx (dVar 8) (dOp fIx (dVar 1) (dC (.int 0)))))))) (dVar 11) [11])) (dSeqS (dSet 6 (dCB (one fTuple) (dCons (dLc (dSeq (dVar 5)) (dgName 11) (dTest (dOp fNe (dVar 11) (dOp fIx (dVar 1) (dC (.int 1))))) (dTup (dCons (dVar 11) (dCons (dOp fIx (dVar 1) (dC (.int 0))) dNil))) [11]) dNil))) (dSeqS (dIfS (dOr (dTest (dOp fNe (dCB (one fRepr) (dCons (dCall sp_side_of (dCons (dVar 0) (dCons (dVar 1) dNil))) dNil)) (dCB (one fRepr) (dCons (dVar 4) dNil)))) (dTest (dOp fNe (dCallK sp_side_of kb_side_of_0_step_tree_g dNil (dCons (dVar 1) (dCons (dVar 0) dNil))) (dVar 4)))) (dRet (dC (.bl false))) dNext) (dSeqS (dIfS (dOr (dTest (dOp fNe (dCB (one fRepr) (dCons (dCall sp_steps_into (dCons (dVar 0) (dCons (dVar 1) dNil))) dNil)) (dCB (one fRepr) (dCons (dVar 6) dNil)))) (dTest (dOp fNe (dCallK sp_steps_into kb_steps_into_0_step_tree_g dNil (dCons (dVar 1) (dCons (dVar 0) dNil))) (dVar 6)))) (dRet (dC (.bl false))) dNext) (dSeqS (dFor (dRng1 (dCons (dVar 9) dNil)) (dgName 7) b1__law_step_right) (dRet (dOp fEq (dOp fAdd (dCB (one fLen) (dCons (dCall sp_side_of (dCons (dVar 0) (dCons (dVar 1) dNil))) dNil)) (dCB (one fLen) (dCons (dCall sp_side_of (dCons (dVar 0) (dCons (dUn fRevA (dVar 1)) dNil))) dNil))) (dVar 9))))))))))
abbrev N__law_step_right : List Str := ["_law_tree_here", "_law_step", "_law_inward", "_law_outward", "_law_side", "_law_near", "_law_into", "_law_goal", "_law_above", "_law_size", "_law_before", "_law_at", "_law_told", "_law_other"]
def b0_law : DTS := (dIfS (dAnd (dTest (dOp fGt (dVar 7) (dC (.int 0)))) (dNot (dTr (dCall sp__law_step_right (dCons (dVar 4) (dCons (dVar 8) (dCons (dVar 5) (dCons (dVar 6) dNil)))))))) (dRet (dC (.bl false))) dNext)
def b1_law : DTS := (dSeqS (dIfS (dNot (dTr (dCallOB sp__law_ends_right (dCons (dVar 3) (dCons (dVar 4) (dCons (dVar 7) dNil)))))) (dRet (dC (.bl false))) dNext) (dFor (dSeq (dLst (dCons (dTup (dCons (dVar 7) (dCons (dOp fIx (dOp fIx (dVar 4) (dC (.int 1))) (dVar 7)) dNil))) (dCons (dTup (dCons (dOp fIx (dOp fIx (dVar 4) (dC (.int 1))) (dVar 7)) (dCons (dVar 7) dNil))) dNil)))) (dgName 8) b0_law))
def b2_law : DTS := (dSeqS (dSet 3 (dCallN sp__law_box (dCons (dVar 0) (dCons (dVar 1) dNil)))) (dSeqS (dSet 4 (dCallOB sp__law_tree (dCons (dVar 3) dNil))) (dSeqS (dSet 5 (dLc (dRng1 (dCons (dCB (one fLen) (dCons (dOp fIx (dVar 4) (dC (.int 1))) dNil)) dNil)) (dgName 7) dYes (dCall sp_steps_to (dCons (dVar 4) (dCons (dVar 7) dNil))) [7])) (dSeqS (dSet 6 (dLc (dRng1 (dCons (dCB (one fLen) (dCons (dOp fIx (dVar 4) (dC (.int 1))) dNil)) dNil)) (dgName 7) dYes (dCall sp_steps_from (dCons (dVar 4) (dCons (dVar 7) dNil))) [7])) (dFor (dRng1 (dCons (dCB (one fLen) (dCons (dOp fIx (dVar 4) (dC (.int 1))) dNil)) dNil)) (dgName 7) b1_law)))))
def r_law : DTS := (dSeqS (dFor (dRng1 (dCons (dOp fAdd (dC (.int 1)) (dCB (one fInt) (dCons (dOp fGt (dCB (one fLen) (dCons (dVar 0) dNil)) (dC (.int 0))) dNil))) dNil)) (dgName 1) b2_law) (dSeqS (dSet 2 (dTup (dCons (dTup (dCons (dTup (dCons (dC (.int 0)) dNil)) (dCons (dTup (dCons (dC (.int 0)) (dCons (dC (.int 1)) dNil))) (dCons (dTup (dCons (dC (.int 1)) (dCons (dC (.int 2)) dNil))) (dCons (dTup (dCons (dC (.int 0)) (dCons (dC (.int 3)) dNil))) dNil))))) (dCons (dTup (dCons (dOp fSub (dC (.int 0)) (dC (.int 1))) (dCons (dC (.int 0)) (dCons (dC (.int 1)) (dCons (dC (.int 0)) dNil))))) dNil)))) (dSeqS (dIfS (dOr (dTest (dOp fNe (dWk (dCall sp_steps_to (dCons (dVar 2) (dCons (dC (.int 3)) dNil)))) (dTup (dCons (dTup (dCons (dC (.int 2)) (dCons (dC (.int 1)) dNil))) (dCons (dTup (dCons (dC (.int 1)) (dCons (dC (.int 0)) dNil))) (dCons (dTup (dCons (dC (.int 0)) (dCons (dC (.int 3)) dNil))) dNil)))))) (dOr (dTest (dOp fNe (dWk (dCall sp_steps_from (dCons (dVar 2) (dCons (dC (.int 1)) dNil)))) (dTup (dCons (dTup (dCons (dC (.int 1)) (dCons (dC (.int 0)) dNil))) (dCons (dTup (dCons (dC (.int 1)) (dCons (dC (.int 2)) dNil))) (dCons (dTup (dCons (dC (.int 0)) (dCons (dC (.int 3)) dNil))) dNil)))))) (dTest (dOp fNe (dCall sp_side_of (dCons (dVar 2) (dCons (dTup (dCons (dC (.int 0)) (dCons (dC (.int 1)) dNil))) dNil))) (dTup (dCons (dC (.int 0)) (dCons (dC (.int 3)) dNil))))))) (dRet (dC (.bl false))) dNext) (dRet (dAndV (dOp fEq (dCall sp_steps_joining (dCons (dVar 2) (dCons (dTup (dCons (dC (.int 1)) (dCons (dC (.int 3)) dNil))) (dCons (dC (.int 2)) dNil)))) (dTup (dCons (dTup (dCons (dC (.int 3)) (dCons (dC (.int 0)) dNil))) (dCons (dTup (dCons (dC (.int 0)) (dCons (dC (.int 1)) dNil))) (dCons (dTup (dCons (dC (.int 1)) (dCons (dC (.int 2)) dNil))) dNil))))) (dAndV (dOp fEq (dCall sp_steps_into (dCons (dVar 2) (dCons (dTup (dCons (dC (.int 1)) (dCons (dC (.int 0)) dNil))) dNil))) (dTup (dCons (dTup (dCons (dC (.int 2)) (dCons (dC (.int 1)) dNil))) dNil))) (dOp fEq (dWk (dCall sp_steps_to (dCons (dTup (dCons (dTup (dCons (dTup dNil) dNil)) (dCons (dTup (dCons (dOp fSub (dC (.int 0)) (dC (.int 1))) dNil)) dNil))) (dCons (dC (.int 0)) dNil)))) (dTup dNil))))))))
abbrev N_law : List Str := ["_law_script", "_law_k", "_law_fork", "_law_box_here", "_law_tree_here", "_law_inward", "_law_outward", "_law_goal", "_law_step"]
end K36
end DL
namespace DL
open PySem PySem.Spec L2 Gd
namespace K36
open Tw
theorem ab_len (t : Tre) : (abI t).length = t.n := by unfold abI; rw [List.length_map, List.length_range]
theorem ab_at {t : Tre} {i : Nat} (h : i < t.n) : atI ((abI t).map D.int) (i : Int) = some (.int (abv t i)) := by
  rw [atI_nat, List.getElem?_map]
  unfold abI
  rw [List.getElem?_map, List.getElem?_range h]
  rfl
theorem ab_en (t : Tre) : enD ((abI t).map D.int) = (List.range t.n).map fun i : Nat => D.tup [.int (i : Int), .int (abv t i)] := by
  unfold enD
  rw [List.length_map, ab_len]
  refine List.map_congr_left fun i m => ?_
  have h := List.mem_range.mp m
  rw [List.getD_eq_getElem?_getD, List.getElem?_map]
  unfold abI
  rw [List.getElem?_map, List.getElem?_range h]
  rfl
theorem kids_lt {t : Tre} {g v : Nat} (h : v ∈ kids t g) : v < t.n ∧ 0 < v ∧ t.pf v = g := by
  unfold kids at h
  rw [List.mem_filter, Bool.and_eq_true, decide_eq_true_iff, decide_eq_true_iff] at h
  exact ⟨List.mem_range.mp h.1, h.2⟩
theorem ln_children_in : ∀ ds post, sp_children_in ds post → ds.length = 2 := by
  rintro ds post ⟨C, t, g, rfl, _⟩
  rfl
theorem abv_eq {t : Tre} {i g : Nat} : abv t i = (g : Int) ↔ 0 < i ∧ t.pf i = g := by
  unfold abv
  by_cases z : i = 0
  · rw [if_pos z]; omega
  · rw [if_neg z]; omega
theorem vc_children_in : ∀ ds post, sp_children_in ds post → r_children_in { nx := fun _ _ => post .non, rt := fun d _ => post d } (startD N_children_in ds) [] := by
  rintro ds post ⟨C, t, g, rfl, hg, h⟩
  show lcGo _ _ _ _ _ _ (enD ((abI t).map D.int)) [] _
  rw [ab_en]
  refine lc_filter (fun i : Nat => D.tup [.int (i : Int), .int (abv t i)]) (fun i => decide (0 < i) && decide (t.pf i = g)) (fun i => .int (i : Int)) (List.range t.n) (by rw [List.length_range]; have := t.few; omega) (fun i m kf k h1 h0 => ?_) ?_
  · refine ⟨rfl, ?_⟩
    show (if decide (abv t i = (g : Int)) = true then _ else _)
    by_cases e : abv t i = (g : Int)
    · have e2 := abv_eq.mp e
      exact yes (decide_eq_true e) (h1 (by rw [decide_eq_true e2.1, decide_eq_true e2.2]; rfl))
    · refine no (decide_eq_false e) (h0 ?_)
      rw [← Bool.not_eq_true, Bool.and_eq_true, decide_eq_true_iff, decide_eq_true_iff]
      exact fun q => e (abv_eq.mpr q)
  exact h
theorem nd_len : ∀ {n : Nat} {F : List Nat}, F.Nodup → (∀ v ∈ F, v < n) → F.length ≤ n
  | 0, [], _, _ => Nat.le_refl _
  | 0, v :: F, _, h => absurd (h v List.mem_cons_self) (Nat.not_lt_zero v)
  | n + 1, F, nd, h => by
    have ih := nd_len (n := n) (nd.erase n) fun v m => by
      have m2 := (List.Nodup.mem_erase_iff nd).mp m
      have := h v m2.2
      have := m2.1
      omega
    rw [List.length_erase] at ih
    split at ih
    · omega
    · omega
/-! ### what lies below -/
theorem ln_below_lot : ∀ ds post, sp_below_lot ds post → ds.length = 2 := by
  rintro ds post ⟨C, t, g, rfl, _⟩
  rfl
theorem hasD_nat {f : Nat → D} (l : List Nat) (v : Nat) : hasD (l.map fun u : Nat => ((.inl (u : Int) : Key), f u)) (.inl (v : Int)) = decide (v ∈ l) := by
  by_cases m : v ∈ l
  · rw [decide_eq_true m]
    unfold hasD
    rw [valD_map (fun u : Nat => (Sum.inl (u : Int) : Key)) f l (fun a _ b _ e => by cases e; rfl) v m]
    rfl
  · rw [decide_eq_false m]
    unfold hasD valD
    rw [List.find?_eq_none.mpr fun kv mk => ?_]
    · rfl
    · obtain ⟨u, mu, rfl⟩ := List.mem_map.mp mk
      intro e
      have e := of_decide_eq_true e
      cases e
      exact m mu
theorem hasD_neg {f : Nat → D} (l : List Nat) {w : Int} (h : w < 0) : hasD (l.map fun u : Nat => ((.inl (u : Int) : Key), f u)) (.inl w) = false := by
  unfold hasD valD
  rw [List.find?_eq_none.mpr fun kv mk => ?_]
  · rfl
  · obtain ⟨u, mu, rfl⟩ := List.mem_map.mp mk
    intro e
    have e := of_decide_eq_true e
    cases e
    omega
theorem putD_nat {f : Nat → D} {l : List Nat} {v : Nat} (h : v ∉ l) : putD (l.map fun u : Nat => ((.inl (u : Int) : Key), f u)) (.inl (v : Int)) (f v) = (l ++ [v]).map fun u : Nat => ((.inl (u : Int) : Key), f u) := by
  rw [putD_new fun kv mk => ?_, List.map_append]
  · rfl
  · obtain ⟨u, mu, rfl⟩ := List.mem_map.mp mk
    intro e
    cases e
    exact h mu
theorem zipK (F : List Nat) : some (((F.map fun u : Nat => ((.inl (u : Int) : Key), D.bl true)).map (·.1)).zip ((F.map fun u : Nat => ((.inl (u : Int) : Key), D.bl true)).map (·.2))) = some (F.map fun u : Nat => ((.inl (u : Int) : Key), D.bl true)) := congrArg some (zip_unzip _)
theorem srt_perm : ∀ {xs ys : List Int}, xs.Pairwise (· ≤ ·) → ys.Pairwise (· ≤ ·) → xs.Perm ys → xs = ys
  | xs, ys, h1, h2, p => p.eq_of_pairwise (fun a b _ _ => Int.le_antisymm) h1 h2
/-- found: the place itself, then those whose upper place is found -/
theorem lp_below {DD : DEnds} {t : Tre} {g : Nat} {p : Addr} {x0 x1 : Option D} : ∀ (k i : Nat) (F : List Nat) (x3 x4 : Option D), i + k = t.n → F.Nodup → (∀ v, v ∈ F ↔ v = g ∨ (v < i ∧ g ∈ up t v)) → g < t.n →
    (∀ (F : List Nat) (x3 x4 : Option D), F.Nodup → (∀ v, v ∈ F ↔ v = g ∨ (v < t.n ∧ g ∈ up t v)) → DD.nx [x0, x1, some (.adr p), x3, x4] [(p, .d (F.map fun u : Nat => ((.inl (u : Int) : Key), D.bl true)))]) →
    forGo (dgTup 2 (dgCons (dgName 3) (dgCons (dgName 4) dgNil))) b0_below_lot DD ((List.range' i k).map fun i : Nat => D.tup [.int (i : Int), .int (abv t i)]) [x0, x1, some (.adr p), x3, x4] [(p, .d (F.map fun u : Nat => ((.inl (u : Int) : Key), D.bl true)))]
  | 0, i, F, x3, x4, e, nd, hF, hg, h => h F x3 x4 nd (by have : i = t.n := by omega
                                                          subst this
                                                          exact hF)
  | k + 1, i, F, x3, x4, e, nd, hF, hg, h => by
    rw [List.range'_succ, List.map_cons]
    refine ⟨rfl, ?_⟩
    refine opt_of (x := F.map fun u : Nat => ((.inl (u : Int) : Key), D.bl true)) getK_self ?_
    show (if hasD (F.map fun u : Nat => ((.inl (u : Int) : Key), D.bl true)) (.inl (abv t i)) = true then _ else _)
    have go : ∀ F : List Nat, F.Nodup → (∀ v, v ∈ F ↔ v = g ∨ (v < i + 1 ∧ g ∈ up t v)) → forGo (dgTup 2 (dgCons (dgName 3) (dgCons (dgName 4) dgNil))) b0_below_lot DD ((List.range' (i + 1) k).map fun i : Nat => D.tup [.int (i : Int), .int (abv t i)]) [x0, x1, some (.adr p), some (.int (i : Int)), some (.int (abv t i))] [(p, .d (F.map fun u : Nat => ((.inl (u : Int) : Key), D.bl true)))] := fun F nd hF =>
      lp_below k (i + 1) F _ _ (by omega) nd hF hg h
    by_cases z : 0 < i
    · have ea : abv t i = (t.pf i : Int) := by unfold abv; rw [if_neg (by omega)]
      have lt := t.lt i z
      have ui : g ∈ up t i ↔ g = i ∨ g ∈ up t (t.pf i) := by rw [up_pos z, List.mem_cons]
      have hp : t.pf i ∈ F ↔ g ∈ up t (t.pf i) := by
        rw [hF]
        constructor
        · rintro (q | q)
          · rw [q]; exact mem_up_self g
          · exact q.2
        · intro q; exact .inr ⟨lt, q⟩
      rw [ea, hasD_nat]
      by_cases m : t.pf i ∈ F
      · refine yes (decide_eq_true m) ?_
        have gl := up_le (t := t) _ g (hp.mp m)
        have ni : i ∉ F := fun q => by
          rcases (hF i).mp q with q | q
          · omega
          · omega
        refine opt_of (x := F.map fun u : Nat => ((.inl (u : Int) : Key), D.bl true)) getK_self ?_
        have l8 : F.length ≤ t.n + 1 := by
          have sub : ∀ v ∈ F, v < t.n := fun v mv => by
            rcases (hF v).mp mv with q | q
            · omega
            · omega
          have := nd_len nd sub
          omega
        have few := t.few
        refine ⟨ft _ (by rw [List.length_map]; omega), ?_⟩
        rw [show putD (F.map fun u : Nat => ((.inl (u : Int) : Key), D.bl true)) (.inl (i : Int)) (.bl true) = (F ++ [i]).map fun u : Nat => ((.inl (u : Int) : Key), D.bl true) from putD_nat (f := fun _ => D.bl true) ni, setS_one]
        have := go (F ++ [i]) (List.nodup_append.mpr ⟨nd, (by simp : [i].Nodup), fun a ma b mb => by
          rw [List.mem_singleton.mp mb]
          exact fun q => ni (q ▸ ma)⟩) fun v => by
            rw [List.mem_append, List.mem_singleton, hF]
            constructor
            · rintro ((q | q) | q)
              · exact .inl q
              · exact .inr ⟨by omega, q.2⟩
              · rw [q]; exact .inr ⟨by omega, ui.mpr (.inr (hp.mp m))⟩
            · rintro (q | q)
              · exact .inl (.inl q)
              · by_cases w : v = i
                · exact .inr w
                · exact .inl (.inr ⟨by omega, q.2⟩)
        rw [ea] at this
        exact this
      · refine no (decide_eq_false m) ?_
        have := go F nd fun v => by
          rw [hF]
          constructor
          · rintro (q | q)
            · exact .inl q
            · exact .inr ⟨by omega, q.2⟩
          · rintro (q | q)
            · exact .inl q
            · by_cases w : v = i
              · rw [w] at q ⊢
                rcases ui.mp q.2 with r | r
                · exact .inl r.symm
                · exact absurd (hp.mpr r) m
              · exact .inr ⟨by omega, q.2⟩
        rw [ea] at this
        exact this
    · have i0 : i = 0 := by omega
      subst i0
      have ea : abv t 0 = -1 := rfl
      rw [ea, hasD_neg _ (by decide)]
      have := go F nd fun v => by
        rw [hF]
        constructor
        · rintro (q | q)
          · exact .inl q
          · omega
        · rintro (q | q)
          · exact .inl q
          · have v0 : v = 0 := by omega
            rw [v0, up_zero, List.mem_singleton] at q
            exact .inl (by omega)
      exact this
theorem vc_below_lot : ∀ ds post, sp_below_lot ds post → r_below_lot { nx := fun _ _ => post .non, rt := fun d _ => post d } (startD N_below_lot ds) [] := by
  rintro ds post ⟨C, t, g, rfl, hg, h⟩
  refine fun p np => ?_
  refine ⟨getK_self, ?_⟩
  rw [setS_one]
  show forGo _ _ _ (enD ((abI t).map D.int)) _ _
  rw [ab_en, List.range_eq_range']
  refine lp_below t.n 0 [g] none none (by omega) (by simp) (fun v => by rw [List.mem_singleton]; constructor; exact .inl; rintro (q | q); exact q; omega) hg fun F x3 x4 nd hF => ?_
  refine opt_of (x := F.map fun u : Nat => ((.inl (u : Int) : Key), D.bl true)) getK_self ?_
  refine ⟨F.map fun u : Nat => (u : Int), (congrArg (List.map (·.1)) (zip_unzip (F.map fun u : Nat => ((.inl (u : Int) : Key), D.bl true)))).trans (by rw [List.map_map, List.map_map]; rfl), ?_, fun ys pm sr => ?_⟩
  · have := nd_len nd (n := t.n) fun v mv => by
      rcases (hF v).mp mv with q | q
      · omega
      · exact q.1
    have := t.few
    rw [List.length_map]
    omega
  · have e : ys = (below t g).map fun u : Nat => (u : Int) := by
      refine srt_perm sr ?_ (pm.trans ?_)
      · unfold below
        exact List.pairwise_map.mpr ((List.pairwise_lt_range.sublist List.filter_sublist).imp fun {a b} l => by omega)
      · refine List.Perm.map _ ?_
        refine (List.perm_ext_iff_of_nodup nd (List.nodup_range.sublist List.filter_sublist)).mpr fun v => ?_
        rw [hF, List.mem_filter, List.mem_range, decide_eq_true_iff]
        constructor
        · rintro (q | q)
          · rw [q]; exact ⟨hg, mem_up_self g⟩
          · exact q
        · intro q; exact .inr q
    rw [e, List.map_map]
    exact h
end K36
end DL
namespace DL
open PySem PySem.Spec L2 Gd
namespace K36
open Tw
variable {t : Tre}
/-! ### the way up -/
theorem ln_way_up : ∀ ds post, sp_way_up ds post → ds.length = 2 := by
  rintro ds post ⟨C, t, g, rfl, _⟩
  rfl
theorem up_len (i : Nat) (h : i < t.n) : (up t i).length ≤ t.n := nd_len ((up_dec i).imp fun {a b} l => by omega) fun v m => by have := up_le (t := t) i v m; omega
theorem nD_app (xs : List Nat) (y : Nat) : nD (xs ++ [y]) = nD xs ++ [D.int (y : Int)] := by unfold nD; rw [List.map_append]; rfl
theorem vc_way_up : ∀ ds post, sp_way_up ds post → r_way_up { nx := fun _ _ => post .non, rt := fun d _ => post d } (startD N_way_up ds) [] := by
  rintro ds post ⟨C, t, g, rfl, hg, h⟩
  refine ⟨by show 1 ≤ 16777216; decide, fun p => ?_⟩
  -- what is there: the way as far as j; what is left: the way from there
  refine ⟨fun m δ S => ∃ (j : Nat) (pre : List Nat), j = m ∧ j < t.n ∧ pre ++ up t j = up t g ∧ pre.length ≤ 8 ∧ δ = [some (treeD C t), some (.int (g : Int)), some (.adr p)] ∧ S = [(p, .l (nD (pre ++ [j])))], ⟨g, g, [], rfl, hg, rfl, by decide, rfl, rfl⟩, ?_⟩
  rintro m δ S ⟨j, pre, rfl, hj, e, l8, rfl, rfl⟩
  have el : atI (nD (pre ++ [j])) (-1) = some (.int (j : Int)) := by
    rw [nD_app]
    exact atI_last _ _
  refine opt_of (x := nD (pre ++ [j])) getS_self ?_
  refine opt_of el ?_
  refine opt_of (ab_at hj) ?_
  show (if (!decide (abv t j = -1)) = true then _ else _)
  by_cases z : 0 < j
  · have ea : abv t j = (t.pf j : Int) := by unfold abv; rw [if_neg (by omega)]
    have lt := t.lt j z
    rw [ea]
    refine yes (by rw [decide_eq_false (by omega)]; rfl) ?_
    refine ⟨own_self, ?_⟩
    refine opt_of (x := nD (pre ++ [j])) getS_self ?_
    refine opt_of el ?_
    refine opt_of (ab_at hj) ?_
    rw [ea]
    have ul := up_len g hg
    have few := t.few
    have le : pre.length + (up t j).length = (up t g).length := by rw [← e, List.length_append]
    have l1 : 1 ≤ (up t j).length := by rw [up_pos z, List.length_cons]; omega
    refine opt_of (x := nD (pre ++ [j])) getS_self ⟨ft _ (by rw [nD_len, List.length_append]; simp; omega), ?_⟩
    rw [setS_one]
    have e2 : (pre ++ [j]) ++ up t (t.pf j) = up t g := by rw [List.append_assoc, ← e, up_pos z]; rfl
    refine ⟨t.pf j, lt, t.pf j, pre ++ [j], rfl, by omega, e2, by rw [List.length_append, List.length_singleton]; omega, rfl, by rw [nD_app (pre ++ [j])]⟩
  · have j0 : j = 0 := by omega
    subst j0
    refine no (show (!decide (abv t 0 = -1)) = false from rfl) ?_
    refine opt_of (x := nD (pre ++ [0])) getS_self ?_
    rw [up_zero] at e
    rw [e]
    exact h
theorem ln__law_chain : ∀ ds post, sp__law_chain ds post → ds.length = 2 := by
  rintro ds post ⟨t, g, rfl, _⟩
  rfl
theorem lp_chain {DD : DEnds} {t : Tre} {g : Nat} (hg : g < t.n) {p : Addr} {x1 : Option D} : ∀ (is : List D) (j : Nat) (pre : List Nat) (x3 : Option D), j < t.n → pre ++ up t j = up t g → (j = 0 ∨ t.n ≤ pre.length + is.length) →
    (∀ x3, DD.nx [some (.tup ((abI t).map D.int)), x1, some (.adr p), x3] [(p, .l (nD (up t g)))]) →
    forGo (dgName 3) b0__law_chain DD is [some (.tup ((abI t).map D.int)), x1, some (.adr p), x3] [(p, .l (nD (pre ++ [j])))]
  | [], j, pre, x3, hj, e, l, h => by
    have ul := up_len g hg
    have le : pre.length + (up t j).length = (up t g).length := by rw [← e, List.length_append]
    have j0 : j = 0 := by
      rcases l with l | l
      · exact l
      · rcases Nat.eq_zero_or_pos j with z | z
        · exact z
        · rw [up_pos z, List.length_cons] at le
          simp at l
          omega
    subst j0
    rw [up_zero] at e
    rw [e]
    exact h x3
  | i :: is, j, pre, x3, hj, e, l, h => by
    have el : atI (nD (pre ++ [j])) (-1) = some (.int (j : Int)) := by
      rw [nD_app]
      exact atI_last _ _
    refine opt_of (x := nD (pre ++ [j])) getS_self ?_
    refine opt_of el ?_
    show (if decide ((0 : Int) < (j : Int)) = true then _ else _)
    by_cases z : 0 < j
    · have ea : abv t j = (t.pf j : Int) := by unfold abv; rw [if_neg (by omega)]
      have lt := t.lt j z
      refine yes (decide_eq_true (by omega)) ?_
      refine ⟨own_self, ?_⟩
      refine opt_of (x := nD (pre ++ [j])) getS_self ?_
      refine opt_of el ?_
      refine opt_of (ab_at hj) ?_
      rw [ea]
      have ul := up_len g hg
      have few := t.few
      have le : pre.length + (up t j).length = (up t g).length := by rw [← e, List.length_append]
      refine opt_of (x := nD (pre ++ [j])) getS_self ⟨ft _ (by rw [nD_len, List.length_append]; simp; omega), ?_⟩
      rw [setS_one, ← nD_app (pre ++ [j])]
      have e2 : (pre ++ [j]) ++ up t (t.pf j) = up t g := by rw [List.append_assoc, ← e, up_pos z]; rfl
      refine lp_chain hg is (t.pf j) (pre ++ [j]) _ (by omega) e2 ?_ h
      rw [List.length_cons] at l
      rw [List.length_append, List.length_singleton]
      omega
    · exact no (decide_eq_false (by omega)) (lp_chain hg is j pre _ hj e (.inl (by omega)) h)
theorem vc__law_chain : ∀ ds post, sp__law_chain ds post → r__law_chain { nx := fun _ _ => post .non, rt := fun d _ => post d } (startD N__law_chain ds) [] := by
  rintro ds post ⟨t, g, rfl, hg, h⟩
  refine ⟨by show 1 ≤ 16777216; decide, fun p => ?_⟩
  have few := t.few
  have ll : ((abI t).map D.int).length = t.n := by rw [List.length_map, ab_len]
  show Rg _ ∧ forGo _ _ _ (rngD 0 1 ((((abI t).map D.int).length : Nat) : Int).toNat) _ _
  rw [ll]
  refine ⟨by unfold Rg; omega, ?_⟩
  have lr : (rngD 0 1 ((t.n : Int)).toNat).length = t.n := by rw [Int.toNat_natCast]; unfold rngD; rw [List.length_map, List.length_range]
  refine lp_chain hg _ g [] _ hg rfl (.inr (by rw [lr]; simp)) fun x3 => ?_
  exact opt_of (x := nD (up t g)) getS_self h
end K36
end DL
namespace DL
open PySem PySem.Spec L2 Gd
namespace K36
open Tw
variable {t : Tre}
def iN (v : Nat) : D := .int (v : Int)
theorem nD_map (l : List Nat) : nD l = l.map iN := rfl
theorem flat_nD (l : List Nat) : (nD l).all flatD = true := List.all_eq_true.mpr fun d m => by
  obtain ⟨v, _, rfl⟩ := List.mem_map.mp m
  rfl
theorem any_nD (l : List Nat) (v : Int) : ((nD l).any fun y => eqF y (.int v)) = decide (∃ u ∈ l, (u : Int) = v) := by
  unfold nD
  rw [List.any_map]
  refine Bool.eq_iff_iff.mpr ?_
  rw [List.any_eq_true, decide_eq_true_iff]
  constructor
  · rintro ⟨u, m, e⟩
    exact ⟨u, m, by simpa [eqF] using e⟩
  · rintro ⟨u, m, e⟩
    exact ⟨u, m, by subst e; show ((u : Int) == (u : Int)) = true; simp⟩
theorem any_nat (l : List Nat) (v : Nat) : ((nD l).any fun y => eqF y (.int (v : Int))) = decide (v ∈ l) := by
  rw [any_nD]
  refine decide_eq_decide.mpr ⟨?_, fun m => ⟨v, m, rfl⟩⟩
  rintro ⟨u, m, e⟩
  have : u = v := by omega
  exact this ▸ m
theorem dn_nD (n : Nat) (l : List Nat) : dn (n + 1) (.tup (nD l)) = true := List.all_eq_true.mpr fun d m => by
  obtain ⟨v, _, rfl⟩ := List.mem_map.mp m
  cases n <;> rfl
theorem idx_of {y : D} : ∀ {xs : List D} {i : Nat} {x : D}, xs[i]? = some x → deq x y = true → (∀ j w, j < i → xs[j]? = some w → deq w y = false) → idxD y xs = some i
  | [], i, x, e, _, _ => by simp at e
  | z :: xs, 0, x, e, h, _ => by
    cases e
    show (if deq z y = true then some 0 else _) = _
    rw [if_pos h]
  | z :: xs, i + 1, x, e, h, b => by
    have hz := b 0 z (by omega) rfl
    show (if deq z y = true then some 0 else (idxD y xs).map (· + 1)) = _
    rw [hz, if_neg (by decide), idx_of (xs := xs) (i := i) e h fun j w l g => b (j + 1) w (by omega) g]
    rfl
theorem deq_int (a b : Int) : deq (.int a) (.int b) = decide (a = b) := deq_dec (n := 1) (a := .int a) (b := .int b) rfl rfl |>.trans (decide_eq_decide.mpr ⟨fun e => by cases e; rfl, fun e => by rw [e]⟩)
theorem idx_nD {l : List Nat} {i m : Nat} (e : l[i]? = some m) (b : ∀ j v, j < i → l[j]? = some v → v ≠ m) : idxD (.int (m : Int)) (nD l) = some i := by
  refine idx_of (x := .int (m : Int)) (by unfold nD; rw [List.getElem?_map, e]; rfl) (by rw [deq_int]; exact decide_eq_true rfl) fun j w lj g => ?_
  unfold nD at g
  rw [List.getElem?_map] at g
  obtain ⟨v, ev, rfl⟩ := Option.map_eq_some_iff.mp g
  rw [deq_int]
  exact decide_eq_false fun q => b j v lj ev (by omega)
theorem lc_in {S : Sto} {Q : D → Sto → Prop} {g : DTG} {tt : DTT} {te : DTE} {own : List Nat} {δ : Sl} (A : List Nat) (hl : A.length ≤ 16777216) (p : Nat → Bool)
    (hx : ∀ x ∈ A, ∀ (kf : Sto → Prop) (k : D → Sto → Prop), (p x = true → k (iN x) S) → (p x = false → kf S) → g (iN x) (wipeD δ own) fun δ1 => tt δ1 S fun b S1 => if b = true then te δ1 S1 k else kf S1)
    (h : Q (.lst (nD (A.filter p))) S) : lcGo g tt te own δ Q (nD A) [] S := lc_filter iN p iN A hl hx h
theorem in_nD {S : Sto} (neg : Bool) (v : Nat) (B : List Nat) (k : Bool → Sto → Prop) (hk : k (if neg then !decide (v ∈ B) else decide (v ∈ B)) S) : fInG neg (nD B) (iN v) S (isB k) := by
  refine ⟨rfl, flat_nD _, ?_⟩
  have := any_nat B v
  show isB k (.bl (if neg then !((nD B).any fun y => eqF y (.int (v : Int))) else (nD B).any fun y => eqF y (.int (v : Int)))) S
  rw [this]
  exact hk
theorem at_zero (m : Nat) (r : List Nat) : atI (nD (m :: r)) 0 = some (.int (m : Int)) := atI_nat (nD (m :: r)) 0
theorem up_small (i : Nat) (h : i < t.n) : (up t i).length ≤ 8 := by have := up_len i h; have := t.few; omega
theorem ln_cluster_way : ∀ ds post, sp_cluster_way ds post → ds.length = 3 := by
  rintro ds post ⟨C, t, a, b, rfl, _⟩
  rfl
theorem vc_cluster_way : ∀ ds post, sp_cluster_way ds post → r_cluster_way { nx := fun _ _ => post .non, rt := fun d _ => post d } (startD N_cluster_way ds) [] := by
  rintro ds post ⟨C, t, a, b, rfl, ha, hb, h⟩
  refine ⟨C, t, a, rfl, ha, ?_⟩
  refine ⟨C, t, b, rfl, hb, ?_⟩
  have la := up_small (t := t) a ha
  have lb := up_small (t := t) b hb
  obtain ⟨m, mb, f1, _, i, i1, i2, k, k1, k2, ew⟩ := way_words (t := t) a b
  refine lc_in (up t a) (by omega) (fun v => decide (v ∈ up t b)) (fun v mv kf kk h1 h0 => ?_) ?_
  · refine in_nD false v (up t b) _ ?_
    show (if decide (v ∈ up t b) = true then _ else _)
    by_cases e : v ∈ up t b
    · exact yes (decide_eq_true e) (h1 (decide_eq_true e))
    · exact no (decide_eq_false e) (h0 (decide_eq_false e))
  rw [f1]
  refine opt_of (at_zero _ _) ?_
  refine ⟨⟨_, _, rfl⟩, rfl, dn_nD 39 _, ?_⟩
  refine opt_of (idx_nD i1 i2) ?_
  refine ⟨⟨_, _, rfl⟩, rfl, dn_nD 39 _, ?_⟩
  refine opt_of (idx_nD k1 k2) ?_
  have e1 : cutD (nD (up t a)) none (some (i : Int)) = nD ((up t a).take i) := by rw [cut_to]; unfold nD; rw [List.map_take]
  have e2 : (cutD (nD (up t b)) none (some ((k : Int) + 1))).reverse = nD (((up t b).take (k + 1)).reverse) := by
    rw [show ((k : Int) + 1) = ((k + 1 : Nat) : Int) by omega, cut_to]
    unfold nD
    rw [← List.map_take, List.map_reverse]
  have e3 : cutD (nD (up t a)) none (some (i : Int)) ++ (cutD (nD (up t b)) none (some ((k : Int) + 1))).reverse = nD (Tw.way t a b) := by
    rw [e1, e2, ew]
    unfold nD
    rw [List.map_append]
  refine ⟨ft _ ?_, ?_⟩
  · rw [e1, e2, nD_len, nD_len, List.length_reverse, List.length_take, List.length_take]
    omega
  · show post (.tup (cutD (nD (up t a)) none (some (i : Int)) ++ (cutD (nD (up t b)) none (some ((k : Int) + 1))).reverse))
    rw [e3]
    exact h
theorem ln__law_way : ∀ ds post, sp__law_way ds post → ds.length = 3 := by
  rintro ds post ⟨t, a, b, rfl, _⟩
  rfl
theorem vc__law_way : ∀ ds post, sp__law_way ds post → r__law_way { nx := fun _ _ => post .non, rt := fun d _ => post d } (startD N__law_way ds) [] := by
  rintro ds post ⟨t, a, b, rfl, ha, hb, h⟩
  refine ⟨t, a, rfl, ha, ?_⟩
  refine ⟨t, b, rfl, hb, ?_⟩
  refine ⟨by show 2 ≤ 16777216; decide, rfl, ?_⟩
  have la := up_small (t := t) a ha
  have lb := up_small (t := t) b hb
  obtain ⟨m, mb, f1, ew, _⟩ := way_words (t := t) a b
  refine lc_in (up t a) (by omega) (fun v => decide (v ∈ up t b)) (fun v mv kf kk h1 h0 => ?_) ?_
  · refine in_nD false v (up t b) _ ?_
    show (if decide (v ∈ up t b) = true then _ else _)
    by_cases e : v ∈ up t b
    · exact yes (decide_eq_true e) (h1 (decide_eq_true e))
    · exact no (decide_eq_false e) (h0 (decide_eq_false e))
  rw [f1]
  refine opt_of (at_zero _ _) ?_
  refine lc_in (up t a) (by omega) (fun v => !decide (v ∈ up t b)) (fun v mv kf kk h1 h0 => ?_) ?_
  · refine in_nD true v (up t b) _ ?_
    show (if (!decide (v ∈ up t b)) = true then _ else _)
    cases e : (!decide (v ∈ up t b)) with
    | true => exact yes rfl (h1 e)
    | false => exact no rfl (h0 e)
  refine ⟨by show 1 ≤ 16777216; decide, ?_⟩
  have l1 := List.length_filter_le (fun v => !decide (v ∈ up t b)) (up t a)
  refine ⟨ft _ (by rw [nD_len]; show _ + 1 ≤ 1000000; omega), ?_⟩
  refine lc_in (up t b) (by omega) (fun v => !decide (v ∈ up t a)) (fun v mv kf kk h1 h0 => ?_) ?_
  · refine in_nD true v (up t a) _ ?_
    show (if (!decide (v ∈ up t a)) = true then _ else _)
    cases e : (!decide (v ∈ up t a)) with
    | true => exact yes rfl (h1 e)
    | false => exact no rfl (h0 e)
  have l2 := List.length_filter_le (fun v => !decide (v ∈ up t a)) (up t b)
  refine ⟨ft _ ?_, ?_⟩
  · rw [List.length_append, List.length_reverse, nD_len, nD_len]
    show _ + 1 + _ ≤ 1000000
    omega
  · have e : nD ((up t a).filter fun v => !decide (v ∈ up t b)) ++ [D.int (m : Int)] ++ (nD ((up t b).filter fun v => !decide (v ∈ up t a))).reverse = nD (Tw.way t a b) := by
      rw [ew]
      unfold nD
      rw [List.map_append, List.map_append, List.map_reverse]
      rfl
    show post (.lst (nD ((up t a).filter fun v => !decide (v ∈ up t b)) ++ [D.int (m : Int)] ++ (nD ((up t b).filter fun v => !decide (v ∈ up t a))).reverse))
    rw [e]
    exact h
end K36
end DL
namespace DL
open PySem PySem.Spec L2 Gd
namespace K36
open Tw
variable {t : Tre}
theorem kids_len (g : Nat) : (kids t g).length ≤ t.n := by
  have := List.length_filter_le (fun i => decide (0 < i) && decide (t.pf i = g)) (List.range t.n)
  rwa [List.length_range] at this
theorem nbr_len (g : Nat) : (nbr t g).length ≤ 9 := by
  have := kids_len (t := t) g
  have := t.few
  unfold nbr
  split
  · omega
  · rw [List.length_cons]; omega
theorem mem_nbr {g v : Nat} (hg : g < t.n) : v ∈ nbr t g ↔ v < t.n ∧ ((0 < g ∧ t.pf g = v) ∨ (0 < v ∧ t.pf v = g)) := by
  have mk : v ∈ kids t g ↔ v < t.n ∧ 0 < v ∧ t.pf v = g := by
    unfold kids
    rw [List.mem_filter, Bool.and_eq_true, decide_eq_true_iff, decide_eq_true_iff, List.mem_range]
  unfold nbr
  by_cases z : g = 0
  · rw [if_pos z, mk]
    constructor
    · rintro ⟨h1, h2⟩; exact ⟨h1, .inr h2⟩
    · rintro ⟨h1, h2 | h2⟩
      · omega
      · exact ⟨h1, h2⟩
  · rw [if_neg z, List.mem_cons, mk]
    have := t.lt g (by omega)
    constructor
    · rintro (h | ⟨h1, h2⟩)
      · rw [h]; exact ⟨by omega, .inl ⟨by omega, rfl⟩⟩
      · exact ⟨h1, .inr h2⟩
    · rintro ⟨h1, h2 | h2⟩
      · exact .inl h2.2.symm
      · exact .inr ⟨h1, h2⟩
theorem ln_neighbours_in : ∀ ds post, sp_neighbours_in ds post → ds.length = 2 := by
  rintro ds post ⟨C, t, g, rfl, _⟩
  rfl
theorem vc_neighbours_in : ∀ ds post, sp_neighbours_in ds post → r_neighbours_in { nx := fun _ _ => post .non, rt := fun d _ => post d } (startD N_neighbours_in ds) [] := by
  rintro ds post ⟨C, t, g, rfl, hg, h⟩
  refine opt_of (ab_at hg) ?_
  refine ⟨C, t, g, rfl, hg, ?_⟩
  show (if decide (abv t g = -1) = true then _ else _)
  have few := t.few
  have kl := kids_len (t := t) g
  by_cases z : g = 0
  · subst z
    refine yes rfl ?_
    show post (.tup (nD (kids t 0)))
    have e : nbr t 0 = kids t 0 := by unfold nbr; rw [if_pos rfl]
    unfold tupN at h
    rw [e] at h
    exact h
  · have ea : abv t g = (t.pf g : Int) := by unfold abv; rw [if_neg z]
    rw [ea]
    refine no (decide_eq_false (by omega)) ?_
    refine ⟨by show 1 ≤ 16777216; decide, ?_⟩
    refine ⟨ft _ (by show 1 + (nD (kids t g)).length ≤ 1000000; rw [nD_len]; omega), ?_⟩
    have e : nbr t g = t.pf g :: kids t g := by unfold nbr; rw [if_neg z]
    unfold tupN at h
    rw [e] at h
    exact h
theorem ln_steps_into : ∀ ds post, sp_steps_into ds post → ds.length = 2 := by
  rintro ds post ⟨C, t, a, b, rfl, _⟩
  rfl
theorem vc_steps_into : ∀ ds post, sp_steps_into ds post → r_steps_into { nx := fun _ _ => post .non, rt := fun d _ => post d } (startD N_steps_into ds) [] := by
  rintro ds post ⟨C, t, a, b, rfl, ha, h⟩
  refine ⟨C, t, a, rfl, ha, ?_⟩
  have nl := nbr_len (t := t) a
  refine lc_filter iN (fun v => decide (v ≠ b)) (fun v => prD (v, a)) (nbr t a) (by omega) (fun v mv kf kk h1 h0 => ?_) h
  show (if (!decide ((v : Int) = (b : Int))) = true then _ else _)
  by_cases e : v = b
  · refine no (by rw [decide_eq_true (by omega)]; rfl) (h0 (decide_eq_false fun q => q e))
  · refine yes (by rw [decide_eq_false (by omega)]; rfl) ?_
    exact ⟨by show 2 ≤ 16777216; decide, h1 (decide_eq_true e)⟩
theorem ln_side_of : ∀ ds post, sp_side_of ds post → ds.length = 2 := by
  rintro ds post ⟨C, t, a, b, rfl, _⟩
  rfl
theorem vc_side_of : ∀ ds post, sp_side_of ds post → r_side_of { nx := fun _ _ => post .non, rt := fun d _ => post d } (startD N_side_of ds) [] := by
  rintro ds post ⟨C, t, a, b, rfl, ha, hb, tie, h⟩
  refine ⟨rfl, ?_⟩
  refine opt_of (ab_at ha) ?_
  show (if decide (abv t a = (b : Int)) = true then _ else _)
  have few := t.few
  by_cases e : abv t a = (b : Int)
  · obtain ⟨a0, pa⟩ := abv_eq.mp e
    refine yes (decide_eq_true e) ?_
    refine ⟨C, t, a, rfl, ha, ?_⟩
    have e2 : below t a = (List.range t.n).filter fun v => decide (a ∈ Tw.way t v b) := List.filter_congr fun v _ => decide_eq_decide.mpr (by rw [← pa]; exact (side_up a0).symm)
    rw [e2]
    exact h
  · have dn : 0 < b ∧ t.pf b = a := tie.resolve_left fun q => e (abv_eq.mpr q)
    refine no (decide_eq_false e) ?_
    refine ⟨C, t, b, rfl, hb, ?_⟩
    have ll : ((abI t).map D.int).length = t.n := by rw [List.length_map, ab_len]
    show Rg ((((abI t).map D.int).length : Nat) : Int) ∧ lcGo _ _ _ _ _ _ (rngD 0 1 ((((abI t).map D.int).length : Nat) : Int).toNat) [] _
    rw [ll, Int.toNat_natCast, rngD_nD]
    refine ⟨by unfold Rg; omega, ?_⟩
    refine lc_in (List.range t.n) (by rw [List.length_range]; omega) (fun v => !decide (v ∈ below t b)) (fun v mv kf kk h1 h0 => ?_) ?_
    · refine in_nD true v (below t b) _ ?_
      show (if (!decide (v ∈ below t b)) = true then _ else _)
      cases e : (!decide (v ∈ below t b)) with
      | true => exact yes rfl (h1 e)
      | false => exact no rfl (h0 e)
    · have e2 : (List.range t.n).filter (fun v => !decide (v ∈ below t b)) = (List.range t.n).filter fun v => decide (a ∈ Tw.way t v b) := List.filter_congr fun v mv => by
        have mb : v ∈ below t b ↔ b ∈ up t v := by
          unfold below
          rw [List.mem_filter, decide_eq_true_iff]
          exact ⟨fun q => q.2, fun q => ⟨mv, q⟩⟩
        rw [← decide_not]
        refine decide_eq_decide.mpr ?_
        rw [mb, ← dn.2]
        exact (side_down dn.1).symm
      rw [e2]
      exact h
end K36
end DL
namespace DL
open PySem PySem.Spec L2 Gd
namespace K36
open Tw
variable {t : Tre}
def lv (t : Tre) (g v : Nat) : Nat := (Tw.way t v g).length
theorem lv_self (g : Nat) : lv t g g = 1 := by unfold lv; rw [way_self]; rfl
theorem lv_pos (g v : Nat) : 1 ≤ lv t g v := by
  obtain ⟨r, e⟩ := way_head (t := t) v g
  unfold lv
  rw [e, List.length_cons]
  omega
theorem nx_of {g v w : Nat} (e : Tw.way t v g = v :: Tw.way t w g) : nx t g v = w ∧ lv t g v = lv t g w + 1 := by
  obtain ⟨r, er⟩ := way_head (t := t) w g
  unfold nx lv
  rw [e, List.length_cons]
  refine ⟨?_, rfl⟩
  rw [er]
  rfl
theorem far_next {g v : Nat} (hg : g < t.n) (hv : v < t.n) (ne : v ≠ g) : ∃ w, w < t.n ∧ Tw.way t v g = v :: Tw.way t w g ∧ v ∈ nbr t w ∧ w ∈ nbr t v ∧ nx t g v = w ∧ lv t g v = lv t g w + 1 := by
  obtain ⟨w, e, hw⟩ := way_next (t := t) ne
  obtain ⟨n1, n2⟩ := nx_of e
  rcases hw with ⟨v0, rfl⟩ | ⟨w0, pw, mw⟩
  · have := t.lt v v0
    have wl : t.pf v < t.n := by omega
    exact ⟨_, wl, e, (mem_nbr wl).mpr ⟨hv, .inr ⟨v0, rfl⟩⟩, (mem_nbr hv).mpr ⟨wl, .inl ⟨v0, rfl⟩⟩, n1, n2⟩
  · have := up_le (t := t) _ w mw
    have wl : w < t.n := by omega
    exact ⟨w, wl, e, (mem_nbr wl).mpr ⟨hv, .inl ⟨w0, pw⟩⟩, (mem_nbr hv).mpr ⟨wl, .inr ⟨w0, pw⟩⟩, n1, n2⟩
/-- of two neighbours one leads to the other -/
theorem nbr_way {g u v : Nat} (hu : u < t.n) (h : v ∈ nbr t u) : Tw.way t v g = v :: Tw.way t u g ∨ Tw.way t u g = u :: Tw.way t v g := by
  obtain ⟨_, h | h⟩ := (mem_nbr hu).mp h
  · rcases tie_way (t := t) (b := g) h.1 with ⟨_, e⟩ | ⟨_, e⟩
    · rw [h.2] at e; exact .inr e
    · rw [h.2] at e; exact .inl e
  · rcases tie_way (t := t) (b := g) h.1 with ⟨_, e⟩ | ⟨_, e⟩
    · rw [h.2] at e; exact .inl e
    · rw [h.2] at e; exact .inr e
theorem lv_one {g v : Nat} (hg : g < t.n) (hv : v < t.n) : lv t g v = 1 ↔ v = g := by
  constructor
  · intro e
    by_cases q : v = g
    · exact q
    · obtain ⟨w, _, _, _, _, _, l⟩ := far_next hg hv q
      have := lv_pos (t := t) g w
      omega
  · rintro rfl; exact lv_self v
/-- what is kept of a found place -/
def vl (t : Tre) (g v : Nat) : D := if v = g then .tup [.int 0, .int (g : Int)] else stD t g v
def kvF (t : Tre) (g : Nat) (F : List Nat) : List (Key × D) := F.map fun u : Nat => ((.inl (u : Int) : Key), vl t g u)
structure Rd2 (t : Tre) (g k : Nat) (F R : List Nat) (L : Nat) (q : Nat → Prop) : Prop where
  nF : F.Nodup
  nR : R.Nodup
  mF : ∀ v, v ∈ F ↔ v < t.n ∧ (lv t g v ≤ k + 1 ∨ (lv t g v = k + 2 ∧ q v))
  mR : ∀ v, v ∈ R ↔ v < t.n ∧ lv t g v = k + 2 ∧ q v
  len : F.length = L + R.length
abbrev S2 (p r : Addr) (t : Tre) (g : Nat) (F R : List Nat) : Sto := [(r, .l (nD R)), (p, .d (kvF t g F))]
theorem vl_first (t : Tre) (g v : Nat) : ∃ d, vl t g v = .tup [.int ((lv t g v - 1 : Nat) : Int), d] := by
  unfold vl
  by_cases e : v = g
  · rw [if_pos e, e, lv_self]; exact ⟨_, rfl⟩
  · rw [if_neg e]; exact ⟨_, rfl⟩
theorem lp_n0 {DD : DEnds} {g k u L : Nat} (hg : g < t.n) (hu : u < t.n) (lu : lv t g u = k + 1) {p r : Addr} (ne : r ≠ p) {x0 x1 x3 : Option D} : ∀ (ys : List Nat) (F R : List Nat) (q : Nat → Prop) (x6 : Option D), (∀ v ∈ ys, v ∈ nbr t u) → Rd2 t g k F R L q →
    (∀ F R x6, Rd2 t g k F R L (fun w => q w ∨ w ∈ ys) → DD.nx [x0, x1, some (.adr p), x3, some (.adr r), some (.int (u : Int)), x6] (S2 p r t g F R)) →
    forGo (dgName 6) b0_next_to DD (nD ys) [x0, x1, some (.adr p), x3, some (.adr r), some (.int (u : Int)), x6] (S2 p r t g F R)
  | [], F, R, q, x6, _, I, h => h F R x6 ⟨I.nF, I.nR, fun v => by rw [I.mF]; simp, fun v => by rw [I.mR]; simp, I.len⟩
  | y :: ys, F, R, q, x6, hy, I, h => by
    have my := hy y List.mem_cons_self
    have yl := ((mem_nbr hu).mp my).1
    have gk : getK (S2 p r t g F R) p = some (kvF t g F) := by rw [getK_other ne, getK_self]
    refine opt_of gk ?_
    show (if (!hasD (kvF t g F) (.inl (y : Int))) = true then _ else _)
    unfold kvF
    rw [hasD_nat]
    have fold : ∀ (F R : List Nat) (x6 : Option D), Rd2 t g k F R L (fun w => q w ∨ w = y) → forGo (dgName 6) b0_next_to DD (nD ys) [x0, x1, some (.adr p), x3, some (.adr r), some (.int (u : Int)), x6] (S2 p r t g F R) := fun F R x6 I2 =>
      lp_n0 hg hu lu ne ys F R (fun w => q w ∨ w = y) x6 (fun v m => hy v (List.mem_cons_of_mem _ m)) I2 fun F R x6 I3 => h F R x6 ⟨I3.nF, I3.nR, fun v => by rw [I3.mF]; simp only [List.mem_cons, or_assoc], fun v => by rw [I3.mR]; simp only [List.mem_cons, or_assoc], I3.len⟩
    by_cases m : y ∈ F
    · refine no (by rw [decide_eq_true m]; rfl) ?_
      refine fold F R _ ⟨I.nF, I.nR, fun v => ?_, fun v => ?_, I.len⟩
      · rw [I.mF]
        constructor
        · rintro ⟨a, b | b⟩
          · exact ⟨a, .inl b⟩
          · exact ⟨a, .inr ⟨b.1, .inl b.2⟩⟩
        · rintro ⟨a, b | ⟨b, c | c⟩⟩
          · exact ⟨a, .inl b⟩
          · exact ⟨a, .inr ⟨b, c⟩⟩
          · rw [c]; exact (I.mF y).mp m
      · rw [I.mR]
        constructor
        · rintro ⟨a, b, c⟩; exact ⟨a, b, .inl c⟩
        · rintro ⟨a, b, c | c⟩
          · exact ⟨a, b, c⟩
          · have := (I.mF y).mp m
            rw [c] at b ⊢
            rcases this.2 with z | z
            · omega
            · exact ⟨this.1, z⟩
    · have uF : u ∈ F := (I.mF u).mpr ⟨hu, .inl (by omega)⟩
      have wy : Tw.way t y g = y :: Tw.way t u g := (nbr_way (g := g) hu my).resolve_right fun e => by
        have := (nx_of e).2
        exact m ((I.mF y).mpr ⟨yl, .inl (by omega)⟩)
      obtain ⟨ny, ly⟩ := nx_of wy
      have yg : y ≠ g := fun e => by rw [e, lv_self] at ly; have := lv_pos (t := t) g u; omega
      refine yes (by rw [decide_eq_false m]; rfl) ?_
      obtain ⟨d0, ev⟩ := vl_first t g u
      have gu : valD (kvF t g F) (.inl (u : Int)) = some (.tup [.int ((lv t g u - 1 : Nat) : Int), d0]) := by
        rw [← ev]
        exact valD_map (fun u : Nat => (Sum.inl (u : Int) : Key)) (vl t g) F (fun a _ b _ e => by cases e; rfl) u uF
      refine opt_of gk ?_
      refine opt_of (x := (Sum.inl (u : Int) : Key)) rfl ?_
      refine opt_of gu ?_
      refine ⟨by show 2 ≤ 16777216; decide, ?_⟩
      refine opt_of gk ?_
      have few := t.few
      have lF := nd_len (n := t.n) I.nF fun v mv => ((I.mF v).mp mv).1
      have lR := nd_len (n := t.n) I.nR fun v mv => ((I.mR v).mp mv).1
      refine ⟨ft _ (by unfold kvF; rw [List.length_map]; omega), ?_⟩
      have ey : D.tup [.int (((lv t g u - 1 : Nat) : Int) + 1), .int (u : Int)] = vl t g y := by
        have := lv_pos (t := t) g u
        unfold vl stD
        rw [if_neg yg, ny]
        have : (((lv t g u - 1 : Nat) : Int) + 1) = (((Tw.way t y g).length - 1 : Nat) : Int) := by
          have : (Tw.way t y g).length = lv t g u + 1 := ly
          omega
        rw [this]
      have ep : putD (kvF t g F) (.inl (y : Int)) (D.tup [.int (((lv t g u - 1 : Nat) : Int) + 1), .int (u : Int)]) = kvF t g (F ++ [y]) := by
        rw [ey]
        exact putD_nat (f := vl t g) m
      rw [ep, setS_two ne]
      refine ⟨own_self, ?_⟩
      refine opt_of (x := nD R) getS_self ⟨ft _ (by rw [nD_len]; omega), ?_⟩
      rw [setS_fst ne, ← nD_app]
      have l2 : lv t g y = k + 2 := by omega
      have nyR : y ∉ R := fun z => m ((I.mF y).mpr ⟨yl, .inr ⟨l2, ((I.mR y).mp z).2.2⟩⟩)
      have nd1 : ∀ {A : List Nat}, A.Nodup → y ∉ A → (A ++ [y]).Nodup := fun nA h => List.nodup_append.mpr ⟨nA, by simp, fun a ma b mb => by
        rw [List.mem_singleton.mp mb]
        exact fun z => h (z ▸ ma)⟩
      refine fold (F ++ [y]) (R ++ [y]) _ ⟨nd1 I.nF m, nd1 I.nR nyR, fun v => ?_, fun v => ?_, by rw [List.length_append, List.length_append, I.len]; simp; omega⟩
      · rw [List.mem_append, List.mem_singleton, I.mF]
        constructor
        · rintro (⟨a, b | b⟩ | b)
          · exact ⟨a, .inl b⟩
          · exact ⟨a, .inr ⟨b.1, .inl b.2⟩⟩
          · rw [b]; exact ⟨yl, .inr ⟨l2, .inr rfl⟩⟩
        · rintro ⟨a, b | ⟨b, c | c⟩⟩
          · exact .inl ⟨a, .inl b⟩
          · exact .inl ⟨a, .inr ⟨b, c⟩⟩
          · exact .inr c
      · rw [List.mem_append, List.mem_singleton, I.mR]
        constructor
        · rintro (⟨a, b, c⟩ | b)
          · exact ⟨a, b, .inl c⟩
          · rw [b]; exact ⟨yl, l2, .inr rfl⟩
        · rintro ⟨a, b, c | c⟩
          · exact .inl ⟨a, b, c⟩
          · exact .inr c
theorem lp_n1 {DD : DEnds} {C : List D} {g k L : Nat} (hg : g < t.n) {p r : Addr} (ne : r ≠ p) {x1 x3 : Option D} : ∀ (us : List Nat) (F R : List Nat) (q : Nat → Prop) (x5 x6 : Option D), (∀ u ∈ us, u < t.n ∧ lv t g u = k + 1) → Rd2 t g k F R L q →
    (∀ F R x5 x6, Rd2 t g k F R L (fun w => q w ∨ ∃ u ∈ us, w ∈ nbr t u) → DD.nx [some (treeD C t), x1, some (.adr p), x3, some (.adr r), x5, x6] (S2 p r t g F R)) →
    forGo (dgName 5) b1_next_to DD (nD us) [some (treeD C t), x1, some (.adr p), x3, some (.adr r), x5, x6] (S2 p r t g F R)
  | [], F, R, q, x5, x6, _, I, h => h F R x5 x6 ⟨I.nF, I.nR, fun v => by rw [I.mF]; simp, fun v => by rw [I.mR]; simp, I.len⟩
  | u :: us, F, R, q, x5, x6, hu, I, h => by
    have h1 := hu u List.mem_cons_self
    refine ⟨C, t, u, rfl, h1.1, ?_⟩
    refine lp_n0 hg h1.1 h1.2 ne (nbr t u) F R q x6 (fun v m => m) I fun F R x6 I2 => ?_
    refine lp_n1 hg ne us F R _ (some (.int (u : Int))) x6 (fun v m => hu v (List.mem_cons_of_mem _ m)) I2 fun F R x5 x6 I3 => h F R x5 x6 ?_
    have e : ∀ w, ((q w ∨ w ∈ nbr t u) ∨ ∃ u ∈ us, w ∈ nbr t u) ↔ (q w ∨ ∃ v ∈ u :: us, w ∈ nbr t v) := fun w => by
      simp only [List.mem_cons, exists_eq_or_imp, or_assoc]
    exact ⟨I3.nF, I3.nR, fun v => by rw [I3.mF, e], fun v => by rw [I3.mR, e], I3.len⟩
theorem ln_next_to : ∀ ds post, sp_next_to ds post → ds.length = 2 := by
  rintro ds post ⟨C, t, g, rfl, _⟩
  rfl
/-- all that is found and the rim, at the start of a round -/
structure Rnd (t : Tre) (g k : Nat) (F R : List Nat) : Prop where
  nF : F.Nodup
  nR : R.Nodup
  mF : ∀ v, v ∈ F ↔ v < t.n ∧ lv t g v ≤ k + 1
  mR : ∀ v, v ∈ R ↔ v < t.n ∧ lv t g v = k + 1
theorem Rnd.all {g k : Nat} {F : List Nat} (h : Rnd t g k F []) (hg : g < t.n) : ∀ v, v ∈ F ↔ v < t.n := by
  have key : ∀ m v, v < t.n → lv t g v ≤ m → lv t g v ≤ k + 1 := by
    intro m
    induction m with
    | zero => intro v _ l; have := lv_pos (t := t) g v; omega
    | succ m ih =>
      intro v hv l
      by_cases e : v = g
      · rw [e, lv_self]; omega
      · obtain ⟨w, wl, _, _, _, _, lw⟩ := far_next hg hv e
        have := ih w wl (by omega)
        by_cases q : lv t g w = k + 1
        · exact absurd ((h.mR w).mpr ⟨wl, q⟩) (by simp)
        · omega
  intro v
  rw [h.mF]
  exact ⟨fun q => q.1, fun q => ⟨q, key _ v q (Nat.le_refl _)⟩⟩
theorem vc_next_to : ∀ ds post, sp_next_to ds post → r_next_to { nx := fun _ _ => post .non, rt := fun d _ => post d } (startD N_next_to ds) [] := by
  rintro ds post ⟨C, t, g, rfl, hg, h⟩
  refine fun p np => ?_
  refine ⟨by show 2 ≤ 16777216; decide, ?_⟩
  refine ⟨getK_self, ?_⟩
  rw [setS_one]
  refine ⟨by show 1 ≤ 16777216; decide, ?_⟩
  have e0 : [((.inl (g : Int) : Key), D.tup [.int 0, .int (g : Int)])] = kvF t g [g] := by
    unfold kvF vl
    rw [List.map_singleton, if_pos rfl]
  rw [e0]
  have start : Rnd t g 0 [g] [g] := ⟨by simp, by simp, fun v => by
    rw [List.mem_singleton]
    constructor
    · rintro rfl; exact ⟨hg, by rw [lv_self]; omega⟩
    · rintro ⟨a, b⟩
      have := lv_pos (t := t) g v
      exact (lv_one hg a).mp (by omega), fun v => by
    rw [List.mem_singleton]
    constructor
    · rintro rfl; exact ⟨hg, lv_self _⟩
    · rintro ⟨a, b⟩; exact (lv_one hg a).mp b⟩
  refine ⟨fun m δ S => ∃ (k : Nat) (F R : List Nat) (x4 x5 x6 : Option D), Rnd t g k F R ∧ m = (t.n - F.length) + (if R = [] then 0 else 1) ∧ δ = [some (treeD C t), some (.int (g : Int)), some (.adr p), some (.lst (nD R)), x4, x5, x6] ∧ S = [(p, .d (kvF t g F))],
    ⟨_, 0, [g], [g], none, none, none, start, rfl, rfl, rfl⟩, ?_⟩
  rintro m δ S ⟨k, F, R, x4, x5, x6, I, em, rfl, rfl⟩
  have few := t.few
  have lF := nd_len (n := t.n) I.nF fun v mv => ((I.mF v).mp mv).1
  show (if (!(nD R).isEmpty) = true then _ else _)
  by_cases z : R = []
  · subst z
    refine no rfl ?_
    have all := I.all hg
    have gF : g ∈ F := (all g).mpr hg
    refine opt_of (x := kvF t g F) getK_self ?_
    refine opt_of (x := (Sum.inl (g : Int) : Key)) rfl ?_
    have gv : valD (kvF t g F) (.inl (g : Int)) = some (vl t g g) := valD_map (fun u : Nat => (Sum.inl (u : Int) : Key)) (vl t g) F (fun a _ b _ e => by cases e; rfl) g gF
    refine ⟨by rw [gv]; rfl, ?_⟩
    rw [setS_one]
    refine opt_of (x := dropD (kvF t g F) (.inl (g : Int))) getK_self ?_
    have ed : dropD (kvF t g F) (.inl (g : Int)) = kvF t g (F.filter fun v => decide (v ≠ g)) := by
      unfold dropD kvF
      rw [List.filter_map]
      congr 1
      refine List.filter_congr fun v _ => ?_
      refine decide_eq_decide.mpr ⟨fun e q => e (by rw [q]), fun e q => e ?_⟩
      have q : (Sum.inl (v : Int) : Key) = Sum.inl (g : Int) := q
      cases q
      rfl
    rw [ed]
    have pm : (F.filter fun v => decide (v ≠ g)).Perm ((List.range t.n).filter fun v => decide (v ≠ g)) :=
      (List.perm_ext_iff_of_nodup (I.nF.sublist List.filter_sublist) (List.nodup_range.sublist List.filter_sublist)).mpr fun v => by
        rw [List.mem_filter, List.mem_filter, all, List.mem_range]
    have fin := h _ pm
    have e1 : (kvF t g (F.filter fun v => decide (v ≠ g))).map (·.1) = (F.filter fun v => decide (v ≠ g)).map fun v : Nat => (Sum.inl (v : Int) : Key) := by
      unfold kvF
      rw [List.map_map]
      rfl
    have e2 : (kvF t g (F.filter fun v => decide (v ≠ g))).map (·.2) = (F.filter fun v => decide (v ≠ g)).map (stD t g) := by
      unfold kvF
      rw [List.map_map]
      refine List.map_congr_left fun v mv => ?_
      have : v ≠ g := of_decide_eq_true (List.mem_filter.mp mv).2
      show vl t g v = stD t g v
      unfold vl
      rw [if_neg this]
    rw [← e1, ← e2] at fin
    exact fin
  · refine yes (by cases R with
      | nil => exact absurd rfl z
      | cons v R => rfl) ?_
    refine ⟨by show 0 ≤ 16777216; decide, fun r nr => ?_⟩
    have ne : r ≠ p := fun e => nr (by rw [e]; exact List.mem_cons_self)
    have I0 : Rd2 t g k F [] F.length (fun _ => False) := ⟨I.nF, by simp, fun v => by rw [I.mF]; simp, fun v => by simp, by simp⟩
    refine lp_n1 hg ne R F [] _ x5 x6 (fun u m => (I.mR u).mp m) I0 fun F2 R2 x5 x6 I2 => ?_
    refine opt_of (x := nD R2) getS_self ?_
    rw [delS_fst ne]
    have fromR : ∀ w, w < t.n → lv t g w = k + 2 → ∃ u ∈ R, w ∈ nbr t u := fun w wl l => by
      have wg : w ≠ g := fun e => by rw [e, lv_self] at l; omega
      obtain ⟨u, ul, _, mu, _, _, lu⟩ := far_next hg wl wg
      exact ⟨u, (I.mR u).mpr ⟨ul, by omega⟩, mu⟩
    have nextR : Rnd t g (k + 1) F2 R2 := ⟨I2.nF, I2.nR, fun v => by
      rw [I2.mF]
      constructor
      · rintro ⟨a, b | b⟩
        · exact ⟨a, by omega⟩
        · exact ⟨a, by omega⟩
      · rintro ⟨a, b⟩
        by_cases q : lv t g v = k + 2
        · exact ⟨a, .inr ⟨q, .inr (fromR v a q)⟩⟩
        · exact ⟨a, .inl (by omega)⟩, fun v => by
      rw [I2.mR]
      constructor
      · rintro ⟨a, b, _⟩; exact ⟨a, b⟩
      · rintro ⟨a, b⟩; exact ⟨a, b, .inr (fromR v a b)⟩⟩
    have lF2 := nd_len (n := t.n) I2.nF fun v mv => ((I2.mF v).mp mv).1
    have ll := I2.len
    refine ⟨_, ?_, k + 1, F2, R2, _, x5, x6, nextR, rfl, rfl, rfl⟩
    rw [em, if_neg z]
    by_cases q : R2 = []
    · rw [if_pos q]
      rw [q] at ll
      simp at ll
      omega
    · rw [if_neg q]
      have : 1 ≤ R2.length := by
        cases R2 with
        | nil => exact absurd rfl q
        | cons v R => rw [List.length_cons]; omega
      omega
end K36
end DL
namespace DL
open PySem PySem.Spec L2 Gd
namespace K36
open Tw
variable {t : Tre}
theorem way_bound {a b : Nat} (ha : a < t.n) (hb : b < t.n) : (Tw.way t a b).Nodup ∧ (∀ v ∈ Tw.way t a b, v < t.n) ∧ (Tw.way t a b).length ≤ t.n := by
  obtain ⟨m, mb, f1, ew, _⟩ := way_words (t := t) a b
  have ma : m ∈ up t a := by
    have : m ∈ (up t a).filter fun v => decide (v ∈ up t b) := by rw [f1]; exact List.mem_cons_self
    exact (List.mem_filter.mp this).1
  have na : (up t a).Nodup := (up_dec a).imp fun {a b} l => by omega
  have nb : (up t b).Nodup := (up_dec b).imp fun {a b} l => by omega
  have nd : (Tw.way t a b).Nodup := by
    rw [ew]
    refine List.nodup_append.mpr ⟨List.nodup_append.mpr ⟨na.sublist List.filter_sublist, by simp, fun x mx y my e => ?_⟩, List.pairwise_reverse.mpr ((nb.sublist List.filter_sublist).imp fun {a b} n => Ne.symm n), fun x mx y my e => ?_⟩
    · rw [List.mem_singleton.mp my] at e
      have := (List.mem_filter.mp mx).2
      rw [e, decide_eq_true mb] at this
      cases this
    · subst e
      have h2 := List.mem_filter.mp (List.mem_reverse.mp my)
      have n2 : x ∉ up t a := fun q => by have := h2.2; rw [decide_eq_true q] at this; cases this
      rcases List.mem_append.mp mx with q | q
      · exact n2 (List.mem_filter.mp q).1
      · rw [List.mem_singleton.mp q] at n2
        exact n2 ma
  have lt : ∀ v ∈ Tw.way t a b, v < t.n := fun v mv => by
    rw [ew] at mv
    rcases List.mem_append.mp mv with q | q
    · rcases List.mem_append.mp q with q | q
      · have := up_le (t := t) a v (List.mem_filter.mp q).1; omega
      · rw [List.mem_singleton.mp q]; have := up_le (t := t) b m mb; omega
    · have := up_le (t := t) b v (List.mem_filter.mp (List.mem_reverse.mp q)).1; omega
  exact ⟨nd, lt, nd_len nd lt⟩
def grV (t : Tre) (g s : Nat) : List Nat := (List.range t.n).filter fun v => decide (v ≠ g) && decide (lv t g v = s)
theorem grp_is (g s : Nat) : grp t g s = (grV t g s).map fun v => (v, nx t g v) := rfl
theorem mem_grV {g s v : Nat} : v ∈ grV t g s ↔ v < t.n ∧ v ≠ g ∧ lv t g v = s := by
  unfold grV
  rw [List.mem_filter, List.mem_range, Bool.and_eq_true, decide_eq_true_iff, decide_eq_true_iff]
theorem grps_is (g : Nat) (ss : List Nat) : ss.flatMap (grp t g) = (ss.flatMap (grV t g)).map fun v => (v, nx t g v) := by
  rw [List.map_flatMap]
  rfl
theorem lv_two {g v : Nat} (hg : g < t.n) (hv : v < t.n) (ne : v ≠ g) : 2 ≤ lv t g v ∧ lv t g v ≤ t.n + 1 := by
  have h1 : lv t g v ≠ 1 := fun e => ne ((lv_one hg hv).mp e)
  have := lv_pos (t := t) g v
  have : lv t g v ≤ t.n := (way_bound hv hg).2.2
  omega
theorem mem_all {g : Nat} (hg : g < t.n) {ss : List Nat} (hs : ∀ s, s ∈ ss ↔ 2 ≤ s ∧ s ≤ t.n + 1) {v : Nat} : v ∈ ss.flatMap (grV t g) ↔ v < t.n ∧ v ≠ g := by
  rw [List.mem_flatMap]
  constructor
  · rintro ⟨s, _, m⟩
    have := mem_grV.mp m
    exact ⟨this.1, this.2.1⟩
  · rintro ⟨h1, h2⟩
    exact ⟨lv t g v, (hs _).mpr (lv_two hg h1 h2), mem_grV.mpr ⟨h1, h2, rfl⟩⟩
theorem mem_sizes (s : Nat) : s ∈ sizes t ↔ 2 ≤ s ∧ s ≤ t.n + 1 := by
  unfold sizes
  rw [List.mem_map]
  constructor
  · rintro ⟨i, m, rfl⟩
    have := List.mem_range.mp (List.mem_reverse.mp m)
    omega
  · rintro ⟨h1, h2⟩
    exact ⟨s - 2, List.mem_reverse.mpr (List.mem_range.mpr (by omega)), by omega⟩
theorem pw_sizes : (sizes t).Pairwise (· > ·) := by
  unfold sizes
  refine List.pairwise_map.mpr ?_
  rw [List.pairwise_reverse]
  exact List.pairwise_lt_range.imp fun {a b} l => by show b + 2 > a + 2; omega
/-- a row of the sorted list -/
def fL (c : Nat → Int) (t : Tre) (g v : Nat) : List Int := [c (lv t g v), (v : Int), (nx t g v : Int)]
theorem lt_fst {a b : Int} {r s : List Int} (h : a < b) : a :: r < b :: s := List.Lex.rel h
theorem lt_snd {a : Int} {r s : List Int} (h : r < s) : a :: r < a :: s := List.Lex.cons h
theorem pw_rows {c : Nat → Int} {g : Nat} {ss : List Nat} (hc : ss.Pairwise fun a b => c a < c b) : ((ss.flatMap (grV t g)).map (fL c t g)).Pairwise (· < ·) := by
  refine List.pairwise_map.mpr ?_
  refine List.pairwise_flatMap.mpr ⟨fun s _ => ?_, hc.imp fun {a b} l x mx y my => ?_⟩
  · have p : (grV t g s).Pairwise (· < ·) := List.pairwise_lt_range.sublist List.filter_sublist
    have p2 : (grV t g s).Pairwise fun x y => x ∈ grV t g s ∧ y ∈ grV t g s ∧ x < y := List.Pairwise.and_mem.mp p
    refine p2.imp fun {x y} q => ?_
    have h1 := (mem_grV.mp q.1).2.2
    have h2 := (mem_grV.mp q.2.1).2.2
    unfold fL
    rw [h1, h2]
    exact lt_snd (lt_fst (by have := q.2.2; omega))
  · have h1 := (mem_grV.mp mx).2.2
    have h2 := (mem_grV.mp my).2.2
    unfold fL
    rw [h1, h2]
    exact lt_fst l
theorem sort_rows {c : Nat → Int} {g : Nat} (hg : g < t.n) {ss : List Nat} (hs : ∀ s, s ∈ ss ↔ 2 ≤ s ∧ s ≤ t.n + 1) (hc : ss.Pairwise fun a b => c a < c b) {l : List Nat} (pm : l.Perm ((List.range t.n).filter fun v => decide (v ≠ g))) :
    sortD (tups (l.map (fL c t g))) = tups ((ss.flatMap (grV t g)).map (fL c t g)) := by
  have inj : ∀ a b, fL c t g a = fL c t g b → a = b := fun a b e => by
    unfold fL at e
    simp only [List.cons.injEq] at e
    omega
  have ndl : l.Nodup := pm.nodup_iff.mpr (List.nodup_range.sublist List.filter_sublist)
  have ndm : (l.map (fL c t g)).Nodup := List.pairwise_map.mpr (ndl.imp fun {a b} n e => n (inj a b e))
  obtain ⟨es, e1, e2, e3⟩ := sort_tups (l.map (fL c t g)) ndm
  rw [e1]
  congr 1
  refine asc_ext linL e2 (pw_rows hc) fun k => ?_
  rw [e3, List.mem_map, List.mem_map]
  have mm : ∀ v, v ∈ l ↔ v ∈ ss.flatMap (grV t g) := fun v => by
    rw [mem_all hg hs, pm.mem_iff, List.mem_filter, List.mem_range, decide_eq_true_iff]
  constructor
  · rintro ⟨v, m, e⟩; exact ⟨v, (mm v).mp m, e⟩
  · rintro ⟨v, m, e⟩; exact ⟨v, (mm v).mpr m, e⟩
theorem zip_items (g : Nat) : ∀ l : List Nat, List.zipWith (fun k v => D.tup [kD k, v]) (l.map fun v : Nat => (Sum.inl (v : Int) : Key)) (l.map (stD t g)) = l.map fun v : Nat => D.tup [.int (v : Int), stD t g v]
  | [] => rfl
  | v :: l => by rw [List.map_cons, List.map_cons, List.zipWith_cons_cons, zip_items g l]; rfl
theorem few_all {g : Nat} {l : List Nat} (pm : l.Perm ((List.range t.n).filter fun v => decide (v ≠ g))) : l.length ≤ 8 := by
  have := List.length_filter_le (fun v => decide (v ≠ g)) (List.range t.n)
  rw [List.length_range] at this
  have := t.few
  rw [pm.length_eq]
  omega
theorem ln_steps_to : ∀ ds post, sp_steps_to ds post → ds.length = 2 := by
  rintro ds post ⟨C, t, g, rfl, _⟩
  rfl
theorem ln_steps_from : ∀ ds post, sp_steps_from ds post → ds.length = 2 := by
  rintro ds post ⟨C, t, g, rfl, _⟩
  rfl
theorem vc_steps_to : ∀ ds post, sp_steps_to ds post → r_steps_to { nx := fun _ _ => post .non, rt := fun d _ => post d } (startD N_steps_to ds) [] := by
  rintro ds post ⟨C, t, g, rfl, hg, h⟩
  refine ⟨C, t, g, rfl, hg, fun l pm => ?_⟩
  have l8 := few_all pm
  show lcGo _ _ _ _ _ _ (List.zipWith (fun k v => D.tup [kD k, v]) (l.map fun v : Nat => (Sum.inl (v : Int) : Key)) (l.map (stD t g))) [] _
  rw [zip_items]
  refine lc_map (fun v : Nat => D.tup [.int (v : Int), stD t g v]) (fun v => tupI (fL (fun s => -((s - 1 : Nat) : Int)) t g v)) l (by omega) (fun v mv k hk => ?_) ?_
  · exact ⟨rfl, rfl, by show 3 ≤ 16777216; decide, hk⟩
  have ed : l.map (fun v => tupI (fL (fun s => -((s - 1 : Nat) : Int)) t g v)) = tups (l.map (fL (fun s => -((s - 1 : Nat) : Int)) t g)) := by unfold tups; rw [List.map_map]; rfl
  rw [ed]
  refine ⟨sortOk_tups _, ?_⟩
  rw [sort_rows hg mem_sizes (by
    have : (sizes t).Pairwise fun a b => a > b ∧ 2 ≤ a ∧ 2 ≤ b := (List.Pairwise.and_mem.mp (pw_sizes (t := t))).imp fun {a b} q => ⟨q.2.2, ((mem_sizes _).mp q.1).1, ((mem_sizes _).mp q.2.1).1⟩
    exact this.imp fun {a b} q => by show -((a - 1 : Nat) : Int) < -((b - 1 : Nat) : Int); omega) pm]
  have lf : ((sizes t).flatMap (grV t g)).length ≤ 8 := by
    have nd : ((sizes t).flatMap (grV t g)).Nodup := by
      have := pw_rows (t := t) (g := g) (c := fun s => -((s : Nat) : Int)) (ss := sizes t) (pw_sizes.imp fun {a b} q => by omega)
      exact (List.pairwise_map.mp this).imp fun {a b} q e => by rw [e] at q; exact List.lt_irrefl _ q
    have := nd_len (n := t.n) nd fun v m => ((mem_all hg mem_sizes).mp m).1
    have := t.few
    omega
  have et : tups (((sizes t).flatMap (grV t g)).map (fL (fun s => -((s - 1 : Nat) : Int)) t g)) = ((sizes t).flatMap (grV t g)).map fun v => tupI (fL (fun s => -((s - 1 : Nat) : Int)) t g v) := by unfold tups; rw [List.map_map]; rfl
  rw [et]
  refine lc_map (fun v => tupI (fL (fun s => -((s - 1 : Nat) : Int)) t g v)) (fun v => prD (v, nx t g v)) _ (by omega) (fun v mv k hk => ?_) ?_
  · exact ⟨rfl, by show 2 ≤ 16777216; decide, hk⟩
  have ei : (inw t g).map prD = ((sizes t).flatMap (grV t g)).map fun v => prD (v, nx t g v) := by unfold inw; rw [grps_is, List.map_map]; rfl
  rw [ei] at h
  exact h
theorem mem_rsz (s : Nat) : s ∈ (sizes t).reverse ↔ 2 ≤ s ∧ s ≤ t.n + 1 := by rw [List.mem_reverse, mem_sizes]
theorem pw_rsz : (sizes t).reverse.Pairwise (· < ·) := List.pairwise_reverse.mpr pw_sizes
theorem len_all {g : Nat} (hg : g < t.n) : ((sizes t).flatMap (grV t g)).Nodup ∧ ((sizes t).flatMap (grV t g)).length ≤ 8 := by
  have nd : ((sizes t).flatMap (grV t g)).Nodup := by
    have := pw_rows (t := t) (g := g) (c := fun s => -((s : Nat) : Int)) (ss := sizes t) (pw_sizes.imp fun {a b} q => by omega)
    exact (List.pairwise_map.mp this).imp fun {a b} q e => by rw [e] at q; exact List.lt_irrefl _ q
  have := nd_len (n := t.n) nd fun v m => ((mem_all hg mem_sizes).mp m).1
  have := t.few
  exact ⟨nd, by omega⟩
theorem len_rall {g : Nat} (hg : g < t.n) : ((sizes t).reverse.flatMap (grV t g)).Nodup ∧ ((sizes t).reverse.flatMap (grV t g)).length ≤ 8 := by
  have nd : ((sizes t).reverse.flatMap (grV t g)).Nodup := by
    have := pw_rows (t := t) (g := g) (c := fun s => ((s : Nat) : Int)) (ss := (sizes t).reverse) (pw_rsz.imp fun {a b} q => by omega)
    exact (List.pairwise_map.mp this).imp fun {a b} q e => by rw [e] at q; exact List.lt_irrefl _ q
  have := nd_len (n := t.n) nd fun v m => ((mem_all hg mem_rsz).mp m).1
  have := t.few
  exact ⟨nd, by omega⟩
theorem out_is (g : Nat) : (outw t g).map prD = ((sizes t).reverse.flatMap (grV t g)).map fun v => prD (nx t g v, v) := by
  unfold outw
  rw [grps_is, List.map_map, List.map_map]
  rfl
theorem in_is (g : Nat) : (inw t g).map prD = ((sizes t).flatMap (grV t g)).map fun v => prD (v, nx t g v) := by unfold inw; rw [grps_is, List.map_map]; rfl
theorem vc_steps_from : ∀ ds post, sp_steps_from ds post → r_steps_from { nx := fun _ _ => post .non, rt := fun d _ => post d } (startD N_steps_from ds) [] := by
  rintro ds post ⟨C, t, g, rfl, hg, h⟩
  refine ⟨C, t, g, rfl, hg, fun l pm => ?_⟩
  have l8 := few_all pm
  show lcGo _ _ _ _ _ _ (List.zipWith (fun k v => D.tup [kD k, v]) (l.map fun v : Nat => (Sum.inl (v : Int) : Key)) (l.map (stD t g))) [] _
  rw [zip_items]
  refine lc_map (fun v : Nat => D.tup [.int (v : Int), stD t g v]) (fun v => tupI (fL (fun s => ((s - 1 : Nat) : Int)) t g v)) l (by omega) (fun v mv k hk => ?_) ?_
  · exact ⟨rfl, rfl, by show 3 ≤ 16777216; decide, hk⟩
  have ed : l.map (fun v => tupI (fL (fun s => ((s - 1 : Nat) : Int)) t g v)) = tups (l.map (fL (fun s => ((s - 1 : Nat) : Int)) t g)) := by unfold tups; rw [List.map_map]; rfl
  rw [ed]
  refine ⟨sortOk_tups _, ?_⟩
  rw [sort_rows hg mem_rsz (by
    have : (sizes t).reverse.Pairwise fun a b => a < b ∧ 2 ≤ a ∧ 2 ≤ b := (List.Pairwise.and_mem.mp (pw_rsz (t := t))).imp fun {a b} q => ⟨q.2.2, ((mem_rsz _).mp q.1).1, ((mem_rsz _).mp q.2.1).1⟩
    exact this.imp fun {a b} q => by show ((a - 1 : Nat) : Int) < ((b - 1 : Nat) : Int); omega) pm]
  have lf := (len_rall (t := t) hg).2
  have et : tups (((sizes t).reverse.flatMap (grV t g)).map (fL (fun s => ((s - 1 : Nat) : Int)) t g)) = ((sizes t).reverse.flatMap (grV t g)).map fun v => tupI (fL (fun s => ((s - 1 : Nat) : Int)) t g v) := by unfold tups; rw [List.map_map]; rfl
  rw [et]
  refine lc_map (fun v => tupI (fL (fun s => ((s - 1 : Nat) : Int)) t g v)) (fun v => prD (nx t g v, v)) _ (by omega) (fun v mv k hk => ?_) ?_
  · exact ⟨rfl, by show 2 ≤ 16777216; decide, hk⟩
  rw [out_is] at h
  exact h
end K36
end DL
namespace DL
open PySem PySem.Spec L2 Gd
namespace K36
open Tw
variable {t : Tre}
/-! ### steps joining -/
def kvT (F : List Nat) : List (Key × D) := F.map fun u : Nat => ((.inl (u : Int) : Key), D.bl true)
theorem putT (F : List Nat) (v : Nat) : putD (kvT F) (.inl (v : Int)) (.bl true) = if v ∈ F then kvT F else kvT (F ++ [v]) := by
  by_cases m : v ∈ F
  · rw [if_pos m]
    unfold putD
    have hm : ((kvT F).any fun kv => decide (kv.1 = Sum.inl (v : Int))) = true := List.any_eq_true.mpr ⟨_, List.mem_map.mpr ⟨v, m, rfl⟩, decide_eq_true rfl⟩
    rw [if_pos hm]
    unfold kvT
    rw [List.map_map]
    refine List.map_congr_left fun u _ => ?_
    show (if (Sum.inl (u : Int) : Key) = Sum.inl (v : Int) then _ else _) = _
    split
    · rfl
    · rfl
  · rw [if_neg m]
    exact putD_nat (f := fun _ => D.bl true) m
theorem dc_inner {δ : Sl} {S : Sto} {k : List (Key × D) → Sto → Prop} {vs : List Nat} (hv : ∀ (v : Nat) (kk : D → Sto → Prop), kk (iN v) S → dgName 5 (iN v) (wipeD δ vs) fun δ1 => dVar 5 δ1 S kk) : ∀ (ys F : List Nat), F.length + ys.length ≤ 1000 →
    (∀ F', (∀ v, v ∈ F' ↔ v ∈ F ∨ v ∈ ys) → F'.length ≤ F.length + ys.length → k (kvT F') S) → dcnGo (dgName 5) dYes (dnEK (dVar 5) (dC (.bl true))) vs δ k (nD ys) (kvT F) S
  | [], F, _, h => h F (fun v => by simp) (by simp)
  | y :: ys, F, hl, h => by
    rw [List.length_cons] at hl
    refine hv y (fun kd S1 => opt (keyOf kd) fun ky => Fit ((kvT F).length + 1) ∧ dcnGo (dgName 5) dYes (dnEK (dVar 5) (dC (.bl true))) vs δ k (nD ys) (putD (kvT F) ky (.bl true)) S1) ?_
    refine ⟨ft _ (by unfold kvT; rw [List.length_map]; omega), ?_⟩
    rw [putT]
    by_cases m : y ∈ F
    · rw [if_pos m]
      refine dc_inner hv ys F (by omega) fun F' e l => h F' (fun v => ?_) (by rw [List.length_cons]; omega)
      rw [e, List.mem_cons]
      constructor
      · rintro (q | q)
        · exact .inl q
        · exact .inr (.inr q)
      · rintro (q | q | q)
        · exact .inl q
        · rw [q]; exact .inl m
        · exact .inr q
    · rw [if_neg m]
      refine dc_inner hv ys (F ++ [y]) (by rw [List.length_append, List.length_singleton]; omega) fun F' e l => h F' (fun v => ?_) (by rw [List.length_cons]; rw [List.length_append, List.length_singleton] at l; omega)
      rw [e, List.mem_cons, List.mem_append, List.mem_singleton, or_assoc]
theorem ln_steps_joining : ∀ ds post, sp_steps_joining ds post → ds.length = 3 := by
  rintro ds post ⟨C, t, lot, g, rfl, _⟩
  rfl
theorem dc_outer {C : List D} {g : Nat} (hg : g < t.n) {S : Sto} {k : List (Key × D) → Sto → Prop} {x1 x3 x4 x5 x6 : Option D} : ∀ (lot F : List Nat), (∀ v ∈ lot, v < t.n) → F.length + 8 * lot.length ≤ 100 →
    (∀ F', (∀ v, v ∈ F' ↔ v ∈ F ∨ ∃ u ∈ lot, v ∈ Tw.way t u g) → k (kvT F') S) →
    dcnGo (dgName 4) dYes (dnCK (dSeq (dCall sp_cluster_way (dCons (dVar 0) (dCons (dVar 4) (dCons (dVar 2) dNil))))) (dgName 5) dYes (dnEK (dVar 5) (dC (.bl true))) [5]) [4, 5] [some (treeD C t), x1, some (.int (g : Int)), x3, x4, x5, x6] k (nD lot) (kvT F) S
  | [], F, _, _, h => h F fun v => by simp
  | u :: lot, F, hl, hb, h => by
    have ul := hl u List.mem_cons_self
    rw [List.length_cons] at hb
    refine ⟨C, t, u, g, rfl, ul, hg, ?_⟩
    have wl := (way_bound (t := t) ul hg).2.2
    have few := t.few
    refine dc_inner (δ := [some (treeD C t), x1, some (.int (g : Int)), x3, some (.int (u : Int)), none, x6]) (vs := [5]) (fun v kk hk => hk) (Tw.way t u g) F (by omega) fun F' e l => ?_
    refine dc_outer hg lot F' (fun v m => hl v (List.mem_cons_of_mem _ m)) (by omega) fun F2 e2 => h F2 fun v => ?_
    rw [e2, e]
    simp only [List.mem_cons, exists_eq_or_imp, or_assoc]
theorem vc_steps_joining : ∀ ds post, sp_steps_joining ds post → r_steps_joining { nx := fun _ _ => post .non, rt := fun d _ => post d } (startD N_steps_joining ds) [] := by
  rintro ds post ⟨C, t, lot, g, rfl, hl, l8, hg, h⟩
  show dcnGo _ _ _ _ _ _ (nD lot) (kvT []) []
  refine dc_outer hg lot [] hl (by simp; omega) fun F e => ?_
  refine ⟨C, t, g, rfl, hg, ?_⟩
  show lcGo _ _ _ _ _ _ ((inw t g).map prD) [] _
  have li : (inw t g).length ≤ 8 := by
    have := (len_all (t := t) hg).2
    unfold inw
    rw [grps_is, List.length_map]
    exact this
  refine lc_filter prD (fun p => lot.any fun v => decide (p.1 ∈ Tw.way t v g)) prD (inw t g) (by omega) (fun p mp kf kk h1 h0 => ?_) h
  have eh : hasD (kvT F) (.inl (p.1 : Int)) = (lot.any fun v => decide (p.1 ∈ Tw.way t v g)) := by
    unfold kvT
    rw [hasD_nat (f := fun _ => D.bl true)]
    refine Bool.eq_iff_iff.mpr ?_
    rw [decide_eq_true_iff, e, List.any_eq_true]
    simp
  show (if hasD (((kvT F).map (·.1)).zip ((kvT F).map (·.2))) (.inl (p.1 : Int)) = true then _ else _)
  rw [zip_unzip, eh]
  cases q : (lot.any fun v => decide (p.1 ∈ Tw.way t v g)) with
  | true => exact yes rfl (h1 q)
  | false => exact no rfl (h0 q)
end K36
end DL
namespace DL
open PySem PySem.Spec L2 Gd
namespace K36
open Tw
theorem ln__law_box : ∀ ds post, sp__law_box ds post → ds.length = 2 := lnBox
theorem vc__law_box : ∀ ds post, sp__law_box ds post → r__law_box { nx := fun _ _ => False, rt := fun d S => ∃ p ns, d = .adr p ∧ getS S p = some (ns.map D.int) ∧ post ns } (startD N__law_box ds) [] := vcBox
theorem vc__law_take : ∀ (b : Addr) (x y z m : Int), BxOk x y z → 1 ≤ m → m < 2 ^ 62 → r__law_take { nx := fun _ _ => False, rt := takeEnd b m } (startD N__law_take [.adr b, .int m]) [(b, Cel.l [.int x, .int y, .int z])] := vcTake
theorem ln__law_pick : ∀ a ds post, sp__law_pick a ds post → ds.length = 2 := lnPick
theorem vc__law_pick (a : Addr) : ∀ ds post, sp__law_pick a ds post → r__law_pick a { nx := fun _ _ => post .non, rt := fun d _ => post d } (startD N__law_pick ds) [] := vcPick a
theorem ln__law_tree : ∀ a ds post, sp__law_tree a ds post → ds.length = 1 := by
  rintro a ds post ⟨rfl, _⟩
  rfl
/-- what is above each place so far -/
structure Abv (A : List Int) : Prop where
  root : ∀ x, A[0]? = some x → x = -1
  low : ∀ (j : Nat) x, 0 < j → A[j]? = some x → 0 ≤ x ∧ x < (j : Int)
theorem Abv.tree {A : List Int} (h : Abv A) (l1 : 1 ≤ A.length) (l8 : A.length ≤ 8) : ∃ t : Tre, abI t = A := by
  refine ⟨⟨A.length, fun j => ((A[j]?).getD 0).toNat, l1, l8, fun j j0 => ?_⟩, ?_⟩
  · cases e : A[j]? with
    | none => show ((none : Option Int).getD 0).toNat < j; exact j0
    | some x =>
      have := h.low j x j0 e
      show x.toNat < j
      omega
  · unfold abI
    refine List.ext_getElem? fun j => ?_
    rw [List.getElem?_map]
    show ((List.range A.length)[j]?).map _ = _
    by_cases l : j < A.length
    · rw [List.getElem?_range l]
      obtain ⟨x, e⟩ : ∃ x, A[j]? = some x := ⟨A[j], List.getElem?_eq_getElem l⟩
      rw [e]
      show some (abv _ j) = some x
      unfold abv
      by_cases z : j = 0
      · rw [if_pos z]
        subst z
        rw [h.root x e]
      · rw [if_neg z]
        have := h.low j x (by omega) e
        show some ((((A[j]?).getD 0).toNat : Nat) : Int) = _
        rw [e]
        show some ((x.toNat : Nat) : Int) = _
        rw [Int.toNat_of_nonneg this.1]
    · rw [List.getElem?_eq_none (by rw [List.length_range]; omega), List.getElem?_eq_none (by omega)]
      rfl
abbrev tS (a p q : Addr) (x1 x4 x5 : Option D) : Sl := [some (.adr a), x1, some (.adr p), some (.adr q), x4, x5]
theorem lp_tree {DD : DEnds} {a p q : Addr} (ne : q ≠ p) : ∀ (k : Nat) (Cl : List (List Int)) (A : List Int) (x1 x4 x5 : Option D), Cl.length = A.length → A.length + k ≤ 8 → Abv A → (∀ c ∈ Cl, c ≠ []) →
    (∀ (Cl : List (List Int)) (A2 : List Int) (x1 x4 x5 : Option D), Abv A2 → A2.length = A.length + k → DD.nx (tS a p q x1 x4 x5) [(q, .l (A2.map D.int)), (p, .l (tups Cl))]) →
    forGo (dgName 1) (b0__law_tree a) DD ((List.range' A.length k).map fun i : Nat => D.int (i : Int)) (tS a p q x1 x4 x5) [(q, .l (A.map D.int)), (p, .l (tups Cl))]
  | 0, Cl, A, x1, x4, x5, _, _, hA, _, h => h Cl A x1 x4 x5 hA (by omega)
  | k + 1, Cl, A, x1, x4, x5, lc, l8, hA, hC, h => by
    rw [List.range'_succ, List.map_cons]
    -- what is put behind the choice of the upper place
    have rest : ∀ (u : Int) (kp : List Int), (A.length = 0 → u = -1) → (0 < A.length → 0 ≤ u ∧ u < (A.length : Int)) → kp.length ≤ 1 →
        (dSeqS (dDrop (dML fAppend (dVar 2) (dCons (dCB (one fTuple) (dCons (dCB (one fSorted) (dCons (dOp fAdd (dVar 5) (dLst (dCons (dVar 1) dNil))) dNil)) dNil)) dNil))) (dDrop (dML fAppend (dVar 3) (dCons (dVar 4) dNil))))
          { DD with nx := forGo (dgName 1) (b0__law_tree a) DD ((List.range' (A.length + 1) k).map fun i : Nat => D.int (i : Int)), ct := forGo (dgName 1) (b0__law_tree a) DD ((List.range' (A.length + 1) k).map fun i : Nat => D.int (i : Int)), bk := DD.nx }
          (tS a p q (some (.int (A.length : Int))) (some (.int u)) (some (.lst (kp.map D.int)))) [(q, .l (A.map D.int)), (p, .l (tups Cl))] := fun u kp u0 u1 lk => by
      refine ⟨own_next ne, ?_⟩
      refine ⟨by show 1 ≤ 16777216; decide, ?_⟩
      refine ⟨ft _ (by rw [List.length_map]; show kp.length + 1 ≤ 1000000; omega), ?_⟩
      obtain ⟨es, e1, e2, e3⟩ := sort_ints (kp ++ [(A.length : Int)])
      have ek : kp.map D.int ++ [D.int (A.length : Int)] = (kp ++ [(A.length : Int)]).map D.int := by rw [List.map_append]; rfl
      have e4 : sortD (kp.map D.int ++ [D.int (A.length : Int)]) = es.map D.int := by rw [ek]; exact e1
      refine ⟨by rw [ek]; exact sortOk_ints _, ?_⟩
      rw [e4]
      have gp : getS [(q, Cel.l (A.map D.int)), (p, Cel.l (tups Cl))] p = some (tups Cl) := by rw [getS_other ne, getS_self]
      refine opt_of gp ⟨ft _ (by unfold tups; rw [List.length_map]; omega), ?_⟩
      rw [setS_two ne]
      have e5 : tups Cl ++ [D.tup (es.map D.int)] = tups (Cl ++ [es]) := by unfold tups; rw [List.map_append]; rfl
      rw [e5]
      refine ⟨own_self, ?_⟩
      refine opt_of (x := A.map D.int) getS_self ⟨ft _ (by rw [List.length_map]; omega), ?_⟩
      rw [setS_fst ne]
      have e6 : A.map D.int ++ [D.int u] = (A ++ [u]).map D.int := by rw [List.map_append]; rfl
      rw [e6]
      have la : (A ++ [u]).length = A.length + 1 := by rw [List.length_append, List.length_singleton]
      have hA2 : Abv (A ++ [u]) := by
        refine ⟨fun x e => ?_, fun j x j0 e => ?_⟩
        · by_cases z : A.length = 0
          · have : A = [] := List.length_eq_zero_iff.mp z
            subst this
            cases e
            exact u0 rfl
          · rw [List.getElem?_append_left (by omega)] at e
            exact hA.root x e
        · by_cases l : j < A.length
          · rw [List.getElem?_append_left l] at e
            exact hA.low j x j0 e
          · have lj := (List.getElem?_eq_some_iff.mp e).1
            rw [la] at lj
            have ej : j = A.length := by omega
            subst ej
            rw [List.getElem?_append_right (Nat.le_refl _), Nat.sub_self] at e
            cases e
            exact u1 j0
      have ih := lp_tree (DD := DD) (a := a) ne k (Cl ++ [es]) (A ++ [u]) (some (.int (A.length : Int))) (some (.int u)) (some (.lst (kp.map D.int))) (by rw [List.length_append, List.length_append, lc]; rfl) (by rw [la]; omega) hA2 (fun c m => by
        rcases List.mem_append.mp m with m | m
        · exact hC c m
        · rw [List.mem_singleton.mp m]
          intro z
          have := e3.length_eq
          rw [z] at this
          simp at this) fun C2 A2 x1 x4 x5 h2 l2 => h C2 A2 x1 x4 x5 h2 (by rw [l2, la]; omega)
      rw [la] at ih
      exact ih
    show (if decide ((0 : Int) < (A.length : Int)) = true then _ else _)
    by_cases z : 0 < A.length
    · refine yes (decide_eq_true (by omega)) ?_
      refine ⟨(A.length : Int), rfl, by omega, by omega, fun r1 r10 r11 => ?_⟩
      refine ⟨⟨by decide, by decide⟩, ?_⟩
      refine ⟨(A.length : Int), rfl, by omega, by omega, fun r2 r20 r21 => ?_⟩
      refine ⟨by show 4 ≤ 16777216; decide, ?_⟩
      refine ⟨4, rfl, by decide, by decide, fun w w0 w1 => ?_⟩
      have up : ∀ u : Int, 0 ≤ u → u < (A.length : Int) → (dSeqS (dSet 5 (dIfE (dAnd (dTest (dOp fGt (dVar 1) (dC (.int 0)))) (dTest (dOp fGt (dCall (spTake a) (dCons (dVar 0) (dCons (dC (.int 4)) dNil))) (dC (.int 0))))) (dLst (dCons (dOp fIx (dOp fIx (dVar 2) (dVar 4)) (dUn fNeg (dC (.int 1)))) dNil)) (dLst dNil))) (dSeqS (dDrop (dML fAppend (dVar 2) (dCons (dCB (one fTuple) (dCons (dCB (one fSorted) (dCons (dOp fAdd (dVar 5) (dLst (dCons (dVar 1) dNil))) dNil)) dNil)) dNil))) (dDrop (dML fAppend (dVar 3) (dCons (dVar 4) dNil)))))
          { DD with nx := forGo (dgName 1) (b0__law_tree a) DD ((List.range' (A.length + 1) k).map fun i : Nat => D.int (i : Int)), ct := forGo (dgName 1) (b0__law_tree a) DD ((List.range' (A.length + 1) k).map fun i : Nat => D.int (i : Int)), bk := DD.nx }
          (tS a p q (some (.int (A.length : Int))) (some (.int u)) x5) [(q, .l (A.map D.int)), (p, .l (tups Cl))] := fun u u0 u1 => by
        show (if decide ((0 : Int) < (A.length : Int)) = true then _ else _)
        refine yes (decide_eq_true (by omega)) ?_
        refine ⟨4, rfl, by decide, by decide, fun v v0 v1 => ?_⟩
        show (if decide ((0 : Int) < v) = true then _ else _)
        by_cases q0 : 0 < v
        · refine yes (decide_eq_true q0) ?_
          have gp : getS [(q, Cel.l (A.map D.int)), (p, Cel.l (tups Cl))] p = some (tups Cl) := by rw [getS_other ne, getS_self]
          refine opt_of gp ?_
          obtain ⟨m, rfl⟩ := Int.eq_ofNat_of_zero_le u0
          have lm : m < Cl.length := by omega
          have ec : atI (tups Cl) (m : Int) = some (tupI Cl[m]) := by
            rw [atI_nat]
            unfold tups
            rw [List.getElem?_map, List.getElem?_eq_getElem lm]
            rfl
          refine opt_of ec ?_
          have cn := hC Cl[m] (List.getElem_mem lm)
          obtain ⟨c', x, ex⟩ : ∃ c' x, Cl[m] = c' ++ [x] := by
            rcases List.eq_nil_or_concat Cl[m] with q | ⟨c', x, q⟩
            · exact absurd q cn
            · exact ⟨c', x, by rw [q, List.concat_eq_append]⟩
          have el : atI (Cl[m].map D.int) (-1) = some (.int x) := by
            rw [ex, List.map_append]
            exact atI_last _ _
          refine opt_of el ?_
          refine ⟨by show 1 ≤ 16777216; decide, ?_⟩
          exact rest (m : Int) [x] (fun z => by omega) (fun _ => ⟨u0, u1⟩) (by simp)
        · refine no (decide_eq_false q0) ?_
          refine ⟨by show 0 ≤ 16777216; decide, ?_⟩
          exact rest u [] (fun z => by omega) (fun _ => ⟨u0, u1⟩) (by decide)
      have w4 : w = 0 ∨ w = 1 ∨ w = 2 ∨ w = 3 := by omega
      rcases w4 with rfl | rfl | rfl | rfl
      · exact up r1 r10 r11
      · exact up ((A.length : Int) - 1) (by omega) (by omega)
      · exact up ((A.length : Int) / 2) (by omega) (by omega)
      · exact up r2 r20 r21
    · refine no (decide_eq_false (by omega)) ?_
      show (if decide ((0 : Int) < (A.length : Int)) = true then _ else _)
      refine no (decide_eq_false (by omega)) ?_
      refine ⟨by show 0 ≤ 16777216; decide, ?_⟩
      exact rest (-1) [] (fun _ => rfl) (fun z2 => absurd z2 z) (by decide)
theorem vc__law_tree (a : Addr) : ∀ ds post, sp__law_tree a ds post → r__law_tree a { nx := fun _ _ => post .non, rt := fun d _ => post d } (startD N__law_tree ds) [] := by
  rintro ds post ⟨rfl, h⟩
  refine ⟨by show 0 ≤ 16777216; decide, fun p np hp => ?_⟩
  refine ⟨by show 0 ≤ 16777216; decide, fun q nq hq => ?_⟩
  have ne : q ≠ p := fun e => hq (by rw [e]; exact List.mem_cons_self)
  refine ⟨rfl, ?_⟩
  refine ⟨by show 8 ≤ 16777216; decide, ?_⟩
  refine ⟨_, rfl, by simp, by simp, fun y my => ?_⟩
  obtain ⟨n, rfl, n1, n8⟩ : ∃ n : Nat, y = .int (n : Int) ∧ 1 ≤ n ∧ n ≤ 8 := by
    simp only [List.mem_cons, List.not_mem_nil, or_false] at my
    rcases my with rfl | rfl | rfl | rfl | rfl | rfl | rfl | rfl
    · exact ⟨1, rfl, by decide, by decide⟩
    · exact ⟨6, rfl, by decide, by decide⟩
    · exact ⟨3, rfl, by decide, by decide⟩
    · exact ⟨5, rfl, by decide, by decide⟩
    · exact ⟨2, rfl, by decide, by decide⟩
    · exact ⟨8, rfl, by decide, by decide⟩
    · exact ⟨5, rfl, by decide, by decide⟩
    · exact ⟨4, rfl, by decide, by decide⟩
  refine ⟨by unfold Rg; omega, ?_⟩
  rw [Int.toNat_natCast, rngD_nD]
  have e0 : nD (List.range n) = (List.range' ([] : List Int).length n).map fun i : Nat => D.int (i : Int) := by
    rw [List.length_nil, ← List.range_eq_range']
    rfl
  rw [e0]
  refine lp_tree ne n [] [] none none none rfl (by rw [List.length_nil]; omega) ⟨fun x e => by simp at e, fun j x _ e => by simp at e⟩ (fun c m => nomatch m) fun Cl A x1 x4 x5 hA l => ?_
  rw [List.length_nil, Nat.zero_add] at l
  obtain ⟨t, et⟩ := hA.tree (by omega) (by omega)
  refine opt_of (x := tups Cl) (by rw [getS_other ne, getS_self]) ?_
  rw [delS_snd ne]
  refine opt_of (x := A.map D.int) getS_self ?_
  refine ⟨by show 2 ≤ 16777216; decide, ?_⟩
  have := h (tups Cl) t
  unfold treeD at this
  rw [et] at this
  exact this
end K36
end DL
namespace DL
open PySem PySem.Spec L2 Gd
namespace K36
open Tw
variable {t : Tre}
theorem ln__law_steps : ∀ ds post, sp__law_steps ds post → ds.length = 2 := by
  rintro ds post ⟨t, g, rfl, _⟩
  rfl
def oth (t : Tre) (g : Nat) : List Nat := (List.range t.n).filter fun v => decide (v ≠ g)
def wyD (t : Tre) (g v : Nat) : D := .lst (nD (Tw.way t v g))
theorem mem_oth {g v : Nat} : v ∈ oth t g ↔ v < t.n ∧ v ≠ g := by unfold oth; rw [List.mem_filter, List.mem_range, decide_eq_true_iff]
theorem oth_len (g : Nat) : (oth t g).length ≤ 8 := by
  have := List.length_filter_le (fun v => decide (v ≠ g)) (List.range t.n)
  rw [List.length_range] at this
  have := t.few
  unfold oth
  omega
theorem oth_grp (g s : Nat) : (oth t g).filter (fun v => decide (lv t g v = s)) = grV t g s := by
  unfold oth grV
  rw [List.filter_filter]
  refine List.filter_congr fun v _ => ?_
  rw [Bool.and_comm]
theorem way_two {g v : Nat} (hg : g < t.n) (hv : v < t.n) (ne : v ≠ g) : ∃ r, Tw.way t v g = v :: nx t g v :: r := by
  obtain ⟨w, _, e, _, _, en, _⟩ := far_next hg hv ne
  obtain ⟨r, er⟩ := way_head (t := t) w g
  exact ⟨r, by rw [e, er, en]⟩
theorem pairs_in {S : Sto} {Q : D → Sto → Prop} {g s : Nat} (hg : g < t.n) {x0 x1 x4 x5 x6 x7 : Option D} {i j : Int} {f : Nat → D} (hf : ∀ v r, Tw.way t v g = v :: nx t g v :: r → atI (nD (Tw.way t v g)) i = some (.int (if i = 0 then (v : Int) else (nx t g v : Int))) ∧ atI (nD (Tw.way t v g)) j = some (.int (if j = 0 then (v : Int) else (nx t g v : Int))) ∧ f v = .tup [.int (if i = 0 then (v : Int) else (nx t g v : Int)), .int (if j = 0 then (v : Int) else (nx t g v : Int))])
    (h : Q (.lst ((grV t g s).map f)) S) :
    lcGo (dgName 7) (dTest (dOp fEq (dCB (one fLen) (dCons (dVar 7) dNil)) (dVar 3))) (dTup (dCons (dOp fIx (dVar 7) (dC (.int i))) (dCons (dOp fIx (dVar 7) (dC (.int j))) dNil))) [7] [x0, x1, some (.lst ((oth t g).map (wyD t g))), some (.int (s : Int)), x4, x5, x6, x7] Q ((oth t g).map (wyD t g)) [] S := by
  refine lc_filter (wyD t g) (fun v => decide (lv t g v = s)) f (oth t g) (by have := oth_len (t := t) g; omega) (fun v mv kf kk h1 h0 => ?_) (by rw [oth_grp]; exact h)
  have hv := mem_oth.mp mv
  show (if decide ((((nD (Tw.way t v g)).length : Nat) : Int) = (s : Int)) = true then _ else _)
  have el : (nD (Tw.way t v g)).length = lv t g v := nD_len _
  rw [el]
  by_cases e : lv t g v = s
  · refine yes (decide_eq_true (by omega)) ?_
    obtain ⟨r, er⟩ := way_two hg hv.1 hv.2
    obtain ⟨a1, a2, a3⟩ := hf v r er
    refine opt_of a1 ?_
    refine opt_of a2 ?_
    have := h1 (decide_eq_true e)
    rw [a3] at this
    exact ⟨by show 2 ≤ 16777216; decide, this⟩
  · exact no (decide_eq_false (by omega)) (h0 (decide_eq_false e))
theorem at_one (a b : Nat) (r : List Nat) : atI (nD (a :: b :: r)) 1 = some (.int (b : Int)) := atI_nat (nD (a :: b :: r)) 1
theorem lp_steps {DD : DEnds} {g : Nat} (hg : g < t.n) {x0 x1 x6 x7 : Option D} : ∀ (ss : List Nat) (I O : List D) (x3 : Option D), I.length + 8 * ss.length ≤ 1000 → O.length + 8 * ss.length ≤ 1000 →
    (∀ x3, DD.nx [x0, x1, some (.lst ((oth t g).map (wyD t g))), x3, some (.lst (I ++ (ss.flatMap (grV t g)).map fun v => prD (v, nx t g v))), some (.lst ((ss.reverse.flatMap (grV t g)).map (fun v => prD (nx t g v, v)) ++ O)), x6, x7] []) →
    forGo (dgName 3) b0__law_steps DD (nD ss) [x0, x1, some (.lst ((oth t g).map (wyD t g))), x3, some (.lst I), some (.lst O), x6, x7] []
  | [], I, O, x3, _, _, h => by
    have := h x3
    rw [List.flatMap_nil, List.map_nil, List.append_nil, List.reverse_nil, List.flatMap_nil, List.map_nil, List.nil_append] at this
    exact this
  | s :: ss, I, O, x3, h1, h2, h => by
    rw [List.length_cons] at h1 h2
    have lg : (grV t g s).length ≤ 8 := by
      rw [← oth_grp]
      have := List.length_filter_le (fun v => decide (lv t g v = s)) (oth t g)
      have := oth_len (t := t) g
      omega
    refine pairs_in (i := 0) (j := 1) (f := fun v => prD (v, nx t g v)) hg (fun v r e => by rw [e]; exact ⟨at_zero _ _, at_one _ _ _, rfl⟩) ?_
    refine ⟨ft _ (by rw [List.length_map]; omega), ?_⟩
    refine pairs_in (i := 1) (j := 0) (f := fun v => prD (nx t g v, v)) hg (fun v r e => by rw [e]; exact ⟨at_one _ _ _, at_zero _ _, rfl⟩) ?_
    refine ⟨ft _ (by rw [List.length_map]; omega), ?_⟩
    refine lp_steps hg ss _ _ _ (by rw [List.length_append, List.length_map]; omega) (by rw [List.length_append, List.length_map]; omega) fun x3 => ?_
    have := h x3
    rw [List.flatMap_cons, List.map_append, List.reverse_cons, List.flatMap_append, List.map_append, List.flatMap_cons, List.flatMap_nil, List.append_nil, List.append_assoc] at this
    rw [List.append_assoc]
    exact this
theorem vc__law_steps : ∀ ds post, sp__law_steps ds post → r__law_steps { nx := fun _ _ => post .non, rt := fun d _ => post d } (startD N__law_steps ds) [] := by
  rintro ds post ⟨t, g, rfl, hg, h⟩
  have few := t.few
  refine ⟨by show 0 ≤ 16777216; decide, ?_⟩
  refine ⟨by show 0 ≤ 16777216; decide, ?_⟩
  refine ⟨rfl, ?_⟩
  have ll : ((abI t).map D.int).length = t.n := by rw [List.length_map, ab_len]
  show Rg ((((abI t).map D.int).length : Nat) : Int) ∧ lcGo _ _ _ _ _ _ (rngD 0 1 ((((abI t).map D.int).length : Nat) : Int).toNat) [] _
  rw [ll, Int.toNat_natCast, rngD_nD]
  refine ⟨by unfold Rg; omega, ?_⟩
  refine lc_filter iN (fun v => decide (v ≠ g)) (wyD t g) (List.range t.n) (by rw [List.length_range]; omega) (fun v mv kf kk h1 h0 => ?_) ?_
  · show (if (!decide ((v : Int) = (g : Int))) = true then _ else _)
    by_cases e : v = g
    · exact no (by rw [decide_eq_true (by omega)]; rfl) (h0 (decide_eq_false fun q => q e))
    · refine yes (by rw [decide_eq_false (by omega)]; rfl) ?_
      exact ⟨t, v, g, rfl, List.mem_range.mp mv, hg, h1 (decide_eq_true e)⟩
  show _ = _ ∧ Rg (((((abI t).map D.int).length : Nat) : Int) + 1) ∧ Rg 1 ∧ forGo _ _ _ (rngD (((((abI t).map D.int).length : Nat) : Int) + 1) (-1) ((((((abI t).map D.int).length : Nat) : Int) + 1) - 1).toNat) _ _
  rw [ll]
  refine ⟨rfl, by unfold Rg; omega, by unfold Rg; omega, ?_⟩
  have es : rngD (((t.n : Nat) : Int) + 1) (-1) ((((t.n : Nat) : Int) + 1) - 1).toNat = nD (sizes t) := by
    rw [show ((((t.n : Nat) : Int) + 1) - 1).toNat = t.n by omega]
    unfold rngD sizes nD
    rw [List.map_map]
    refine List.ext_getElem? fun j => ?_
    rw [List.getElem?_map, List.getElem?_map]
    by_cases l : j < t.n
    · rw [List.getElem?_range l, List.getElem?_reverse (by rw [List.length_range]; exact l), List.length_range, List.getElem?_range (by omega)]
      show some (D.int (((t.n : Nat) : Int) + 1 + (j : Int) * (-1))) = some (D.int ((t.n - 1 - j + 2 : Nat) : Int))
      congr 2
      omega
    · rw [List.getElem?_eq_none (by rw [List.length_range]; omega), List.getElem?_eq_none (by rw [List.length_reverse, List.length_range]; omega)]
      rfl
  rw [es]
  have ls : (sizes t).length = t.n := by unfold sizes; rw [List.length_map, List.length_reverse, List.length_range]
  refine lp_steps hg (sizes t) [] [] _ (by rw [ls]; simp; omega) (by rw [ls]; simp; omega) fun x3 => ?_
  rw [List.nil_append, List.append_nil]
  refine ⟨by show 2 ≤ 16777216; decide, ?_⟩
  rw [in_is, out_is] at h
  exact h
end K36
end DL
namespace DL
open PySem PySem.Spec L2 Gd
namespace K36
open Tw
variable {t : Tre}
theorem tupN_Rp {l : List Nat} (h : l.length ≤ 1000) (lo : ∀ v ∈ l, v < 1000) : Rp (tupN l) := by
  have e : ∀ l : List Nat, rszAll (nD l) = 1923 * l.length := by
    intro l
    induction l with
    | nil => rfl
    | cons x l ih => show 1921 + 2 + rszAll (nD l) = _; rw [ih, List.length_cons]; omega
  have i : ∀ l : List Nat, (∀ v ∈ l, v < 1000) → ishAll (nD l) = true := by
    intro l lo
    induction l with
    | nil => rfl
    | cons x l ih =>
      show (decide ((x : Int).natAbs < 2 ^ 1900) && ishAll (nD l)) = true
      rw [ih fun y m => lo y (List.mem_cons_of_mem _ m), Bool.and_true]
      have := lo x List.mem_cons_self
      exact decide_eq_true (Nat.lt_trans (m := 2 ^ 60) (by omega) (Nat.pow_lt_pow_right (by decide) (by decide)))
  refine ⟨dn_nD 39 l, i l lo, ?_⟩
  show rszAll (nD l) + 4 ≤ 16777216
  rw [e]
  omega
theorem prs_tups (l : List (Nat × Nat)) : l.map prD = tups (l.map fun p => [(p.1 : Int), (p.2 : Int)]) := by unfold tups; rw [List.map_map]; rfl
theorem prs_Rp {l : List (Nat × Nat)} (h : l.length ≤ 100) (lo : ∀ p ∈ l, p.1 < 1000 ∧ p.2 < 1000) : Rp (.tup (l.map prD)) := by
  rw [prs_tups]
  refine tups_Rp (n := 2) (by rw [List.length_map]; omega) (fun k m => ?_) fun k m x mx => ?_
  · obtain ⟨p, _, rfl⟩ := List.mem_map.mp m
    exact Nat.le_refl _
  · obtain ⟨p, mp, rfl⟩ := List.mem_map.mp m
    have := lo p mp
    simp only [List.mem_cons, List.not_mem_nil, or_false] at mx
    rcases mx with rfl | rfl <;> omega
theorem prs_dn (l : List (Nat × Nat)) : dn 40 (.tup (l.map prD)) = true := by rw [prs_tups]; exact dn_tups 37 _
theorem inw_has {g : Nat} (hg : g < t.n) {p : Nat × Nat} : p ∈ inw t g ↔ p.1 < t.n ∧ p.1 ≠ g ∧ p.2 = nx t g p.1 := by
  unfold inw
  rw [grps_is, List.mem_map]
  constructor
  · rintro ⟨v, m, rfl⟩
    have := (mem_all hg mem_sizes).mp m
    exact ⟨this.1, this.2, rfl⟩
  · rintro ⟨a, b, c⟩
    exact ⟨p.1, (mem_all hg mem_sizes).mpr ⟨a, b⟩, by rw [← c]⟩
theorem outw_has {g : Nat} (hg : g < t.n) {p : Nat × Nat} : p ∈ outw t g ↔ p.2 < t.n ∧ p.2 ≠ g ∧ p.1 = nx t g p.2 := by
  unfold outw
  rw [grps_is, List.map_map, List.mem_map]
  constructor
  · rintro ⟨v, m, rfl⟩
    have := (mem_all hg mem_rsz).mp m
    exact ⟨this.1, this.2, rfl⟩
  · rintro ⟨a, b, c⟩
    exact ⟨p.2, (mem_all hg mem_rsz).mpr ⟨a, b⟩, by show (nx t g p.2, p.2) = p; rw [← c]⟩
theorem nx_lt {g v : Nat} (hg : g < t.n) (hv : v < t.n) (ne : v ≠ g) : nx t g v < t.n := by
  obtain ⟨w, wl, _, _, _, e, _⟩ := far_next hg hv ne
  rw [e]; exact wl
theorem inw_len {g : Nat} (hg : g < t.n) : (inw t g).length ≤ 8 := by
  unfold inw
  rw [grps_is, List.length_map]
  exact (len_all hg).2
theorem outw_len {g : Nat} (hg : g < t.n) : (outw t g).length ≤ 8 := by
  unfold outw
  rw [grps_is, List.map_map, List.length_map]
  exact (len_rall hg).2
theorem inw_Rp {g : Nat} (hg : g < t.n) : Rp (.tup ((inw t g).map prD)) := by
  have few := t.few
  refine prs_Rp (by have := inw_len (t := t) hg; omega) fun p m => ?_
  obtain ⟨a, b, c⟩ := (inw_has hg).mp m
  have := nx_lt hg a b
  omega
theorem outw_Rp {g : Nat} (hg : g < t.n) : Rp (.tup ((outw t g).map prD)) := by
  have few := t.few
  refine prs_Rp (by have := outw_len (t := t) hg; omega) fun p m => ?_
  obtain ⟨a, b, c⟩ := (outw_has hg).mp m
  have := nx_lt hg a b
  omega
theorem linN : Lin Nat := ⟨fun a => Nat.lt_irrefl a, fun _ _ _ => Nat.lt_trans, fun a b => Nat.lt_trichotomy a b⟩
theorem nbr_filter {g : Nat} (hg : g < t.n) : (List.range t.n).filter (fun i => decide (abv t i = (g : Int)) || (decide ((i : Int) = abv t g) && decide ((0 : Int) < (g : Int)))) = nbr t g := by
  refine asc_ext linN (List.pairwise_lt_range.sublist List.filter_sublist) ?_ fun v => ?_
  · have pk : (kids t g).Pairwise (· < ·) := List.pairwise_lt_range.sublist List.filter_sublist
    unfold nbr
    split
    · exact pk
    · rename_i z
      refine List.pairwise_cons.mpr ⟨fun v m => ?_, pk⟩
      obtain ⟨_, v0, pv⟩ := kids_lt m
      have h1 := t.lt g (by omega)
      have h2 := t.lt v v0
      omega
  · rw [mem_nbr hg, List.mem_filter, List.mem_range, Bool.or_eq_true, Bool.and_eq_true, decide_eq_true_iff, decide_eq_true_iff, decide_eq_true_iff, abv_eq]
    refine and_congr_right fun vl => ?_
    constructor
    · rintro (h | ⟨h1, h2⟩)
      · exact .inr h
      · refine .inl ⟨by omega, ?_⟩
        unfold abv at h1
        rw [if_neg (by omega)] at h1
        omega
    · rintro (⟨h1, h2⟩ | h)
      · refine .inr ⟨?_, by omega⟩
        unfold abv
        rw [if_neg (by omega)]
        omega
      · exact .inl h
/-- those that are drawn -/
theorem lc_drawn {a : Addr} {S : Sto} {Q : D → Sto → Prop} {x1 x2 x3 x4 x5 x6 x7 x8 x9 x10 x11 : Option D} : ∀ (ys acc : List Nat), acc.length + ys.length ≤ 1000 → (∀ A, A.Sublist ys → Q (.lst (nD (acc ++ A))) S) →
    lcGo (dgName 10) (dTest (dOp fEq (dCall (spTake a) (dCons (dVar 0) (dCons (dC (.int 3)) dNil))) (dC (.int 0)))) (dVar 10) [10] [some (.adr a), x1, x2, x3, x4, x5, x6, x7, x8, x9, x10, x11] Q (nD ys) (nD acc) S
  | [], acc, _, h => by
    have := h [] (List.Sublist.refl _)
    rw [List.append_nil] at this
    exact this
  | y :: ys, acc, hl, h => by
    rw [List.length_cons] at hl
    refine ⟨3, rfl, by decide, by decide, fun r _ _ => ?_⟩
    show (if decide (r = 0) = true then _ else _)
    by_cases z : r = 0
    · refine yes (decide_eq_true z) ⟨ft _ (by rw [nD_len]; omega), ?_⟩
      have := lc_drawn (a := a) (S := S) (Q := Q) (x1 := x1) (x2 := x2) (x3 := x3) (x4 := x4) (x5 := x5) (x6 := x6) (x7 := x7) (x8 := x8) (x9 := x9) (x10 := x10) (x11 := x11) ys (acc ++ [y]) (by rw [List.length_append, List.length_singleton]; omega) fun A sA => by
        have := h (y :: A) (sA.cons_cons y)
        rw [List.append_assoc]
        exact this
      rw [nD_app] at this
      exact this
    · exact no (decide_eq_false z) (lc_drawn ys acc (by omega) fun A sA => h A (sA.cons y))
end K36
end DL
namespace DL
open PySem PySem.Spec L2 Gd
namespace K36
open Tw
variable {t : Tre}
theorem ln__law_ends_right : ∀ a ds post, sp__law_ends_right a ds post → ds.length = 3 := by
  rintro a ds post ⟨C, t, g, rfl, _⟩
  rfl
theorem deq_same {d : D} (h : dn 40 d = true) : deq d d = true := deq_refl h
set_option maxHeartbeats 4000000 in
theorem vc__law_ends_right (a : Addr) : ∀ ds post, sp__law_ends_right a ds post → r__law_ends_right a { nx := fun _ _ => post .non, rt := fun d _ => post d } (startD N__law_ends_right ds) [] := by
  rintro ds post ⟨C, t, g, rfl, hg, h⟩
  have few := t.few
  have RI := inw_Rp (t := t) hg
  have RO := outw_Rp (t := t) hg
  have DI := prs_dn (inw t g)
  have DO := prs_dn (outw t g)
  have ll : ((abI t).map D.int).length = t.n := by rw [List.length_map, ab_len]
  refine ⟨t, g, rfl, hg, ?_⟩
  refine ⟨rfl, ?_⟩
  refine ⟨C, t, g, rfl, hg, ?_⟩
  refine ⟨RI, RI, no (same_no rfl) ?_⟩
  refine ⟨C, t, g, rfl, hg, ?_⟩
  refine ⟨DI, DI, no (deq_no DI) ?_⟩
  refine ⟨C, t, g, rfl, hg, ?_⟩
  refine ⟨RO, RO, no (same_no rfl) ?_⟩
  refine ⟨C, t, g, rfl, hg, ?_⟩
  refine ⟨DO, DO, no (deq_no DO) ?_⟩
  show Rg ((((abI t).map D.int).length : Nat) : Int) ∧ lcGo _ _ _ _ _ _ (rngD 0 1 ((((abI t).map D.int).length : Nat) : Int).toNat) [] _
  rw [ll, Int.toNat_natCast, rngD_nD]
  refine ⟨by unfold Rg; omega, ?_⟩
  refine lc_in (List.range t.n) (by rw [List.length_range]; omega) (fun i => decide (abv t i = (g : Int)) || (decide ((i : Int) = abv t g) && decide ((0 : Int) < (g : Int)))) (fun v mv kf kk h1 h0 => ?_) ?_
  · refine opt_of (ab_at (List.mem_range.mp mv)) ?_
    show (if decide (abv t v = (g : Int)) = true then _ else _)
    by_cases e : abv t v = (g : Int)
    · exact yes (decide_eq_true e) (h1 (by rw [decide_eq_true e]; rfl))
    · refine no (decide_eq_false e) ?_
      refine opt_of (ab_at hg) ?_
      show (if decide ((v : Int) = abv t g) = true then _ else _)
      by_cases e2 : (v : Int) = abv t g
      · refine yes (decide_eq_true e2) ?_
        show (if decide ((0 : Int) < (g : Int)) = true then _ else _)
        by_cases e3 : (0 : Int) < (g : Int)
        · exact yes (decide_eq_true e3) (h1 (by rw [decide_eq_true e2, decide_eq_true e3, Bool.and_true, Bool.or_true]))
        · exact no (decide_eq_false e3) (h0 (by rw [decide_eq_false e, decide_eq_false e3, Bool.and_false]; rfl))
      · exact no (decide_eq_false e2) (h0 (by rw [decide_eq_false e, decide_eq_false e2]; rfl))
  rw [nbr_filter hg]
  have nl := nbr_len (t := t) g
  have RN := tupN_Rp (l := nbr t g) (by omega) fun v m => by have := ((mem_nbr hg).mp m).1; omega
  have DN := dn_nD 39 (nbr t g)
  refine ⟨C, t, g, rfl, hg, ?_⟩
  refine ⟨RN, RN, no (same_no rfl) ?_⟩
  refine ⟨C, t, g, rfl, hg, ?_⟩
  refine ⟨DN, DN, no (deq_no DN) ?_⟩
  show Rg ((((abI t).map D.int).length : Nat) : Int) ∧ lcGo _ _ _ _ _ _ (rngD 0 1 ((((abI t).map D.int).length : Nat) : Int).toNat) (nD []) _
  rw [ll, Int.toNat_natCast, rngD_nD]
  refine ⟨by unfold Rg; omega, ?_⟩
  refine lc_drawn (List.range t.n) [] (by rw [List.length_range, List.length_nil]; omega) fun lot sub => ?_
  rw [List.nil_append]
  have lotl : ∀ v ∈ lot, v < t.n := fun v m => List.mem_range.mp (sub.subset m)
  have lot8 : lot.length ≤ 8 := by have := sub.length_le; rw [List.length_range] at this; omega
  -- due
  show lcGo _ _ _ _ _ _ ((inw t g).map prD) [] _
  have il := inw_len (t := t) hg
  refine lc_filter prD (fun p => lot.any fun v => decide (p.1 ∈ Tw.way t v g)) prD (inw t g) (by omega) (fun p mp kf kk h1 h0 => ?_) ?_
  · show lcGo _ _ _ _ _ _ (nD lot) [] _
    refine lc_map iN (fun v => .bl (decide (p.1 ∈ Tw.way t v g))) lot (by omega) (fun v mv k hk => ?_) ?_
    · refine ⟨t, v, g, rfl, lotl v mv, hg, ?_⟩
      refine ⟨rfl, flat_nD _, ?_⟩
      rw [any_nat]
      exact hk
    refine opt_of (asB_all lot _) ?_
    show (if (lot.map fun v => decide (p.1 ∈ Tw.way t v g)).any id = true then _ else _)
    have ea : (lot.map fun v => decide (p.1 ∈ Tw.way t v g)).any id = lot.any fun v => decide (p.1 ∈ Tw.way t v g) := by rw [List.any_map]; rfl
    rw [ea]
    cases q : (lot.any fun v => decide (p.1 ∈ Tw.way t v g)) with
    | true => exact yes rfl (h1 q)
    | false => exact no rfl (h0 q)
  have fl : ∀ f : Nat × Nat → Bool, Rp (.tup (((inw t g).filter f).map prD)) ∧ dn 40 (.tup (((inw t g).filter f).map prD)) = true := fun f => by
    refine ⟨prs_Rp (by have := List.length_filter_le f (inw t g); omega) fun p m => ?_, prs_dn _⟩
    obtain ⟨a, b, c⟩ := (inw_has hg).mp (List.mem_filter.mp m).1
    have := nx_lt hg a b
    omega
  obtain ⟨RJ, DJ⟩ := fl fun p => lot.any fun v => decide (p.1 ∈ Tw.way t v g)
  refine ⟨C, t, lot, g, rfl, lotl, lot8, hg, ?_⟩
  refine ⟨RJ, RJ, no (same_no rfl) ?_⟩
  refine ⟨C, t, lot, g, rfl, lotl, lot8, hg, ?_⟩
  refine ⟨DJ, DJ, no (deq_no DJ) ?_⟩
  show RgOk 0 ((((abI t).map D.int).length : Nat) : Int) ∧ _
  rw [ll]
  refine ⟨⟨by omega, by omega, by omega, by omega, by omega⟩, ?_⟩
  have er : rngD 0 1 ((t.n : Nat) : Int).toNat = nD (List.range t.n) := by rw [Int.toNat_natCast, rngD_nD]
  refine ⟨C, t, List.range t.n, g, congrArg (fun l => [treeD C t, D.tup l, .int (g : Int)]) er, fun v m => List.mem_range.mp m, by rw [List.length_range]; exact few, hg, ?_⟩
  have all : (inw t g).filter (fun p => (List.range t.n).any fun v => decide (p.1 ∈ Tw.way t v g)) = inw t g := List.filter_eq_self.mpr fun p m => by
    obtain ⟨a, _, _⟩ := (inw_has hg).mp m
    refine List.any_eq_true.mpr ⟨p.1, List.mem_range.mpr a, decide_eq_true ?_⟩
    obtain ⟨r, e⟩ := way_head (t := t) p.1 g
    rw [e]
    exact List.mem_cons_self
  rw [all]
  refine ⟨DI, DI, ?_⟩
  show (if deq (.tup ((inw t g).map prD)) (.tup ((inw t g).map prD)) = true then _ else _)
  refine yes (deq_same DI) ?_
  refine ⟨by show 0 ≤ 16777216; decide, ?_⟩
  refine ⟨C, t, [], g, rfl, fun v m => (nomatch m), by decide, hg, ?_⟩
  have none1 : (inw t g).filter (fun p => ([] : List Nat).any fun v => decide (p.1 ∈ Tw.way t v g)) = [] := List.filter_eq_nil_iff.mpr fun p _ => by simp
  rw [none1]
  refine ⟨by show 0 ≤ 16777216; decide, ?_⟩
  refine ⟨rfl, rfl, ?_⟩
  refine ⟨by show 1 ≤ 16777216; decide, ?_⟩
  refine ⟨C, t, [g], g, rfl, fun v m => by rw [List.mem_singleton.mp m]; exact hg, by simp, hg, ?_⟩
  have none2 : (inw t g).filter (fun p => [g].any fun v => decide (p.1 ∈ Tw.way t v g)) = [] := List.filter_eq_nil_iff.mpr fun p m => by
    obtain ⟨_, b, _⟩ := (inw_has hg).mp m
    simp only [List.any_cons, List.any_nil, Bool.or_false, way_self, List.mem_singleton, decide_eq_true_eq]
    exact b
  rw [none2]
  refine ⟨by show 0 ≤ 16777216; decide, ?_⟩
  exact ⟨rfl, rfl, h⟩
end K36
end DL
namespace DL
open PySem PySem.Spec L2 Gd
namespace K36
open Tw
variable {t : Tre}
theorem prD_inj {p q : Nat × Nat} (h : prD p = prD q) : p = q := by
  unfold prD at h
  injection h with h
  injection h with h1 h2
  injection h2 with h2 _
  injection h1 with h1
  injection h2 with h2
  exact Prod.ext (by omega) (by omega)
theorem nb_prD (p : Nat × Nat) : nb 40 (prD p) = true := rfl
theorem deq_prD (p q : Nat × Nat) : deq (prD p) (prD q) = decide (p = q) := by
  refine Bool.eq_iff_iff.mpr ?_
  rw [deq_iff (nb_prD p) (nb_prD q), decide_eq_true_iff]
  exact ⟨prD_inj, fun e => by rw [e]⟩
/-- where a pair stands -/
theorem idx_pr : ∀ {L : List (Nat × Nat)} {p : Nat × Nat}, p ∈ L → ∃ i, idxD (prD p) (L.map prD) = some i ∧ L[i]? = some p
  | q :: L, p, m => by
    show ∃ i, (if deq (prD q) (prD p) = true then some 0 else (idxD (prD p) (L.map prD)).map (· + 1)) = some i ∧ _
    rw [deq_prD]
    by_cases e : q = p
    · rw [decide_eq_true e, if_pos rfl]
      exact ⟨0, rfl, by rw [e]; rfl⟩
    · rw [decide_eq_false e, if_neg (by decide)]
      obtain ⟨i, h1, h2⟩ := idx_pr (L := L) ((List.mem_cons.mp m).resolve_left fun z => e z.symm)
      exact ⟨i + 1, by rw [h1]; rfl, h2⟩
/-- of two pairs the one that must stand ahead does -/
theorem idx_le {L : List (Nat × Nat)} {f : Nat × Nat → Nat} (pw : L.Pairwise fun x y => f x ≤ f y) {p q : Nat × Nat} {i j : Nat} (hi : L[i]? = some p) (hj : L[j]? = some q) (lt : f p < f q) : i < j := by
  rcases Nat.lt_or_ge i j with h | h
  · exact h
  · exfalso
    rcases Nat.lt_or_eq_of_le h with h | h
    · obtain ⟨li, ei⟩ := List.getElem?_eq_some_iff.mp hi
      obtain ⟨lj, ej⟩ := List.getElem?_eq_some_iff.mp hj
      have := List.pairwise_iff_getElem.mp pw j i lj li h
      rw [ei, ej] at this
      omega
    · subst h
      rw [hi] at hj
      cases hj
      omega
theorem pw_grps {g : Nat} {ss : List Nat} {c : Nat → Nat} (h : ss.Pairwise fun a b => c a ≤ c b) : (ss.flatMap (grV t g)).Pairwise fun x y => c (lv t g x) ≤ c (lv t g y) := by
  refine List.pairwise_flatMap.mpr ⟨fun s _ => ?_, h.imp fun {a b} l x mx y my => ?_⟩
  · have p : (grV t g s).Pairwise (· < ·) := List.pairwise_lt_range.sublist List.filter_sublist
    refine (List.Pairwise.and_mem.mp p).imp fun {x y} q => ?_
    rw [(mem_grV.mp q.1).2.2, (mem_grV.mp q.2.1).2.2]
    exact Nat.le_refl _
  · rw [(mem_grV.mp mx).2.2, (mem_grV.mp my).2.2]
    exact l
theorem pw_inw (g : Nat) : (inw t g).Pairwise fun x y => 100 - lv t g x.1 ≤ 100 - lv t g y.1 := by
  unfold inw
  rw [grps_is]
  refine List.pairwise_map.mpr (pw_grps (c := fun s => 100 - s) (pw_sizes.imp fun {a b} q => ?_))
  have q : b < a := q
  show 100 - a ≤ 100 - b
  omega
theorem pw_outw (g : Nat) : (outw t g).Pairwise fun x y => lv t g x.2 ≤ lv t g y.2 := by
  unfold outw
  rw [grps_is, List.map_map]
  exact List.pairwise_map.mpr (pw_grps (c := fun s => s) (pw_rsz.imp fun {a b} q => Nat.le_of_lt q))
theorem ln__law_step_right : ∀ ds post, sp__law_step_right ds post → ds.length = 4 := by
  rintro ds post ⟨C, t, a, b, rfl, _⟩
  rfl
/-- tied places: whose way leads over the other -/
theorem tie_side {a b v : Nat} (tie : Tie t a b) : (a ∈ Tw.way t v b) ↔ ¬ (b ∈ Tw.way t v a) := by
  rcases tie with ⟨z, e⟩ | ⟨z, e⟩
  · subst e
    rw [side_up z, side_down z]
    exact ⟨fun h q => q h, fun h => Classical.byContradiction fun q => h q⟩
  · subst e
    rw [side_up z, side_down z]
theorem side_sum {a b : Nat} (tie : Tie t a b) : ((List.range t.n).filter fun v => decide (a ∈ Tw.way t v b)).length + ((List.range t.n).filter fun v => decide (b ∈ Tw.way t v a)).length = t.n := by
  have e : (List.range t.n).filter (fun v => decide (b ∈ Tw.way t v a)) = (List.range t.n).filter fun v => !decide (a ∈ Tw.way t v b) := List.filter_congr fun v _ => by
    rw [← decide_not]
    refine decide_eq_decide.mpr ?_
    rw [tie_side tie]
    exact ⟨fun h q => q h, fun h => Classical.byContradiction fun q => h q⟩
  rw [e]
  have key : ∀ (l : List Nat) (p : Nat → Bool), (l.filter p).length + (l.filter fun v => !p v).length = l.length := by
    intro l p
    induction l with
    | nil => rfl
    | cons x l ih =>
      cases q : p x with
      | true => rw [List.filter_cons_of_pos q, List.filter_cons_of_neg (by rw [q]; decide), List.length_cons, List.length_cons]; omega
      | false => rw [List.filter_cons_of_neg (by rw [q]; decide), List.filter_cons_of_pos (by rw [q]; rfl), List.length_cons, List.length_cons]; omega
  rw [key, List.length_range]
/-- on the one side the step leads to the goal, on the other away from it -/
theorem tie_goal {a b g : Nat} (tie : Tie t a b) : (a ∉ Tw.way t g b → Tw.way t a g = a :: Tw.way t b g) ∧ (a ∈ Tw.way t g b → Tw.way t b g = b :: Tw.way t a g) := by
  rcases tie with ⟨z, e⟩ | ⟨z, e⟩
  · subst e
    rw [side_up z]
    rcases tie_way (t := t) (b := g) z with ⟨n, w⟩ | ⟨n, w⟩
    · exact ⟨fun _ => w, fun q => absurd q n⟩
    · exact ⟨fun q => absurd n q, fun _ => w⟩
  · subst e
    rw [side_down z]
    rcases tie_way (t := t) (b := g) z with ⟨n, w⟩ | ⟨n, w⟩
    · exact ⟨fun q => absurd n q, fun _ => w⟩
    · exact ⟨fun _ => w, fun q => absurd n q⟩
end K36
end DL
namespace DL
open PySem PySem.Spec L2 Gd
namespace K36
open Tw
variable {t : Tre}
def sideL (t : Tre) (a b : Nat) : List Nat := (List.range t.n).filter fun v => decide (a ∈ Tw.way t v b)
theorem mem_side {a b v : Nat} : v ∈ sideL t a b ↔ v < t.n ∧ a ∈ Tw.way t v b := by unfold sideL; rw [List.mem_filter, List.mem_range, decide_eq_true_iff]
theorem any_prs (L : List (Nat × Nat)) (p : Nat × Nat) : ((L.map prD).any fun y => deq y (prD p)) = decide (p ∈ L) := by
  rw [List.any_map]
  refine Bool.eq_iff_iff.mpr ?_
  rw [List.any_eq_true, decide_eq_true_iff]
  constructor
  · rintro ⟨q, m, e⟩
    have e : deq (prD q) (prD p) = true := e
    rw [deq_prD] at e
    rw [← of_decide_eq_true e]
    exact m
  · intro m
    exact ⟨p, m, by show deq (prD p) (prD p) = true; rw [deq_prD]; exact decide_eq_true rfl⟩
theorem in_prs {S : Sto} (neg : Bool) (p : Nat × Nat) (L : List (Nat × Nat)) (k : Bool → Sto → Prop) (hk : k (if neg then !decide (p ∈ L) else decide (p ∈ L)) S) : fInD neg (prD p) (.tup (L.map prD)) S (isB k) := by
  refine ⟨rfl, prs_dn L, ?_⟩
  rw [any_prs]
  exact hk
abbrev rS (t : Tre) (C : List D) (a b : Nat) (x5 x7 x8 x9 x10 x11 x12 x13 : Option D) : Sl :=
  [some (treeD C t), some (prD (a, b)), some (.lst ((List.range t.n).map fun g => zD ((inw t g).map prD))), some (.lst ((List.range t.n).map fun g => zD ((outw t g).map prD))), some (tupN (sideL t a b)), x5,
    some (.tup (((nbr t a).filter fun v => decide (v ≠ b)).map fun v => prD (v, a))), x7, x8, x9, x10, x11, x12, x13]
/-- none of the steps into it stands behind it -/
theorem lp_before {DD : DEnds} {C : List D} {a b g : Nat} {x5 x8 x9 x11 x13 : Option D} (L : List (Nat × Nat)) (ms : (a, b) ∈ L)
    (ord : ∀ (v i j : Nat), (v, a) ∈ L → v ∈ nbr t a → v ≠ b → L[i]? = some (v, a) → L[j]? = some (a, b) → i < j) (told : ∀ v ∈ nbr t a, v ≠ b → g ∉ sideL t a b → (v, a) ∈ L) : ∀ (us : List Nat) (x10 : Option D), (∀ v ∈ us, v ∈ nbr t a ∧ v ≠ b) →
    (∀ x10, DD.nx (rS t C a b x5 (some (.int (g : Int))) x8 x9 x10 x11 (some (zD (L.map prD))) x13) []) →
    forGo (dgName 10) b0__law_step_right DD (us.map fun v => prD (v, a)) (rS t C a b x5 (some (.int (g : Int))) x8 x9 x10 x11 (some (zD (L.map prD))) x13) []
  | [], x10, _, h => h x10
  | u :: us, x10, hu, h => by
    have h1 := hu u List.mem_cons_self
    have go := lp_before (DD := DD) (C := C) (x5 := x5) (x8 := x8) (x9 := x9) (x11 := x11) (x13 := x13) L ms ord told us (some (prD (u, a))) (fun v m => hu v (List.mem_cons_of_mem _ m)) h
    obtain ⟨j, j1, j2⟩ := idx_pr ms
    have places : ∀ k : Bool → Sto → Prop, (u, a) ∈ L → k false [] → dTest (dOp fGt (dMZ fIndexZ (dVar 12) (dCons (dVar 10) dNil)) (dMZ fIndexZ (dVar 12) (dCons (dVar 1) dNil))) (rS t C a b x5 (some (.int (g : Int))) x8 x9 (some (prD (u, a))) x11 (some (zD (L.map prD))) x13) [] k := fun k mu hk => by
      obtain ⟨i, i1, i2⟩ := idx_pr mu
      have lt := ord u i j mu h1.1 h1.2 i2 j2
      refine ⟨⟨_, _, rfl⟩, rfl, prs_dn L, ?_⟩
      refine opt_of i1 ?_
      refine ⟨⟨_, _, rfl⟩, rfl, prs_dn L, ?_⟩
      refine opt_of j1 ?_
      show k (decide ((j : Int) < (i : Int))) []
      rw [decide_eq_false (by omega)]
      exact hk
    have second : (dIfS (dAnd (dTest (dOp (fInN false) (dVar 7) (dVar 4))) (dAnd (dTest (dOp (fInD false) (dVar 10) (dWk (dVar 12)))) (dTest (dOp fGt (dMZ fIndexZ (dVar 12) (dCons (dVar 10) dNil)) (dMZ fIndexZ (dVar 12) (dCons (dVar 1) dNil)))))) (dRet (dC (.bl false))) dNext)
        { DD with nx := forGo (dgName 10) b0__law_step_right DD (us.map fun v => prD (v, a)), ct := forGo (dgName 10) b0__law_step_right DD (us.map fun v => prD (v, a)), bk := DD.nx } (rS t C a b x5 (some (.int (g : Int))) x8 x9 (some (prD (u, a))) x11 (some (zD (L.map prD))) x13) [] := by
      refine in_nD false g (sideL t a b) _ ?_
      show (if decide (g ∈ sideL t a b) = true then _ else _)
      by_cases s : g ∈ sideL t a b
      · refine yes (decide_eq_true s) ?_
        refine in_prs false (u, a) L _ ?_
        show (if decide ((u, a) ∈ L) = true then _ else _)
        by_cases m : (u, a) ∈ L
        · refine yes (decide_eq_true m) ?_
          exact places _ m go
        · exact no (decide_eq_false m) go
      · exact no (decide_eq_false s) go
    refine in_nD true g (sideL t a b) _ ?_
    show (if (!decide (g ∈ sideL t a b)) = true then _ else _)
    by_cases s : g ∈ sideL t a b
    · exact no (by rw [decide_eq_true s]; rfl) second
    · refine yes (by rw [decide_eq_false s]; rfl) ?_
      exact places _ (told u h1.1 h1.2 s) second
/-- the four facts of a step and a goal -/
structure StepOk (t : Tre) (a b g : Nat) (L M : List (Nat × Nat)) : Prop where
  has : (a, b) ∈ L
  no : (a, b) ∉ M
  back : (b, a) ∈ M
  ord : ∀ (v i j : Nat), (v, a) ∈ L → v ∈ nbr t a → v ≠ b → L[i]? = some (v, a) → L[j]? = some (a, b) → i < j
  told : ∀ v ∈ nbr t a, v ≠ b → g ∉ sideL t a b → (v, a) ∈ L
theorem step_in {a b g : Nat} (ha : a < t.n) (hb : b < t.n) (hg : g < t.n) (tie : Tie t a b) (s : g ∉ sideL t a b) : StepOk t a b g (inw t g) (outw t g) := by
  have few := t.few
  have s : a ∉ Tw.way t g b := fun q => s (mem_side.mpr ⟨hg, q⟩)
  obtain ⟨n1, l1⟩ := nx_of ((tie_goal (g := g) tie).1 s)
  have bnd : ∀ v, v < t.n → lv t g v ≤ 8 := fun v hv => by have := (way_bound hv hg).2.2; unfold lv; omega
  have ag : a ≠ g := fun e => s (by obtain ⟨r, er⟩ := way_head (t := t) g b; rw [er, e]; exact List.mem_cons_self)
  refine ⟨(inw_has hg).mpr ⟨ha, ag, n1.symm⟩, fun m => ?_, (outw_has hg).mpr ⟨ha, ag, n1.symm⟩, fun v i j mv _ _ hi hj => ?_, fun v mv ne _ => ?_⟩
  · obtain ⟨_, bg, e⟩ := (outw_has hg).mp m
    obtain ⟨w, _, _, _, _, e2, l2⟩ := far_next hg hb bg
    have e : a = nx t g b := e
    rw [e2] at e
    subst e
    omega
  · obtain ⟨hv, vg, e⟩ := (inw_has hg).mp mv
    obtain ⟨w, _, _, _, _, e2, l2⟩ := far_next hg hv vg
    have e : a = nx t g v := e
    have l3 : lv t g v = lv t g a + 1 := by rw [e, e2]; exact l2
    refine idx_le (pw_inw g) hi hj ?_
    show 100 - lv t g v < 100 - lv t g a
    have := bnd v hv
    have := bnd a ha
    omega
  · have vn := ((mem_nbr ha).mp mv).1
    have wv : Tw.way t v g = v :: Tw.way t a g := (nbr_way (g := g) ha mv).resolve_right fun e => ne (by rw [← (nx_of e).1, n1])
    obtain ⟨n2, l2⟩ := nx_of wv
    exact (inw_has hg).mpr ⟨vn, fun e => by
      have e : v = g := e
      rw [e, lv_self] at l2
      have := lv_pos (t := t) g a
      omega, n2.symm⟩
theorem step_out {a b g : Nat} (ha : a < t.n) (hb : b < t.n) (hg : g < t.n) (tie : Tie t a b) (s : g ∈ sideL t a b) : StepOk t a b g (outw t g) (inw t g) := by
  have s2 := (mem_side.mp s).2
  obtain ⟨n1, l1⟩ := nx_of ((tie_goal (g := g) tie).2 s2)
  have bg : b ≠ g := fun e => by rw [e, lv_self] at l1; have := lv_pos (t := t) g a; omega
  refine ⟨(outw_has hg).mpr ⟨hb, bg, n1.symm⟩, fun m => ?_, (inw_has hg).mpr ⟨hb, bg, n1.symm⟩, fun v i j mv _ _ hi hj => ?_, fun v mv ne z => absurd s z⟩
  · obtain ⟨_, ag, e⟩ := (inw_has hg).mp m
    obtain ⟨w, _, _, _, _, e2, l2⟩ := far_next hg ha ag
    have e : b = nx t g a := e
    rw [e2] at e
    subst e
    omega
  · refine idx_le (pw_outw g) hi hj ?_
    show lv t g a < lv t g b
    omega
theorem at_row {f : Nat → D} {g n : Nat} (h : g < n) : atI ((List.range n).map f) (g : Int) = some (f g) := by
  rw [atI_nat, List.getElem?_map, List.getElem?_range h]
  rfl
set_option maxHeartbeats 2000000 in
theorem b1_step {DD : DEnds} {C : List D} {a b g : Nat} (ha : a < t.n) (hb : b < t.n) (hg : g < t.n) (tie : Tie t a b) {x5 x8 x9 x10 x11 x12 x13 : Option D}
    (h : ∀ x10 x12 x13, DD.nx (rS t C a b x5 (some (.int (g : Int))) x8 x9 x10 x11 x12 x13) []) :
    b1__law_step_right DD (rS t C a b x5 (some (.int (g : Int))) x8 x9 x10 x11 x12 x13) [] := by
  refine ⟨by show 2 ≤ 16777216; decide, ?_⟩
  refine ⟨by show 2 ≤ 16777216; decide, ?_⟩
  refine ⟨by show 2 ≤ 16777216; decide, ?_⟩
  refine ⟨rfl, flat_nD _, ?_⟩
  have en : ((nD (sideL t a b)).any fun y => eqF y (.int (g : Int))) = decide (g ∈ sideL t a b) := any_nat _ _
  rw [en]
  have rest : ∀ (L M : Nat → List (Nat × Nat)), StepOk t a b g (L g) (M g) →
      (dSeqS (dPar [12, 13] (dCons (dOp fIx (dWk (dVar 12)) (dVar 7)) (dCons (dOp fIx (dWk (dVar 13)) (dVar 7)) dNil))) (dSeqS (dIfS (dOr (dTest (dOp (fInD true) (dVar 1) (dWk (dVar 12)))) (dOr (dTest (dOp (fInD false) (dVar 1) (dWk (dVar 13)))) (dTest (dOp (fInD true) (dUn fRevA (dVar 1)) (dWk (dVar 13)))))) (dRet (dC (.bl false))) dNext) (dFor (dSeq (dVar 6)) (dgName 10) b0__law_step_right)))
        DD (rS t C a b x5 (some (.int (g : Int))) x8 x9 x10 x11 (some (.lst ((List.range t.n).map fun g => zD ((L g).map prD)))) (some (.lst ((List.range t.n).map fun g => zD ((M g).map prD))))) [] := fun L M ok => by
    refine opt_of (at_row hg) ?_
    refine opt_of (at_row hg) ?_
    refine ⟨rfl, ?_⟩
    refine in_prs true (a, b) (L g) _ ?_
    show (if (!decide ((a, b) ∈ L g)) = true then _ else _)
    refine no (by rw [decide_eq_true ok.has]; rfl) ?_
    refine in_prs false (a, b) (M g) _ ?_
    show (if decide ((a, b) ∈ M g) = true then _ else _)
    refine no (decide_eq_false ok.no) ?_
    refine in_prs true (b, a) (M g) _ ?_
    show (if (!decide ((b, a) ∈ M g)) = true then _ else _)
    refine no (by rw [decide_eq_true ok.back]; rfl) ?_
    refine lp_before (L g) ok.has ok.ord ok.told ((nbr t a).filter fun v => decide (v ≠ b)) _ (fun v m => ⟨(List.mem_filter.mp m).1, of_decide_eq_true (List.mem_filter.mp m).2⟩) fun x10 => ?_
    exact h _ _ _
  by_cases s : g ∈ sideL t a b
  · rw [decide_eq_true s]
    exact ⟨rfl, rest (outw t) (inw t) (step_out ha hb hg tie s)⟩
  · rw [decide_eq_false s]
    exact ⟨rfl, rest (inw t) (outw t) (step_in ha hb hg tie s)⟩
end K36
end DL
namespace DL
open PySem PySem.Spec L2 Gd
namespace K36
open Tw
variable {t : Tre}
theorem lp_b1s {DD : DEnds} {C : List D} {a b : Nat} (ha : a < t.n) (hb : b < t.n) (tie : Tie t a b) {x5 x8 x9 x11 : Option D} : ∀ (gs : List Nat) (x7 x10 x12 x13 : Option D), (∀ g ∈ gs, g < t.n) →
    (∀ x7 x10 x12 x13, DD.nx (rS t C a b x5 x7 x8 x9 x10 x11 x12 x13) []) →
    forGo (dgName 7) b1__law_step_right DD (nD gs) (rS t C a b x5 x7 x8 x9 x10 x11 x12 x13) []
  | [], x7, x10, x12, x13, _, h => h _ _ _ _
  | g :: gs, x7, x10, x12, x13, hg, h => by
    refine b1_step ha hb (hg g List.mem_cons_self) tie fun x10 x12 x13 => ?_
    exact lp_b1s ha hb tie gs _ _ _ _ (fun v m => hg v (List.mem_cons_of_mem _ m)) h
set_option maxHeartbeats 4000000 in
theorem vc__law_step_right : ∀ ds post, sp__law_step_right ds post → r__law_step_right { nx := fun _ _ => post .non, rt := fun d _ => post d } (startD N__law_step_right ds) [] := by
  rintro ds post ⟨C, t, a, b, rfl, ha, hb, tie, h⟩
  have few := t.few
  have ll : ((abI t).map D.int).length = t.n := by rw [List.length_map, ab_len]
  refine ⟨by show 2 ≤ 16777216; decide, rfl, ?_⟩
  show Rg ((((abI t).map D.int).length : Nat) : Int) ∧ lcGo _ _ _ _ _ _ (rngD 0 1 ((((abI t).map D.int).length : Nat) : Int).toNat) [] _
  rw [ll, Int.toNat_natCast, rngD_nD]
  refine ⟨by unfold Rg; omega, ?_⟩
  refine lc_in (List.range t.n) (by rw [List.length_range]; omega) (fun v => decide (a ∈ Tw.way t v b)) (fun v mv kf kk h1 h0 => ?_) ?_
  · refine ⟨t, v, b, rfl, List.mem_range.mp mv, hb, ?_⟩
    refine in_nD false a (Tw.way t v b) _ ?_
    show (if decide (a ∈ Tw.way t v b) = true then _ else _)
    by_cases e : a ∈ Tw.way t v b
    · exact yes (decide_eq_true e) (h1 (decide_eq_true e))
    · exact no (decide_eq_false e) (h0 (decide_eq_false e))
  show Rg ((t.n : Nat) : Int) ∧ lcGo _ _ _ _ _ _ (rngD 0 1 ((t.n : Nat) : Int).toNat) [] _
  rw [Int.toNat_natCast, rngD_nD]
  refine ⟨by unfold Rg; omega, ?_⟩
  refine lc_in (List.range t.n) (by rw [List.length_range]; omega) (fun i => decide (abv t i = (a : Int)) || (decide ((i : Int) = abv t a) && decide ((0 : Int) < (a : Int)))) (fun v mv kf kk h1 h0 => ?_) ?_
  · refine opt_of (ab_at (List.mem_range.mp mv)) ?_
    show (if decide (abv t v = (a : Int)) = true then _ else _)
    by_cases e : abv t v = (a : Int)
    · exact yes (decide_eq_true e) (h1 (by rw [decide_eq_true e]; rfl))
    · refine no (decide_eq_false e) ?_
      show (if decide ((0 : Int) < (a : Int)) = true then _ else _)
      by_cases e3 : (0 : Int) < (a : Int)
      · refine yes (decide_eq_true e3) ?_
        refine opt_of (ab_at ha) ?_
        show (if decide ((v : Int) = abv t a) = true then _ else _)
        by_cases e2 : (v : Int) = abv t a
        · exact yes (decide_eq_true e2) (h1 (by rw [decide_eq_true e2, decide_eq_true e3, Bool.and_true, Bool.or_true]))
        · exact no (decide_eq_false e2) (h0 (by rw [decide_eq_false e, decide_eq_false e2]; rfl))
      · exact no (decide_eq_false e3) (h0 (by rw [decide_eq_false e, decide_eq_false e3, Bool.and_false]; rfl))
  rw [nbr_filter ha]
  have nl := nbr_len (t := t) a
  show lcGo _ _ _ _ _ _ (nD (nbr t a)) [] _
  refine lc_filter iN (fun v => decide (v ≠ b)) (fun v => prD (v, a)) (nbr t a) (by omega) (fun v mv kf kk h1 h0 => ?_) ?_
  · show (if (!decide ((v : Int) = (b : Int))) = true then _ else _)
    by_cases e : v = b
    · refine no (by rw [decide_eq_true (by omega)]; rfl) (h0 (decide_eq_false fun q => q e))
    · refine yes (by rw [decide_eq_false (by omega)]; rfl) ?_
      exact ⟨by show 2 ≤ 16777216; decide, h1 (decide_eq_true e)⟩
  have ls : (sideL t a b).length ≤ 8 := by
    have := List.length_filter_le (fun v => decide (a ∈ Tw.way t v b)) (List.range t.n)
    rw [List.length_range] at this
    unfold sideL
    omega
  have RS := tupN_Rp (l := sideL t a b) (by omega) fun v m => by have := (mem_side.mp m).1; omega
  have DS := dn_nD 39 (sideL t a b)
  refine ⟨C, t, a, b, rfl, ha, hb, tie, ?_⟩
  refine ⟨RS, RS, no (same_no rfl) ?_⟩
  refine ⟨C, t, a, b, rfl, ha, hb, tie, ?_⟩
  refine ⟨DS, DS, no (deq_no DS) ?_⟩
  have ei : (((nbr t a).filter fun v => decide (v ≠ b)).map fun v => prD (v, a)) = (((nbr t a).filter fun v => decide (v ≠ b)).map fun v => (v, a)).map prD := by rw [List.map_map]; rfl
  have RI : Rp (.tup (((nbr t a).filter fun v => decide (v ≠ b)).map fun v => prD (v, a))) := by
    rw [ei]
    refine prs_Rp (by rw [List.length_map]; have := List.length_filter_le (fun v => decide (v ≠ b)) (nbr t a); omega) fun p m => ?_
    obtain ⟨v, mv, rfl⟩ := List.mem_map.mp m
    have := ((mem_nbr ha).mp (List.mem_filter.mp mv).1).1
    exact ⟨by show v < 1000; omega, by show a < 1000; omega⟩
  have DI : dn 40 (.tup (((nbr t a).filter fun v => decide (v ≠ b)).map fun v => prD (v, a))) = true := by rw [ei]; exact prs_dn _
  refine ⟨C, t, a, b, rfl, ha, ?_⟩
  refine ⟨RI, RI, no (same_no rfl) ?_⟩
  refine ⟨C, t, a, b, rfl, ha, ?_⟩
  refine ⟨DI, DI, no (deq_no DI) ?_⟩
  show Rg ((t.n : Nat) : Int) ∧ forGo _ _ _ (rngD 0 1 ((t.n : Nat) : Int).toNat) _ _
  rw [Int.toNat_natCast, rngD_nD]
  refine ⟨by unfold Rg; omega, ?_⟩
  refine lp_b1s ha hb tie (List.range t.n) _ _ _ _ (fun v m => List.mem_range.mp m) fun x7 x10 x12 x13 => ?_
  have tie2 : Tie t b a := tie.elim (fun q => .inr q) fun q => .inl q
  refine ⟨C, t, a, b, rfl, ha, hb, tie, ?_⟩
  refine ⟨C, t, b, a, rfl, hb, ha, tie2, ?_⟩
  have sum := side_sum (t := t) tie
  show post (.bl (decide ((((nD (sideL t a b)).length : Nat) : Int) + (((nD (sideL t b a)).length : Nat) : Int) = ((t.n : Nat) : Int))))
  rw [nD_len, nD_len, decide_eq_true (by unfold sideL; omega)]
  exact h
end K36
end DL
namespace DL
open PySem PySem.Spec L2 Gd
namespace K36
open Tw
abbrev bx (p : Addr) (x y z : Int) (G : Sto) : Sto := (p, .l [.int x, .int y, .int z]) :: G
theorem setS_none {p : Addr} {c : Cel} : ∀ {G : Sto}, p ∉ G.map (·.1) → setS G p c = G
  | [], _ => rfl
  | (q, d) :: G, h => by
    have h1 : q ≠ p := fun e => h (by rw [e]; exact List.mem_cons_self)
    have ih := setS_none (p := p) (c := c) (G := G) fun m => h (List.mem_cons_of_mem _ m)
    unfold setS at ih ⊢
    rw [List.map_cons, ih]
    show (if q = p then (p, c) else (q, d)) :: G = _
    rw [if_neg h1]
theorem setS_head {p : Addr} {c d : Cel} {G : Sto} (h : p ∉ G.map (·.1)) : setS ((p, c) :: G) p d = (p, d) :: G := by
  have := setS_none (c := d) h
  unfold setS at this ⊢
  rw [List.map_cons, this]
  show (if p = p then (p, d) else (p, c)) :: G = _
  rw [if_pos rfl]
theorem b0_ok {DD : DEnds} {S : Sto} {C : List D} {t : Tre} {g : Nat} (hg : g < t.n) {u v : Int} (st : 0 < g → ∃ a b : Nat, u = (a : Int) ∧ v = (b : Int) ∧ a < t.n ∧ b < t.n ∧ Tie t a b) {x0 x1 x2 x3 : Option D}
    (h : DD.nx [x0, x1, x2, x3, some (treeD C t), some (.lst ((List.range t.n).map fun g => zD ((inw t g).map prD))), some (.lst ((List.range t.n).map fun g => zD ((outw t g).map prD))), some (.int (g : Int)), some (.tup [.int u, .int v])] S) :
    b0_law DD [x0, x1, x2, x3, some (treeD C t), some (.lst ((List.range t.n).map fun g => zD ((inw t g).map prD))), some (.lst ((List.range t.n).map fun g => zD ((outw t g).map prD))), some (.int (g : Int)), some (.tup [.int u, .int v])] S := by
  show (if decide ((0 : Int) < (g : Int)) = true then _ else _)
  by_cases z : 0 < g
  · refine yes (decide_eq_true (by omega)) ?_
    obtain ⟨a, b, rfl, rfl, ha, hb, tie⟩ := st z
    exact ⟨C, t, a, b, rfl, ha, hb, tie, h⟩
  · exact no (decide_eq_false (by omega)) h
theorem lp_goals {DD : DEnds} {p : Addr} {G : Sto} (hp : p ∉ G.map (·.1)) {C : List D} {t : Tre} {x0 x1 x2 : Option D} : ∀ (gs : List Nat) (x y z : Int) (x7 x8 : Option D), BxOk x y z → (∀ g ∈ gs, g < t.n) →
    (∀ x y z x7 x8, BxOk x y z → DD.nx [x0, x1, x2, some (.adr p), some (treeD C t), some (.lst ((List.range t.n).map fun g => zD ((inw t g).map prD))), some (.lst ((List.range t.n).map fun g => zD ((outw t g).map prD))), x7, x8] (bx p x y z G)) →
    forGo (dgName 7) b1_law DD (nD gs) [x0, x1, x2, some (.adr p), some (treeD C t), some (.lst ((List.range t.n).map fun g => zD ((inw t g).map prD))), some (.lst ((List.range t.n).map fun g => zD ((outw t g).map prD))), x7, x8] (bx p x y z G)
  | [], x, y, z, x7, x8, ok, _, h => h x y z x7 x8 ok
  | g :: gs, x, y, z, x7, x8, ok, hg, h => by
    have gl := hg g List.mem_cons_self
    refine ⟨x, y, z, getS_self, ok, C, t, g, rfl, gl, fun x y z ok => ?_⟩
    rw [setS_head hp]
    refine opt_of (ab_at gl) ?_
    refine ⟨by show 2 ≤ 16777216; decide, ?_⟩
    refine opt_of (ab_at gl) ?_
    refine ⟨by show 2 ≤ 16777216; decide, ?_⟩
    refine ⟨by show 2 ≤ 16777216; decide, ?_⟩
    have ea : 0 < g → abv t g = (t.pf g : Int) := fun q => by unfold abv; rw [if_neg (by omega)]
    have lt : 0 < g → t.pf g < t.n := fun q => by have := t.lt g q; omega
    refine b0_ok gl (fun q => ⟨g, t.pf g, rfl, ea q, gl, lt q, .inl ⟨q, rfl⟩⟩) ?_
    refine b0_ok gl (fun q => ⟨t.pf g, g, ea q, rfl, lt q, gl, .inr ⟨q, rfl⟩⟩) ?_
    exact lp_goals hp gs x y z _ _ ok (fun v m => hg v (List.mem_cons_of_mem _ m)) h
theorem rows_ok {S : Sto} {Q : D → Sto → Prop} {t : Tre} {g : DTG} {te : DTE} {own : List Nat} {δ : Sl} (f : Nat → D) (hx : ∀ v, v < t.n → ∀ k : D → Sto → Prop, k (f v) S → g (iN v) (wipeD δ own) fun δ1 => te δ1 S k) (h : Q (.lst ((List.range t.n).map f)) S) :
    Rg ((((abI t).map D.int).length : Nat) : Int) ∧ lcGo g dYes te own δ Q (rngD 0 1 ((((abI t).map D.int).length : Nat) : Int).toNat) [] S := by
  have few := t.few
  have ll : ((abI t).map D.int).length = t.n := by rw [List.length_map, ab_len]
  rw [ll, Int.toNat_natCast, rngD_nD]
  refine ⟨by unfold Rg; omega, ?_⟩
  exact lc_map iN f (List.range t.n) (by rw [List.length_range]; omega) (fun v m k hk => hx v (List.mem_range.mp m) k hk) h
theorem b2_ok {DD : DEnds} {ns : List Int} (hn : ns.length ≤ 63) {k : Nat} (hk : k < 1000) {G : Sto} {x2 x3 x4 x5 x6 x7 x8 : Option D}
    (h : ∀ x3 x4 x5 x6 x7 x8 G, DD.nx [some (.fls ns), some (.int (k : Int)), x2, x3, x4, x5, x6, x7, x8] G) :
    b2_law DD [some (.fls ns), some (.int (k : Int)), x2, x3, x4, x5, x6, x7, x8] G := by
  refine ⟨ns, k, rfl, hn, hk, fun x y z ok p hp => ?_⟩
  refine ⟨x, y, z, getS_self, ok, rfl, fun C t x y z ok => ?_⟩
  rw [setS_head hp]
  refine rows_ok (fun g => zD ((inw t g).map prD)) (fun v vl k hk => ⟨C, t, v, rfl, vl, hk⟩) ?_
  refine rows_ok (fun g => zD ((outw t g).map prD)) (fun v vl k hk => ⟨C, t, v, rfl, vl, hk⟩) ?_
  have few := t.few
  have ll : ((abI t).map D.int).length = t.n := by rw [List.length_map, ab_len]
  show Rg ((((abI t).map D.int).length : Nat) : Int) ∧ forGo _ _ _ (rngD 0 1 ((((abI t).map D.int).length : Nat) : Int).toNat) _ _
  rw [ll, Int.toNat_natCast, rngD_nD]
  refine ⟨by unfold Rg; omega, ?_⟩
  exact lp_goals hp (List.range t.n) x y z _ _ ok (fun v m => List.mem_range.mp m) fun x y z x7 x8 ok => h _ _ _ _ _ _ _
theorem lp_b2 {DD : DEnds} {ns : List Int} (hn : ns.length ≤ 63) {x2 : Option D} : ∀ (ks : List Nat) (x1 x3 x4 x5 x6 x7 x8 : Option D) (G : Sto), (∀ k ∈ ks, k < 1000) →
    (∀ x1 x3 x4 x5 x6 x7 x8 G, DD.nx [some (.fls ns), x1, x2, x3, x4, x5, x6, x7, x8] G) →
    forGo (dgName 1) b2_law DD (nD ks) [some (.fls ns), x1, x2, x3, x4, x5, x6, x7, x8] G
  | [], x1, x3, x4, x5, x6, x7, x8, G, _, h => h ..
  | k :: ks, x1, x3, x4, x5, x6, x7, x8, G, hk, h => by
    refine b2_ok hn (hk k List.mem_cons_self) fun x3 x4 x5 x6 x7 x8 G => ?_
    exact lp_b2 hn ks _ _ _ _ _ _ _ G (fun j m => hk j (List.mem_cons_of_mem _ m)) h
end K36
end DL
namespace DL
open PySem PySem.Spec L2 Gd
namespace K36
open Tw
def t0 : Tre := ⟨4, fun i => if i = 2 then 1 else 0, by decide, by decide, fun i h => by show (if i = 2 then 1 else 0) < i; split <;> omega⟩
def t1 : Tre := ⟨1, fun _ => 0, by decide, by decide, fun i h => h⟩
def C0 : List D := [.tup [.int 0], .tup [.int 0, .int 1], .tup [.int 1, .int 2], .tup [.int 0, .int 3]]
theorem a0 : (abI t0).map D.int = [.int (-1), .int 0, .int 1, .int 0] := rfl
theorem a1 : (abI t1).map D.int = [.int (-1)] := rfl
theorem i3 : inw t0 3 = [(2, 1), (1, 0), (0, 3)] := by decide +kernel
theorem o1 : outw t0 1 = [(1, 0), (1, 2), (0, 3)] := by decide +kernel
theorem s1 : (List.range t0.n).filter (fun v => decide (0 ∈ Tw.way t0 v 1)) = [0, 3] := by decide +kernel
theorem j1 : (inw t0 2).filter (fun p => [1, 3].any fun v => decide (p.1 ∈ Tw.way t0 v 2)) = [(3, 0), (0, 1), (1, 2)] := by decide +kernel
theorem n1 : ((nbr t0 1).filter fun v => decide (v ≠ 0)) = [2] := by decide +kernel
theorem e1 : inw t1 0 = [] := by decide +kernel
set_option maxHeartbeats 2000000 in
theorem vc_law : ∀ ns : List Int, ns.length ≤ 63 → r_law { nx := fun _ _ => False, rt := fun d _ => d = .bl true } (startD N_law [.fls ns]) [] := by
  intro ns hn
  have body : ∀ n : Nat, n ≤ 2 → ∀ DD : DEnds, (∀ x1 x3 x4 x5 x6 x7 x8 G, DD.nx [some (.fls ns), x1, none, x3, x4, x5, x6, x7, x8] G) →
      forGo (dgName 1) b2_law DD (rngD 0 1 n) [some (.fls ns), none, none, none, none, none, none, none, none] [] := fun n n2 DD h => by
    rw [rngD_nD]
    exact lp_b2 hn (List.range n) _ _ _ _ _ _ _ [] (fun k m => by have := List.mem_range.mp m; omega) h
  have h2 : (1 : Int) + (if decide ((0 : Int) < (ns.length : Int)) = true then 1 else 0) = (((1 + (if decide ((0 : Int) < (ns.length : Int)) = true then 1 else 0)) : Nat) : Int) := by
    split <;> rfl
  generalize hm : 1 + (if decide ((0 : Int) < (ns.length : Int)) = true then 1 else 0) = m at h2
  have m2 : m ≤ 2 := by
    rw [← hm]
    split <;> omega
  have rg : Rg ((1 : Int) + (if decide ((0 : Int) < (ns.length : Int)) = true then 1 else 0)) := by rw [h2]; unfold Rg; omega
  refine ⟨?_, ?_⟩
  · exact rg
  show forGo _ _ _ (rngD 0 1 ((1 : Int) + (if decide ((0 : Int) < (ns.length : Int)) = true then 1 else 0)).toNat) _ _
  rw [h2, Int.toNat_natCast]
  refine body m m2 _ fun x1 x3 x4 x5 x6 x7 x8 G => ?_
  refine ⟨by show 1 ≤ 16777216; decide, ?_⟩
  refine ⟨by show 2 ≤ 16777216; decide, ?_⟩
  refine ⟨by show 2 ≤ 16777216; decide, ?_⟩
  refine ⟨by show 2 ≤ 16777216; decide, ?_⟩
  refine ⟨by show 4 ≤ 16777216; decide, ?_⟩
  refine ⟨by show 4 ≤ 16777216; decide, ?_⟩
  refine ⟨by show 2 ≤ 16777216; decide, ?_⟩
  refine ⟨C0, t0, 3, rfl, by decide, ?_⟩
  rw [i3]
  refine ⟨by show 2 ≤ 16777216; decide, ?_⟩
  refine ⟨by show 2 ≤ 16777216; decide, ?_⟩
  refine ⟨by show 2 ≤ 16777216; decide, ?_⟩
  refine ⟨by show 3 ≤ 16777216; decide, ?_⟩
  refine ⟨rfl, rfl, ?_⟩
  refine ⟨C0, t0, 1, rfl, by decide, ?_⟩
  rw [o1]
  refine ⟨by show 2 ≤ 16777216; decide, ?_⟩
  refine ⟨by show 2 ≤ 16777216; decide, ?_⟩
  refine ⟨by show 2 ≤ 16777216; decide, ?_⟩
  refine ⟨by show 3 ≤ 16777216; decide, ?_⟩
  refine ⟨rfl, rfl, ?_⟩
  refine ⟨by show 2 ≤ 16777216; decide, ?_⟩
  refine ⟨C0, t0, 0, 1, rfl, by decide, by decide, .inr ⟨by decide, rfl⟩, ?_⟩
  rw [s1]
  refine ⟨by show 2 ≤ 16777216; decide, ?_⟩
  refine ⟨rfl, rfl, ?_⟩
  refine ⟨by show 2 ≤ 16777216; decide, ?_⟩
  refine ⟨C0, t0, [1, 3], 2, rfl, by decide, by decide, by decide, ?_⟩
  rw [j1]
  refine ⟨by show 2 ≤ 16777216; decide, ?_⟩
  refine ⟨by show 2 ≤ 16777216; decide, ?_⟩
  refine ⟨by show 2 ≤ 16777216; decide, ?_⟩
  refine ⟨by show 3 ≤ 16777216; decide, ?_⟩
  refine ⟨rfl, rfl, ?_⟩
  refine ⟨by show 2 ≤ 16777216; decide, ?_⟩
  refine ⟨C0, t0, 1, 0, rfl, by decide, ?_⟩
  rw [n1]
  refine ⟨by show 2 ≤ 16777216; decide, ?_⟩
  refine ⟨by show 1 ≤ 16777216; decide, ?_⟩
  refine ⟨rfl, rfl, ?_⟩
  refine ⟨by show 0 ≤ 16777216; decide, ?_⟩
  refine ⟨by show 1 ≤ 16777216; decide, ?_⟩
  refine ⟨by show 1 ≤ 16777216; decide, ?_⟩
  refine ⟨by show 2 ≤ 16777216; decide, ?_⟩
  refine ⟨[.tup []], t1, 0, rfl, by decide, ?_⟩
  rw [e1]
  refine ⟨by show 0 ≤ 16777216; decide, ?_⟩
  exact ⟨rfl, rfl, rfl⟩
end K36
end DL
namespace DL
open PySem PySem.Spec L2 Gd
namespace K36
end K36
end DL
namespace DL
open PySem PySem.Spec L2 Gd
namespace K36
section
variable {P : Program} {w : World} {K : PySem.W.Frag} {mg : Str → Option Value} {base : Heap}
theorem ok_children_in (T : Txt K mg) : FnG P w K mg base CX0 1 T.children_in.f T.children_in.fd ["tree", "number"] (spP K sp_children_in) := by
  have nd := sc_children_in.nd
  refine fnD T.children_in.F sc_children_in ln_children_in fun cdv A fr s H E room guard dx h1 h2 => ?_
  have hu := room.units
  exact ⟨_, r_children_in, (dss_one (ds_ret (de_callTy_ (cr_tuple_ K) cd_tuple_ (da_cons (de_lc (own := [("below", 2), ("over", 3)]) rfl nd (di_enumA K (da_cons (de_ix_ K (dv 0) de_int) da_nil) fun h1 => pi_enumA rfl T.b_enumerate h1) (blk_of rfl (by rfl)) (by decide) (fun m s0 H0 C cl fp => (dg_tup_ K (dgs_cons' (dg_name nd rfl (by first | exact .inl rfl | exact .inr rfl)) (dgs_cons' (dg_name nd rfl (by first | exact .inl rfl | exact .inr rfl)) dgs_nil fun h1 h2 => pgs_cons h1 h2) fun h1 h2 => pgs_cons h1 h2) fun h1 => pg_tup rfl h1)) (fun m s0 H0 C cl fp => (dts_one (dt_cmp (op_eqA_ K hu) od_eq (dv 3) (dv 1) (nomark _)))) (fun m s0 H0 C cl fp => (dv 2))) da_nil) fun h1 => pe_callTy (cr_tuple_ K) rfl T.b_tuple rfl h1))), vc_children_in⟩
theorem ok_below_lot (T : Txt K mg) : FnG P w K mg base CX0 1 T.below_lot.f T.below_lot.fd ["tree", "number"] (spP K sp_below_lot) := by
  have nd := sc_below_lot.nd
  refine fnD T.below_lot.F sc_below_lot ln_below_lot fun cdv A fr s H E room guard dx h1 h2 => ?_
  have hu := room.units
  exact ⟨_, r_below_lot, (dss_cons (ds_set nd rfl (by first | exact .inl rfl | exact .inr rfl) (de_newK1 (dv 1) de_bl)) (dss_cons (ds_for PassesOwn.never rfl (di_enumA K (da_cons (de_ix_ K (dv 0) de_int) da_nil) fun h1 => pi_enumA rfl T.b_enumerate h1) (dg_tup_ K (dgs_cons' (dg_name nd rfl (by first | exact .inl rfl | exact .inr rfl)) (dgs_cons' (dg_name nd rfl (by first | exact .inl rfl | exact .inr rfl)) dgs_nil fun h1 h2 => pgs_cons h1 h2) fun h1 h2 => pgs_cons h1 h2) fun h1 => pg_tup rfl h1) (dss_one (ds_if (dt_cmp (op_din hu) (od_inK false) (dv 4) (dv 2) (by first | exact nomark _ | rfl)) (dss_one (ds_putK hu de_bl (dv 2) (dv 3))) dss_nil))) (dss_frzK 2 (dss_one (ds_ret (de_callTy_ (cr_tuple_ K) cd_tuple_ (da_cons (de_callB_ (cr_sortDI rfl) cd_sortDI (da_cons (dv 2) da_nil) fun h1 => pe_callB (cr_sortDI rfl) rfl T.b_sorted rfl h1) da_nil) fun h1 => pe_callTy (cr_tuple_ K) rfl T.b_tuple rfl h1)))))), vc_below_lot⟩
theorem ok_way_up (T : Txt K mg) : FnG P w K mg base CX0 1 T.way_up.f T.way_up.fd ["tree", "number"] (spP K sp_way_up) := by
  have nd := sc_way_up.nd
  refine fnD T.way_up.F sc_way_up ln_way_up fun cdv A fr s H E room guard dx h1 h2 => ?_
  have hu := room.units
  exact ⟨_, r_way_up, (dss_cons (ds_set nd rfl (by first | exact .inl rfl | exact .inr rfl) (de_new (da_cons (dv 1) da_nil))) (dss_cons (ds_while PassesOwn.never (dt_cmp (op_neA_ K hu) od_ne (de_ix_ K (de_ix_ K (dv 0) de_int) (de_ix_ K (dv 2) (de_un un_neg od_neg de_int))) (de_un un_neg od_neg de_int) (nomark _)) (dss_one (ds_expr (de_met_ K md_append (dv 2) (da_cons (de_ix_ K (de_ix_ K (dv 0) de_int) (de_ix_ K (dv 2) (de_un un_neg od_neg de_int))) da_nil) fun h1 h2 => pe_bm PySem.F.plainAttrs_list PySem.F.slot_list_append PySem.F.type_list_append mt_append h1 h2)))) (dss_frz 2 (dss_one (ds_ret (de_callTy_ (cr_tupleZ_ K) cd_tupleZ (da_cons (dv 2) da_nil) fun h1 => pe_callTy (cr_tupleZ_ K) rfl T.b_tuple rfl h1)))))), vc_way_up⟩
theorem ok_cluster_way (T : Txt K mg) : FnG P w K mg base CX0 2 T.cluster_way.f T.cluster_way.fd ["tree", "one", "other"] (spP K sp_cluster_way) := by
  have nd := sc_cluster_way.nd
  have G_way_up := ok_way_up (P := P) (w := w) (base := base) T
  refine fnD T.cluster_way.F sc_cluster_way ln_cluster_way fun cdv A fr s H E room guard dx h1 h2 => ?_
  have hu := room.units
  exact ⟨_, r_cluster_way, (dss_cons (ds_set nd rfl (by first | exact .inl rfl | exact .inr rfl) (de_call_ K G_way_up (room.mono (by decide)) guard rfl T.way_up.m T.way_up.F.2 T.way_up.b  (da_cons (dv 0) (da_cons (dv 1) da_nil)))) (dss_cons (ds_set nd rfl (by first | exact .inl rfl | exact .inr rfl) (de_call_ K G_way_up (room.mono (by decide)) guard rfl T.way_up.m T.way_up.F.2 T.way_up.b  (da_cons (dv 0) (da_cons (dv 2) da_nil)))) (dss_cons (ds_set nd rfl (by first | exact .inl rfl | exact .inr rfl) (de_ix_ K (de_lc (own := [("number", 6)]) rfl nd (di_seq_ K (de_wk (dv 3))) (blk_of rfl (by rfl)) (by decide) (fun m s0 H0 C cl fp => (dg_name nd rfl (by first | exact .inl rfl | exact .inr rfl))) (fun m s0 H0 C cl fp => (dts_one (dt_cmp (op_in_ K) (od_in false) (dv 6) (de_wk (dv 4)) (by first | exact nomark _ | rfl)))) (fun m s0 H0 C cl fp => (dv 6))) de_int)) (dss_one (ds_ret (de_op (op_addAll_ K) od_add (de_slice_ K (de_wk (dv 3)) do_none (do_some (de_indexZ_ K (dv 3) (da_cons (dv 5) da_nil) fun h1 h2 => pe_bmZ PySem.F.plainAttrs_tuple PySem.F.slot_tuple_index PySem.F.type_tuple_index (mt_indexT_ K room) h1 h2))) (de_revA K (de_slice_ K (de_wk (dv 4)) do_none (do_some (de_op (op_addAll_ K) od_add (de_indexZ_ K (dv 4) (da_cons (dv 5) da_nil) fun h1 h2 => pe_bmZ PySem.F.plainAttrs_tuple PySem.F.slot_tuple_index PySem.F.type_tuple_index (mt_indexT_ K room) h1 h2) de_int)))))))))), vc_cluster_way⟩
theorem ok_neighbours_in (T : Txt K mg) : FnG P w K mg base CX0 2 T.neighbours_in.f T.neighbours_in.fd ["tree", "number"] (spP K sp_neighbours_in) := by
  have nd := sc_neighbours_in.nd
  have G_children_in := ok_children_in (P := P) (w := w) (base := base) T
  refine fnD T.neighbours_in.F sc_neighbours_in ln_neighbours_in fun cdv A fr s H E room guard dx h1 h2 => ?_
  have hu := room.units
  exact ⟨_, r_neighbours_in, (dss_cons (ds_set nd rfl (by first | exact .inl rfl | exact .inr rfl) (de_ix_ K (de_ix_ K (dv 0) de_int) (dv 1))) (dss_cons (ds_set nd rfl (by first | exact .inl rfl | exact .inr rfl) (de_call_ K G_children_in (room.mono (by decide)) guard rfl T.children_in.m T.children_in.F.2 T.children_in.b  (da_cons (dv 0) (da_cons (dv 1) da_nil)))) (dss_one (ds_ret (de_if (dt_cmp (op_eqA_ K hu) od_eq (dv 2) (de_un un_neg od_neg de_int) (nomark _)) (dv 3) (de_op (op_addAll_ K) od_add (de_tup (da_cons (dv 2) da_nil)) (dv 3))))))), vc_neighbours_in⟩
theorem ok_next_to (T : Txt K mg) : FnG P w K mg base CX0 3 T.next_to.f T.next_to.fd ["tree", "goal"] (spP K sp_next_to) := by
  have nd := sc_next_to.nd
  have G_neighbours_in := ok_neighbours_in (P := P) (w := w) (base := base) T
  refine fnD T.next_to.F sc_next_to ln_next_to fun cdv A fr s H E room guard dx h1 h2 => ?_
  have hu := room.units
  exact ⟨_, r_next_to, (dss_cons (ds_set nd rfl (by first | exact .inl rfl | exact .inr rfl) (de_newK1 (dv 1) (de_tup (da_cons de_int (da_cons (dv 1) da_nil))))) (dss_cons (ds_set nd rfl (by first | exact .inl rfl | exact .inr rfl) (de_lst (da_cons (dv 1) da_nil))) (dss_cons (ds_while PassesOwn.never (dt_tru_ K (dv 3)) (dss_cons (ds_set nd rfl (by first | exact .inl rfl | exact .inr rfl) (de_newF da_nil)) (dss_cons (ds_for PassesOwn.never rfl (di_seq_ K (dv 3)) (dg_name nd rfl (by first | exact .inl rfl | exact .inr rfl)) (dss_one (ds_for PassesOwn.never rfl (di_seq_ K (de_call_ K G_neighbours_in (room.mono (by decide)) guard rfl T.neighbours_in.m T.neighbours_in.F.2 T.neighbours_in.b  (da_cons (dv 0) (da_cons (dv 5) da_nil)))) (dg_name nd rfl (by first | exact .inl rfl | exact .inr rfl)) (dss_one (ds_if (dt_cmp (op_dnotin hu) (od_inK true) (dv 6) (dv 2) (by first | exact nomark _ | rfl)) (dss_cons (ds_putK hu (de_tup (da_cons (de_op (op_addAll_ K) od_add (de_ix_ K (de_ixK hu (dv 2) (dv 5)) de_int) de_int) (da_cons (dv 5) da_nil))) (dv 2) (dv 6)) (dss_one (ds_expr (de_met_ K md_append (dv 4) (da_cons (dv 6) da_nil) fun h1 h2 => pe_bm PySem.F.plainAttrs_list PySem.F.slot_list_append PySem.F.type_list_append mt_append h1 h2)))) dss_nil))))) (dss_frz 4 (dss_one (ds_set nd rfl (by first | exact .inl rfl | exact .inr rfl) (dv 4))))))) (dss_cons (ds_delK (dv 2) (dv 1)) (dss_frzK 2 (dss_one (ds_ret (dv 2)))))))), vc_next_to⟩
theorem ok_steps_to (T : Txt K mg) : FnG P w K mg base CX0 4 T.steps_to.f T.steps_to.fd ["tree", "goal"] (spP K sp_steps_to) := by
  have nd := sc_steps_to.nd
  have G_next_to := ok_next_to (P := P) (w := w) (base := base) T
  refine fnD T.steps_to.F sc_steps_to ln_steps_to fun cdv A fr s H E room guard dx h1 h2 => ?_
  have hu := room.units
  exact ⟨_, r_steps_to, (dss_cons (ds_set nd rfl (by first | exact .inl rfl | exact .inr rfl) (de_callB_ (cr_sortG_ K hu) cd_sorted (da_cons (de_lc (own := [("number", 3), ("far", 6), ("near", 5)]) rfl nd (di_items (de_call_ K G_next_to (room.mono (by decide)) guard rfl T.next_to.m T.next_to.F.2 T.next_to.b  (da_cons (dv 0) (da_cons (dv 1) da_nil))) fun h1 => pi_items h1) (blk_of rfl (by rfl)) (by decide) (fun m s0 H0 C cl fp => (dg_tup_ K (dgs_cons' (dg_name nd rfl (by first | exact .inl rfl | exact .inr rfl)) (dgs_cons' (dg_tup_ K (dgs_cons' (dg_name nd rfl (by first | exact .inl rfl | exact .inr rfl)) (dgs_cons' (dg_name nd rfl (by first | exact .inl rfl | exact .inr rfl)) dgs_nil fun h1 h2 => pgs_cons h1 h2) fun h1 h2 => pgs_cons h1 h2) fun h1 => pg_tup rfl h1) dgs_nil fun h1 h2 => pgs_cons h1 h2) fun h1 h2 => pgs_cons h1 h2) fun h1 => pg_tup rfl h1)) (fun m s0 H0 C cl fp => dts_nil) (fun m s0 H0 C cl fp => (de_tup (da_cons (de_un un_neg od_neg (dv 6)) (da_cons (dv 3) (da_cons (dv 5) da_nil)))))) da_nil) fun h1 => pe_callB (cr_sortG_ K hu) rfl T.b_sorted rfl h1)) (dss_one (ds_ret (de_callTy_ (cr_tupleZ_ K) cd_tupleZ (da_cons (de_lc (own := [("_", 4), ("number", 3), ("near", 5)]) rfl nd (di_seq_ K (dv 2)) (blk_of rfl (by rfl)) (by decide) (fun m s0 H0 C cl fp => (dg_tup_ K (dgs_cons' (dg_name nd rfl (by first | exact .inl rfl | exact .inr rfl)) (dgs_cons' (dg_name nd rfl (by first | exact .inl rfl | exact .inr rfl)) (dgs_cons' (dg_name nd rfl (by first | exact .inl rfl | exact .inr rfl)) dgs_nil fun h1 h2 => pgs_cons h1 h2) fun h1 h2 => pgs_cons h1 h2) fun h1 h2 => pgs_cons h1 h2) fun h1 => pg_tup rfl h1)) (fun m s0 H0 C cl fp => dts_nil) (fun m s0 H0 C cl fp => (de_tup (da_cons (dv 3) (da_cons (dv 5) da_nil))))) da_nil) fun h1 => pe_callTy (cr_tupleZ_ K) rfl T.b_tuple rfl h1)))), vc_steps_to⟩
theorem ok_steps_from (T : Txt K mg) : FnG P w K mg base CX0 4 T.steps_from.f T.steps_from.fd ["tree", "start"] (spP K sp_steps_from) := by
  have nd := sc_steps_from.nd
  have G_next_to := ok_next_to (P := P) (w := w) (base := base) T
  refine fnD T.steps_from.F sc_steps_from ln_steps_from fun cdv A fr s H E room guard dx h1 h2 => ?_
  have hu := room.units
  exact ⟨_, r_steps_from, (dss_cons (ds_set nd rfl (by first | exact .inl rfl | exact .inr rfl) (de_callB_ (cr_sortG_ K hu) cd_sorted (da_cons (de_lc (own := [("number", 3), ("far", 6), ("near", 5)]) rfl nd (di_items (de_call_ K G_next_to (room.mono (by decide)) guard rfl T.next_to.m T.next_to.F.2 T.next_to.b  (da_cons (dv 0) (da_cons (dv 1) da_nil))) fun h1 => pi_items h1) (blk_of rfl (by rfl)) (by decide) (fun m s0 H0 C cl fp => (dg_tup_ K (dgs_cons' (dg_name nd rfl (by first | exact .inl rfl | exact .inr rfl)) (dgs_cons' (dg_tup_ K (dgs_cons' (dg_name nd rfl (by first | exact .inl rfl | exact .inr rfl)) (dgs_cons' (dg_name nd rfl (by first | exact .inl rfl | exact .inr rfl)) dgs_nil fun h1 h2 => pgs_cons h1 h2) fun h1 h2 => pgs_cons h1 h2) fun h1 => pg_tup rfl h1) dgs_nil fun h1 h2 => pgs_cons h1 h2) fun h1 h2 => pgs_cons h1 h2) fun h1 => pg_tup rfl h1)) (fun m s0 H0 C cl fp => dts_nil) (fun m s0 H0 C cl fp => (de_tup (da_cons (dv 6) (da_cons (dv 3) (da_cons (dv 5) da_nil)))))) da_nil) fun h1 => pe_callB (cr_sortG_ K hu) rfl T.b_sorted rfl h1)) (dss_one (ds_ret (de_callTy_ (cr_tupleZ_ K) cd_tupleZ (da_cons (de_lc (own := [("_", 4), ("number", 3), ("near", 5)]) rfl nd (di_seq_ K (dv 2)) (blk_of rfl (by rfl)) (by decide) (fun m s0 H0 C cl fp => (dg_tup_ K (dgs_cons' (dg_name nd rfl (by first | exact .inl rfl | exact .inr rfl)) (dgs_cons' (dg_name nd rfl (by first | exact .inl rfl | exact .inr rfl)) (dgs_cons' (dg_name nd rfl (by first | exact .inl rfl | exact .inr rfl)) dgs_nil fun h1 h2 => pgs_cons h1 h2) fun h1 h2 => pgs_cons h1 h2) fun h1 h2 => pgs_cons h1 h2) fun h1 => pg_tup rfl h1)) (fun m s0 H0 C cl fp => dts_nil) (fun m s0 H0 C cl fp => (de_tup (da_cons (dv 5) (da_cons (dv 3) da_nil))))) da_nil) fun h1 => pe_callTy (cr_tupleZ_ K) rfl T.b_tuple rfl h1)))), vc_steps_from⟩
theorem ok_steps_into (T : Txt K mg) : FnG P w K mg base CX0 3 T.steps_into.f T.steps_into.fd ["tree", "step"] (spP K sp_steps_into) := by
  have nd := sc_steps_into.nd
  have G_neighbours_in := ok_neighbours_in (P := P) (w := w) (base := base) T
  refine fnD T.steps_into.F sc_steps_into ln_steps_into fun cdv A fr s H E room guard dx h1 h2 => ?_
  have hu := room.units
  exact ⟨_, r_steps_into, (dss_one (ds_ret (de_callTy_ (cr_tuple_ K) cd_tuple_ (da_cons (de_lc (own := [("near", 2)]) rfl nd (di_seq_ K (de_call_ K G_neighbours_in (room.mono (by decide)) guard rfl T.neighbours_in.m T.neighbours_in.F.2 T.neighbours_in.b  (da_cons (dv 0) (da_cons (de_ix_ K (dv 1) de_int) da_nil)))) (blk_of rfl (by rfl)) (by decide) (fun m s0 H0 C cl fp => (dg_name nd rfl (by first | exact .inl rfl | exact .inr rfl))) (fun m s0 H0 C cl fp => (dts_one (dt_cmp (op_neA_ K hu) od_ne (dv 2) (de_ix_ K (dv 1) de_int) (nomark _)))) (fun m s0 H0 C cl fp => (de_tup (da_cons (dv 2) (da_cons (de_ix_ K (dv 1) de_int) da_nil))))) da_nil) fun h1 => pe_callTy (cr_tuple_ K) rfl T.b_tuple rfl h1))), vc_steps_into⟩
theorem ok_side_of (T : Txt K mg) : FnG P w K mg base CX0 2 T.side_of.f T.side_of.fd ["tree", "step"] (spP K sp_side_of) := by
  have nd := sc_side_of.nd
  have G_below_lot := ok_below_lot (P := P) (w := w) (base := base) T
  refine fnD T.side_of.F sc_side_of ln_side_of fun cdv A fr s H E room guard dx h1 h2 => ?_
  have hu := room.units
  exact ⟨_, r_side_of, (dss_cons (ds_asg_ (dv 1) (dg_tup_ K (dgs_cons' (dg_name nd rfl (by first | exact .inl rfl | exact .inr rfl)) (dgs_cons' (dg_name nd rfl (by first | exact .inl rfl | exact .inr rfl)) dgs_nil fun h1 h2 => pgs_cons h1 h2) fun h1 h2 => pgs_cons h1 h2) fun h1 => pg_tup rfl h1) fun h1 h2 => ps_asg h1 h2) (dss_cons (ds_if (dt_cmp (op_eqA_ K hu) od_eq (de_ix_ K (de_ix_ K (dv 0) de_int) (dv 3)) (dv 4) (nomark _)) (dss_one (ds_ret (de_call_ K G_below_lot (room.mono (by decide)) guard rfl T.below_lot.m T.below_lot.F.2 T.below_lot.b  (da_cons (dv 0) (da_cons (dv 3) da_nil))))) dss_nil) (dss_cons (ds_set nd rfl (by first | exact .inl rfl | exact .inr rfl) (de_call_ K G_below_lot (room.mono (by decide)) guard rfl T.below_lot.m T.below_lot.F.2 T.below_lot.b  (da_cons (dv 0) (da_cons (dv 4) da_nil)))) (dss_one (ds_ret (de_callTy_ (cr_tuple_ K) cd_tuple_ (da_cons (de_lc (own := [("number", 5)]) rfl nd (di_range1 rfl T.b_range (da_cons (de_callB_ (cr_len_ K) cd_len (da_cons (de_ix_ K (dv 0) de_int) da_nil) fun h1 => pe_callB (cr_len_ K) rfl T.b_len rfl h1) da_nil)) (blk_of rfl (by rfl)) (by decide) (fun m s0 H0 C cl fp => (dg_name nd rfl (by first | exact .inl rfl | exact .inr rfl))) (fun m s0 H0 C cl fp => (dts_one (dt_cmp (op_notIn_ K) (od_in true) (dv 5) (dv 2) (by first | exact nomark _ | rfl)))) (fun m s0 H0 C cl fp => (dv 5))) da_nil) fun h1 => pe_callTy (cr_tuple_ K) rfl T.b_tuple rfl h1)))))), vc_side_of⟩
theorem ok_steps_joining (T : Txt K mg) : FnG P w K mg base CX0 5 T.steps_joining.f T.steps_joining.fd ["tree", "lot", "goal"] (spP K sp_steps_joining) := by
  have nd := sc_steps_joining.nd
  have G_cluster_way := ok_cluster_way (P := P) (w := w) (base := base) T
  have G_steps_to := ok_steps_to (P := P) (w := w) (base := base) T
  refine fnD T.steps_joining.F sc_steps_joining ln_steps_joining fun cdv A fr s H E room guard dx h1 h2 => ?_
  have hu := room.units
  exact ⟨_, r_steps_joining, (dss_cons (ds_set nd rfl (by first | exact .inl rfl | exact .inr rfl) (de_dcN (own := [("start", 4), ("number", 5)]) rfl nd (di_seq_ K (dv 1)) (show BlkOk ["tree", "lot", "goal", "on_way", "start", "number", "step"] (defScope s_steps_joining) _ [("start", 4), ("number", 5)] from ⟨rfl, by decide +kernel, by decide +kernel, by decide +kernel, by decide +kernel⟩) (by decide) (fun m s0 H0 C cl fp => (dg_name nd rfl (by first | exact .inl rfl | exact .inr rfl))) (fun m s0 H0 C cl fp => dts_nil) (dnsk_next (vs := [5]) rfl (fun m s0 H0 C cl fp => (di_seq_ K (de_call_ K G_cluster_way (room.mono (by decide)) guard rfl T.cluster_way.m T.cluster_way.F.2 T.cluster_way.b  (da_cons (dv 0) (da_cons (dv 4) (da_cons (dv 2) da_nil)))))) (fun m s0 H0 C cl fp => (dg_name nd rfl (by first | exact .inl rfl | exact .inr rfl))) (fun m s0 H0 C cl fp => dts_nil) (dnsk_end rfl (fun m s0 H0 C cl fp => (dv 5)) (fun m s0 H0 C cl fp => de_bl)) (by decide) (by decide)) (by decide))) (dss_one (ds_ret (de_callTy_ (cr_tuple_ K) cd_tuple_ (da_cons (de_lc (own := [("step", 6)]) rfl nd (di_seq_ K (de_wk (de_call_ K G_steps_to (room.mono (by decide)) guard rfl T.steps_to.m T.steps_to.F.2 T.steps_to.b  (da_cons (dv 0) (da_cons (dv 2) da_nil))))) (blk_of rfl (by rfl)) (by decide) (fun m s0 H0 C cl fp => (dg_name nd rfl (by first | exact .inl rfl | exact .inr rfl))) (fun m s0 H0 C cl fp => (dts_one (dt_cmp (op_din hu) (od_inK false) (de_ix_ K (dv 6) de_int) (dv 3) (by first | exact nomark _ | rfl)))) (fun m s0 H0 C cl fp => (dv 6))) da_nil) fun h1 => pe_callTy (cr_tuple_ K) rfl T.b_tuple rfl h1)))), vc_steps_joining⟩
theorem ok__law_box (T : Txt K mg) : FnG P w K mg base CX0 1 T._law_box.f T._law_box.fd ["_law_script", "_law_k"] (spN K sp__law_box) := by
  have nd := sc__law_box.nd
  refine fnN T._law_box.F sc__law_box ln__law_box fun cdv A fr s H E room guard dx h1 h2 => ?_
  have hu := room.units
  exact ⟨_, r__law_box, (dss_cons (ds_set nd rfl (by first | exact .inl rfl | exact .inr rfl) (de_op (op_addAll_ K) od_add (de_op (op_mulAll_ K) od_mul de_int (dv 1)) de_int)) (dss_cons (ds_if (dt_cmp op_lt od_onB (dv 1) (de_callB_ (cr_len_ K) cd_len (da_cons (dv 0) da_nil) fun h1 => pe_callB (cr_len_ K) rfl T.b_len rfl h1) (nomark _)) (dss_one (ds_set nd rfl (by first | exact .inl rfl | exact .inr rfl) (de_callB_ call_abs cd_abs (da_cons (de_ix_ K (dv 0) (dv 1)) da_nil) fun h1 => pe_callB call_abs rfl T.b_abs rfl h1))) (dss_one (ds_if (dt_cmp op_gt od_onB (de_callB_ (cr_len_ K) cd_len (da_cons (dv 0) da_nil) fun h1 => pe_callB (cr_len_ K) rfl T.b_len rfl h1) de_int (nomark _)) (dss_one (ds_set nd rfl (by first | exact .inl rfl | exact .inr rfl) (de_op (op_addAll_ K) od_add (dv 2) (de_op (op_mulAll_ K) od_mul (de_op op_mod od_onI (de_callTy_ call_int1 cd_int (da_cons (de_callB_ call_abs cd_abs (da_cons (de_ix_ K (dv 0) (de_op op_mod od_onI (de_callTy_ call_int1 cd_int (da_cons (dv 1) da_nil) fun h1 => pe_callTy call_int1 rfl T.b_int rfl h1) (de_callB_ (cr_len_ K) cd_len (da_cons (dv 0) da_nil) fun h1 => pe_callB (cr_len_ K) rfl T.b_len rfl h1))) da_nil) fun h1 => pe_callB call_abs rfl T.b_abs rfl h1) da_nil) fun h1 => pe_callTy call_int1 rfl T.b_int rfl h1) de_int) de_int)))) dss_nil))) (dss_cons (ds_set nd rfl (by first | exact .inl rfl | exact .inr rfl) (de_callTy_ call_int1 cd_int (da_cons (de_cmp op_ge od_onB (dv 2) (de_op op_pow od_onI de_int de_int) (nomark _)) da_nil) fun h1 => pe_callTy call_int1 rfl T.b_int rfl h1)) (dss_one (ds_retA (de_new (da_cons (de_ix_ K (de_lst (da_cons de_int (da_cons (dv 2) da_nil))) (dv 3)) (da_cons (de_op (op_addAll_ K) od_add (de_op op_mod od_onI (de_callTy_ call_int1 cd_int (da_cons (de_op (op_addAll_ K) od_add (de_op (op_addAll_ K) od_add (de_op (op_mulAll_ K) od_mul (de_op op_mod od_onI (de_callTy_ call_int1 cd_int (da_cons (dv 2) da_nil) fun h1 => pe_callTy call_int1 rfl T.b_int rfl h1) de_int) de_int) (de_op (op_mulAll_ K) od_mul de_int (dv 1))) de_int) da_nil) fun h1 => pe_callTy call_int1 rfl T.b_int rfl h1) de_int) de_int) (da_cons de_int da_nil))))))))), vc__law_box⟩
theorem ok__law_take (T : Txt K mg) : FnG P w K mg base CX0 1 T._law_take.f T._law_take.fd ["_law_box_here", "_law_many"] (spBx K spTake) := by
  have nd := sc__law_take.nd
  refine fnTake T._law_take.F sc__law_take rfl fun cdv A fr s H E room guard dx => ?_
  have hu := room.units
  exact ⟨_, r__law_take, (dss_cons (ds_if (dt_cmp op_gt od_onB (de_ix_ K (dv 0) de_int) de_int (nomark _)) (dss_cons (ds_set nd rfl (by first | exact .inl rfl | exact .inr rfl) (de_op op_mod od_onI (de_callTy_ call_int1 cd_int (da_cons (de_ix_ K (dv 0) de_int) da_nil) fun h1 => pe_callTy call_int1 rfl T.b_int rfl h1) (dv 1))) (dss_cons (ds_setI_ (de_op op_fdivW od_onI (de_ix_ K (dv 0) de_int) (dv 1)) (dv 0) de_int fun h1 h2 h3 => ps_asg h1 (pg_sub h2 h3 set_list)) (dss_one (ds_ret (dv 3))))) dss_nil) (dss_cons (ds_setI_ (de_op (op_addAll_ K) od_add (de_ix_ K (dv 0) de_int) de_int) (dv 0) de_int fun h1 h2 h3 => ps_asg h1 (pg_sub h2 h3 set_list)) (dss_cons (ds_set nd rfl (by first | exact .inl rfl | exact .inr rfl) (de_op op_mod od_onI (de_callTy_ call_int1 cd_int (da_cons (de_op (op_addAll_ K) od_add (de_op (op_mulAll_ K) od_mul (de_op (op_addAll_ K) od_add (de_ix_ K (dv 0) de_int) (de_op (op_mulAll_ K) od_mul de_int (de_ix_ K (dv 0) de_int))) de_int) de_int) da_nil) fun h1 => pe_callTy call_int1 rfl T.b_int rfl h1) de_int)) (dss_cons (ds_setI_ (de_op (op_addAll_ K) od_add (de_op op_mod od_onI (de_callTy_ call_int1 cd_int (da_cons (de_op (op_addAll_ K) od_add (de_op (op_mulAll_ K) od_mul (dv 2) de_int) de_int) da_nil) fun h1 => pe_callTy call_int1 rfl T.b_int rfl h1) de_int) de_int) (dv 0) de_int fun h1 h2 h3 => ps_asg h1 (pg_sub h2 h3 set_list)) (dss_one (ds_ret (de_op op_mod od_onI (de_callTy_ call_int1 cd_int (da_cons (de_op op_fdivW od_onI (de_op (op_addAll_ K) od_add (de_op (op_mulAll_ K) od_mul (dv 2) de_int) (de_ix_ K (dv 0) de_int)) de_int) da_nil) fun h1 => pe_callTy call_int1 rfl T.b_int rfl h1) (dv 1)))))))), vc__law_take⟩
theorem ok__law_pick (T : Txt K mg) : FnG P w K mg base CX0 2 T._law_pick.f T._law_pick.fd ["_law_box_here", "_law_some"] (spBx K sp__law_pick) := by
  have nd := sc__law_pick.nd
  have G__law_take := ok__law_take (P := P) (w := w) (base := base) T
  refine fnBx T._law_pick.F sc__law_pick ln__law_pick fun cdv A fr s H E room guard a dx h1 h2 => ?_
  have hu := room.units
  exact ⟨_, r__law_pick a, (dss_one (ds_ret (de_ix_ K (dv 1) (de_callBx_ K G__law_take (room.mono (by decide)) guard rfl T._law_take.m T._law_take.F.2 T._law_take.b h1 h2 (da_cons (dv 0) (da_cons (de_callB_ (cr_len_ K) cd_len (da_cons (dv 1) da_nil) fun h1 => pe_callB (cr_len_ K) rfl T.b_len rfl h1) da_nil)))))), vc__law_pick a⟩
theorem ok__law_chain (T : Txt K mg) : FnG P w K mg base CX0 1 T._law_chain.f T._law_chain.fd ["_law_above", "_law_number"] (spP K sp__law_chain) := by
  have nd := sc__law_chain.nd
  refine fnD T._law_chain.F sc__law_chain ln__law_chain fun cdv A fr s H E room guard dx h1 h2 => ?_
  have hu := room.units
  exact ⟨_, r__law_chain, (dss_cons (ds_set nd rfl (by first | exact .inl rfl | exact .inr rfl) (de_new (da_cons (dv 1) da_nil))) (dss_cons (ds_for PassesOwn.never rfl (di_range1 rfl T.b_range (da_cons (de_callB_ (cr_len_ K) cd_len (da_cons (dv 0) da_nil) fun h1 => pe_callB (cr_len_ K) rfl T.b_len rfl h1) da_nil)) (dg_name nd rfl (by first | exact .inl rfl | exact .inr rfl)) (dss_one (ds_if (dt_cmp op_gt od_onB (de_ix_ K (dv 2) (de_un un_neg od_neg de_int)) de_int (nomark _)) (dss_one (ds_expr (de_met_ K md_append (dv 2) (da_cons (de_ix_ K (dv 0) (de_ix_ K (dv 2) (de_un un_neg od_neg de_int))) da_nil) fun h1 h2 => pe_bm PySem.F.plainAttrs_list PySem.F.slot_list_append PySem.F.type_list_append mt_append h1 h2))) dss_nil))) (dss_frz 2 (dss_one (ds_ret (dv 2)))))), vc__law_chain⟩
theorem ok__law_way (T : Txt K mg) : FnG P w K mg base CX0 2 T._law_way.f T._law_way.fd ["_law_above", "_law_one", "_law_other"] (spP K sp__law_way) := by
  have nd := sc__law_way.nd
  have G__law_chain := ok__law_chain (P := P) (w := w) (base := base) T
  refine fnD T._law_way.F sc__law_way ln__law_way fun cdv A fr s H E room guard dx h1 h2 => ?_
  have hu := room.units
  exact ⟨_, r__law_way, (dss_cons (ds_asg_ (de_tup (da_cons (de_call_ K G__law_chain (room.mono (by decide)) guard rfl T._law_chain.m T._law_chain.F.2 T._law_chain.b  (da_cons (dv 0) (da_cons (dv 1) da_nil))) (da_cons (de_call_ K G__law_chain (room.mono (by decide)) guard rfl T._law_chain.m T._law_chain.F.2 T._law_chain.b  (da_cons (dv 0) (da_cons (dv 2) da_nil))) da_nil))) (dg_tup_ K (dgs_cons' (dg_name nd rfl (by first | exact .inl rfl | exact .inr rfl)) (dgs_cons' (dg_name nd rfl (by first | exact .inl rfl | exact .inr rfl)) dgs_nil fun h1 h2 => pgs_cons h1 h2) fun h1 h2 => pgs_cons h1 h2) fun h1 => pg_tup rfl h1) fun h1 h2 => ps_asg h1 h2) (dss_cons (ds_set nd rfl (by first | exact .inl rfl | exact .inr rfl) (de_ix_ K (de_lc (own := [("_law_number", 6)]) rfl nd (di_seq_ K (dv 4)) (blk_of rfl (by rfl)) (by decide) (fun m s0 H0 C cl fp => (dg_name nd rfl (by first | exact .inl rfl | exact .inr rfl))) (fun m s0 H0 C cl fp => (dts_one (dt_cmp (op_in_ K) (od_in false) (dv 6) (dv 5) (by first | exact nomark _ | rfl)))) (fun m s0 H0 C cl fp => (dv 6))) de_int)) (dss_one (ds_ret (de_op (op_addAll_ K) od_add (de_op (op_addAll_ K) od_add (de_lc (own := [("_law_number", 6)]) rfl nd (di_seq_ K (dv 4)) (blk_of rfl (by rfl)) (by decide) (fun m s0 H0 C cl fp => (dg_name nd rfl (by first | exact .inl rfl | exact .inr rfl))) (fun m s0 H0 C cl fp => (dts_one (dt_cmp (op_notIn_ K) (od_in true) (dv 6) (dv 5) (by first | exact nomark _ | rfl)))) (fun m s0 H0 C cl fp => (dv 6))) (de_lst (da_cons (dv 3) da_nil))) (de_rev_ K (de_lc (own := [("_law_number", 6)]) rfl nd (di_seq_ K (dv 5)) (blk_of rfl (by rfl)) (by decide) (fun m s0 H0 C cl fp => (dg_name nd rfl (by first | exact .inl rfl | exact .inr rfl))) (fun m s0 H0 C cl fp => (dts_one (dt_cmp (op_notIn_ K) (od_in true) (dv 6) (dv 4) (by first | exact nomark _ | rfl)))) (fun m s0 H0 C cl fp => (dv 6))))))))), vc__law_way⟩
theorem ok__law_tree (T : Txt K mg) : FnG P w K mg base CX0 3 T._law_tree.f T._law_tree.fd ["_law_box_here"] (spBx K sp__law_tree) := by
  have nd := sc__law_tree.nd
  have G__law_pick := ok__law_pick (P := P) (w := w) (base := base) T
  have G__law_take := ok__law_take (P := P) (w := w) (base := base) T
  refine fnBx T._law_tree.F sc__law_tree ln__law_tree fun cdv A fr s H E room guard a dx h1 h2 => ?_
  have hu := room.units
  exact ⟨_, r__law_tree a, (dss_cons (ds_par_ (da_cons (de_newB h1 da_nil) (da_cons (de_newB h1 da_nil) da_nil)) fun h1 => ps_par (by rfl) nd rfl rfl (by decide) rfl rfl h1 (by rfl)) (dss_cons (ds_for PassesOwn.never rfl (di_range1 rfl T.b_range (da_cons (de_callBx_ K G__law_pick (room.mono (by decide)) guard rfl T._law_pick.m T._law_pick.F.2 T._law_pick.b h1 h2 (da_cons (dv 0) (da_cons (de_lst (da_cons de_int (da_cons de_int (da_cons de_int (da_cons de_int (da_cons de_int (da_cons de_int (da_cons de_int (da_cons de_int da_nil))))))))) da_nil))) da_nil)) (dg_name nd rfl (by first | exact .inl rfl | exact .inr rfl)) (dss_cons (ds_set nd rfl (by first | exact .inl rfl | exact .inr rfl) (de_op op_sub od_onI0 de_int de_int)) (dss_cons (ds_if (dt_cmp op_gt od_onB (dv 1) de_int (nomark _)) (dss_one (ds_set nd rfl (by first | exact .inl rfl | exact .inr rfl) (de_ix_ K (de_lst (da_cons (de_callBx_ K G__law_take (room.mono (by decide)) guard rfl T._law_take.m T._law_take.F.2 T._law_take.b h1 h2 (da_cons (dv 0) (da_cons (dv 1) da_nil))) (da_cons (de_op op_sub od_onI0 (dv 1) de_int) (da_cons (de_op op_fdivW od_onI (dv 1) de_int) (da_cons (de_callBx_ K G__law_take (room.mono (by decide)) guard rfl T._law_take.m T._law_take.F.2 T._law_take.b h1 h2 (da_cons (dv 0) (da_cons (dv 1) da_nil))) da_nil))))) (de_callBx_ K G__law_take (room.mono (by decide)) guard rfl T._law_take.m T._law_take.F.2 T._law_take.b h1 h2 (da_cons (dv 0) (da_cons de_int da_nil)))))) dss_nil) (dss_cons (ds_set nd rfl (by first | exact .inl rfl | exact .inr rfl) (de_if (DW.dt (dw_and (dt_cmp op_gt od_onB (dv 1) de_int (nomark _)) (dw_and1 (dt_cmp op_gt od_onB (de_callBx_ K G__law_take (room.mono (by decide)) guard rfl T._law_take.m T._law_take.F.2 T._law_take.b h1 h2 (da_cons (dv 0) (da_cons de_int da_nil))) de_int (nomark _))))) (de_lst (da_cons (de_ix_ K (de_ix_ K (dv 2) (dv 4)) (de_un un_neg od_neg de_int)) da_nil)) (de_lst da_nil))) (dss_cons (ds_expr (de_met_ K md_append (dv 2) (da_cons (de_callTy_ (cr_tuple_ K) cd_tuple_ (da_cons (de_callB_ (cr_sortG_ K hu) cd_sorted (da_cons (de_op (op_addAll_ K) od_add (dv 5) (de_lst (da_cons (dv 1) da_nil))) da_nil) fun h1 => pe_callB (cr_sortG_ K hu) rfl T.b_sorted rfl h1) da_nil) fun h1 => pe_callTy (cr_tuple_ K) rfl T.b_tuple rfl h1) da_nil) fun h1 h2 => pe_bm PySem.F.plainAttrs_list PySem.F.slot_list_append PySem.F.type_list_append mt_append h1 h2)) (dss_one (ds_expr (de_met_ K md_append (dv 3) (da_cons (dv 4) da_nil) fun h1 h2 => pe_bm PySem.F.plainAttrs_list PySem.F.slot_list_append PySem.F.type_list_append mt_append h1 h2)))))))) (dss_frz 2 (dss_frz 3 (dss_one (ds_ret (de_tup (da_cons (de_callTy_ (cr_tuple_ K) cd_tuple_ (da_cons (dv 2) da_nil) fun h1 => pe_callTy (cr_tuple_ K) rfl T.b_tuple rfl h1) (da_cons (de_callTy_ (cr_tuple_ K) cd_tuple_ (da_cons (dv 3) da_nil) fun h1 => pe_callTy (cr_tuple_ K) rfl T.b_tuple rfl h1) da_nil))))))))), vc__law_tree a⟩
theorem ok__law_steps (T : Txt K mg) : FnG P w K mg base CX0 3 T._law_steps.f T._law_steps.fd ["_law_above", "_law_goal"] (spP K sp__law_steps) := by
  have nd := sc__law_steps.nd
  have G__law_way := ok__law_way (P := P) (w := w) (base := base) T
  refine fnD T._law_steps.F sc__law_steps ln__law_steps fun cdv A fr s H E room guard dx h1 h2 => ?_
  have hu := room.units
  exact ⟨_, r__law_steps, (dss_cons (ds_par_ (da_cons (de_lst da_nil) (da_cons (de_lst da_nil) da_nil)) fun h1 => ps_par (by rfl) nd rfl rfl (by decide) rfl rfl h1 (by rfl)) (dss_cons (ds_setLc (own := [("_law_at", 6)]) rfl nd rfl rfl (by rfl) (di_range1 rfl T.b_range (da_cons (de_callB_ (cr_len_ K) cd_len (da_cons (dv 0) da_nil) fun h1 => pe_callB (cr_len_ K) rfl T.b_len rfl h1) da_nil)) (blk_of rfl (by rfl)) (by decide) (fun m s0 H0 C cl fp => (dg_name nd rfl (by first | exact .inl rfl | exact .inr rfl))) (fun m s0 H0 C cl fp => (dts_one (dt_cmp (op_neA_ K hu) od_ne (dv 6) (dv 1) (nomark _)))) (fun m s0 H0 C cl fp => (de_call_ K G__law_way (room.mono (by decide)) guard rfl T._law_way.m T._law_way.F.2 T._law_way.b  (da_cons (dv 0) (da_cons (dv 6) (da_cons (dv 1) da_nil)))))) (dss_cons (ds_for PassesOwn.never rfl (di_range3' (fun h1 => pi_range3 rfl T.b_range h1) (da_cons (de_op (op_addAll_ K) od_add (de_callB_ (cr_len_ K) cd_len (da_cons (dv 0) da_nil) fun h1 => pe_callB (cr_len_ K) rfl T.b_len rfl h1) de_int) (da_cons de_int (da_cons (de_un un_neg od_neg de_int) da_nil)))) (dg_name nd rfl (by first | exact .inl rfl | exact .inr rfl)) (dss_cons (ds_set nd rfl (by first | exact .inl rfl | exact .inr rfl) (de_op (op_addAll_ K) od_add (dv 4) (de_lc (own := [("_law_way_here", 7)]) rfl nd (di_seq_ K (dv 2)) (blk_of rfl (by rfl)) (by decide) (fun m s0 H0 C cl fp => (dg_name nd rfl (by first | exact .inl rfl | exact .inr rfl))) (fun m s0 H0 C cl fp => (dts_one (dt_cmp (op_eqA_ K hu) od_eq (de_callB_ (cr_len_ K) cd_len (da_cons (dv 7) da_nil) fun h1 => pe_callB (cr_len_ K) rfl T.b_len rfl h1) (dv 3) (nomark _)))) (fun m s0 H0 C cl fp => (de_tup (da_cons (de_ix_ K (dv 7) de_int) (da_cons (de_ix_ K (dv 7) de_int) da_nil))))))) (dss_one (ds_set nd rfl (by first | exact .inl rfl | exact .inr rfl) (de_op (op_addAll_ K) od_add (de_lc (own := [("_law_way_here", 7)]) rfl nd (di_seq_ K (dv 2)) (blk_of rfl (by rfl)) (by decide) (fun m s0 H0 C cl fp => (dg_name nd rfl (by first | exact .inl rfl | exact .inr rfl))) (fun m s0 H0 C cl fp => (dts_one (dt_cmp (op_eqA_ K hu) od_eq (de_callB_ (cr_len_ K) cd_len (da_cons (dv 7) da_nil) fun h1 => pe_callB (cr_len_ K) rfl T.b_len rfl h1) (dv 3) (nomark _)))) (fun m s0 H0 C cl fp => (de_tup (da_cons (de_ix_ K (dv 7) de_int) (da_cons (de_ix_ K (dv 7) de_int) da_nil))))) (dv 5)))))) (dss_one (ds_ret (de_tup (da_cons (de_callTy_ (cr_tuple_ K) cd_tuple_ (da_cons (dv 4) da_nil) fun h1 => pe_callTy (cr_tuple_ K) rfl T.b_tuple rfl h1) (da_cons (de_callTy_ (cr_tuple_ K) cd_tuple_ (da_cons (dv 5) da_nil) fun h1 => pe_callTy (cr_tuple_ K) rfl T.b_tuple rfl h1) da_nil)))))))), vc__law_steps⟩
theorem ok__law_ends_right (T : Txt K mg) : FnG P w K mg base CX0 6 T._law_ends_right.f T._law_ends_right.fd ["_law_box_here", "_law_tree_here", "_law_goal"] (spBx K sp__law_ends_right) := by
  have nd := sc__law_ends_right.nd
  have G__law_steps := ok__law_steps (P := P) (w := w) (base := base) T
  have G__law_take := ok__law_take (P := P) (w := w) (base := base) T
  have G__law_way := ok__law_way (P := P) (w := w) (base := base) T
  have G_neighbours_in := ok_neighbours_in (P := P) (w := w) (base := base) T
  have G_steps_from := ok_steps_from (P := P) (w := w) (base := base) T
  have G_steps_joining := ok_steps_joining (P := P) (w := w) (base := base) T
  have G_steps_to := ok_steps_to (P := P) (w := w) (base := base) T
  refine fnBx T._law_ends_right.F sc__law_ends_right ln__law_ends_right fun cdv A fr s H E room guard a dx h1 h2 => ?_
  have hu := room.units
  exact ⟨_, r__law_ends_right a, (dss_cons (ds_set nd rfl (by first | exact .inl rfl | exact .inr rfl) (de_ix_ K (dv 1) de_int)) (dss_cons (ds_asg_ (de_call_ K G__law_steps (room.mono (by decide)) guard rfl T._law_steps.m T._law_steps.F.2 T._law_steps.b  (da_cons (dv 3) (da_cons (dv 2) da_nil))) (dg_tup_ K (dgs_cons' (dg_name nd rfl (by first | exact .inl rfl | exact .inr rfl)) (dgs_cons' (dg_name nd rfl (by first | exact .inl rfl | exact .inr rfl)) dgs_nil fun h1 h2 => pgs_cons h1 h2) fun h1 h2 => pgs_cons h1 h2) fun h1 => pg_tup rfl h1) fun h1 h2 => ps_asg h1 h2) (dss_cons (ds_if (DW.dt (dw_or (dt_cmp (op_neA_ K hu) od_ne (de_callB_ (cr_repr_ K guard hu) cd_repr (da_cons (de_wk (de_call_ K G_steps_to (room.mono (by decide)) guard rfl T.steps_to.m T.steps_to.F.2 T.steps_to.b  (da_cons (dv 1) (da_cons (dv 2) da_nil)))) da_nil) fun h1 => pe_callB (cr_repr_ K guard hu) rfl T.b_repr rfl h1) (de_callB_ (cr_repr_ K guard hu) cd_repr (da_cons (dv 8) da_nil) fun h1 => pe_callB (cr_repr_ K guard hu) rfl T.b_repr rfl h1) (nomark _)) (dw_or1 (dt_cmp (op_neA_ K hu) od_ne (de_wk (de_callK0_ K G_steps_to (room.mono (by decide)) guard rfl T.steps_to.m T.steps_to.F.2 (kb_steps_to_0_goal_tree T.steps_to.F) kb_steps_to_0_goal_tree_ord  (dk_cons (dv 2) (dk_cons (dv 1) dk_nil)))) (dv 8) (nomark _))))) (dss_one (ds_ret de_bl)) dss_nil) (dss_cons (ds_if (DW.dt (dw_or (dt_cmp (op_neA_ K hu) od_ne (de_callB_ (cr_repr_ K guard hu) cd_repr (da_cons (de_wk (de_call_ K G_steps_from (room.mono (by decide)) guard rfl T.steps_from.m T.steps_from.F.2 T.steps_from.b  (da_cons (dv 1) (da_cons (dv 2) da_nil)))) da_nil) fun h1 => pe_callB (cr_repr_ K guard hu) rfl T.b_repr rfl h1) (de_callB_ (cr_repr_ K guard hu) cd_repr (da_cons (dv 9) da_nil) fun h1 => pe_callB (cr_repr_ K guard hu) rfl T.b_repr rfl h1) (nomark _)) (dw_or1 (dt_cmp (op_neA_ K hu) od_ne (de_wk (de_callK0_ K G_steps_from (room.mono (by decide)) guard rfl T.steps_from.m T.steps_from.F.2 (kb_steps_from_0_start_tree T.steps_from.F) kb_steps_from_0_start_tree_ord  (dk_cons (dv 2) (dk_cons (dv 1) dk_nil)))) (dv 9) (nomark _))))) (dss_one (ds_ret de_bl)) dss_nil) (dss_cons (ds_set nd rfl (by first | exact .inl rfl | exact .inr rfl) (de_callTy_ (cr_tuple_ K) cd_tuple_ (da_cons (de_lc (own := [("_law_at", 10)]) rfl nd (di_range1 rfl T.b_range (da_cons (de_callB_ (cr_len_ K) cd_len (da_cons (dv 3) da_nil) fun h1 => pe_callB (cr_len_ K) rfl T.b_len rfl h1) da_nil)) (blk_of rfl (by rfl)) (by decide) (fun m s0 H0 C cl fp => (dg_name nd rfl (by first | exact .inl rfl | exact .inr rfl))) (fun m s0 H0 C cl fp => (dts_one (DW.dt (dw_or (dt_cmp (op_eqA_ K hu) od_eq (de_ix_ K (dv 3) (dv 10)) (dv 2) (nomark _)) (dw_or1 (DW.dt (dw_and (dt_cmp (op_eqA_ K hu) od_eq (dv 10) (de_ix_ K (dv 3) (dv 2)) (nomark _)) (dw_and1 (dt_cmp op_gt od_onB (dv 2) de_int (nomark _)))))))))) (fun m s0 H0 C cl fp => (dv 10))) da_nil) fun h1 => pe_callTy (cr_tuple_ K) rfl T.b_tuple rfl h1)) (dss_cons (ds_if (DW.dt (dw_or (dt_cmp (op_neA_ K hu) od_ne (de_callB_ (cr_repr_ K guard hu) cd_repr (da_cons (de_call_ K G_neighbours_in (room.mono (by decide)) guard rfl T.neighbours_in.m T.neighbours_in.F.2 T.neighbours_in.b  (da_cons (dv 1) (da_cons (dv 2) da_nil))) da_nil) fun h1 => pe_callB (cr_repr_ K guard hu) rfl T.b_repr rfl h1) (de_callB_ (cr_repr_ K guard hu) cd_repr (da_cons (dv 4) da_nil) fun h1 => pe_callB (cr_repr_ K guard hu) rfl T.b_repr rfl h1) (nomark _)) (dw_or1 (dt_cmp (op_neA_ K hu) od_ne (de_callK0_ K G_neighbours_in (room.mono (by decide)) guard rfl T.neighbours_in.m T.neighbours_in.F.2 (kb_neighbours_in_0_number_tree T.neighbours_in.F) kb_neighbours_in_0_number_tree_ord  (dk_cons (dv 2) (dk_cons (dv 1) dk_nil))) (dv 4) (nomark _))))) (dss_one (ds_ret de_bl)) dss_nil) (dss_cons (ds_set nd rfl (by first | exact .inl rfl | exact .inr rfl) (de_callTy_ (cr_tuple_ K) cd_tuple_ (da_cons (de_lc (own := [("_law_at", 10)]) rfl nd (di_range1 rfl T.b_range (da_cons (de_callB_ (cr_len_ K) cd_len (da_cons (dv 3) da_nil) fun h1 => pe_callB (cr_len_ K) rfl T.b_len rfl h1) da_nil)) (blk_of rfl (by rfl)) (by decide) (fun m s0 H0 C cl fp => (dg_name nd rfl (by first | exact .inl rfl | exact .inr rfl))) (fun m s0 H0 C cl fp => (dts_one (dt_cmp (op_eqA_ K hu) od_eq (de_callBx_ K G__law_take (room.mono (by decide)) guard rfl T._law_take.m T._law_take.F.2 T._law_take.b h1 h2 (da_cons (dv 0) (da_cons de_int da_nil))) de_int (nomark _)))) (fun m s0 H0 C cl fp => (dv 10))) da_nil) fun h1 => pe_callTy (cr_tuple_ K) rfl T.b_tuple rfl h1)) (dss_cons (ds_set nd rfl (by first | exact .inl rfl | exact .inr rfl) (de_callTy_ (cr_tuple_ K) cd_tuple_ (da_cons (de_lc (own := [("_law_step", 11)]) rfl nd (di_seq_ K (dv 8)) (blk_of rfl (by rfl)) (by decide) (fun m s0 H0 C cl fp => (dg_name nd rfl (by first | exact .inl rfl | exact .inr rfl))) (fun m s0 H0 C cl fp => (dts_one (dt_tru_ K (de_callB_ (cr_any_ K rfl) cd_any (da_cons (de_lc (own := [("_law_at", 10)]) rfl nd (di_seq_ K (dv 5)) (blk_of rfl (by rfl)) (by decide) (fun m s0 H0 C cl fp => (dg_name nd rfl (by first | exact .inl rfl | exact .inr rfl))) (fun m s0 H0 C cl fp => dts_nil) (fun m s0 H0 C cl fp => (de_cmp (op_in_ K) (od_in false) (de_ix_ K (dv 11) de_int) (de_call_ K G__law_way (room.mono (by decide)) guard rfl T._law_way.m T._law_way.F.2 T._law_way.b  (da_cons (dv 3) (da_cons (dv 10) (da_cons (dv 2) da_nil)))) (by first | exact nomark _ | rfl)))) da_nil) fun h1 => pe_callB (cr_any_ K rfl) rfl T.b_any rfl h1)))) (fun m s0 H0 C cl fp => (dv 11))) da_nil) fun h1 => pe_callTy (cr_tuple_ K) rfl T.b_tuple rfl h1)) (dss_cons (ds_if (DW.dt (dw_or (dt_cmp (op_neA_ K hu) od_ne (de_callB_ (cr_repr_ K guard hu) cd_repr (da_cons (de_call_ K G_steps_joining (room.mono (by decide)) guard rfl T.steps_joining.m T.steps_joining.F.2 T.steps_joining.b  (da_cons (dv 1) (da_cons (dv 5) (da_cons (dv 2) da_nil)))) da_nil) fun h1 => pe_callB (cr_repr_ K guard hu) rfl T.b_repr rfl h1) (de_callB_ (cr_repr_ K guard hu) cd_repr (da_cons (dv 6) da_nil) fun h1 => pe_callB (cr_repr_ K guard hu) rfl T.b_repr rfl h1) (nomark _)) (dw_or1 (dt_cmp (op_neA_ K hu) od_ne (de_callK0_ K G_steps_joining (room.mono (by decide)) guard rfl T.steps_joining.m T.steps_joining.F.2 (kb_steps_joining_0_goal_lot_tree T.steps_joining.F) kb_steps_joining_0_goal_lot_tree_ord  (dk_cons (dv 2) (dk_cons (dv 5) (dk_cons (dv 1) dk_nil)))) (dv 6) (nomark _))))) (dss_one (ds_ret de_bl)) dss_nil) (dss_cons (ds_set nd rfl (by first | exact .inl rfl | exact .inr rfl) (de_tupRg rfl (de_callB_ (cr_len_ K) cd_len (da_cons (dv 3) da_nil) fun h1 => pe_callB (cr_len_ K) rfl T.b_len rfl h1) rfl T.b_tuple rfl T.b_range)) (dss_one (ds_ret (de_and (de_cmp (op_eqA_ K hu) od_eq (de_call_ K G_steps_joining (room.mono (by decide)) guard rfl T.steps_joining.m T.steps_joining.F.2 T.steps_joining.b  (da_cons (dv 1) (da_cons (dv 7) (da_cons (dv 2) da_nil)))) (dv 8) (nomark _)) (de_and (de_cmp (op_eqA_ K hu) od_eq (de_call_ K G_steps_joining (room.mono (by decide)) guard rfl T.steps_joining.m T.steps_joining.F.2 T.steps_joining.b  (da_cons (dv 1) (da_cons (de_tup da_nil) (da_cons (dv 2) da_nil)))) (de_tup da_nil) (nomark _)) (de_one (de_cmp (op_eqA_ K hu) od_eq (de_call_ K G_steps_joining (room.mono (by decide)) guard rfl T.steps_joining.m T.steps_joining.F.2 T.steps_joining.b  (da_cons (dv 1) (da_cons (de_tup (da_cons (dv 2) da_nil)) (da_cons (dv 2) da_nil)))) (de_tup da_nil) (nomark _))))))))))))))))), vc__law_ends_right a⟩
theorem ok__law_step_right (T : Txt K mg) : FnG P w K mg base CX0 4 T._law_step_right.f T._law_step_right.fd ["_law_tree_here", "_law_step", "_law_inward", "_law_outward"] (spP K sp__law_step_right) := by
  have nd := sc__law_step_right.nd
  have G__law_way := ok__law_way (P := P) (w := w) (base := base) T
  have G_side_of := ok_side_of (P := P) (w := w) (base := base) T
  have G_steps_into := ok_steps_into (P := P) (w := w) (base := base) T
  refine fnD T._law_step_right.F sc__law_step_right ln__law_step_right fun cdv A fr s H E room guard dx h1 h2 => ?_
  have hu := room.units
  exact ⟨_, r__law_step_right, (dss_cons (ds_asg_ (de_tup (da_cons (de_ix_ K (dv 0) de_int) (da_cons (de_callB_ (cr_len_ K) cd_len (da_cons (de_ix_ K (dv 0) de_int) da_nil) fun h1 => pe_callB (cr_len_ K) rfl T.b_len rfl h1) da_nil))) (dg_tup_ K (dgs_cons' (dg_name nd rfl (by first | exact .inl rfl | exact .inr rfl)) (dgs_cons' (dg_name nd rfl (by first | exact .inl rfl | exact .inr rfl)) dgs_nil fun h1 h2 => pgs_cons h1 h2) fun h1 h2 => pgs_cons h1 h2) fun h1 => pg_tup rfl h1) fun h1 h2 => ps_asg h1 h2) (dss_cons (ds_set nd rfl (by first | exact .inl rfl | exact .inr rfl) (de_callTy_ (cr_tuple_ K) cd_tuple_ (da_cons (de_lc (own := [("_law_at", 11)]) rfl nd (di_range1 rfl T.b_range (da_cons (dv 9) da_nil)) (blk_of rfl (by rfl)) (by decide) (fun m s0 H0 C cl fp => (dg_name nd rfl (by first | exact .inl rfl | exact .inr rfl))) (fun m s0 H0 C cl fp => (dts_one (dt_cmp (op_in_ K) (od_in false) (de_ix_ K (dv 1) de_int) (de_call_ K G__law_way (room.mono (by decide)) guard rfl T._law_way.m T._law_way.F.2 T._law_way.b  (da_cons (dv 8) (da_cons (dv 11) (da_cons (de_ix_ K (dv 1) de_int) da_nil)))) (by first | exact nomark _ | rfl)))) (fun m s0 H0 C cl fp => (dv 11))) da_nil) fun h1 => pe_callTy (cr_tuple_ K) rfl T.b_tuple rfl h1)) (dss_cons (ds_setLc (own := [("_law_at", 11)]) rfl nd rfl rfl (by rfl) (di_range1 rfl T.b_range (da_cons (dv 9) da_nil)) (blk_of rfl (by rfl)) (by decide) (fun m s0 H0 C cl fp => (dg_name nd rfl (by first | exact .inl rfl | exact .inr rfl))) (fun m s0 H0 C cl fp => (dts_one (DW.dt (dw_or (dt_cmp (op_eqA_ K hu) od_eq (de_ix_ K (dv 8) (dv 11)) (de_ix_ K (dv 1) de_int) (nomark _)) (dw_or1 (DW.dt (dw_and (dt_cmp op_gt od_onB (de_ix_ K (dv 1) de_int) de_int (nomark _)) (dw_and1 (dt_cmp (op_eqA_ K hu) od_eq (dv 11) (de_ix_ K (dv 8) (de_ix_ K (dv 1) de_int)) (nomark _)))))))))) (fun m s0 H0 C cl fp => (dv 11))) (dss_cons (ds_set nd rfl (by first | exact .inl rfl | exact .inr rfl) (de_callTy_ (cr_tuple_ K) cd_tuple_ (da_cons (de_lc (own := [("_law_at", 11)]) rfl nd (di_seq_ K (dv 5)) (blk_of rfl (by rfl)) (by decide) (fun m s0 H0 C cl fp => (dg_name nd rfl (by first | exact .inl rfl | exact .inr rfl))) (fun m s0 H0 C cl fp => (dts_one (dt_cmp (op_neA_ K hu) od_ne (dv 11) (de_ix_ K (dv 1) de_int) (nomark _)))) (fun m s0 H0 C cl fp => (de_tup (da_cons (dv 11) (da_cons (de_ix_ K (dv 1) de_int) da_nil))))) da_nil) fun h1 => pe_callTy (cr_tuple_ K) rfl T.b_tuple rfl h1)) (dss_cons (ds_if (DW.dt (dw_or (dt_cmp (op_neA_ K hu) od_ne (de_callB_ (cr_repr_ K guard hu) cd_repr (da_cons (de_call_ K G_side_of (room.mono (by decide)) guard rfl T.side_of.m T.side_of.F.2 T.side_of.b  (da_cons (dv 0) (da_cons (dv 1) da_nil))) da_nil) fun h1 => pe_callB (cr_repr_ K guard hu) rfl T.b_repr rfl h1) (de_callB_ (cr_repr_ K guard hu) cd_repr (da_cons (dv 4) da_nil) fun h1 => pe_callB (cr_repr_ K guard hu) rfl T.b_repr rfl h1) (nomark _)) (dw_or1 (dt_cmp (op_neA_ K hu) od_ne (de_callK0_ K G_side_of (room.mono (by decide)) guard rfl T.side_of.m T.side_of.F.2 (kb_side_of_0_step_tree T.side_of.F) kb_side_of_0_step_tree_ord  (dk_cons (dv 1) (dk_cons (dv 0) dk_nil))) (dv 4) (nomark _))))) (dss_one (ds_ret de_bl)) dss_nil) (dss_cons (ds_if (DW.dt (dw_or (dt_cmp (op_neA_ K hu) od_ne (de_callB_ (cr_repr_ K guard hu) cd_repr (da_cons (de_call_ K G_steps_into (room.mono (by decide)) guard rfl T.steps_into.m T.steps_into.F.2 T.steps_into.b  (da_cons (dv 0) (da_cons (dv 1) da_nil))) da_nil) fun h1 => pe_callB (cr_repr_ K guard hu) rfl T.b_repr rfl h1) (de_callB_ (cr_repr_ K guard hu) cd_repr (da_cons (dv 6) da_nil) fun h1 => pe_callB (cr_repr_ K guard hu) rfl T.b_repr rfl h1) (nomark _)) (dw_or1 (dt_cmp (op_neA_ K hu) od_ne (de_callK0_ K G_steps_into (room.mono (by decide)) guard rfl T.steps_into.m T.steps_into.F.2 (kb_steps_into_0_step_tree T.steps_into.F) kb_steps_into_0_step_tree_ord  (dk_cons (dv 1) (dk_cons (dv 0) dk_nil))) (dv 6) (nomark _))))) (dss_one (ds_ret de_bl)) dss_nil) (dss_cons (ds_for PassesOwn.never rfl (di_range1 rfl T.b_range (da_cons (dv 9) da_nil)) (dg_name nd rfl (by first | exact .inl rfl | exact .inr rfl)) (dss_cons (ds_asg_ (de_ix_ K (de_lst (da_cons (de_tup (da_cons (dv 2) (da_cons (dv 3) da_nil))) (da_cons (de_tup (da_cons (dv 3) (da_cons (dv 2) da_nil))) da_nil))) (de_callTy_ call_int1 cd_int (da_cons (de_cmp (op_in_ K) (od_in false) (dv 7) (dv 4) (by first | exact nomark _ | rfl)) da_nil) fun h1 => pe_callTy call_int1 rfl T.b_int rfl h1)) (dg_tup_ K (dgs_cons' (dg_name nd rfl (by first | exact .inl rfl | exact .inr rfl)) (dgs_cons' (dg_name nd rfl (by first | exact .inl rfl | exact .inr rfl)) dgs_nil fun h1 h2 => pgs_cons h1 h2) fun h1 h2 => pgs_cons h1 h2) fun h1 => pg_tup rfl h1) fun h1 h2 => ps_asg h1 h2) (dss_cons (ds_par_ (da_cons (de_ix_ K (de_wk (dv 12)) (dv 7)) (da_cons (de_ix_ K (de_wk (dv 13)) (dv 7)) da_nil)) fun h1 => ps_par (by rfl) nd rfl rfl (by decide) rfl rfl h1 (by rfl)) (dss_cons (ds_if (DW.dt (dw_or (dt_cmp (op_notInT_ K room) (od_inD true) (dv 1) (de_wk (dv 12)) (by first | exact nomark _ | rfl)) (dw_or (dt_cmp (op_inT_ K room) (od_inD false) (dv 1) (de_wk (dv 13)) (by first | exact nomark _ | rfl)) (dw_or1 (dt_cmp (op_notInT_ K room) (od_inD true) (de_revA K (dv 1)) (de_wk (dv 13)) (by first | exact nomark _ | rfl)))))) (dss_one (ds_ret de_bl)) dss_nil) (dss_one (ds_for PassesOwn.never rfl (di_seq_ K (dv 6)) (dg_name nd rfl (by first | exact .inl rfl | exact .inr rfl)) (dss_cons (ds_if (DW.dt (dw_and (dt_cmp (op_notIn_ K) (od_in true) (dv 7) (dv 4) (by first | exact nomark _ | rfl)) (dw_and1 (dt_cmp op_gt od_onB (de_indexZ_ K (dv 12) (da_cons (dv 10) da_nil) fun h1 h2 => pe_bmZ PySem.F.plainAttrs_tuple PySem.F.slot_tuple_index PySem.F.type_tuple_index (mt_indexT_ K room) h1 h2) (de_indexZ_ K (dv 12) (da_cons (dv 1) da_nil) fun h1 h2 => pe_bmZ PySem.F.plainAttrs_tuple PySem.F.slot_tuple_index PySem.F.type_tuple_index (mt_indexT_ K room) h1 h2) (nomark _))))) (dss_one (ds_ret de_bl)) dss_nil) (dss_one (ds_if (DW.dt (dw_and (dt_cmp (op_in_ K) (od_in false) (dv 7) (dv 4) (by first | exact nomark _ | rfl)) (dw_and (dt_cmp (op_inT_ K room) (od_inD false) (dv 10) (de_wk (dv 12)) (by first | exact nomark _ | rfl)) (dw_and1 (dt_cmp op_gt od_onB (de_indexZ_ K (dv 12) (da_cons (dv 10) da_nil) fun h1 h2 => pe_bmZ PySem.F.plainAttrs_tuple PySem.F.slot_tuple_index PySem.F.type_tuple_index (mt_indexT_ K room) h1 h2) (de_indexZ_ K (dv 12) (da_cons (dv 1) da_nil) fun h1 h2 => pe_bmZ PySem.F.plainAttrs_tuple PySem.F.slot_tuple_index PySem.F.type_tuple_index (mt_indexT_ K room) h1 h2) (nomark _)))))) (dss_one (ds_ret de_bl)) dss_nil))))))))) (dss_one (ds_ret (de_cmp (op_eqA_ K hu) od_eq (de_op (op_addAll_ K) od_add (de_callB_ (cr_len_ K) cd_len (da_cons (de_call_ K G_side_of (room.mono (by decide)) guard rfl T.side_of.m T.side_of.F.2 T.side_of.b  (da_cons (dv 0) (da_cons (dv 1) da_nil))) da_nil) fun h1 => pe_callB (cr_len_ K) rfl T.b_len rfl h1) (de_callB_ (cr_len_ K) cd_len (da_cons (de_call_ K G_side_of (room.mono (by decide)) guard rfl T.side_of.m T.side_of.F.2 T.side_of.b  (da_cons (dv 0) (da_cons (de_revA K (dv 1)) da_nil))) da_nil) fun h1 => pe_callB (cr_len_ K) rfl T.b_len rfl h1)) (dv 9) (nomark _))))))))))), vc__law_step_right⟩
theorem ok_law (T : Txt K mg) : FnG P w K mg base CX0 7 T.law.f T.law.fd ["_law_script"] (spL K) := by
  have nd := sc_law.nd
  have G__law_box := ok__law_box (P := P) (w := w) (base := base) T
  have G__law_ends_right := ok__law_ends_right (P := P) (w := w) (base := base) T
  have G__law_step_right := ok__law_step_right (P := P) (w := w) (base := base) T
  have G__law_tree := ok__law_tree (P := P) (w := w) (base := base) T
  have G_side_of := ok_side_of (P := P) (w := w) (base := base) T
  have G_steps_from := ok_steps_from (P := P) (w := w) (base := base) T
  have G_steps_into := ok_steps_into (P := P) (w := w) (base := base) T
  have G_steps_joining := ok_steps_joining (P := P) (w := w) (base := base) T
  have G_steps_to := ok_steps_to (P := P) (w := w) (base := base) T
  refine fnLaw0 T.law.F sc_law rfl fun cdv A fr s H E room guard dx h1 h2 => ?_
  have hu := room.units
  exact ⟨_, r_law, (dss_cons (ds_for PassesOwn.never rfl (di_range1 rfl T.b_range (da_cons (de_op (op_addAll_ K) od_add de_int (de_callTy_ call_int1 cd_int (da_cons (de_cmp op_gt od_onB (de_callB_ (cr_len_ K) cd_len (da_cons (dv 0) da_nil) fun h1 => pe_callB (cr_len_ K) rfl T.b_len rfl h1) de_int (nomark _)) da_nil) fun h1 => pe_callTy call_int1 rfl T.b_int rfl h1)) da_nil)) (dg_name nd rfl (by first | exact .inl rfl | exact .inr rfl)) (dss_cons (ds_set nd rfl (by first | exact .inl rfl | exact .inr rfl) (de_callN_ K G__law_box (room.mono (by decide)) guard rfl T._law_box.m T._law_box.F.2 T._law_box.b (da_cons (dv 0) (da_cons (dv 1) da_nil)))) (dss_cons (ds_set nd rfl (by first | exact .inl rfl | exact .inr rfl) (de_callOB_ K G__law_tree (room.mono (by decide)) guard rfl T._law_tree.m T._law_tree.F.2 T._law_tree.b (da_cons (dv 3) da_nil))) (dss_cons (ds_setLc (own := [("_law_goal", 7)]) rfl nd rfl rfl (by rfl) (di_range1 rfl T.b_range (da_cons (de_callB_ (cr_len_ K) cd_len (da_cons (de_ix_ K (dv 4) de_int) da_nil) fun h1 => pe_callB (cr_len_ K) rfl T.b_len rfl h1) da_nil)) (blk_of rfl (by rfl)) (by decide) (fun m s0 H0 C cl fp => (dg_name nd rfl (by first | exact .inl rfl | exact .inr rfl))) (fun m s0 H0 C cl fp => dts_nil) (fun m s0 H0 C cl fp => (de_call_ K G_steps_to (room.mono (by decide)) guard rfl T.steps_to.m T.steps_to.F.2 T.steps_to.b  (da_cons (dv 4) (da_cons (dv 7) da_nil))))) (dss_cons (ds_setLc (own := [("_law_goal", 7)]) rfl nd rfl rfl (by rfl) (di_range1 rfl T.b_range (da_cons (de_callB_ (cr_len_ K) cd_len (da_cons (de_ix_ K (dv 4) de_int) da_nil) fun h1 => pe_callB (cr_len_ K) rfl T.b_len rfl h1) da_nil)) (blk_of rfl (by rfl)) (by decide) (fun m s0 H0 C cl fp => (dg_name nd rfl (by first | exact .inl rfl | exact .inr rfl))) (fun m s0 H0 C cl fp => dts_nil) (fun m s0 H0 C cl fp => (de_call_ K G_steps_from (room.mono (by decide)) guard rfl T.steps_from.m T.steps_from.F.2 T.steps_from.b  (da_cons (dv 4) (da_cons (dv 7) da_nil))))) (dss_one (ds_for PassesOwn.never rfl (di_range1 rfl T.b_range (da_cons (de_callB_ (cr_len_ K) cd_len (da_cons (de_ix_ K (dv 4) de_int) da_nil) fun h1 => pe_callB (cr_len_ K) rfl T.b_len rfl h1) da_nil)) (dg_name nd rfl (by first | exact .inl rfl | exact .inr rfl)) (dss_cons (ds_if (dt_not (dt_tru_ K (de_callOB_ K G__law_ends_right (room.mono (by decide)) guard rfl T._law_ends_right.m T._law_ends_right.F.2 T._law_ends_right.b (da_cons (dv 3) (da_cons (dv 4) (da_cons (dv 7) da_nil)))))) (dss_one (ds_ret de_bl)) dss_nil) (dss_one (ds_for PassesOwn.never rfl (di_seq_ K (de_lst (da_cons (de_tup (da_cons (dv 7) (da_cons (de_ix_ K (de_ix_ K (dv 4) de_int) (dv 7)) da_nil))) (da_cons (de_tup (da_cons (de_ix_ K (de_ix_ K (dv 4) de_int) (dv 7)) (da_cons (dv 7) da_nil))) da_nil)))) (dg_name nd rfl (by first | exact .inl rfl | exact .inr rfl)) (dss_one (ds_if (DW.dt (dw_and (dt_cmp op_gt od_onB (dv 7) de_int (nomark _)) (dw_and1 (dt_not (dt_tru_ K (de_call_ K G__law_step_right (room.mono (by decide)) guard rfl T._law_step_right.m T._law_step_right.F.2 T._law_step_right.b  (da_cons (dv 4) (da_cons (dv 8) (da_cons (dv 5) (da_cons (dv 6) da_nil)))))))))) (dss_one (ds_ret de_bl)) dss_nil)))))))))))) (dss_cons (ds_set nd rfl (by first | exact .inl rfl | exact .inr rfl) (de_tup (da_cons (de_tup (da_cons (de_tup (da_cons de_int da_nil)) (da_cons (de_tup (da_cons de_int (da_cons de_int da_nil))) (da_cons (de_tup (da_cons de_int (da_cons de_int da_nil))) (da_cons (de_tup (da_cons de_int (da_cons de_int da_nil))) da_nil))))) (da_cons (de_tup (da_cons (de_op op_sub od_onI0 de_int de_int) (da_cons de_int (da_cons de_int (da_cons de_int da_nil))))) da_nil)))) (dss_cons (ds_if (DW.dt (dw_or (dt_cmp (op_neA_ K hu) od_ne (de_wk (de_call_ K G_steps_to (room.mono (by decide)) guard rfl T.steps_to.m T.steps_to.F.2 T.steps_to.b  (da_cons (dv 2) (da_cons de_int da_nil)))) (de_tup (da_cons (de_tup (da_cons de_int (da_cons de_int da_nil))) (da_cons (de_tup (da_cons de_int (da_cons de_int da_nil))) (da_cons (de_tup (da_cons de_int (da_cons de_int da_nil))) da_nil)))) (nomark _)) (dw_or (dt_cmp (op_neA_ K hu) od_ne (de_wk (de_call_ K G_steps_from (room.mono (by decide)) guard rfl T.steps_from.m T.steps_from.F.2 T.steps_from.b  (da_cons (dv 2) (da_cons de_int da_nil)))) (de_tup (da_cons (de_tup (da_cons de_int (da_cons de_int da_nil))) (da_cons (de_tup (da_cons de_int (da_cons de_int da_nil))) (da_cons (de_tup (da_cons de_int (da_cons de_int da_nil))) da_nil)))) (nomark _)) (dw_or1 (dt_cmp (op_neA_ K hu) od_ne (de_call_ K G_side_of (room.mono (by decide)) guard rfl T.side_of.m T.side_of.F.2 T.side_of.b  (da_cons (dv 2) (da_cons (de_tup (da_cons de_int (da_cons de_int da_nil))) da_nil))) (de_tup (da_cons de_int (da_cons de_int da_nil))) (nomark _)))))) (dss_one (ds_ret de_bl)) dss_nil) (dss_one (ds_ret (de_and (de_cmp (op_eqA_ K hu) od_eq (de_call_ K G_steps_joining (room.mono (by decide)) guard rfl T.steps_joining.m T.steps_joining.F.2 T.steps_joining.b  (da_cons (dv 2) (da_cons (de_tup (da_cons de_int (da_cons de_int da_nil))) (da_cons de_int da_nil)))) (de_tup (da_cons (de_tup (da_cons de_int (da_cons de_int da_nil))) (da_cons (de_tup (da_cons de_int (da_cons de_int da_nil))) (da_cons (de_tup (da_cons de_int (da_cons de_int da_nil))) da_nil)))) (nomark _)) (de_and (de_cmp (op_eqA_ K hu) od_eq (de_call_ K G_steps_into (room.mono (by decide)) guard rfl T.steps_into.m T.steps_into.F.2 T.steps_into.b  (da_cons (dv 2) (da_cons (de_tup (da_cons de_int (da_cons de_int da_nil))) da_nil))) (de_tup (da_cons (de_tup (da_cons de_int (da_cons de_int da_nil))) da_nil)) (nomark _)) (de_one (de_cmp (op_eqA_ K hu) od_eq (de_wk (de_call_ K G_steps_to (room.mono (by decide)) guard rfl T.steps_to.m T.steps_to.F.2 T.steps_to.b  (da_cons (de_tup (da_cons (de_tup (da_cons (de_tup da_nil) da_nil)) (da_cons (de_tup (da_cons (de_op op_sub od_onI0 de_int de_int) da_nil)) da_nil))) (da_cons de_int da_nil)))) (de_tup da_nil) (nomark _)))))))))), vc_law⟩
end
end K36
end DL
namespace DL
open PySem PySem.Spec L2 Gd
namespace K36
theorem spL_hsp : ∀ (K : PySem.W.Frag) (H : Hp) (a : Addr) (ns : List Int), ns.length ≤ 63 → (∀ b u, H b = some u → ∃ o, u = .frz o (.lst (ns.map V.int))) → SqL K H a (ns.map V.int) → spL K [.ref a] H (fun v _ => v = .bl true) fun _ _ _ => False :=
  fun K H a ns hl only hS => ⟨a, ns, rfl, hl, only, hS, fun _ => rfl⟩
set_option maxHeartbeats 0 in
theorem all_mk {l : PySem.W.OpenLaw} {w : World} {K : PySem.W.Frag} {h : Heap} {mg : Str → Option Value} {fa f0 f1 f2 f3 f4 f5 f6 f7 f8 f9 f10 f11 f12 f13 f14 f15 f16 f17 f18 f19 f20 : Addr} (X : K.In h) (G : h.Ns mainGlobals mg) (hfa : mg "law" = some (.ref fa))
    {od0 an0 : Option Addr} {sl0 : Array (Option Value)} {oc0 kV0 dc0 pm0 cd0 ct0 : Value}
    (a0 : PySem.W.nsIn K mainGlobals "children_in" = some (some (.ref f0))) (l0 : K.lookup f0 = some ⟨oc0, od0, .func (PySem.W.fnOf "children_in" "children_in" (defArgs s_children_in) (defBody s_children_in) (defScope s_children_in) .none kV0 dc0 pm0 an0 cd0 ct0), sl0⟩) (c0 : PySem.W.codeIn K cd0 "children_in" = true) (k0 : PySem.W.keepIn K (.ref f0) = true)
    {od1 an1 : Option Addr} {sl1 : Array (Option Value)} {oc1 kV1 dc1 pm1 cd1 ct1 : Value}
    (a1 : PySem.W.nsIn K mainGlobals "below_lot" = some (some (.ref f1))) (l1 : K.lookup f1 = some ⟨oc1, od1, .func (PySem.W.fnOf "below_lot" "below_lot" (defArgs s_below_lot) (defBody s_below_lot) (defScope s_below_lot) .none kV1 dc1 pm1 an1 cd1 ct1), sl1⟩) (c1 : PySem.W.codeIn K cd1 "below_lot" = true) (k1 : PySem.W.keepIn K (.ref f1) = true)
    {od2 an2 : Option Addr} {sl2 : Array (Option Value)} {oc2 kV2 dc2 pm2 cd2 ct2 : Value}
    (a2 : PySem.W.nsIn K mainGlobals "way_up" = some (some (.ref f2))) (l2 : K.lookup f2 = some ⟨oc2, od2, .func (PySem.W.fnOf "way_up" "way_up" (defArgs s_way_up) (defBody s_way_up) (defScope s_way_up) .none kV2 dc2 pm2 an2 cd2 ct2), sl2⟩) (c2 : PySem.W.codeIn K cd2 "way_up" = true) (k2 : PySem.W.keepIn K (.ref f2) = true)
    {od3 an3 : Option Addr} {sl3 : Array (Option Value)} {oc3 kV3 dc3 pm3 cd3 ct3 : Value}
    (a3 : PySem.W.nsIn K mainGlobals "cluster_way" = some (some (.ref f3))) (l3 : K.lookup f3 = some ⟨oc3, od3, .func (PySem.W.fnOf "cluster_way" "cluster_way" (defArgs s_cluster_way) (defBody s_cluster_way) (defScope s_cluster_way) .none kV3 dc3 pm3 an3 cd3 ct3), sl3⟩) (c3 : PySem.W.codeIn K cd3 "cluster_way" = true) (k3 : PySem.W.keepIn K (.ref f3) = true)
    {od4 an4 : Option Addr} {sl4 : Array (Option Value)} {oc4 kV4 dc4 pm4 cd4 ct4 : Value}
    (a4 : PySem.W.nsIn K mainGlobals "neighbours_in" = some (some (.ref f4))) (l4 : K.lookup f4 = some ⟨oc4, od4, .func (PySem.W.fnOf "neighbours_in" "neighbours_in" (defArgs s_neighbours_in) (defBody s_neighbours_in) (defScope s_neighbours_in) .none kV4 dc4 pm4 an4 cd4 ct4), sl4⟩) (c4 : PySem.W.codeIn K cd4 "neighbours_in" = true) (k4 : PySem.W.keepIn K (.ref f4) = true)
    {od5 an5 : Option Addr} {sl5 : Array (Option Value)} {oc5 kV5 dc5 pm5 cd5 ct5 : Value}
    (a5 : PySem.W.nsIn K mainGlobals "next_to" = some (some (.ref f5))) (l5 : K.lookup f5 = some ⟨oc5, od5, .func (PySem.W.fnOf "next_to" "next_to" (defArgs s_next_to) (defBody s_next_to) (defScope s_next_to) .none kV5 dc5 pm5 an5 cd5 ct5), sl5⟩) (c5 : PySem.W.codeIn K cd5 "next_to" = true) (k5 : PySem.W.keepIn K (.ref f5) = true)
    {od6 an6 : Option Addr} {sl6 : Array (Option Value)} {oc6 kV6 dc6 pm6 cd6 ct6 : Value}
    (a6 : PySem.W.nsIn K mainGlobals "steps_to" = some (some (.ref f6))) (l6 : K.lookup f6 = some ⟨oc6, od6, .func (PySem.W.fnOf "steps_to" "steps_to" (defArgs s_steps_to) (defBody s_steps_to) (defScope s_steps_to) .none kV6 dc6 pm6 an6 cd6 ct6), sl6⟩) (c6 : PySem.W.codeIn K cd6 "steps_to" = true) (k6 : PySem.W.keepIn K (.ref f6) = true)
    {od7 an7 : Option Addr} {sl7 : Array (Option Value)} {oc7 kV7 dc7 pm7 cd7 ct7 : Value}
    (a7 : PySem.W.nsIn K mainGlobals "steps_from" = some (some (.ref f7))) (l7 : K.lookup f7 = some ⟨oc7, od7, .func (PySem.W.fnOf "steps_from" "steps_from" (defArgs s_steps_from) (defBody s_steps_from) (defScope s_steps_from) .none kV7 dc7 pm7 an7 cd7 ct7), sl7⟩) (c7 : PySem.W.codeIn K cd7 "steps_from" = true) (k7 : PySem.W.keepIn K (.ref f7) = true)
    {od8 an8 : Option Addr} {sl8 : Array (Option Value)} {oc8 kV8 dc8 pm8 cd8 ct8 : Value}
    (a8 : PySem.W.nsIn K mainGlobals "steps_into" = some (some (.ref f8))) (l8 : K.lookup f8 = some ⟨oc8, od8, .func (PySem.W.fnOf "steps_into" "steps_into" (defArgs s_steps_into) (defBody s_steps_into) (defScope s_steps_into) .none kV8 dc8 pm8 an8 cd8 ct8), sl8⟩) (c8 : PySem.W.codeIn K cd8 "steps_into" = true) (k8 : PySem.W.keepIn K (.ref f8) = true)
    {od9 an9 : Option Addr} {sl9 : Array (Option Value)} {oc9 kV9 dc9 pm9 cd9 ct9 : Value}
    (a9 : PySem.W.nsIn K mainGlobals "side_of" = some (some (.ref f9))) (l9 : K.lookup f9 = some ⟨oc9, od9, .func (PySem.W.fnOf "side_of" "side_of" (defArgs s_side_of) (defBody s_side_of) (defScope s_side_of) .none kV9 dc9 pm9 an9 cd9 ct9), sl9⟩) (c9 : PySem.W.codeIn K cd9 "side_of" = true) (k9 : PySem.W.keepIn K (.ref f9) = true)
    {od10 an10 : Option Addr} {sl10 : Array (Option Value)} {oc10 kV10 dc10 pm10 cd10 ct10 : Value}
    (a10 : PySem.W.nsIn K mainGlobals "steps_joining" = some (some (.ref f10))) (l10 : K.lookup f10 = some ⟨oc10, od10, .func (PySem.W.fnOf "steps_joining" "steps_joining" (defArgs s_steps_joining) (defBody s_steps_joining) (defScope s_steps_joining) .none kV10 dc10 pm10 an10 cd10 ct10), sl10⟩) (c10 : PySem.W.codeIn K cd10 "steps_joining" = true) (k10 : PySem.W.keepIn K (.ref f10) = true)
    {od11 an11 : Option Addr} {sl11 : Array (Option Value)} {oc11 kV11 dc11 pm11 cd11 ct11 : Value}
    (a11 : PySem.W.nsIn K mainGlobals "_law_box" = some (some (.ref f11))) (l11 : K.lookup f11 = some ⟨oc11, od11, .func (PySem.W.fnOf "_law_box" "_law_box" (defArgs s__law_box) (defBody s__law_box) (defScope s__law_box) .none kV11 dc11 pm11 an11 cd11 ct11), sl11⟩) (c11 : PySem.W.codeIn K cd11 "_law_box" = true) (k11 : PySem.W.keepIn K (.ref f11) = true)
    {od12 an12 : Option Addr} {sl12 : Array (Option Value)} {oc12 kV12 dc12 pm12 cd12 ct12 : Value}
    (a12 : PySem.W.nsIn K mainGlobals "_law_take" = some (some (.ref f12))) (l12 : K.lookup f12 = some ⟨oc12, od12, .func (PySem.W.fnOf "_law_take" "_law_take" (defArgs s__law_take) (defBody s__law_take) (defScope s__law_take) .none kV12 dc12 pm12 an12 cd12 ct12), sl12⟩) (c12 : PySem.W.codeIn K cd12 "_law_take" = true) (k12 : PySem.W.keepIn K (.ref f12) = true)
    {od13 an13 : Option Addr} {sl13 : Array (Option Value)} {oc13 kV13 dc13 pm13 cd13 ct13 : Value}
    (a13 : PySem.W.nsIn K mainGlobals "_law_pick" = some (some (.ref f13))) (l13 : K.lookup f13 = some ⟨oc13, od13, .func (PySem.W.fnOf "_law_pick" "_law_pick" (defArgs s__law_pick) (defBody s__law_pick) (defScope s__law_pick) .none kV13 dc13 pm13 an13 cd13 ct13), sl13⟩) (c13 : PySem.W.codeIn K cd13 "_law_pick" = true) (k13 : PySem.W.keepIn K (.ref f13) = true)
    {od14 an14 : Option Addr} {sl14 : Array (Option Value)} {oc14 kV14 dc14 pm14 cd14 ct14 : Value}
    (a14 : PySem.W.nsIn K mainGlobals "_law_chain" = some (some (.ref f14))) (l14 : K.lookup f14 = some ⟨oc14, od14, .func (PySem.W.fnOf "_law_chain" "_law_chain" (defArgs s__law_chain) (defBody s__law_chain) (defScope s__law_chain) .none kV14 dc14 pm14 an14 cd14 ct14), sl14⟩) (c14 : PySem.W.codeIn K cd14 "_law_chain" = true) (k14 : PySem.W.keepIn K (.ref f14) = true)
    {od15 an15 : Option Addr} {sl15 : Array (Option Value)} {oc15 kV15 dc15 pm15 cd15 ct15 : Value}
    (a15 : PySem.W.nsIn K mainGlobals "_law_way" = some (some (.ref f15))) (l15 : K.lookup f15 = some ⟨oc15, od15, .func (PySem.W.fnOf "_law_way" "_law_way" (defArgs s__law_way) (defBody s__law_way) (defScope s__law_way) .none kV15 dc15 pm15 an15 cd15 ct15), sl15⟩) (c15 : PySem.W.codeIn K cd15 "_law_way" = true) (k15 : PySem.W.keepIn K (.ref f15) = true)
    {od16 an16 : Option Addr} {sl16 : Array (Option Value)} {oc16 kV16 dc16 pm16 cd16 ct16 : Value}
    (a16 : PySem.W.nsIn K mainGlobals "_law_tree" = some (some (.ref f16))) (l16 : K.lookup f16 = some ⟨oc16, od16, .func (PySem.W.fnOf "_law_tree" "_law_tree" (defArgs s__law_tree) (defBody s__law_tree) (defScope s__law_tree) .none kV16 dc16 pm16 an16 cd16 ct16), sl16⟩) (c16 : PySem.W.codeIn K cd16 "_law_tree" = true) (k16 : PySem.W.keepIn K (.ref f16) = true)
    {od17 an17 : Option Addr} {sl17 : Array (Option Value)} {oc17 kV17 dc17 pm17 cd17 ct17 : Value}
    (a17 : PySem.W.nsIn K mainGlobals "_law_steps" = some (some (.ref f17))) (l17 : K.lookup f17 = some ⟨oc17, od17, .func (PySem.W.fnOf "_law_steps" "_law_steps" (defArgs s__law_steps) (defBody s__law_steps) (defScope s__law_steps) .none kV17 dc17 pm17 an17 cd17 ct17), sl17⟩) (c17 : PySem.W.codeIn K cd17 "_law_steps" = true) (k17 : PySem.W.keepIn K (.ref f17) = true)
    {od18 an18 : Option Addr} {sl18 : Array (Option Value)} {oc18 kV18 dc18 pm18 cd18 ct18 : Value}
    (a18 : PySem.W.nsIn K mainGlobals "_law_ends_right" = some (some (.ref f18))) (l18 : K.lookup f18 = some ⟨oc18, od18, .func (PySem.W.fnOf "_law_ends_right" "_law_ends_right" (defArgs s__law_ends_right) (defBody s__law_ends_right) (defScope s__law_ends_right) .none kV18 dc18 pm18 an18 cd18 ct18), sl18⟩) (c18 : PySem.W.codeIn K cd18 "_law_ends_right" = true) (k18 : PySem.W.keepIn K (.ref f18) = true)
    {od19 an19 : Option Addr} {sl19 : Array (Option Value)} {oc19 kV19 dc19 pm19 cd19 ct19 : Value}
    (a19 : PySem.W.nsIn K mainGlobals "_law_step_right" = some (some (.ref f19))) (l19 : K.lookup f19 = some ⟨oc19, od19, .func (PySem.W.fnOf "_law_step_right" "_law_step_right" (defArgs s__law_step_right) (defBody s__law_step_right) (defScope s__law_step_right) .none kV19 dc19 pm19 an19 cd19 ct19), sl19⟩) (c19 : PySem.W.codeIn K cd19 "_law_step_right" = true) (k19 : PySem.W.keepIn K (.ref f19) = true)
    {od20 an20 : Option Addr} {sl20 : Array (Option Value)} {oc20 kV20 dc20 pm20 cd20 ct20 : Value}
    (a20 : PySem.W.nsIn K mainGlobals "law" = some (some (.ref f20))) (l20 : K.lookup f20 = some ⟨oc20, od20, .func (PySem.W.fnOf "law" "law" (defArgs s_law) (defBody s_law) (defScope s_law) .none kV20 dc20 pm20 an20 cd20 ct20), sl20⟩) (c20 : PySem.W.codeIn K cd20 "law" = true) (k20 : PySem.W.keepIn K (.ref f20) = true)
    (z_abs : PySem.W.nsIn K mainGlobals "abs" = some none)
    (z_any : PySem.W.nsIn K mainGlobals "any" = some none)
    (z_enumerate : PySem.W.nsIn K mainGlobals "enumerate" = some none)
    (z_int : PySem.W.nsIn K mainGlobals "int" = some none)
    (z_len : PySem.W.nsIn K mainGlobals "len" = some none)
    (z_range : PySem.W.nsIn K mainGlobals "range" = some none)
    (z_repr : PySem.W.nsIn K mainGlobals "repr" = some none)
    (z_sorted : PySem.W.nsIn K mainGlobals "sorted" = some none)
    (z_tuple : PySem.W.nsIn K mainGlobals "tuple" = some none)
    : ∃ fd : FuncData, (∀ (s : Shared) (v : Value), BindsTo s fd ⟨[v], []⟩ [("_law_script", v)]) ∧ ∀ base : Heap, K.In base → base.Ns mainGlobals mg → FnG l.prog w K mg base CX0 7 fa fd ["_law_script"] (spL K) := by
  have e := hfa.symm.trans (PySem.W.mg_of X G a20)
  cases e
  have F0 := fun_mk (st := s_children_in) l0 c0 k0
  have b0 := F0.binds (ps := ["tree", "number"]) fun _ _ _ _ _ _ us hl => match us, hl with | [_, _], _ => rfl
  have F1 := fun_mk (st := s_below_lot) l1 c1 k1
  have b1 := F1.binds (ps := ["tree", "number"]) fun _ _ _ _ _ _ us hl => match us, hl with | [_, _], _ => rfl
  have F2 := fun_mk (st := s_way_up) l2 c2 k2
  have b2 := F2.binds (ps := ["tree", "number"]) fun _ _ _ _ _ _ us hl => match us, hl with | [_, _], _ => rfl
  have F3 := fun_mk (st := s_cluster_way) l3 c3 k3
  have b3 := F3.binds (ps := ["tree", "one", "other"]) fun _ _ _ _ _ _ us hl => match us, hl with | [_, _, _], _ => rfl
  have F4 := fun_mk (st := s_neighbours_in) l4 c4 k4
  have b4 := F4.binds (ps := ["tree", "number"]) fun _ _ _ _ _ _ us hl => match us, hl with | [_, _], _ => rfl
  have F5 := fun_mk (st := s_next_to) l5 c5 k5
  have b5 := F5.binds (ps := ["tree", "goal"]) fun _ _ _ _ _ _ us hl => match us, hl with | [_, _], _ => rfl
  have F6 := fun_mk (st := s_steps_to) l6 c6 k6
  have b6 := F6.binds (ps := ["tree", "goal"]) fun _ _ _ _ _ _ us hl => match us, hl with | [_, _], _ => rfl
  have F7 := fun_mk (st := s_steps_from) l7 c7 k7
  have b7 := F7.binds (ps := ["tree", "start"]) fun _ _ _ _ _ _ us hl => match us, hl with | [_, _], _ => rfl
  have F8 := fun_mk (st := s_steps_into) l8 c8 k8
  have b8 := F8.binds (ps := ["tree", "step"]) fun _ _ _ _ _ _ us hl => match us, hl with | [_, _], _ => rfl
  have F9 := fun_mk (st := s_side_of) l9 c9 k9
  have b9 := F9.binds (ps := ["tree", "step"]) fun _ _ _ _ _ _ us hl => match us, hl with | [_, _], _ => rfl
  have F10 := fun_mk (st := s_steps_joining) l10 c10 k10
  have b10 := F10.binds (ps := ["tree", "lot", "goal"]) fun _ _ _ _ _ _ us hl => match us, hl with | [_, _, _], _ => rfl
  have F11 := fun_mk (st := s__law_box) l11 c11 k11
  have b11 := F11.binds (ps := ["_law_script", "_law_k"]) fun _ _ _ _ _ _ us hl => match us, hl with | [_, _], _ => rfl
  have F12 := fun_mk (st := s__law_take) l12 c12 k12
  have b12 := F12.binds (ps := ["_law_box_here", "_law_many"]) fun _ _ _ _ _ _ us hl => match us, hl with | [_, _], _ => rfl
  have F13 := fun_mk (st := s__law_pick) l13 c13 k13
  have b13 := F13.binds (ps := ["_law_box_here", "_law_some"]) fun _ _ _ _ _ _ us hl => match us, hl with | [_, _], _ => rfl
  have F14 := fun_mk (st := s__law_chain) l14 c14 k14
  have b14 := F14.binds (ps := ["_law_above", "_law_number"]) fun _ _ _ _ _ _ us hl => match us, hl with | [_, _], _ => rfl
  have F15 := fun_mk (st := s__law_way) l15 c15 k15
  have b15 := F15.binds (ps := ["_law_above", "_law_one", "_law_other"]) fun _ _ _ _ _ _ us hl => match us, hl with | [_, _, _], _ => rfl
  have F16 := fun_mk (st := s__law_tree) l16 c16 k16
  have b16 := F16.binds (ps := ["_law_box_here"]) fun _ _ _ _ _ _ us hl => match us, hl with | [_], _ => rfl
  have F17 := fun_mk (st := s__law_steps) l17 c17 k17
  have b17 := F17.binds (ps := ["_law_above", "_law_goal"]) fun _ _ _ _ _ _ us hl => match us, hl with | [_, _], _ => rfl
  have F18 := fun_mk (st := s__law_ends_right) l18 c18 k18
  have b18 := F18.binds (ps := ["_law_box_here", "_law_tree_here", "_law_goal"]) fun _ _ _ _ _ _ us hl => match us, hl with | [_, _, _], _ => rfl
  have F19 := fun_mk (st := s__law_step_right) l19 c19 k19
  have b19 := F19.binds (ps := ["_law_tree_here", "_law_step", "_law_inward", "_law_outward"]) fun _ _ _ _ _ _ us hl => match us, hl with | [_, _, _, _], _ => rfl
  have F20 := fun_mk (st := s_law) l20 c20 k20
  have b20 := F20.binds (ps := ["_law_script"]) fun _ _ _ _ _ _ us hl => match us, hl with | [_], _ => rfl
  exact ⟨_, fun s v => .of_eq rfl, fun base _ _ => ok_law (P := l.prog) (w := w) (base := base) (⟨⟨f0, _, PySem.W.mg_of X G a0, F0, b0⟩, ⟨f1, _, PySem.W.mg_of X G a1, F1, b1⟩, ⟨f2, _, PySem.W.mg_of X G a2, F2, b2⟩, ⟨f3, _, PySem.W.mg_of X G a3, F3, b3⟩, ⟨f4, _, PySem.W.mg_of X G a4, F4, b4⟩, ⟨f5, _, PySem.W.mg_of X G a5, F5, b5⟩, ⟨f6, _, PySem.W.mg_of X G a6, F6, b6⟩, ⟨f7, _, PySem.W.mg_of X G a7, F7, b7⟩, ⟨f8, _, PySem.W.mg_of X G a8, F8, b8⟩, ⟨f9, _, PySem.W.mg_of X G a9, F9, b9⟩, ⟨f10, _, PySem.W.mg_of X G a10, F10, b10⟩, ⟨f11, _, PySem.W.mg_of X G a11, F11, b11⟩, ⟨f12, _, PySem.W.mg_of X G a12, F12, b12⟩, ⟨f13, _, PySem.W.mg_of X G a13, F13, b13⟩, ⟨f14, _, PySem.W.mg_of X G a14, F14, b14⟩, ⟨f15, _, PySem.W.mg_of X G a15, F15, b15⟩, ⟨f16, _, PySem.W.mg_of X G a16, F16, b16⟩, ⟨f17, _, PySem.W.mg_of X G a17, F17, b17⟩, ⟨f18, _, PySem.W.mg_of X G a18, F18, b18⟩, ⟨f19, _, PySem.W.mg_of X G a19, F19, b19⟩, ⟨fa, _, PySem.W.mg_of X G a20, F20, b20⟩, PySem.W.mg_none_of X G z_abs, PySem.W.mg_none_of X G z_any, PySem.W.mg_none_of X G z_enumerate, PySem.W.mg_none_of X G z_int, PySem.W.mg_none_of X G z_len, PySem.W.mg_none_of X G z_range, PySem.W.mg_none_of X G z_repr, PySem.W.mg_none_of X G z_sorted, PySem.W.mg_none_of X G z_tuple⟩ : Txt K mg)⟩
end K36
end DL
open PySem PySem.W PyProof.Rows in
set_option maxRecDepth 100000 in
set_option maxHeartbeats 0 in
theorem PySem.Challenge.cw_allworlds_k36_whole_steps_of_trees_holds : PySem.Challenge.rw_allworlds_k36_whole_steps_of_trees.Holds := by
  w_on; o_law; k_head; (case hw => w_witness2)
  k_fill
  refine DL.walkG (l := PySem.Challenge.rw_allworlds_k36_whole_steps_of_trees) (n := 63) (k := 7) (x := "_law_script") (sp := DL.spL) rfl (by decide) rfl ⟨rfl, by decide, by decide⟩ (fun w h Y => by first | exact PySem.W.kIn_of Y | exact PySem.W.km_in_of Y) ?F DL.K36.spL_hsp
  case F =>
    intro w mg fa h KX G hmg
    refine' DL.K36.all_mk KX G hmg ?a0 ?l0 ?c0 ?k0 ?a1 ?l1 ?c1 ?k1 ?a2 ?l2 ?c2 ?k2 ?a3 ?l3 ?c3 ?k3 ?a4 ?l4 ?c4 ?k4 ?a5 ?l5 ?c5 ?k5 ?a6 ?l6 ?c6 ?k6 ?a7 ?l7 ?c7 ?k7 ?a8 ?l8 ?c8 ?k8 ?a9 ?l9 ?c9 ?k9 ?a10 ?l10 ?c10 ?k10 ?a11 ?l11 ?c11 ?k11 ?a12 ?l12 ?c12 ?k12 ?a13 ?l13 ?c13 ?k13 ?a14 ?l14 ?c14 ?k14 ?a15 ?l15 ?c15 ?k15 ?a16 ?l16 ?c16 ?k16 ?a17 ?l17 ?c17 ?k17 ?a18 ?l18 ?c18 ?k18 ?a19 ?l19 ?c19 ?k19 ?a20 ?l20 ?c20 ?k20 ?z_abs ?z_any ?z_enumerate ?z_int ?z_len ?z_range ?z_repr ?z_sorted ?z_tuple
    (case a0 => k_is)
    (case l0 => k_is)
    (case c0 => k_is)
    (case k0 => k_is)
    (case a1 => k_is)
    (case l1 => k_is)
    (case c1 => k_is)
    (case k1 => k_is)
    (case a2 => k_is)
    (case l2 => k_is)
    (case c2 => k_is)
    (case k2 => k_is)
    (case a3 => k_is)
    (case l3 => k_is)
    (case c3 => k_is)
    (case k3 => k_is)
    (case a4 => k_is)
    (case l4 => k_is)
    (case c4 => k_is)
    (case k4 => k_is)
    (case a5 => k_is)
    (case l5 => k_is)
    (case c5 => k_is)
    (case k5 => k_is)
    (case a6 => k_is)
    (case l6 => k_is)
    (case c6 => k_is)
    (case k6 => k_is)
    (case a7 => k_is)
    (case l7 => k_is)
    (case c7 => k_is)
    (case k7 => k_is)
    (case a8 => k_is)
    (case l8 => k_is)
    (case c8 => k_is)
    (case k8 => k_is)
    (case a9 => k_is)
    (case l9 => k_is)
    (case c9 => k_is)
    (case k9 => k_is)
    (case a10 => k_is)
    (case l10 => k_is)
    (case c10 => k_is)
    (case k10 => k_is)
    (case a11 => k_is)
    (case l11 => k_is)
    (case c11 => k_is)
    (case k11 => k_is)
    (case a12 => k_is)
    (case l12 => k_is)
    (case c12 => k_is)
    (case k12 => k_is)
    (case a13 => k_is)
    (case l13 => k_is)
    (case c13 => k_is)
    (case k13 => k_is)
    (case a14 => k_is)
    (case l14 => k_is)
    (case c14 => k_is)
    (case k14 => k_is)
    (case a15 => k_is)
    (case l15 => k_is)
    (case c15 => k_is)
    (case k15 => k_is)
    (case a16 => k_is)
    (case l16 => k_is)
    (case c16 => k_is)
    (case k16 => k_is)
    (case a17 => k_is)
    (case l17 => k_is)
    (case c17 => k_is)
    (case k17 => k_is)
    (case a18 => k_is)
    (case l18 => k_is)
    (case c18 => k_is)
    (case k18 => k_is)
    (case a19 => k_is)
    (case l19 => k_is)
    (case c19 => k_is)
    (case k19 => k_is)
    (case a20 => k_is)
    (case l20 => k_is)
    (case c20 => k_is)
    (case k20 => k_is)
    (case z_abs => k_is)
    (case z_any => k_is)
    (case z_enumerate => k_is)
    (case z_int => k_is)
    (case z_len => k_is)
    (case z_range => k_is)
    (case z_repr => k_is)
    (case z_sorted => k_is)
    (case z_tuple => k_is)
