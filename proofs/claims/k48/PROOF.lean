import PyProof.Rows.All
import Wide.All
import OpenK.AllK
import Wide.FinOn
import HandS.ForMost
import HandS.ForExc
import HandS.IsInst
import HandS.TupMul
import HandS.TupAny
import HandS.Zip
import HandS.Rev
import HandS.RevRange
import HandS.Wide
import HandS.Style
import HandS.RaiseMore
import PyProof.ReprRoads
import HandS.Walk
import PyProof.StrLawsRepr
import PyProof.Rows.RegStrFacts
import KE.GoesMore
import PyProof.StrOps2
import HandS.Text
import HandS.Iter
import HandS.Gcd
import HandS.DictSub
import KE.KMathGC
import KE.SortData
import HandS.SortRule
import HandS.DictComp
import HandS.TupSets
import HandS.SetFor
import HandS.Strs
import HandS.SortKw
import KE.SortKeyHeap
import KE.KRevSl
import PySem.Challenge.RW_allworlds_k48_whole_least_blockers
set_option Elab.async false
set_option linter.all false
set_option maxRecDepth 100000
/-! Promises that are kept where no display of a container is under way (needed for repr of lists and tuples). -/
namespace Gd
open PySem PySem.Spec PyProof.Rows L2

structure FnG (P : Program) (w : World) (K : PySem.W.Frag) (mg : Str → Option Value) (base : Heap)
    (CX : CXT) (k : Nat) (f : Addr) (fd : FuncData) (ps : List Str) (sp : Sp) : Prop where
  many : ∀ vs H Q E, sp vs H Q E → vs.length = ps.length
  goes : ∀ (A : Around) (fr : List Env) (s : Shared) (H : Hp) (args : Args) (us : List Value) (vs : List V)
      (Q : VK) (E : XK), Room k A → A.guards = some [] → Env0 P w K mg base A fr s H →
      BindsTo s fd args (ps.zip us) → Vals vs us → sp vs H Q E →
      codeAny (model P w) A (.call (.ref f) args) (CR CX fr P w H s Q E) s

section
variable {P : Program} {w : World} {K : PySem.W.Frag} {mg : Str → Option Value} {base : Heap} {CX : CXT}

theorem FnG.up {j k : Nat} {f : Addr} {fd : FuncData} {ps : List Str} {sp : Sp}
    (F : FnG P w K mg base CX j f fd ps sp) (le : j ≤ k) : FnG P w K mg base CX k f fd ps sp where
  many := F.many
  goes := fun A fr s H args us vs Q E r => F.goes A fr s H args us vs Q E (r.mono le)

theorem FnG.weaker {k : Nat} {f : Addr} {fd : FuncData} {ps : List Str} {sp sq : Sp}
    (F : FnG P w K mg base CX k f fd ps sp) (le : ∀ vs H Q E, sq vs H Q E → sp vs H Q E) :
    FnG P w K mg base CX k f fd ps sq where
  many := fun vs H Q E q => F.many vs H Q E (le _ _ _ _ q)
  goes := fun A fr s H args us vs Q E r g e b v q => F.goes A fr s H args us vs Q E r g e b v (le _ _ _ _ q)

/-- a def by its body -/
theorem fnG_body {k : Nat} {x qual : Str} {st : Stmt} {f : Addr} {fd : FuncData} {N ps : List Str} {sp : Sp}
    (F : Fun K x qual st f fd) (S : FnScope N ps (defScope st))
    (many : ∀ vs H Q E, sp vs H Q E → vs.length = ps.length)
    (body : ∀ (cdv : Value) (A : Around) (fr : List Env) (s : Shared) (H : Hp) (vs : List V) (Q : VK) (E : XK),
      Room k (A.deeper (envOfC qual (defScope st) s.heap.objs.size f cdv)) → A.guards = some [] → sp vs H Q E →
      ∃ t, PSs (cxOf CX P w K mg base N qual (defScope st) f cdv A fr s H E) (defBody st) t ∧
        t { nx := fun _ H' => Q .non H', rt := Q } (start N vs) H) :
    FnG P w K mg base CX (k + 1) f fd ps sp := by
  obtain ⟨oc, od, kV, doc, pm, an, cdv, ct, osl, rfl, found, code⟩ := F.ex
  constructor
  · exact many
  intro A fr s H args us vs Q E room guard env bind rel want
  have n1 : vs.length = ps.length := many vs H Q E want
  have kin : K.In s.heap := env.mod.kin.keeps (fun b o h => (env.bs b o h).1)
  have calm : s.heap.NoLimit := env.mod.nolimit.keeps (fun b o h => (env.bs b o h).1)
  apply codeAny_call_function room.depth (kin f _ found) rfl S.co S.gen rfl (PySem.W.codeRec_of kin code)
  apply bind
  apply wpAny_newFunctionEnv_cells S.kind
  · rintro ⟨n, v⟩ hm
    cases S.par n (List.of_mem_zip hm).1 with
    | inl q => exact Or.inl q
    | inr q => exact Or.inr ⟨q, PySem.W.cellsFrom_some _ _ _ (Or.inl q)⟩
  intro e1 he s1 into
  subst he
  constructor
  · exact calm.keeps into.toInCall.keep
  apply codeAny_func
  obtain ⟨t, ht, go⟩ := body cdv A fr s H vs Q E (room.deeper _) guard want
  have I0 := inv_start (CX := CX) (P := P) (mg := mg) (E := E) S room.hd env n1 rel into
  apply wpAny_mono (ht.run [] s1 (start N vs) H _ I0 go)
  · intro fl s2 h2
    cases fl with
    | next =>
      obtain ⟨σ2, H2, J, q⟩ := h2
      exact ⟨.non, H2, J.os, J.bare, J.base, J.hok, rfl, q⟩
    | ret u =>
      obtain ⟨v, σ2, H2, J, r2, q⟩ := h2
      exact ⟨v, H2, J.os, J.bare, J.base, J.hok, r2, q⟩
    | brk =>
      obtain ⟨_, _, _, no⟩ := h2
      exact no.elim
    | cont =>
      obtain ⟨_, _, _, no⟩ := h2
      exact no.elim
  · intro e2 s2 h2
    exact h2
end

section
variable {X : Cx} {CX : CXT} {k : Nat} {f : Addr} {fd : FuncData} {ps ks : List Str} {sp : Sp} {E : XK} {x : Str}
  {p pos : Pos} {e : Expr} {es : List Expr} {kws : List Keyword} {ta tk : TA} {dvs : List V} {ds : List Value}

def Fin (X : Cx) (pins : List (Addr × Obj)) (σ : L2.St) (Q : VK) (r : Result) (s' : Shared) : Prop :=
  match r with
  | .ok (.ret u) => EP X pins σ Q u s'
  | .ok _ => False
  | .error err => X.xe err s'
theorem back {pins : List (Addr × Obj)} {σ : L2.St} {H : Hp} {s : Shared} {Q : VK} {r : Result} {s' : Shared}
    (I : Inv X pins σ H s) (out : Passes CX X E) (h : CR CX X.stack X.prog X.w H s Q E r s') :
    Fin X pins σ Q r s' := by
  cases r with
  | error err => exact out pins σ H s err s' I h
  | ok fl =>
    cases fl with
    | ret u => exact I.after h
    | next => exact h
    | brk => exact h
    | cont => exact h

theorem runG {pins : List (Addr × Obj)} {σ : L2.St} {H : Hp} {s : Shared} {Q : VK} {args : Args} {us : List Value} {vs : List V}
    (F : FnG X.prog X.w X.K X.mg X.base CX k f fd ps sp) (room : Room k X.A) (guard : X.A.guards = some [])
    (out : Passes CX X E) (I : Inv X pins σ H s) (bind : BindsTo s fd args (ps.zip us)) (rel : Vals vs us)
    (want : sp vs H Q E) :
    codeAny (model X.prog X.w) X.A (.call (.ref f) args) (Fin X pins σ Q) s :=
  codeAny_mono (F.goes X.A X.stack s H args us vs Q E room guard I.env0 bind rel want)
    fun r s' h => back I out h

/-- f(a, ..) -/
theorem pe_callG (F : FnG X.prog X.w X.K X.mg X.base CX k f fd ps sp) (room : Room k X.A) (guard : X.A.guards = some [])
    (hg : Gl X x) (hm : X.mg x = some (.ref f)) (kp : PySem.W.keepIn X.K (.ref f) = true) (hb : Binds X.K fd ps ds)
    (hd : Vals dvs ds) (out : Passes CX X E) (ha : PA X (e :: es) ta)
    (hdb : (x == ("__debug__" : Str)) = false := by decide)
    (he : starEach (e :: es) X.env = (false, eval e X.env) :: starEach es X.env := by rfl)
    (hpl : (backTo pos (starEach es X.env)).any (·.1) = false := by rfl) :
    PE X (.Call (.Name x p) (e :: es) [] pos) (tCall sp dvs E ta) := by
  constructor
  intro pins s σ H Q I want
  apply wpAny_Call_Name_kw
  apply ld_glob I hg hm _ hdb
  apply PySem.W.callWith_K (h₀ := X.base) I.ok.mod.kin kp _ he hpl
  apply thn (ha.run pos pins s σ H _ I want)
  rintro us s1 ⟨vs, H1, I1, r1, q1⟩
  refine ⟨I1.kIn, ?_⟩
  have r2 : Vals (vs ++ dvs) (us ++ ds) := r1.append hd
  have n2 : (us ++ ds).length = ps.length := r2.length.symm.trans (F.many _ _ _ _ q1)
  apply wpAny_call
  exact codeAny_mono (runG F room guard out I1 (hb s1 us I1.kIn n2) r2 q1)
    (fun r s' h => by cases r with | error _ => exact h | ok fl => cases fl <;> exact h)

/-- f() -/
theorem pe_callG0 (F : FnG X.prog X.w X.K X.mg X.base CX k f fd ps sp) (room : Room k X.A) (guard : X.A.guards = some [])
    (hg : Gl X x) (hm : X.mg x = some (.ref f)) (kp : PySem.W.keepIn X.K (.ref f) = true) (hb : Binds X.K fd ps ds)
    (hd : Vals dvs ds) (out : Passes CX X E) (hdb : (x == ("__debug__" : Str)) = false := by decide) :
    PE X (.Call (.Name x p) [] [] pos) (tCall sp dvs E tNil) := by
  constructor
  intro pins s σ H Q I want
  apply wpAny_Call_Name_kw
  apply ld_glob I hg hm _ hdb
  apply PySem.W.callWith_K0 I.kIn kp
  have r2 : Vals ([] ++ dvs) ([] ++ ds) := Vals.append .nil hd
  have n2 : (([] : List Value) ++ ds).length = ps.length := r2.length.symm.trans (F.many _ _ _ _ want)
  apply wpAny_call
  exact codeAny_mono (runG F room guard out I (hb s [] I.kIn n2) r2 want)
    (fun r s' h => by cases r with | error _ => exact h | ok fl => cases fl <;> exact h)

variable {g : List Value → List Value → List Value} {gV : List V → List V → List V}
/-- f(a, .., n = b, ..) -/
theorem pe_callGK (F : FnG X.prog X.w X.K X.mg X.base CX k f fd ps sp) (room : Room k X.A) (guard : X.A.guards = some [])
    (hg : Gl X x) (hm : X.mg x = some (.ref f)) (kp : PySem.W.keepIn X.K (.ref f) = true) (hb : KBinds X.K fd ps ks g gV)
    (out : Passes CX X E) (ha : PA X (e :: es) ta) (hk : PK X kws tk)
    (hall : (backToKw pos (keywordEach kws X.env)).all (·.1.isSome) = true := by rfl)
    (hks : (backToKw pos (keywordEach kws X.env)).filterMap (·.1) = ks := by rfl)
    (hdb : (x == ("__debug__" : Str)) = false := by decide)
    (he : starEach (e :: es) X.env = (false, eval e X.env) :: starEach es X.env := by rfl)
    (hpl : ((backTo pos (starEach (e :: es) X.env)).any (·.1) || (backToKw pos (keywordEach kws X.env)).any (·.1.isNone)) = false := by rfl) :
    PE X (.Call (.Name x p) (e :: es) kws pos) (tCallK sp gV E ta tk) := by
  constructor
  intro pins s σ H Q I want
  apply wpAny_Call_Name_kw
  apply ld_glob I hg hm _ hdb
  apply PySem.W.callWith_KW (h₀ := X.base) I.ok.mod.kin kp hall _ hpl he
  apply thn (ha.run pos pins s σ H _ I want)
  rintro us s1 ⟨vs, H1, I1, r1, q1⟩
  apply thn (hk.run pos pins s1 σ H1 _ I1 q1)
  rintro ws s2 ⟨zs, H2, I2, r2, q2⟩
  refine ⟨I2.kIn, ?_⟩
  rw [hks]
  have r3 := hb.rel r1 r2
  have n3 : (g us ws).length = ps.length := r3.length.symm.trans (F.many _ _ _ _ q2)
  apply wpAny_call
  exact codeAny_mono (runG F room guard out I2 (hb.to s2 us ws I2.kIn n3) r3 q2)
    (fun r s' h => by cases r with | error _ => exact h | ok fl => cases fl <;> exact h)

/-- f(n = b, ..) -/
theorem pe_callGK0 (F : FnG X.prog X.w X.K X.mg X.base CX k f fd ps sp) (room : Room k X.A) (guard : X.A.guards = some [])
    (hg : Gl X x) (hm : X.mg x = some (.ref f)) (kp : PySem.W.keepIn X.K (.ref f) = true) (hb : KBinds X.K fd ps ks g gV)
    (out : Passes CX X E) (hk : PK X kws tk)
    (hall : (backToKw pos (keywordEach kws X.env)).all (·.1.isSome) = true := by rfl)
    (hks : (backToKw pos (keywordEach kws X.env)).filterMap (·.1) = ks := by rfl)
    (hdb : (x == ("__debug__" : Str)) = false := by decide)
    (hpl : ((backTo pos (starEach [] X.env)).any (·.1) || (backToKw pos (keywordEach kws X.env)).any (·.1.isNone)) = false := by rfl) :
    PE X (.Call (.Name x p) [] kws pos) (tCallK sp gV E tNil tk) := by
  constructor
  intro pins s σ H Q I want
  apply wpAny_Call_Name_kw
  apply ld_glob I hg hm _ hdb
  apply PySem.W.callWith_KW0 (h₀ := X.base) I.ok.mod.kin kp hall _ hpl
  apply thn (hk.run pos pins s σ H _ I want)
  rintro ws s2 ⟨zs, H2, I2, r2, q2⟩
  refine ⟨I2.kIn, ?_⟩
  rw [hks]
  have r3 := hb.rel (vs := []) (us := []) .nil r2
  have n3 : (g [] ws).length = ps.length := r3.length.symm.trans (F.many _ _ _ _ q2)
  apply wpAny_call
  exact codeAny_mono (runG F room guard out I2 (hb.to s2 [] ws I2.kIn n3) r3 q2)
    (fun r s' h => by cases r with | error _ => exact h | ok fl => cases fl <;> exact h)
end

/-! ### repr -/
section
variable {X : Cx}
theorem kept_toks {pins : List (Addr × Obj)} {σ : L2.St} {H : Hp} {s : Shared} (I : Inv X pins σ H s) {h' : Heap} {t : Nat}
    (k : ∀ b o, s.heap.get? b = some o → h'.get? b = some o) : Inv X pins σ H { s with heap := h', toks := t } :=
  I.kept k

/-- repr of a list or a tuple of data -/
theorem repr_box (guard : X.A.guards = some []) (hu : X.A.units + 64 < cLine) :
    CallR X (.builtin "repr") (fun xs H Q => ∃ a d, xs = [.ref a] ∧ Dp X.K H (.ref a) d ∧ d.showable = true ∧ d.hasDict = false ∧ d.depth ≤ 60 ∧ d.shown.length ≤ sizeLine ∧ Q (.str d.shown) H) := by
  intro pins s σ H xs us Q I r h
  obtain ⟨a, d, rfl, dp, sh, nd, dd, sz, q⟩ := h
  obtain ⟨u, rfl, ru⟩ := vals1 r
  obtain rfl : u = .ref a := ru
  obtain ⟨as, rd⟩ := Dp.reads I d _ _ dp rfl
  refine repr_of_reads' rd sh (fun z => by rw [nd] at z; cases z) guard (by omega) (fun _ _ e => e) (fun h' u tk kp => ?_) sz
  exact ⟨.str d.shown, H, kept_toks I kp, ⟨_, rfl⟩, q⟩
end
end Gd
/-! Data: what a value stands for, whatever the heap holds besides. -/
namespace DL
open PySem PySem.Spec L2 Gd

inductive D where
  | non | bl (b : Bool) | int (i : Int) | str (x : Str) | tup (xs : List D) | lst (xs : List D)
  | fls (ns : List Int) | adr (a : Addr) | dic (ks : List Key) (vs : List D) | obj (c : Str) (ns : List Str) (vs : List D)

/-- the class c of the text stands at C -/
def KCls (K : PySem.W.Frag) (c : Str) (C : Addr) : Prop := PySem.W.nsIn K mainGlobals c = some (some (.ref C))

def KTup (K : PySem.W.Frag) (a : Addr) (xs : List V) : Prop :=
  ∃ (o : Obj) (its : Array Value) (n : Nat), K.lookup a = some o ∧ o.cls = .type "tuple" ∧ o.data = .seq its n ∧ its.size ≤ sizeLine ∧ Vals xs its.toList
def KLst (K : PySem.W.Frag) (a : Addr) (xs : List V) : Prop :=
  ∃ (o : Obj) (its : Array Value) (n : Nat), K.lookup a = some o ∧ o.cls = .type "list" ∧ o.dict = none ∧ o.data = .seq its n ∧ its.size ≤ sizeLine ∧ Vals xs its.toList

/-- what may change: elsewhere, and here -/
structure Mm where
  fo : Addr → Prop
  ch : Addr → Prop
def Mm.mu (M : Mm) (b : Addr) : Prop := M.fo b ∨ M.ch b
def Fo (m : Addr → Prop) : Mm := ⟨m, fun _ => False⟩
mutual
/-- the value stands for the data; M: what may change -/
inductive Dt (K : PySem.W.Frag) (M : Mm) (H : Hp) : V → D → Prop
  | non : Dt K M H .non .non
  | bl (b : Bool) : Dt K M H (.bl b) (.bl b)
  | int (i : Int) : Dt K M H (.int i) (.int i)
  | str (x : Str) : Dt K M H (.str x) (.str x)
  | tup {a : Addr} {xs : List V} {ds : List D} : ¬ M.mu a → Rd H a (.tup xs) → DtAll K M H xs ds → Dt K M H (.ref a) (.tup ds)
  | ktup {a : Addr} {xs : List V} {ds : List D} : KTup K a xs → DtAll K M H xs ds → Dt K M H (.ref a) (.tup ds)
  | lst {a : Addr} {xs : List V} {ds : List D} : ¬ M.mu a → H a = some (.lst xs) → DtAll K M H xs ds → Dt K M H (.ref a) (.lst ds)
  | fls {a : Addr} {ns : List Int} : ¬ M.mu a → Rd H a (.lst (ns.map V.int)) → Dt K M H (.ref a) (.fls ns)
  | kfls {a : Addr} {ns : List Int} : KLst K a (ns.map V.int) → Dt K M H (.ref a) (.fls ns)
  | adr (a : Addr) : Dt K M H (.ref a) (.adr a)
  | dic {a : Addr} {o : Obj} {ws : List (Key × V)} {ks : List Key} {ds : List D} : ¬ M.mu a → H a = some (.frz o (.dK ws)) → ws.map (·.1) = ks → DtAll K M H (ws.map (·.2)) ds → Dt K M H (.ref a) (.dic ks ds)
  | obj {a C x : Addr} {fs : List (Str × V)} {c : Str} {ns : List Str} {ds : List D} : ¬ M.mu a → H a = some (.ins C x fs) → KCls K c C → fs.map (·.1) = ns → DtAll K M H (fs.map (·.2)) ds → Dt K M H (.ref a) (.obj c ns ds)
inductive DtAll (K : PySem.W.Frag) (M : Mm) (H : Hp) : List V → List D → Prop
  | nil : DtAll K M H [] []
  | cons {v : V} {vs : List V} {d : D} {ds : List D} : Dt K M H v d → DtAll K M H vs ds → DtAll K M H (v :: vs) (d :: ds)
end

/-- as far as data see it: all but what may change is kept, what may change anew is new -/
structure ExtD (M : Mm) (H : Hp) (M' : Mm) (H' : Hp) : Prop where
  keep : ∀ b o, ¬ M.mu b → H b = some o → H' b = some o
  fresh : ∀ b, M'.mu b → ¬ M.mu b → H b = none
/-- what happened to the heap: all is kept but what may change here -/
structure Ext (M : Mm) (H : Hp) (M' : Mm) (H' : Hp) : Prop where
  keep : ∀ b o, ¬ M.ch b → H b = some o → H' b = some o
  fresh : ∀ b, M'.mu b → ¬ M.mu b → H b = none
  freshC : ∀ b, M'.ch b → ¬ M.ch b → H b = none
theorem Ext.d {M M' : Mm} {H H' : Hp} (x : Ext M H M' H') : ExtD M H M' H' := ⟨fun b o n e => x.keep b o (fun z => n (.inr z)) e, x.fresh⟩

theorem Ext.refl {M : Mm} {H : Hp} : Ext M H M H := ⟨fun _ _ _ e => e, fun _ a b => absurd a b, fun _ a b => absurd a b⟩
theorem Ext.trans {M M1 M2 : Mm} {H H1 H2 : Hp} (a : Ext M H M1 H1) (b : Ext M1 H1 M2 H2) : Ext M H M2 H2 := by
  have keep : ∀ c o, ¬ M.ch c → H c = some o → H2 c = some o := by
    intro c o n e
    have e1 := a.keep c o n e
    by_cases m : M1.ch c
    · have := a.freshC c m n
      rw [this] at e
      cases e
    · exact b.keep c o m e1
  refine ⟨keep, ?_, ?_⟩
  · intro c m n
    by_cases m1 : M1.mu c
    · exact a.fresh c m1 n
    · have z := b.fresh c m m1
      cases e : H c with
      | none => rfl
      | some o =>
        have e1 := a.keep c o (fun z => n (.inr z)) e
        rw [z] at e1
        cases e1
  · intro c m n
    by_cases m1 : M1.ch c
    · exact a.freshC c m1 n
    · have z := b.freshC c m m1
      cases e : H c with
      | none => rfl
      | some o =>
        have e1 := a.keep c o n e
        rw [z] at e1
        cases e1
theorem ExtD.refl {M : Mm} {H : Hp} : ExtD M H M H := ⟨fun _ _ _ e => e, fun _ a b => absurd a b⟩
theorem ExtD.trans {M M1 M2 : Mm} {H H1 H2 : Hp} (a : ExtD M H M1 H1) (b : ExtD M1 H1 M2 H2) : ExtD M H M2 H2 := by
  constructor
  · intro c o n e
    have e1 := a.keep c o n e
    by_cases m : M1.mu c
    · have := a.fresh c m n
      rw [this] at e
      cases e
    · exact b.keep c o m e1
  · intro c m n
    by_cases m1 : M1.mu c
    · exact a.fresh c m1 n
    · have z := b.fresh c m m1
      cases e : H c with
      | none => rfl
      | some o =>
        have e1 := a.keep c o n e
        rw [z] at e1
        cases e1
theorem Ext.less {M M' : Mm} {H : Hp} (h : ∀ b, M'.mu b → M.mu b) (hc : ∀ b, M'.ch b → M.ch b) : Ext M H M' H :=
  ⟨fun _ _ _ e => e, fun b a n => absurd (h b a) n, fun b a n => absurd (hc b a) n⟩

section
variable {K : PySem.W.Frag} {M M' : Mm} {H H' : Hp}
theorem Rd.some {a : Addr} {u : HO} (h : Rd H a u) : ∃ o, H a = .some o := by
  rcases h with h | ⟨o, h⟩
  · exact ⟨_, h⟩
  · exact ⟨_, h⟩
theorem ExtD.rd (x : ExtD M H M' H') {a : Addr} {u : HO} (n : ¬ M.mu a) (h : Rd H a u) : Rd H' a u := by
  rcases h with h | ⟨o, h⟩
  · exact .inl (x.keep _ _ n h)
  · exact .inr ⟨o, x.keep _ _ n h⟩
theorem ExtD.out (x : ExtD M H M' H') {a : Addr} {o : HO} (n : ¬ M.mu a) (h : H a = some o) : ¬ M'.mu a := fun m => by
  have z := x.fresh a m n
  rw [z] at h
  cases h
theorem ExtD.outR (x : ExtD M H M' H') {a : Addr} {u : HO} (n : ¬ M.mu a) (h : Rd H a u) : ¬ M'.mu a := by
  obtain ⟨o, e⟩ := Rd.some h
  exact x.out n e
mutual
theorem Dt.extD (x : ExtD M H M' H') : ∀ {v : V} {d : D}, Dt K M H v d → Dt K M' H' v d
  | _, _, .non => .non
  | _, _, .bl b => .bl b
  | _, _, .int i => .int i
  | _, _, .str s => .str s
  | _, _, .tup n h a => .tup (x.outR n h) (x.rd n h) (DtAll.extD x a)
  | _, _, .ktup h a => .ktup h (DtAll.extD x a)
  | _, _, .lst n h a => .lst (x.out n h) (x.keep _ _ n h) (DtAll.extD x a)
  | _, _, .fls n h => .fls (x.outR n h) (x.rd n h)
  | _, _, .kfls h => .kfls h
  | _, _, .adr a => .adr a
  | _, _, .dic n h k a => .dic (x.out n h) (x.keep _ _ n h) k (DtAll.extD x a)
  | _, _, .obj n h c k a => .obj (x.out n h) (x.keep _ _ n h) c k (DtAll.extD x a)
theorem DtAll.extD (x : ExtD M H M' H') : ∀ {vs : List V} {ds : List D}, DtAll K M H vs ds → DtAll K M' H' vs ds
  | _, _, .nil => .nil
  | _, _, .cons h t => .cons (Dt.extD x h) (DtAll.extD x t)
end
theorem Dt.ext (x : Ext M H M' H') {v : V} {d : D} (h : Dt K M H v d) : Dt K M' H' v d := h.extD x.d
theorem DtAll.ext (x : Ext M H M' H') {vs : List V} {ds : List D} (h : DtAll K M H vs ds) : DtAll K M' H' vs ds := h.extD x.d
theorem Ext.rd (x : Ext M H M' H') {a : Addr} {u : HO} (n : ¬ M.mu a) (h : Rd H a u) : Rd H' a u := x.d.rd n h
theorem DtAll.length : ∀ {vs : List V} {ds : List D}, DtAll K M H vs ds → vs.length = ds.length
  | _, _, .nil => rfl
  | _, _, .cons _ t => by
    rw [List.length_cons, List.length_cons, DtAll.length t]
theorem DtAll.append : ∀ {vs ws : List V} {ds es : List D}, DtAll K M H vs ds → DtAll K M H ws es → DtAll K M H (vs ++ ws) (ds ++ es)
  | _, _, _, _, .nil, b => b
  | _, _, _, _, .cons h t, b => .cons h (DtAll.append t b)
theorem DtAll.get : ∀ {vs : List V} {ds : List D} {i : Nat} {d : D}, DtAll K M H vs ds → ds[i]? = some d → ∃ v, vs[i]? = some v ∧ Dt K M H v d
  | _, _, _, _, .nil, e => by simp at e
  | _, _, 0, _, .cons h _, e => by
    simp at e
    subst e
    exact ⟨_, rfl, h⟩
  | _, _, i + 1, _, .cons _ t, e => by
    obtain ⟨v, e1, e2⟩ := DtAll.get (i := i) t (by simpa using e)
    exact ⟨v, by simpa using e1, e2⟩
theorem DtAll.getV : ∀ {vs : List V} {ds : List D} {i : Nat} {v : V}, DtAll K M H vs ds → vs[i]? = some v → ∃ d, ds[i]? = some d ∧ Dt K M H v d
  | _, _, _, _, .nil, e => by simp at e
  | _, _, 0, _, .cons h _, e => by
    simp at e
    subst e
    exact ⟨_, rfl, h⟩
  | _, _, i + 1, _, .cons _ t, e => by
    obtain ⟨d, e1, e2⟩ := DtAll.getV (i := i) t (by simpa using e)
    exact ⟨d, by simpa using e1, e2⟩
theorem DtAll.take : ∀ {vs : List V} {ds : List D} (n : Nat), DtAll K M H vs ds → DtAll K M H (vs.take n) (ds.take n)
  | _, _, 0, _ => by simpa using DtAll.nil
  | _, _, _ + 1, .nil => .nil
  | _, _, n + 1, .cons h t => .cons h (DtAll.take n t)
theorem DtAll.drop : ∀ {vs : List V} {ds : List D} (n : Nat), DtAll K M H vs ds → DtAll K M H (vs.drop n) (ds.drop n)
  | _, _, 0, h => h
  | _, _, _ + 1, .nil => .nil
  | _, _, n + 1, .cons _ t => DtAll.drop n t
theorem DtAll.set {v : V} {d : D} (h : Dt K M H v d) : ∀ {vs : List V} {ds : List D} (n : Nat), DtAll K M H vs ds → DtAll K M H (vs.set n v) (ds.set n d)
  | _, _, _, .nil => .nil
  | _, _, 0, .cons _ t => .cons h t
  | _, _, n + 1, .cons a t => .cons a (DtAll.set h n t)
theorem DtAll.reverse {vs : List V} {ds : List D} (h : DtAll K M H vs ds) : DtAll K M H vs.reverse ds.reverse := by
  induction vs generalizing ds with
  | nil => cases h; exact .nil
  | cons v vs ih =>
    cases h with
    | cons h t =>
      rw [List.reverse_cons, List.reverse_cons]
      exact (ih t).append (.cons h .nil)
theorem DtAll.dropLast {vs : List V} {ds : List D} (h : DtAll K M H vs ds) : DtAll K M H vs.dropLast ds.dropLast := by
  rw [List.dropLast_eq_take, List.dropLast_eq_take, h.length]
  exact h.take _
theorem DtAll.rep {vs : List V} {ds : List D} (h : DtAll K M H vs ds) : ∀ k : Nat, DtAll K M H (List.replicate k vs).flatten (List.replicate k ds).flatten
  | 0 => .nil
  | k + 1 => by
    rw [List.replicate_succ, List.replicate_succ, List.flatten_cons, List.flatten_cons]
    exact h.append (DtAll.rep h k)
theorem DtAll.ints : ∀ (ns : List Int), DtAll K M H (ns.map V.int) (ns.map D.int)
  | [] => .nil
  | n :: ns => .cons (.int n) (DtAll.ints ns)
theorem Dt.ints_of : ∀ {ns : List Int} {vs : List V}, DtAll K M H vs (ns.map D.int) → vs = ns.map V.int
  | [], _, h => by cases h; rfl
  | n :: ns, _, h => by
    cases h with
    | cons h t =>
      cases h
      rw [Dt.ints_of t]
      rfl
theorem Dt.bls_of : ∀ {ns : List Bool} {vs : List V}, DtAll K M H vs (ns.map D.bl) → vs = ns.map V.bl
  | [], _, h => by cases h; rfl
  | n :: ns, _, h => by
    cases h with
    | cons h t =>
      cases h
      rw [Dt.bls_of t]
      rfl
theorem Dt.strs_of : ∀ {ns : List Str} {vs : List V}, DtAll K M H vs (ns.map D.str) → vs = ns.map V.str
  | [], _, h => by cases h; rfl
  | n :: ns, _, h => by
    cases h with
    | cons h t =>
      cases h
      rw [Dt.strs_of t]
      rfl
theorem Dt.sqT {v : V} {ds : List D} (h : Dt K M H v (.tup ds)) : ∃ a xs, v = .ref a ∧ SqT K H a xs ∧ DtAll K M H xs ds := by
  cases h with
  | tup n h a => exact ⟨_, _, rfl, .inl h, a⟩
  | ktup h a => exact ⟨_, _, rfl, .inr h, a⟩
theorem Dt.sqL {v : V} {ds : List D} (h : Dt K M H v (.lst ds)) : ∃ a xs, v = .ref a ∧ ¬ M.mu a ∧ H a = some (.lst xs) ∧ DtAll K M H xs ds := by
  cases h with
  | lst n h a => exact ⟨_, _, rfl, n, h, a⟩
theorem Dt.sqF {v : V} {ns : List Int} (h : Dt K M H v (.fls ns)) : ∃ a, v = .ref a ∧ SqL K H a (ns.map V.int) := by
  cases h with
  | fls n h => exact ⟨_, rfl, .inl h⟩
  | kfls h => exact ⟨_, rfl, .inr h⟩
end

/-! ### the frame of a def -/
abbrev Sl := List (Option D)
/-- what stands at an address of one's own: a list; a dict -/
inductive Cel where
  | l (xs : List D) | d (kvs : List (Key × D))
instance : Coe (List D) Cel := ⟨Cel.l⟩
inductive CelHO (K : PySem.W.Frag) (M : Mm) (H : Hp) : HO → Cel → Prop
  | l {vs : List V} {xs : List D} : DtAll K M H vs xs → CelHO K M H (.lst vs) (.l xs)
  | d {ws : List (Key × V)} {kvs : List (Key × D)} : ws.map (·.1) = kvs.map (·.1) → DtAll K M H (ws.map (·.2)) (kvs.map (·.2)) → CelHO K M H (.dK ws) (.d kvs)
theorem CelHO.extD {K : PySem.W.Frag} {M M' : Mm} {H H' : Hp} (x : ExtD M H M' H') {o : HO} {c : Cel} (h : CelHO K M H o c) : CelHO K M' H' o c := by
  cases h with
  | l a => exact .l (a.extD x)
  | d k a => exact .d k (a.extD x)
theorem CelHO.ext {K : PySem.W.Frag} {M M' : Mm} {H H' : Hp} (x : Ext M H M' H') {o : HO} {c : Cel} (h : CelHO K M H o c) : CelHO K M' H' o c := by
  cases h with
  | l a => exact .l (a.ext x)
  | d k a => exact .d k (a.ext x)
abbrev Sto := List (Addr × Cel)
/-- M0: what may change elsewhere; H0: the heap at the entry; hand, J: what was handed over to be changed, and what is true of it -/
structure Dx where
  M0 : Addr → Prop
  H0 : Hp
  hand : Addr → Prop
  J : Hp → Prop
def Mu (dx : Dx) (S : Sto) : Mm := ⟨dx.M0, fun b => dx.hand b ∨ b ∈ S.map (·.1)⟩

structure HR (K : PySem.W.Frag) (dx : Dx) (H : Hp) (S : Sto) : Prop where
  sto : ∀ p c, (p, c) ∈ S → ∃ o, H p = some o ∧ CelHO K (Mu dx S) H o c
  nd : (S.map (·.1)).Nodup
  live : ∀ b, dx.M0 b → H b ≠ none
  own : ∀ p, p ∈ S.map (·.1) → dx.H0 p = none ∧ ¬ dx.M0 p
  keep : ∀ b o, dx.H0 b = some o → ¬ dx.hand b → H b = some o
  j : dx.J H
  stab : ∀ H H' : Hp, (∀ b, dx.hand b → H' b = H b) → dx.J H → dx.J H'
  hm : ∀ b, dx.hand b → dx.M0 b

structure SR (K : PySem.W.Frag) (dx : Dx) (σ : L2.St) (H : Hp) (δ : Sl) (S : Sto) : Prop where
  len : δ.length = σ.length
  ix : ∀ (i : Nat) (d : D), δ[i]? = some (some d) → ∃ v : V, σ[i]? = some (some v) ∧ Dt K (Mu dx S) H v d

section
variable {K : PySem.W.Frag} {dx : Dx} {H H' : Hp} {S S' : Sto} {σ : L2.St} {δ : Sl}
theorem SR.extD {dy : Dx} (r : SR K dx σ H δ S) (x : ExtD (Mu dx S) H (Mu dy S') H') : SR K dy σ H' δ S' :=
  ⟨r.len, fun i d e => let ⟨v, e1, e2⟩ := r.ix i d e; ⟨v, e1, e2.extD x⟩⟩
theorem SR.ext (r : SR K dx σ H δ S) (x : Ext (Mu dx S) H (Mu dx S') H') : SR K dx σ H' δ S' :=
  ⟨r.len, fun i d e => let ⟨v, e1, e2⟩ := r.ix i d e; ⟨v, e1, e2.ext x⟩⟩
theorem SR.set (r : SR K dx σ H δ S) {v : V} {d : D} (i : Nat) (h : Dt K (Mu dx S) H v d) : SR K dx (σ.set i (some v)) H (δ.set i (some d)) S := by
  refine ⟨by rw [List.length_set, List.length_set]; exact r.len, fun j e he => ?_⟩
  by_cases q : j = i
  · subst q
    have lt : j < δ.length := by
      have := (List.getElem?_eq_some_iff.mp he).1
      rwa [List.length_set] at this
    rw [List.getElem?_set_self lt] at he
    cases he
    exact ⟨v, by rw [List.getElem?_set_self (by rw [← r.len]; exact lt)], h⟩
  · rw [List.getElem?_set_ne (Ne.symm q)] at he
    rw [List.getElem?_set_ne (Ne.symm q)]
    exact r.ix j e he
/-- slots forgotten -/
theorem SR.sub {δ' : Sl} (r : SR K dx σ H δ S) (l : δ'.length = δ.length) (h : ∀ (i : Nat) (d : D), δ'[i]? = some (some d) → δ[i]? = some (some d)) : SR K dx σ H δ' S :=
  ⟨l.trans r.len, fun i d e => r.ix i d (h i d e)⟩
theorem HR.hand_ne (r : HR K dx H S) {p : Addr} (n : H p = none) : ∀ b, dx.hand b → b ≠ p := fun b h e => by
  subst e
  exact r.live _ (r.hm _ h) n
theorem HR.mu_ne (r : HR K dx H S) {p : Addr} (n : H p = none) : ¬ (Mu dx S).mu p := by
  rintro (h | h | h)
  · exact r.live _ h n
  · exact r.live _ (r.hm _ h) n
  · obtain ⟨⟨q, xs⟩, hm, e⟩ := List.mem_map.mp h
    obtain ⟨vs, hp, _⟩ := r.sto q xs hm
    have e : q = p := e
    rw [e] at hp
    rw [hp] at n
    cases n
theorem ext_new {M : Mm} {p : Addr} {o : HO} (n : H p = none) : Ext M H M (upd H p o) :=
  ⟨fun b u _ e => by rw [upd_ne (ne_of_none e n)]; exact e, fun _ a b => absurd a b, fun _ a b => absurd a b⟩
theorem Ext.same {M : Mm} (h : Same H H') : Ext M H M H' := ⟨fun b o _ e => h b o e, fun _ a b => absurd a b, fun _ a b => absurd a b⟩
/-- all that was tracked is as it was -/
theorem HR.same (r : HR K dx H S) (h : Same H H') : HR K dx H' S where
  sto := fun p xs m => let ⟨vs, e, a⟩ := r.sto p xs m; ⟨vs, h _ _ e, CelHO.ext (Ext.same h) a⟩
  nd := r.nd
  live := fun b m z => by
    cases e : H b with
    | none => exact r.live b m e
    | some o => rw [h b o e] at z; cases z
  own := r.own
  keep := fun b o e n => h b o (r.keep b o e n)
  j := r.stab H H' (fun b hb => by
    cases e : H b with
    | none => exact absurd e (r.live b (r.hm b hb))
    | some o => exact h b o e) r.j
  stab := r.stab
  hm := r.hm
theorem same_new {p : Addr} {o : HO} (n : H p = none) : Same H (upd H p o) := fun b u e => by
  rw [upd_ne (ne_of_none e n)]; exact e
theorem HR.own_not (r : HR K dx H S) {p : Addr} (m : p ∈ S.map (·.1)) : ¬ dx.M0 p := (r.own p m).2
theorem HR.mu_live (r : HR K dx H S) : ∀ b, (Mu dx S).mu b → H b ≠ none := fun b m z => r.mu_ne z m
theorem HR.old (r : HR K dx H S) {p : Addr} (n : H p = none) : dx.H0 p = none := by
  cases e : dx.H0 p with
  | none => rfl
  | some o =>
    by_cases hb : dx.hand p
    · exact absurd n (r.live p (r.hm p hb))
    · have := r.keep p o e hb
      rw [n] at this
      cases this

/-- a new list of one's own -/
theorem ext_own {p : Addr} {o : HO} {xs : Cel} (r : HR K dx H S) (n : H p = none) : Ext (Mu dx S) H (Mu dx ((p, xs) :: S)) (upd H p o) := by
  have key : ∀ b, (Mu dx ((p, xs) :: S)).ch b → ¬ (Mu dx S).ch b → H b = none := by
    intro b m z
    rcases m with m | m
    · exact absurd (.inl m) z
    · rcases List.mem_cons.mp m with e | m
      · have e : b = p := e
        rw [e]; exact n
      · exact absurd (.inr m) z
  refine ⟨fun b u _ e => by rw [upd_ne (ne_of_none e n)]; exact e, fun b m z => ?_, key⟩
  rcases m with m | m
  · exact absurd (.inl m) z
  · exact key b m fun y => z (.inr y)
theorem HR.growC (r : HR K dx H S) {p : Addr} {o : HO} {xs : Cel} (n : H p = none) (a : CelHO K (Mu dx S) H o xs) : HR K dx (upd H p o) ((p, xs) :: S) := by
  have X := ext_own (o := o) (xs := xs) r n
  have R := r.same (same_new (o := o) n)
  refine ⟨fun q ys m => ?_, ?_, R.live, fun q m => ?_, R.keep, R.j, R.stab, R.hm⟩
  · rcases List.mem_cons.mp m with e | m
    · cases e
      exact ⟨o, upd_same, CelHO.ext X a⟩
    · obtain ⟨ws, e, b⟩ := r.sto q ys m
      exact ⟨ws, by rw [upd_ne (ne_of_none e n)]; exact e, CelHO.ext X b⟩
  · rw [List.map_cons]
    refine List.nodup_cons.mpr ⟨fun m => r.mu_ne n (.inr (.inr m)), r.nd⟩
  · rw [List.map_cons] at m
    rcases List.mem_cons.mp m with e | m
    · have e : q = p := e
      rw [e]
      exact ⟨r.old n, fun z => r.live p z n⟩
    · exact r.own q m

theorem HR.grow (r : HR K dx H S) {p : Addr} {vs : List V} {xs : List D} (n : H p = none) (a : DtAll K (Mu dx S) H vs xs) : HR K dx (upd H p (.lst vs)) ((p, .l xs) :: S) := r.growC n (.l a)

/-- the store with other items at p -/
def setS (S : Sto) (p : Addr) (xs : Cel) : Sto := S.map fun q => if q.1 = p then (p, xs) else q
theorem setS_keys (S : Sto) (p : Addr) (xs : Cel) : (setS S p xs).map (·.1) = S.map (·.1) := by
  unfold setS
  rw [List.map_map]
  apply List.map_congr_left
  intro q _
  show (if q.1 = p then (p, xs) else q).1 = q.1
  split
  · rename_i h; exact h.symm
  · rfl
theorem setS_mem {S : Sto} {p q : Addr} {xs ys : Cel} (h : (q, ys) ∈ setS S p xs) : (q = p ∧ ys = xs) ∨ (q ≠ p ∧ (q, ys) ∈ S) := by
  unfold setS at h
  obtain ⟨z, m, e⟩ := List.mem_map.mp h
  split at e
  · rename_i hz
    cases e
    exact .inl ⟨rfl, rfl⟩
  · rename_i hz
    subst e
    exact .inr ⟨hz, m⟩
def getC (S : Sto) (p : Addr) : Option Cel := (S.find? fun q => q.1 = p).map (·.2)
theorem getC_mem {S : Sto} {p : Addr} {xs : Cel} (h : getC S p = some xs) : (p, xs) ∈ S := by
  unfold getC at h
  obtain ⟨⟨q, ys⟩, e, rfl⟩ := Option.map_eq_some_iff.mp h
  have m := List.mem_of_find?_eq_some e
  have c := List.find?_some e
  have c : q = p := by simpa using c
  subst c
  exact m
/-- a list of one's own -/
def lOf : Cel → Option (List D)
  | .l xs => some xs
  | _ => none
/-- a dict of one's own -/
def kOf : Cel → Option (List (Key × D))
  | .d kvs => some kvs
  | _ => none
def getS (S : Sto) (p : Addr) : Option (List D) := (getC S p).bind lOf
def getK (S : Sto) (p : Addr) : Option (List (Key × D)) := (getC S p).bind kOf
theorem getS_C {S : Sto} {p : Addr} {xs : List D} (h : getS S p = some xs) : getC S p = some (.l xs) := by
  unfold getS at h
  cases e : getC S p with
  | none => rw [e] at h; cases h
  | some c =>
    rw [e] at h
    cases c with
    | l ys => cases h; rfl
    | d _ => cases h
theorem getK_C {S : Sto} {p : Addr} {xs : List (Key × D)} (h : getK S p = some xs) : getC S p = some (.d xs) := by
  unfold getK at h
  cases e : getC S p with
  | none => rw [e] at h; cases h
  | some c =>
    rw [e] at h
    cases c with
    | l ys => cases h
    | d _ => cases h; rfl
theorem getS_mem {S : Sto} {p : Addr} {xs : List D} (h : getS S p = some xs) : (p, .l xs) ∈ S := getC_mem (getS_C h)
theorem mu_set {dx : Dx} {S : Sto} {p : Addr} {xs : Cel} : Mu dx (setS S p xs) = Mu dx S := by
  unfold Mu
  rw [setS_keys]
theorem ext_set {p : Addr} {o : HO} {xs : Cel} (m : p ∈ S.map (·.1)) : Ext (Mu dx S) H (Mu dx (setS S p xs)) (upd H p o) := by
  rw [mu_set]
  refine ⟨fun b u n e => ?_, fun b a n => absurd a n, fun b a n => absurd a n⟩
  by_cases q : b = p
  · subst q; exact absurd (.inr m) n
  · rw [upd_ne q]; exact e
theorem HR.putC (r : HR K dx H S) {p : Addr} {o : HO} {xs : Cel} (m : p ∈ S.map (·.1)) (a : CelHO K (Mu dx S) H o xs) : HR K dx (upd H p o) (setS S p xs) := by
  have X := ext_set (dx := dx) (H := H) (o := o) (xs := xs) m
  have np : ¬ dx.M0 p := r.own_not m
  refine ⟨fun q ys mm => ?_, by rw [setS_keys]; exact r.nd, fun b hb => ?_, fun q hq => r.own q (by rw [← setS_keys S p xs]; exact hq), fun b o e n => ?_, ?_, r.stab, r.hm⟩
  · rcases setS_mem mm with ⟨rfl, rfl⟩ | ⟨ne, mm⟩
    · exact ⟨o, upd_same, CelHO.ext X a⟩
    · obtain ⟨ws, e, b⟩ := r.sto q ys mm
      exact ⟨ws, by rw [upd_ne ne]; exact e, CelHO.ext X b⟩
  · have ne : b ≠ p := fun z => np (z ▸ hb)
    rw [upd_ne ne]
    exact r.live b hb
  · have ne : b ≠ p := fun z => by
      rw [z, (r.own p m).1] at e
      cases e
    rw [upd_ne ne]
    exact r.keep b o e n
  · refine r.stab H _ (fun b hb => ?_) r.j
    have ne : b ≠ p := fun z => np (z ▸ r.hm b hb)
    rw [upd_ne ne]
theorem HR.put (r : HR K dx H S) {p : Addr} {vs : List V} {xs : List D} (m : p ∈ S.map (·.1)) (a : DtAll K (Mu dx S) H vs xs) : HR K dx (upd H p (.lst vs)) (setS S p (.l xs)) := r.putC m (.l a)
/-- a list is not changed any more -/
def delS (S : Sto) (p : Addr) : Sto := S.filter fun q => q.1 ≠ p
theorem delS_mem {S : Sto} {p b : Addr} (h : b ∈ (delS S p).map (·.1)) : b ∈ S.map (·.1) ∧ b ≠ p := by
  obtain ⟨q, m, rfl⟩ := List.mem_map.mp h
  obtain ⟨m1, m2⟩ := List.mem_filter.mp m
  exact ⟨List.mem_map.mpr ⟨q, m1, rfl⟩, by simpa using m2⟩
theorem ext_del {p : Addr} : Ext (Mu dx S) H (Mu dx (delS S p)) H := by
  have key : ∀ b, (Mu dx (delS S p)).ch b → (Mu dx S).ch b := fun b h => h.elim .inl fun h => .inr (delS_mem h).1
  exact Ext.less (fun b h => h.elim .inl fun h => .inr (key b h)) key
theorem HR.del (r : HR K dx H S) (p : Addr) : HR K dx H (delS S p) := by
  refine ⟨fun q ys m => ?_, ?_, r.live, fun q m => r.own q (delS_mem m).1, r.keep, r.j, r.stab, r.hm⟩
  · obtain ⟨ws, e, b⟩ := r.sto q ys (List.mem_filter.mp m).1
    exact ⟨ws, e, CelHO.ext ext_del b⟩
  · exact r.nd.sublist (List.Sublist.map _ List.filter_sublist)
theorem HR.getL (r : HR K dx H S) {p : Addr} {xs : List D} (h : getS S p = some xs) : ∃ vs, H p = some (.lst vs) ∧ DtAll K (Mu dx S) H vs xs := by
  obtain ⟨o, e, c⟩ := r.sto p _ (getS_mem h)
  cases c with
  | l a => exact ⟨_, e, a⟩
theorem HR.getD (r : HR K dx H S) {p : Addr} {kvs : List (Key × D)} (h : getK S p = some kvs) : p ∈ S.map (·.1) ∧ ∃ ws, H p = some (.dK ws) ∧ ws.map (·.1) = kvs.map (·.1) ∧ DtAll K (Mu dx S) H (ws.map (·.2)) (kvs.map (·.2)) := by
  have m := getC_mem (getK_C h)
  obtain ⟨o, e, c⟩ := r.sto p _ m
  refine ⟨List.mem_map.mpr ⟨_, m, rfl⟩, ?_⟩
  cases c with
  | d k a => exact ⟨_, e, k, a⟩
theorem HR.frozen (r : HR K dx H S) {p : Addr} {xs : List D} (h : getS S p = some xs) : Dt K (Mu dx (delS S p)) H (.ref p) (.lst xs) := by
  have m := getS_mem h
  have mp : p ∈ S.map (·.1) := List.mem_map.mpr ⟨_, m, rfl⟩
  obtain ⟨vs, e, a⟩ := r.getL h
  refine .lst ?_ e (a.ext ext_del)
  rintro (z | z | z)
  · exact r.own_not mp z
  · exact r.own_not mp (r.hm _ z)
  · exact (delS_mem z).2 rfl
theorem HR.get (r : HR K dx H S) {p : Addr} {xs : List D} (h : getS S p = some xs) : p ∈ S.map (·.1) ∧ ∃ vs, H p = some (.lst vs) ∧ DtAll K (Mu dx S) H vs xs :=
  ⟨List.mem_map.mpr ⟨_, getS_mem h, rfl⟩, r.getL h⟩
/-- a dict is not changed any more: it is locked -/
theorem HR.frozenD (r : HR K dx H S) {p : Addr} {kvs : List (Key × D)} (h : getK S p = some kvs) (od : Obj) : ∃ ws, H p = some (.dK ws) ∧ HR K dx (upd H p (.frz od (.dK ws))) (delS S p) ∧
    Ext (Mu dx S) H (Mu dx (delS S p)) (upd H p (.frz od (.dK ws))) ∧ Dt K (Mu dx (delS S p)) (upd H p (.frz od (.dK ws))) (.ref p) (.dic (kvs.map (·.1)) (kvs.map (·.2))) := by
  obtain ⟨mp, ws, e, hk, a⟩ := r.getD h
  have np : ¬ dx.M0 p := r.own_not mp
  have key : ∀ b, (Mu dx (delS S p)).ch b → (Mu dx S).ch b := fun b h => h.elim .inl fun h => .inr (delS_mem h).1
  have X : Ext (Mu dx S) H (Mu dx (delS S p)) (upd H p (.frz od (.dK ws))) := by
    refine ⟨fun b u n e => ?_, fun b a n => absurd (a.elim .inl fun h => .inr (key b h)) n, fun b a n => absurd (key b a) n⟩
    by_cases q : b = p
    · subst q; exact absurd (.inr mp) n
    · rw [upd_ne q]; exact e
  refine ⟨ws, e, ⟨fun q ys m => ?_, ?_, fun b hb => ?_, fun q m => r.own q (delS_mem m).1, fun b o e n => ?_, ?_, r.stab, r.hm⟩, X, .dic ?_ upd_same hk (a.ext X)⟩
  · have ne : q ≠ p := (delS_mem (List.mem_map.mpr ⟨_, m, rfl⟩)).2
    obtain ⟨o, e, b⟩ := r.sto q ys (List.mem_filter.mp m).1
    exact ⟨o, by rw [upd_ne ne]; exact e, CelHO.ext X b⟩
  · exact r.nd.sublist (List.Sublist.map _ List.filter_sublist)
  · have ne : b ≠ p := fun z => np (z ▸ hb)
    rw [upd_ne ne]
    exact r.live b hb
  · have ne : b ≠ p := fun z => by
      rw [z, (r.own p mp).1] at e
      cases e
    rw [upd_ne ne]
    exact r.keep b o e n
  · refine r.stab H _ (fun b hb => ?_) r.j
    have ne : b ≠ p := fun z => np (z ▸ r.hm b hb)
    rw [upd_ne ne]
  · rintro (z | z | z)
    · exact np z
    · exact np (r.hm _ z)
    · exact (delS_mem z).2 rfl
end
end DL
/-! Readings over data. -/
namespace DL
open PySem PySem.Spec L2 Gd

def gt : Sl → Nat → Option D
  | [], _ => none
  | a :: _, 0 => a
  | _ :: r, n + 1 => gt r n
def put : Sl → Nat → D → Sl
  | [], _, _ => []
  | _ :: r, 0, d => some d :: r
  | a :: r, n + 1, d => a :: put r n d
theorem gt_ix : ∀ {δ : Sl} {i : Nat} {d : D}, gt δ i = some d → δ[i]? = some (some d)
  | [], _, _, h => by cases h
  | a :: _, 0, _, h => by simpa [gt] using h
  | _ :: r, n + 1, _, h => by simpa [gt] using gt_ix (δ := r) (i := n) h
theorem put_set : ∀ {δ : Sl} {i : Nat} {d : D}, put δ i d = δ.set i (some d)
  | [], _, _ => rfl
  | _ :: _, 0, _ => rfl
  | a :: r, n + 1, d => by
    show a :: put r n d = a :: r.set n (some d)
    rw [put_set]

abbrev DTE := Sl → Sto → (D → Sto → Prop) → Prop
abbrev DTT := Sl → Sto → (Bool → Sto → Prop) → Prop
abbrev DTA := Sl → Sto → (List D → Sto → Prop) → Prop
structure DEnds where
  nx : Sl → Sto → Prop
  rt : D → Sto → Prop
  bk : Sl → Sto → Prop := fun _ _ => False
  ct : Sl → Sto → Prop := fun _ _ => False
abbrev DTS := DEnds → Sl → Sto → Prop

def ThE (K : PySem.W.Frag) (dx : Dx) (H : Hp) (S : Sto) (Q : D → Sto → Prop) (Qh : VK) : Prop :=
  ∀ v H' d S', HR K dx H' S' → Ext (Mu dx S) H (Mu dx S') H' → Dt K (Mu dx S') H' v d → Q d S' → Qh v H'
def ThT (K : PySem.W.Frag) (dx : Dx) (H : Hp) (S : Sto) (Q : Bool → Sto → Prop) (Qh : Bool → Hp → Prop) : Prop :=
  ∀ b H' S', HR K dx H' S' → Ext (Mu dx S) H (Mu dx S') H' → Q b S' → Qh b H'
def ThA (K : PySem.W.Frag) (dx : Dx) (H : Hp) (S : Sto) (Q : List D → Sto → Prop) (Qh : List V → Hp → Prop) : Prop :=
  ∀ vs H' ds S', HR K dx H' S' → Ext (Mu dx S) H (Mu dx S') H' → DtAll K (Mu dx S') H' vs ds → Q ds S' → Qh vs H'

structure DE (X : Cx) (dx : Dx) (e : Expr) (te : TE) (t : DTE) : Prop where
  pe : PE X e te
  go : ∀ σ H δ S Q Qh, HR X.K dx H S → SR X.K dx σ H δ S → t δ S Q → ThE X.K dx H S Q Qh → te σ H Qh
structure DT (X : Cx) (dx : Dx) (e : Expr) (te : TT) (t : DTT) : Prop where
  pe : PT X e te
  go : ∀ σ H δ S Q Qh, HR X.K dx H S → SR X.K dx σ H δ S → t δ S Q → ThT X.K dx H S Q Qh → te σ H Qh
structure DW (X : Cx) (dx : Dx) (e : Expr) (te : TT) (t : DTT) : Prop where
  pe : PW X e te
  go : ∀ σ H δ S Q Qh, HR X.K dx H S → SR X.K dx σ H δ S → t δ S Q → ThT X.K dx H S Q Qh → te σ H Qh
structure DA (X : Cx) (dx : Dx) (es : List Expr) (te : TA) (t : DTA) : Prop where
  pe : PA X es te
  go : ∀ σ H δ S Q Qh, HR X.K dx H S → SR X.K dx σ H δ S → t δ S Q → ThA X.K dx H S Q Qh → te σ H Qh
structure DK (X : Cx) (dx : Dx) (es : List Keyword) (te : TA) (t : DTA) : Prop where
  pe : PK X es te
  go : ∀ σ H δ S Q Qh, HR X.K dx H S → SR X.K dx σ H δ S → t δ S Q → ThA X.K dx H S Q Qh → te σ H Qh

structure ThS (K : PySem.W.Frag) (dx : Dx) (H : Hp) (S : Sto) (DD : DEnds) (E : Ends) : Prop where
  nx : ∀ σ' H' δ' S', HR K dx H' S' → Ext (Mu dx S) H (Mu dx S') H' → SR K dx σ' H' δ' S' → DD.nx δ' S' → E.nx σ' H'
  bk : ∀ σ' H' δ' S', HR K dx H' S' → Ext (Mu dx S) H (Mu dx S') H' → SR K dx σ' H' δ' S' → DD.bk δ' S' → E.bk σ' H'
  ct : ∀ σ' H' δ' S', HR K dx H' S' → Ext (Mu dx S) H (Mu dx S') H' → SR K dx σ' H' δ' S' → DD.ct δ' S' → E.ct σ' H'
  rt : ∀ v H' d S', HR K dx H' S' → Ext (Mu dx S) H (Mu dx S') H' → Dt K (Fo dx.M0) H' v d → DD.rt d S' → E.rt v H'
structure DS (X : Cx) (dx : Dx) (st : Stmt) (ts : TS) (t : DTS) : Prop where
  pe : PS X st ts
  go : ∀ σ H δ S DD E, HR X.K dx H S → SR X.K dx σ H δ S → t DD δ S → ThS X.K dx H S DD E → ts E σ H
structure DSs (X : Cx) (dx : Dx) (st : List Stmt) (ts : TS) (t : DTS) : Prop where
  pe : PSs X st ts
  go : ∀ σ H δ S DD E, HR X.K dx H S → SR X.K dx σ H δ S → t DD δ S → ThS X.K dx H S DD E → ts E σ H

section
variable {K : PySem.W.Frag} {dx : Dx} {H H1 : Hp} {S S1 : Sto}
theorem ThE.on {Q Qh} (h : ThE K dx H S Q Qh) (x : Ext (Mu dx S) H (Mu dx S1) H1) : ThE K dx H1 S1 Q Qh :=
  fun v H' d S' r y => h v H' d S' r (x.trans y)
theorem ThT.on {Q Qh} (h : ThT K dx H S Q Qh) (x : Ext (Mu dx S) H (Mu dx S1) H1) : ThT K dx H1 S1 Q Qh :=
  fun v H' S' r y => h v H' S' r (x.trans y)
theorem ThA.on {Q Qh} (h : ThA K dx H S Q Qh) (x : Ext (Mu dx S) H (Mu dx S1) H1) : ThA K dx H1 S1 Q Qh :=
  fun v H' d S' r y => h v H' d S' r (x.trans y)
theorem ThS.on {DD E} (h : ThS K dx H S DD E) (x : Ext (Mu dx S) H (Mu dx S1) H1) : ThS K dx H1 S1 DD E :=
  ⟨fun a b c d r y => h.nx a b c d r (x.trans y), fun a b c d r y => h.bk a b c d r (x.trans y), fun a b c d r y => h.ct a b c d r (x.trans y), fun a b c d r y => h.rt a b c d r (x.trans y)⟩
end

section
variable {X : Cx} {dx : Dx} {a b c e : Expr} {es rest : List Expr} {pos : Pos} {ta tb tc te : TE} {fa fb fc : DTE} {ua ub : TT} {ga gb : DTT} {tr : TA} {fr : DTA}

/-! ### names, constants -/
def dVar (i : Nat) : DTE := fun δ S Q => match gt δ i with
  | some d => Q d S
  | none => False
theorem de_var {i : Nat} (h : PE X e (tVar i)) : DE X dx e (tVar i) (dVar i) := by
  refine ⟨h, fun σ H δ S Q Qh r s t k => ?_⟩
  unfold dVar at t
  cases g : gt δ i with
  | none => rw [g] at t; exact t.elim
  | some d =>
    rw [g] at t
    obtain ⟨v, e1, e2⟩ := s.ix i d (gt_ix g)
    exact ⟨v, e1, k v H d S r Ext.refl e2 t⟩
/-- the name that stands in the i-th slot -/
theorem dv (i : Nat) {x : Str} {pos : Pos} (hN : X.N[i]? = some x := by rfl) (hv : Vis X.env.scope x := by first | exact Or.inl rfl | exact Or.inr (Or.inl rfl) | exact Or.inr (Or.inr rfl))
    (hd : (x == ("__debug__" : Str)) = false := by decide) (hcd : (x == ("__classdict__" : Str)) = false := by decide) : DE X dx (.Name x pos) (tVar i) (dVar i) :=
  de_var (pe_var hN hv hd hcd)
def dC (d : D) : DTE := fun _ S Q => Q d S
theorem de_c {v : V} {d : D} (h : PE X e (tC v)) (q : ∀ M H, Dt X.K M H v d) : DE X dx e (tC v) (dC d) :=
  ⟨h, fun σ H δ S Q Qh r s t k => k v H d S r Ext.refl (q _ _) t⟩
theorem de_int {i : Int} {j} : DE X dx (.Constant (.int i) j pos) (tC (.int i)) (dC (.int i)) := de_c pe_int fun _ _ => .int i
theorem de_bl {i : Bool} {j} : DE X dx (.Constant (.bool i) j pos) (tC (.bl i)) (dC (.bl i)) := de_c pe_bl fun _ _ => .bl i
theorem de_non {j} : DE X dx (.Constant .none j pos) (tC .non) (dC .non) := de_c pe_non fun _ _ => .non
theorem de_str {i : Str} {j} : DE X dx (.Constant (.str i) j pos) (tC (.str i)) (dC (.str i)) := de_c pe_str fun _ _ => .str i

/-! ### operators by values -/
abbrev F2 := D → D → Sto → (D → Sto → Prop) → Prop
def OpD (K : PySem.W.Frag) (dx : Dx) (r : R2) (f : F2) : Prop :=
  ∀ x y p q H S Q Qh, HR K dx H S → Dt K (Mu dx S) H x p → Dt K (Mu dx S) H y q → f p q S Q → ThE K dx H S Q Qh → r x y H Qh
def dOp (f : F2) (fa fb : DTE) : DTE := fun δ S Q => fa δ S fun p S1 => fb δ S1 fun q S2 => f p q S2 Q
theorem op_go {r : R2} {f : F2} (o : OpD X.K dx r f) (ha : DE X dx a ta fa) (hb : DE X dx b tb fb) :
    ∀ σ H δ S Q Qh, HR X.K dx H S → SR X.K dx σ H δ S → dOp f fa fb δ S Q → ThE X.K dx H S Q Qh → tOp r ta tb σ H Qh := by
  intro σ H δ S Q Qh r0 s0 t k
  refine ha.go σ H δ S _ _ r0 s0 t fun x H1 p S1 r1 x1 d1 t1 => ?_
  refine hb.go σ H1 δ S1 _ _ r1 (s0.ext x1) t1 fun y H2 q S2 r2 x2 d2 t2 => ?_
  exact o x y p q H2 S2 Q Qh r2 (d1.ext x2) d2 t2 (k.on (x1.trans x2))
theorem de_op {op : Operator} {r : R2} {f : F2} (h : OpR X (binaryOp op) r) (o : OpD X.K dx r f) (ha : DE X dx a ta fa) (hb : DE X dx b tb fb) : DE X dx (.BinOp a op b pos) (tOp r ta tb) (dOp f fa fb) :=
  ⟨pe_op h ha.pe hb.pe, op_go o ha hb⟩
theorem de_cmp {op : CmpOp} {r : R2} {f : F2} (h : OpR X (compareOp op) r) (o : OpD X.K dx r f) (ha : DE X dx a ta fa) (hb : DE X dx b tb fb) (hm : behindInMarks op b = false) : DE X dx (.Compare a [op] [b] pos) (tOp r ta tb) (dOp f fa fb) :=
  ⟨pe_cmpR h ha.pe hb.pe hm, op_go o ha hb⟩
def isB (Q : Bool → Sto → Prop) : D → Sto → Prop
  | .bl k, S => Q k S
  | _, _ => False
def dTest (t : DTE) : DTT := fun δ S Q => t δ S (isB Q)
theorem isB_run {K : PySem.W.Frag} {Q : Bool → Sto → Prop} {M : Mm} {H : Hp} {v : V} {d : D} {S : Sto} (h : Dt K M H v d) (q : isB Q d S) : ∃ k, v = .bl k ∧ d = .bl k ∧ Q k S := by
  cases h with
  | bl k => exact ⟨k, rfl, rfl, q⟩
  | _ => exact q.elim
theorem dt_cmp {op : CmpOp} {r : R2} {f : F2} (h : OpR X (compareOp op) r) (o : OpD X.K dx r f) (ha : DE X dx a ta fa) (hb : DE X dx b tb fb) (hm : behindInMarks op b = false) : DT X dx (.Compare a [op] [b] pos) (tTest (tOp r ta tb)) (dTest (dOp f fa fb)) := by
  refine ⟨pt_cmpR h ha.pe hb.pe hm, fun σ H δ S Q Qh r0 s0 t k => ?_⟩
  refine op_go o ha hb σ H δ S _ _ r0 s0 t fun v H1 d S1 r1 x1 d1 t1 => ?_
  obtain ⟨z, rfl, rfl, q⟩ := isB_run d1 t1
  exact ⟨z, rfl, k z H1 S1 r1 x1 q⟩
theorem dt_val (h : DE X dx e te fa) (he : ∀ whole, isTrue e X.env whole = (do let v ← whole; standAt e.pos; holding [v] (truthy v)) := by intro _; rfl) : DT X dx e (tB te) (dTest fa) := by
  refine ⟨pt_val h.pe he, fun σ H δ S Q Qh r0 s0 t k => ?_⟩
  refine h.go σ H δ S _ _ r0 s0 t fun v H1 d S1 r1 x1 d1 t1 => ?_
  obtain ⟨z, rfl, rfl, q⟩ := isB_run d1 t1
  exact ⟨z, rfl, k z H1 S1 r1 x1 q⟩
/-- a < b < c -/
def dChain (f g : F2) (fa fb fc : DTE) : DTE := fun δ S Q => fa δ S fun p S1 => fb δ S1 fun q S2 => f p q S2 fun z S3 =>
  isB (fun k S4 => if k = true then fc δ S4 fun w S5 => g q w S5 Q else Q (.bl false) S4) z S3
end
end DL
/-! Readings over data: tests, displays, items, slices, calls. -/
namespace DL
open PySem PySem.Spec L2 Gd

def opt {α : Type} (o : Option α) (Q : α → Prop) : Prop := match o with
  | some x => Q x
  | none => False
theorem opt_run {α : Type} {o : Option α} {Q : α → Prop} (h : opt o Q) : ∃ x, o = some x ∧ Q x := by
  cases o with
  | none => exact h.elim
  | some x => exact ⟨x, rfl, h⟩
section
variable {X : Cx} {dx : Dx} {a b c e : Expr} {es rest : List Expr} {pos : Pos} {ta tb tc te : TE} {fa fb fc : DTE} {ua ub : TT} {ga gb : DTT} {tr : TA} {fr : DTA}

theorem de_chain {op op' : CmpOp} {r r' : R2} {f g : F2} (h : OpR X (compareOp op) r) (o : OpD X.K dx r f) (h' : OpR X (compareOp op') r') (o' : OpD X.K dx r' g)
    (ha : DE X dx a ta fa) (hb : DE X dx b tb fb) (hc : DE X dx c tc fc)
    (hm : lastMarks [op, op'] [b, c] = false := by with_unfolding_all rfl) : DE X dx (.Compare a [op, op'] [b, c] pos) (tChain r r' ta tb tc) (dChain f g fa fb fc) := by
  refine ⟨pe_chain h h' ha.pe hb.pe hc.pe hm, fun σ H δ S Q Qh r0 s0 t k => ?_⟩
  refine ha.go σ H δ S _ _ r0 s0 t fun x H1 p S1 r1 x1 d1 t1 => ?_
  refine hb.go σ H1 δ S1 _ _ r1 (s0.ext x1) t1 fun y H2 q S2 r2 x2 d2 t2 => ?_
  refine o x y p q H2 S2 _ _ r2 (d1.ext x2) d2 t2 fun v H3 z S3 r3 x3 d3 t3 => ?_
  obtain ⟨w, rfl, rfl, t4⟩ := isB_run d3 t3
  refine ⟨w, rfl, ?_⟩
  cases w with
  | false =>
    rw [if_neg Bool.false_ne_true] at t4 ⊢
    exact k _ H3 _ S3 r3 ((x1.trans x2).trans x3) (.bl false) t4
  | true =>
    rw [if_pos rfl] at t4 ⊢
    refine hc.go σ H3 δ S3 _ _ r3 (s0.ext ((x1.trans x2).trans x3)) t4 fun u H4 z S4 r4 x4 d4 t5 => ?_
    exact o' y u q z H4 S4 Q Qh r4 (d2.ext (x3.trans x4)) d4 t5 (k.on (((x1.trans x2).trans x3).trans x4))
theorem dt_chain {op op' : CmpOp} {r r' : R2} {f g : F2} (h : OpR X (compareOp op) r) (o : OpD X.K dx r f) (h' : OpR X (compareOp op') r') (o' : OpD X.K dx r' g)
    (ha : DE X dx a ta fa) (hb : DE X dx b tb fb) (hc : DE X dx c tc fc)
    (hm : lastMarks [op, op'] [b, c] = false := by with_unfolding_all rfl) : DT X dx (.Compare a [op, op'] [b, c] pos) (tTest (tChain r r' ta tb tc)) (dTest (dChain f g fa fb fc)) := by
  refine ⟨pt_chain h h' ha.pe hb.pe hc.pe hm, fun σ H δ S Q Qh r0 s0 t k => ?_⟩
  refine (de_chain (pos := pos) h o h' o' ha hb hc hm).go σ H δ S _ _ r0 s0 t fun v H1 d S1 r1 x1 d1 t1 => ?_
  obtain ⟨z, rfl, rfl, q⟩ := isB_run d1 t1
  exact ⟨z, rfl, k z H1 S1 r1 x1 q⟩

/-! ### truth -/
def fTru : D → Sto → (Bool → Sto → Prop) → Prop
  | .non, S, Q => Q false S
  | .bl k, S, Q => Q k S
  | .int i, S, Q => Q (i != 0) S
  | .str x, S, Q => x.length ≤ sizeLine ∧ Q ((x.length : Int) != 0) S
  | .tup ds, S, Q => Q (!ds.isEmpty) S
  | .lst ds, S, Q => Q (!ds.isEmpty) S
  | .fls ds, S, Q => Q (!ds.isEmpty) S
  | .adr p, S, Q => opt (getS S p) fun ds => Q (!ds.isEmpty) S
  | .dic _ _, _, _ => False
  | .obj _ _ _, _, _ => False
theorem empty_all {K : PySem.W.Frag} {M : Mm} {H : Hp} {vs : List V} {ds : List D} (h : DtAll K M H vs ds) : vs.isEmpty = ds.isEmpty := by
  cases h <;> rfl
theorem tru_go {K : PySem.W.Frag} {v : V} {d : D} {H : Hp} {S : Sto} {Q : Bool → Sto → Prop} (r : HR K dx H S) (h : Dt K (Mu dx S) H v d) (q : fTru d S Q) : ∃ k, TruV K v H k ∧ Q k S := by
  cases h with
  | non => exact ⟨_, rfl, q⟩
  | bl k => exact ⟨_, rfl, q⟩
  | int i => exact ⟨_, rfl, q⟩
  | str x => exact ⟨_, ⟨q.1, rfl⟩, q.2⟩
  | tup n h a => exact ⟨_, .inr (.inl ⟨_, .inl h, rfl⟩), by rw [empty_all a]; exact q⟩
  | ktup h a => exact ⟨_, .inr (.inl ⟨_, .inr h, rfl⟩), by rw [empty_all a]; exact q⟩
  | lst n h a => exact ⟨_, .inl ⟨_, SqL.of h, rfl⟩, by rw [empty_all a]; exact q⟩
  | fls n h => exact ⟨_, .inl ⟨_, .inl h, rfl⟩, by rw [List.isEmpty_map]; exact q⟩
  | kfls h => exact ⟨_, .inl ⟨_, .inr h, rfl⟩, by rw [List.isEmpty_map]; exact q⟩
  | adr p =>
    obtain ⟨ds, g, q⟩ := opt_run q
    obtain ⟨_, vs, e, al⟩ := r.get g
    exact ⟨_, .inl ⟨_, SqL.of e, rfl⟩, by rw [empty_all al]; exact q⟩
  | dic _ _ _ _ => exact q.elim
  | obj _ _ _ _ _ => exact q.elim
def tTr (K : PySem.W.Frag) (te : TE) : TT := fun σ H Q => te σ H fun x H' => ∃ k, TruV K x H' k ∧ Q k H'
def dTr (t : DTE) : DTT := fun δ S Q => t δ S fun d S1 => fTru d S1 Q
theorem dt_tru (h : DE X dx e te fa) (he : ∀ whole, isTrue e X.env whole = (do let v ← whole; standAt e.pos; holding [v] (truthy v)) := by intro _; rfl) : DT X dx e (tTr X.K te) (dTr fa) := by
  refine ⟨pt_truth h.pe he, fun σ H δ S Q Qh r0 s0 t k => ?_⟩
  refine h.go σ H δ S _ _ r0 s0 t fun v H1 d S1 r1 x1 d1 t1 => ?_
  obtain ⟨z, tv, q⟩ := tru_go r1 d1 t1
  exact ⟨z, tv, k z H1 S1 r1 x1 q⟩

/-! ### and, or, not -/
def dNot (t : DTT) : DTT := fun δ S Q => t δ S fun k S1 => Q (!k) S1
def dAnd (t u : DTT) : DTT := fun δ S Q => t δ S fun k S1 => if k = true then u δ S1 Q else Q false S1
def dOr (t u : DTT) : DTT := fun δ S Q => t δ S fun k S1 => if k = true then Q true S1 else u δ S1 Q
theorem dt_not (h : DT X dx a ua ga) : DT X dx (.UnaryOp .Not a pos) (tNot ua) (dNot ga) :=
  ⟨pt_not h.pe, fun σ H δ S Q Qh r0 s0 t k => h.go σ H δ S _ _ r0 s0 t fun b H1 S1 r1 x1 q => k _ H1 S1 r1 x1 q⟩
theorem dw_and1 (h : DT X dx a ua ga) : DW X dx (.BoolOp .And [a] pos) ua ga := ⟨pw_and1 h.pe, h.go⟩
theorem dw_or1 (h : DT X dx a ua ga) : DW X dx (.BoolOp .Or [a] pos) ua ga := ⟨pw_or1 h.pe, h.go⟩
theorem dw_and (h : DT X dx a ua ga) (h2 : DW X dx (.BoolOp .And (b :: rest) pos) ub gb) : DW X dx (.BoolOp .And (a :: b :: rest) pos) (tAnd ua ub) (dAnd ga gb) := by
  refine ⟨pw_and h.pe h2.pe, fun σ H δ S Q Qh r0 s0 t k => ?_⟩
  refine h.go σ H δ S _ _ r0 s0 t fun z H1 S1 r1 x1 q => ?_
  cases z with
  | false =>
    rw [if_neg Bool.false_ne_true] at q ⊢
    exact k _ H1 S1 r1 x1 q
  | true =>
    rw [if_pos rfl] at q ⊢
    exact h2.go σ H1 δ S1 Q Qh r1 (s0.ext x1) q (k.on x1)
theorem dw_or (h : DT X dx a ua ga) (h2 : DW X dx (.BoolOp .Or (b :: rest) pos) ub gb) : DW X dx (.BoolOp .Or (a :: b :: rest) pos) (tOr ua ub) (dOr ga gb) := by
  refine ⟨pw_or h.pe h2.pe, fun σ H δ S Q Qh r0 s0 t k => ?_⟩
  refine h.go σ H δ S _ _ r0 s0 t fun z H1 S1 r1 x1 q => ?_
  cases z with
  | true =>
    rw [if_pos rfl] at q ⊢
    exact k _ H1 S1 r1 x1 q
  | false =>
    rw [if_neg Bool.false_ne_true] at q ⊢
    exact h2.go σ H1 δ S1 Q Qh r1 (s0.ext x1) q (k.on x1)
theorem DW.dt (h : DW X dx e ua ga) : DT X dx e ua ga := ⟨h.pe.pt, h.go⟩
/-- as values: all True or False but the last -/
def dAndV (t u : DTE) : DTE := fun δ S Q => t δ S (isB fun k S1 => if k = true then u δ S1 Q else Q (.bl false) S1)
def dOrV (t u : DTE) : DTE := fun δ S Q => t δ S (isB fun k S1 => if k = true then Q (.bl true) S1 else u δ S1 Q)
def dNotV (t : DTE) : DTE := fun δ S Q => t δ S (isB fun k S1 => Q (.bl (!k)) S1)
theorem de_one {op} (h : DE X dx a ta fa) : DE X dx (.BoolOp op [a] pos) ta fa := ⟨pe_one h.pe, h.go⟩
theorem de_and (h : DE X dx a ta fa) (h2 : DE X dx (.BoolOp .And (b :: rest) pos) tb fb) : DE X dx (.BoolOp .And (a :: b :: rest) pos) (tAndV ta tb) (dAndV fa fb) := by
  refine ⟨pe_and h.pe h2.pe, fun σ H δ S Q Qh r0 s0 t k => ?_⟩
  refine h.go σ H δ S _ _ r0 s0 t fun v H1 d S1 r1 x1 d1 t1 => ?_
  obtain ⟨z, rfl, rfl, q⟩ := isB_run d1 t1
  refine ⟨z, rfl, ?_⟩
  cases z with
  | false =>
    rw [if_neg Bool.false_ne_true] at q ⊢
    exact k _ H1 _ S1 r1 x1 (.bl false) q
  | true =>
    rw [if_pos rfl] at q ⊢
    exact h2.go σ H1 δ S1 Q Qh r1 (s0.ext x1) q (k.on x1)
theorem de_or (h : DE X dx a ta fa) (h2 : DE X dx (.BoolOp .Or (b :: rest) pos) tb fb) : DE X dx (.BoolOp .Or (a :: b :: rest) pos) (tOrV ta tb) (dOrV fa fb) := by
  refine ⟨pe_or h.pe h2.pe, fun σ H δ S Q Qh r0 s0 t k => ?_⟩
  refine h.go σ H δ S _ _ r0 s0 t fun v H1 d S1 r1 x1 d1 t1 => ?_
  obtain ⟨z, rfl, rfl, q⟩ := isB_run d1 t1
  refine ⟨z, rfl, ?_⟩
  cases z with
  | true =>
    rw [if_pos rfl] at q ⊢
    exact k _ H1 _ S1 r1 x1 (.bl true) q
  | false =>
    rw [if_neg Bool.false_ne_true] at q ⊢
    exact h2.go σ H1 δ S1 Q Qh r1 (s0.ext x1) q (k.on x1)
theorem de_not (h : DE X dx a ta fa) : DE X dx (.UnaryOp .Not a pos) (tNotV ta) (dNotV fa) := by
  refine ⟨pe_not h.pe, fun σ H δ S Q Qh r0 s0 t k => ?_⟩
  refine h.go σ H δ S _ _ r0 s0 t fun v H1 d S1 r1 x1 d1 t1 => ?_
  obtain ⟨z, rfl, rfl, q⟩ := isB_run d1 t1
  exact ⟨z, rfl, k _ H1 _ S1 r1 x1 (.bl _) q⟩
def dIfE (c : DTT) (t u : DTE) : DTE := fun δ S Q => c δ S fun k S1 => if k = true then t δ S1 Q else u δ S1 Q
theorem de_if (hc : DT X dx c ua ga) (ha : DE X dx a ta fa) (hb : DE X dx b tb fb) : DE X dx (.IfExp c a b pos) (tIf ua ta tb) (dIfE ga fa fb) := by
  refine ⟨pe_ifExp hc.pe ha.pe hb.pe, fun σ H δ S Q Qh r0 s0 t k => ?_⟩
  refine hc.go σ H δ S _ _ r0 s0 t fun z H1 S1 r1 x1 q => ?_
  cases z with
  | true =>
    rw [if_pos rfl] at q ⊢
    exact ha.go σ H1 δ S1 Q Qh r1 (s0.ext x1) q (k.on x1)
  | false =>
    rw [if_neg Bool.false_ne_true] at q ⊢
    exact hb.go σ H1 δ S1 Q Qh r1 (s0.ext x1) q (k.on x1)

/-! ### unary operators -/
def dUn (f : D → Sto → (D → Sto → Prop) → Prop) (t : DTE) : DTE := fun δ S Q => t δ S fun d S1 => f d S1 Q
def UnD (K : PySem.W.Frag) (dx : Dx) (r : V → Hp → VK → Prop) (f : D → Sto → (D → Sto → Prop) → Prop) : Prop :=
  ∀ x p H S Q Qh, HR K dx H S → Dt K (Mu dx S) H x p → f p S Q → ThE K dx H S Q Qh → r x H Qh
theorem de_un {op : UnaryOp} {r} {f} (h : UnR X (unaryOp op) r) (o : UnD X.K dx r f) (ha : DE X dx a ta fa) : DE X dx (.UnaryOp op a pos) (tUn r ta) (dUn f fa) :=
  ⟨pe_un h ha.pe, fun σ H δ S Q Qh r0 s0 t k => ha.go σ H δ S _ _ r0 s0 t fun v H1 d S1 r1 x1 d1 t1 => o v d H1 S1 Q Qh r1 d1 t1 (k.on x1)⟩
def fNeg : D → Sto → (D → Sto → Prop) → Prop
  | .int i, S, Q => Q (.int (-i)) S
  | _, _, _ => False
theorem od_neg {K} : UnD K dx (rU fun i => .int (-i)) fNeg := by
  intro x p H S Q Qh r0 h t k
  cases h with
  | int i => exact ⟨i, rfl, k _ H _ S r0 Ext.refl (.int _) t⟩
  | _ => exact t.elim

/-! ### arguments, displays -/
def dNil : DTA := fun _ S Q => Q [] S
def dCons (t : DTE) (u : DTA) : DTA := fun δ S Q => t δ S fun d S1 => u δ S1 fun ds S2 => Q (d :: ds) S2
theorem da_nil : DA X dx [] tNil dNil := ⟨pa_nil, fun σ H δ S Q Qh r s t k => k [] H [] S r Ext.refl .nil t⟩
theorem cons_go {t : TE} {u : TA} {f : DTE} {g : DTA} (h1 : ∀ σ H δ S Q Qh, HR X.K dx H S → SR X.K dx σ H δ S → f δ S Q → ThE X.K dx H S Q Qh → t σ H Qh)
    (h2 : ∀ σ H δ S Q Qh, HR X.K dx H S → SR X.K dx σ H δ S → g δ S Q → ThA X.K dx H S Q Qh → u σ H Qh) :
    ∀ σ H δ S Q Qh, HR X.K dx H S → SR X.K dx σ H δ S → dCons f g δ S Q → ThA X.K dx H S Q Qh → tCons t u σ H Qh := by
  intro σ H δ S Q Qh r0 s0 t k
  refine h1 σ H δ S _ _ r0 s0 t fun v H1 d S1 r1 x1 d1 t1 => ?_
  refine h2 σ H1 δ S1 _ _ r1 (s0.ext x1) t1 fun vs H2 ds S2 r2 x2 d2 t2 => ?_
  exact k _ H2 _ S2 r2 (x1.trans x2) (.cons (d1.ext x2) d2) t2
theorem da_cons (ha : DE X dx e te fa) (hr : DA X dx es tr fr) (hs : starEach (e :: es) X.env = (false, eval e X.env) :: starEach es X.env := by rfl) : DA X dx (e :: es) (tCons te tr) (dCons fa fr) :=
  ⟨pa_cons ha.pe hr.pe hs, cons_go ha.go hr.go⟩
theorem dk_nil : DK X dx [] tNil dNil := ⟨pk_nil, fun σ H δ S Q Qh r s t k => k [] H [] S r Ext.refl .nil t⟩
theorem dk_cons {kws : List Keyword} {nm : Option Str} {kpos : Pos} (ha : DE X dx e te fa) (hr : DK X dx kws tr fr) : DK X dx (⟨nm, e, kpos⟩ :: kws) (tCons te tr) (dCons fa fr) :=
  ⟨pk_cons ha.pe hr.pe, cons_go ha.go hr.go⟩

/-- no more than fits into one object -/
def Fit (n : Nat) : Prop := n ≤ 16777216
theorem Fit.line {n : Nat} (h : Fit n) : n ≤ sizeLine := by rw [sizeLine_eq]; exact h
def dTup (t : DTA) : DTE := fun δ S Q => t δ S fun ds S1 => Fit ds.length ∧ Q (.tup ds) S1
def dLst (t : DTA) : DTE := fun δ S Q => t δ S fun ds S1 => Fit ds.length ∧ Q (.lst ds) S1
theorem new_tup {K : PySem.W.Frag} {H : Hp} {S : Sto} {p : Addr} {vs : List V} {ds : List D} (r : HR K dx H S) (n : H p = none) (a : DtAll K (Mu dx S) H vs ds) :
    HR K dx (upd H p (.tup vs)) S ∧ Ext (Mu dx S) H (Mu dx S) (upd H p (.tup vs)) ∧ Dt K (Mu dx S) (upd H p (.tup vs)) (.ref p) (.tup ds) :=
  ⟨r.same (same_new n), ext_new n, .tup (r.mu_ne n) (.inl upd_same) (a.ext (ext_new n))⟩
theorem new_lst {K : PySem.W.Frag} {H : Hp} {S : Sto} {p : Addr} {vs : List V} {ds : List D} (r : HR K dx H S) (n : H p = none) (a : DtAll K (Mu dx S) H vs ds) :
    HR K dx (upd H p (.lst vs)) S ∧ Ext (Mu dx S) H (Mu dx S) (upd H p (.lst vs)) ∧ Dt K (Mu dx S) (upd H p (.lst vs)) (.ref p) (.lst ds) :=
  ⟨r.same (same_new n), ext_new n, .lst (r.mu_ne n) upd_same (a.ext (ext_new n))⟩
theorem de_tup {x1} (h : DA X dx es tr fr) : DE X dx (.Tuple es x1 pos) (tTup tr) (dTup fr) := by
  refine ⟨pe_tup h.pe, fun σ H δ S Q Qh r0 s0 t k => ?_⟩
  refine h.go σ H δ S _ _ r0 s0 t fun vs H1 ds S1 r1 x1 d1 t1 => ⟨by rw [d1.length]; exact t1.1.line, fun p n => ?_⟩
  obtain ⟨r2, x2, d2⟩ := new_tup r1 n d1
  exact k _ _ _ S1 r2 (x1.trans x2) d2 t1.2
theorem de_lst (h : DA X dx es tr fr) : DE X dx (.List es pos) (tLst tr) (dLst fr) := by
  refine ⟨pe_lst h.pe, fun σ H δ S Q Qh r0 s0 t k => ?_⟩
  refine h.go σ H δ S _ _ r0 s0 t fun vs H1 ds S1 r1 x1 d1 t1 => ⟨by rw [d1.length]; exact t1.1.line, fun p n => ?_⟩
  obtain ⟨r2, x2, d2⟩ := new_lst r1 n d1
  exact k _ _ _ S1 r2 (x1.trans x2) d2 t1.2
/-- a list that will be changed -/
def dNew (t : DTA) : DTE := fun δ S Q => t δ S fun ds S1 => Fit ds.length ∧ ∀ p, Q (.adr p) ((p, .l ds) :: S1)
theorem de_new (h : DA X dx es tr fr) : DE X dx (.List es pos) (tLst tr) (dNew fr) := by
  refine ⟨pe_lst h.pe, fun σ H δ S Q Qh r0 s0 t k => ?_⟩
  refine h.go σ H δ S _ _ r0 s0 t fun vs H1 ds S1 r1 x1 d1 t1 => ⟨by rw [d1.length]; exact t1.1.line, fun p n => ?_⟩
  exact k _ _ _ _ (r1.grow n d1) (x1.trans (ext_own r1 n)) (.adr p) (t1.2 p)

/-! ### items, slices -/
theorem atI_all {K : PySem.W.Frag} {M : Mm} {H : Hp} {vs : List V} {ds : List D} {i : Int} {d : D} (h : DtAll K M H vs ds) (e : atI ds i = some d) : ∃ v, atI vs i = some v ∧ Dt K M H v d := by
  unfold atI at e ⊢
  rw [h.length]
  cases q : ixN ds.length i with
  | none => rw [q] at e; cases e
  | some j =>
    rw [q] at e
    exact h.get (i := j) e
theorem atI_map {α β : Type} {f : α → β} {xs : List α} {i : Int} {x : α} (e : atI xs i = some x) : atI (xs.map f) i = some (f x) := by
  unfold atI at e ⊢
  rw [List.length_map]
  cases q : ixN xs.length i with
  | none => rw [q] at e; cases e
  | some j =>
    rw [q] at e
    have e : xs[j]? = some x := e
    show (xs.map f)[j]? = some (f x)
    rw [List.getElem?_map, e]
    rfl
def fIx : F2
  | .tup ds, .int i, S, Q => opt (atI ds i) fun d => Q d S
  | .lst ds, .int i, S, Q => opt (atI ds i) fun d => Q d S
  | .fls ns, .int i, S, Q => opt (atI ns i) fun n => Q (.int n) S
  | .adr p, .int i, S, Q => opt (getS S p) fun ds => opt (atI ds i) fun d => Q d S
  | .str z, .int i, S, Q => z.length ≤ sizeLine ∧ opt (atI z.cps.toList i) fun c => Q (.str ⟨#[c]⟩) S
  | _, _, _, _ => False
theorem od_ix {K : PySem.W.Frag} : OpD K dx (rIx K) fIx := by
  intro x y p q H S Q Qh r0 hx hy t k
  cases hy with
  | int i =>
    cases hx with
    | tup n h a =>
      obtain ⟨d, e, t⟩ := opt_run t
      obtain ⟨v, e1, d1⟩ := atI_all a e
      exact .inr (.inl ⟨_, _, i, v, rfl, rfl, .inl h, e1, k _ H _ S r0 Ext.refl d1 t⟩)
    | ktup h a =>
      obtain ⟨d, e, t⟩ := opt_run t
      obtain ⟨v, e1, d1⟩ := atI_all a e
      exact .inr (.inl ⟨_, _, i, v, rfl, rfl, .inr h, e1, k _ H _ S r0 Ext.refl d1 t⟩)
    | lst n h a =>
      obtain ⟨d, e, t⟩ := opt_run t
      obtain ⟨v, e1, d1⟩ := atI_all a e
      exact .inl ⟨_, _, i, v, rfl, rfl, SqL.of h, e1, k _ H _ S r0 Ext.refl d1 t⟩
    | fls n h =>
      obtain ⟨d, e, t⟩ := opt_run t
      exact .inl ⟨_, _, i, _, rfl, rfl, .inl h, atI_map e, k _ H _ S r0 Ext.refl (.int d) t⟩
    | kfls h =>
      obtain ⟨d, e, t⟩ := opt_run t
      exact .inl ⟨_, _, i, _, rfl, rfl, .inr h, atI_map e, k _ H _ S r0 Ext.refl (.int d) t⟩
    | adr p =>
      obtain ⟨ds, g, t⟩ := opt_run t
      obtain ⟨d, e, t⟩ := opt_run t
      obtain ⟨_, vs, eH, al⟩ := r0.get g
      obtain ⟨v, e1, d1⟩ := atI_all al e
      exact .inl ⟨_, _, i, v, rfl, rfl, SqL.of eH, e1, k _ H _ S r0 Ext.refl d1 t⟩
    | str z =>
      obtain ⟨l, t⟩ := t
      obtain ⟨c, e, t⟩ := opt_run t
      exact .inr (.inr ⟨z, i, c, rfl, rfl, l, e, k _ H _ S r0 Ext.refl (.str _) t⟩)
    | _ => exact t.elim
  | _ => cases hx <;> exact t.elim
theorem de_ix (ha : DE X dx a ta fa) (hb : DE X dx b tb fb) (hs : PlainIx b := by exact fun _ _ => rfl) : DE X dx (.Subscript a b pos) (tOp (rIx X.K) ta tb) (dOp fIx fa fb) :=
  ⟨pe_ix ix_seq ha.pe hb.pe hs, op_go od_ix ha hb⟩

/-- the part from lo to hi -/
def cutD {α : Type} (xs : List α) (lo hi : Option Int) : List α := (xs.drop (HT.sIx xs.length 0 lo)).take (HT.sIx xs.length xs.length hi - HT.sIx xs.length 0 lo)
theorem cut_all {K : PySem.W.Frag} {M : Mm} {H : Hp} {vs : List V} {ds : List D} (lo hi : Option Int) (h : DtAll K M H vs ds) : DtAll K M H (cutV vs lo hi) (cutD ds lo hi) := by
  unfold cutV cutD
  rw [h.length]
  exact (h.drop _).take _
theorem cut_map {α β : Type} (f : α → β) (xs : List α) (lo hi : Option Int) : cutD (xs.map f) lo hi = (cutD xs lo hi).map f := by
  unfold cutD
  rw [List.length_map, List.map_take, List.map_drop]
theorem cut_whole {α : Type} {xs : List α} {lo hi : Option Int} (h : HT.sIx xs.length 0 lo = 0 ∧ HT.sIx xs.length xs.length hi = xs.length) : cutD xs lo hi = xs := by
  unfold cutD
  rw [h.1, h.2]
  simp
abbrev DTO := Sl → Sto → (Option Int → Sto → Prop) → Prop
structure DO (X : Cx) (dx : Dx) (e : Option Expr) (te : TO) (t : DTO) : Prop where
  pe : PO X e te
  go : ∀ σ H δ S Q Qh, HR X.K dx H S → SR X.K dx σ H δ S → t δ S Q → (∀ o H' S', HR X.K dx H' S' → Ext (Mu dx S) H (Mu dx S') H' → Q o S' → Qh o H') → te σ H Qh
def dNoPart : DTO := fun _ S Q => Q none S
def isI (Q : Int → Sto → Prop) : D → Sto → Prop
  | .int i, S => Q i S
  | _, _ => False
def dPart (t : DTE) : DTO := fun δ S Q => t δ S (isI fun i S1 => Q (some i) S1)
theorem do_none : DO X dx none tNoPart dNoPart := ⟨po_none, fun σ H δ S Q Qh r s t k => k none H S r Ext.refl t⟩
theorem do_some (h : DE X dx e te fa) : DO X dx (some e) (tPart te) (dPart fa) := by
  refine ⟨po_some h.pe, fun σ H δ S Q Qh r0 s0 t k => ?_⟩
  refine h.go σ H δ S _ _ r0 s0 t fun v H1 d S1 r1 x1 d1 t1 => ?_
  cases d1 with
  | int i => exact ⟨i, rfl, k _ H1 S1 r1 x1 t1⟩
  | _ => exact t1.elim
def fSl : D → Option Int → Option Int → Sto → (D → Sto → Prop) → Prop
  | .tup ds, lo, hi, S, Q => Q (.tup (cutD ds lo hi)) S
  | .lst ds, lo, hi, S, Q => Q (.lst (cutD ds lo hi)) S
  | .fls ns, lo, hi, S, Q => Q (.lst ((cutD ns lo hi).map D.int)) S
  | .adr p, lo, hi, S, Q => opt (getS S p) fun ds => Q (.lst (cutD ds lo hi)) S
  | _, _, _, _, _ => False
def rSl (K : PySem.W.Frag) : V → Option Int → Option Int → Hp → VK → Prop := fun x lo hi H Q => rSlL K x lo hi H Q ∨ rSlA K x lo hi H Q
theorem sl_go {K : PySem.W.Frag} : ∀ x p lo hi H S Q Qh, HR K dx H S → Dt K (Mu dx S) H x p → fSl p lo hi S Q → ThE K dx H S Q Qh → rSl K x lo hi H Qh := by
  intro x p lo hi H S Q Qh r0 h t k
  have tp : ∀ {a : Addr} {xs : List V} {ds : List D}, SqT K H a xs → DtAll K (Mu dx S) H xs ds → Dt K (Mu dx S) H (.ref a) (.tup ds) → Q (.tup (cutD ds lo hi)) S → rSl K (.ref a) lo hi H Qh := by
    intro a xs ds h al d t
    refine .inr ⟨a, xs, rfl, h, fun e => ?_, fun _ p n => ?_⟩
    · rw [al.length] at e
      rw [cut_whole e] at t
      exact k _ H _ S r0 Ext.refl d t
    · obtain ⟨r2, x2, d2⟩ := new_tup r0 n (cut_all lo hi al)
      exact k _ _ _ S r2 x2 d2 t
  have lp : ∀ {a : Addr} {xs : List V} {ds : List D}, SqL K H a xs → DtAll K (Mu dx S) H xs ds → Q (.lst (cutD ds lo hi)) S → rSl K (.ref a) lo hi H Qh := by
    intro a xs ds h al t
    refine .inl ⟨a, xs, rfl, h, fun p n => ?_⟩
    obtain ⟨r2, x2, d2⟩ := new_lst r0 n (cut_all lo hi al)
    exact k _ _ _ S r2 x2 d2 t
  cases h with
  | tup n h al => exact tp (.inl h) al (.tup n h al) t
  | ktup h al => exact tp (.inr h) al (.ktup h al) t
  | lst n h al => exact lp (SqL.of h) al t
  | fls n h => exact lp (.inl h) (DtAll.ints _) (by rw [cut_map]; exact t)
  | kfls h => exact lp (.inr h) (DtAll.ints _) (by rw [cut_map]; exact t)
  | adr p =>
    obtain ⟨ds, g, t⟩ := opt_run t
    obtain ⟨_, vs, eH, al⟩ := r0.get g
    exact lp (SqL.of eH) al t
  | _ => exact t.elim
def dSl (t : DTE) (l h : DTO) : DTE := fun δ S Q => t δ S fun d S1 => l δ S1 fun lo S2 => h δ S2 fun hi S3 => fSl d lo hi S3 Q
theorem de_slice {lo hi : Option Expr} {tl th : TO} {fl fh : DTO} {p2 : Pos} (he : DE X dx e te fa) (hl : DO X dx lo tl fl) (hu : DO X dx hi th fh) : DE X dx (.Subscript e (.Slice lo hi none p2) pos) (tSl (rSl X.K) te tl th) (dSl fa fl fh) := by
  refine ⟨pe_slice (sl_list.or sl_tupA) he.pe hl.pe hu.pe, fun σ H δ S Q Qh r0 s0 t k => ?_⟩
  refine he.go σ H δ S _ _ r0 s0 t fun v H1 d S1 r1 x1 d1 t1 => ?_
  refine hl.go σ H1 δ S1 _ _ r1 (s0.ext x1) t1 fun o H2 S2 r2 x2 t2 => ?_
  refine hu.go σ H2 δ S2 _ _ r2 (s0.ext (x1.trans x2)) t2 fun o' H3 S3 r3 x3 t3 => ?_
  exact sl_go v d o o' H3 S3 Q Qh r3 (d1.ext (x2.trans x3)) t3 (k.on ((x1.trans x2).trans x3))
/-- xs[::-1] of a list -/
def fRev : D → Sto → (D → Sto → Prop) → Prop
  | .lst ds, S, Q => Q (.lst ds.reverse) S
  | .adr p, S, Q => opt (getS S p) fun ds => Q (.lst ds.reverse) S
  | _, _, _ => False
theorem de_rev {k' : Nat} {p1 p2 p3 : Pos} (he : DE X dx e te fa) : DE X dx (.Subscript e (.Slice none none (some (.UnaryOp .USub (.Constant (.int 1) k' p1) p2)) p3) pos) (tRevL X.K te) (dUn fRev fa) := by
  refine ⟨pe_revL he.pe, fun σ H δ S Q Qh r0 s0 t k => ?_⟩
  refine he.go σ H δ S _ _ r0 s0 t fun v H1 d S1 r1 x1 d1 t1 => ?_
  have lp : ∀ {a : Addr} {xs : List V} {ds : List D}, SqL X.K H1 a xs → DtAll X.K (Mu dx S1) H1 xs ds → Q (.lst ds.reverse) S1 →
      ∃ (a' : Addr) (ys : List V), V.ref a = V.ref a' ∧ SqL X.K H1 a' ys ∧ ∀ p, H1 p = none → Qh (.ref p) (upd H1 p (.lst ys.reverse)) := by
    intro a xs ds h al t
    refine ⟨a, xs, rfl, h, fun p n => ?_⟩
    obtain ⟨r2, x2, d2⟩ := new_lst r1 n al.reverse
    exact k _ _ _ S1 r2 (x1.trans x2) d2 t
  cases d1 with
  | lst n h al => exact lp (SqL.of h) al t1
  | adr p =>
    obtain ⟨ds, g, t1⟩ := opt_run t1
    obtain ⟨_, vs, eH, al⟩ := r1.get g
    exact lp (SqL.of eH) al t1
  | _ => exact t1.elim
end
end DL
/-! Readings over data: targets, what is walked, statements, loops, comprehensions. -/
namespace DL
open PySem PySem.Spec L2 Gd

abbrev DTG := D → Sl → (Sl → Prop) → Prop
abbrev DTGs := List D → Sl → (Sl → Prop) → Prop
structure DG (X : Cx) (dx : Dx) (tg : Expr) (g : TG) (t : DTG) (own : List Nat) : Prop where
  pe : PG X tg g
  go : ∀ v d σ H δ S Q Qh, HR X.K dx H S → SR X.K dx σ H δ S → Dt X.K (Mu dx S) H v d → t d δ Q →
    (∀ σ' δ', SR X.K dx σ' H δ' S → σ'.length = σ.length → (∀ j, j ∉ own → σ'[j]? = σ[j]?) → Q δ' → Qh σ' H) → g v σ H Qh
structure DGs (X : Cx) (dx : Dx) (tg : List Expr) (g : TGs) (t : DTGs) (own : List Nat) : Prop where
  pe : PGs X tg g
  go : ∀ vs ds σ H δ S Q Qh, HR X.K dx H S → SR X.K dx σ H δ S → DtAll X.K (Mu dx S) H vs ds → t ds δ Q →
    (∀ σ' δ', SR X.K dx σ' H δ' S → σ'.length = σ.length → (∀ j, j ∉ own → σ'[j]? = σ[j]?) → Q δ' → Qh σ' H) → g vs σ H Qh
section
variable {X : Cx} {dx : Dx} {pos : Pos} {tg e : Expr} {es : List Expr} {te : TE} {fa : DTE}
def dgName (i : Nat) : DTG := fun d δ Q => Q (put δ i d)
theorem dg_name {i : Nat} {x : Str} (hN : X.N.Nodup) (hi : X.N[i]? = some x) (hx : Loc X.env.scope x) (hf : X.fn x = true ∨ X.env.scope.names.lookup x = some .local := by first | exact .inl rfl | exact .inr rfl | assumption) :
    DG X dx (.Name x pos) (gName i) (dgName i) [i] := by
  refine ⟨pg_name hN hi hx hf, fun v d σ H δ S Q Qh r s h t k => ?_⟩
  have t : Q (put δ i d) := t
  rw [put_set] at t
  refine k _ _ (s.set i h) (by rw [List.length_set]) (fun j hj => ?_) t
  rw [List.getElem?_set_ne (fun z => hj (by simp [z]))]
def dgNil : DTGs := fun ds δ Q => match ds with
  | [] => Q δ
  | _ :: _ => False
def dgCons (t : DTG) (u : DTGs) : DTGs := fun ds δ Q => match ds with
  | [] => False
  | d :: r => t d δ fun δ' => u r δ' Q
theorem dgs_nil : DGs X dx [] gNil dgNil [] := by
  refine ⟨pgs_nil, fun vs ds σ H δ S Q Qh r s h t k => ?_⟩
  cases h with
  | nil => exact ⟨rfl, k σ δ s rfl (fun _ _ => rfl) t⟩
  | cons _ _ => exact t.elim
theorem dgs_cons {g : TG} {u : TGs} {f : DTG} {w : DTGs} {o1 o2 : List Nat} (h1 : DG X dx e g f o1) (h2 : DGs X dx es u w o2) (hl : PGs X (e :: es) (gCons g u) := by exact pgs_cons (by assumption) (by assumption)) : DGs X dx (e :: es) (gCons g u) (dgCons f w) (o1 ++ o2) := by
  refine ⟨hl, fun vs ds σ H δ S Q Qh r s h t k => ?_⟩
  cases h with
  | nil => exact t.elim
  | cons a b =>
    refine ⟨_, _, rfl, ?_⟩
    refine h1.go _ _ σ H δ S _ _ r s a t fun σ1 δ1 s1 l1 o1' t1 => ?_
    refine h2.go _ _ σ1 H δ1 S _ _ r s1 b t1 fun σ2 δ2 s2 l2 o2' t2 => ?_
    refine k σ2 δ2 s2 (l2.trans l1) (fun j hj => ?_) t2
    rw [o2' j fun z => hj (List.mem_append_right _ z), o1' j fun z => hj (List.mem_append_left _ z)]
def dgTup (n : Nat) (t : DTGs) : DTG := fun d δ Q => match d with
  | .tup ds => ds.length = n ∧ t ds δ Q
  | _ => False
theorem dg_tup {k : Nat} {g : TGs} {f : DTGs} {n : Nat} {o : List Nat} (h : DGs X dx es g f o) (hp : PG X (.Tuple es k pos) (gTup X.K n g)) : DG X dx (.Tuple es k pos) (gTup X.K n g) (dgTup n f) o := by
  refine ⟨hp, fun v d σ H δ S Q Qh r s hd t kk => ?_⟩
  cases d with
  | tup ds =>
    obtain ⟨a, xs, rfl, hs, al⟩ := hd.sqT
    exact ⟨a, xs, rfl, hs, al.length.trans t.1, h.go _ _ σ H δ S _ _ r s al t.2 kk⟩
  | _ => exact t.elim
end

/-! ### what is walked -/
def Walks (K : PySem.W.Frag) (dx : Dx) (J : It) (xs : List D) (S0 : Sto) (H0 : Hp) : Prop :=
  ∃ G Y, Walk J xs.length G Y ∧ ∀ M H, (∀ b, Mm.mu M b → H b ≠ none) → ExtD (Mu dx S0) H0 M H → G H ∧
    ∀ i x H', i < xs.length → Y i H x H' → Same H H' ∧ ∃ d, xs[i]? = some d ∧ Dt K M H' x d
structure DI (X : Cx) (dx : Dx) (tg iter : Expr) (wi : TI) (t : DTA) : Prop where
  pe : PI X tg iter wi
  go : ∀ σ H δ S Q R, HR X.K dx H S → SR X.K dx σ H δ S → t δ S Q →
    (∀ J H' xs S', HR X.K dx H' S' → Ext (Mu dx S) H (Mu dx S') H' → Walks X.K dx J xs S' H' → Q xs S' → R J H') → wi σ H R
section
variable {X : Cx} {dx : Dx} {pos : Pos} {tg e e2 : Expr} {te : TE} {fa : DTE} {ta : TA} {ga : DTA}
def iSeq (K : PySem.W.Frag) (tl : TE) : TI := fun σ H R => tl σ H fun x H1 => ∃ a, x = .ref a ∧
  ((∃ xs, SqL K H1 a xs ∧ R (Itl K a) H1) ∨ (∃ xs, SqT K H1 a xs ∧ R (Itt K a) H1))
theorem pi_seq (hl : PE X e te) : PI X tg e (iSeq X.K te) := by
  constructor
  intro pins s σ H R I want
  apply thn (hl.run pins s σ H _ I want)
  rintro v s1 ⟨x, H1, I1, r1, a, rfl, alt⟩
  obtain rfl : v = .ref a := r1
  have fresh : FpOk X pins H1 s1.heap.objs.size := I1.fpOk (Nat.le_refl _) (I1.hok.fresh (Nat.le_refl _))
  rcases alt with ⟨xs, sq, q⟩ | ⟨xs, sq, q⟩
  · obtain ⟨its, _, pl, _⟩ := I1.list sq
    apply wpAny_pyIter_list pl.isList
    exact ⟨_, [s1.heap.objs.size], _, _, H1, rfl, I1.kept (fun b o h => Heap.get?_push_of_some _ h), turn_list a _,
      ⟨_, Heap.get?_push_size _ rfl, rfl, rfl⟩, fun b hb => by rw [List.mem_singleton.mp hb]; exact fresh, q⟩
  · obtain ⟨its, _, pt, _⟩ := I1.tuple sq
    apply wpAny_pyIter_tuple (show s1.heap.IsTuple a its.toArray from pt)
    exact ⟨_, [s1.heap.objs.size], _, _, H1, rfl, I1.kept (fun b o h => Heap.get?_push_of_some _ h), turn_tuple a _,
      ⟨_, Heap.get?_push_size _ rfl, rfl, rfl⟩, fun b hb => by rw [List.mem_singleton.mp hb]; exact fresh, q⟩
theorem walks_lst {K : PySem.W.Frag} {S : Sto} {H : Hp} {a : Addr} {vs : List V} {ds : List D} (al : DtAll K (Mu dx S) H vs ds)
    (st : ∀ M H', ExtD (Mu dx S) H M H' → SqL K H' a vs) : Walks K dx (Itl K a) ds S H := by
  refine ⟨_, _, al.length ▸ walk_list (K := K) (a := a) (xs := vs), fun S1 H1 r1 x1 => ⟨st _ _ x1, fun i x H2 hi y => ?_⟩⟩
  obtain ⟨rfl, y⟩ := y
  obtain ⟨d, e1, d1⟩ := (al.extD x1).getV y
  exact ⟨Same.refl _, d, e1, d1⟩
theorem walks_tup {K : PySem.W.Frag} {S : Sto} {H : Hp} {a : Addr} {vs : List V} {ds : List D} (al : DtAll K (Mu dx S) H vs ds)
    (st : ∀ M H', ExtD (Mu dx S) H M H' → SqT K H' a vs) : Walks K dx (Itt K a) ds S H := by
  refine ⟨_, _, al.length ▸ walk_tup (K := K) (a := a) (xs := vs), fun S1 H1 r1 x1 => ⟨st _ _ x1, fun i x H2 hi y => ?_⟩⟩
  obtain ⟨rfl, y⟩ := y
  obtain ⟨d, e1, d1⟩ := (al.extD x1).getV y
  exact ⟨Same.refl _, d, e1, d1⟩
/-- the items of a list or a tuple -/
def items (Q : List D → Sto → Prop) : D → Sto → Prop
  | .tup ds, S => Q ds S
  | .lst ds, S => Q ds S
  | .fls ns, S => Q (ns.map D.int) S
  | _, _ => False
def dSeq (t : DTE) : DTA := fun δ S Q => t δ S (items Q)
theorem di_seq (h : DE X dx e te fa) : DI X dx tg e (iSeq X.K te) (dSeq fa) := by
  refine ⟨pi_seq h.pe, fun σ H δ S Q R r0 s0 t k => ?_⟩
  refine h.go σ H δ S _ _ r0 s0 t fun v H1 d S1 r1 x1 d1 t1 => ?_
  cases d1 with
  | tup n hr al => exact ⟨_, rfl, .inr ⟨_, .inl hr, k _ H1 _ S1 r1 x1 (walks_tup al fun S' H' x => .inl (x.rd n hr)) t1⟩⟩
  | ktup hr al => exact ⟨_, rfl, .inr ⟨_, .inr hr, k _ H1 _ S1 r1 x1 (walks_tup al fun S' H' x => .inr hr) t1⟩⟩
  | lst n hr al => exact ⟨_, rfl, .inl ⟨_, SqL.of hr, k _ H1 _ S1 r1 x1 (walks_lst al fun S' H' x => SqL.of (x.keep _ _ n hr)) t1⟩⟩
  | fls n hr => exact ⟨_, rfl, .inl ⟨_, .inl hr, k _ H1 _ S1 r1 x1 (walks_lst (DtAll.ints _) fun S' H' x => .inl (x.rd n hr)) t1⟩⟩
  | kfls hr => exact ⟨_, rfl, .inl ⟨_, .inr hr, k _ H1 _ S1 r1 x1 (walks_lst (DtAll.ints _) fun S' H' x => .inr hr) t1⟩⟩
  | _ => exact t1.elim
/-- lo, lo + c, .., n of them -/
def rngD (lo c : Int) (n : Nat) : List D := (List.range n).map fun (i : Nat) => D.int (lo + (i : Int) * c)
theorem rngD_len {lo c : Int} {n : Nat} : (rngD lo c n).length = n := by
  unfold rngD
  rw [List.length_map, List.length_range]
theorem rngD_at {lo c : Int} {n i : Nat} (h : i < n) : (rngD lo c n)[i]? = some (.int (lo + (i : Int) * c)) := by
  unfold rngD
  rw [List.getElem?_map, List.getElem?_range h]
  rfl
theorem walks_rng {K : PySem.W.Frag} {S : Sto} {H : Hp} {lo : Int} {n : Nat} : Walks K dx (Itr lo n) (rngD lo 1 n) S H := by
  have w := walk_range (lo := lo) (n := n)
  refine ⟨_, _, by rw [rngD_len]; exact w, fun S1 H1 r1 x1 => ⟨trivial, fun i x H2 hi y => ?_⟩⟩
  obtain ⟨rfl, rfl⟩ := y
  rw [rngD_len] at hi
  exact ⟨Same.refl _, _, rngD_at hi, by rw [Int.mul_one]; exact .int _⟩
theorem walks_rngC {K : PySem.W.Frag} {S : Sto} {H : Hp} {lo c : Int} {n : Nat} : Walks K dx (Itc lo c n) (rngD lo c n) S H := by
  have w := walk_rangeC (lo := lo) (c := c) (n := n)
  refine ⟨_, _, by rw [rngD_len]; exact w, fun S1 H1 r1 x1 => ⟨trivial, fun i x H2 hi y => ?_⟩⟩
  obtain ⟨rfl, rfl⟩ := y
  rw [rngD_len] at hi
  exact ⟨Same.refl _, _, rngD_at hi, .int _⟩
/-- small enough for a range -/
def Rg (i : Int) : Prop := -(2 ^ 62) ≤ i ∧ i < 2 ^ 62
def fRng1 (Q : List D → Sto → Prop) : List D → Sto → Prop
  | [.int j], S => Rg j ∧ Q (rngD 0 1 j.toNat) S
  | _, _ => False
def dRng1 (t : DTA) : DTA := fun δ S Q => t δ S (fRng1 Q)
theorem di_range1 {a : Expr} {p : Pos} (hg : Gl X "range") (hm : X.mg "range" = none) (ha : DA X dx [a] ta ga) (hs : starEach [a] X.env = [(false, eval a X.env)] := by rfl) :
    DI X dx tg (.Call (.Name "range" p) [a] [] pos) (iRng1 ta) (dRng1 ga) := by
  refine ⟨pi_range1 hg hm ha.pe hs, fun σ H δ S Q R r0 s0 t k => ?_⟩
  refine ha.go σ H δ S _ _ r0 s0 t fun vs H1 ds S1 r1 x1 d1 t1 => ?_
  cases d1 with
  | nil => exact t1.elim
  | cons h1 h2 =>
    cases h1 with
    | int j =>
      cases h2 with
      | nil => exact ⟨j, rfl, t1.1.1, t1.1.2, k _ H1 _ S1 r1 x1 walks_rng t1.2⟩
      | cons _ _ => exact t1.elim
    | _ => exact t1.elim
def fRng2 (Q : List D → Sto → Prop) : List D → Sto → Prop
  | [.int i, .int j], S => Rg i ∧ Rg j ∧ Q (rngD i 1 (j - i).toNat) S
  | _, _ => False
def dRng2 (t : DTA) : DTA := fun δ S Q => t δ S (fRng2 Q)
theorem di_range2 {a b : Expr} {p : Pos} (hg : Gl X "range") (hm : X.mg "range" = none) (ha : DA X dx [a, b] ta ga) (hs : starEach [a, b] X.env = [(false, eval a X.env), (false, eval b X.env)] := by rfl) (hs2 : starEach [b] X.env = [(false, eval b X.env)] := by rfl) :
    DI X dx tg (.Call (.Name "range" p) [a, b] [] pos) (iRng2 ta) (dRng2 ga) := by
  refine ⟨pi_range2 hg hm ha.pe hs hs2, fun σ H δ S Q R r0 s0 t k => ?_⟩
  refine ha.go σ H δ S _ _ r0 s0 t fun vs H1 ds S1 r1 x1 d1 t1 => ?_
  cases d1 with
  | nil => exact t1.elim
  | cons h1 h2 =>
    cases h1 with
    | int i =>
      cases h2 with
      | nil => exact t1.elim
      | cons h3 h4 =>
        cases h3 with
        | int j =>
          cases h4 with
          | nil => exact ⟨i, j, rfl, ⟨t1.1.1, t1.1.2, t1.2.1.1, t1.2.1.2⟩, k _ H1 _ S1 r1 x1 walks_rng t1.2.2⟩
          | cons _ _ => exact t1.elim
        | _ => exact t1.elim
    | _ => exact t1.elim
/-- range(i, j, -1) -/
def fRng3 (Q : List D → Sto → Prop) : List D → Sto → Prop
  | [.int i, .int j, .int c], S => c = -1 ∧ Rg i ∧ Rg j ∧ Q (rngD i (-1) (i - j).toNat) S
  | _, _ => False
def dRng3 (t : DTA) : DTA := fun δ S Q => t δ S (fRng3 Q)
theorem di_range3 {a b c : Expr} {p : Pos} (h : PI X tg (.Call (.Name "range" p) [a, b, c] [] pos) (iRng3 ta)) (ha : DA X dx [a, b, c] ta ga) :
    DI X dx tg (.Call (.Name "range" p) [a, b, c] [] pos) (iRng3 ta) (dRng3 ga) := by
  refine ⟨h, fun σ H δ S Q R r0 s0 t k => ?_⟩
  refine ha.go σ H δ S _ _ r0 s0 t fun vs H1 ds S1 r1 x1 d1 t1 => ?_
  match vs, ds, d1, t1 with
  | _, [.int i, .int j, .int c], .cons (.int _) (.cons (.int _) (.cons (.int _) .nil)), t1 =>
    obtain ⟨rfl, h1, h2, t2⟩ := t1
    exact ⟨i, j, -1, _, rfl, RgC.neg h1.1 h1.2 h2.1 h2.2, k _ H1 _ S1 r1 x1 walks_rngC t2⟩
end
end DL
/-! Readings over data: statements, loops, comprehensions, calls, a def by its body. -/
namespace DL
open PySem PySem.Spec L2 Gd

section
variable {X : Cx} {dx : Dx} {pos : Pos} {tg e : Expr} {es : List Expr} {te : TE} {fa : DTE} {st : Stmt} {sts : List Stmt} {ts us : TS} {t u : DTS} {uc : TT} {gc : DTT}

/-! ### statements -/
def dNext : DTS := fun DD δ S => DD.nx δ S
def dSeqS (t u : DTS) : DTS := fun DD δ S => t { DD with nx := u DD } δ S
theorem dss_nil : DSs X dx [] tNext dNext := ⟨pss_nil, fun σ H δ S DD E r s h k => k.nx σ H δ S r Ext.refl s h⟩
theorem dss_one (h : DS X dx st ts t) : DSs X dx [st] ts t := ⟨pss_one h.pe, h.go⟩
theorem dss_cons (h : DS X dx st ts t) (h2 : DSs X dx sts us u) : DSs X dx (st :: sts) (tSeq ts us) (dSeqS t u) := by
  refine ⟨pss_cons h.pe h2.pe, fun σ H δ S DD E r s q k => ?_⟩
  refine h.go σ H δ S { DD with nx := u DD } _ r s q ⟨fun σ1 H1 δ1 S1 r1 x1 s1 q1 => ?_, k.bk, k.ct, k.rt⟩
  exact h2.go σ1 H1 δ1 S1 DD E r1 s1 q1 (k.on x1)
/-- the list in slot i is not changed any more -/
def dFrz (i : Nat) (t : DTS) : DTS := fun DD δ S => match gt δ i with
  | some (.adr p) => opt (getS S p) fun ds => t DD (put δ i (.lst ds)) (delS S p)
  | _ => t DD δ S
theorem dss_frz (i : Nat) (h : DSs X dx sts ts t) : DSs X dx sts ts (dFrz i t) := by
  refine ⟨h.pe, fun σ H δ S DD E r s q k => ?_⟩
  unfold dFrz at q
  split at q
  · rename_i p g
    obtain ⟨ds, eg, q⟩ := opt_run q
    obtain ⟨v, e1, d1⟩ := s.ix i _ (gt_ix g)
    cases d1
    rw [put_set] at q
    have r2 := r.del p
    have s2 := (s.ext (ext_del (p := p))).set i (r.frozen eg)
    have e2 : σ.set i (some (.ref p)) = σ := by
      apply List.ext_getElem?
      intro j
      by_cases hj : i = j
      · subst hj
        rw [List.getElem?_set_self (List.getElem?_eq_some_iff.mp e1).1, e1]
      · rw [List.getElem?_set_ne hj]
    rw [e2] at s2
    exact h.go σ H _ _ DD E r2 s2 q (k.on ext_del)
  · exact h.go σ H δ S DD E r s q k
theorem ds_pass : DS X dx (.Pass pos) tNext dNext := ⟨ps_pass, fun σ H δ S DD E r s h k => k.nx σ H δ S r Ext.refl s h⟩
def dBreak : DTS := fun DD δ S => DD.bk δ S
def dCont : DTS := fun DD δ S => DD.ct δ S
theorem ds_break : DS X dx (.Break pos) tBreak dBreak := ⟨ps_break, fun σ H δ S DD E r s h k => k.bk σ H δ S r Ext.refl s h⟩
theorem ds_continue : DS X dx (.Continue pos) tCont dCont := ⟨ps_continue, fun σ H δ S DD E r s h k => k.ct σ H δ S r Ext.refl s h⟩
def dDrop (f : DTE) : DTS := fun DD δ S => f δ S fun _ S1 => DD.nx δ S1
theorem ds_expr (h : DE X dx e te fa) (hs : swapsWith e none pos.line X.env = pure false := by rfl) : DS X dx (.Expr e pos) (tDrop te) (dDrop fa) :=
  ⟨ps_expr h.pe hs, fun σ H δ S DD E r s q k => h.go σ H δ S _ _ r s q fun v H1 d S1 r1 x1 d1 t1 => k.nx σ H1 δ S1 r1 x1 (s.ext x1) t1⟩
/-- what is handed back: a list of one's own is not changed any more -/
def frzO (p : Addr) : Option (List D) → D
  | some ds => .lst ds
  | none => .adr p
def frz (S : Sto) : D → D
  | .adr p => frzO p (getS S p)
  | d => d
theorem frz_ok {K : PySem.W.Frag} {H : Hp} {S : Sto} {v : V} {d : D} (r : HR K dx H S) (h : Dt K (Mu dx S) H v d) : Dt K (Fo dx.M0) H v (frz S d) := by
  have le : Ext (Mu dx S) H (Fo dx.M0) H := Ext.less (fun b m => m.elim .inl False.elim) (fun b m => m.elim)
  cases h with
  | adr p =>
    show Dt K (Fo dx.M0) H (.ref p) (frzO p (getS S p))
    cases g : getS S p with
    | none => exact .adr p
    | some ds =>
      obtain ⟨m, vs, e, al⟩ := r.get g
      exact .lst (fun z => z.elim (r.own_not m) False.elim) e (al.ext le)
  | non => exact .non
  | bl k => exact .bl k
  | int i => exact .int i
  | str x => exact .str x
  | tup n h a => exact Dt.ext le (.tup n h a)
  | ktup h a => exact Dt.ext le (.ktup h a)
  | lst n h a => exact Dt.ext le (.lst n h a)
  | fls n h => exact Dt.ext le (.fls n h)
  | kfls h => exact Dt.ext le (.kfls h)
  | dic n h k a => exact Dt.ext le (.dic n h k a)
  | obj n h c k a => exact Dt.ext le (.obj n h c k a)
def dRet (f : DTE) : DTS := fun DD δ S => f δ S fun d S1 => DD.rt (frz S1 d) S1
theorem ds_ret (h : DE X dx e te fa) : DS X dx (.Return (some e) pos) (tRet te) (dRet fa) :=
  ⟨ps_ret h.pe, fun σ H δ S DD E r s q k => h.go σ H δ S _ _ r s q fun v H1 d S1 r1 x1 d1 t1 => k.rt v H1 _ S1 r1 x1 (frz_ok r1 d1) t1⟩
def dRetN : DTS := fun DD _ S => DD.rt .non S
theorem ds_retN : DS X dx (.Return none pos) tRetN dRetN := ⟨ps_retN, fun σ H δ S DD E r s q k => k.rt .non H .non S r Ext.refl .non q⟩
def dIfS (c : DTT) (t u : DTS) : DTS := fun DD δ S => c δ S fun b S1 => if b = true then t DD δ S1 else u DD δ S1
theorem ds_if {c : Expr} {p q : List Stmt} (hc : DT X dx c uc gc) (ha : DSs X dx p ts t) (hb : DSs X dx q us u) : DS X dx (.If c p q pos) (tIfS uc ts us) (dIfS gc t u) := by
  refine ⟨ps_if hc.pe ha.pe hb.pe, fun σ H δ S DD E r s w k => ?_⟩
  refine hc.go σ H δ S _ _ r s w fun b H1 S1 r1 x1 w1 => ?_
  cases b with
  | true =>
    rw [if_pos rfl] at w1 ⊢
    exact ha.go σ H1 δ S1 DD E r1 (s.ext x1) w1 (k.on x1)
  | false =>
    rw [if_neg Bool.false_ne_true] at w1 ⊢
    exact hb.go σ H1 δ S1 DD E r1 (s.ext x1) w1 (k.on x1)
def dAsg (f : DTE) (g : DTG) : DTS := fun DD δ S => f δ S fun d S1 => g d δ fun δ1 => DD.nx δ1 S1
theorem asg_go {g : TG} {f : DTG} {o : List Nat} (h : DE X dx e te fa) (hg : DG X dx tg g f o) :
    ∀ σ H δ S DD E, HR X.K dx H S → SR X.K dx σ H δ S → dAsg fa f DD δ S → ThS X.K dx H S DD E → tAsg te g E σ H := by
  intro σ H δ S DD E r s q k
  refine h.go σ H δ S _ _ r s q fun v H1 d S1 r1 x1 d1 t1 => ?_
  exact hg.go v d σ H1 δ S1 _ _ r1 (s.ext x1) d1 t1 fun σ2 δ2 s2 _ _ t2 => k.nx σ2 H1 δ2 S1 r1 x1 s2 t2
theorem ds_asg {g : TG} {f : DTG} {o : List Nat} (h : DE X dx e te fa) (hg : DG X dx tg g f o) (hp : PS X st (tAsg te g)) : DS X dx st (tAsg te g) (dAsg fa f) :=
  ⟨hp, asg_go h hg⟩
def dSet (i : Nat) (f : DTE) : DTS := fun DD δ S => f δ S fun d S1 => DD.nx (put δ i d) S1
theorem set_go {i : Nat} (h : ∀ σ H δ S Q Qh, HR X.K dx H S → SR X.K dx σ H δ S → fa δ S Q → ThE X.K dx H S Q Qh → te σ H Qh) :
    ∀ σ H δ S DD E, HR X.K dx H S → SR X.K dx σ H δ S → dSet i fa DD δ S → ThS X.K dx H S DD E → tAsg te (gName i) E σ H := by
  intro σ H δ S DD E r s q k
  refine h σ H δ S _ _ r s q fun v H1 d S1 r1 x1 d1 t1 => ?_
  have t1 : DD.nx (put δ i d) S1 := t1
  rw [put_set] at t1
  exact k.nx _ H1 _ S1 r1 x1 ((s.ext x1).set i d1) t1
theorem ds_set {i : Nat} {x : Str} {pos' : Pos} (hN : X.N.Nodup) (hi : X.N[i]? = some x) (hx : Loc X.env.scope x) (h : DE X dx e te fa) (hs : swapsWith e (some (.Name x pos')) pos.line X.env = pure false := by rfl)
    (hf : X.fn x = true ∨ X.env.scope.names.lookup x = some .local := by first | exact .inl rfl | exact .inr rfl | assumption) : DS X dx (.Assign [.Name x pos'] e pos) (tAsg te (gName i)) (dSet i fa) :=
  ⟨ps_set hN hi hx h.pe hs hf, set_go h.go⟩
/-- a, b = e1, e2 -/
def dPar (is : List Nat) (f : DTA) : DTS := fun DD δ S => f δ S fun ds S1 => ds.length = is.length ∧ DD.nx ((is.zip ds).foldl (fun δ p => put δ p.1 p.2) δ) S1
theorem ds_par {i j : Nat} {ta : TA} {fa : DTA} (h : DA X dx es ta fa) (hp : PS X st (tPar i j ta)) : DS X dx st (tPar i j ta) (dPar [i, j] fa) := by
  refine ⟨hp, fun σ H δ S DD E r s q k => ?_⟩
  refine h.go σ H δ S _ _ r s q fun vs H1 ds S1 r1 x1 d1 t1 => ?_
  match vs, ds, d1, t1 with
  | [v, w], [d, c], .cons h1 (.cons h2 .nil), t1 =>
    refine ⟨v, w, rfl, ?_⟩
    have t2 : DD.nx (put (put δ i d) j c) S1 := t1.2
    rw [put_set, put_set] at t2
    exact k.nx _ H1 _ S1 r1 x1 (((s.ext x1).set i h1).set j h2) t2
  | [], [], _, t1 => exact absurd t1.1 (by simp)
  | [_], [_], _, t1 => exact absurd t1.1 (by simp)
  | _ :: _ :: _ :: _, _ :: _ :: _ :: _, _, t1 => exact absurd t1.1 (by simp)
theorem ds_par3 {i j l : Nat} {ta : TA} {fa : DTA} (h : DA X dx es ta fa) (hp : PS X st (tPar3 i j l ta)) : DS X dx st (tPar3 i j l ta) (dPar [i, j, l] fa) := by
  refine ⟨hp, fun σ H δ S DD E r s q k => ?_⟩
  refine h.go σ H δ S _ _ r s q fun vs H1 ds S1 r1 x1 d1 t1 => ?_
  match vs, ds, d1, t1 with
  | [v, w, z], [d, c, b], .cons h1 (.cons h2 (.cons h3 .nil)), t1 =>
    refine ⟨v, w, z, rfl, ?_⟩
    have t2 : DD.nx (put (put (put δ i d) j c) l b) S1 := t1.2
    rw [put_set, put_set, put_set] at t2
    exact k.nx _ H1 _ S1 r1 x1 ((((s.ext x1).set i h1).set j h2).set l h3) t2
  | [], [], _, t1 => exact absurd t1.1 (by simp)
  | [_], [_], _, t1 => exact absurd t1.1 (by simp)
  | [_, _], [_, _], _, t1 => exact absurd t1.1 (by simp)
  | _ :: _ :: _ :: _ :: _, _ :: _ :: _ :: _ :: _, _, t1 => exact absurd t1.1 (by simp)
/-- x op= e of a name -/
def dAug (i : Nat) (f : F2) (fa : DTE) : DTS := fun DD δ S => match gt δ i with
  | some p => fa δ S fun q S1 => f p q S1 fun d S2 => DD.nx (put δ i d) S2
  | none => False
theorem ds_aug {i : Nat} {ti : TIp} {f : F2} (hp : PS X st (tAug i te ti)) (h : DE X dx e te fa) (o : OpD X.K dx ti f) : DS X dx st (tAug i te ti) (dAug i f fa) := by
  refine ⟨hp, fun σ H δ S DD E r s q k => ?_⟩
  unfold dAug at q
  cases g : gt δ i with
  | none => rw [g] at q; exact q.elim
  | some p =>
    rw [g] at q
    obtain ⟨x, e1, dp⟩ := s.ix i p (gt_ix g)
    refine ⟨x, e1, ?_⟩
    refine h.go σ H δ S _ _ r s q fun y H1 d S1 r1 x1 d1 t1 => ?_
    refine o x y p d H1 S1 _ _ r1 (dp.ext x1) d1 t1 fun z H2 c S2 r2 x2 d2 t2 => ?_
    have t2 : DD.nx (put δ i c) S2 := t2
    rw [put_set] at t2
    exact k.nx _ H2 _ S2 r2 (x1.trans x2) ((s.ext (x1.trans x2)).set i d2) t2

/-! ### loops -/
def forGo (g : DTG) (tb : DTS) (DD : DEnds) : List D → Sl → Sto → Prop
  | [], δ, S => DD.nx δ S
  | x :: xs, δ, S => g x δ fun δ1 => tb { DD with nx := forGo g tb DD xs, ct := forGo g tb DD xs, bk := DD.nx } δ1 S
def dFor (ti : DTA) (g : DTG) (tb : DTS) : DTS := fun DD δ S => ti δ S fun xs S1 => forGo g tb DD xs δ S1
theorem ds_for {iter : Expr} {wi : TI} {fi : DTA} {g : TG} {f : DTG} {o : List Nat} (hp : PassesOwn (model X.prog X.w) X.A X.env X.xe) (hc : X.calm = true) (hi : DI X dx tg iter wi fi) (hg : DG X dx tg g f o) (hb : DSs X dx sts ts t)
    (hs : ∀ x, foldedSetIterable iter X.env x = pure x := by intro _; rfl) : DS X dx (.For tg iter sts [] pos) (tFor wi g ts) (dFor fi f t) := by
  refine ⟨ps_for hp hc hi.pe hg.pe hb.pe hs, fun σ H δ S DD E r s q k => ?_⟩
  refine hi.go σ H δ S _ _ r s q fun J H0 xs S0 r0 x0 wk q0 => ?_
  obtain ⟨G, Y, wl, all⟩ := wk
  refine for_it wl (fun i σ' H' => ∃ δ' S', HR X.K dx H' S' ∧ SR X.K dx σ' H' δ' S' ∧ Ext (Mu dx S0) H0 (Mu dx S') H' ∧ forGo f t DD (xs.drop i) δ' S')
    ⟨δ, S0, r0, s.ext x0, Ext.refl, q0⟩ ?_ ?_ ?_
  · rintro i σ' H' _ ⟨δ', S', r', s', x', _⟩
    exact (all _ H' r'.mu_live x'.d).1
  · rintro i v σ' H1 H2 hi ⟨δ', S', r', s', x', q'⟩ y
    obtain ⟨sm, d, ed, dd⟩ := (all _ H1 r'.mu_live x'.d).2 i v H2 hi y
    have e1 : xs.drop i = d :: xs.drop (i + 1) := by
      rw [List.drop_eq_getElem_cons hi]
      have := List.getElem?_eq_getElem hi
      rw [this] at ed
      cases ed
      rfl
    rw [e1] at q'
    have xs2 : Ext (Mu dx S') H1 (Mu dx S') H2 := Ext.same sm
    refine hg.go v d σ' H2 δ' S' _ _ (r'.same sm) (s'.ext xs2) dd q' fun σ3 δ3 s3 _ _ q3 => ?_
    refine hb.go σ3 H2 δ3 S' _ _ (r'.same sm) s3 q3 ⟨?_, ?_, ?_, ?_⟩
    · intro σ4 H4 δ4 S4 r4 x4 s4 q4
      exact ⟨δ4, S4, r4, s4, (x'.trans xs2).trans x4, q4⟩
    · intro σ4 H4 δ4 S4 r4 x4 s4 q4
      exact k.nx σ4 H4 δ4 S4 r4 (((x0.trans x').trans xs2).trans x4) s4 q4
    · intro σ4 H4 δ4 S4 r4 x4 s4 q4
      exact ⟨δ4, S4, r4, s4, (x'.trans xs2).trans x4, q4⟩
    · intro v4 H4 d4 S4 r4 x4 h4 q4
      exact k.rt v4 H4 d4 S4 r4 (((x0.trans x').trans xs2).trans x4) h4 q4
  · rintro σ' H' ⟨δ', S', r', s', x', q'⟩
    rw [List.drop_length] at q'
    exact k.nx σ' H' δ' S' r' (x0.trans x') s' q'
def dWhile (c : DTT) (tb : DTS) : DTS := fun DD δ S => ∃ W : Nat → Sl → Sto → Prop, (∃ m, W m δ S) ∧ ∀ m δ S, W m δ S →
  c δ S fun b S1 => if b = true then tb { DD with nx := fun δ' S' => ∃ m', m' < m ∧ W m' δ' S', ct := fun δ' S' => ∃ m', m' < m ∧ W m' δ' S', bk := DD.nx } δ S1 else DD.nx δ S1
theorem ds_while {c : Expr} (hp : PassesOwn (model X.prog X.w) X.A X.env X.xe) (hc : DT X dx c uc gc) (hb : DSs X dx sts ts t) : DS X dx (.While c sts [] pos) (tWhile uc ts) (dWhile gc t) := by
  refine ⟨ps_while hp hc.pe hb.pe, fun σ H δ S DD E r s q k => ?_⟩
  obtain ⟨W, ⟨m0, w0⟩, turn⟩ := q
  refine ⟨fun m σ' H' => ∃ δ' S', HR X.K dx H' S' ∧ SR X.K dx σ' H' δ' S' ∧ Ext (Mu dx S) H (Mu dx S') H' ∧ W m δ' S', ⟨m0, δ, S, r, s, Ext.refl, w0⟩, ?_⟩
  rintro m σ' H' ⟨δ', S', r', s', x', w'⟩
  refine hc.go σ' H' δ' S' _ _ r' s' (turn m δ' S' w') fun b H1 S1 r1 x1 q1 => ?_
  cases b with
  | false =>
    rw [if_neg Bool.false_ne_true] at q1
    exact k.nx σ' H1 δ' S1 r1 (x'.trans x1) (s'.ext x1) q1
  | true =>
    rw [if_pos rfl] at q1
    refine ⟨fun σ2 H2 => ∃ m' δ2 S2, m' < m ∧ HR X.K dx H2 S2 ∧ SR X.K dx σ2 H2 δ2 S2 ∧ Ext (Mu dx S) H (Mu dx S2) H2 ∧ W m' δ2 S2, ?_, ?_⟩
    · rintro σ2 H2 ⟨m', δ2, S2, lt, a, b, c, d⟩
      exact ⟨m', lt, δ2, S2, a, b, c, d⟩
    · refine hb.go σ' H1 δ' S1 _ _ r1 (s'.ext x1) q1 ⟨?_, ?_, ?_, ?_⟩
      · rintro σ4 H4 δ4 S4 r4 x4 s4 ⟨m', lt, w4⟩
        exact ⟨m', δ4, S4, lt, r4, s4, (x'.trans x1).trans x4, w4⟩
      · intro σ4 H4 δ4 S4 r4 x4 s4 q4
        exact k.nx σ4 H4 δ4 S4 r4 ((x'.trans x1).trans x4) s4 q4
      · rintro σ4 H4 δ4 S4 r4 x4 s4 ⟨m', lt, w4⟩
        exact ⟨m', δ4, S4, lt, r4, s4, (x'.trans x1).trans x4, w4⟩
      · intro v4 H4 d4 S4 r4 x4 h4 q4
        exact k.rt v4 H4 d4 S4 r4 ((x'.trans x1).trans x4) h4 q4
end
end DL
/-! Readings over data: comprehensions, calls, a def by its body. -/
namespace DL
open PySem PySem.Spec L2 Gd

/-! ### slots forgotten -/
def clr : Sl → Nat → Sl
  | [], _ => []
  | _ :: r, 0 => none :: r
  | a :: r, n + 1 => a :: clr r n
theorem clr_set : ∀ {δ : Sl} {i : Nat}, clr δ i = δ.set i none
  | [], _ => rfl
  | _ :: _, 0 => rfl
  | a :: r, n + 1 => by
    show a :: clr r n = a :: r.set n none
    rw [clr_set]
def wipeD (δ : Sl) : List Nat → Sl
  | [] => δ
  | v :: vs => clr (wipeD δ vs) v
theorem wipeD_length (δ : Sl) : ∀ vs : List Nat, (wipeD δ vs).length = δ.length
  | [] => rfl
  | v :: vs => by
    unfold wipeD
    rw [clr_set, List.length_set, wipeD_length δ vs]
theorem wipeD_some {δ : Sl} {i : Nat} {d : D} : ∀ {vs : List Nat}, (wipeD δ vs)[i]? = some (some d) → δ[i]? = some (some d) ∧ i ∉ vs
  | [], h => ⟨h, by simp⟩
  | v :: vs, h => by
    unfold wipeD at h
    rw [clr_set] at h
    by_cases hi : v = i
    · subst hi
      by_cases hv : v < (wipeD δ vs).length
      · rw [List.getElem?_set_self hv] at h
        cases h
      · rw [List.getElem?_eq_none (by simpa using hv)] at h
        cases h
    · rw [List.getElem?_set_ne hi] at h
      obtain ⟨a, b⟩ := wipeD_some h
      exact ⟨a, by simp only [List.mem_cons, not_or]; exact ⟨fun e => hi e.symm, b⟩⟩
theorem wipe_in {σ : L2.St} {i : Nat} : ∀ {vs : List Nat}, i ∈ vs → (wipe σ vs)[i]? = if i < σ.length then some none else none
  | v :: vs, h => by
    unfold wipe
    by_cases hi : v = i
    · subst hi
      by_cases hv : v < σ.length
      · rw [List.getElem?_set_self (by rw [wipe_length]; exact hv), if_pos hv]
      · rw [if_neg hv, List.getElem?_eq_none (by rw [List.length_set, wipe_length]; omega)]
    · rw [List.getElem?_set_ne hi]
      exact wipe_in ((List.mem_cons.mp h).resolve_left fun e => hi e.symm)
theorem wipe_wipe {σ σ2 : L2.St} {vs o : List Nat} (l : σ2.length = (wipe σ vs).length) (sub : ∀ j ∈ o, j ∈ vs) (same : ∀ j, j ∉ o → σ2[j]? = (wipe σ vs)[j]?) : wipe σ2 vs = wipe σ vs := by
  apply List.ext_getElem?
  intro j
  by_cases h : j ∈ vs
  · rw [wipe_in h, wipe_in h, l, wipe_length]
  · rw [wipe_out h, same j fun z => h (sub j z)]
theorem SR.wipe {K : PySem.W.Frag} {dx : Dx} {σ : L2.St} {H : Hp} {δ : Sl} {S : Sto} (s : SR K dx σ H δ S) (vs : List Nat) : SR K dx (L2.wipe σ vs) H (wipeD δ vs) S := by
  refine ⟨by rw [wipeD_length, wipe_length]; exact s.len, fun i d h => ?_⟩
  obtain ⟨h1, h2⟩ := wipeD_some h
  obtain ⟨v, e1, e2⟩ := s.ix i d h1
  exact ⟨v, by rw [wipe_out h2]; exact e1, e2⟩

/-- a frame in which p may change elsewhere, too -/
def Dx.and (dx : Dx) (p : Addr) : Dx := { dx with M0 := fun b => dx.M0 b ∨ b = p }
section
variable {K : PySem.W.Frag} {dx : Dx} {H H' : Hp} {S S' : Sto} {σ : L2.St} {δ : Sl} {p : Addr}
theorem mu_and {b : Addr} : (Mu (dx.and p) S).mu b ↔ (Mu dx S).mu b ∨ b = p := by
  constructor
  · rintro ((h | h) | h)
    · exact .inl (.inl h)
    · exact .inr h
    · exact .inl (.inr h)
  · rintro ((h | h) | h)
    · exact .inl (.inl h)
    · exact .inr h
    · exact .inl (.inr h)
theorem ext_and {o : HO} (n : H p = none) : Ext (Mu dx S) H (Mu (dx.and p) S) (upd H p o) := by
  refine ⟨fun b u _ e => by rw [upd_ne (ne_of_none e n)]; exact e, fun b m z => ?_, fun b m z => absurd m z⟩
  rcases mu_and.mp m with m | m
  · exact absurd m z
  · rw [m]; exact n
theorem ext_back : Ext (Mu (dx.and p) S) H (Mu dx S) H := Ext.less (fun b m => mu_and.mpr (.inl m)) (fun b m => m)
theorem HR.andO (r : HR K dx H S) (n : H p = none) (ob : HO) : HR K (dx.and p) (upd H p ob) S := by
  have x := ext_and (dx := dx) (S := S) (o := ob) n
  have q := r.same (same_new (o := ob) n)
  refine ⟨fun b xs m => ?_, r.nd, fun b m => ?_, fun b m => ⟨(r.own b m).1, fun z => ?_⟩, q.keep, q.j, q.stab, fun b h => .inl (r.hm b h)⟩
  · obtain ⟨ws, e, a⟩ := r.sto b xs m
    exact ⟨ws, by rw [upd_ne (ne_of_none e n)]; exact e, a.ext x⟩
  · rcases m with m | m
    · exact q.live b m
    · have m : b = p := m
      rw [m, upd_same]
      exact fun z => nomatch z
  · rcases z with z | z
    · exact (r.own b m).2 z
    · have z : b = p := z
      obtain ⟨⟨b', xs⟩, mm, e⟩ := List.mem_map.mp m
      have e : b' = b := e
      obtain ⟨ws, eh, _⟩ := r.sto b' xs mm
      rw [e, z, n] at eh
      cases eh
theorem HR.and (r : HR K dx H S) (n : H p = none) (vs : List V) : HR K (dx.and p) (upd H p (.lst vs)) S := r.andO n _
theorem HR.unand (r : HR K (dx.and p) H S) (hp : ¬ dx.hand p) : HR K dx H S :=
  ⟨fun b xs m => let ⟨ws, e, a⟩ := r.sto b xs m; ⟨ws, e, a.ext ext_back⟩, r.nd, fun b m => r.live b (.inl m), fun b m => ⟨(r.own b m).1, fun z => (r.own b m).2 (.inl z)⟩, r.keep, r.j, r.stab,
    fun b h => (r.hm b h).resolve_right fun e => hp (by have e : b = p := e; rw [← e]; exact h)⟩
theorem extD_put {o : HO} : ExtD (Mu (dx.and p) S) H (Mu (dx.and p) S) (upd H p o) :=
  ⟨fun b u n e => by rw [upd_ne (fun z => n (mu_and.mpr (.inr z)))]; exact e, fun b m n => absurd m n⟩
theorem HR.and_putO (r : HR K (dx.and p) H S) (h0 : dx.H0 p = none) (hp : ¬ dx.hand p) (ob : HO) : HR K (dx.and p) (upd H p ob) S := by
  refine ⟨fun b xs m => ?_, r.nd, fun b m => ?_, r.own, fun b o e n => ?_, ?_, r.stab, r.hm⟩
  · obtain ⟨ws, e, a⟩ := r.sto b xs m
    have ne : b ≠ p := fun z => (r.own b (List.mem_map.mpr ⟨_, m, rfl⟩)).2 (.inr z)
    exact ⟨ws, by rw [upd_ne ne]; exact e, a.extD extD_put⟩
  · by_cases z : b = p
    · rw [z, upd_same]
      exact fun z => nomatch z
    · rw [upd_ne z]
      exact r.live b m
  · have ne : b ≠ p := fun z => by
      rw [z] at e
      have e : dx.H0 p = some o := e
      rw [h0] at e
      cases e
    rw [upd_ne ne]
    exact r.keep b o e n
  · refine r.stab H _ (fun b hb => ?_) r.j
    have ne : b ≠ p := fun z => hp (by rw [← z]; exact hb)
    rw [upd_ne ne]
theorem HR.and_put (r : HR K (dx.and p) H S) (h0 : dx.H0 p = none) (hp : ¬ dx.hand p) (vs : List V) : HR K (dx.and p) (upd H p (.lst vs)) S := r.and_putO h0 hp _
/-- from a heap in which p was not there, p was changed once more -/
theorem ext_put {H1 : Hp} {S1 : Sto} {o : HO} (x : Ext (Mu dx S) H (Mu (dx.and p) S1) H1) (n : H p = none) : Ext (Mu dx S) H (Mu (dx.and p) S1) (upd H1 p o) :=
  ⟨fun b u z e => by rw [upd_ne (ne_of_none e n)]; exact x.keep b u z e, x.fresh, x.freshC⟩
end

section
variable {X : Cx} {dx : Dx} {pos : Pos} {tg e elt iter : Expr} {ifs : List Expr} {te : TE} {fa : DTE} {wi : TI} {fi : DTA} {g : TG} {f : DTG} {tt : TT} {ft : DTT} {o : List Nat} {scope : Scope} {own : List (Str × Nat)}
def lcGo (g : DTG) (tt : DTT) (te : DTE) (own : List Nat) (δ : Sl) (Q : D → Sto → Prop) : List D → List D → Sto → Prop
  | [], acc, S => Q (.lst acc) S
  | x :: xs, acc, S => g x (wipeD δ own) fun δ1 => tt δ1 S fun b S1 =>
      if b = true then te δ1 S1 fun d S2 => Fit (acc.length + 1) ∧ lcGo g tt te own δ Q xs (acc ++ [d]) S2 else lcGo g tt te own δ Q xs acc S1
def dLc (ti : DTA) (g : DTG) (tt : DTT) (te : DTE) (own : List Nat) : DTE := fun δ S Q => ti δ S fun xs S1 => lcGo g tt te own δ Q xs [] S1
/-- the tests of a clause -/
structure DTs (X : Cx) (dx : Dx) (ifs : List Expr) (tt : TT) (t : DTT) : Prop where
  pe : PTs X ifs tt
  go : ∀ σ H δ S Q Qh, HR X.K dx H S → SR X.K dx σ H δ S → t δ S Q → ThT X.K dx H S Q Qh → tt σ H Qh
def dYes : DTT := fun _ S Q => Q true S
theorem dts_nil : DTs X dx [] tYes dYes := ⟨pts_nil, fun σ H δ S Q Qh r s t k => k true H S r Ext.refl t⟩
theorem dts_one {c : Expr} (h : DT X dx c tt ft) : DTs X dx [c] tt ft := ⟨pts_one h.pe, h.go⟩
abbrev Blk (X : Cx) (scope : Scope) (s : Shared) (H : Hp) (C : Addr) (cl : List (Str × Addr)) (fp : List Addr) : Cx := X.blk s H scope (compEnvC scope cl C X.env) fp
theorem lc_go (hi : DI X dx tg iter wi fi) (sub : ∀ j ∈ o, j ∈ own.map (·.2))
    (hg : ∀ (m : Addr → Prop) (s : Shared) (H : Hp) (C : Addr) (cl : List (Str × Addr)) (fp : List Addr), DG (Blk X scope s H C cl fp) { dx with M0 := m } tg g f o)
    (ht : ∀ (m : Addr → Prop) (s : Shared) (H : Hp) (C : Addr) (cl : List (Str × Addr)) (fp : List Addr), DTs (Blk X scope s H C cl fp) { dx with M0 := m } ifs tt ft)
    (he : ∀ (m : Addr → Prop) (s : Shared) (H : Hp) (C : Addr) (cl : List (Str × Addr)) (fp : List Addr), DE (Blk X scope s H C cl fp) { dx with M0 := m } elt te fa) :
    ∀ σ H δ S Q Qh, HR X.K dx H S → SR X.K dx σ H δ S → dLc fi f ft fa (own.map (·.2)) δ S Q → ThE X.K dx H S Q Qh → tLc wi g tt te (own.map (·.2)) σ H Qh := by
  intro σ H δ S Q Qh r s q k
  refine hi.go σ H δ S _ _ r s q fun J H0 xs S0 r0 x0 wk q0 => ?_
  intro p n
  obtain ⟨G, Y, wl, all⟩ := wk
  have h0 : dx.H0 p = none := r0.old n
  have hp : ¬ dx.hand p := fun h => r0.live p (r0.hm p h) n
  have s0 := (s.ext x0)
  refine lc_it wl (fun i H' => ∃ S' acc vs, HR X.K (dx.and p) H' S' ∧ Ext (Mu dx S0) H0 (Mu (dx.and p) S') H' ∧ H' p = some (.lst vs) ∧ DtAll X.K (Mu (dx.and p) S') H' vs acc ∧ lcGo f ft fa (own.map (·.2)) δ Q (xs.drop i) acc S')
    ⟨S0, [], [], r0.and n [], ext_and n, upd_same, .nil, q0⟩ ?_ ?_ ?_
  · rintro i H' _ ⟨S', acc, vs, r', x', _⟩
    exact (all _ H' r'.mu_live x'.d).1
  · rintro i v H1 H2 hi' ⟨S', acc, vs, r', x', ep, al, q'⟩ y
    obtain ⟨sm, d, ed, dd⟩ := (all _ H1 r'.mu_live x'.d).2 i v H2 hi' y
    have e1 : xs.drop i = d :: xs.drop (i + 1) := by
      rw [List.drop_eq_getElem_cons hi']
      have := List.getElem?_eq_getElem hi'
      rw [this] at ed
      cases ed
      rfl
    rw [e1] at q'
    have xs2 : Ext (Mu (dx.and p) S') H1 (Mu (dx.and p) S') H2 := Ext.same sm
    have r2 := r'.same sm
    have sd : SR X.K (dx.and p) (L2.wipe σ (own.map (·.2))) H2 (wipeD δ (own.map (·.2))) S' :=
      ⟨(s0.wipe _).len, fun j c hc => let ⟨u, a, b⟩ := (s0.wipe (own.map (·.2))).ix j c hc; ⟨u, a, b.ext (x'.trans xs2)⟩⟩
    refine (hg (dx.and p).M0 X.s_0 X.H_0 0 [] []).go v d _ H2 _ S' _ _ r2 sd dd q' fun σ3 δ3 s3 l3 o3 q3 => ⟨wipe_wipe l3 sub o3, ?_⟩
    refine (ht (dx.and p).M0 X.s_0 X.H_0 0 [] []).go σ3 H2 δ3 S' _ _ r2 s3 q3 fun b H3 S3 r3 x3 q4 => ?_
    have np : ∀ {S'' : Sto} {H'' : Hp}, HR X.K (dx.and p) H'' S'' → ¬ (Mu (dx.and p) S'').ch p := fun r'' z => by
      rcases z with z | z
      · exact hp z
      · exact (r''.own p z).2 (.inr rfl)
    have ep3 : H3 p = some (.lst vs) := x3.keep p _ (np r2) (sm p _ ep)
    have xt3 := (x'.trans xs2).trans x3
    have al3 := al.ext (xs2.trans x3)
    cases b with
    | false =>
      rw [if_neg Bool.false_ne_true] at q4 ⊢
      exact ⟨S3, acc, vs, r3, xt3, ep3, al3, q4⟩
    | true =>
      rw [if_pos rfl] at q4 ⊢
      refine (he (dx.and p).M0 X.s_0 X.H_0 0 [] []).go σ3 H3 δ3 S3 _ _ r3 (s3.ext x3) q4 fun y H4 c S4 r4 x4 d4 q5 => ?_
      have ep4 : H4 p = some (.lst vs) := x4.keep p _ (np r3) ep3
      have al4 := (al3.ext x4).append (.cons d4 .nil)
      refine ⟨vs, ep4, ?_, S4, acc ++ [c], vs ++ [y], r4.and_put h0 hp _, ext_put (xt3.trans x4) n, upd_same, al4.extD extD_put, q5.2⟩
      have := q5.1.line
      rw [al3.length]
      omega
  · rintro H' ⟨S', acc, vs, r', x', ep, al, q'⟩
    rw [List.drop_length] at q'
    have r2 := r'.unand hp
    refine k (.ref p) H' _ S' r2 (x0.trans (x'.trans ext_back)) (.lst ?_ ep (al.ext ext_back)) q'
    rintro (z | z | z)
    · exact r0.live p z n
    · exact hp z
    · exact (r'.own p z).2 (.inr rfl)
/-- [elt for tg in iter if ..] -/
theorem de_lc (hc : X.calm = true) (hN : X.N.Nodup) (hi : DI X dx tg iter wi fi) (ok : BlkOk X.N X.env.scope scope own) (sub : ∀ j ∈ o, j ∈ own.map (·.2))
    (hg : ∀ (m : Addr → Prop) (s : Shared) (H : Hp) (C : Addr) (cl : List (Str × Addr)) (fp : List Addr), DG (Blk X scope s H C cl fp) { dx with M0 := m } tg g f o)
    (ht : ∀ (m : Addr → Prop) (s : Shared) (H : Hp) (C : Addr) (cl : List (Str × Addr)) (fp : List Addr), DTs (Blk X scope s H C cl fp) { dx with M0 := m } ifs tt ft)
    (he : ∀ (m : Addr → Prop) (s : Shared) (H : Hp) (C : Addr) (cl : List (Str × Addr)) (fp : List Addr), DE (Blk X scope s H C cl fp) { dx with M0 := m } elt te fa)
    (hs : ∀ x, foldedSetIterable iter X.env x = pure x := by intro _; rfl) : DE X dx (.ListComp elt [⟨tg, iter, ifs, 0⟩] scope pos) (tLc wi g tt te (own.map (·.2))) (dLc fi f ft fa (own.map (·.2))) :=
  ⟨pe_lc hc hN hi.pe ok (fun s H C cl fp => (hg dx.M0 s H C cl fp).pe) (fun s H C cl fp => (ht dx.M0 s H C cl fp).pe) (fun s H C cl fp => (he dx.M0 s H C cl fp).pe) hs, lc_go hi sub hg ht he⟩
/-- y = [elt for ..] -/
theorem ds_setLc {i : Nat} {y : Str} {py spos : Pos} (hc : X.calm = true) (hN : X.N.Nodup) (hy : X.N[i]? = some y) (hyl : X.env.scope.names.lookup y = some .local)
    (hsw : swapsWith (.ListComp elt [⟨tg, iter, ifs, 0⟩] scope pos) (some (.Name y py)) spos.line X.env = pure true) (hi : DI X dx tg iter wi fi) (ok : BlkOk X.N X.env.scope scope own) (sub : ∀ j ∈ o, j ∈ own.map (·.2))
    (hg : ∀ (m : Addr → Prop) (s : Shared) (H : Hp) (C : Addr) (cl : List (Str × Addr)) (fp : List Addr), DG (Blk X scope s H C cl fp) { dx with M0 := m } tg g f o)
    (ht : ∀ (m : Addr → Prop) (s : Shared) (H : Hp) (C : Addr) (cl : List (Str × Addr)) (fp : List Addr), DTs (Blk X scope s H C cl fp) { dx with M0 := m } ifs tt ft)
    (he : ∀ (m : Addr → Prop) (s : Shared) (H : Hp) (C : Addr) (cl : List (Str × Addr)) (fp : List Addr), DE (Blk X scope s H C cl fp) { dx with M0 := m } elt te fa)
    (hs : ∀ x, foldedSetIterable iter X.env x = pure x := by intro _; rfl) :
    DS X dx (.Assign [.Name y py] (.ListComp elt [⟨tg, iter, ifs, 0⟩] scope pos) spos) (tAsg (tLc wi g tt te (own.map (·.2))) (gName i)) (dSet i (dLc fi f ft fa (own.map (·.2)))) :=
  ⟨ps_setLc hc hN hy hyl hsw hi.pe ok (fun s H C cl fp => (hg dx.M0 s H C cl fp).pe) (fun s H C cl fp => (ht dx.M0 s H C cl fp).pe) (fun s H C cl fp => (he dx.M0 s H C cl fp).pe) hs, set_go (lc_go hi sub hg ht he)⟩
end
end DL
/-! Readings over data: comprehensions of two clauses. -/
namespace DL
open PySem PySem.Spec L2 Gd

section
variable {X : Cx} {dx : Dx} {pos : Pos} {tg e elt iter tg1 iter1 : Expr} {ifs ifs1 : List Expr} {te : TE} {fa : DTE} {wi wi1 : TI} {fi fi1 : DTA} {g g1 : TG} {f f1 : DTG} {tt tt1 : TT} {ft ft1 : DTT} {o o1 : List Nat} {scope : Scope} {own : List (Str × Nat)} {vs1 : List Nat}
def lc2In (g : DTG) (tt : DTT) (te : DTE) (own : List Nat) (δ : Sl) (k : List D → Sto → Prop) : List D → List D → Sto → Prop
  | [], acc, S => k acc S
  | x :: xs, acc, S => g x (wipeD δ own) fun δ1 => tt δ1 S fun b S1 =>
      if b = true then te δ1 S1 fun d S2 => Fit (acc.length + 1) ∧ lc2In g tt te own δ k xs (acc ++ [d]) S2 else lc2In g tt te own δ k xs acc S1
def lc2Go (g : DTG) (tt : DTT) (wi1 : DTA) (g1 : DTG) (tt1 : DTT) (te : DTE) (own own1 : List Nat) (δ : Sl) (Q : D → Sto → Prop) : List D → List D → Sto → Prop
  | [], acc, S => Q (.lst acc) S
  | x :: xs, acc, S => g x (wipeD δ own) fun δ1 => tt δ1 S fun b S1 =>
      if b = true then wi1 δ1 S1 fun ys S2 => lc2In g1 tt1 te own1 δ1 (lc2Go g tt wi1 g1 tt1 te own own1 δ Q xs) ys acc S2 else lc2Go g tt wi1 g1 tt1 te own own1 δ Q xs acc S1
def dLc2 (ti : DTA) (g : DTG) (tt : DTT) (wi1 : DTA) (g1 : DTG) (tt1 : DTT) (te : DTE) (own own1 : List Nat) : DTE := fun δ S Q => ti δ S fun xs S1 => lc2Go g tt wi1 g1 tt1 te own own1 δ Q xs [] S1
theorem lc2_go (hi : DI X dx tg iter wi fi) (sub : ∀ j ∈ o, j ∈ own.map (·.2)) (sub1 : ∀ j ∈ o1, j ∈ vs1)
    (hg : ∀ (m : Addr → Prop) (s : Shared) (H : Hp) (C : Addr) (cl : List (Str × Addr)) (fp : List Addr), DG (Blk X scope s H C cl fp) { dx with M0 := m } tg g f o)
    (ht : ∀ (m : Addr → Prop) (s : Shared) (H : Hp) (C : Addr) (cl : List (Str × Addr)) (fp : List Addr), DTs (Blk X scope s H C cl fp) { dx with M0 := m } ifs tt ft)
    (hi1 : ∀ (m : Addr → Prop) (s : Shared) (H : Hp) (C : Addr) (cl : List (Str × Addr)) (fp : List Addr), DI (Blk X scope s H C cl fp) { dx with M0 := m } tg1 iter1 wi1 fi1)
    (hg1 : ∀ (m : Addr → Prop) (s : Shared) (H : Hp) (C : Addr) (cl : List (Str × Addr)) (fp : List Addr), DG (Blk X scope s H C cl fp) { dx with M0 := m } tg1 g1 f1 o1)
    (ht1 : ∀ (m : Addr → Prop) (s : Shared) (H : Hp) (C : Addr) (cl : List (Str × Addr)) (fp : List Addr), DTs (Blk X scope s H C cl fp) { dx with M0 := m } ifs1 tt1 ft1)
    (he : ∀ (m : Addr → Prop) (s : Shared) (H : Hp) (C : Addr) (cl : List (Str × Addr)) (fp : List Addr), DE (Blk X scope s H C cl fp) { dx with M0 := m } elt te fa) :
    ∀ σ H δ S Q Qh, HR X.K dx H S → SR X.K dx σ H δ S → dLc2 fi f ft fi1 f1 ft1 fa (own.map (·.2)) vs1 δ S Q → ThE X.K dx H S Q Qh → tLc2 wi g tt wi1 g1 tt1 te (own.map (·.2)) vs1 σ H Qh := by
  intro σ H δ S Q Qh r s q k
  refine hi.go σ H δ S _ _ r s q fun J H0 xs S0 r0 x0 wk q0 => ?_
  intro p n
  obtain ⟨G, Y, wl, all⟩ := wk
  have h0 : dx.H0 p = none := r0.old n
  have hp : ¬ dx.hand p := fun h => r0.live p (r0.hm p h) n
  have s0 := (s.ext x0)
  have np : ∀ {S'' : Sto} {H'' : Hp}, HR X.K (dx.and p) H'' S'' → ¬ (Mu (dx.and p) S'').ch p := fun r'' z => by
    rcases z with z | z
    · exact hp z
    · exact (r''.own p z).2 (.inr rfl)
  -- what stands ahead of a turn, where what is left is told by R
  let Pw : (List D → Sto → Prop) → Hp → Prop := fun R H' => ∃ S' acc vs, HR X.K (dx.and p) H' S' ∧ Ext (Mu dx S0) H0 (Mu (dx.and p) S') H' ∧ H' p = some (.lst vs) ∧ DtAll X.K (Mu (dx.and p) S') H' vs acc ∧ R acc S'
  refine ⟨fun i m H' => m = xs.length - i ∧ i ≤ xs.length ∧ Pw (lc2Go f ft fi1 f1 ft1 fa (own.map (·.2)) vs1 δ Q (xs.drop i)) H', ⟨xs.length, by simp, Nat.zero_le _, S0, [], [], r0.and n [], ext_and n, upd_same, .nil, q0⟩, ?_⟩
  rintro i m H1 ⟨rfl, hi', S', acc, vs, r', x', ep, al, q'⟩
  have gs := (all _ H1 r'.mu_live x'.d)
  by_cases hlt : i < xs.length
  · refine .inr ⟨wl.goes i H1 hlt gs.1, Pw (lc2Go f ft fi1 f1 ft1 fa (own.map (·.2)) vs1 δ Q (xs.drop (i + 1))), fun H' w' => ⟨xs.length - (i + 1), by omega, rfl, hlt, w'⟩, fun v H2 y => ?_⟩
    obtain ⟨sm, d, ed, dd⟩ := gs.2 i v H2 hlt (wl.yields i H1 v H2 hlt gs.1 y)
    have e1 : xs.drop i = d :: xs.drop (i + 1) := by
      rw [List.drop_eq_getElem_cons hlt]
      have := List.getElem?_eq_getElem hlt
      rw [this] at ed
      cases ed
      rfl
    rw [e1] at q'
    have xs2 : Ext (Mu (dx.and p) S') H1 (Mu (dx.and p) S') H2 := Ext.same sm
    have r2 := r'.same sm
    have sd : SR X.K (dx.and p) (L2.wipe σ (own.map (·.2))) H2 (wipeD δ (own.map (·.2))) S' :=
      ⟨(s0.wipe _).len, fun j c hc => let ⟨u, a, b⟩ := (s0.wipe (own.map (·.2))).ix j c hc; ⟨u, a, b.ext (x'.trans xs2)⟩⟩
    refine (hg (dx.and p).M0 X.s_0 X.H_0 0 [] []).go v d _ H2 _ S' _ _ r2 sd dd q' fun σ3 δ3 s3 l3 o3 q3 => ⟨wipe_wipe l3 sub o3, ?_⟩
    refine (ht (dx.and p).M0 X.s_0 X.H_0 0 [] []).go σ3 H2 δ3 S' _ _ r2 s3 q3 fun b H3 S3 r3 x3 q4 => ?_
    have ep3 : H3 p = some (.lst vs) := x3.keep p _ (np r2) (sm p _ ep)
    have xt3 := (x'.trans xs2).trans x3
    have al3 := al.ext (xs2.trans x3)
    cases b with
    | false =>
      rw [if_neg Bool.false_ne_true] at q4 ⊢
      exact ⟨S3, acc, vs, r3, xt3, ep3, al3, q4⟩
    | true =>
      rw [if_pos rfl] at q4 ⊢
      have s3' := s3.ext x3
      refine (hi1 (dx.and p).M0 X.s_0 X.H_0 0 [] []).go σ3 H3 δ3 S3 _ _ r3 s3' q4 fun J1 H4 ys S4 r4 x4 wk1 q5 => ?_
      obtain ⟨G1, Y1, wl1, all1⟩ := wk1
      have s4 := s3'.ext x4
      have ep4 : H4 p = some (.lst vs) := x4.keep p _ (np r3) ep3
      have xt4 := xt3.trans x4
      let R := lc2Go f ft fi1 f1 ft1 fa (own.map (·.2)) vs1 δ Q (xs.drop (i + 1))
      let Pv : (List D → Sto → Prop) → Hp → Prop := fun R' H' => ∃ S'' acc vs, HR X.K (dx.and p) H' S'' ∧ Ext (Mu dx S0) H0 (Mu (dx.and p) S'') H' ∧ ExtD (Mu (dx.and p) S4) H4 (Mu (dx.and p) S'') H' ∧ H' p = some (.lst vs) ∧ DtAll X.K (Mu (dx.and p) S'') H' vs acc ∧ R' acc S''
      refine ⟨fun j m H' => m = ys.length - j ∧ j ≤ ys.length ∧ Pv (lc2In f1 ft1 fa vs1 δ3 R (ys.drop j)) H', ⟨ys.length, by simp, Nat.zero_le _, S4, acc, vs, r4, xt4, ExtD.refl, ep4, al3.ext x4, q5⟩, ?_⟩
      rintro j m H5 ⟨rfl, hj, S5, acc5, vs5, r5, xt5, xd5, ep5, al5, q6⟩
      have gs1 := (all1 _ H5 r5.mu_live xd5)
      by_cases hlt1 : j < ys.length
      · refine .inr ⟨wl1.goes j H5 hlt1 gs1.1, Pv (lc2In f1 ft1 fa vs1 δ3 R (ys.drop (j + 1))), fun H' w' => ⟨ys.length - (j + 1), by omega, rfl, hlt1, w'⟩, fun v1 H6 y1 => ?_⟩
        obtain ⟨sm1, d1, ed1, dd1⟩ := gs1.2 j v1 H6 hlt1 (wl1.yields j H5 v1 H6 hlt1 gs1.1 y1)
        have e2 : ys.drop j = d1 :: ys.drop (j + 1) := by
          rw [List.drop_eq_getElem_cons hlt1]
          have := List.getElem?_eq_getElem hlt1
          rw [this] at ed1
          cases ed1
          rfl
        rw [e2] at q6
        have xs6 : Ext (Mu (dx.and p) S5) H5 (Mu (dx.and p) S5) H6 := Ext.same sm1
        have r6 := r5.same sm1
        have s6 : SR X.K (dx.and p) (L2.wipe σ3 vs1) H6 (wipeD δ3 vs1) S5 := (s4.extD (xd5.trans xs6.d)).wipe vs1
        refine (hg1 (dx.and p).M0 X.s_0 X.H_0 0 [] []).go v1 d1 _ H6 _ S5 _ _ r6 s6 dd1 q6 fun σ7 δ7 s7 l7 o7 q7 => ⟨wipe_wipe l7 sub1 o7, ?_⟩
        refine (ht1 (dx.and p).M0 X.s_0 X.H_0 0 [] []).go σ7 H6 δ7 S5 _ _ r6 s7 q7 fun b H7 S7 r7 x7 q8 => ?_
        have ep7 : H7 p = some (.lst vs5) := x7.keep p _ (np r6) (sm1 p _ ep5)
        have xt7 := (xt5.trans xs6).trans x7
        have xd7 := (xd5.trans xs6.d).trans x7.d
        have al7 := al5.ext (xs6.trans x7)
        cases b with
        | false =>
          rw [if_neg Bool.false_ne_true] at q8 ⊢
          exact ⟨S7, acc5, vs5, r7, xt7, xd7, ep7, al7, q8⟩
        | true =>
          rw [if_pos rfl] at q8 ⊢
          refine (he (dx.and p).M0 X.s_0 X.H_0 0 [] []).go σ7 H7 δ7 S7 _ _ r7 (s7.ext x7) q8 fun y H8 c S8 r8 x8 d8 q9 => ?_
          have ep8 : H8 p = some (.lst vs5) := x8.keep p _ (np r7) ep7
          have al8 := (al7.ext x8).append (.cons d8 .nil)
          refine ⟨vs5, ep8, ?_, S8, acc5 ++ [c], vs5 ++ [y], r8.and_put h0 hp _, ext_put (xt7.trans x8) n, (xd7.trans x8.d).trans extD_put, upd_same, al8.extD extD_put, q9.2⟩
          have := q9.1.line
          rw [al7.length]
          omega
      · have e : j = ys.length := by omega
        subst e
        rw [List.drop_length] at q6
        exact .inl ⟨wl1.stops H5 gs1.1, S5, acc5, vs5, r5, xt5, ep5, al5, q6⟩
  · have e : i = xs.length := by omega
    subst e
    rw [List.drop_length] at q'
    refine .inl ⟨wl.stops H1 gs.1, ?_⟩
    have r2 := r'.unand hp
    refine k (.ref p) H1 _ S' r2 (x0.trans (x'.trans ext_back)) (.lst ?_ ep (al.ext ext_back)) q'
    rintro (z | z | z)
    · exact r0.live p z n
    · exact hp z
    · exact (r'.own p z).2 (.inr rfl)
theorem de_lc2 (hc : X.calm = true) (hN : X.N.Nodup) (hi : DI X dx tg iter wi fi) (ok : BlkOk X.N X.env.scope scope own) (hv : ∀ i ∈ vs1, i ∈ own.map (·.2)) (sub : ∀ j ∈ o, j ∈ own.map (·.2)) (sub1 : ∀ j ∈ o1, j ∈ vs1)
    (hg : ∀ (m : Addr → Prop) (s : Shared) (H : Hp) (C : Addr) (cl : List (Str × Addr)) (fp : List Addr), DG (Blk X scope s H C cl fp) { dx with M0 := m } tg g f o)
    (ht : ∀ (m : Addr → Prop) (s : Shared) (H : Hp) (C : Addr) (cl : List (Str × Addr)) (fp : List Addr), DTs (Blk X scope s H C cl fp) { dx with M0 := m } ifs tt ft)
    (hi1 : ∀ (m : Addr → Prop) (s : Shared) (H : Hp) (C : Addr) (cl : List (Str × Addr)) (fp : List Addr), DI (Blk X scope s H C cl fp) { dx with M0 := m } tg1 iter1 wi1 fi1)
    (hg1 : ∀ (m : Addr → Prop) (s : Shared) (H : Hp) (C : Addr) (cl : List (Str × Addr)) (fp : List Addr), DG (Blk X scope s H C cl fp) { dx with M0 := m } tg1 g1 f1 o1)
    (ht1 : ∀ (m : Addr → Prop) (s : Shared) (H : Hp) (C : Addr) (cl : List (Str × Addr)) (fp : List Addr), DTs (Blk X scope s H C cl fp) { dx with M0 := m } ifs1 tt1 ft1)
    (he : ∀ (m : Addr → Prop) (s : Shared) (H : Hp) (C : Addr) (cl : List (Str × Addr)) (fp : List Addr), DE (Blk X scope s H C cl fp) { dx with M0 := m } elt te fa)
    (hs : ∀ x, foldedSetIterable iter X.env x = pure x := by intro _; rfl) (hs1 : ∀ env x, foldedSetIterable iter1 env x = pure x := by intro _ _; rfl) :
    DE X dx (.ListComp elt [⟨tg, iter, ifs, 0⟩, ⟨tg1, iter1, ifs1, 0⟩] scope pos) (tLc2 wi g tt wi1 g1 tt1 te (own.map (·.2)) vs1) (dLc2 fi f ft fi1 f1 ft1 fa (own.map (·.2)) vs1) :=
  ⟨pe_lc2 hc hN hi.pe ok hv (fun s H C cl fp => (hg dx.M0 s H C cl fp).pe) (fun s H C cl fp => (ht dx.M0 s H C cl fp).pe) (fun s H C cl fp => (hi1 dx.M0 s H C cl fp).pe) (fun s H C cl fp => (hg1 dx.M0 s H C cl fp).pe) (fun s H C cl fp => (ht1 dx.M0 s H C cl fp).pe) (fun s H C cl fp => (he dx.M0 s H C cl fp).pe) hs hs1, lc2_go hi sub sub1 hg ht hi1 hg1 ht1 he⟩
theorem ds_setLc2 {i : Nat} {y : Str} {py spos : Pos} (hc : X.calm = true) (hN : X.N.Nodup) (hy : X.N[i]? = some y) (hyl : X.env.scope.names.lookup y = some .local)
    (hsw : swapsWith (.ListComp elt [⟨tg, iter, ifs, 0⟩, ⟨tg1, iter1, ifs1, 0⟩] scope pos) (some (.Name y py)) spos.line X.env = pure true) (hi : DI X dx tg iter wi fi) (ok : BlkOk X.N X.env.scope scope own) (hv : ∀ i ∈ vs1, i ∈ own.map (·.2)) (sub : ∀ j ∈ o, j ∈ own.map (·.2)) (sub1 : ∀ j ∈ o1, j ∈ vs1)
    (hg : ∀ (m : Addr → Prop) (s : Shared) (H : Hp) (C : Addr) (cl : List (Str × Addr)) (fp : List Addr), DG (Blk X scope s H C cl fp) { dx with M0 := m } tg g f o)
    (ht : ∀ (m : Addr → Prop) (s : Shared) (H : Hp) (C : Addr) (cl : List (Str × Addr)) (fp : List Addr), DTs (Blk X scope s H C cl fp) { dx with M0 := m } ifs tt ft)
    (hi1 : ∀ (m : Addr → Prop) (s : Shared) (H : Hp) (C : Addr) (cl : List (Str × Addr)) (fp : List Addr), DI (Blk X scope s H C cl fp) { dx with M0 := m } tg1 iter1 wi1 fi1)
    (hg1 : ∀ (m : Addr → Prop) (s : Shared) (H : Hp) (C : Addr) (cl : List (Str × Addr)) (fp : List Addr), DG (Blk X scope s H C cl fp) { dx with M0 := m } tg1 g1 f1 o1)
    (ht1 : ∀ (m : Addr → Prop) (s : Shared) (H : Hp) (C : Addr) (cl : List (Str × Addr)) (fp : List Addr), DTs (Blk X scope s H C cl fp) { dx with M0 := m } ifs1 tt1 ft1)
    (he : ∀ (m : Addr → Prop) (s : Shared) (H : Hp) (C : Addr) (cl : List (Str × Addr)) (fp : List Addr), DE (Blk X scope s H C cl fp) { dx with M0 := m } elt te fa)
    (hs : ∀ x, foldedSetIterable iter X.env x = pure x := by intro _; rfl) (hs1 : ∀ env x, foldedSetIterable iter1 env x = pure x := by intro _ _; rfl) :
    DS X dx (.Assign [.Name y py] (.ListComp elt [⟨tg, iter, ifs, 0⟩, ⟨tg1, iter1, ifs1, 0⟩] scope pos) spos) (tAsg (tLc2 wi g tt wi1 g1 tt1 te (own.map (·.2)) vs1) (gName i)) (dSet i (dLc2 fi f ft fi1 f1 ft1 fa (own.map (·.2)) vs1)) :=
  ⟨ps_setLc2 hc hN hy hyl hsw hi.pe ok hv (fun s H C cl fp => (hg dx.M0 s H C cl fp).pe) (fun s H C cl fp => (ht dx.M0 s H C cl fp).pe) (fun s H C cl fp => (hi1 dx.M0 s H C cl fp).pe) (fun s H C cl fp => (hg1 dx.M0 s H C cl fp).pe) (fun s H C cl fp => (ht1 dx.M0 s H C cl fp).pe) (fun s H C cl fp => (he dx.M0 s H C cl fp).pe) hs hs1, set_go (lc2_go hi sub sub1 hg ht hi1 hg1 ht1 he)⟩
end
end DL
/-! Readings over data: calls, a def by its body, operators. -/
namespace DL
open PySem PySem.Spec L2 Gd

/-! ### what a def promises, by data -/
abbrev DSpec := List D → (D → Prop) → Prop
def spD (K : PySem.W.Frag) (hand : Addr → Prop) (J : Hp → Prop) (spec : DSpec) : Sp := fun vs H Q _ => ∃ (m : Addr → Prop) (ds : List D) (post : D → Prop),
  (∀ b, m b → H b ≠ none) ∧ (∀ b, hand b → m b) ∧ (∀ H1 H2 : Hp, (∀ b, hand b → H2 b = H1 b) → J H1 → J H2) ∧ J H ∧ DtAll K (Fo m) H vs ds ∧ spec ds post ∧
  ∀ v H' d, (∀ b o, H b = some o → ¬ hand b → H' b = some o) → (∀ b, m b → H' b ≠ none) → J H' → Dt K (Fo m) H' v d → post d → Q v H'
def noHand : Addr → Prop := fun _ => False
def noJ : Hp → Prop := fun _ => True
abbrev spP (K : PySem.W.Frag) (spec : DSpec) : Sp := spD K noHand noJ spec
def startD (N : List Str) (ds : List D) : Sl := ds.map some ++ List.replicate (N.length - ds.length) none
theorem start_sr {K : PySem.W.Frag} {dx : Dx} {H : Hp} {S : Sto} {N : List Str} {vs : List V} {ds : List D} (a : DtAll K (Mu dx S) H vs ds) : SR K dx (L2.start N vs) H (startD N ds) S := by
  have l := a.length
  unfold L2.start startD
  refine ⟨by simp [l], fun i d h => ?_⟩
  by_cases hi : i < ds.length
  · rw [List.getElem?_append_left (by simpa using hi), List.getElem?_map] at h
    rw [List.getElem?_append_left (by simpa [l] using hi), List.getElem?_map]
    cases e : ds[i]? with
    | none => rw [e] at h; cases h
    | some c =>
      rw [e] at h
      have h : some c = some d := by simpa using h
      cases h
      obtain ⟨v, e1, d1⟩ := a.get e
      exact ⟨v, by rw [e1]; rfl, d1⟩
  · rw [List.getElem?_append_right (by simpa using Nat.le_of_not_lt hi), List.getElem?_replicate] at h
    split at h <;> cases h
section
variable {P : Program} {w : World} {K : PySem.W.Frag} {mg : Str → Option Value} {base : Heap}
abbrev Body (P : Program) (w : World) (K : PySem.W.Frag) (mg : Str → Option Value) (base : Heap) (N : List Str) (qual : Str) (st : Stmt) (f : Addr) (cdv : Value) (A : Around) (fr : List Env) (s : Shared) (H : Hp) (E : XK) : Cx :=
  (cxOf CX0 P w K mg base N qual (defScope st) f cdv A fr s H E).nox
/-- THE RULE for a def: its body as a term of rules over data -/
theorem fnD {k : Nat} {x qual : Str} {st : Stmt} {f : Addr} {fd : FuncData} {N ps : List Str} {hand : Addr → Prop} {J : Hp → Prop} {spec : DSpec}
    (F : Fun K x qual st f fd) (S : FnScope N ps (defScope st)) (len : ∀ ds post, spec ds post → ds.length = ps.length)
    (body : ∀ (cdv : Value) (A : Around) (fr : List Env) (s : Shared) (H : Hp) (E : XK), Room k (A.deeper (PyProof.Rows.envOfC qual (defScope st) s.heap.objs.size f cdv)) → A.guards = some [] →
      ∀ dx : Dx, dx.hand = hand → dx.J = J → ∃ ts t, DSs (Body P w K mg base N qual st f cdv A fr s H E) dx (defBody st) ts t ∧
        ∀ ds post, spec ds post → t { nx := fun _ _ => post .non, rt := fun d _ => post d } (startD N ds) []) :
    FnG P w K mg base CX0 (k + 1) f fd ps (spD K hand J spec) := by
  refine fnG_body F S ?_ ?_
  · rintro vs H Q E ⟨m, ds, post, _, _, _, _, a, sp, _⟩
    rw [a.length]
    exact len ds post sp
  · rintro cdv A fr s H vs Q E room guard ⟨m, ds, post, live, hm, stab, j, a, sp, k'⟩
    obtain ⟨ts, t, h, q⟩ := body cdv A fr s H E room guard ⟨m, H, hand, J⟩ rfl rfl
    refine ⟨ts, h.pe.nox, ?_⟩
    have le : ExtD (Fo m) H (Mu ⟨m, H, hand, J⟩ []) H := by
      refine ⟨fun _ _ _ e => e, fun b z n => ?_⟩
      rcases z with z | z | z
      · exact absurd (.inl z) n
      · exact absurd (.inl (hm b z)) n
      · cases z
    have r : HR K ⟨m, H, hand, J⟩ H [] := ⟨fun p xs z => (nomatch z), List.nodup_nil, live, fun p z => (nomatch z), fun b o e _ => e, j, stab, hm⟩
    refine h.go _ H (startD N ds) [] { nx := fun _ _ => post .non, rt := fun d _ => post d } _ r (start_sr (a.extD le)) (q ds post sp) ⟨?_, ?_, ?_, ?_⟩
    · intro σ' H' δ' S' r' x' s' p'
      exact k' .non H' .non r'.keep r'.live r'.j .non p'
    · intro σ' H' δ' S' r' x' s' p'
      exact p'.elim
    · intro σ' H' δ' S' r' x' s' p'
      exact p'.elim
    · intro v H' d S' r' x' hd p'
      exact k' v H' d r'.keep r'.live r'.j hd p'
end

/-! ### calls of defs of one's own -/
section
variable {X : Cx} {dx : Dx} {k : Nat} {f : Addr} {fd : FuncData} {ps ks : List Str} {x : Str} {p pos : Pos} {e : Expr} {es : List Expr} {kws : List Keyword} {ta tk : TA} {fa fk : DTA} {spec : DSpec}
def dCall (spec : DSpec) (fa : DTA) : DTE := fun δ S Q => fa δ S fun ds S1 => spec ds fun d => Q d S1
theorem spd_go {K : PySem.W.Frag} {hand : Addr → Prop} {J : Hp → Prop} {H : Hp} {S : Sto} {vs : List V} {ds : List D} {Q : D → Sto → Prop} {Qh : VK} {E : XK} (r : HR K dx H S) (a : DtAll K (Mu dx S) H vs ds)
    (h : (hand = noHand ∧ J = noJ) ∨ (hand = dx.hand ∧ J = dx.J)) (t : spec ds fun d => Q d S) (kk : ThE K dx H S Q Qh) : spD K hand J spec vs H Qh E := by
  have le : Ext (Mu dx S) H (Fo (Mu dx S).mu) H := Ext.less (fun b z => z.elim id False.elim) (fun b z => z.elim)
  have ge : ∀ H' : Hp, ExtD (Fo (Mu dx S).mu) H' (Mu dx S) H' := fun H' => ⟨fun _ _ _ e => e, fun b z n => absurd (.inl z) n⟩
  rcases h with ⟨rfl, rfl⟩ | ⟨rfl, rfl⟩
  · refine ⟨(Mu dx S).mu, ds, _, r.mu_live, fun b z => z.elim, fun _ _ _ _ => trivial, trivial, a.ext le, t, fun v H' d kp lv j hd q => ?_⟩
    have sm : Same H H' := fun b o e => kp b o e fun z => z
    exact kk v H' d S (r.same sm) (Ext.same sm) (hd.extD (ge H')) q
  · refine ⟨(Mu dx S).mu, ds, _, r.mu_live, fun b z => .inr (.inl z), r.stab, r.j, a.ext le, t, fun v H' d kp lv j hd q => ?_⟩
    have xx : Ext (Mu dx S) H (Mu dx S) H' := ⟨fun b o n e => kp b o e fun z => n (.inl z), fun b m n => absurd m n, fun b m n => absurd m n⟩
    refine kk v H' d S ⟨fun q xs m => ?_, r.nd, fun b m => lv b (.inl m), r.own, fun b o e n => kp b o (r.keep b o e n) n, j, r.stab, r.hm⟩ xx (hd.extD (ge H')) q
    obtain ⟨ws, e, al⟩ := r.sto q xs m
    have nh : ¬ dx.hand q := fun z => (r.own q (List.mem_map.mpr ⟨_, m, rfl⟩)).2 (r.hm q z)
    exact ⟨ws, kp q _ e nh, al.ext xx⟩
/-- f(a, ..) -/
theorem de_call {hand : Addr → Prop} {J : Hp → Prop} (F : FnG X.prog X.w X.K X.mg X.base CX0 k f fd ps (spD X.K hand J spec)) (room : Room k X.A) (guard : X.A.guards = some [])
    (hg : Gl X x) (hm : X.mg x = some (.ref f)) (kp : PySem.W.keepIn X.K (.ref f) = true) (hb : Binds X.K fd ps []) (hh : (hand = noHand ∧ J = noJ) ∨ (hand = dx.hand ∧ J = dx.J)) (ha : DA X dx (e :: es) ta fa)
    (hdb : (x == ("__debug__" : Str)) = false := by decide)
    (he : starEach (e :: es) X.env = (false, eval e X.env) :: starEach es X.env := by rfl)
    (hpl : (backTo pos (starEach es X.env)).any (·.1) = false := by rfl) :
    DE X dx (.Call (.Name x p) (e :: es) [] pos) (tCall (spD X.K hand J spec) [] (fun _ _ _ => False) ta) (dCall spec fa) := by
  refine ⟨pe_callG F room guard hg hm kp hb .nil pass0 ha.pe hdb he hpl, fun σ H δ S Q Qh r s t kk => ?_⟩
  refine ha.go σ H δ S _ _ r s t fun vs H1 ds S1 r1 x1 d1 t1 => ?_
  rw [List.append_nil]
  exact spd_go r1 d1 hh t1 (kk.on x1)
theorem de_call0 {hand : Addr → Prop} {J : Hp → Prop} (F : FnG X.prog X.w X.K X.mg X.base CX0 k f fd ps (spD X.K hand J spec)) (room : Room k X.A) (guard : X.A.guards = some [])
    (hg : Gl X x) (hm : X.mg x = some (.ref f)) (kp : PySem.W.keepIn X.K (.ref f) = true) (hb : Binds X.K fd ps []) (hh : (hand = noHand ∧ J = noJ) ∨ (hand = dx.hand ∧ J = dx.J))
    (hdb : (x == ("__debug__" : Str)) = false := by decide) :
    DE X dx (.Call (.Name x p) [] [] pos) (tCall (spD X.K hand J spec) [] (fun _ _ _ => False) tNil) (dCall spec dNil) := by
  refine ⟨pe_callG0 F room guard hg hm kp hb .nil pass0 hdb, fun σ H δ S Q Qh r s t kk => ?_⟩
  exact spd_go (vs := [] ++ []) (E := fun _ _ _ => False) r .nil hh t kk
/-- the values of keywords put into the parameters' order -/
structure KOrd (gV : List V → List V → List V) (gD : List D → List D → List D) : Prop where
  all : ∀ {K : PySem.W.Frag} {M : Mm} {H : Hp} {vs ws : List V} {ds es : List D}, DtAll K M H vs ds → DtAll K M H ws es → DtAll K M H (gV vs ws) (gD ds es)
def dCallK (spec : DSpec) (gD : List D → List D → List D) (fa fk : DTA) : DTE := fun δ S Q => fa δ S fun ds S1 => fk δ S1 fun es S2 => spec (gD ds es) fun d => Q d S2
variable {g : List Value → List Value → List Value} {gV : List V → List V → List V} {gD : List D → List D → List D}
/-- f(a, .., n = b, ..) -/
theorem de_callK {hand : Addr → Prop} {J : Hp → Prop} (F : FnG X.prog X.w X.K X.mg X.base CX0 k f fd ps (spD X.K hand J spec)) (room : Room k X.A) (guard : X.A.guards = some [])
    (hg : Gl X x) (hm : X.mg x = some (.ref f)) (kp : PySem.W.keepIn X.K (.ref f) = true) (hb : KBinds X.K fd ps ks g gV) (ho : KOrd gV gD) (hh : (hand = noHand ∧ J = noJ) ∨ (hand = dx.hand ∧ J = dx.J)) (ha : DA X dx (e :: es) ta fa) (hk : DK X dx kws tk fk)
    (hall : (backToKw pos (keywordEach kws X.env)).all (·.1.isSome) = true := by rfl)
    (hks : (backToKw pos (keywordEach kws X.env)).filterMap (·.1) = ks := by rfl)
    (hdb : (x == ("__debug__" : Str)) = false := by decide)
    (he : starEach (e :: es) X.env = (false, eval e X.env) :: starEach es X.env := by rfl)
    (hpl : ((backTo pos (starEach (e :: es) X.env)).any (·.1) || (backToKw pos (keywordEach kws X.env)).any (·.1.isNone)) = false := by rfl) :
    DE X dx (.Call (.Name x p) (e :: es) kws pos) (tCallK (spD X.K hand J spec) gV (fun _ _ _ => False) ta tk) (dCallK spec gD fa fk) := by
  refine ⟨pe_callGK F room guard hg hm kp hb pass0 ha.pe hk.pe hall hks hdb he hpl, fun σ H δ S Q Qh r s t kk => ?_⟩
  refine ha.go σ H δ S _ _ r s t fun vs H1 ds S1 r1 x1 d1 t1 => ?_
  refine hk.go σ H1 δ S1 _ _ r1 (s.ext x1) t1 fun ws H2 es S2 r2 x2 d2 t2 => ?_
  exact spd_go r2 (ho.all (d1.ext x2) d2) hh t2 (kk.on (x1.trans x2))
/-- f(n = b, ..) -/
theorem de_callK0 {hand : Addr → Prop} {J : Hp → Prop} (F : FnG X.prog X.w X.K X.mg X.base CX0 k f fd ps (spD X.K hand J spec)) (room : Room k X.A) (guard : X.A.guards = some [])
    (hg : Gl X x) (hm : X.mg x = some (.ref f)) (kp : PySem.W.keepIn X.K (.ref f) = true) (hb : KBinds X.K fd ps ks g gV) (ho : KOrd gV gD) (hh : (hand = noHand ∧ J = noJ) ∨ (hand = dx.hand ∧ J = dx.J)) (hk : DK X dx kws tk fk)
    (hall : (backToKw pos (keywordEach kws X.env)).all (·.1.isSome) = true := by rfl)
    (hks : (backToKw pos (keywordEach kws X.env)).filterMap (·.1) = ks := by rfl)
    (hdb : (x == ("__debug__" : Str)) = false := by decide)
    (hpl : ((backTo pos (starEach [] X.env)).any (·.1) || (backToKw pos (keywordEach kws X.env)).any (·.1.isNone)) = false := by rfl) :
    DE X dx (.Call (.Name x p) [] kws pos) (tCallK (spD X.K hand J spec) gV (fun _ _ _ => False) tNil tk) (dCallK spec gD dNil fk) := by
  refine ⟨pe_callGK0 F room guard hg hm kp hb pass0 hk.pe hall hks hdb hpl, fun σ H δ S Q Qh r s t kk => ?_⟩
  refine hk.go σ H δ S _ _ r s t fun ws H2 es S2 r2 x2 d2 t2 => ?_
  exact spd_go r2 (ho.all .nil d2) hh t2 (kk.on x2)

/-! ### built-ins -/
def CallD (K : PySem.W.Frag) (dx : Dx) (r : List V → Hp → VK → Prop) (f : List D → Sto → (D → Sto → Prop) → Prop) : Prop :=
  ∀ vs ds H S Q Qh, HR K dx H S → DtAll K (Mu dx S) H vs ds → f ds S Q → ThE K dx H S Q Qh → r vs H Qh
def dCB (f : List D → Sto → (D → Sto → Prop) → Prop) (fa : DTA) : DTE := fun δ S Q => fa δ S fun ds S1 => f ds S1 Q
theorem cb_go {r : List V → Hp → VK → Prop} {f} (o : CallD X.K dx r f) (ha : DA X dx es ta fa) :
    ∀ σ H δ S Q Qh, HR X.K dx H S → SR X.K dx σ H δ S → dCB f fa δ S Q → ThE X.K dx H S Q Qh → tCB r ta σ H Qh :=
  fun σ H δ S Q Qh r0 s0 t kk => ha.go σ H δ S _ _ r0 s0 t fun vs H1 ds S1 r1 x1 d1 t1 => o vs ds H1 S1 Q Qh r1 d1 t1 (kk.on x1)
theorem de_callB {id : String} {r : List V → Hp → VK → Prop} {f} (hc : CallR X (.builtin id) r) (o : CallD X.K dx r f) (hg : Gl X x) (hm : X.mg x = none) (hv : bootBuiltins x = some (.builtin id)) (ha : DA X dx (e :: es) ta fa)
    (h : PE X (.Call (.Name x p) (e :: es) [] pos) (tCB r ta) := by exact pe_callB (by assumption) (by assumption) (by assumption) (by assumption) (DA.pe (by assumption))) :
    DE X dx (.Call (.Name x p) (e :: es) [] pos) (tCB r ta) (dCB f fa) := ⟨h, cb_go o ha⟩
theorem de_callTy {id : String} {r : List V → Hp → VK → Prop} {f} (hc : CallR X (.type id) r) (o : CallD X.K dx r f) (hg : Gl X x) (hm : X.mg x = none) (hv : bootBuiltins x = some (.type id)) (ha : DA X dx (e :: es) ta fa)
    (h : PE X (.Call (.Name x p) (e :: es) [] pos) (tCB r ta) := by exact pe_callTy (by assumption) (by assumption) (by assumption) (by assumption) (DA.pe (by assumption))) :
    DE X dx (.Call (.Name x p) (e :: es) [] pos) (tCB r ta) (dCB f fa) := ⟨h, cb_go o ha⟩
end
end DL
/-! Readings over data: operators. -/
namespace DL
open PySem PySem.Spec L2 Gd

theorem tm_one (l : Addr) (items : Array Value) (n : Nat) (dd : Option Addr) (sl : Array (Option Value)) (u : Tok) :
    Meets (Builtin.«tuple.__mul__» ⟨[.ref l, .int 1 u], []⟩) (fun _ R s => s.heap.get? l = some { cls := .type "tuple", dict := dd, data := .seq items n, slots := sl } ∧
      R (.ok (.ret (Value.ref l))) s) :=
  .of_wp fun prog w A R s h => by
    obtain ⟨hp, g, d, tk, os⟩ := s
    obtain ⟨hl, h⟩ := h
    have f1 := AutoSeq1.idx_int
    wp_walk using wpAny_loadPart' hl
    exact ⟨_, rfl, h⟩
theorem tm_zero (l : Addr) (items : Array Value) (n : Nat) (dd : Option Addr) (sl : Array (Option Value)) (u : Tok) (he : items.isEmpty = false) :
    Meets (Builtin.«tuple.__mul__» ⟨[.ref l, .int 0 u], []⟩) (fun _ R s => s.heap.get? l = some { cls := .type "tuple", dict := dd, data := .seq items n, slots := sl } ∧
      R (.ok (.ret (Value.ref s.heap.objs.size))) { s with heap := s.heap.push { cls := Value.type "tuple", data := Data.seq #[] }, toks := s.toks }) :=
  .of_wp fun prog w A R s h => by
    obtain ⟨hp, g, d, tk, os⟩ := s
    obtain ⟨hl, h⟩ := h
    have f1 := AutoSeq1.idx_int
    have c1 : (items.isEmpty || (0 : Int) == 1) = false := by rw [he]; rfl
    wp_walk using wpAny_loadPart' hl
    repeat (first
      | (refine wpAny_ite_false (decide_eq_false (by rw [c1]; exact Bool.false_ne_true)) ?_; wp_walk using wpAny_loadPart' hl))
    exact ⟨_, rfl, h⟩
section
variable {X : Cx} {dx : Dx} {K : PySem.W.Frag}
/-- t * 0, t * 1 -/
def rRep01 (K : PySem.W.Frag) : R2 := fun x y H Q => ∃ l k xs, x = .ref l ∧ y = .int k ∧ SqT K H l xs ∧ xs ≠ [] ∧
  ((k = 1 ∧ Q (.ref l) H) ∨ (k = 0 ∧ ∀ p, H p = none → Q (.ref p) (upd H p (.tup []))))
theorem op_rep01 : OpR X (binaryOp .Mult) (rRep01 X.K) := by
  intro pins s σ H x y v u Q I rx ry h
  obtain ⟨l, k, xs, rfl, rfl, hT, hne, q⟩ := h
  cases rx
  obtain ⟨t, rfl⟩ := ry
  obtain ⟨its, r, ⟨⟨cls, dd, data, sl⟩, ho, hc, n, hd⟩, hs⟩ := I.tuple hT
  simp only at hc hd
  subst hc hd
  have hi : its.toArray.isEmpty = false := by
    cases r with
    | nil => exact absurd rfl hne
    | cons _ _ => rfl
  rcases q with ⟨rfl, q⟩ | ⟨rfl, q⟩
  · refine wpAny_binaryOp_repeat_ref (T := "tuple") (U := "int") (by decide) ⟨_, ho, rfl⟩ (fun s' => typeIs_int s' 1 t) noFill_tuple_mul F.fills_int_mul F.slot_int_rmul repeat_tuple F.slot_int_index.lookup
      (call_meets F.slot_int_rmul (typeIs_int s 1 t) F.entry_int_rmul (F.args_int_rmul_2 _ _) (int_rmul_tuple 1 t l its.toArray n dd sl)
        ⟨ho, rfl, ⟨_, ho, rfl⟩, call_meets F.slot_tuple_mul ⟨_, ho, rfl⟩ F.entry_tuple_mul (F.args_tuple_mul_2 _ _) (tm_one l its.toArray n dd sl t) ⟨ho, ?_⟩⟩)
    exact ⟨.ref l, H, I, rfl, q⟩
  · refine wpAny_binaryOp_repeat_ref (T := "tuple") (U := "int") (by decide) ⟨_, ho, rfl⟩ (fun s' => typeIs_int s' 0 t) noFill_tuple_mul F.fills_int_mul F.slot_int_rmul repeat_tuple F.slot_int_index.lookup
      (call_meets F.slot_int_rmul (typeIs_int s 0 t) F.entry_int_rmul (F.args_int_rmul_2 _ _) (int_rmul_tuple 0 t l its.toArray n dd sl)
        ⟨ho, rfl, ⟨_, ho, rfl⟩, call_meets F.slot_tuple_mul ⟨_, ho, rfl⟩ F.entry_tuple_mul (F.args_tuple_mul_2 _ _) (tm_zero l its.toArray n dd sl t hi) ⟨ho, ?_⟩⟩)
    refine ⟨.ref s.heap.objs.size, _, I.laid (t' := s.toks) (o := .tup []) (fun b ob e => Heap.get?_push_of_some _ e) (Nat.le_refl _) ?_, rfl, q _ (I.hok.fresh (Nat.le_refl _))⟩
    exact ⟨Nat.zero_le _, [], .nil, PyProof.Rows.IsTup.new _ _⟩

/-! ### + -/
/-- the items of a list -/
def asL (S : Sto) : D → Option (List D)
  | .lst ds => some ds
  | .adr p => getS S p
  | _ => none
theorem asL_at {H : Hp} {S : Sto} {x : V} {d : D} {ds : List D} (r : HR K dx H S) (h : Dt K (Mu dx S) H x d) (e : asL S d = some ds) : ∃ p vs, x = .ref p ∧ H p = some (.lst vs) ∧ DtAll K (Mu dx S) H vs ds := by
  cases h with
  | lst n h a =>
    have e : some _ = some ds := e
    cases e
    exact ⟨_, _, rfl, h, a⟩
  | adr p =>
    obtain ⟨_, vs, eh, al⟩ := r.get e
    exact ⟨p, vs, rfl, eh, al⟩
  | _ => cases e
def fAddL (p q : D) (S : Sto) (Q : D → Sto → Prop) : Prop := opt (asL S p) fun xs => opt (asL S q) fun ys => Fit (xs.length + ys.length) ∧ Q (.lst (xs ++ ys)) S
def fAdd : F2
  | .int i, .int j, S, Q => Q (.int (i + j)) S
  | .str x, .str y, S, Q => Fit (x.length + y.length) ∧ Q (.str (x ++ y)) S
  | .tup xs, .tup ys, S, Q => Fit (xs.length + ys.length) ∧ Q (.tup (xs ++ ys)) S
  | p, q, S, Q => fAddL p q S Q
def rAdd (K : PySem.W.Frag) : R2 := fun x y H Q => (∃ i j, x = .int i ∧ y = .int j ∧ Q (.int (i + j)) H) ∨ (∃ i j, x = .str i ∧ y = .str j ∧ i.length + j.length ≤ sizeLine ∧ Q (.str (i ++ j)) H) ∨ rCatA K x y H Q ∨ rCat x y H Q
theorem op_addAll : OpR X (binaryOp .Add) (DL.rAdd X.K) := op_add.or (op_add_str.or (op_catA.or op_cat))
theorem od_add : OpD K dx (DL.rAdd K) fAdd := by
  have lists : ∀ x y p q H S Q Qh, HR K dx H S → Dt K (Mu dx S) H x p → Dt K (Mu dx S) H y q → fAddL p q S Q → ThE K dx H S Q Qh → rCat x y H Qh := by
    intro x y p q H S Q Qh r hx hy t k
    obtain ⟨xs, e1, t⟩ := opt_run t
    obtain ⟨ys, e2, t⟩ := opt_run t
    obtain ⟨l, vs, rfl, h1, a1⟩ := asL_at r hx e1
    obtain ⟨b, ws, rfl, h2, a2⟩ := asL_at r hy e2
    refine ⟨l, b, vs, ws, rfl, rfl, h1, h2, by rw [a1.length, a2.length]; exact t.1.line, fun z n => ?_⟩
    obtain ⟨r2, x2, d2⟩ := new_lst r n (a1.append a2)
    exact k _ _ _ S r2 x2 d2 t.2
  have tups : ∀ x y xs ys H S Q Qh, HR K dx H S → Dt K (Mu dx S) H x (.tup xs) → Dt K (Mu dx S) H y (.tup ys) → Fit (xs.length + ys.length) ∧ Q (.tup (xs ++ ys)) S → ThE K dx H S Q Qh → rCatA K x y H Qh := by
    intro x y xs ys H S Q Qh r hx hy t k
    obtain ⟨a, vs, rfl, h1, a1⟩ := hx.sqT
    obtain ⟨b, ws, rfl, h2, a2⟩ := hy.sqT
    refine ⟨a, b, vs, ws, rfl, rfl, h1, h2, by rw [a1.length, a2.length]; exact t.1.line, fun e => ?_, fun _ e => ?_, fun _ _ z n => ?_⟩
    · subst e
      cases a1
      exact k _ H _ S r Ext.refl hy t.2
    · subst e
      cases a2
      have t2 := t.2
      rw [List.append_nil] at t2
      exact k _ H _ S r Ext.refl hx t2
    · obtain ⟨r2, x2, d2⟩ := new_tup r n (a1.append a2)
      exact k _ _ _ S r2 x2 d2 t.2
  intro x y p q H S Q Qh r hx hy t k
  cases p with
  | int i =>
    cases q with
    | int j =>
      cases hx
      cases hy
      exact .inl ⟨i, j, rfl, rfl, k _ H _ S r Ext.refl (.int _) t⟩
    | _ => exact .inr (.inr (.inr (lists _ _ _ _ H S Q Qh r hx hy t k)))
  | str i =>
    cases q with
    | str j =>
      cases hx
      cases hy
      exact .inr (.inl ⟨i, j, rfl, rfl, t.1.line, k _ H _ S r Ext.refl (.str _) t.2⟩)
    | _ => exact .inr (.inr (.inr (lists _ _ _ _ H S Q Qh r hx hy t k)))
  | tup xs =>
    cases q with
    | tup ys => exact .inr (.inr (.inl (tups _ _ _ _ H S Q Qh r hx hy t k)))
    | _ => exact .inr (.inr (.inr (lists _ _ _ _ H S Q Qh r hx hy t k)))
  | _ => cases q <;> exact .inr (.inr (.inr (lists _ _ _ _ H S Q Qh r hx hy t k)))

/-! ### numbers -/
def onI (C : Int → Int → Prop) (g : Int → Int → D) : F2
  | .int i, .int j, S, Q => C i j ∧ Q (g i j) S
  | _, _, _, _ => False
theorem od_onI {C : Int → Int → Prop} {g : Int → Int → Int} : OpD K dx (rI C fun i j => .int (g i j)) (onI C fun i j => .int (g i j)) := by
  intro x y p q H S Q Qh r hx hy t k
  cases hx with
  | int i =>
    cases hy with
    | int j => exact ⟨i, j, rfl, rfl, t.1, k _ H _ S r Ext.refl (.int _) t.2⟩
    | _ => exact t.elim
  | _ => cases hy <;> exact t.elim
def onI0 (g : Int → Int → D) : F2
  | .int i, .int j, S, Q => Q (g i j) S
  | _, _, _, _ => False
theorem od_onI0 {g : Int → Int → Int} : OpD K dx (rI0 fun i j => .int (g i j)) (onI0 fun i j => .int (g i j)) := by
  intro x y p q H S Q Qh r hx hy t k
  cases hx with
  | int i =>
    cases hy with
    | int j => exact ⟨i, j, rfl, rfl, k _ H _ S r Ext.refl (.int _) t⟩
    | _ => exact t.elim
  | _ => cases hy <;> exact t.elim
theorem od_onB {g : Int → Int → Bool} : OpD K dx (rI0 fun i j => .bl (g i j)) (onI0 fun i j => .bl (g i j)) := by
  intro x y p q H S Q Qh r hx hy t k
  cases hx with
  | int i =>
    cases hy with
    | int j => exact ⟨i, j, rfl, rfl, k _ H _ S r Ext.refl (.bl _) t⟩
    | _ => exact t.elim
  | _ => cases hy <;> exact t.elim
def fSub : F2 := onI0 fun i j => .int (i - j)
def fLt : F2 := onI0 fun i j => .bl (decide (i < j))
def fLe : F2 := onI0 fun i j => .bl (decide (i ≤ j))
def fGt : F2 := onI0 fun i j => .bl (decide (j < i))
def fGe : F2 := onI0 fun i j => .bl (decide (j ≤ i))
def MOk (i j : Int) : Prop := CMul i j ∨ CMulW i j
/-- a product of which one side is small -/
theorem MOk.left {i j : Int} (h : -(2 ^ 64) < i ∧ i < 2 ^ 64) : MOk i j := .inl (.inl h)
theorem MOk.right {i j : Int} (h : -(2 ^ 64) < j ∧ j < 2 ^ 64) : MOk i j := .inl (.inr h)
def fMul : F2
  | .int i, .int j, S, Q => MOk i j ∧ Q (.int (i * j)) S
  | .tup ds, .int k, S, Q => ds ≠ [] ∧ 0 ≤ k ∧ k ≤ 1000 ∧ ds.length ≤ 1000 ∧ Q (.tup (List.replicate k.toNat ds).flatten) S
  | .lst ds, .int k, S, Q => -(2 ^ 63) ≤ k ∧ k < 2 ^ 63 ∧ Fit (ds.length * k.toNat) ∧ Q (.lst (List.replicate k.toNat ds).flatten) S
  | _, _, _, _ => False
def rMul (K : PySem.W.Frag) : R2 := fun x y H Q => rI CMul (fun i j => .int (i * j)) x y H Q ∨ rI CMulW (fun i j => .int (i * j)) x y H Q ∨ rRep01 K x y H Q ∨ rRepT K x y H Q ∨ rRep x y H Q
theorem op_mulAll : OpR X (binaryOp .Mult) (rMul X.K) := op_mul.or (op_mulW.or (op_rep01.or (op_repT.or op_rep)))
theorem od_mul : OpD K dx (rMul K) fMul := by
  intro x y p q H S Q Qh r hx hy t k
  cases hy with
  | int j =>
    cases p with
    | int i =>
      cases hx
      rcases t with ⟨t | t, q⟩
      · exact .inl ⟨i, j, rfl, rfl, t, k _ H _ S r Ext.refl (.int _) q⟩
      · exact .inr (.inl ⟨i, j, rfl, rfl, t, k _ H _ S r Ext.refl (.int _) q⟩)
    | tup ds =>
      obtain ⟨ne, h0, h1, h2, q⟩ := t
      obtain ⟨a, vs, rfl, hT, al⟩ := hx.sqT
      have nv : vs ≠ [] := fun e => ne (by subst e; cases al; rfl)
      by_cases c0 : j = 0
      · subst c0
        refine .inr (.inr (.inl ⟨a, 0, vs, rfl, rfl, hT, nv, .inr ⟨rfl, fun z n => ?_⟩⟩))
        obtain ⟨r2, x2, d2⟩ := new_tup (ds := []) r n .nil
        exact k _ _ _ S r2 x2 d2 q
      · by_cases c1 : j = 1
        · subst c1
          have q : Q (.tup (List.replicate 1 ds).flatten) S := q
          rw [List.replicate_one, List.flatten_singleton] at q
          exact .inr (.inr (.inl ⟨a, 1, vs, rfl, rfl, hT, nv, .inl ⟨rfl, k _ H _ S r Ext.refl hx q⟩⟩))
        · refine .inr (.inr (.inr (.inl ⟨a, j, vs, rfl, rfl, hT, nv, by omega, h1, by rw [al.length]; exact h2, fun z n => ?_⟩)))
          obtain ⟨r2, x2, d2⟩ := new_tup r n (al.rep j.toNat)
          exact k _ _ _ S r2 x2 d2 q
    | lst ds =>
      obtain ⟨h0, h1, h2, q⟩ := t
      obtain ⟨a, vs, rfl, _, hl, al⟩ := hx.sqL
      refine .inr (.inr (.inr (.inr ⟨a, j, vs, rfl, rfl, hl, h0, h1, by rw [al.length]; exact h2.line, fun z n => ?_⟩)))
      obtain ⟨r2, x2, d2⟩ := new_lst r n (al.rep j.toNat)
      exact k _ _ _ S r2 x2 d2 q
    | _ => exact t.elim
  | _ => cases hx <;> exact t.elim
def fMod : F2 := onI (fun _ j => 0 < j) fun i j => .int (i % j)
def fDiv : F2 := onI CDivW fun i j => .int (i / j)
def fPow : F2 := onI CPow fun i j => .int (i ^ j.toNat)
def fAnd : F2 := onI0 fun i j => .int (Builtin.bitAnd i j)
def fOr : F2 := onI0 fun i j => .int (Builtin.bitOr i j)
def fXor : F2 := onI0 fun i j => .int (Builtin.bitXor i j)
def fShl : F2 := onI CPow fun i j => .int (i * 2 ^ j.toNat)
theorem ip_addI : OpD K dx (ipI fun i j => i + j) (onI0 fun i j => .int (i + j)) := by
  intro x y p q H S Q Qh r hx hy t k
  cases hx with
  | int i =>
    cases hy with
    | int j => exact ⟨i, j, rfl, rfl, k _ H _ S r Ext.refl (.int _) t⟩
    | _ => exact t.elim
  | _ => cases hy <;> exact t.elim
theorem ip_subI : OpD K dx (ipI fun i j => i - j) (onI0 fun i j => .int (i - j)) := by
  intro x y p q H S Q Qh r hx hy t k
  cases hx with
  | int i =>
    cases hy with
    | int j => exact ⟨i, j, rfl, rfl, k _ H _ S r Ext.refl (.int _) t⟩
    | _ => exact t.elim
  | _ => cases hy <;> exact t.elim

/-! ### is None -/
def fIsN : F2
  | p, .non, S, Q => Q (.bl (match p with | .non => true | _ => false)) S
  | _, _, _, _ => False
def fNotN : F2
  | p, .non, S, Q => Q (.bl (match p with | .non => false | _ => true)) S
  | _, _, _, _ => False
theorem od_isN : OpD K dx (fun x y H Q => y = .non ∧ Q (.bl (decide (x = .non))) H) fIsN := by
  intro x y p q H S Q Qh r hx hy t k
  cases hy with
  | non =>
    refine ⟨rfl, ?_⟩
    cases hx <;> exact k _ H _ S r Ext.refl (.bl _) t
  | _ => cases p <;> exact t.elim
theorem od_notN : OpD K dx (fun x y H Q => y = .non ∧ Q (.bl (!decide (x = .non))) H) fNotN := by
  intro x y p q H S Q Qh r hx hy t k
  cases hy with
  | non =>
    refine ⟨rfl, ?_⟩
    cases hx <;> exact k _ H _ S r Ext.refl (.bl _) t
  | _ => cases p <;> exact t.elim
end
end DL
/-! Readings over data: ==, repr, built-ins. -/
namespace DL
open PySem PySem.Spec L2 Gd

mutual
def py : D → PyData
  | .non => .none
  | .bl b => .bool b
  | .int i => .int i
  | .str x => .str x
  | .tup ds => .tuple (pyAll ds)
  | .lst ds => .list (pyAll ds)
  | .fls ns => .list (ns.map .int)
  | .adr _ => .none
  | .dic _ _ => .none
  | .obj _ _ _ => .none
def pyAll : List D → List PyData
  | [] => []
  | d :: ds => py d :: pyAll ds
end
/-- data without addresses, at most n deep -/
def dn : Nat → D → Bool
  | _, .non => true
  | _, .bl _ => true
  | _, .int _ => true
  | _, .str x => PyData.strOk x
  | n + 1, .tup ds => ds.all (dn n)
  | n + 1, .lst ds => ds.all (dn n)
  | _, _ => false
/-- .. and without True and False -/
def nb : Nat → D → Bool
  | _, .non => true
  | _, .int _ => true
  | _, .str x => PyData.strOk x
  | n + 1, .tup ds => ds.all (nb n)
  | n + 1, .lst ds => ds.all (nb n)
  | _, _ => false
theorem nb_dn : ∀ {n : Nat} {d : D}, nb n d = true → dn n d = true
  | _, .non, _ => by cases ‹Nat› <;> rfl
  | _, .int _, _ => by cases ‹Nat› <;> rfl
  | 0, .str _, h => h
  | _ + 1, .str _, h => h
  | n + 1, .tup ds, h => List.all_eq_true.mpr fun x m => nb_dn (List.all_eq_true.mp h x m)
  | n + 1, .lst ds, h => List.all_eq_true.mpr fun x m => nb_dn (List.all_eq_true.mp h x m)
  | 0, .tup _, h => by cases h
  | 0, .lst _, h => by cases h
  | 0, .bl _, h => by cases h
  | _ + 1, .bl _, h => by cases h
  | 0, .adr _, h => by cases h
  | _ + 1, .adr _, h => by cases h
  | 0, .fls _, h => by cases h
  | _ + 1, .fls _, h => by cases h
  | 0, .dic _ _, h => by cases h
  | _ + 1, .dic _ _, h => by cases h
  | 0, .obj _ _ _, h => by cases h
  | _ + 1, .obj _ _ _, h => by cases h
section
variable {K : PySem.W.Frag} {M : Mm} {H : Hp}
mutual
theorem dp_of : ∀ {n : Nat} {v : V} {d : D}, Dt K M H v d → dn n d = true → Dp K H v (py d)
  | _, _, _, .non, _ => .non
  | _, _, _, .bl b, _ => .bl b
  | _, _, _, .int i, _ => .int i
  | _, _, _, .str x, _ => .str x
  | n + 1, _, _, .tup _ h a, q => .tup (.inl h) (dpAll_of a (n := n) (List.all_eq_true.mp q))
  | n + 1, _, _, .ktup h a, q => .tup (.inr h) (dpAll_of a (n := n) (List.all_eq_true.mp q))
  | n + 1, _, _, .lst _ h a, q => .lst (SqL.of h) (dpAll_of a (n := n) (List.all_eq_true.mp q))
  | 0, _, _, .tup _ _ _, q => by cases q
  | 0, _, _, .ktup _ _, q => by cases q
  | 0, _, _, .lst _ _ _, q => by cases q
  | 0, _, _, .fls _ _, q => by cases q
  | _ + 1, _, _, .fls _ _, q => by cases q
  | 0, _, _, .kfls _, q => by cases q
  | _ + 1, _, _, .kfls _, q => by cases q
  | 0, _, _, .adr _, q => by cases q
  | _ + 1, _, _, .adr _, q => by cases q
  | 0, _, _, .dic _ _ _ _, q => by cases q
  | _ + 1, _, _, .dic _ _ _ _, q => by cases q
  | 0, _, _, .obj _ _ _ _ _, q => by cases q
  | _ + 1, _, _, .obj _ _ _ _ _, q => by cases q
theorem dpAll_of : ∀ {n : Nat} {vs : List V} {ds : List D}, DtAll K M H vs ds → (∀ x ∈ ds, dn n x = true) → DpAll K H vs (pyAll ds)
  | _, _, _, .nil, _ => .nil
  | _, _, _, .cons h t, q => .cons (dp_of h (q _ List.mem_cons_self)) (dpAll_of t fun x m => q x (List.mem_cons_of_mem _ m))
end
end
mutual
theorem py_can : ∀ {n : Nat} {d : D}, dn n d = true → (py d).canLay0 = true
  | _, .non, _ => by simp [py, PyData.canLay0]
  | _, .bl _, _ => by simp [py, PyData.canLay0]
  | _, .int _, _ => by simp [py, PyData.canLay0]
  | 0, .str x, h => by
    simp only [py, PyData.canLay0]
    exact h
  | _ + 1, .str x, h => by
    simp only [py, PyData.canLay0]
    exact h
  | n + 1, .tup ds, h => by
    simp only [py, PyData.canLay0]
    exact pyAll_can (n := n) (List.all_eq_true.mp h)
  | n + 1, .lst ds, h => by
    simp only [py, PyData.canLay0]
    exact pyAll_can (n := n) (List.all_eq_true.mp h)
  | 0, .tup _, h => by cases h
  | 0, .lst _, h => by cases h
  | 0, .adr _, h => by cases h
  | _ + 1, .adr _, h => by cases h
  | 0, .fls _, h => by cases h
  | _ + 1, .fls _, h => by cases h
  | 0, .dic _ _, h => by cases h
  | _ + 1, .dic _ _, h => by cases h
  | 0, .obj _ _ _, h => by cases h
  | _ + 1, .obj _ _ _, h => by cases h
theorem pyAll_can : ∀ {n : Nat} {ds : List D}, (∀ x ∈ ds, dn n x = true) → PyData.canLayAll0 (pyAll ds) = true
  | _, [], _ => by simp [pyAll, PyData.canLayAll0]
  | n, d :: ds, h => by
    simp only [pyAll, PyData.canLayAll0, Bool.and_eq_true]
    exact ⟨py_can (h _ List.mem_cons_self), pyAll_can fun x m => h x (List.mem_cons_of_mem _ m)⟩
end
mutual
theorem py_depth : ∀ {n : Nat} {d : D}, dn n d = true → (py d).depth ≤ n
  | _, .non, _ => by simp [py, PyData.depth]
  | _, .bl _, _ => by simp [py, PyData.depth]
  | _, .int _, _ => by simp [py, PyData.depth]
  | 0, .str x, h => by simp [py, PyData.depth]
  | _ + 1, .str x, h => by simp [py, PyData.depth]
  | n + 1, .tup ds, h => by
    simp only [py, PyData.depth]
    exact Nat.succ_le_succ (pyAll_depth (n := n) (List.all_eq_true.mp h))
  | n + 1, .lst ds, h => by
    simp only [py, PyData.depth]
    exact Nat.succ_le_succ (pyAll_depth (n := n) (List.all_eq_true.mp h))
  | 0, .tup _, h => by cases h
  | 0, .lst _, h => by cases h
  | 0, .adr _, h => by cases h
  | _ + 1, .adr _, h => by cases h
  | 0, .fls _, h => by cases h
  | _ + 1, .fls _, h => by cases h
  | 0, .dic _ _, h => by cases h
  | _ + 1, .dic _ _, h => by cases h
  | 0, .obj _ _ _, h => by cases h
  | _ + 1, .obj _ _ _, h => by cases h
theorem pyAll_depth : ∀ {n : Nat} {ds : List D}, (∀ x ∈ ds, dn n x = true) → PyData.depthAll (pyAll ds) ≤ n
  | _, [], _ => by simp [pyAll, PyData.depthAll]
  | n, d :: ds, h => by
    simp only [pyAll, PyData.depthAll]
    exact Nat.max_le.mpr ⟨py_depth (h _ List.mem_cons_self), pyAll_depth fun x m => h x (List.mem_cons_of_mem _ m)⟩
end
theorem py_shaped {d : D} (h : dn 40 d = true) : SeqAt.shaped (py d) = true := by
  unfold SeqAt.shaped
  rw [py_can h, Bool.true_and]
  have := py_depth h
  exact decide_eq_true (by omega)
def deq (a b : D) : Bool := PyData.eqv (py a) (py b)
theorem deq_refl {n : Nat} {d : D} (h : dn n d = true) : deq d d = true := SeqAt.eqv_refl _ (py_can h)
mutual
theorem eqv_eq : ∀ {n : Nat} {a b : D}, nb n a = true → nb n b = true → PyData.eqv (py a) (py b) = true → a = b
  | _, .non, .non, _, _, _ => rfl
  | _, .int i, .int j, _, _, h => by
    simp only [py, PyData.eqv, beq_iff_eq] at h
    rw [h]
  | _, .str x, .str y, _, _, h => by
    simp only [py, PyData.eqv, beq_iff_eq] at h
    rw [h]
  | n + 1, .tup xs, .tup ys, ha, hb, h => by
    simp only [py, PyData.eqv] at h
    rw [eqvAll_eq (n := n) (List.all_eq_true.mp ha) (List.all_eq_true.mp hb) h]
  | n + 1, .lst xs, .lst ys, ha, hb, h => by
    simp only [py, PyData.eqv] at h
    rw [eqvAll_eq (n := n) (List.all_eq_true.mp ha) (List.all_eq_true.mp hb) h]
  | 0, .bl _, _, h, _, _ => by cases h
  | _ + 1, .bl _, _, h, _, _ => by cases h
  | 0, .fls _, _, h, _, _ => by cases h
  | _ + 1, .fls _, _, h, _, _ => by cases h
  | 0, .adr _, _, h, _, _ => by cases h
  | _ + 1, .adr _, _, h, _, _ => by cases h
  | 0, .tup _, _, h, _, _ => by cases h
  | 0, .lst _, _, h, _, _ => by cases h
  | 0, _, .bl _, _, h, _ => by cases h
  | _ + 1, _, .bl _, _, h, _ => by cases h
  | 0, _, .fls _, _, h, _ => by cases h
  | _ + 1, _, .fls _, _, h, _ => by cases h
  | 0, _, .adr _, _, h, _ => by cases h
  | _ + 1, _, .adr _, _, h, _ => by cases h
  | 0, _, .tup _, _, h, _ => by cases h
  | 0, _, .lst _, _, h, _ => by cases h
  | 0, .dic _ _, _, h, _, _ => by cases h
  | _ + 1, .dic _ _, _, h, _, _ => by cases h
  | 0, .obj _ _ _, _, h, _, _ => by cases h
  | _ + 1, .obj _ _ _, _, h, _, _ => by cases h
  | 0, _, .dic _ _, _, h, _ => by cases h
  | _ + 1, _, .dic _ _, _, h, _ => by cases h
  | 0, _, .obj _ _ _, _, h, _ => by cases h
  | _ + 1, _, .obj _ _ _, _, h, _ => by cases h
  | _, .non, .int _, _, _, h => by simp [py, PyData.eqv] at h
  | _, .non, .str _, _, _, h => by simp [py, PyData.eqv] at h
  | _ + 1, .non, .tup _, _, _, h => by simp [py, PyData.eqv] at h
  | _ + 1, .non, .lst _, _, _, h => by simp [py, PyData.eqv] at h
  | _, .int _, .non, _, _, h => by simp [py, PyData.eqv] at h
  | _, .int _, .str _, _, _, h => by simp [py, PyData.eqv] at h
  | _ + 1, .int _, .tup _, _, _, h => by simp [py, PyData.eqv] at h
  | _ + 1, .int _, .lst _, _, _, h => by simp [py, PyData.eqv] at h
  | _, .str _, .non, _, _, h => by simp [py, PyData.eqv] at h
  | _, .str _, .int _, _, _, h => by simp [py, PyData.eqv] at h
  | _ + 1, .str _, .tup _, _, _, h => by simp [py, PyData.eqv] at h
  | _ + 1, .str _, .lst _, _, _, h => by simp [py, PyData.eqv] at h
  | _ + 1, .tup _, .non, _, _, h => by simp [py, PyData.eqv] at h
  | _ + 1, .tup _, .int _, _, _, h => by simp [py, PyData.eqv] at h
  | _ + 1, .tup _, .str _, _, _, h => by simp [py, PyData.eqv] at h
  | _ + 1, .tup _, .lst _, _, _, h => by simp [py, PyData.eqv] at h
  | _ + 1, .lst _, .non, _, _, h => by simp [py, PyData.eqv] at h
  | _ + 1, .lst _, .int _, _, _, h => by simp [py, PyData.eqv] at h
  | _ + 1, .lst _, .str _, _, _, h => by simp [py, PyData.eqv] at h
  | _ + 1, .lst _, .tup _, _, _, h => by simp [py, PyData.eqv] at h
theorem eqvAll_eq : ∀ {n : Nat} {xs ys : List D}, (∀ x ∈ xs, nb n x = true) → (∀ x ∈ ys, nb n x = true) → PyData.eqvAll (pyAll xs) (pyAll ys) = true → xs = ys
  | _, [], [], _, _, _ => rfl
  | _, x :: xs, y :: ys, ha, hb, h => by
    simp only [pyAll, PyData.eqvAll, Bool.and_eq_true] at h
    rw [eqv_eq (ha _ List.mem_cons_self) (hb _ List.mem_cons_self) h.1, eqvAll_eq (fun z m => ha z (List.mem_cons_of_mem _ m)) (fun z m => hb z (List.mem_cons_of_mem _ m)) h.2]
  | _, [], _ :: _, _, _, h => by simp [pyAll, PyData.eqvAll] at h
  | _, _ :: _, [], _, _, h => by simp [pyAll, PyData.eqvAll] at h
end
theorem deq_iff {n : Nat} {a b : D} (ha : nb n a = true) (hb : nb n b = true) : deq a b = true ↔ a = b :=
  ⟨eqv_eq ha hb, fun e => e ▸ deq_refl (nb_dn ha)⟩
open Classical in
theorem deq_dec {n : Nat} {a b : D} (ha : nb n a = true) (hb : nb n b = true) : deq a b = decide (a = b) := by
  by_cases h : a = b
  · rw [decide_eq_true h]
    exact (deq_iff ha hb).mpr h
  · rw [decide_eq_false h]
    exact Bool.eq_false_iff.mpr fun e => h ((deq_iff ha hb).mp e)

/-! ### == != -/
def fEqD : F2 := fun a b S Q => dn 40 (frz S a) = true ∧ dn 40 (frz S b) = true ∧ Q (.bl (deq (frz S a) (frz S b))) S
def fNeD : F2 := fun a b S Q => dn 40 (frz S a) = true ∧ dn 40 (frz S b) = true ∧ Q (.bl (!deq (frz S a) (frz S b))) S
def fEq : F2
  | .int i, .int j, S, Q => Q (.bl (decide (i = j))) S
  | .str i, .str j, S, Q => Q (.bl (decide (i = j))) S
  | a, b, S, Q => fEqD a b S Q
def fNe : F2
  | .int i, .int j, S, Q => Q (.bl (!decide (i = j))) S
  | .str i, .str j, S, Q => Q (.bl (!decide (i = j))) S
  | a, b, S, Q => fNeD a b S Q
section
variable {X : Cx} {dx : Dx} {K : PySem.W.Frag}
theorem dp_frz {H : Hp} {S : Sto} {v : V} {d : D} (r : HR K dx H S) (h : Dt K (Mu dx S) H v d) {n : Nat} (q : dn n (frz S d) = true) : Dp K H v (py (frz S d)) := dp_of (frz_ok r h) q
theorem od_eqD : OpD K dx (rEqD K) fEqD := by
  intro x y p q H S Q Qh r hx hy t k
  exact ⟨_, _, dp_frz r hx t.1, dp_frz r hy t.2.1, py_shaped t.1, py_shaped t.2.1, k _ H _ S r Ext.refl (.bl _) t.2.2⟩
theorem od_neD : OpD K dx (rNeD K) fNeD := by
  intro x y p q H S Q Qh r hx hy t k
  exact ⟨_, _, dp_frz r hx t.1, dp_frz r hy t.2.1, py_shaped t.1, py_shaped t.2.1, k _ H _ S r Ext.refl (.bl _) t.2.2⟩
def rEqA (K : PySem.W.Frag) : R2 := fun x y H Q => rEq x y H Q ∨ rEqD K x y H Q
def rNeA (K : PySem.W.Frag) : R2 := fun x y H Q => rNe x y H Q ∨ rNeD K x y H Q
theorem op_eqA (hu : X.A.units + 64 < cLine) : OpR X (compareOp .Eq) (rEqA X.K) := op_eq.or (op_eqD hu)
theorem op_neA (hu : X.A.units + 64 < cLine) : OpR X (compareOp .NotEq) (rNeA X.K) := op_ne.or (op_neD hu)
theorem od_eq : OpD K dx (rEqA K) fEq := by
  intro x y p q H S Q Qh r hx hy t k
  unfold fEq at t
  split at t
  · rename_i i j
    cases hx
    cases hy
    refine .inl ⟨rfl, ?_⟩
    have e : decide (V.int i = V.int j) = decide (i = j) := decide_eq_decide.mpr ⟨fun h => by cases h; rfl, fun h => by rw [h]⟩
    rw [e]
    exact k _ H _ S r Ext.refl (.bl _) t
  · rename_i i j
    cases hx
    cases hy
    refine .inl ⟨rfl, ?_⟩
    have e : decide (V.str i = V.str j) = decide (i = j) := decide_eq_decide.mpr ⟨fun h => by cases h; rfl, fun h => by rw [h]⟩
    rw [e]
    exact k _ H _ S r Ext.refl (.bl _) t
  · exact .inr (od_eqD x y p q H S Q Qh r hx hy t k)
theorem od_ne : OpD K dx (rNeA K) fNe := by
  intro x y p q H S Q Qh r hx hy t k
  unfold fNe at t
  split at t
  · rename_i i j
    cases hx
    cases hy
    refine .inl ⟨rfl, ?_⟩
    have e : decide (V.int i = V.int j) = decide (i = j) := decide_eq_decide.mpr ⟨fun h => by cases h; rfl, fun h => by rw [h]⟩
    rw [e]
    exact k _ H _ S r Ext.refl (.bl _) t
  · rename_i i j
    cases hx
    cases hy
    refine .inl ⟨rfl, ?_⟩
    have e : decide (V.str i = V.str j) = decide (i = j) := decide_eq_decide.mpr ⟨fun h => by cases h; rfl, fun h => by rw [h]⟩
    rw [e]
    exact k _ H _ S r Ext.refl (.bl _) t
  · exact .inr (od_neD x y p q H S Q Qh r hx hy t k)

/-! ### repr -/
mutual
/-- the text has at most so many signs -/
def rsz : D → Nat
  | .non => 4
  | .bl _ => 5
  | .int _ => 1921
  | .str x => 10 * x.length + 2
  | .tup ds => rszAll ds + 4
  | .lst ds => rszAll ds + 4
  | _ => 0
def rszAll : List D → Nat
  | [] => 0
  | d :: ds => rsz d + 2 + rszAll ds
end
mutual
/-- the ints are not too long -/
def ish : D → Bool
  | .int i => decide (i.natAbs < 2 ^ 1900)
  | .tup ds => ishAll ds
  | .lst ds => ishAll ds
  | _ => true
def ishAll : List D → Bool
  | [] => true
  | d :: ds => ish d && ishAll ds
end
end
end DL
/-! Readings over data: repr, built-ins, methods. -/
namespace DL
open PySem PySem.Spec L2 Gd

theorem log_of {i : Int} (h : i.natAbs < 2 ^ 1900) : i.natAbs.log2 < 1920 := by
  by_cases z : i.natAbs = 0
  · rw [z]
    decide
  · have := (Nat.log2_lt z).mpr h
    omega
mutual
theorem py_showable : ∀ {n : Nat} {d : D}, dn n d = true → ish d = true → (py d).showable = true
  | _, .non, _, _ => by simp [py, PyData.showable]
  | _, .bl _, _, _ => by simp [py, PyData.showable]
  | _, .int i, _, h => by
    simp only [py, PyData.showable]
    simp only [ish, decide_eq_true_eq] at h
    exact decide_eq_true (log_of h)
  | _, .str x, h, _ => by simp [py, PyData.showable]
  | n + 1, .tup ds, h, q => by
    simp only [py, PyData.showable]
    simp only [ish] at q
    exact pyAll_showable (n := n) (List.all_eq_true.mp h) q
  | n + 1, .lst ds, h, q => by
    simp only [py, PyData.showable]
    simp only [ish] at q
    exact pyAll_showable (n := n) (List.all_eq_true.mp h) q
  | 0, .tup _, h, _ => by cases h
  | 0, .lst _, h, _ => by cases h
  | 0, .adr _, h, _ => by cases h
  | _ + 1, .adr _, h, _ => by cases h
  | 0, .fls _, h, _ => by cases h
  | _ + 1, .fls _, h, _ => by cases h
  | 0, .dic _ _, h, _ => by cases h
  | _ + 1, .dic _ _, h, _ => by cases h
  | 0, .obj _ _ _, h, _ => by cases h
  | _ + 1, .obj _ _ _, h, _ => by cases h
theorem pyAll_showable : ∀ {n : Nat} {ds : List D}, (∀ x ∈ ds, dn n x = true) → ishAll ds = true → PyData.showableAll (pyAll ds) = true
  | _, [], _, _ => by simp [pyAll, PyData.showableAll]
  | n, d :: ds, h, q => by
    simp only [ishAll, Bool.and_eq_true] at q
    simp only [pyAll, PyData.showableAll, Bool.and_eq_true]
    exact ⟨py_showable (h _ List.mem_cons_self) q.1, pyAll_showable (fun x m => h x (List.mem_cons_of_mem _ m)) q.2⟩
end
theorem join_le (ts : List Str) : (Str.join ", " ts).length ≤ piled ts := by
  cases ts with
  | nil => exact Nat.zero_le _
  | cons a r =>
    have := join_length_add (a :: r) (by simp)
    omega
theorem str_wide {x : Str} (h : PyData.strOk x = true) : ∀ c ∈ x.cps.toList, c < 16 ^ 8 := by
  intro c m
  unfold PyData.strOk at h
  have := Array.all_eq_true_iff_forall_mem.mp h c (Array.mem_toList_iff.mp m)
  have : c < 1114112 := by simpa using this
  omega
mutual
theorem py_len : ∀ {n : Nat} {d : D}, dn n d = true → ish d = true → (py d).shown.length ≤ rsz d
  | _, .non, _, _ => by
    simp only [py, PyData.shown, rsz]
    decide
  | _, .bl b, _, _ => by
    simp only [py, PyData.shown, rsz]
    cases b <;> decide
  | _, .int i, _, h => by
    simp only [py, PyData.shown, rsz]
    simp only [ish, decide_eq_true_eq] at h
    exact PyProof.Rows.int_text_len_1921 (log_of h)
  | 0, .str x, h, _ => by
    simp only [py, PyData.shown, rsz]
    exact StrLaws.reprText_len x (str_wide h)
  | _ + 1, .str x, h, _ => by
    simp only [py, PyData.shown, rsz]
    exact StrLaws.reprText_len x (str_wide h)
  | n + 1, .tup ds, h, q => by
    simp only [ish] at q
    have ih := pyAll_len (n := n) (List.all_eq_true.mp h) q
    have j := join_le (PyData.shownAll (pyAll ds))
    simp only [py, PyData.shown, rsz]
    unfold tupleText
    rw [strLen_append, strLen_append]
    have e1 : ((("(" : String) : Str)).length = 1 := rfl
    have e3 : (((if (PyData.shownAll (pyAll ds)).length == 1 then ",)" else ")" : String) : Str)).length ≤ 2 := by split <;> decide
    omega
  | n + 1, .lst ds, h, q => by
    simp only [ish] at q
    have ih := pyAll_len (n := n) (List.all_eq_true.mp h) q
    have j := join_le (PyData.shownAll (pyAll ds))
    simp only [py, PyData.shown, rsz]
    rw [listText_eq_join, strLen_append, strLen_append]
    have e1 : ((("[" : String) : Str)).length = 1 := rfl
    have e3 : ((("]" : String) : Str)).length = 1 := rfl
    omega
  | 0, .tup _, h, _ => by cases h
  | 0, .lst _, h, _ => by cases h
  | 0, .adr _, h, _ => by cases h
  | _ + 1, .adr _, h, _ => by cases h
  | 0, .fls _, h, _ => by cases h
  | _ + 1, .fls _, h, _ => by cases h
  | 0, .dic _ _, h, _ => by cases h
  | _ + 1, .dic _ _, h, _ => by cases h
  | 0, .obj _ _ _, h, _ => by cases h
  | _ + 1, .obj _ _ _, h, _ => by cases h
theorem pyAll_len : ∀ {n : Nat} {ds : List D}, (∀ x ∈ ds, dn n x = true) → ishAll ds = true → piled (PyData.shownAll (pyAll ds)) ≤ rszAll ds
  | _, [], _, _ => by simp [pyAll, PyData.shownAll, piled]
  | n, d :: ds, h, q => by
    simp only [ishAll, Bool.and_eq_true] at q
    simp only [pyAll, PyData.shownAll, piled_cons, rszAll]
    have a := py_len (h _ List.mem_cons_self) q.1
    have b := pyAll_len (fun x m => h x (List.mem_cons_of_mem _ m)) q.2
    omega
end
def shw (d : D) : Str := (py d).shown
/-- repr(d) can be told -/
def Rp (d : D) : Prop := dn 40 d = true ∧ ish d = true ∧ rsz d ≤ 16777216
/-- a call with one argument -/
def one (f : D → Sto → (D → Sto → Prop) → Prop) : List D → Sto → (D → Sto → Prop) → Prop
  | [d], S, Q => f d S Q
  | _, _, _ => False
theorem cd_one {K : PySem.W.Frag} {dx : Dx} {r : List V → Hp → VK → Prop} {f : D → Sto → (D → Sto → Prop) → Prop}
    (o : ∀ v d H S Q Qh, HR K dx H S → Dt K (Mu dx S) H v d → f d S Q → ThE K dx H S Q Qh → r [v] H Qh) : CallD K dx r (one f) := by
  intro vs ds H S Q Qh r0 a t k
  cases a with
  | nil => exact t.elim
  | cons h a =>
    cases a with
    | nil => exact o _ _ H S Q Qh r0 h t k
    | cons _ _ => exact t.elim
def fRepr (d : D) (S : Sto) (Q : D → Sto → Prop) : Prop := Rp (frz S d) ∧ Q (.str (shw (frz S d))) S
section
variable {X : Cx} {dx : Dx} {K : PySem.W.Frag}
def rRepr (K : PySem.W.Frag) : List V → Hp → VK → Prop := fun xs H Q => ∃ x d, xs = [x] ∧ Dp K H x d ∧ d.showable = true ∧ d.hasDict = false ∧ d.depth ≤ 60 ∧ d.shown.length ≤ sizeLine ∧ Q (.str d.shown) H
theorem cr_repr (guard : X.A.guards = some []) (hu : X.A.units + 64 < cLine) : CallR X (.builtin "repr") (rRepr X.K) := by
  intro pins s σ H xs us Q I r h
  obtain ⟨x, d, rfl, dp, sh, nd, dd, sz, q⟩ := h
  cases dp with
  | non =>
    obtain ⟨u, rfl, ru⟩ := vals1 r
    cases ru
    refine PySem.P.repr_of_none ?_
    simp only [PyData.shown] at q
    exact ⟨.str _, H, I.tok _, ⟨_, rfl⟩, q⟩
  | bl b =>
    obtain ⟨u, rfl, ru⟩ := vals1 r
    cases ru
    refine PySem.P.repr_of_bool ?_
    simp only [PyData.shown] at q
    exact ⟨.str _, H, I.tok _, ⟨_, rfl⟩, q⟩
  | int i =>
    obtain ⟨u, rfl, t, rfl⟩ := vals1 r
    simp only [PyData.showable, decide_eq_true_eq] at sh
    refine PySem.P.repr_of_int sh ?_
    simp only [PyData.shown] at q
    exact ⟨.str _, H, I.tok _, ⟨_, rfl⟩, q⟩
  | str z =>
    obtain ⟨u, rfl, t, rfl⟩ := vals1 r
    simp only [PyData.shown] at q sz
    refine PySem.P.repr_of_str ?_ sz
    exact ⟨.str _, H, I.tok _, ⟨_, rfl⟩, q⟩
  | lst h1 h2 => exact repr_box guard hu pins s σ H _ us Q I r ⟨_, _, rfl, .lst h1 h2, sh, nd, dd, sz, q⟩
  | tup h1 h2 => exact repr_box guard hu pins s σ H _ us Q I r ⟨_, _, rfl, .tup h1 h2, sh, nd, dd, sz, q⟩
theorem py_nodict {n : Nat} {d : D} (h : dn n d = true) : (py d).hasDict = false := PyData.hasDict_of_canLay _ (py_can h)
theorem cd_repr : CallD K dx (rRepr K) (one fRepr) := by
  refine cd_one fun v d H S Q Qh r h t k => ?_
  obtain ⟨⟨h1, h2, h3⟩, q⟩ := t
  refine ⟨v, _, rfl, dp_frz r h h1, py_showable h1 h2, py_nodict h1, ?_, ?_, k _ H _ S r Ext.refl (.str _) q⟩
  · have := py_depth h1
    omega
  · have := py_len h1 h2
    rw [sizeLine_eq]
    omega

/-! ### len, tuple, list, all, any, sum, abs, int -/
def fLen : D → Sto → (D → Sto → Prop) → Prop
  | .tup ds, S, Q => Q (.int ds.length) S
  | .lst ds, S, Q => Q (.int ds.length) S
  | .fls ds, S, Q => Q (.int ds.length) S
  | .adr p, S, Q => opt (getS S p) fun ds => Q (.int ds.length) S
  | .str z, S, Q => Fit z.length ∧ Q (.int z.length) S
  | _, _, _ => False
def rLen (K : PySem.W.Frag) : List V → Hp → VK → Prop := fun xs H Q => (∃ p ys, xs = [.ref p] ∧ (SqL K H p ys ∨ SqT K H p ys) ∧ Q (.int ys.length) H) ∨ (∃ z, xs = [.str z] ∧ z.length ≤ sizeLine ∧ Q (.int z.length) H)
theorem cr_len : CallR X (.builtin "len") (rLen X.K) := call_len_seq.or call_len_str
theorem cd_len : CallD K dx (rLen K) (one fLen) := by
  refine cd_one fun v d H S Q Qh r h t k => ?_
  cases d with
  | tup ds =>
    obtain ⟨p, xs, rfl, hs, al⟩ := h.sqT
    exact .inl ⟨p, xs, rfl, .inr hs, by rw [al.length]; exact k _ H _ S r Ext.refl (.int _) t⟩
  | lst ds =>
    obtain ⟨p, xs, rfl, _, hs, al⟩ := h.sqL
    exact .inl ⟨p, xs, rfl, .inl (SqL.of hs), by rw [al.length]; exact k _ H _ S r Ext.refl (.int _) t⟩
  | fls ds =>
    obtain ⟨p, rfl, hs⟩ := h.sqF
    exact .inl ⟨p, _, rfl, .inl hs, by rw [List.length_map]; exact k _ H _ S r Ext.refl (.int _) t⟩
  | adr p =>
    cases h
    obtain ⟨ds, g, t⟩ := opt_run t
    obtain ⟨_, ws, eh, al⟩ := r.get g
    exact .inl ⟨p, ws, rfl, .inl (SqL.of eh), by rw [al.length]; exact k _ H _ S r Ext.refl (.int _) t⟩
  | str z =>
    cases h
    exact .inr ⟨z, rfl, t.1.line, k _ H _ S r Ext.refl (.int _) t.2⟩
  | _ => exact t.elim
/-- tuple(..) of a list or a tuple -/
def fTuple : D → Sto → (D → Sto → Prop) → Prop
  | .tup ds, S, Q => Q (.tup ds) S
  | .lst ds, S, Q => Q (.tup ds) S
  | .adr p, S, Q => opt (getS S p) fun ds => Q (.tup ds) S
  | _, _, _ => False
theorem cd_tuple : CallD K dx (fun xs H Q => ∃ p ys, xs = [.ref p] ∧ ((SqL K H p ys ∧ ∀ l, H l = none → Q (.ref l) (upd H l (.tup ys))) ∨ (SqT K H p ys ∧ Q (.ref p) H))) (one fTuple) := by
  refine cd_one fun v d H S Q Qh r h t k => ?_
  cases d with
  | tup ds =>
    obtain ⟨p, xs, rfl, hs, al⟩ := h.sqT
    exact ⟨p, xs, rfl, .inr ⟨hs, k _ H _ S r Ext.refl h t⟩⟩
  | lst ds =>
    obtain ⟨p, xs, rfl, _, hs, al⟩ := h.sqL
    refine ⟨p, xs, rfl, .inl ⟨SqL.of hs, fun l n => ?_⟩⟩
    obtain ⟨r2, x2, d2⟩ := new_tup r n al
    exact k _ _ _ S r2 x2 d2 t
  | adr p =>
    cases h
    obtain ⟨ds, g, t⟩ := opt_run t
    obtain ⟨_, ws, eh, al⟩ := r.get g
    refine ⟨p, ws, rfl, .inl ⟨SqL.of eh, fun l n => ?_⟩⟩
    obtain ⟨r2, x2, d2⟩ := new_tup r n al
    exact k _ _ _ S r2 x2 d2 t
  | _ => exact t.elim
def fList : D → Sto → (D → Sto → Prop) → Prop
  | .tup ds, S, Q => Q (.lst ds) S
  | .lst ds, S, Q => Q (.lst ds) S
  | .adr p, S, Q => opt (getS S p) fun ds => Q (.lst ds) S
  | _, _, _ => False
theorem cd_list : CallD K dx (fun xs H Q => ∃ p ys, xs = [.ref p] ∧ (SqL K H p ys ∨ SqT K H p ys) ∧ ∀ l, H l = none → Q (.ref l) (upd H l (.lst ys))) (one fList) := by
  refine cd_one fun v d H S Q Qh r h t k => ?_
  cases d with
  | tup ds =>
    obtain ⟨p, xs, rfl, hs, al⟩ := h.sqT
    refine ⟨p, xs, rfl, .inr hs, fun l n => ?_⟩
    obtain ⟨r2, x2, d2⟩ := new_lst r n al
    exact k _ _ _ S r2 x2 d2 t
  | lst ds =>
    obtain ⟨p, xs, rfl, _, hs, al⟩ := h.sqL
    refine ⟨p, xs, rfl, .inl (SqL.of hs), fun l n => ?_⟩
    obtain ⟨r2, x2, d2⟩ := new_lst r n al
    exact k _ _ _ S r2 x2 d2 t
  | adr p =>
    cases h
    obtain ⟨ds, g, t⟩ := opt_run t
    obtain ⟨_, ws, eh, al⟩ := r.get g
    refine ⟨p, ws, rfl, .inl (SqL.of eh), fun l n => ?_⟩
    obtain ⟨r2, x2, d2⟩ := new_lst r n al
    exact k _ _ _ S r2 x2 d2 t
  | _ => exact t.elim
/-- the truth values of data -/
def asB : List D → Option (List Bool)
  | [] => some []
  | .bl b :: r => (asB r).map (b :: ·)
  | _ :: _ => none
def asI : List D → Option (List Int)
  | [] => some []
  | .int i :: r => (asI r).map (i :: ·)
  | _ :: _ => none
theorem asB_at {ds : List D} : ∀ {bs : List Bool}, asB ds = some bs → ds = bs.map D.bl := by
  induction ds with
  | nil => intro bs h; cases h; rfl
  | cons d ds ih =>
    intro bs h
    cases d with
    | bl b =>
      have h : (asB ds).map (b :: ·) = some bs := h
      cases e : asB ds with
      | none => rw [e] at h; cases h
      | some cs => rw [e] at h; cases h; rw [ih e]; rfl
    | _ => cases h
theorem asI_at {ds : List D} : ∀ {bs : List Int}, asI ds = some bs → ds = bs.map D.int := by
  induction ds with
  | nil => intro bs h; cases h; rfl
  | cons d ds ih =>
    intro bs h
    cases d with
    | int b =>
      have h : (asI ds).map (b :: ·) = some bs := h
      cases e : asI ds with
      | none => rw [e] at h; cases h
      | some cs => rw [e] at h; cases h; rw [ih e]; rfl
    | _ => cases h
theorem asB_map (bs : List Bool) : asB (bs.map D.bl) = some bs := by
  induction bs with
  | nil => rfl
  | cons b bs ih => show (asB (bs.map D.bl)).map (b :: ·) = _; rw [ih]; rfl
theorem asI_map (bs : List Int) : asI (bs.map D.int) = some bs := by
  induction bs with
  | nil => rfl
  | cons b bs ih => show (asI (bs.map D.int)).map (b :: ·) = _; rw [ih]; rfl
def fAll : D → Sto → (D → Sto → Prop) → Prop
  | .lst ds, S, Q => opt (asB ds) fun bs => Q (.bl (bs.all id)) S
  | _, _, _ => False
def fAny : D → Sto → (D → Sto → Prop) → Prop
  | .lst ds, S, Q => opt (asB ds) fun bs => Q (.bl (bs.any id)) S
  | _, _, _ => False
def fSum : D → Sto → (D → Sto → Prop) → Prop
  | .lst ds, S, Q => opt (asI ds) fun bs => Q (.int bs.sum) S
  | _, _, _ => False
theorem cd_all : CallD K dx (rAll K) (one fAll) := by
  refine cd_one fun v d H S Q Qh r h t k => ?_
  cases d with
  | lst ds =>
    obtain ⟨bs, e, t⟩ := opt_run t
    obtain ⟨p, xs, rfl, _, hs, al⟩ := h.sqL
    rw [asB_at e] at al
    rw [Dt.bls_of al] at hs
    exact ⟨p, bs, rfl, SqL.of hs, k _ H _ S r Ext.refl (.bl _) t⟩
  | _ => exact t.elim
theorem cd_any : CallD K dx (rAny K) (one fAny) := by
  refine cd_one fun v d H S Q Qh r h t k => ?_
  cases d with
  | lst ds =>
    obtain ⟨bs, e, t⟩ := opt_run t
    obtain ⟨p, xs, rfl, _, hs, al⟩ := h.sqL
    rw [asB_at e] at al
    rw [Dt.bls_of al] at hs
    exact ⟨p, bs, rfl, SqL.of hs, k _ H _ S r Ext.refl (.bl _) t⟩
  | _ => exact t.elim
theorem cd_sum : CallD K dx (rSum K) (one fSum) := by
  refine cd_one fun v d H S Q Qh r h t k => ?_
  cases d with
  | lst ds =>
    obtain ⟨bs, e, t⟩ := opt_run t
    obtain ⟨p, xs, rfl, _, hs, al⟩ := h.sqL
    rw [asI_at e] at al
    rw [Dt.ints_of al] at hs
    exact ⟨p, bs, rfl, SqL.of hs, k _ H _ S r Ext.refl (.int _) t⟩
  | _ => exact t.elim
def fAbs : D → Sto → (D → Sto → Prop) → Prop
  | .int i, S, Q => Q (.int i.natAbs) S
  | _, _, _ => False
theorem cd_abs : CallD K dx (fun xs H Q => ∃ i, xs = [V.int i] ∧ Q (.int (if i < 0 then -i else i)) H) (one fAbs) := by
  refine cd_one fun v d H S Q Qh r h t k => ?_
  cases h with
  | int i =>
    refine ⟨i, rfl, ?_⟩
    have e : (if i < 0 then -i else i) = ((i.natAbs : Nat) : Int) := by split <;> omega
    rw [e]
    exact k _ H _ S r Ext.refl (.int _) t
  | _ => exact t.elim
def fInt : D → Sto → (D → Sto → Prop) → Prop
  | .int i, S, Q => Q (.int i) S
  | .bl b, S, Q => Q (.int (if b then 1 else 0)) S
  | _, _, _ => False
theorem cd_int : CallD K dx (fun xs H Q => (∃ i, xs = [V.int i] ∧ Q (.int i) H) ∨ ∃ k, xs = [V.bl k] ∧ Q (.int (if k then 1 else 0)) H) (one fInt) := by
  refine cd_one fun v d H S Q Qh r h t k => ?_
  cases h with
  | int i => exact .inl ⟨i, rfl, k _ H _ S r Ext.refl (.int _) t⟩
  | bl b => exact .inr ⟨b, rfl, k _ H _ S r Ext.refl (.int _) t⟩
  | _ => exact t.elim

/-! ### isinstance of built-in classes -/
def tyD : D → String
  | .non => "NoneType"
  | .bl _ => "bool"
  | .int _ => "int"
  | .str _ => "str"
  | .tup _ => "tuple"
  | _ => "list"
def noAdr : D → Bool
  | .adr _ => false
  | .dic _ _ => false
  | .obj _ _ _ => false
  | _ => true
theorem ty_of {H : Hp} {v : V} {d : D} {M : Mm} (h : Dt K M H v d) (na : noAdr d = true) : TyX K H v (.type (tyD d)) := by
  cases h with
  | non => exact .base .non
  | bl b => exact .base (.bl b)
  | int i => exact .base (.int i)
  | str x => exact .base (.str x)
  | tup n h a =>
    rcases h with h | ⟨o, h⟩
    · exact .base (.tup h)
    · exact .fTuple h
  | ktup h a =>
    obtain ⟨o, _, _, e, c, _⟩ := h
    exact .kTuple e c
  | lst n h a => exact .base (.lst h)
  | fls n h =>
    rcases h with h | ⟨o, h⟩
    · exact .base (.lst h)
    · exact .base (.frz h)
  | kfls h =>
    obtain ⟨o, _, _, e, c, _⟩ := h
    exact .kList e c
  | adr p => cases na
  | dic _ _ _ _ => cases na
  | obj _ _ _ _ _ => cases na

/-! ### methods of a list of one's own -/
def dM (f : D → List D → Sto → (D → Sto → Prop) → Prop) (fo : DTE) (fa : DTA) : DTE := fun δ S Q => fo δ S fun o S1 => fa δ S1 fun ds S2 => f o ds S2 Q
def fAppend : D → List D → Sto → (D → Sto → Prop) → Prop
  | .adr p, [d], S, Q => opt (getS S p) fun ds => Fit (ds.length + 1) ∧ Q .non (setS S p (ds ++ [d]))
  | _, _, _, _ => False
end
end DL
/-! Readings over data: methods of a list, isinstance, zip, reversed. -/
namespace DL
open PySem PySem.Spec L2 Gd

section
variable {X : Cx} {dx : Dx} {K : PySem.W.Frag} {a e : Expr} {es : List Expr} {to te : TE} {ta : TA} {fo fe : DTE} {fa : DTA} {st : Expr} {pos : Pos}
def isOwn (S : Sto) : D → Prop
  | .adr p => (getS S p).isSome = true
  | _ => False
def dML (f : D → List D → Sto → (D → Sto → Prop) → Prop) (fo : DTE) (fa : DTA) : DTE := fun δ S Q => fo δ S fun o S1 => isOwn S1 o ∧ fa δ S1 fun ds S2 => f o ds S2 Q
def MetD (K : PySem.W.Frag) (dx : Dx) (r : V → List V → Hp → VK → Prop) (f : D → List D → Sto → (D → Sto → Prop) → Prop) : Prop :=
  ∀ x vs p ds H S Q Qh, HR K dx H S → Dt K (Mu dx S) H x p → DtAll K (Mu dx S) H vs ds → f p ds S Q → ThE K dx H S Q Qh → r x vs H Qh
theorem own_ty {H : Hp} {S : Sto} {v : V} {d : D} (r : HR K dx H S) (h : Dt K (Mu dx S) H v d) (o : isOwn S d) : tyV K "list" v H := by
  cases h with
  | adr p =>
    obtain ⟨ds, g⟩ := Option.isSome_iff_exists.mp o
    obtain ⟨_, vs, e, _⟩ := r.get g
    exact .inl ⟨rfl, vs, SqL.of e⟩
  | _ => exact o.elim
theorem de_met {r : V → List V → Hp → VK → Prop} {f} (m : MetD X.K dx r f) (ho : DE X dx a to fo) (ha : DA X dx es ta fa) (hp : PE X st (tBM X.K "list" r to ta)) : DE X dx st (tBM X.K "list" r to ta) (dML f fo fa) := by
  refine ⟨hp, fun σ H δ S Q Qh r0 s t k => ?_⟩
  refine ho.go σ H δ S _ _ r0 s t fun v H1 d S1 r1 x1 d1 t1 => ⟨own_ty r1 d1 t1.1, ?_⟩
  refine ha.go σ H1 δ S1 _ _ r1 (s.ext x1) t1.2 fun vs H2 ds S2 r2 x2 d2 t2 => ?_
  exact m v vs d ds H2 S2 Q Qh r2 (d1.ext x2) d2 t2 (k.on (x1.trans x2))
def dML0 (f : D → List D → Sto → (D → Sto → Prop) → Prop) (fo : DTE) : DTE := fun δ S Q => fo δ S fun o S1 => isOwn S1 o ∧ f o [] S1 Q
theorem de_met0 {r : V → List V → Hp → VK → Prop} {f} (m : MetD X.K dx r f) (ho : DE X dx a to fo) (hp : PE X st (tBM0 X.K "list" r to)) : DE X dx st (tBM0 X.K "list" r to) (dML0 f fo) := by
  refine ⟨hp, fun σ H δ S Q Qh r0 s t k => ?_⟩
  refine ho.go σ H δ S _ _ r0 s t fun v H1 d S1 r1 x1 d1 t1 => ⟨own_ty r1 d1 t1.1, ?_⟩
  exact m v [] d [] H1 S1 Q Qh r1 d1 .nil t1.2 (k.on x1)
theorem md_append : MetD K dx rAppend fAppend := by
  intro x vs p ds H S Q Qh r hx al t k
  cases hx with
  | adr p =>
    cases al with
    | nil => exact t.elim
    | cons h al =>
      cases al with
      | cons _ _ => exact t.elim
      | nil =>
        obtain ⟨ds0, g, t⟩ := opt_run t
        obtain ⟨m, ws, eh, a0⟩ := r.get g
        refine ⟨p, ws, _, rfl, rfl, eh, ?_, k _ _ _ _ (r.put m (a0.append (.cons h .nil))) (ext_set m) .non t.2⟩
        have := t.1.line
        rw [a0.length]
        omega
  | _ => exact t.elim
def fPop : D → List D → Sto → (D → Sto → Prop) → Prop
  | .adr p, [], S, Q => opt (getS S p) fun ds => opt (ds[ds.length - 1]?) fun d => Q d (setS S p ds.dropLast)
  | _, _, _, _ => False
theorem md_pop : MetD K dx rPop fPop := by
  intro x vs p ds H S Q Qh r hx al t k
  cases hx with
  | adr p =>
    cases al with
    | cons _ _ => exact t.elim
    | nil =>
      obtain ⟨ds0, g, t⟩ := opt_run t
      obtain ⟨d, e, t⟩ := opt_run t
      obtain ⟨m, ws, eh, a0⟩ := r.get g
      obtain ⟨v, ev, dv⟩ := a0.get e
      have x1 : Ext (Mu dx S) H (Mu dx (setS S p ds0.dropLast)) (upd H p (.lst ws.dropLast)) := ext_set m
      exact ⟨p, ws, v, rfl, rfl, eh, by rw [a0.length]; exact ev, k _ _ _ _ (r.put m a0.dropLast) x1 (dv.ext x1) t⟩
  | _ => exact t.elim
def fExtend : D → List D → Sto → (D → Sto → Prop) → Prop
  | .adr p, [d], S, Q => opt (getS S p) fun ds => opt (asL S d) fun es => Fit (ds.length + es.length) ∧ Q .non (setS S p (ds ++ es))
  | _, _, _, _ => False
theorem md_extend : MetD K dx rExtend fExtend := by
  intro x vs p ds H S Q Qh r hx al t k
  cases hx with
  | adr p =>
    cases al with
    | nil => exact t.elim
    | cons h al =>
      cases al with
      | cons _ _ => exact t.elim
      | nil =>
        obtain ⟨ds0, g, t⟩ := opt_run t
        obtain ⟨es, e2, t⟩ := opt_run t
        obtain ⟨m, ws, eh, a0⟩ := r.get g
        obtain ⟨b, zs, rfl, hb, a1⟩ := asL_at r h e2
        exact ⟨p, b, ws, zs, rfl, rfl, eh, hb, by rw [a0.length, a1.length]; exact t.1.line, k _ _ _ _ (r.put m (a0.append a1)) (ext_set m) .non t.2⟩
  | _ => exact t.elim

/-! ### isinstance(x, T) -/
def fIsi (T : String) (f : String → Bool) (d : D) (S : Sto) (Q : D → Sto → Prop) : Prop := noAdr d = true ∧ Q (.bl (f (tyD d))) S
def dIsi (f : String → Bool) (fe : DTE) : DTE := fun δ S Q => fe δ S fun d S1 => noAdr d = true ∧ Q (.bl (f (tyD d))) S1
def tIsi (K : PySem.W.Frag) (T : String) (te : TE) : TE := tCB (rIsi K) (tCons te (tCons (tC (.ty T)) tNil))
theorem de_isi {T : String} {f : String → Bool} (hf : ∀ t ∈ ["NoneType", "bool", "int", "str", "tuple", "list"], kitB t T = some (f t)) (he : DE X dx e te fe) (hp : PE X st (tIsi X.K T te)) : DE X dx st (tIsi X.K T te) (dIsi f fe) := by
  refine ⟨hp, fun σ H δ S Q Qh r0 s t k => ?_⟩
  refine he.go σ H δ S _ _ r0 s t fun v H1 d S1 r1 x1 d1 t1 => ?_
  refine ⟨v, .ty T, _, _, f (tyD d), rfl, .ty T, ty_of d1 t1.1, kit_ty (hf _ ?_), k _ H1 _ S1 r1 x1 (.bl _) t1.2⟩
  cases d <;> simp [tyD]

/-! ### reversed(xs) -/
def dRev (t : DTE) : DTA := fun δ S Q => t δ S (items fun ds S1 => Q ds.reverse S1)
theorem di_rev {tg : Expr} {p : Pos} (he : DE X dx e te fe) (hp : PI X tg st (RT.iRevA X.K te)) : DI X dx tg st (RT.iRevA X.K te) (dRev fe) := by
  refine ⟨hp, fun σ H δ S Q R r0 s t k => ?_⟩
  refine he.go σ H δ S _ _ r0 s t fun v H1 d S1 r1 x1 d1 t1 => ?_
  have revL : ∀ {a : Addr} {vs : List V} {ds : List D}, DtAll X.K (Mu dx S1) H1 vs ds → (∀ M H', ExtD (Mu dx S1) H1 M H' → SqL X.K H' a vs) → Walks X.K dx (Itv X.K a vs.length) ds.reverse S1 H1 := by
    intro a vs ds al stay
    have w := walk_rev (K := X.K) (a := a) (xs := vs)
    refine ⟨_, _, by rw [List.length_reverse, ← al.length]; exact w, fun M H2 lv x2 => ⟨stay _ _ x2, fun i y H3 hi z => ?_⟩⟩
    obtain ⟨rfl, z⟩ := z
    obtain ⟨c, e1, c1⟩ := (al.extD x2).getV z
    rw [List.length_reverse] at hi
    refine ⟨Same.refl _, c, ?_, c1⟩
    rw [List.getElem?_reverse hi, ← al.length]
    exact e1
  have revT : ∀ {a : Addr} {vs : List V} {ds : List D}, DtAll X.K (Mu dx S1) H1 vs ds → (∀ M H', ExtD (Mu dx S1) H1 M H' → SqT X.K H' a vs) → Walks X.K dx (RT.ItvT X.K a vs.length) ds.reverse S1 H1 := by
    intro a vs ds al stay
    have w : Walk (RT.ItvT X.K a vs.length) vs.length (fun H => SqT X.K H a vs) (fun i H x H' => H' = H ∧ vs[vs.length - 1 - i]? = some x) :=
      ⟨fun i _ hi q => ⟨hi, vs, vs[vs.length - 1 - i]'(by omega), q, by simp [show vs.length - 1 - i < vs.length by omega]⟩, fun _ _ => Nat.le_refl _, fun _ _ _ _ _ q y => ⟨y.1, y.2 vs q⟩⟩
    refine ⟨_, _, by rw [List.length_reverse, ← al.length]; exact w, fun M H2 lv x2 => ⟨stay _ _ x2, fun i y H3 hi z => ?_⟩⟩
    obtain ⟨rfl, z⟩ := z
    obtain ⟨c, e1, c1⟩ := (al.extD x2).getV z
    rw [List.length_reverse] at hi
    refine ⟨Same.refl _, c, ?_, c1⟩
    rw [List.getElem?_reverse hi, ← al.length]
    exact e1
  cases d1 with
  | tup n hr al => exact ⟨_, _, rfl, .inr ⟨.inl hr, k _ H1 _ S1 r1 x1 (revT al fun M H' x => .inl (x.rd n hr)) t1⟩⟩
  | ktup hr al => exact ⟨_, _, rfl, .inr ⟨.inr hr, k _ H1 _ S1 r1 x1 (revT al fun M H' x => .inr hr) t1⟩⟩
  | lst n hr al => exact ⟨_, _, rfl, .inl ⟨SqL.of hr, k _ H1 _ S1 r1 x1 (revL al fun M H' x => SqL.of (x.keep _ _ n hr)) t1⟩⟩
  | fls n hr => exact ⟨_, _, rfl, .inl ⟨.inl hr, k _ H1 _ S1 r1 x1 (revL (DtAll.ints _) fun M H' x => .inl (x.rd n hr)) t1⟩⟩
  | kfls hr => exact ⟨_, _, rfl, .inl ⟨.inr hr, k _ H1 _ S1 r1 x1 (revL (DtAll.ints _) fun M H' x => .inr hr) t1⟩⟩
  | _ => exact t1.elim
end
end DL
/-! zip of two sequences, lists or tuples. -/
namespace DL
open PySem PySem.Spec L2 Gd

def SqX (K : PySem.W.Frag) (c : Bool) (H : Hp) (a : Addr) (xs : List V) : Prop := match c with
  | true => SqT K H a xs
  | false => SqL K H a xs
def ItAt (c : Bool) (h : Heap) (it a : Addr) (i : Nat) : Prop := match c with
  | true => h.IsTupleIter it a i
  | false => h.IsListIter it a i
def HasX (c : Bool) (h : Heap) (a : Addr) (its : Array Value) : Prop := match c with
  | true => h.IsTuple a its
  | false => h.IsList a its
theorem drawsX {prog : Program} {w : World} {A : Around} (hh : A.handled = none) (c : Bool) (it l : Addr) (hne : l ≠ it) (items : Array Value) :
    Draws prog w A it [it, l] items.size (fun i v => items[i]? = some v) (fun i h => ItAt c h it l i ∧ HasX c h l items) := by
  cases c with
  | true => exact Draws.tuple hh it l hne items
  | false => exact Draws.list hh it l hne items
theorem ItAt.at {c : Bool} {h h' : Heap} {it a : Addr} {i : Nat} (x : ItAt c h it a i) (k : ∀ o, h.get? it = some o → h'.get? it = some o) : ItAt c h' it a i := by
  cases c with
  | true => exact Heap.IsTupleIter.at x k
  | false => exact Heap.IsListIter.at x k
theorem ItAt.obj {c : Bool} {h : Heap} {it a : Addr} {i : Nat} (x : ItAt c h it a i) : ∃ o, h.get? it = some o ∧ ∀ v, o.data ≠ .cell v := by
  cases c with
  | true =>
    obtain ⟨o, e, _, d⟩ := x
    exact ⟨o, e, fun v z => by rw [d] at z; cases z⟩
  | false =>
    obtain ⟨o, e, _, d⟩ := x
    exact ⟨o, e, fun v z => by rw [d] at z; cases z⟩
def ItZ (K : PySem.W.Frag) (c1 c2 : Bool) (a b : Addr) (xs ys : List V) : It where
  go := fun i H => SqX K c1 H a xs ∧ SqX K c2 H b ys ∧ i < xs.length ∧ i < ys.length
  yld := fun i H v H' => ∃ T x y, v = .ref T ∧ H T = none ∧ H' = upd H T (.tup [x, y]) ∧ xs[i]? = some x ∧ ys[i]? = some y
  stop := fun i H => SqX K c1 H a xs ∧ SqX K c2 H b ys ∧ i ≤ xs.length ∧ i ≤ ys.length ∧ (i = xs.length ∨ i = ys.length)
section
variable {X : Cx} {pins : List (Addr × Obj)} {σ : L2.St} {H : Hp} {s : Shared}
theorem seqX (I : Inv X pins σ H s) {c : Bool} {a : Addr} {xs : List V} (q : SqX X.K c H a xs) : ∃ its : List Value, Vals xs its ∧ HasX c s.heap a its.toArray ∧ a < s.heap.objs.size := by
  cases c with
  | true =>
    obtain ⟨its, r, p, _⟩ := I.tuple q
    obtain ⟨o, e, _⟩ := id p
    exact ⟨its, r, p, Heap.lt_size e⟩
  | false =>
    obtain ⟨its, r, p, _⟩ := I.list q
    exact ⟨its, r, p.isList, p.lt⟩
theorem turn_zipM {P : Program} {w : World} {K : PySem.W.Frag} {elts : List Expr} {kk : Nat} {tpos : Pos} {c1 c2 : Bool} {a b z TI TO i1 i2 : Addr} {xs ys : List V} (D : ZipSep2 z TI TO i1 i2 [i1, a] [i2, b]) (n1 : a ≠ i1) (n2 : b ≠ i2) :
    Turn P w K (.Tuple elts kk tpos) (ItZ K c1 c2 a b xs ys) [z, TI, TO, i1, i2] z (fun i h => IsZip h z TI TO .none ∧ IsTupOf2 h TI (.ref i1) (.ref i2) ∧ (∃ x y, IsTupOf2 h TO x y) ∧ ItAt c1 h i1 a i ∧ ItAt c2 h i2 b i) where
  mem := by simp
  obj := by
    rintro i h ⟨hz, hTI, ⟨x, y, hTO⟩, h1, h2⟩ c hc
    have cases5 : c = z ∨ c = TI ∨ c = TO ∨ c = i1 ∨ c = i2 := by simpa using hc
    rcases cases5 with rfl | rfl | rfl | rfl | rfl
    · exact ⟨_, hz, fun v q => nomatch q⟩
    · exact ⟨_, hTI, fun v q => nomatch q⟩
    · exact ⟨_, hTO, fun v q => nomatch q⟩
    · exact h1.obj
    · exact h2.obj
  keep := by
    rintro i h h' ⟨hz, hTI, ⟨x, y, hTO⟩, h1, h2⟩ k
    exact ⟨k z (by simp) _ hz, k TI (by simp) _ hTI, ⟨x, y, k TO (by simp) _ hTO⟩, h1.at fun o q => k i1 (by simp) o q, h2.at fun o q => k i2 (by simp) o q⟩
  item := by
    rintro X rfl rfl rfl hc i pins s σ H E I hf ⟨hz, hTI, ⟨x0, y0, hTO⟩, h1, h2⟩ ⟨qx, qy, lx, ly⟩
    obtain ⟨its1, rv1, p1, _⟩ := seqX I qx
    obtain ⟨its2, rv2, p2, _⟩ := seqX I qy
    have m1 := rv1.length
    have m2 := rv2.length
    have hzl : z < s.heap.objs.size := Heap.lt_size hz
    have hh : X.A.in1.handled = none := I.ok.hd hc
    refine wpAny_pyNext_zipD2_item D (drawsX hh c1 i1 a n1 its1.toArray) (drawsX hh c2 i2 b n2 its2.toArray) hz hTI hTO ⟨h1, p1⟩ ⟨h2, p2⟩ (by simpa [← m1] using lx) (by simpa [← m2] using ly) ?_
    intro u1 u2 h' tk e1 e2 z' TO' st1 st2 hT hsz hk
    refine ⟨_, rfl, wpAny_letOwnedTupleGo_zip (s := { s with heap := h', toks := tk }) z' fun h'' z'' sb => ?_⟩
    obtain ⟨x, ex⟩ : ∃ x, xs[i]? = some x := ⟨xs[i], by simp [lx]⟩
    obtain ⟨y, ey⟩ : ∃ y, ys[i]? = some y := ⟨ys[i], by simp [ly]⟩
    obtain ⟨v1, g1, r1⟩ := rv1.get ex
    obtain ⟨v2, g2, r2⟩ := rv2.get ey
    have w1 : v1 = u1 := by
      have : its1[i]? = some u1 := by simpa using e1
      rw [g1] at this
      exact Option.some.inj this
    have w2 : v2 = u2 := by
      have : its2[i]? = some u2 := by simpa using e2
      rw [g2] at this
      exact Option.some.inj this
    subst w1 w2
    have hT2 : h''.get? s.heap.objs.size = some { cls := .type "tuple", data := .seq #[v1, v2] } := (sb.2 _ (Nat.ne_of_gt hzl)).trans hT
    have new : ObjOk X.prog X.w (upd H s.heap.objs.size (.tup [x, y])) h'' s.heap.objs.size (.tup [x, y]) :=
      ⟨by show 2 ≤ sizeLine; decide, [v1, v2], .cons r1 (.cons r2 .nil), ⟨_, hT2, rfl, _, rfl⟩⟩
    have all : ∀ c o, c ∉ [z, TI, TO, i1, i2] → s.heap.get? c = some o → h''.get? c = some o := by
      intro c o hb q
      simp only [List.mem_cons, List.not_mem_nil, or_false, not_or] at hb
      exact (sb.2 c hb.1).trans (hk c o hb.1 hb.2.2.1 hb.2.2.2.1 hb.2.2.2.2 q)
    have I1 := I.turnedNew (t' := tk) (ch := [z, TI, TO, i1, i2]) all hf (Nat.le_refl _) new
    refine ⟨.ref s.heap.objs.size, _, I1, rfl, ⟨_, x, y, rfl, I.hok.fresh (Nat.le_refl _), rfl, ex, ey⟩, ⟨z'', ?_, ⟨v1, v2, ?_⟩, ?_, ?_⟩, fun c hcm => ?_⟩
    · exact (sb.2 _ D.TIz).trans (hk _ _ D.TIz D.TITO D.TIi1 D.TIi2 hTI)
    · exact (sb.2 _ D.TOz).trans TO'
    · exact st1.1.at fun o q => (sb.2 _ (fun e => D.zf1 (by simp [e]))).trans q
    · exact st2.1.at fun o q => (sb.2 _ (fun e => D.zf2 (by simp [e]))).trans q
    · have hlt : c < s.heap.objs.size := by
        have cases5 : c = z ∨ c = TI ∨ c = TO ∨ c = i1 ∨ c = i2 := by simpa using hcm
        rcases cases5 with rfl | rfl | rfl | rfl | rfl
        · exact hzl
        · exact Heap.lt_size hTI
        · exact Heap.lt_size hTO
        · obtain ⟨_, e, _⟩ := h1.obj; exact Heap.lt_size e
        · obtain ⟨_, e, _⟩ := h2.obj; exact Heap.lt_size e
      rw [upd_ne (Nat.ne_of_lt hlt)]
      exact (hf c hcm).1
  done := by
    rintro X rfl rfl rfl hc i pins s σ H E I hf ⟨hz, hTI, ⟨x0, y0, hTO⟩, h1, h2⟩ ⟨qx, qy, lx, ly, en⟩
    obtain ⟨its1, rv1, p1, _⟩ := seqX I qx
    obtain ⟨its2, rv2, p2, _⟩ := seqX I qy
    have m1 := rv1.length
    have m2 := rv2.length
    have hh : X.A.in1.handled = none := I.ok.hd hc
    refine wpAny_pyNext_zipD2_end D (drawsX hh c1 i1 a n1 its1.toArray) (drawsX hh c2 i2 b n2 its2.toArray) hz hTI hTO ⟨h1, p1⟩ ⟨h2, p2⟩ (by simpa [← m1] using lx) (by simpa [← m2] using ly) (by simpa [← m1, ← m2] using en) ?_
    intro h' tk hk
    refine ⟨rfl, I.turnedL (t' := tk) (ch := [z, TI, TO, i1, i2]) (fun c o hb q => ?_) hf⟩
    simp only [List.mem_cons, List.not_mem_nil, or_false, not_or] at hb
    exact hk c o hb.1 hb.2.2.1 hb.2.2.2.1 hb.2.2.2.2 q
  self := fun A i s Q E st h => wpAny_pyIter_zip st.1 h
end
theorem sep_zip (n a b : Nat) (ha : a < n) (hb : b < n) : ZipSep2 (n + 4) (n + 2) (n + 3) n (n + 1) [n, a] [n + 1, b] where
  TIz := by show n + 2 ≠ n + 4; omega
  TOz := by show n + 3 ≠ n + 4; omega
  TITO := by show n + 2 ≠ n + 3; omega
  TIi1 := by show n + 2 ≠ n; omega
  mem1 := by simp
  zf1 := by
    intro h
    have h : n + 4 = n ∨ n + 4 = a := by simpa using h
    omega
  Tf1 := by
    intro h
    have h : n + 3 = n ∨ n + 3 = a := by simpa using h
    omega
  TIi2 := by show n + 2 ≠ n + 1; omega
  mem2 := by simp
  zf2 := by
    intro h
    have h : n + 4 = n + 1 ∨ n + 4 = b := by simpa using h
    omega
  Tf2 := by
    intro h
    have h : n + 3 = n + 1 ∨ n + 3 = b := by simpa using h
    omega
  sep1_2 := by
    intro h
    have h : n = n + 1 ∨ n = b := by simpa using h
    omega
  sep2_1 := by
    intro h
    have h : n + 1 = n ∨ n + 1 = a := by simpa using h
    omega
def iZipM (K : PySem.W.Frag) (ta : TA) : TI := fun σ H R => ta σ H fun vs H1 => ∃ c1 c2 a b xs ys, vs = [.ref a, .ref b] ∧ SqX K c1 H1 a xs ∧ SqX K c2 H1 b ys ∧ R (ItZ K c1 c2 a b xs ys) H1
theorem pi_zipM {X : Cx} {e e2 : Expr} {ta : TA} {p pos tpos : Pos} {elts : List Expr} {kk : Nat} (hg : Gl X "zip") (hm : X.mg "zip" = none) (ha : PA X [e, e2] ta)
    (hs : starEach [e, e2] X.env = (false, eval e X.env) :: starEach [e2] X.env := by rfl) (hpl : (backTo pos (starEach [e2] X.env)).any (·.1) = false := by rfl) :
    PI X (.Tuple elts kk tpos) (.Call (.Name "zip" p) [e, e2] [] pos) (iZipM X.K ta) := by
  constructor
  intro pins s σ H R I want
  refine PyProof.Rows.Call_ (ld_blt I hg hm PyProof.Rows.boot_zip ?_)
  apply PyProof.Rows.callWith_type1 _ hs hpl
  apply thn (ha.run pos pins s σ H _ I want)
  rintro us s1 ⟨vs, H1, I1, r1, c1, c2, a, b, xs, ys, rfl, qx, qy, q⟩
  obtain ⟨u1, u2, rfl, ru1, ru2⟩ := vals2 r1
  obtain rfl : u1 = .ref a := ru1
  obtain rfl : u2 = .ref b := ru2
  obtain ⟨its1, rv1, p1, l1⟩ := seqX I1 qx
  obtain ⟨its2, rv2, p2, l2⟩ := seqX I1 qy
  have fresh : ∀ c, c ∈ [s1.heap.objs.size + 4, s1.heap.objs.size + 2, s1.heap.objs.size + 3, s1.heap.objs.size, s1.heap.objs.size + 1] → FpOk X pins H1 c := by
    intro c hcm
    have le : s1.heap.objs.size ≤ c := by
      simp only [List.mem_cons, List.not_mem_nil, or_false] at hcm
      omega
    exact I1.fpOk le (I1.hok.fresh le)
  have sep := sep_zip s1.heap.objs.size a b l1 l2
  have done : ∀ {o1 o2 : Obj} (h' : Heap), IsZip h' (s1.heap.objs.size + 4) (s1.heap.objs.size + 2) (s1.heap.objs.size + 3) .none →
      IsTupOf2 h' (s1.heap.objs.size + 2) (.ref s1.heap.objs.size) (.ref (s1.heap.objs.size + 1)) → IsTupOf2 h' (s1.heap.objs.size + 3) .none .none →
      ItAt c1 h' s1.heap.objs.size a 0 → ItAt c2 h' (s1.heap.objs.size + 1) b 0 → (∀ c o, s1.heap.get? c = some o → h'.get? c = some o) →
      wpAny (model X.prog X.w) X.A (pyIter (.ref (s1.heap.objs.size + 4))) (PIE X pins σ (.Tuple elts kk tpos) R) X.xe { s1 with heap := h' } := by
    intro o1 o2 h' hz hTI hTO h1 h2 hk
    apply wpAny_pyIter_zip hz
    have I2 : Inv X pins σ H1 { s1 with heap := h' } := I1.kept (t' := s1.toks) hk
    exact ⟨_, _, _, _, H1, rfl, I2, turn_zipM sep (Nat.ne_of_lt l1) (Nat.ne_of_lt (Nat.lt_succ_of_lt l2)), ⟨hz, hTI, ⟨_, _, hTO⟩, h1, h2⟩, fresh, q⟩
  cases c1 with
  | true =>
    cases c2 with
    | true => exact zip_begins2 (begins_tuple a its1.toArray) (begins_tuple b its2.toArray) p1 p2 fun h' hz hTI hTO g1 g2 _ hk => done (o1 := default) (o2 := default) h' hz hTI hTO ⟨_, g1, rfl, rfl⟩ ⟨_, g2, rfl, rfl⟩ hk
    | false => exact zip_begins2 (begins_tuple a its1.toArray) (begins_list b its2.toArray) p1 p2 fun h' hz hTI hTO g1 g2 _ hk => done (o1 := default) (o2 := default) h' hz hTI hTO ⟨_, g1, rfl, rfl⟩ ⟨_, g2, rfl, rfl⟩ hk
  | false =>
    cases c2 with
    | true => exact zip_begins2 (begins_list a its1.toArray) (begins_tuple b its2.toArray) p1 p2 fun h' hz hTI hTO g1 g2 _ hk => done (o1 := default) (o2 := default) h' hz hTI hTO ⟨_, g1, rfl, rfl⟩ ⟨_, g2, rfl, rfl⟩ hk
    | false => exact zip_begins2 (begins_list a its1.toArray) (begins_list b its2.toArray) p1 p2 fun h' hz hTI hTO g1 g2 _ hk => done (o1 := default) (o2 := default) h' hz hTI hTO ⟨_, g1, rfl, rfl⟩ ⟨_, g2, rfl, rfl⟩ hk

/-! ### over data -/
/-- pairs -/
def zipD (xs ys : List D) : List D := List.zipWith (fun x y => D.tup [x, y]) xs ys
theorem zipD_len (xs ys : List D) : (zipD xs ys).length = min xs.length ys.length := List.length_zipWith
def dZip (ta : DTA) : DTA := fun δ S Q => ta δ S fun ds S1 => match ds with
  | [p, q] => items (fun xs S2 => items (fun ys S3 => Q (zipD xs ys) S3) q S2) p S1
  | _ => False
section
variable {X : Cx} {dx : Dx} {K : PySem.W.Frag} {H : Hp} {S : Sto}
theorem seq_data {v : V} {d : D} {Q : List D → Sto → Prop} (h : Dt K (Mu dx S) H v d) (t : items Q d S) :
    ∃ c a vs ds, v = .ref a ∧ DtAll K (Mu dx S) H vs ds ∧ Q ds S ∧ SqX K c H a vs ∧ ∀ M H', ExtD (Mu dx S) H M H' → SqX K c H' a vs := by
  cases h with
  | tup n hr al => exact ⟨true, _, _, _, rfl, al, t, .inl hr, fun M H' x => .inl (x.rd n hr)⟩
  | ktup hr al => exact ⟨true, _, _, _, rfl, al, t, .inr hr, fun M H' x => .inr hr⟩
  | lst n hr al => exact ⟨false, _, _, _, rfl, al, t, SqL.of hr, fun M H' x => SqL.of (x.keep _ _ n hr)⟩
  | fls n hr => exact ⟨false, _, _, _, rfl, DtAll.ints _, t, .inl hr, fun M H' x => .inl (x.rd n hr)⟩
  | kfls hr => exact ⟨false, _, _, _, rfl, DtAll.ints _, t, .inr hr, fun M H' x => .inr hr⟩
  | _ => exact t.elim
theorem walks_zip {c1 c2 : Bool} {a b : Addr} {vs ws : List V} {xs ys : List D} (al : DtAll K (Mu dx S) H vs xs) (bl : DtAll K (Mu dx S) H ws ys)
    (sa : ∀ M H', ExtD (Mu dx S) H M H' → SqX K c1 H' a vs) (sb : ∀ M H', ExtD (Mu dx S) H M H' → SqX K c2 H' b ws) : Walks K dx (ItZ K c1 c2 a b vs ws) (zipD xs ys) S H := by
  have la := al.length
  have lb := bl.length
  refine ⟨fun H' => SqX K c1 H' a vs ∧ SqX K c2 H' b ws, fun i H v H' => ∃ T x y, v = .ref T ∧ H T = none ∧ H' = upd H T (.tup [x, y]) ∧ vs[i]? = some x ∧ ws[i]? = some y, ⟨?_, ?_, fun i H x H' _ _ y => y⟩, fun M H2 lv x2 => ⟨⟨sa _ _ x2, sb _ _ x2⟩, ?_⟩⟩
  · intro i H' hi g
    rw [zipD_len] at hi
    exact ⟨g.1, g.2, by omega, by omega⟩
  · intro H' g
    rw [zipD_len]
    exact ⟨g.1, g.2, by omega, by omega, by omega⟩
  · rintro i v H3 hi ⟨T, x, y, rfl, n, rfl, ex, ey⟩
    obtain ⟨d1, f1, g1⟩ := (al.extD x2).getV ex
    obtain ⟨d2, f2, g2⟩ := (bl.extD x2).getV ey
    refine ⟨same_new n, .tup [d1, d2], ?_, .tup (fun z => lv T z n) (.inl upd_same) (.cons (g1.ext (ext_new n)) (.cons (g2.ext (ext_new n)) .nil))⟩
    unfold zipD
    rw [List.getElem?_zipWith, f1, f2]
theorem di_zip {tg st : Expr} {ta : TA} {fa : DTA} {es : List Expr} (ha : DA X dx es ta fa) (hp : PI X tg st (iZipM X.K ta)) : DI X dx tg st (iZipM X.K ta) (dZip fa) := by
  refine ⟨hp, fun σ H δ S Q R r s t k => ?_⟩
  refine ha.go σ H δ S _ _ r s t fun vs H1 ds S1 r1 x1 d1 t1 => ?_
  cases d1 with
  | nil => exact t1.elim
  | cons h1 d1 =>
    cases d1 with
    | nil => exact t1.elim
    | cons h2 d1 =>
      cases d1 with
      | cons _ _ => exact t1.elim
      | nil =>
        obtain ⟨c1, a, vs1, xs, rfl, al, t2, q1, s1⟩ := seq_data h1 t1
        obtain ⟨c2, b, vs2, ys, rfl, bl, t3, q2, s2⟩ := seq_data h2 t2
        exact ⟨c1, c2, a, b, vs1, vs2, rfl, q1, q2, k _ H1 _ S1 r1 x1 (walks_zip al bl s1 s2) t3⟩
end
end DL
/-! The end of a law: its def's promise, at the heap behind the top. -/
namespace DL
open PySem PySem.Spec L2 Gd

section
variable {P : Program} {w : World} {K : PySem.W.Frag} {mg mb : Str → Option Value} {k : Nat} {fa a : Addr} {fd : FuncData} {x : Str} {sp : Sp} {s1 : Shared} {vs : List Value} {ns : List Int}

/-- the heap as it stands when the law is called: nothing is tracked but the script, by what holds of it -/
structure Entry (P : Program) (w : World) (K : PySem.W.Frag) (H : Hp) (h : Heap) (a : Addr) (ns : List Int) : Prop where
  ok : HOk P w H h
  only : ∀ b u, H b = some u → b = a ∧ K.lookup a = none ∧ ∃ o, h.get? b = some o ∧ u = .frz o (.lst (ns.map V.int))
  script : SqL K H a (ns.map V.int)
theorem entry_of (inK : K.In s1.heap) (at_ : s1.heap.get? a = some { cls := .type "list", data := .seq vs.toArray }) (its : PyProof.Rows.IntsAre vs ns) (few : ns.length ≤ sizeLine) :
    ∃ H, Entry P w K H s1.heap a ns := by
  have rel : Vals (ns.map V.int) vs := vals_of_ints its
  have len : vs.length = ns.length := by
    have := rel.length
    rw [List.length_map] at this
    exact this.symm
  cases known : K.lookup a with
  | some o =>
    have e := inK a o known
    rw [at_] at e
    cases e
    refine ⟨fun _ => none, fun b u e => (nomatch e), fun b u e => (nomatch e), .inr ⟨_, vs.toArray, _, known, rfl, rfl, rfl, ?_, by simpa using rel⟩⟩
    rw [List.size_toArray, len]
    exact few
  | none =>
    let ob : Obj := { cls := .type "list", data := .seq vs.toArray }
    refine ⟨fun b => if b = a then some (.frz ob (.lst (ns.map V.int))) else none, ?_, ?_, .inl (.inr ⟨ob, if_pos rfl⟩)⟩
    · intro b u e
      by_cases q : b = a
      · have e := (if_pos q).symm.trans e
        cases e
        subst q
        exact ⟨at_, by rw [List.length_map]; exact few, vs, _, rel, at_⟩
      · have e := (if_neg q).symm.trans e
        cases e
    · intro b u e
      by_cases q : b = a
      · have e := (if_pos q).symm.trans e
        cases e
        subst q
        exact ⟨rfl, known, ob, at_, rfl⟩
      · have e := (if_neg q).symm.trans e
        cases e
theorem law_run (inK : K.In s1.heap) (ng : s1.heap.Ns mainGlobals mg) (nbl : s1.heap.Ns builtinsNs mb) (same : ∀ y : Str, y ≠ "__name__" → mb y = bootBuiltins y) (calm : s1.heap.NoLimit) (gens : s1.gens = #[])
    (at_ : s1.heap.get? a = some { cls := .type "list", data := .seq vs.toArray }) (its : PyProof.Rows.IntsAre vs ns) (few : ns.length ≤ sizeLine) (room : Room k callerA)
    (F : ∀ base : Heap, K.In base → base.Ns mainGlobals mg → FnG P w K mg base CX0 k fa fd [x] sp) (bind : ∀ (s : Shared) (u : Value), BindsTo s fd ⟨[u], []⟩ [(x, u)])
    (hsp : ∀ H : Hp, (∀ b u, H b = some u → ∃ o, u = .frz o (.lst (ns.map V.int))) → SqL K H a (ns.map V.int) → sp [.ref a] H (fun v _ => v = .bl true) fun _ _ _ => False) :
    codeAny (model P w) callerA (.call (.ref fa) ⟨[.ref a], []⟩) (fun r s' => r = .ok (.ret (.bool true)) ∧ OldK s1.heap s'.heap ∧ s'.os = s1.os ∧ PyProof.Rows.AllBare s'.gens) s1 := by
  obtain ⟨H, E⟩ := entry_of (P := P) (w := w) inK at_ its few
  have free : ∀ {b : Addr} {o : Obj}, s1.heap.get? b = some o → (∀ xs n, o.data ≠ .seq xs n) → H b = none := by
    intro b o e d
    cases q : H b with
    | none => rfl
    | some u =>
      obtain ⟨rfl, _, _⟩ := E.only b u q
      rw [at_] at e
      cases e
      exact absurd rfl (d _ _)
  have ns_of : ∀ {b : Addr} {m : Str → Option Value}, s1.heap.Ns b m → (hidT s1.heap H).Ns b m := by
    rintro b m ⟨o, es, ep, e, d, q⟩
    exact ⟨o, es, ep, hidT_get e (free e fun xs n z => by rw [d] at z; cases z), d, q⟩
  have kin : K.In (hidT s1.heap H) := by
    intro b o e
    refine hidT_get (inK b o e) ?_
    cases q : H b with
    | none => rfl
    | some u =>
      obtain ⟨rfl, z, _⟩ := E.only b u q
      rw [z] at e
      cases e
  have modf : Mod K mg (hidT s1.heap H) := ⟨kin, ns_of ng, ⟨mb, ns_of nbl, same⟩, by obtain ⟨mc, z1, z2⟩ := calm; exact ⟨mc, ns_of z1, z2⟩⟩
  have none_ : ∀ {b : Addr}, b ∈ frs ([] : List Env) → False := fun h => by simp [frs] at h
  have env0 : Env0 P w K mg (hidT s1.heap H) callerA [] s1 H :=
    ⟨rfl, modf, fun b o e => of_hidT e, Nat.le_of_eq (hidT_size _ _), trivial, fun b hb => (none_ hb).elim, E.ok, .of_eq gens⟩
  apply codeAny_mono ((F _ kin (ns_of ng)).goes callerA [] s1 H ⟨[.ref a], []⟩ [.ref a] [.ref a] _ _ room rfl env0 (bind s1 (.ref a)) (.cons rfl .nil)
    (hsp H (fun b u q => by obtain ⟨_, _, o, _, z⟩ := E.only b u q; exact ⟨o, z⟩) E.script))
  intro r s2 h
  match r, h with
  | .error e, h => exact h.elim
  | .ok .next, h => exact h.elim
  | .ok .brk, h => exact h.elim
  | .ok .cont, h => exact h.elim
  | .ok (.ret u), ⟨v, H2, os, bare, un, hok, rv, q⟩ =>
    have q : v = .bl true := q
    subst q
    obtain rfl : u = .bool true := rv
    refine ⟨rfl, OldK.of_keep fun b o e => ?_, os, bare⟩
    cases z : H b with
    | none => exact un.keep b o e z (fun hb => none_ hb) (by simp)
    | some u =>
      obtain ⟨_, _, o2, e2, rfl⟩ := E.only b u z
      have z2 := un.frzs b o2 _ z
      obtain ⟨e3, _⟩ := hok b _ z2
      rw [e] at e2
      cases e2
      exact e3
/-- the goal that the head leaves -/
theorem walkG {l : PySem.W.OpenLaw} {n k : Nat} {q : Program} {loose : List Str} {XP : (Str → Option Value) → Heap → Prop} {YP : World → Heap → Prop} {d : DefRec} {K : Params → PySem.W.Frag} {sp : PySem.W.Frag → Sp} {x : Str}
    (most : l.most = some n) (few : n ≤ sizeLine) (plain : d.params.defaults = []) (room : Room k callerA)
    (hY : ∀ (w : World) (h : Heap), YP w h → (K w.params).In h)
    (F : ∀ (w : World) (mg : Str → Option Value) (fa : Addr) (h : Heap), (K w.params).In h → h.Ns mainGlobals mg → mg d.name = some (.ref fa) →
      ∃ fd : FuncData, (∀ (s : Shared) (u : Value), BindsTo s fd ⟨[u], []⟩ [(x, u)]) ∧
        ∀ base : Heap, (K w.params).In base → base.Ns mainGlobals mg → FnG l.prog w (K w.params) mg base CX0 k fa fd [x] (sp (K w.params)))
    (hsp : ∀ (K : PySem.W.Frag) (H : Hp) (a : Addr) (ns : List Int), ns.length ≤ n → (∀ b u, H b = some u → ∃ o, u = .frz o (.lst (ns.map V.int))) → SqL K H a (ns.map V.int) → sp K [.ref a] H (fun v _ => v = .bl true) fun _ _ _ => False) :
    PySem.W.WalkO q loose XP YP l.row.toRowW d [] (fun f vs => PySem.call f vs) := by
  apply Att.attach_call most plain
  intro w s0 s1 mg mb fa o pm cd doc a vs ns G Y ho hd hcd hmg hobj hints hlen hg
  have inK := hY w _ Y
  obtain ⟨fd, hb, hF⟩ := F w mg fa _ inK G.T.g hmg
  exact law_run inK G.T.g G.T.b G.T.builtins G.T.nolimit hg hobj hints (Nat.le_trans hlen few) room hF hb (fun H hO hS => hsp (K w.params) H a ns hlen hO hS)
end
end DL
/-! A source of draws, handed from def to def; the law itself. -/
namespace DL
open PySem PySem.Spec L2 Gd

def handR (a c : Addr) : Addr → Prop := fun b => b = a ∨ b = c
def ROk (cs : List Int) (z : Int) : Prop := (∀ x ∈ cs, 0 ≤ x) ∧ cs.length ≤ 63 ∧ 0 ≤ z ∧ z < 2 ^ 40
def RandOk (a c : Addr) : Hp → Prop := fun H => a ≠ c ∧ ∃ (cs : List Int) (z : Int), H a = some (.lst [.ref c, .int z]) ∧ H c = some (.lst (cs.map V.int)) ∧ ROk cs z
def spR (K : PySem.W.Frag) (spec : Addr → DSpec) : Sp := fun vs H Q E => ∃ a c, spD K (handR a c) (RandOk a c) (spec a) vs H Q E
section
variable {P : Program} {w : World} {K : PySem.W.Frag} {mg : Str → Option Value} {base : Heap}
theorem fnR {k : Nat} {x qual : Str} {st : Stmt} {f : Addr} {fd : FuncData} {N ps : List Str} {spec : Addr → DSpec}
    (F : Fun K x qual st f fd) (S : FnScope N ps (defScope st)) (len : ∀ a ds post, spec a ds post → ds.length = ps.length)
    (body : ∀ (cdv : Value) (A : Around) (fr : List Env) (s : Shared) (H : Hp) (E : XK), Room k (A.deeper (PyProof.Rows.envOfC qual (defScope st) s.heap.objs.size f cdv)) → A.guards = some [] →
      ∀ (a c : Addr) (dx : Dx), dx.hand = handR a c → dx.J = RandOk a c → ∃ ts t, DSs (Body P w K mg base N qual st f cdv A fr s H E) dx (defBody st) ts t ∧
        ∀ ds post, spec a ds post → t { nx := fun _ _ => post .non, rt := fun d _ => post d } (startD N ds) []) :
    FnG P w K mg base CX0 (k + 1) f fd ps (spR K spec) := by
  refine fnG_body F S ?_ ?_
  · rintro vs H Q E ⟨a, c, m, ds, post, _, _, _, _, al, sp, _⟩
    rw [al.length]
    exact len a ds post sp
  · rintro cdv A fr s H vs Q E room guard ⟨a, c, m, ds, post, live, hm, stab, j, al, sp, k'⟩
    obtain ⟨ts, t, h, q⟩ := body cdv A fr s H E room guard a c ⟨m, H, handR a c, RandOk a c⟩ rfl rfl
    refine ⟨ts, h.pe.nox, ?_⟩
    have le : ExtD (Fo m) H (Mu ⟨m, H, handR a c, RandOk a c⟩ []) H := by
      refine ⟨fun _ _ _ e => e, fun b z n => ?_⟩
      rcases z with z | z | z
      · exact absurd (.inl z) n
      · exact absurd (.inl (hm b z)) n
      · cases z
    have r : HR K ⟨m, H, handR a c, RandOk a c⟩ H [] := ⟨fun p xs z => (nomatch z), List.nodup_nil, live, fun p z => (nomatch z), fun b o e _ => e, j, stab, hm⟩
    refine h.go _ H (startD N ds) [] { nx := fun _ _ => post .non, rt := fun d _ => post d } _ r (start_sr (al.extD le)) (q ds post sp) ⟨?_, ?_, ?_, ?_⟩
    · intro σ' H' δ' S' r' x' s' p'
      exact k' .non H' .non r'.keep r'.live r'.j .non p'
    · intro σ' H' δ' S' r' x' s' p'
      exact p'.elim
    · intro σ' H' δ' S' r' x' s' p'
      exact p'.elim
    · intro v H' d S' r' x' hd p'
      exact k' v H' d r'.keep r'.live r'.j hd p'

/-- a number below another one -/
def spDraw : Addr → DSpec := fun a ds post => ∃ m : Int, ds = [.adr a, .int m] ∧ 1 ≤ m ∧ m < 2 ^ 62 ∧ ∀ r : Int, 0 ≤ r → r < m → post (.int r)
def drawEnd (a c : Addr) (m : Int) : D → Sto → Prop := fun d S => ∃ (r : Int) (cs : List Int) (z : Int), d = .int r ∧ 0 ≤ r ∧ r < m ∧ getS S a = some [.adr c, .int z] ∧ getS S c = some (cs.map D.int) ∧ ROk cs z
theorem fnDraw {k : Nat} {x qual : Str} {st : Stmt} {f : Addr} {fd : FuncData} {N ps : List Str}
    (F : Fun K x qual st f fd) (S : FnScope N ps (defScope st)) (len : ps.length = 2)
    (body : ∀ (cdv : Value) (A : Around) (fr : List Env) (s : Shared) (H : Hp) (E : XK), Room k (A.deeper (PyProof.Rows.envOfC qual (defScope st) s.heap.objs.size f cdv)) → A.guards = some [] →
      ∀ (dx : Dx), ∃ ts t, DSs (Body P w K mg base N qual st f cdv A fr s H E) dx (defBody st) ts t ∧
        ∀ (a c : Addr) (cs : List Int) (z m : Int), a ≠ c → ROk cs z → 1 ≤ m → m < 2 ^ 62 → t { nx := fun _ _ => False, rt := drawEnd a c m } (startD N [.adr a, .int m]) [(a, .l [.adr c, .int z]), (c, .l (cs.map D.int))]) :
    FnG P w K mg base CX0 (k + 1) f fd ps (spR K spDraw) := by
  refine fnG_body F S ?_ ?_
  · rintro vs H Q E ⟨a, c, m, ds, post, _, _, _, _, al, ⟨_, rfl, _⟩, _⟩
    rw [al.length, len]
    rfl
  · rintro cdv A fr s H vs Q E room guard ⟨a, c, mm, ds, post, live, hm, stab, j, al, ⟨m, rfl, m1, m2, kp⟩, k'⟩
    obtain ⟨ne, cs, z, ha, hc, ok⟩ := j
    have hvs : vs = [.ref a, .int m] := by
      cases al with
      | cons h1 al =>
        cases h1
        cases al with
        | cons h2 al =>
          cases h2
          cases al
          rfl
    subst hvs
    let H0 : Hp := fun b => if b = a ∨ b = c then none else H b
    let dx : Dx := ⟨fun b => mm b ∧ ¬ (b = a ∨ b = c), H0, noHand, noJ⟩
    obtain ⟨ts, t, h, q⟩ := body cdv A fr s H E room guard dx
    refine ⟨ts, h.pe.nox, ?_⟩
    have h0 : ∀ b, (b = a ∨ b = c) → H0 b = none := fun b e => if_pos e
    have h1 : ∀ b, ¬ (b = a ∨ b = c) → H0 b = H b := fun b e => if_neg e
    have r : HR K dx H [(a, .l [.adr c, .int z]), (c, .l (cs.map D.int))] := by
      refine ⟨fun p xs mm => ?_, ?_, fun b mb => live b mb.1, fun p mp => ?_, fun b o e _ => ?_, trivial, fun _ _ _ _ => trivial, fun b z => z.elim⟩
      · rcases List.mem_cons.mp mm with e | mm
        · cases e
          exact ⟨_, ha, .l (.cons (.adr c) (.cons (.int z) .nil))⟩
        · rcases List.mem_cons.mp mm with e | mm
          · cases e
            exact ⟨_, hc, .l (DtAll.ints cs)⟩
          · cases mm
      · show [a, c].Nodup
        simpa using ne
      · have mp : p ∈ [a, c] := mp
        have e : p = a ∨ p = c := by simpa using mp
        exact ⟨h0 p e, fun z => z.2 e⟩
      · by_cases e2 : b = a ∨ b = c
        · have e : H0 b = some o := e
          rw [h0 b e2] at e
          cases e
        · have e : H0 b = some o := e
          rw [h1 b e2] at e
          exact e
    refine h.go _ H (startD N [.adr a, .int m]) _ _ _ r (start_sr (.cons (.adr a) (.cons (.int m) .nil))) (q a c cs z m ne ok m1 m2) ⟨?_, ?_, ?_, ?_⟩
    · intro σ' H' δ' S' r' x' s' p'
      exact p'.elim
    · intro σ' H' δ' S' r' x' s' p'
      exact p'.elim
    · intro σ' H' δ' S' r' x' s' p'
      exact p'.elim
    · rintro v H' d S' r' x' hd ⟨r, cs', z', rfl, r0, r1, ga, gc, ok'⟩
      obtain ⟨_, va, ea, da⟩ := r'.get ga
      obtain ⟨_, vc, ec, dc⟩ := r'.get gc
      have ja : H' a = some (.lst [.ref c, .int z']) := by
        cases da with
        | cons h1 da =>
          cases h1
          cases da with
          | cons h2 da =>
            cases h2
            cases da
            exact ea
      have jc : H' c = some (.lst (cs'.map V.int)) := by
        rw [Dt.ints_of dc] at ec
        exact ec
      have hd2 : Dt K (Fo mm) H' v (.int r) := by
        cases hd
        exact .int r
      refine k' v H' _ (fun b o e n => ?_) (fun b mb => ?_) ⟨ne, cs', z', ja, jc, ok'⟩ hd2 (kp r r0 r1)
      · have n : ¬ (b = a ∨ b = c) := n
        exact r'.keep b o ((h1 b n).trans e) fun z => z
      · by_cases e2 : b = a ∨ b = c
        · rcases e2 with rfl | rfl
          · rw [ja]; exact fun z => nomatch z
          · rw [jc]; exact fun z => nomatch z
        · exact r'.live b ⟨mb, e2⟩

/-- the script in, a source of draws out -/
def spHeap : DSpec := fun ds post => ∃ ns : List Int, ds = [.fls ns] ∧ ns.length ≤ 63 ∧ ∀ (cs : List Int) (z : Int), ROk cs z → post (.lst [.lst (cs.map D.int), .int z])
def spL (K : PySem.W.Frag) : Sp := fun vs H Q _ => ∃ (a : Addr) (ns : List Int), vs = [.ref a] ∧ ns.length ≤ 63 ∧ (∀ b u, H b = some u → ∃ o, u = .frz o (.lst (ns.map V.int))) ∧ SqL K H a (ns.map V.int) ∧ ∀ H', Q (.bl true) H'
theorem fnLaw {k : Nat} {x qual : Str} {st : Stmt} {f : Addr} {fd : FuncData} {N ps : List Str} {y : Str} {py ps1 : Pos} {rest : List Stmt} {e1 : Expr}
    (F : Fun K x qual st f fd) (S : FnScope N ps (defScope st)) (len : ps.length = 1) (hb : defBody st = .Assign [.Name y py] e1 ps1 :: rest)
    (body : ∀ (cdv : Value) (A : Around) (fr : List Env) (s : Shared) (H : Hp) (E : XK), Room k (A.deeper (PyProof.Rows.envOfC qual (defScope st) s.heap.objs.size f cdv)) → A.guards = some [] →
      ∃ te ts, (∀ dx, DE (Body P w K mg base N qual st f cdv A fr s H E) dx e1 te (dCall spHeap (dCons (dVar 0) dNil))) ∧ PS (Body P w K mg base N qual st f cdv A fr s H E) (.Assign [.Name y py] e1 ps1) (tAsg te (gName 1)) ∧
        ∀ (a c : Addr) (dx : Dx), dx.hand = handR a c → dx.J = RandOk a c → ∃ t, DSs (Body P w K mg base N qual st f cdv A fr s H E) dx rest ts t ∧
          ∀ ns : List Int, ns.length ≤ 63 → t { nx := fun _ _ => False, rt := fun d _ => d = .bl true } (put (startD N [.fls ns]) 1 (.adr a)) []) :
    FnG P w K mg base CX0 (k + 1) f fd ps (spL K) := by
  refine fnG_body F S ?_ ?_
  · rintro vs H Q E ⟨a, ns, rfl, _⟩
    rw [len]
    rfl
  · rintro cdv A fr s H vs Q E room guard ⟨a0, ns, rfl, few, only, hS, k'⟩
    obtain ⟨te, ts, he, hp, hr⟩ := body cdv A fr s H E room guard
    refine ⟨tSeq (tAsg te (gName 1)) ts, ?_, ?_⟩
    · rw [hb]
      refine (pss_cons hp ?_).nox
      obtain ⟨t, h, _⟩ := hr 0 0 ⟨fun _ => False, H, handR 0 0, RandOk 0 0⟩ rfl rfl
      exact h.pe
    · let dx0 : Dx := ⟨fun _ => False, H, noHand, noJ⟩
      have r0 : HR K dx0 H [] := ⟨fun p xs z => (nomatch z), List.nodup_nil, fun b z => z.elim, fun p z => (nomatch z), fun b o e _ => e, trivial, fun _ _ _ _ => trivial, fun b z => z.elim⟩
      have nm : ∀ b, ¬ (Mu dx0 []).mu b := fun b z => by
        rcases z with z | z | z
        · exact z
        · exact z
        · cases z
      have d0 : Dt K (Mu dx0 []) H (.ref a0) (.fls ns) := by
        rcases hS with h | h
        · exact .fls (nm _) h
        · exact .kfls h
      refine (he dx0).go (L2.start N [.ref a0]) H (startD N [.fls ns]) [] (fun d S => S = [] ∧ ∃ cs z, ROk cs z ∧ d = .lst [.lst (cs.map D.int), .int z]) _ r0 (start_sr (.cons d0 .nil)) ?_ ?_
      · exact ⟨ns, rfl, few, fun cs z ok => ⟨rfl, cs, z, ok, rfl⟩⟩
      · rintro v H' d S' r' x' hd ⟨rfl, cs, z, ok, rfl⟩
        obtain ⟨a, vs, rfl, _, ha, al⟩ := hd.sqL
        have key : ∃ c, vs = [.ref c, .int z] ∧ H' c = some (.lst (cs.map V.int)) := by
          cases al with
          | cons h1 al =>
            obtain ⟨c, ws, rfl, _, hc, bl⟩ := h1.sqL
            rw [Dt.ints_of bl] at hc
            cases al with
            | cons h2 al =>
              cases h2
              cases al
              exact ⟨c, rfl, hc⟩
        obtain ⟨c, rfl, hc⟩ := key
        have ne : a ≠ c := fun e => by
          subst e
          rw [ha] at hc
          cases cs with
          | nil => cases hc
          | cons i cs => injection hc with hc; injection hc with hc; injection hc with hc; cases hc
        let dx1 : Dx := ⟨handR a c, H', handR a c, RandOk a c⟩
        have r1 : HR K dx1 H' [] := by
          refine ⟨fun p xs z => (nomatch z), List.nodup_nil, fun b hb => ?_, fun p z => (nomatch z), fun b o e _ => e, ⟨ne, cs, z, ha, hc, ok⟩, fun H1 H2 same j => ?_, fun b z => z⟩
          · rcases hb with rfl | rfl
            · rw [ha]; exact fun z => nomatch z
            · rw [hc]; exact fun z => nomatch z
          · obtain ⟨ne, cs, z, e1, e2, ok⟩ := j
            exact ⟨ne, cs, z, (same a (.inl rfl)).trans e1, (same c (.inr rfl)).trans e2, ok⟩
        have d1 : Dt K (Mu dx1 []) H' (.ref a0) (.fls ns) := by
          rcases hS with h | h
          · obtain ⟨o, e⟩ := Rd.some h
            obtain ⟨o', e'⟩ := only a0 o e
            subst e'
            have e2 := r'.keep a0 _ e (fun z => z)
            refine .fls ?_ (.inr ⟨o', e2⟩)
            have na : a0 ≠ a := fun z => by rw [z, ha] at e2; cases e2
            have nc : a0 ≠ c := fun z => by rw [z, hc] at e2; cases e2
            rintro ((z | z) | z)
            · exact na z
            · exact nc z
            · rcases z with (z | z) | z
              · exact na z
              · exact nc z
              · cases z
          · exact .kfls h
        obtain ⟨t, h, q⟩ := hr a c dx1 rfl rfl
        have s1 : SR K dx1 ((L2.start N [.ref a0]).set 1 (some (.ref a))) H' (put (startD N [.fls ns]) 1 (.adr a)) [] := by
          rw [put_set]
          exact (start_sr (.cons d1 .nil)).set 1 (.adr a)
        show ts _ ((L2.start N [.ref a0]).set 1 (some (.ref a))) H'
        refine h.go _ H' _ [] { nx := fun _ _ => False, rt := fun d _ => d = .bl true } _ r1 s1 (q ns few) ⟨?_, ?_, ?_, ?_⟩
        · intro σ' H' δ' S' r' x' s' p'
          exact p'.elim
        · intro σ' H' δ' S' r' x' s' p'
          exact p'.elim
        · intro σ' H' δ' S' r' x' s' p'
          exact p'.elim
        · rintro v H2 d S' r' x' hd rfl
          cases hd
          exact k' H2
end

section
variable {X : Cx} {dx : Dx} {k : Nat} {f a c : Addr} {fd : FuncData} {ps : List Str} {x : Str} {p pos : Pos} {e : Expr} {es : List Expr} {ta : TA} {fa : DTA} {spec : Addr → DSpec}
/-- f(heap, ..) -/
theorem de_callR (F : FnG X.prog X.w X.K X.mg X.base CX0 k f fd ps (spR X.K spec)) (room : Room k X.A) (guard : X.A.guards = some [])
    (hg : Gl X x) (hm : X.mg x = some (.ref f)) (kp : PySem.W.keepIn X.K (.ref f) = true) (hb : Binds X.K fd ps []) (h1 : dx.hand = handR a c) (h2 : dx.J = RandOk a c) (ha : DA X dx (e :: es) ta fa)
    (hdb : (x == ("__debug__" : Str)) = false := by decide)
    (he : starEach (e :: es) X.env = (false, eval e X.env) :: starEach es X.env := by rfl)
    (hpl : (backTo pos (starEach es X.env)).any (·.1) = false := by rfl) :
    DE X dx (.Call (.Name x p) (e :: es) [] pos) (tCall (spR X.K spec) [] (fun _ _ _ => False) ta) (dCall (spec a) fa) := by
  refine ⟨pe_callG F room guard hg hm kp hb .nil pass0 ha.pe hdb he hpl, fun σ H δ S Q Qh r s t kk => ?_⟩
  refine ha.go σ H δ S _ _ r s t fun vs H1 ds S1 r1 x1 d1 t1 => ?_
  rw [List.append_nil]
  exact ⟨a, c, spd_go r1 d1 (.inr ⟨h1.symm, h2.symm⟩) t1 (kk.on x1)⟩
/-- o[i] = e, of a list of one's own -/
def fSetI (o i d : D) (S : Sto) (k : Sto → Prop) : Prop := match o, i with
  | .adr p, .int j => opt (getS S p) fun ds => opt (ixN ds.length j) fun n => k (setS S p (ds.set n d))
  | _, _ => False
def dSetI (fe fo fi : DTE) : DTS := fun DD δ S => fe δ S fun d S1 => fo δ S1 fun o S2 => fi δ S2 fun i S3 => fSetI o i d S3 fun S4 => DD.nx δ S4
theorem ds_setI {st o i : Expr} {st' : Stmt} {te to ti : TE} {fe fo fi : DTE} (hE : DE X dx e te fe) (hO : DE X dx o to fo) (hI : DE X dx i ti fi) (hp : PS X st' (tAsg te (gSub to ti rSetL))) : DS X dx st' (tAsg te (gSub to ti rSetL)) (dSetI fe fo fi) := by
  refine ⟨hp, fun σ H δ S DD E r s q k => ?_⟩
  refine hE.go σ H δ S _ _ r s q fun v H1 d S1 r1 x1 d1 t1 => ?_
  refine hO.go σ H1 δ S1 _ _ r1 (s.ext x1) t1 fun vo H2 o S2 r2 x2 d2 t2 => ?_
  refine hI.go σ H2 δ S2 _ _ r2 (s.ext (x1.trans x2)) t2 fun vi H3 i S3 r3 x3 d3 t3 => ?_
  unfold fSetI at t3
  split at t3
  · rename_i p j
    obtain ⟨ds, g, t3⟩ := opt_run t3
    obtain ⟨n, en, t3⟩ := opt_run t3
    cases d3
    have d2' := d2.ext x3
    cases d2'
    obtain ⟨m, ws, eh, al⟩ := r3.get g
    have x4 : Ext (Mu dx S3) H3 (Mu dx (setS S3 p (ds.set n d))) (upd H3 p (.lst (ws.set n v))) := ext_set m
    refine ⟨p, ws, j, n, rfl, rfl, eh, by rw [al.length]; exact en, k.nx _ _ _ _ (r3.put m (al.set (d1.ext (x2.trans x3)) n)) (((x1.trans x2).trans x3).trans x4) (s.ext (((x1.trans x2).trans x3).trans x4)) t3⟩
  · exact t3.elim
end
end DL
/-! The rules once more, with what they need of single values made from their own parts. -/
namespace DL
open PySem PySem.Spec L2 Gd

structure CalD (K : PySem.W.Frag) (mg : Str → Option Value) (x : Str) (st : Stmt) (ps : List Str) where
  f : Addr
  fd : FuncData
  m : mg x = some (.ref f)
  F : Fun K x x st f fd
  b : Binds K fd ps []
section
variable {X : Cx} {dx : Dx} {a e o i tg st : Expr} {es : List Expr} {to te ti : TE} {ta : TA} {fo fe fi : DTE} {fa : DTA} {s : Stmt} {pos p : Pos} {x : Str}
theorem de_met' {r : V → List V → Hp → VK → Prop} {f} (m : MetD X.K dx r f) (ho : DE X dx a to fo) (ha : DA X dx es ta fa) (hp : PE X a to → PA X es ta → PE X st (tBM X.K "list" r to ta)) : DE X dx st (tBM X.K "list" r to ta) (dML f fo fa) := de_met m ho ha (hp ho.pe ha.pe)
theorem de_met0' {r : V → List V → Hp → VK → Prop} {f} (m : MetD X.K dx r f) (ho : DE X dx a to fo) (hp : PE X a to → PE X st (tBM0 X.K "list" r to)) : DE X dx st (tBM0 X.K "list" r to) (dML0 f fo) := de_met0 m ho (hp ho.pe)
def isi_tuple (t : String) : Bool := t == "tuple"
def isi_int (t : String) : Bool := t == "int" || t == "bool"
def isi_bool (t : String) : Bool := t == "bool"
def isi_list (t : String) : Bool := t == "list"
def isi_str (t : String) : Bool := t == "str"
theorem de_isi' {T : String} {f : String → Bool} (hf : ∀ t ∈ ["NoneType", "bool", "int", "str", "tuple", "list"], kitB t T = some (f t)) (he : DE X dx e te fe) (hp : PE X e te → PE X st (tIsi X.K T te)) : DE X dx st (tIsi X.K T te) (dIsi f fe) := de_isi hf he (hp he.pe)
theorem de_callB' {id : String} {r : List V → Hp → VK → Prop} {f} (hc : CallR X (.builtin id) r) (o : CallD X.K dx r f) (ha : DA X dx es ta fa) (hp : PA X es ta → PE X st (tCB r ta)) : DE X dx st (tCB r ta) (dCB f fa) := ⟨hp ha.pe, cb_go o ha⟩
theorem de_callTy' {id : String} {r : List V → Hp → VK → Prop} {f} (hc : CallR X (.type id) r) (o : CallD X.K dx r f) (ha : DA X dx es ta fa) (hp : PA X es ta → PE X st (tCB r ta)) : DE X dx st (tCB r ta) (dCB f fa) := ⟨hp ha.pe, cb_go o ha⟩
theorem dgs_cons' {g : TG} {u : TGs} {f : DTG} {w : DTGs} {o1 o2 : List Nat} (h1 : DG X dx e g f o1) (h2 : DGs X dx es u w o2) (hl : PG X e g → PGs X es u → PGs X (e :: es) (gCons g u)) : DGs X dx (e :: es) (gCons g u) (dgCons f w) (o1 ++ o2) := dgs_cons h1 h2 (hl h1.pe h2.pe)
theorem dg_tup' {k : Nat} {g : TGs} {f : DTGs} {n : Nat} {o : List Nat} (h : DGs X dx es g f o) (hp : PGs X es g → PG X (.Tuple es k pos) (gTup X.K n g)) : DG X dx (.Tuple es k pos) (gTup X.K n g) (dgTup n f) o := dg_tup h (hp h.pe)
theorem di_range3' {b c : Expr} (h : PA X [a, b, c] ta → PI X tg (.Call (.Name "range" p) [a, b, c] [] pos) (iRng3 ta)) (ha : DA X dx [a, b, c] ta fa) : DI X dx tg (.Call (.Name "range" p) [a, b, c] [] pos) (iRng3 ta) (dRng3 fa) := di_range3 (h ha.pe) ha
theorem di_zip' (ha : DA X dx es ta fa) (hp : PA X es ta → PI X tg st (iZipM X.K ta)) : DI X dx tg st (iZipM X.K ta) (dZip fa) := di_zip ha (hp ha.pe)
theorem di_rev' (he : DE X dx e te fe) (hp : PE X e te → PI X tg st (RT.iRevA X.K te)) : DI X dx tg st (RT.iRevA X.K te) (dRev fe) := di_rev (p := ⟨0, 0, 0, 0⟩) he (hp he.pe)
theorem ds_par' {i j : Nat} (h : DA X dx es ta fa) (hp : PA X es ta → PS X s (tPar i j ta)) : DS X dx s (tPar i j ta) (dPar [i, j] fa) := ds_par h (hp h.pe)
theorem ds_par3' {i j l : Nat} (h : DA X dx es ta fa) (hp : PA X es ta → PS X s (tPar3 i j l ta)) : DS X dx s (tPar3 i j l ta) (dPar [i, j, l] fa) := ds_par3 h (hp h.pe)
theorem ds_asg' {g : TG} {f : DTG} {o : List Nat} (h : DE X dx e te fe) (hg : DG X dx tg g f o) (hp : PE X e te → PG X tg g → PS X s (tAsg te g)) : DS X dx s (tAsg te g) (dAsg fe f) := ds_asg h hg (hp h.pe hg.pe)
theorem ds_setI' (hE : DE X dx e te fe) (hO : DE X dx o to fo) (hI : DE X dx i ti fi) (hp : PE X e te → PE X o to → PE X i ti → PS X s (tAsg te (gSub to ti rSetL))) : DS X dx s (tAsg te (gSub to ti rSetL)) (dSetI fe fo fi) := ds_setI (st := e) hE hO hI (hp hE.pe hO.pe hI.pe)
theorem ds_aug' {i : Nat} {tp : TIp} {f : F2} (h : DE X dx e te fe) (o : OpD X.K dx tp f) (hp : PE X e te → PS X s (tAug i te tp)) : DS X dx s (tAug i te tp) (dAug i f fe) := ds_aug (hp h.pe) h o
end
end DL
/-! The rules with what is known named outright, so that they can stand in a comprehension, too. -/
namespace DL
open PySem PySem.Spec L2 Gd

section
variable {X : Cx} {dx : Dx} {a b e o i tg st : Expr} {es : List Expr} {kws : List Keyword} {ta' tb' te to ti : TE} {ta tk : TA} {fo fe fi ga gb : DTE} {fa fk : DTA} {s : Stmt} {pos p : Pos} {x : Str}
theorem op_addAll_ (K : PySem.W.Frag) (hK : X.K = K := by rfl) : OpR X (binaryOp .Add) (DL.rAdd K) := by subst hK; exact op_addAll
theorem op_mulAll_ (K : PySem.W.Frag) (hK : X.K = K := by rfl) : OpR X (binaryOp .Mult) (DL.rMul K) := by subst hK; exact op_mulAll
theorem op_eqA_ (K : PySem.W.Frag) (hu : X.A.units + 64 < cLine) (hK : X.K = K := by rfl) : OpR X (compareOp .Eq) (rEqA K) := by subst hK; exact op_eqA hu
theorem op_neA_ (K : PySem.W.Frag) (hu : X.A.units + 64 < cLine) (hK : X.K = K := by rfl) : OpR X (compareOp .NotEq) (rNeA K) := by subst hK; exact op_neA hu
theorem de_ix_ (K : PySem.W.Frag) (ha : DE X dx a ta' ga) (hb : DE X dx b tb' gb) (hs : PlainIx b := by exact fun _ _ => rfl) (hK : X.K = K := by rfl) : DE X dx (.Subscript a b pos) (tOp (rIx K) ta' tb') (dOp fIx ga gb) := by subst hK; exact de_ix ha hb hs
theorem de_slice_ (K : PySem.W.Frag) {lo hi : Option Expr} {tl th : TO} {fl fh : DTO} {p2 : Pos} (he : DE X dx e te fe) (hl : DO X dx lo tl fl) (hu : DO X dx hi th fh) (hK : X.K = K := by rfl) : DE X dx (.Subscript e (.Slice lo hi none p2) pos) (tSl (rSl K) te tl th) (dSl fe fl fh) := by subst hK; exact de_slice he hl hu
theorem de_rev_ (K : PySem.W.Frag) {k' : Nat} {p1 p2 p3 : Pos} (he : DE X dx e te fe) (hK : X.K = K := by rfl) : DE X dx (.Subscript e (.Slice none none (some (.UnaryOp .USub (.Constant (.int 1) k' p1) p2)) p3) pos) (tRevL K te) (dUn fRev fe) := by subst hK; exact de_rev he
theorem dt_tru_ (K : PySem.W.Frag) (h : DE X dx e te fe) (he : ∀ whole, isTrue e X.env whole = (do let v ← whole; standAt e.pos; holding [v] (truthy v)) := by intro _; rfl) (hK : X.K = K := by rfl) : DT X dx e (tTr K te) (dTr fe) := by subst hK; exact dt_tru h he
theorem di_seq_ (K : PySem.W.Frag) (h : DE X dx e te fe) (hK : X.K = K := by rfl) : DI X dx tg e (iSeq K te) (dSeq fe) := by subst hK; exact di_seq h
theorem di_zip_ (K : PySem.W.Frag) (ha : DA X dx es ta fa) (hp : PA X es ta → PI X tg (.Call (.Name x p) es [] pos) (iZipM K ta)) (hK : X.K = K := by rfl) : DI X dx tg (.Call (.Name x p) es [] pos) (iZipM K ta) (dZip fa) := by subst hK; exact di_zip' ha hp
theorem di_rev_ (K : PySem.W.Frag) (he : DE X dx e te fe) (hp : PE X e te → PI X tg (.Call (.Name x p) [e] [] pos) (RT.iRevA K te)) (hK : X.K = K := by rfl) : DI X dx tg (.Call (.Name x p) [e] [] pos) (RT.iRevA K te) (dRev fe) := by subst hK; exact di_rev' he hp
theorem dg_tup_ (K : PySem.W.Frag) {k : Nat} {g : TGs} {f : DTGs} {n : Nat} {ow : List Nat} (h : DGs X dx es g f ow) (hp : PGs X es g → PG X (.Tuple es k pos) (gTup K n g)) (hK : X.K = K := by rfl) : DG X dx (.Tuple es k pos) (gTup K n g) (dgTup n f) ow := by subst hK; exact dg_tup' h hp
theorem de_met_ (K : PySem.W.Frag) {nm : Str} {apos : Pos} {r : V → List V → Hp → VK → Prop} {f} (m : MetD X.K dx r f) (ho : DE X dx a to fo) (ha : DA X dx es ta fa) (hp : PE X a to → PA X es ta → PE X (.Call (.Attribute a nm apos) es [] pos) (tBM K "list" r to ta)) (hK : X.K = K := by rfl) : DE X dx (.Call (.Attribute a nm apos) es [] pos) (tBM K "list" r to ta) (dML f fo fa) := by subst hK; exact de_met' m ho ha hp
theorem de_met0_ (K : PySem.W.Frag) {nm : Str} {apos : Pos} {r : V → List V → Hp → VK → Prop} {f} (m : MetD X.K dx r f) (ho : DE X dx a to fo) (hp : PE X a to → PE X (.Call (.Attribute a nm apos) [] [] pos) (tBM0 K "list" r to)) (hK : X.K = K := by rfl) : DE X dx (.Call (.Attribute a nm apos) [] [] pos) (tBM0 K "list" r to) (dML0 f fo) := by subst hK; exact de_met0' m ho hp
theorem de_isi_ (K : PySem.W.Frag) {T : String} {f : String → Bool} (hf : ∀ t ∈ ["NoneType", "bool", "int", "str", "tuple", "list"], kitB t T = some (f t)) (he : DE X dx e te fe) (hp : PE X e te → PE X (.Call (.Name x p) [e, b] [] pos) (tIsi K T te)) (hK : X.K = K := by rfl) : DE X dx (.Call (.Name x p) [e, b] [] pos) (tIsi K T te) (dIsi f fe) := by subst hK; exact de_isi' hf he hp
def rTuple (K : PySem.W.Frag) : List V → Hp → VK → Prop := fun xs H Q => ∃ p ys, xs = [.ref p] ∧ ((SqL K H p ys ∧ ∀ l, H l = none → Q (.ref l) (upd H l (.tup ys))) ∨ (SqT K H p ys ∧ Q (.ref p) H))
def rList (K : PySem.W.Frag) : List V → Hp → VK → Prop := fun xs H Q => ∃ p ys, xs = [.ref p] ∧ (SqL K H p ys ∨ SqT K H p ys) ∧ ∀ l, H l = none → Q (.ref l) (upd H l (.lst ys))
theorem cr_tuple_ (K : PySem.W.Frag) (hK : X.K = K := by rfl) : CallR X (.type "tuple") (rTuple K) := by subst hK; exact call_tuple_of
theorem cr_list_ (K : PySem.W.Frag) (hK : X.K = K := by rfl) : CallR X (.type "list") (rList K) := by subst hK; exact call_list_of
theorem cd_tuple_ {K : PySem.W.Frag} : CallD K dx (rTuple K) (one fTuple) := cd_tuple
theorem cd_list_ {K : PySem.W.Frag} : CallD K dx (rList K) (one fList) := cd_list
theorem cr_len_ (K : PySem.W.Frag) (hK : X.K = K := by rfl) : CallR X (.builtin "len") (rLen K) := by subst hK; exact cr_len
theorem cr_repr_ (K : PySem.W.Frag) (guard : X.A.guards = some []) (hu : X.A.units + 64 < cLine) (hK : X.K = K := by rfl) : CallR X (.builtin "repr") (rRepr K) := by subst hK; exact cr_repr guard hu
theorem cr_all_ (K : PySem.W.Frag) (hc : X.calm = true) (hK : X.K = K := by rfl) : CallR X (.builtin "all") (rAll K) := by subst hK; exact cr_all hc
theorem cr_any_ (K : PySem.W.Frag) (hc : X.calm = true) (hK : X.K = K := by rfl) : CallR X (.builtin "any") (rAny K) := by subst hK; exact cr_any hc
theorem cr_sum_ (K : PySem.W.Frag) (hc : X.calm = true) (hK : X.K = K := by rfl) : CallR X (.builtin "sum") (rSum K) := by subst hK; exact cr_sum hc
theorem cr_isi_ (K : PySem.W.Frag) (hK : X.K = K := by rfl) : CallR X (.builtin "isinstance") (rIsi K) := by subst hK; exact call_isi
theorem de_callB_ {id : String} {r : List V → Hp → VK → Prop} {f} (hc : CallR X (.builtin id) r) (o : CallD X.K dx r f) (ha : DA X dx es ta fa) (hp : PA X es ta → PE X (.Call (.Name x p) es [] pos) (tCB r ta)) : DE X dx (.Call (.Name x p) es [] pos) (tCB r ta) (dCB f fa) := ⟨hp ha.pe, cb_go o ha⟩
theorem de_callTy_ {id : String} {r : List V → Hp → VK → Prop} {f} (hc : CallR X (.type id) r) (o : CallD X.K dx r f) (ha : DA X dx es ta fa) (hp : PA X es ta → PE X (.Call (.Name x p) es [] pos) (tCB r ta)) : DE X dx (.Call (.Name x p) es [] pos) (tCB r ta) (dCB f fa) := ⟨hp ha.pe, cb_go o ha⟩
theorem ds_par_ {i j : Nat} {tgs : List Expr} {kt k2 : Nat} {pt pt2 : Pos} (h : DA X dx es ta fa) (hp : PA X es ta → PS X (.Assign [.Tuple tgs kt pt] (.Tuple es k2 pt2) pos) (tPar i j ta)) : DS X dx (.Assign [.Tuple tgs kt pt] (.Tuple es k2 pt2) pos) (tPar i j ta) (dPar [i, j] fa) := ds_par h (hp h.pe)
theorem ds_par3_ {i j l : Nat} {tgs : List Expr} {kt k2 : Nat} {pt pt2 : Pos} (h : DA X dx es ta fa) (hp : PA X es ta → PS X (.Assign [.Tuple tgs kt pt] (.Tuple es k2 pt2) pos) (tPar3 i j l ta)) : DS X dx (.Assign [.Tuple tgs kt pt] (.Tuple es k2 pt2) pos) (tPar3 i j l ta) (dPar [i, j, l] fa) := ds_par3 h (hp h.pe)
theorem ds_asg_ {g : TG} {f : DTG} {ow : List Nat} (h : DE X dx e te fe) (hg : DG X dx tg g f ow) (hp : PE X e te → PG X tg g → PS X (.Assign [tg] e pos) (tAsg te g)) : DS X dx (.Assign [tg] e pos) (tAsg te g) (dAsg fe f) := ds_asg h hg (hp h.pe hg.pe)
theorem ds_setI_ {p2 : Pos} (hE : DE X dx e te fe) (hO : DE X dx o to fo) (hI : DE X dx i ti fi) (hp : PE X e te → PE X o to → PE X i ti → PS X (.Assign [.Subscript o i p2] e pos) (tAsg te (gSub to ti rSetL))) : DS X dx (.Assign [.Subscript o i p2] e pos) (tAsg te (gSub to ti rSetL)) (dSetI fe fo fi) := ds_setI (st := e) hE hO hI (hp hE.pe hO.pe hI.pe)
theorem ds_aug_ {i : Nat} {tp : TIp} {f : F2} {op : Operator} (h : DE X dx e te fe) (o : OpD X.K dx tp f) (hp : PE X e te → PS X (.AugAssign tg op e pos) (tAug i te tp)) : DS X dx (.AugAssign tg op e pos) (tAug i te tp) (dAug i f fe) := ds_aug (hp h.pe) h o
variable {k : Nat} {f c d : Addr} {fd : FuncData} {ps ks : List Str} {spec : DSpec} {specR : Addr → DSpec} {g : List Value → List Value → List Value} {gV : List V → List V → List V} {gD : List D → List D → List D}
theorem de_call_ (K : PySem.W.Frag) (F : FnG X.prog X.w K X.mg X.base CX0 k f fd ps (spP K spec)) (room : Room k X.A) (guard : X.A.guards = some [])
    (hg : Gl X x) (hm : X.mg x = some (.ref f)) (kp : PySem.W.keepIn K (.ref f) = true) (hb : Binds K fd ps []) (ha : DA X dx (e :: es) ta fa)
    (hdb : (x == ("__debug__" : Str)) = false := by decide)
    (he : starEach (e :: es) X.env = (false, eval e X.env) :: starEach es X.env := by rfl)
    (hpl : (backTo pos (starEach es X.env)).any (·.1) = false := by rfl) (hK : X.K = K := by rfl) :
    DE X dx (.Call (.Name x p) (e :: es) [] pos) (tCall (spP K spec) [] (fun _ _ _ => False) ta) (dCall spec fa) := by subst hK; exact de_call F room guard hg hm kp hb (.inl ⟨rfl, rfl⟩) ha hdb he hpl
theorem de_callR_ (K : PySem.W.Frag) (F : FnG X.prog X.w K X.mg X.base CX0 k f fd ps (spR K specR)) (room : Room k X.A) (guard : X.A.guards = some [])
    (hg : Gl X x) (hm : X.mg x = some (.ref f)) (kp : PySem.W.keepIn K (.ref f) = true) (hb : Binds K fd ps []) (h1 : dx.hand = handR c d) (h2 : dx.J = RandOk c d) (ha : DA X dx (e :: es) ta fa)
    (hdb : (x == ("__debug__" : Str)) = false := by decide)
    (he : starEach (e :: es) X.env = (false, eval e X.env) :: starEach es X.env := by rfl)
    (hpl : (backTo pos (starEach es X.env)).any (·.1) = false := by rfl) (hK : X.K = K := by rfl) :
    DE X dx (.Call (.Name x p) (e :: es) [] pos) (tCall (spR K specR) [] (fun _ _ _ => False) ta) (dCall (specR c) fa) := by subst hK; exact de_callR F room guard hg hm kp hb h1 h2 ha hdb he hpl
theorem de_callK_ (K : PySem.W.Frag) (F : FnG X.prog X.w K X.mg X.base CX0 k f fd ps (spP K spec)) (room : Room k X.A) (guard : X.A.guards = some [])
    (hg : Gl X x) (hm : X.mg x = some (.ref f)) (kp : PySem.W.keepIn K (.ref f) = true) (hb : KBinds K fd ps ks g gV) (ho : KOrd gV gD) (ha : DA X dx (e :: es) ta fa) (hk : DK X dx kws tk fk)
    (hall : (backToKw pos (keywordEach kws X.env)).all (·.1.isSome) = true := by rfl)
    (hks : (backToKw pos (keywordEach kws X.env)).filterMap (·.1) = ks := by rfl)
    (hdb : (x == ("__debug__" : Str)) = false := by decide)
    (he : starEach (e :: es) X.env = (false, eval e X.env) :: starEach es X.env := by rfl)
    (hpl : ((backTo pos (starEach (e :: es) X.env)).any (·.1) || (backToKw pos (keywordEach kws X.env)).any (·.1.isNone)) = false := by rfl) (hK : X.K = K := by rfl) :
    DE X dx (.Call (.Name x p) (e :: es) kws pos) (tCallK (spP K spec) gV (fun _ _ _ => False) ta tk) (dCallK spec gD fa fk) := by subst hK; exact de_callK F room guard hg hm kp hb ho (.inl ⟨rfl, rfl⟩) ha hk hall hks hdb he hpl
theorem de_callK0_ (K : PySem.W.Frag) (F : FnG X.prog X.w K X.mg X.base CX0 k f fd ps (spP K spec)) (room : Room k X.A) (guard : X.A.guards = some [])
    (hg : Gl X x) (hm : X.mg x = some (.ref f)) (kp : PySem.W.keepIn K (.ref f) = true) (hb : KBinds K fd ps ks g gV) (ho : KOrd gV gD) (hk : DK X dx kws tk fk)
    (hall : (backToKw pos (keywordEach kws X.env)).all (·.1.isSome) = true := by rfl)
    (hks : (backToKw pos (keywordEach kws X.env)).filterMap (·.1) = ks := by rfl)
    (hdb : (x == ("__debug__" : Str)) = false := by decide)
    (hpl : ((backTo pos (starEach [] X.env)).any (·.1) || (backToKw pos (keywordEach kws X.env)).any (·.1.isNone)) = false := by rfl) (hK : X.K = K := by rfl) :
    DE X dx (.Call (.Name x p) [] kws pos) (tCallK (spP K spec) gV (fun _ _ _ => False) tNil tk) (dCallK spec gD dNil fk) := by subst hK; exact de_callK0 F room guard hg hm kp hb ho (.inl ⟨rfl, rfl⟩) hk hall hks hdb hpl
end
end DL
/-! Numbers as data; the helpers that draw. -/
namespace DL
open PySem PySem.Spec L2 Gd

/-! ### numbers as data -/
def nD (cs : List Nat) : List D := cs.map fun c : Nat => D.int (c : Int)
def asSeq : D → Option (List D)
  | .tup ds => some ds
  | .lst ds => some ds
  | _ => none
theorem items_of {Q : List D → Sto → Prop} {q : D} {xs : List D} {S : Sto} (h : asSeq q = some xs) : items Q q S = Q xs S := by
  cases q with
  | tup ds => cases h; rfl
  | lst ds => cases h; rfl
  | _ => cases h
theorem fLen_of {Q : D → Sto → Prop} {q : D} {xs : List D} {S : Sto} (h : asSeq q = some xs) : fLen q S Q = Q (.int xs.length) S := by
  cases q with
  | tup ds => cases h; rfl
  | lst ds => cases h; rfl
  | _ => cases h
theorem nD_len (cs : List Nat) : (nD cs).length = cs.length := List.length_map _
theorem nD_get {cs : List Nat} {i : Nat} {c : Nat} (h : cs[i]? = some c) : (nD cs)[i]? = some (.int (c : Int)) := by
  unfold nD
  rw [List.getElem?_map, h]
  rfl
def prodN : List Nat → Nat
  | [] => 1
  | c :: cs => c * prodN cs
theorem prodN_append (a b : List Nat) : prodN (a ++ b) = prodN a * prodN b := by
  induction a with
  | nil => simp [prodN]
  | cons c a ih => simp only [List.cons_append, prodN, ih, Nat.mul_assoc]
theorem prodN_reverse (a : List Nat) : prodN a.reverse = prodN a := by
  induction a with
  | nil => rfl
  | cons c a ih => simp only [List.reverse_cons, prodN_append, prodN, ih, Nat.mul_one, Nat.mul_comm]
/-- none is 0 or great -/
def Pos1 (cs : List Nat) : Prop := ∀ c ∈ cs, 1 ≤ c ∧ c < 2 ^ 60
theorem prodN_pos {cs : List Nat} (h : Pos1 cs) : 1 ≤ prodN cs := by
  induction cs with
  | nil => exact Nat.le_refl _
  | cons c cs ih =>
    have h1 := (h c List.mem_cons_self).1
    have h2 := ih fun x m => h x (List.mem_cons_of_mem _ m)
    exact Nat.mul_le_mul h1 h2
theorem rngD_nD (n : Nat) : rngD 0 1 n = nD (List.range n) := by
  unfold rngD nD
  apply List.map_congr_left
  intro i _
  simp
theorem Rg.nat {n : Nat} (h : n < 2 ^ 62) : Rg (n : Int) := by
  unfold Rg
  omega
theorem getC_self {p : Addr} {xs : Cel} {S : Sto} : getC ((p, xs) :: S) p = some xs := by
  unfold getC
  rw [List.find?_cons_of_pos (by simp)]
  rfl
theorem getC_other {p q : Addr} {xs : Cel} {S : Sto} (h : p ≠ q) : getC ((p, xs) :: S) q = getC S q := by
  unfold getC
  rw [List.find?_cons_of_neg (by simpa using h)]
theorem getS_self {p : Addr} {xs : List D} {S : Sto} : getS ((p, .l xs) :: S) p = some xs := by
  unfold getS
  rw [getC_self]
  rfl
theorem getS_other {p q : Addr} {xs : Cel} {S : Sto} (h : p ≠ q) : getS ((p, xs) :: S) q = getS S q := by
  unfold getS
  rw [getC_other h]
theorem getK_self {p : Addr} {xs : List (Key × D)} {S : Sto} : getK ((p, .d xs) :: S) p = some xs := by
  unfold getK
  rw [getC_self]
  rfl
theorem getK_other {p q : Addr} {xs : Cel} {S : Sto} (h : p ≠ q) : getK ((p, xs) :: S) q = getK S q := by
  unfold getK
  rw [getC_other h]
theorem setS_one {p : Addr} {xs ys : Cel} : setS [(p, xs)] p ys = [(p, ys)] := by
  unfold setS
  simp
theorem delS_one {p : Addr} {xs : Cel} : delS [(p, xs)] p = [] := by
  unfold delS
  simp
theorem opt_of {α : Type} {o : Option α} {x : α} {Q : α → Prop} (e : o = some x) (h : Q x) : opt o Q := by
  rw [e]
  exact h
theorem log60 {c : Nat} (h : c < 2 ^ 60) : ((c : Nat) : Int).natAbs.log2 < 9000 := by
  rw [Int.natAbs_natCast]
  by_cases z : c = 0
  · rw [z]; decide
  · have := (Nat.log2_lt z).mpr h
    omega
theorem fIx_of {Q : D → Sto → Prop} {q : D} {xs : List D} {S : Sto} {i : Nat} (h : asSeq q = some xs) (hi : i < xs.length) (t : Q (xs.getD i .non) S) : fIx q (.int (i : Int)) S Q := by
  have e : atI xs (i : Int) = some (xs.getD i .non) := by
    refine atI_nat ?_
    rw [List.getD_eq_getElem?_getD, List.getElem?_eq_getElem hi]
    rfl
  cases q with
  | tup ds => cases h; exact opt_of e t
  | lst ds => cases h; exact opt_of e t
  | _ => cases h

/-! ### _law_pick -/
def spPick (a : Addr) : DSpec := fun ds post => ∃ xs, ds = [.adr a, .lst xs] ∧ xs ≠ [] ∧ xs.length ≤ 1000 ∧ ∀ x ∈ xs, post x
def rPick (a : Addr) : DTS := (dRet (dOp fIx (dVar 1) (dCall (spDraw a) (dCons (dVar 0) (dCons (dCB (one fLen) (dCons (dVar 1) dNil)) dNil)))))
theorem frz_nil (d : D) : frz [] d = d := by cases d <;> rfl
theorem lnPick : ∀ a ds post, spPick a ds post → ds.length = 2 := by
  rintro a ds post ⟨xs, rfl, _⟩
  rfl
theorem vcPick (a : Addr) : ∀ ds post, spPick a ds post → rPick a { nx := fun _ _ => post .non, rt := fun d _ => post d } (ds.map some ++ List.replicate (2 - ds.length) none) [] := by
  rintro ds post ⟨xs, rfl, hn, hl, h⟩
  have h1 : 1 ≤ xs.length := List.length_pos_iff.mpr hn
  refine ⟨(xs.length : Int), rfl, by omega, by omega, fun r r0 r1 => ?_⟩
  obtain ⟨n, rfl⟩ := Int.eq_ofNat_of_zero_le r0
  have hi : n < xs.length := by omega
  refine fIx_of rfl hi ?_
  have m : xs.getD n .non ∈ xs := by
    rw [List.getD_eq_getElem?_getD, List.getElem?_eq_getElem hi]
    exact List.getElem_mem hi
  have e := h _ m
  show post (frz [] (xs.getD n .non))
  rw [frz_nil]
  exact e

/-! ### _law_draw -/
def rDraw (k1 k2 : Int) : DTS := (dSeqS (dWhile (dAnd (dTest (dOp fNe (dOp fIx (dVar 0) (dC (.int 0))) (dLst dNil))) (dTest (dOp fEq (dOp fIx (dOp fIx (dVar 0) (dC (.int 0))) (dUn fNeg (dC (.int 1)))) (dC (.int 0))))) (dDrop (dML0 fPop (dOp fIx (dVar 0) (dC (.int 0)))))) (dSeqS (dIfS (dTest (dOp fNe (dOp fIx (dVar 0) (dC (.int 0))) (dLst dNil))) (dSeqS (dSet 2 (dML0 fPop (dOp fIx (dVar 0) (dC (.int 0))))) (dSeqS (dDrop (dML fAppend (dOp fIx (dVar 0) (dC (.int 0))) (dCons (dOp fDiv (dVar 2) (dVar 1)) dNil))) (dRet (dOp fMod (dCB (one fInt) (dCons (dVar 2) dNil)) (dVar 1))))) dNext) (dSeqS (dSetI (dOp fMod (dCB (one fInt) (dCons (dOp fAdd (dOp fMul (dOp fIx (dVar 0) (dC (.int 1))) (dC (.int k1))) (dC (.int k2))) dNil)) (dC (.int 2147483647))) (dVar 0) (dC (.int 1))) (dRet (dOp fMod (dCB (one fInt) (dCons (dOp fDiv (dOp fIx (dVar 0) (dC (.int 1))) (dC (.int 32))) dNil)) (dVar 1))))))
def St (a c : Addr) (z : Int) (cs : List Int) : Sto := [(a, .l [.adr c, .int z]), (c, .l (cs.map D.int))]
section
variable {a c : Addr} {z : Int} {cs : List Int}
theorem St_a : getS (St a c z cs) a = some [.adr c, .int z] := getS_self
theorem St_c (h : a ≠ c) : getS (St a c z cs) c = some (cs.map D.int) := (getS_other h).trans getS_self
theorem St_setC (h : a ≠ c) (ds : List Int) : setS (St a c z cs) c (.l (ds.map D.int)) = St a c z ds := by
  unfold setS St
  simp [h]
theorem St_setA (h : a ≠ c) (y : Int) : setS (St a c z cs) a (.l [.adr c, .int y]) = St a c y cs := by
  unfold setS St
  simp [h, Ne.symm h]
theorem fIx_list {Q : D → Sto → Prop} (h : Q (.adr c) (St a c z cs)) : fIx (.adr a) (.int 0) (St a c z cs) Q := opt_of St_a (opt_of (x := D.adr c) rfl h)
theorem fIx_num {Q : D → Sto → Prop} (h : Q (.int z) (St a c z cs)) : fIx (.adr a) (.int 1) (St a c z cs) Q := opt_of St_a (opt_of (x := D.int z) rfl h)
theorem ne_nil {Q : D → Sto → Prop} (h : a ≠ c) (q : Q (.bl (!cs.isEmpty)) (St a c z cs)) : fNe (.adr c) (.lst []) (St a c z cs) Q := by
  have e : frz (St a c z cs) (.adr c) = .lst (cs.map D.int) := by
    show frzO c (getS (St a c z cs) c) = _
    rw [St_c h]
    rfl
  have hd : dn 40 (.lst (cs.map D.int)) = true := by
    show (cs.map D.int).all (dn 39) = true
    rw [List.all_eq_true]
    intro x m
    obtain ⟨i, _, rfl⟩ := List.mem_map.mp m
    rfl
  refine ⟨by rw [e]; exact hd, rfl, ?_⟩
  rw [e]
  have e2 : deq (.lst (cs.map D.int)) (frz (St a c z cs) (.lst [])) = cs.isEmpty := by
    show deq (.lst (cs.map D.int)) (.lst []) = cs.isEmpty
    cases cs with
    | nil => simp [deq, py, pyAll, PyData.eqv, PyData.eqvAll]
    | cons i cs => simp [deq, py, pyAll, PyData.eqv, PyData.eqvAll]
  rw [e2]
  exact q
theorem getLast_map {cs : List Int} {x : Int} : ((cs ++ [x]).map D.int)[((cs ++ [x]).map D.int).length - 1]? = some (.int x) := by
  rw [List.map_append, List.length_append]
  simp
theorem pop_map {cs : List Int} {x : Int} : ((cs ++ [x]).map D.int).dropLast = cs.map D.int := by
  rw [List.map_append]
  simp
theorem ROk.pop {x : Int} (h : ROk (cs ++ [x]) z) : ROk cs z ∧ 0 ≤ x ∧ cs.length ≤ 62 := by
  refine ⟨⟨fun y m => h.1 y (List.mem_append_left _ m), ?_, h.2.2⟩, h.1 x (by simp), ?_⟩
  · have := h.2.1
    rw [List.length_append, List.length_singleton] at this
    omega
  · have := h.2.1
    rw [List.length_append, List.length_singleton] at this
    omega
theorem vcDraw (k1 k2 : Int) (hk1 : -(2 ^ 64) < k1 ∧ k1 < 2 ^ 64) : ∀ (a c : Addr) (cs : List Int) (z m : Int), a ≠ c → ROk cs z → 1 ≤ m → m < 2 ^ 62 → rDraw k1 k2 { nx := fun _ _ => False, rt := drawEnd a c m } [some (.adr a), some (.int m), none] [(a, .l [.adr c, .int z]), (c, .l (cs.map D.int))] := by
  intro a c cs z m ne ok m1 m2
  show rDraw k1 k2 _ _ (St a c z cs)
  have mlog : m.natAbs.log2 < 9000 := by
    have h : m.natAbs < 2 ^ 62 := by omega
    have := (Nat.log2_lt (by omega)).mpr h
    omega
  -- the while
  refine ⟨fun n δ S => δ = [some (.adr a), some (.int m), none] ∧ ∃ cs, S = St a c z cs ∧ ROk cs z ∧ cs.length = n, ⟨cs.length, rfl, cs, rfl, ok, rfl⟩, ?_⟩
  rintro n δ S ⟨rfl, cs, rfl, ok, rfl⟩
  have behind : ∀ cs, ROk cs z → (dSeqS (dIfS (dTest (dOp fNe (dOp fIx (dVar 0) (dC (.int 0))) (dLst dNil))) (dSeqS (dSet 2 (dML0 fPop (dOp fIx (dVar 0) (dC (.int 0))))) (dSeqS (dDrop (dML fAppend (dOp fIx (dVar 0) (dC (.int 0))) (dCons (dOp fDiv (dVar 2) (dVar 1)) dNil))) (dRet (dOp fMod (dCB (one fInt) (dCons (dVar 2) dNil)) (dVar 1))))) dNext) (dSeqS (dSetI (dOp fMod (dCB (one fInt) (dCons (dOp fAdd (dOp fMul (dOp fIx (dVar 0) (dC (.int 1))) (dC (.int k1))) (dC (.int k2))) dNil)) (dC (.int 2147483647))) (dVar 0) (dC (.int 1))) (dRet (dOp fMod (dCB (one fInt) (dCons (dOp fDiv (dOp fIx (dVar 0) (dC (.int 1))) (dC (.int 32))) dNil)) (dVar 1)))))
      { nx := fun _ _ => False, rt := drawEnd a c m } [some (.adr a), some (.int m), none] (St a c z cs) := by
    intro cs ok
    refine opt_of St_a (opt_of (x := D.adr c) rfl ?_)
    refine ⟨by show 0 ≤ 16777216; decide, ne_nil ne ?_⟩
    rcases List.eq_nil_or_concat cs with rfl | ⟨cs, x, rfl⟩
    · -- no great numbers left
      refine opt_of St_a (opt_of (x := D.int _) rfl ?_)
      refine ⟨MOk.right hk1, ?_⟩
      refine ⟨by show (0 : Int) < 2147483647; decide, opt_of St_a (opt_of (x := 1) rfl ?_)⟩
      show dRet (dOp fMod (dCB (one fInt) (dCons (dOp fDiv (dOp fIx (dVar 0) (dC (.int 1))) (dC (.int 32))) dNil)) (dVar 1)) { nx := fun _ _ => False, rt := drawEnd a c m } [some (.adr a), some (.int m), none] (setS (St a c z []) a (.l [D.adr c, D.int ((z * k1 + k2) % 2147483647)]))
      rw [St_setA ne]
      refine opt_of St_a (opt_of (x := D.int _) rfl ?_)
      refine ⟨⟨by decide, by decide⟩, ⟨by omega, ?_⟩⟩
      have b0 : 0 ≤ (z * k1 + k2) % 2147483647 := Int.emod_nonneg _ (by decide)
      have b1 : (z * k1 + k2) % 2147483647 < 2147483647 := Int.emod_lt_of_pos _ (by decide)
      exact ⟨_, [], _, rfl, Int.emod_nonneg _ (by omega), Int.emod_lt_of_pos _ (by omega), St_a, St_c ne, fun x m => (nomatch m), by decide, b0, by omega⟩
    · rw [List.concat_eq_append] at ok ⊢
      obtain ⟨ok2, x0, l62⟩ := ok.pop
      have e : (!(cs ++ [x]).isEmpty) = true := by cases cs <;> rfl
      rw [e]
      refine opt_of St_a (opt_of (x := D.adr c) rfl ?_)
      refine ⟨?_, opt_of (St_c ne) (opt_of getLast_map ?_)⟩
      · show (getS _ c).isSome = true
        rw [St_c ne]
        rfl
      · rw [pop_map, St_setC ne]
        refine opt_of St_a (opt_of (x := D.adr c) rfl ?_)
        refine ⟨?_, ⟨by omega, mlog⟩, ?_⟩
        · show (getS _ c).isSome = true
          rw [St_c ne]
          rfl
        · refine opt_of (St_c ne) ⟨by unfold Fit; rw [List.length_map]; omega, ?_⟩
          have e3 : cs.map D.int ++ [D.int (x / m)] = (cs ++ [x / m]).map D.int := by rw [List.map_append]; rfl
          rw [e3, St_setC ne]
          refine ⟨by omega, ?_⟩
          refine ⟨_, cs ++ [x / m], z, rfl, Int.emod_nonneg _ (by omega), Int.emod_lt_of_pos _ (by omega), St_a, St_c ne, ?_, ?_, ok2.2.2⟩
          · intro y my
            rcases List.mem_append.mp my with my | my
            · exact ok2.1 y my
            · rw [List.mem_singleton.mp my]
              exact Int.ediv_nonneg x0 (by omega)
          · rw [List.length_append, List.length_singleton]
            omega
  refine opt_of St_a (opt_of (x := D.adr c) rfl ?_)
  refine ⟨by show 0 ≤ 16777216; decide, ne_nil ne ?_⟩
  rcases List.eq_nil_or_concat cs with rfl | ⟨cs, x, rfl⟩
  · exact behind [] ok
  · rw [List.concat_eq_append] at ok ⊢
    obtain ⟨ok2, x0, l62⟩ := ok.pop
    have e : (!(cs ++ [x]).isEmpty) = true := by cases cs <;> rfl
    rw [e]
    refine opt_of St_a (opt_of (x := D.adr c) rfl ?_)
    refine (opt_of (St_c ne) (opt_of (x := D.int x) ?_ ?_))
    · rw [List.map_append]
      exact atI_last _ _
    show (if decide (x = 0) = true then _ else _)
    by_cases hx : x = 0
    · rw [if_pos (decide_eq_true hx)]
      refine opt_of St_a (opt_of (x := D.adr c) rfl ?_)
      refine ⟨?_, opt_of (St_c ne) (opt_of getLast_map ?_)⟩
      · show (getS _ c).isSome = true
        rw [St_c ne]
        rfl
      · rw [pop_map, St_setC ne]
        exact ⟨cs.length, by rw [List.length_append, List.length_singleton]; omega, rfl, cs, rfl, ok2, rfl⟩
    · rw [if_neg (by simpa using hx)]
      exact behind _ ok
end

/-! ### _law_heap -/
def cellF (x : Int) : Int := 2 * x.natAbs + (if decide (x < 0) = true then 1 else 0)
def rHeapA (k0 : Int) : DTS := (dSeqS (dPar [2, 3] (dCons (dLc (dSeq (dSl (dVar 0) dNoPart (dPart (dC (.int 60))))) (dgName 1) dYes (dOp fAdd (dOp fMul (dC (.int 2)) (dCB (one fAbs) (dCons (dVar 1) dNil))) (dCB (one fInt) (dCons (dOp fLt (dVar 1) (dC (.int 0))) dNil))) [1]) (dCons (dC (.int k0)) dNil))) (dSeqS (dFor (dSeq (dVar 2)) (dgName 1) (dSet 3 (dOp fMod (dCB (one fInt) (dCons (dOp fAdd (dOp fAdd (dOp fMul (dVar 3) (dC (.int 69621))) (dOp fMod (dCB (one fInt) (dCons (dVar 1) dNil)) (dC (.int 2147483563)))) (dC (.int 29))) dNil)) (dC (.int 2147483647))))) (dRet (dLst (dCons (dUn fRev (dLc (dSeq (dVar 2)) (dgName 1) (dTest (dOp fGe (dVar 1) (dOp fPow (dC (.int 10)) (dC (.int 18))))) (dVar 1) [1])) (dCons (dVar 3) dNil))))))
theorem go_cells {q : Option D} {x1 x2 x3 : Option D} {Q : D → Sto → Prop} : ∀ (ns : List Int) (acc : List D), acc.length + ns.length ≤ 1000 → Q (.lst (acc ++ (ns.map cellF).map D.int)) [] →
    lcGo (dgName 1) dYes (dOp fAdd (dOp fMul (dC (.int 2)) (dCB (one fAbs) (dCons (dVar 1) dNil))) (dCB (one fInt) (dCons (dOp fLt (dVar 1) (dC (.int 0))) dNil))) [1] [q, x1, x2, x3] Q (ns.map D.int) acc []
  | [], acc, _, h => by simpa [lcGo] using h
  | n :: ns, acc, hl, h => by
    rw [List.length_cons] at hl
    refine ⟨MOk.left (by decide), by unfold Fit; omega, ?_⟩
    refine go_cells ns _ (by rw [List.length_append, List.length_singleton]; omega) ?_
    rw [List.append_assoc]
    exact h
theorem cellF_nn (x : Int) : 0 ≤ cellF x := by
  unfold cellF
  split <;> omega
theorem lp_stir {DD : DEnds} {q x2 : Option D} : ∀ (ns : List Int) (z : Int) (x1 : Option D), 0 ≤ z ∧ z < 2 ^ 40 → (∀ (z : Int) x1, 0 ≤ z ∧ z < 2 ^ 40 → DD.nx [q, x1, x2, some (.int z)] []) →
    forGo (dgName 1) (dSet 3 (dOp fMod (dCB (one fInt) (dCons (dOp fAdd (dOp fAdd (dOp fMul (dVar 3) (dC (.int 69621))) (dOp fMod (dCB (one fInt) (dCons (dVar 1) dNil)) (dC (.int 2147483563)))) (dC (.int 29))) dNil)) (dC (.int 2147483647)))) DD (ns.map D.int) [q, x1, x2, some (.int z)] []
  | [], z, x1, hz, h => h z x1 hz
  | n :: ns, z, x1, hz, h => by
    refine ⟨MOk.right (by decide), (by show (0 : Int) < 2147483563; decide), (by show (0 : Int) < 2147483647; decide), ?_⟩
    refine lp_stir ns _ _ ⟨Int.emod_nonneg _ (by decide), ?_⟩ h
    exact Int.lt_trans (Int.emod_lt_of_pos _ (by decide)) (by decide)
theorem go_great {q : Option D} {x1 x2 x3 : Option D} {Q : D → Sto → Prop} : ∀ (ns : List Int) (acc : List Int), acc.length + ns.length ≤ 63 → (∀ x ∈ ns, 0 ≤ x) → (∀ x ∈ acc, 0 ≤ x) → (∀ cs : List Int, cs.length ≤ 63 → (∀ x ∈ cs, 0 ≤ x) → Q (.lst (cs.map D.int)) []) →
    lcGo (dgName 1) (dTest (dOp fGe (dVar 1) (dOp fPow (dC (.int 10)) (dC (.int 18))))) (dVar 1) [1] [q, x1, x2, x3] Q (ns.map D.int) (acc.map D.int) []
  | [], acc, hl, _, ha, h => h acc (by simpa using hl) ha
  | n :: ns, acc, hl, hn, ha, h => by
    rw [List.length_cons] at hl
    refine ⟨⟨by decide, by decide, by decide⟩, ?_⟩
    have hn' : ∀ x ∈ ns, 0 ≤ x := fun y m => hn y (List.mem_cons_of_mem _ m)
    show (if decide (10 ^ (18 : Int).toNat ≤ n) = true then _ else _)
    split
    · refine ⟨by unfold Fit; rw [List.length_map]; omega, ?_⟩
      have e : acc.map D.int ++ [D.int n] = (acc ++ [n]).map D.int := by rw [List.map_append]; rfl
      rw [e]
      refine go_great ns (acc ++ [n]) (by rw [List.length_append, List.length_singleton]; omega) hn' ?_ h
      intro x m
      rcases List.mem_append.mp m with m | m
      · exact ha x m
      · rw [List.mem_singleton.mp m]
        exact hn n List.mem_cons_self
    · exact go_great ns acc (by omega) hn' ha h
theorem lnHeap : ∀ ds post, spHeap ds post → ds.length = 1 := by
  rintro ds post ⟨ns, rfl, _⟩
  rfl
theorem cutD_len {α : Type} (xs : List α) (lo hi : Option Int) : (cutD xs lo hi).length ≤ xs.length := by
  unfold cutD
  rw [List.length_take, List.length_drop]
  omega
theorem vcHeapA (k0 : Int) (hk : 0 ≤ k0 ∧ k0 < 2 ^ 40) : ∀ ds post, spHeap ds post → rHeapA k0 { nx := fun _ _ => post .non, rt := fun d _ => post d } (ds.map some ++ List.replicate (4 - ds.length) none) [] := by
  rintro ds post ⟨ns, rfl, hl, h⟩
  have hc := cutD_len ns none (some 60)
  refine go_cells (cutD ns none (some 60)) [] (by rw [List.length_nil]; omega) ⟨rfl, ?_⟩
  rw [List.nil_append]
  refine lp_stir _ _ _ hk fun z x1 hz => ?_
  refine go_great _ [] (by simp only [List.length_nil, List.length_map]; omega) ?_ (fun x m => (nomatch m)) fun cs l nn => ?_
  · intro x m
    obtain ⟨y, _, rfl⟩ := List.mem_map.mp m
    exact cellF_nn y
  · refine ⟨by show 2 ≤ 16777216; decide, ?_⟩
    have := h cs.reverse z ⟨fun x m => nn x (List.mem_reverse.mp m), by rw [List.length_reverse]; exact l, hz.1, hz.2⟩
    rw [List.map_reverse] at this
    exact this
end DL
/-! Readings over data: texts. -/
namespace DL
open PySem PySem.Spec L2 Gd

/-- a text by its signs -/
def sT (l : List Nat) : Str := ⟨l.toArray⟩
theorem sT_list (l : List Nat) : (sT l).cps.toList = l := rfl
theorem sT_len (l : List Nat) : (sT l).length = l.length := rfl
theorem sT_of (z : Str) : sT z.cps.toList = z := rfl
section
variable {X : Cx} {dx : Dx} {K : PySem.W.Frag} {e o tg : Expr} {te to : TE} {fe fo : DTE} {pos : Pos}
/-! ### z[lo:hi] -/
def fSlS : D → Option Int → Option Int → Sto → (D → Sto → Prop) → Prop
  | .str z, lo, hi, S, Q => Fit z.length ∧ Q (.str (cutS z lo hi)) S
  | _, _, _, _, _ => False
def dSlS (t : DTE) (l h : DTO) : DTE := fun δ S Q => t δ S fun d S1 => l δ S1 fun lo S2 => h δ S2 fun hi S3 => fSlS d lo hi S3 Q
theorem de_sliceS {lo hi : Option Expr} {tl th : TO} {fl fh : DTO} {p2 : Pos} (he : DE X dx e te fe) (hl : DO X dx lo tl fl) (hu : DO X dx hi th fh) : DE X dx (.Subscript e (.Slice lo hi none p2) pos) (tSl rSlS te tl th) (dSlS fe fl fh) := by
  refine ⟨pe_slice sl_str he.pe hl.pe hu.pe, fun σ H δ S Q Qh r0 s0 t k => ?_⟩
  refine he.go σ H δ S _ _ r0 s0 t fun v H1 d S1 r1 x1 d1 t1 => ?_
  refine hl.go σ H1 δ S1 _ _ r1 (s0.ext x1) t1 fun o H2 S2 r2 x2 t2 => ?_
  refine hu.go σ H2 δ S2 _ _ r2 (s0.ext (x1.trans x2)) t2 fun o' H3 S3 r3 x3 t3 => ?_
  cases d1 with
  | str z => exact ⟨z, rfl, t3.1.line, k _ _ _ _ r3 ((x1.trans x2).trans x3) (.str _) t3.2⟩
  | _ => exact t3.elim
/-! ### for sign in z -/
def signs (z : Str) : List D := z.cps.toList.map fun c => D.str ⟨#[c]⟩
def isS (Q : Str → Sto → Prop) : D → Sto → Prop
  | .str z, S => Q z S
  | _, _ => False
def dStrI (t : DTE) : DTA := fun δ S Q => t δ S (isS fun z S1 => Q (signs z) S1)
theorem di_str (h : DE X dx e te fe) : DI X dx tg e (iStr te) (dStrI fe) := by
  refine ⟨pi_str h.pe, fun σ H δ S Q R r0 s0 t k => ?_⟩
  refine h.go σ H δ S _ _ r0 s0 t fun v H1 d S1 r1 x1 d1 t1 => ?_
  cases d1 with
  | str z =>
    refine ⟨z, rfl, k _ H1 _ S1 r1 x1 ?_ t1⟩
    have l : (signs z).length = z.cps.size := by unfold signs; rw [List.length_map, Array.length_toList]
    refine ⟨_, _, by rw [l]; exact walk_str, fun M H2 lv x2 => ⟨trivial, fun i x H3 hi y => ?_⟩⟩
    obtain ⟨rfl, c, e1, rfl⟩ := y
    refine ⟨Same.refl _, .str ⟨#[c]⟩, ?_, .str _⟩
    unfold signs
    rw [List.getElem?_map, Array.getElem?_toList, e1]
    rfl
  | _ => exact t1.elim
/-! ### z * k -/
def repS (k : Nat) (z : Str) : Str := ⟨(List.replicate k z.cps).foldl (· ++ ·) #[]⟩
def rMulS : R2 := fun x y H Q => ∃ z k, x = .str z ∧ y = .int k ∧ 1 ≤ k ∧ k ≤ 1000 ∧ 1 ≤ z.length ∧ z.length ≤ 1000 ∧ Q (.str (repS k.toNat z)) H
theorem foldl_size (z : Array Nat) : ∀ (k : Nat) (acc : Array Nat), ((List.replicate k z).foldl (· ++ ·) acc).size = acc.size + k * z.size
  | 0, acc => by simp
  | k + 1, acc => by
    rw [List.replicate_succ, List.foldl_cons, foldl_size z k, Array.size_append, Nat.succ_mul]
    omega
theorem repS_len (k : Nat) (z : Str) : (repS k z).length = k * z.length := by
  show ((List.replicate k z.cps).foldl (· ++ ·) #[]).size = _
  rw [foldl_size]
  show 0 + k * z.cps.size = k * z.cps.size
  omega
theorem foldl_list (z : Array Nat) : ∀ (k : Nat) (acc : Array Nat), ((List.replicate k z).foldl (· ++ ·) acc).toList = acc.toList ++ (List.replicate k z.toList).flatten
  | 0, acc => by simp
  | k + 1, acc => by
    rw [List.replicate_succ, List.foldl_cons, foldl_list z k, Array.toList_append, List.replicate_succ, List.flatten_cons, List.append_assoc]
theorem repS_list (k : Nat) (z : Str) : (repS k z).cps.toList = (List.replicate k z.cps.toList).flatten := by
  show ((List.replicate k z.cps).foldl (· ++ ·) #[]).toList = _
  rw [foldl_list]
  simp
theorem repS_one (z : Str) : repS 1 z = z := by
  have : (repS 1 z).cps.toList = z.cps.toList := by rw [repS_list]; simp
  rw [← sT_of (repS 1 z), this, sT_of]
theorem op_mulS : OpR X (binaryOp .Mult) rMulS := by
  intro pins s σ H x y v u Q I rx ry h
  obtain ⟨z, k, rfl, rfl, h2, h1000, l1, l2, q⟩ := h
  obtain ⟨t, rfl⟩ := rx
  obtain ⟨t', rfl⟩ := ry
  have fit : z.length * k.toNat ≤ 1000 * 1000 := Nat.mul_le_mul l2 (by omega)
  refine PySem.P.mul_str ?_ (fun _ _ => ?_) (fun _ _ => ?_) ?_
  · rw [decide_eq_false (by omega), decide_eq_false (by omega)]
    rfl
  · have : (1000 : Int) ≤ (2 ^ 63 - 1) / k := Int.le_ediv_of_mul_le (by omega) (by omega)
    omega
  · show decide (z.length * k.toNat > sizeLine) = false
    rw [sizeLine_eq]
    exact decide_eq_false (by omega)
  · rw [if_neg (by omega)]
    by_cases k1 : k = 1
    · subst k1
      have e : repS (1 : Int).toNat z = z := repS_one z
      rw [e] at q
      rw [if_pos (by rfl)]
      exact ⟨.str z, H, I, ⟨_, rfl⟩, q⟩
    · have e : (k == 1 || z.length == 0) = false := by
        have a : (k == 1) = false := by simpa using k1
        have b : (z.length == 0) = false := by simpa using (show z.length ≠ 0 by omega)
        rw [a, b]
        rfl
      rw [e, if_neg Bool.false_ne_true]
      have l := repS_len k.toNat z
      refine ⟨?_, .str (repS k.toNat z), H, I.tok _, ⟨_, rfl⟩, q⟩
      show (repS k.toNat z).length ≤ sizeLine
      rw [l, sizeLine_eq, Nat.mul_comm]
      omega
def fMulS : F2
  | .str z, .int k, S, Q => 1 ≤ k ∧ k ≤ 1000 ∧ 1 ≤ z.length ∧ z.length ≤ 1000 ∧ Q (.str (repS k.toNat z)) S
  | _, _, _, _ => False
theorem od_mulS : OpD K dx rMulS fMulS := by
  intro x y p q H S Q Qh r hx hy t k
  cases hx with
  | str z =>
    cases hy with
    | int j => exact ⟨z, j, rfl, rfl, t.1, t.2.1, t.2.2.1, t.2.2.2.1, k _ H _ S r Ext.refl (.str _) t.2.2.2.2⟩
    | _ => exact t.elim
  | _ => cases hy <;> exact t.elim
/-! ### <= of texts -/
def fLeS : F2
  | .str i, .str j, S, Q => Q (.bl (!decide (j.cps.toList < i.cps.toList))) S
  | _, _, _, _ => False
def rLeS : R2 := fun x y H Q => ∃ i j, x = .str i ∧ y = .str j ∧ Q (.bl (!decide (j.cps.toList < i.cps.toList))) H
theorem op_leS : OpR X (compareOp .LtE) rLeS := op_le_str
theorem od_leS : OpD K dx rLeS fLeS := by
  intro x y p q H S Q Qh r hx hy t k
  cases hx with
  | str z =>
    cases hy with
    | str j => exact ⟨z, j, rfl, rfl, k _ H _ S r Ext.refl (.bl _) t⟩
    | _ => exact t.elim
  | _ => cases hy <;> exact t.elim
/-! ### split, join -/
def fSplit : D → D → Sto → (D → Sto → Prop) → Prop
  | .str a, .str b, S, Q => b.length ≠ 0 ∧ a.length ≤ 1000000 ∧ Q (.lst ((Txt.split a b).map D.str)) S
  | _, _, _, _ => False
def rSplit : V → List V → Hp → VK → Prop := fun x xs H Q => ∃ a b, x = .str a ∧ xs = [.str b] ∧ (b.length == 0) = false ∧ a.length + 2 ≤ sizeLine ∧ rNewStrs (Txt.split a b) H Q
def isSt : D → Prop
  | .str _ => True
  | _ => False
def dM1 (f : D → D → Sto → (D → Sto → Prop) → Prop) (fo fe : DTE) : DTE := fun δ S Q => fo δ S fun o S1 => isSt o ∧ fe δ S1 fun d S2 => f o d S2 Q
theorem st_v {M : Mm} {H : Hp} {v : V} {d : D} (h : Dt K M H v d) (i : isSt d) : ∃ a, v = .str a := by
  cases h with
  | str a => exact ⟨a, rfl⟩
  | _ => exact i.elim
theorem strs_all {M : Mm} {H : Hp} (ys : List Str) : DtAll K M H (ys.map V.str) (ys.map D.str) := by
  induction ys with
  | nil => exact .nil
  | cons y ys ih => exact .cons (.str y) ih
theorem de_split {apos : Pos} (ho : DE X dx o to fo) (he : DE X dx e te fe) (hp : PE X o to → PE X e te → PE X (.Call (.Attribute o "split" apos) [e] [] pos) (tM1 rSplit to te)) : DE X dx (.Call (.Attribute o "split" apos) [e] [] pos) (tM1 rSplit to te) (dM1 fSplit fo fe) := by
  refine ⟨hp ho.pe he.pe, fun σ H δ S Q Qh r s t k => ?_⟩
  refine ho.go σ H δ S _ _ r s t fun v H1 d S1 r1 x1 d1 t1 => ⟨st_v d1 t1.1, ?_⟩
  refine he.go σ H1 δ S1 _ _ r1 (s.ext x1) t1.2 fun u H2 c S2 r2 x2 d2 t2 => ?_
  have d1' := d1.ext x2
  cases d1' with
  | str a =>
    cases d2 with
    | str b =>
      refine ⟨a, b, rfl, rfl, by simpa using t2.1, ?_, fun p n => ?_⟩
      · have := t2.2.1
        rw [sizeLine_eq]
        omega
      · obtain ⟨r3, x3, d3⟩ := new_lst r2 n (strs_all (K := X.K) (Txt.split a b))
        exact k _ _ _ S2 r3 ((x1.trans x2).trans x3) d3 t2.2.2
    | _ => exact t2.elim
  | _ => exact t1.1.elim
def asS : List D → Option (List Str)
  | [] => some []
  | .str b :: r => (asS r).map (b :: ·)
  | _ :: _ => none
theorem asS_at {ds : List D} : ∀ {bs : List Str}, asS ds = some bs → ds = bs.map D.str := by
  induction ds with
  | nil => intro bs h; cases h; rfl
  | cons d ds ih =>
    intro bs h
    cases d with
    | str b =>
      have h : (asS ds).map (b :: ·) = some bs := h
      cases e : asS ds with
      | none => rw [e] at h; cases h
      | some cs => rw [e] at h; cases h; rw [ih e]; rfl
    | _ => cases h
theorem asS_map (bs : List Str) : asS (bs.map D.str) = some bs := by
  induction bs with
  | nil => rfl
  | cons b bs ih => show (asS (bs.map D.str)).map (b :: ·) = _; rw [ih]; rfl
def fJoin : D → D → Sto → (D → Sto → Prop) → Prop
  | .str a, .lst ds, S, Q => opt (asS ds) fun ys => (ys.map (·.length)).sum + ys.length * a.length ≤ 16777216 ∧ Q (.str (Txt.join a ys)) S
  | _, _, _, _ => False
def rJoin (K : PySem.W.Frag) : V → List V → Hp → VK → Prop := fun x xs H Q => ∃ a p, ∃ ys : List Str, x = .str a ∧ xs = [.ref p] ∧ (SqL K H p (ys.map V.str) ∨ SqT K H p (ys.map V.str)) ∧ (ys.map (·.length)).sum + ys.length * a.length ≤ 16777216 ∧ Q (.str (Txt.join a ys)) H
theorem de_join (K : PySem.W.Frag) {apos : Pos} (ho : DE X dx o to fo) (he : DE X dx e te fe) (hp : PE X o to → PE X e te → PE X (.Call (.Attribute o "join" apos) [e] [] pos) (tM1 (rJoin K) to te)) (hK : X.K = K := by rfl) : DE X dx (.Call (.Attribute o "join" apos) [e] [] pos) (tM1 (rJoin K) to te) (dM1 fJoin fo fe) := by
  subst hK
  refine ⟨hp ho.pe he.pe, fun σ H δ S Q Qh r s t k => ?_⟩
  refine ho.go σ H δ S _ _ r s t fun v H1 d S1 r1 x1 d1 t1 => ⟨st_v d1 t1.1, ?_⟩
  refine he.go σ H1 δ S1 _ _ r1 (s.ext x1) t1.2 fun u H2 c S2 r2 x2 d2 t2 => ?_
  have d1' := d1.ext x2
  cases d1' with
  | str a =>
    cases c with
    | lst ds =>
      obtain ⟨ys, e, t3⟩ := opt_run t2
      obtain ⟨p, xs, rfl, _, hl, al⟩ := d2.sqL
      rw [asS_at e] at al
      rw [Dt.strs_of al] at hl
      exact ⟨a, p, ys, rfl, rfl, .inl (SqL.of hl), t3.1, k _ _ _ S2 r2 (x1.trans x2) (.str _) t3.2⟩
    | _ => exact t2.elim
  | _ => exact t1.1.elim
/-! ### enumerate of a list -/
def enD (xs : List D) : List D := (List.range xs.length).map fun i => D.tup [.int (i : Nat), xs.getD i .non]
def fEnum (Q : List D → Sto → Prop) : List D → Sto → Prop
  | [.lst xs], S => Q (enD xs) S
  | _, _ => False
theorem fEnum_one {Q : List D → Sto → Prop} {ds : List D} {S : Sto} (t : fEnum Q ds S) : ∃ xs, ds = [.lst xs] ∧ Q (enD xs) S := by
  unfold fEnum at t
  split at t
  · exact ⟨_, rfl, t⟩
  · exact t.elim
def dEnum (ta : DTA) : DTA := fun δ S Q => ta δ S (fEnum Q)
theorem di_enum (K : PySem.W.Frag) {x : Str} {p : Pos} {es : List Expr} {ta : TA} {fa : DTA} (ha : DA X dx es ta fa) (hp : PA X es ta → PI X tg (.Call (.Name x p) es [] pos) (iEnum K ta)) (hK : X.K = K := by rfl) : DI X dx tg (.Call (.Name x p) es [] pos) (iEnum K ta) (dEnum fa) := by
  subst hK
  refine ⟨hp ha.pe, fun σ H δ S Q R r s t k => ?_⟩
  refine ha.go σ H δ S _ _ r s t fun vs H1 ds S1 r1 x1 d1 t1 => ?_
  obtain ⟨xs, rfl, t2⟩ := fEnum_one t1
  cases d1 with
  | cons h1 d1 =>
    cases d1
    obtain ⟨a, ws, rfl, nm, hl, al⟩ := h1.sqL
    refine ⟨a, ws, rfl, SqL.of hl, k _ H1 _ S1 r1 x1 ?_ t2⟩
    have e : (enD xs).length = ws.length := by unfold enD; rw [List.length_map, List.length_range, al.length]
    refine ⟨_, _, by rw [e]; exact walk_enum (K := X.K) (a := a) (xs := ws), fun M H2 lv x2 => ⟨SqL.of (x2.keep _ _ nm hl), fun i v H3 hi y => ?_⟩⟩
    obtain ⟨T, x, y, rfl, n, rfl, ex, ey⟩ := y
    cases ex
    obtain ⟨d, e1, dd⟩ := (al.extD x2).getV ey
    refine ⟨same_new n, .tup [.int (i : Nat), d], ?_, .tup (fun z => lv T z n) (.inl upd_same) (.cons (.int _) (.cons (dd.ext (ext_new n)) .nil))⟩
    rw [e] at hi
    unfold enD
    rw [List.getElem?_map, List.getElem?_range (by rw [← al.length]; exact hi)]
    show some (D.tup [.int (i : Nat), xs.getD i .non]) = _
    rw [List.getD_eq_getElem?_getD, e1]
    rfl
end
end DL
/-! Small steps of readings over data. -/
namespace DL
open PySem PySem.Spec L2 Gd
theorem cutD_take {α : Type} (xs : List α) {p : Nat} (h : p ≤ xs.length) : cutD xs none (some (p : Int)) = xs.take p := by
  unfold cutD
  have e1 : HT.sIx xs.length 0 none = 0 := rfl
  have e2 : HT.sIx xs.length xs.length (some (p : Int)) = min p xs.length := by
    show (if (p : Int) < 0 then ((p : Int) + (xs.length : Int)).toNat else min (p : Int).toNat xs.length) = _
    rw [if_neg (by omega), Int.toNat_natCast]
  rw [e1, e2, List.drop_zero, Nat.sub_zero, Nat.min_eq_left h]
theorem fSlT {Q : D → Sto → Prop} {q : D} {ds : List D} {lo hi : Option Int} {S : Sto} (h : q = .tup ds) (t : Q (.tup (cutD ds lo hi)) S) : fSl q lo hi S Q := by
  subst h
  exact t
theorem no {b : Bool} {A B : Prop} (hb : b = false) (h : B) : if b = true then A else B := by
  rw [hb, if_neg Bool.false_ne_true]
  exact h
theorem yes {b : Bool} {A B : Prop} (hb : b = true) (h : A) : if b = true then A else B := by
  rw [hb, if_pos rfl]
  exact h
theorem same_no {α : Type} [DecidableEq α] {x y : α} (h : x = y) : (!decide (x = y)) = false := by
  rw [decide_eq_true h]
  rfl

theorem fAdd_str {Q : D → Sto → Prop} {x y : Str} {S : Sto} (h : Fit (x.length + y.length)) (t : Q (.str (x ++ y)) S) : fAdd (.str x) (.str y) S Q := ⟨h, t⟩
end DL
/-! Readings over data: what is not reached, gcd and lcm, constants of a module, in, is True. -/
namespace DL
open PySem PySem.Spec L2 Gd

section
variable {X : Cx} {dx : Dx} {K : PySem.W.Frag} {e : Expr} {es : List Expr} {ta : TA} {fa : DTA} {s : Stmt} {pos p : Pos} {x : Str}
/-! ### what no run of the domain reaches -/
def tNo : TE := fun _ _ _ => False
def dNo : DTE := fun _ _ _ => False
theorem de_no : DE X dx e tNo dNo := ⟨⟨fun _ _ _ _ _ _ h => h.elim⟩, fun _ _ _ _ _ _ _ _ t _ => t.elim⟩
def tNoS : TS := fun _ _ _ => False
def dNoS : DTS := fun _ _ _ => False
theorem ds_no : DS X dx s tNoS dNoS := ⟨⟨fun _ _ _ _ _ _ h => h.elim⟩, fun _ _ _ _ _ _ _ _ t _ => t.elim⟩
def iNo : TI := fun _ _ _ => False
def dNoA : DTA := fun _ _ _ => False
theorem di_no {tg : Expr} : DI X dx tg e iNo dNoA := ⟨⟨fun _ _ _ _ _ _ h => h.elim⟩, fun _ _ _ _ _ _ _ _ t _ => t.elim⟩
theorem dt_no : DT X dx e (fun _ _ _ => False) (fun _ _ _ => False) := ⟨⟨fun _ _ _ _ _ _ h => h.elim⟩, fun _ _ _ _ _ _ _ _ t _ => t.elim⟩
/-! ### built-ins that a module has taken over from another one -/
theorem de_callM_ {id : String} {r : List V → Hp → VK → Prop} {f} (hc : CallR X (.builtin id) r) (o : CallD X.K dx r f) (ha : DA X dx es ta fa) (hp : PA X es ta → PE X (.Call (.Name x p) es [] pos) (tCB r ta)) : DE X dx (.Call (.Name x p) es [] pos) (tCB r ta) (dCB f fa) := ⟨hp ha.pe, cb_go o ha⟩
/-- a call with two arguments -/
def two (f : D → D → Sto → (D → Sto → Prop) → Prop) : List D → Sto → (D → Sto → Prop) → Prop
  | [c, d], S, Q => f c d S Q
  | _, _, _ => False
theorem two_at {f : D → D → Sto → (D → Sto → Prop) → Prop} {ds : List D} {S : Sto} {Q : D → Sto → Prop} (t : two f ds S Q) : ∃ c d, ds = [c, d] ∧ f c d S Q := by
  unfold two at t
  split at t
  · exact ⟨_, _, rfl, t⟩
  · exact t.elim
theorem cd_two {r : List V → Hp → VK → Prop} {f : D → D → Sto → (D → Sto → Prop) → Prop}
    (o : ∀ u v c d H S Q Qh, HR K dx H S → Dt K (Mu dx S) H u c → Dt K (Mu dx S) H v d → f c d S Q → ThE K dx H S Q Qh → r [u, v] H Qh) : CallD K dx r (two f) := by
  intro vs ds H S Q Qh r0 a t k
  obtain ⟨c, d, rfl, t⟩ := two_at t
  cases a with
  | cons h1 a =>
    cases a with
    | cons h2 a =>
      cases a
      exact o _ _ _ _ H S Q Qh r0 h1 h2 t k
def fGcd : D → D → Sto → (D → Sto → Prop) → Prop
  | .int a, .int b, S, Q => Q (.int ((Nat.gcd a.natAbs b.natAbs : Nat) : Int)) S
  | _, _, _, _ => False
theorem cd_gcd : CallD K dx rGcd (two fGcd) := by
  refine cd_two fun u v c d H S Q Qh r h1 h2 t k => ?_
  cases h1 with
  | int a =>
    cases h2 with
    | int b => exact ⟨a, b, rfl, k _ H _ S r Ext.refl (.int _) t⟩
    | _ => exact t.elim
  | _ => cases h2 <;> exact t.elim
/-- no more than four thousand bits -/
def Wd (i : Int) : Prop := i.natAbs.log2 < 4000
def rLcm : List V → Hp → VK → Prop := fun vs H Q => ∃ a b : Int, vs = [.int a, .int b] ∧ Wd a ∧ Wd b ∧ Q (.int ((a.natAbs.lcm b.natAbs : Nat) : Int)) H
theorem log_max {m n k : Nat} (h1 : m.log2 < k) (h2 : n.log2 < k) : (max m n).log2 < k := by
  rcases Nat.le_total m n with h | h
  · rw [Nat.max_eq_right h]
    exact h2
  · rw [Nat.max_eq_left h]
    exact h1
theorem log_lcm {m n : Nat} (h1 : m.log2 < 4000) (h2 : n.log2 < 4000) : (m.lcm n).log2 < 8001 := by
  by_cases z : m.lcm n = 0
  · rw [z]
    decide
  · have lt : ∀ x : Nat, x.log2 < 4000 → x < 2 ^ 4000 := fun x h => by
      by_cases zx : x = 0
      · rw [zx]
        exact Nat.pow_pos (by decide)
      · exact (Nat.log2_lt zx).mp h
    have mn : m ≠ 0 ∧ n ≠ 0 := by
      constructor
      · intro e
        rw [e, Nat.lcm_zero_left] at z
        exact z rfl
      · intro e
        rw [e, Nat.lcm_zero_right] at z
        exact z rfl
    have le : m.lcm n ≤ m * n := Nat.le_of_dvd (Nat.mul_pos (Nat.pos_of_ne_zero mn.1) (Nat.pos_of_ne_zero mn.2)) (Nat.lcm_dvd_mul m n)
    have : m * n < 2 ^ 4000 * 2 ^ 4000 := Nat.mul_lt_mul'' (lt m h1) (lt n h2)
    rw [← Nat.pow_add] at this
    have q := (Nat.log2_lt z).mpr (Nat.lt_of_le_of_lt le this)
    exact Nat.lt_succ_of_lt q
theorem cr_lcm : CallR X (.builtin "math.lcm") rLcm := by
  intro pins s σ H vs us Q I r h
  obtain ⟨a, b, rfl, ha, hb, q⟩ := h
  obtain ⟨u1, u2, rfl, ⟨t1, rfl⟩, ⟨t2, rfl⟩⟩ := vals2 r
  have one : (Nat.lcm 1 a.natAbs).lcm b.natAbs = a.natAbs.lcm b.natAbs := by rw [Nat.lcm_one_left]
  have m1 : (max 1 a.natAbs).log2 < 4000 := log_max (by decide) ha
  have m2 : (max a.natAbs b.natAbs).log2 < 4000 := log_max ha hb
  have l := log_lcm ha hb
  refine call_function_meets PySem.W.MGF.kind_lcm PySem.W.MGF.plain_lcm PySem.W.MGF.entry_lcm (PySem.W.MGF.args_lcm _ _) (PySem.W.mg_run_lcm a t1 b t2 (by omega) (by omega) ?_).meets ?_
  · rw [one, Int.natAbs_natCast]
    exact Nat.lt_of_lt_of_le l (by decide)
  · rw [one]
    exact ⟨.int _, H, I.tok _, ⟨_, rfl⟩, q⟩
def fLcm : D → D → Sto → (D → Sto → Prop) → Prop
  | .int a, .int b, S, Q => Wd a ∧ Wd b ∧ Q (.int ((a.natAbs.lcm b.natAbs : Nat) : Int)) S
  | _, _, _, _ => False
theorem cd_lcm : CallD K dx rLcm (two fLcm) := by
  refine cd_two fun u v c d H S Q Qh r h1 h2 t k => ?_
  cases h1 with
  | int a =>
    cases h2 with
    | int b => exact ⟨a, b, rfl, t.1, t.2.1, k _ H _ S r Ext.refl (.int _) t.2.2⟩
    | _ => exact t.elim
  | _ => cases h2 <;> exact t.elim
/-! ### constants of a module -/
theorem de_const {v : V} {d : D} {u : Value} (hg : Gl X x) (hm : X.mg x = some u) (r : RelV v u) (q : ∀ M H, Dt X.K M H v d) (hd : (x == ("__debug__" : Str)) = false := by decide) : DE X dx (.Name x pos) (tC v) (dC d) := de_c (pe_glob hg hm r hd) q
/-! ### is True -/
def fIsB : F2
  | .bl a, .bl b, S, Q => Q (.bl (decide (a = b))) S
  | _, _, _, _ => False
theorem od_isB : OpD K dx rIsB fIsB := by
  intro x y p q H S Q Qh r hx hy t k
  cases hx with
  | bl a =>
    cases hy with
    | bl b => exact ⟨a, b, rfl, rfl, k _ H _ S r Ext.refl (.bl _) t⟩
    | _ => exact t.elim
  | _ => cases hy <;> exact t.elim
/-! ### in a list or a tuple of numbers and texts -/
def flatD : D → Bool
  | .non => true
  | .bl _ => true
  | .int _ => true
  | .str _ => true
  | _ => false
def eqF : D → D → Bool
  | .int a, .int b => a == b
  | .str a, .str b => a == b
  | .non, .non => true
  | .bl a, .bl b => a == b
  | .bl a, .int b => (if a then 1 else 0) == b
  | .int a, .bl b => a == (if b then 1 else 0)
  | _, _ => false
theorem flat_of {M : Mm} {H : Hp} {v : V} {d : D} (h : Dt K M H v d) (f : flatD d = true) : flatV v = true := by
  cases h <;> first | rfl | cases f
theorem eqF_of {M : Mm} {H : Hp} {u v : V} {c d : D} (h1 : Dt K M H u c) (h2 : Dt K M H v d) (f1 : flatD c = true) (f2 : flatD d = true) : eqV u v = eqF c d := by
  cases h1 <;> first | (cases h2 <;> first | rfl | cases f2) | cases f1
def fInG (neg : Bool) (xs : List D) (p : D) (S : Sto) (Q : D → Sto → Prop) : Prop := flatD p = true ∧ xs.all flatD = true ∧ Q (.bl (if neg then !xs.any fun y => eqF y p else xs.any fun y => eqF y p)) S
def fInN (neg : Bool) : F2
  | p, .tup xs, S, Q => fInG neg xs p S Q
  | p, .lst xs, S, Q => fInG neg xs p S Q
  | p, .adr a, S, Q => opt (getS S a) fun xs => fInG neg xs p S Q
  | _, _, _, _ => False
theorem flats_of {M : Mm} {H : Hp} : ∀ {vs : List V} {ds : List D}, DtAll K M H vs ds → ds.all flatD = true → vs.all flatV = true
  | _, _, .nil, _ => rfl
  | _, _, .cons h t, f => by
    rw [List.all_cons, Bool.and_eq_true] at f
    rw [List.all_cons, flat_of h f.1, flats_of t f.2]
    rfl
theorem inV_of {M : Mm} {H : Hp} {v : V} {p : D} (h : Dt K M H v p) (fp : flatD p = true) : ∀ {vs : List V} {ds : List D}, DtAll K M H vs ds → ds.all flatD = true → inV v vs = ds.any fun y => eqF y p
  | _, _, .nil, _ => rfl
  | _, _, .cons hd t, f => by
    rw [List.all_cons, Bool.and_eq_true] at f
    have ih := inV_of h fp t f.2
    unfold inV at ih ⊢
    rw [List.any_cons, List.any_cons, ih, eqF_of hd h f.1 fp]
theorem od_in (neg : Bool) : OpD K dx (rIn K neg) (fInN neg) := by
  intro x y p q H S Q Qh r hx hy t k
  have go : ∀ {a : Addr} {vs : List V} {xs : List D}, y = .ref a → (SqL K H a vs ∨ SqT K H a vs) → DtAll K (Mu dx S) H vs xs → fInG neg xs p S Q → rIn K neg x y H Qh := by
    intro a vs xs e hs al t
    refine ⟨a, vs, e, hs, flat_of hx t.1, flats_of al t.2.1, ?_⟩
    rw [inV_of hx t.1 al t.2.1]
    exact k _ H _ S r Ext.refl (.bl _) t.2.2
  cases q with
  | tup xs =>
    have t : fInG neg xs p S Q := by cases p <;> exact t
    obtain ⟨a, vs, e, hs, al⟩ := hy.sqT
    exact go e (.inr hs) al t
  | lst xs =>
    have t : fInG neg xs p S Q := by cases p <;> exact t
    obtain ⟨a, vs, e, _, hs, al⟩ := hy.sqL
    exact go e (.inl (SqL.of hs)) al t
  | adr a =>
    have t : opt (getS S a) fun xs => fInG neg xs p S Q := by cases p <;> exact t
    cases hy
    obtain ⟨xs, g, t⟩ := opt_run t
    obtain ⟨_, vs, eh, al⟩ := r.get g
    exact go rfl (.inl (SqL.of eh)) al t
  | _ => cases p <;> exact t.elim
theorem op_notIn_ (K : PySem.W.Frag) (hK : X.K = K := by rfl) : OpR X (compareOp .NotIn) (rIn K true) := by subst hK; exact op_notIn_seq
theorem op_in_ (K : PySem.W.Frag) (hK : X.K = K := by rfl) : OpR X (compareOp .In) (rIn K false) := by subst hK; exact op_in_seq
end
end DL
namespace DL
open PySem PySem.Spec L2 Gd
/-! ### the block of a comprehension within another one: looked at by computing -/
def blkB (N : List Str) (outer names : List (Str × NameKind)) (own : List (Str × Nat)) : Bool :=
  names.all (fun y => decide (names.lookup y.1 = some y.2)) && own.all (fun p => decide (N[p.2]? = some p.1)) &&
  names.all (fun y => !decide (y.2 = .free) || (decide (outer.lookup y.1 = some .cell) || decide (outer.lookup y.1 = some .free))) &&
  names.all (fun y => !(decide (y.2 = .local) || decide (y.2 = .cell)) || (decide (y.1 ∈ own.map (·.1)) || !decide (y.1 ∈ N)))
theorem blk_of {N : List Str} {sc scope : Scope} {own : List (Str × Nat)} (h1 : scope.kind = .function) (h : blkB N sc.names scope.names own = true) : BlkOk N sc scope own := by
  unfold blkB at h
  simp only [Bool.and_eq_true, List.all_eq_true, decide_eq_true_eq, Bool.or_eq_true, Bool.not_eq_true', decide_eq_false_iff_not, Bool.or_eq_false_iff] at h
  obtain ⟨⟨⟨a, b⟩, c⟩, d⟩ := h
  refine ⟨h1, fun y m => a y m, fun p m => b p m, fun y m e => ?_, fun y m e => ?_⟩
  · rcases c y m with z | z
    · exact absurd e z
    · exact z
  · rcases d y m with z | z
    · rcases e with e | e
      · exact absurd e z.1
      · exact absurd e z.2
    · exact z
end DL
namespace DL
open PySem PySem.Spec L2 Gd
/-- a constant of a module -/
structure ConstD (K : PySem.W.Frag) (mg : Str → Option Value) (x : Str) (d : D) where
  v : V
  u : Value
  m : mg x = some u
  r : RelV v u
  q : ∀ M H, Dt K M H v d
theorem ktup_of {K : PySem.W.Frag} {M : Mm} {H : Hp} {a : Addr} {od : Option Addr} {its : Array Value} {n : Nat} {sl : Array (Option Value)} {xs : List V} {ds : List D}
    (l : K.lookup a = some ⟨.type "tuple", od, .seq its n, sl⟩) (z : its.size ≤ sizeLine) (r : Vals xs its.toList) (al : DtAll K M H xs ds) : Dt K M H (.ref a) (.tup ds) := .ktup ⟨_, its, n, l, rfl, rfl, z, r⟩ al
end DL
/-! The other form of the helper that makes a source of draws. -/
namespace DL
open PySem PySem.Spec L2 Gd
def bHeapB : DTS := (dSet 1 (dOp fMod (dCB (one fInt) (dCons (dOp fAdd (dOp fAdd (dOp fAdd (dOp fMul (dVar 1) (dC (.int 48271))) (dOp fMul (dOp fMod (dCB (one fInt) (dCons (dCB (one fAbs) (dCons (dVar 2) dNil)) dNil)) (dC (.int 2147483563))) (dC (.int 2)))) (dCB (one fInt) (dCons (dOp fLt (dVar 2) (dC (.int 0))) dNil))) (dC (.int 17))) dNil)) (dC (.int 2147483647))))
def rHeapB (k0 : Int) : DTS := (dSeqS (dSet 1 (dC (.int k0))) (dSeqS (dFor (dSeq (dSl (dVar 0) dNoPart (dPart (dC (.int 60))))) (dgName 2) bHeapB) (dRet (dLst (dCons (dUn fRev (dLc (dSeq (dSl (dVar 0) dNoPart (dPart (dC (.int 60))))) (dgName 2) (dTest (dOp fGe (dCB (one fAbs) (dCons (dVar 2) dNil)) (dOp fPow (dC (.int 10)) (dC (.int 18))))) (dCB (one fAbs) (dCons (dVar 2) dNil)) [2])) (dCons (dVar 1) dNil))))))
theorem lp_stirB {DD : DEnds} {q : Option D} : ∀ (ns : List Int) (z : Int) (x2 : Option D), 0 ≤ z ∧ z < 2 ^ 40 → (∀ (z : Int) x2, 0 ≤ z ∧ z < 2 ^ 40 → DD.nx [q, some (.int z), x2] []) →
    forGo (dgName 2) bHeapB DD (ns.map D.int) [q, some (.int z), x2] []
  | [], z, x2, hz, h => h z x2 hz
  | n :: ns, z, x2, hz, h => by
    refine ⟨MOk.right (by decide), (by show (0 : Int) < 2147483563; decide), MOk.right (by decide), (by show (0 : Int) < 2147483647; decide), ?_⟩
    refine lp_stirB ns _ _ ⟨Int.emod_nonneg _ (by decide), ?_⟩ h
    exact Int.lt_trans (Int.emod_lt_of_pos _ (by decide)) (by decide)
theorem go_greatB {q x1 x2 : Option D} {Q : D → Sto → Prop} : ∀ (ns : List Int) (acc : List Int), acc.length + ns.length ≤ 63 → (∀ x ∈ acc, 0 ≤ x) → (∀ cs : List Int, cs.length ≤ 63 → (∀ x ∈ cs, 0 ≤ x) → Q (.lst (cs.map D.int)) []) →
    lcGo (dgName 2) (dTest (dOp fGe (dCB (one fAbs) (dCons (dVar 2) dNil)) (dOp fPow (dC (.int 10)) (dC (.int 18))))) (dCB (one fAbs) (dCons (dVar 2) dNil)) [2] [q, x1, x2] Q (ns.map D.int) (acc.map D.int) []
  | [], acc, hl, ha, h => h acc (by simpa using hl) ha
  | n :: ns, acc, hl, ha, h => by
    rw [List.length_cons] at hl
    refine ⟨⟨by decide, by decide, by decide⟩, ?_⟩
    show (if decide (10 ^ (18 : Int).toNat ≤ ((n.natAbs : Nat) : Int)) = true then _ else _)
    split
    · refine ⟨by unfold Fit; rw [List.length_map]; omega, ?_⟩
      have e : acc.map D.int ++ [D.int ((n.natAbs : Nat) : Int)] = (acc ++ [((n.natAbs : Nat) : Int)]).map D.int := by rw [List.map_append]; rfl
      rw [e]
      refine go_greatB ns (acc ++ [((n.natAbs : Nat) : Int)]) (by rw [List.length_append, List.length_singleton]; omega) ?_ h
      intro x m
      rcases List.mem_append.mp m with m | m
      · exact ha x m
      · rw [List.mem_singleton.mp m]
        omega
    · exact go_greatB ns acc (by omega) ha h
theorem vcHeapB (k0 : Int) (hk : 0 ≤ k0 ∧ k0 < 2 ^ 40) : ∀ ds post, spHeap ds post → rHeapB k0 { nx := fun _ _ => post .non, rt := fun d _ => post d } (ds.map some ++ List.replicate (3 - ds.length) none) [] := by
  rintro ds post ⟨ns, rfl, hl, h⟩
  have hc := cutD_len ns none (some 60)
  refine lp_stirB (cutD ns none (some 60)) _ _ hk fun z x2 hz => ?_
  refine go_greatB (cutD ns none (some 60)) [] (by rw [List.length_nil]; omega) (fun x m => (nomatch m)) fun cs l nn => ?_
  refine ⟨by show 2 ≤ 16777216; decide, ?_⟩
  have := h cs.reverse z ⟨fun x m => nn x (List.mem_reverse.mp m), by rw [List.length_reverse]; exact l, hz.1, hz.2⟩
  rw [List.map_reverse] at this
  exact this
end DL
namespace DL
open PySem PySem.Spec L2 Gd
/-! ### // by a number of any sign -/
def CDivN (_ j : Int) : Prop := j ≠ 0 ∧ j.natAbs.log2 < 9000
section
variable {X : Cx}
theorem op_fdivN : OpR X (binaryOp .FloorDiv) (rI CDivN fun i j => .int (i.fdiv j)) := by
  intro pins s σ H x y v u Q I rx ry h
  obtain ⟨i, j, rfl, rfl, hc, q⟩ := h
  obtain ⟨t, rfl⟩ := rx
  obtain ⟨t', rfl⟩ := ry
  exact PyProof.Rows.floordiv_int hc.1 ⟨.int _, H, I.tok _, ⟨_, rfl⟩, q⟩ (.inl (PyProof.noPylong_of_log2 hc.2))
end
def fDivN : F2 := onI CDivN fun i j => .int (i.fdiv j)
end DL
/-! sorted of data. -/
namespace DL
open PySem PySem.Spec PySem.SeqAt PyProof.Rows
open PySem.W (EachIs)
/-! ### tuples, some of them empty, can be sorted too -/
section
variable {prog : Program} {w : World} {A : Around} {E : Value → Shared → Prop} {s : Shared}
/-- (..).__lt__(..), by what its items answer -/
theorem call_tuple_lt {Q : Value → Shared → Prop} {p q : Addr} {us ws : Array Value} {eqs lts : Nat → Bool} (hp : s.heap.IsTuple p us) (hq : s.heap.IsTuple q ws)
    (same : ∀ i (h1 : i < us.size) (h2 : i < ws.size), EqAt A.in1 s us[i] ws[i] (eqs i)) (less : ∀ i (h1 : i < us.size) (h2 : i < ws.size), eqs i = false → RcLt A.in1 s us[i] ws[i] (lts i))
    (fin : Q (.bool (firstLt eqs lts (decide (us.size < ws.size)) (List.range (min us.size ws.size)))) s) : wpAny (model prog w) A (call (.builtin "tuple.__lt__") [.ref p, .ref q]) Q E s := by
  obtain ⟨op, at_p, kp, ep, dp⟩ := hp
  obtain ⟨oq, at_q, kq, eq, dq⟩ := hq
  cases op; cases oq
  cases kp; cases kq; cases dp; cases dq
  exact call_meets F.slot_tuple_lt ⟨_, at_p, rfl⟩ F.entry_tuple_lt (F.args_tuple_lt_2 _ _) (tuple_ltAt p q us ws ep eq _ _ _ _ eqs lts) ⟨at_p, at_q, same, less, fin⟩
theorem oneLt_any {f : Bool} {da db : PyData} {a b : Value} {as bs : List Addr} {Q : Bool → Shared → Prop} (ra : Reads s.heap a da as) (rb : Reads s.heap b db bs) (h : PySem.W.alike da db = true) (hn : da ≠ .none)
    (hu : A.units + min da.depth db.depth < cLine) (hq : Q (PySem.W.dataLt da db) s) : wpAny (model prog w) A (oneLt' f a b) Q E s := by
  by_cases ht : ∃ xs, da = .tuple xs
  · obtain ⟨xs, rfl⟩ := ht
    cases f with
    | false => exact PySem.W.oneLt_alike (fun z => by cases z) ra rb h hn hu hq
    | true =>
      cases db with
      | tuple ys =>
        have both : PySem.W.alikeAll xs ys = true := by rwa [PySem.W.alike] at h
        cases ra with
        | tuple x1 x2 x3 x4 =>
          cases rb with
          | tuple y1 y2 y3 y4 =>
            have c1 := ReadsAll.length _ _ _ x4
            have c2 := ReadsAll.length _ _ _ y4
            rw [Array.length_toList] at c1 c2
            rw [PySem.W.dataLt_tuple, ← PySem.W.firstLt_toks xs ys both, ← c1, ← c2] at hq
            have far := PySem.W.eqAt_alikeAll xs ys A.in1 s _ _ _ _ x4 y4 both (room_in hu)
            have lss := PySem.W.rcLt_alikeAll xs ys A.in1 s _ _ _ _ x4 y4 both (room_in hu)
            rw [oneLt'_eq, if_pos rfl]
            apply wpAny_bind; refine wpAny_cRoomFor (room_here hu) ?_
            apply wpAny_bind
            refine wpAny_callSpecialIfBound?_slot (T := "tuple") ⟨_, x1, x2⟩ F.slot_tuple_lt (call_tuple_lt (eqs := PySem.SeqAt.pairEq xs ys) (lts := fun i => PySem.W.dataLt (xs.getD i .none) (ys.getD i .none)) ⟨_, x1, x2, _, x3⟩ ⟨_, y1, y2, _, y3⟩ (fun i i1 i2 => ?_) (fun i i1 i2 ne => ?_) (wpAny_truthy_bool hq))
            · have := far i (by simpa using i1) (by simpa using i2)
              simpa using this
            · have := lss i (by simpa using i1) (by simpa using i2) ne
              simpa using this
      | _ => exact absurd h (by simp [PySem.W.alike])
  · exact PySem.W.oneLt_alike (fun _ xs e => ht ⟨xs, e⟩) ra rb h hn hu hq
theorem each_right {α β : Type} {R : α → β → Prop} : ∀ {as : List α} {bs : List β}, EachIs R as bs → ∀ b, b ∈ bs → ∃ a, a ∈ as ∧ R a b
  | _, _, .nil, b, h => by cases h
  | _, _, .cons h t, b, m => by
    rcases List.mem_cons.mp m with e | m
    · rw [e]
      exact ⟨_, List.mem_cons_self, h⟩
    · obtain ⟨a, ha, hr⟩ := each_right t b m
      exact ⟨a, List.mem_cons_of_mem _ ha, hr⟩
theorem firsts_any {M : Model} : ∀ {vs : List Value} {ds : List PyData} {Q : List (Option Value) → Shared → Prop}, EachIs (fun v d => ∃ as, Reads s.heap v d as) vs ds → (∀ d, d ∈ ds → ∃ r, d = .tuple r) →
    (∀ fs : List (Option Value), EachIs (fun f d => f = none ↔ d = PyData.tuple []) fs ds → Q fs s) → wpAny M A (vs.mapM firstOfTuple') Q E s
  | _, _, Q, .nil, _, h => by
    rw [List.mapM_nil]
    exact wpAny_pure (h [] .nil)
  | _, _, Q, .cons (b := d) ⟨as, r⟩ t, ht, h => by
    obtain ⟨xs, rfl⟩ := ht d (List.mem_cons_self ..)
    rw [List.mapM_cons]
    refine wpAny_bind ?_
    rw [PySem.W.kas_first_eq]
    cases r with
    | @tuple a o vs n _ _ ho hc hd hr =>
      refine wpAny_bind (PySem.W.Looks.here (show PySem.W.Looks M s.heap (typeOf (.ref a)) o.cls from (PySem.W.Looks.ld ho).andThen .now) ?_)
      rw [hc, if_neg (by first | decide | simp)]
      refine wpAny_bind (listItems_at ho hd (wpAny_pure ?_))
      refine wpAny_bind (firsts_any (Q := fun bs s' => wpAny M A (pure (_ :: bs)) Q E s') t (fun d hd => ht d (List.mem_cons_of_mem _ hd)) fun fs hfs => wpAny_pure (h _ (.cons ?_ hfs)))
      have hl := ReadsAll.length _ _ _ hr
      rw [← Array.getElem?_toList]
      cases q : vs.toList with
      | nil =>
        rw [q] at hl
        have : xs = [] := List.eq_nil_of_length_eq_zero hl.symm
        subst this
        simp
      | cons f fr =>
        rw [q] at hl
        cases xs with
        | nil => cases hl
        | cons x xs => simp
/-- the first one is () -/
def noT : List PyData → Bool
  | .tuple [] :: _ => true
  | _ => false
theorem noT_yes {d : PyData} {ds : List PyData} (h : d = .tuple []) : noT (d :: ds) = true := by rw [h]; rfl
theorem noT_no {d : PyData} {ds : List PyData} (h : d ≠ .tuple []) : noT (d :: ds) = false := by
  unfold noT
  split
  · rename_i e; cases e; exact absurd rfl h
  · rfl
theorem kind_any {M : Model} {vs : List Value} {ds : List PyData} {Q : SortKind → Shared → Prop} (e : EachIs (fun v d => ∃ as, Reads s.heap v d as) vs ds) (ht : ∀ d, d ∈ ds → ∃ r, d = .tuple r) (hne : PyData.tuple [] ∈ ds) (h2 : 2 ≤ vs.length)
    (hq : Q (if noT ds = true then oneType' else general') s) : wpAny M A (keyKind' vs.toArray) Q E s := by
  rw [kat_kind_eq, List.mapM_toArray, map_eq_pure_bind]
  refine wpAny_bind (wpAny_bind (firsts_any e ht fun fs hfs => wpAny_pure ?_))
  have hno : none ∈ fs := by
    obtain ⟨f, hf, hi⟩ := each_right hfs _ hne
    have := hi.mpr rfl
    rw [this] at hf
    exact hf
  have hall : (fs.toArray.all fun x => x.isSome) = false := by
    rw [List.all_toArray]
    exact List.all_eq_false.mpr ⟨none, hno, by simp⟩
  rw [if_neg (by rw [hall]; decide)]
  cases ds with
  | nil => cases hne
  | cons d₀ ds₀ =>
    cases hfs with
    | @cons f₀ _ fr _ hf₀ hr =>
      have h0 : (f₀ :: fr).toArray[0]? = some f₀ := by simp
      rw [h0]
      by_cases hd : d₀ = PyData.tuple []
      · have hf : f₀ = none := hf₀.mpr hd
        subst hf
        rw [if_pos (noT_yes hd)] at hq
        rw [if_neg (by simp)]
        rw [oneTypeOnly'_eq, List.mapM_toArray, map_eq_pure_bind]
        have hT : ∀ v ∈ vs, PySem.W.Looks M s.heap (typeOf v) (.type "tuple") := fun v hv => by
          obtain ⟨d, hd, as, r⟩ := e.left v hv
          obtain ⟨r', rfl⟩ := ht d hd
          exact PySem.W.looks_reads r
        refine wpAny_bind (wpAny_bind (wpAny_bind (PySem.W.kas_mapM (r := Value.type "tuple") _ (fun v hv Q' hq => (hT v hv).here hq) (wpAny_pure ?_))))
        have hall2 : ((List.map (fun _ => Value.type "tuple") vs).toArray.all fun x => x == Value.type "tuple") = true := by
          simp only [List.all_toArray, List.all_map, List.all_eq_true]
          intro _ _
          exact beq_self_eq_true _
        have h0 : (List.map (fun _ => Value.type "tuple") vs).toArray[0]? = some (Value.type "tuple") := by
          cases vs with
          | nil => simp at h2
          | cons v vs => simp
        rw [h0]
        simp only [hall2, if_true]
        exact wpAny_pure (wpAny_pure hq)
      · have hf : f₀ ≠ none := fun z => hd (hf₀.mp z)
        rw [if_neg (by rw [noT_no hd]; decide)] at hq
        obtain ⟨f, rfl⟩ := Option.ne_none_iff_exists'.mp hf
        rw [if_pos (by simp)]
        exact wpAny_pure hq
theorem sortsAt_tups {vs : List Value} {ds : List PyData} (e : EachIs (fun v d => ∃ as, Reads s.heap v d as) vs ds) (hal : PySem.W.AllAlike ds) (ht : ∀ d, d ∈ ds → ∃ r, d = .tuple r) (hu : ∀ d, d ∈ ds → A.units + d.depth < cLine) : PySem.W.SortsAt prog w A s (PySem.W.dataKind s.heap ds) vs := by
  by_cases hne : PyData.tuple [] ∈ ds
  · have room : ∀ {d d' : PyData}, d ∈ ds → A.units + min d.depth d'.depth < cLine := fun {d d'} hd => Nat.lt_of_le_of_lt (Nat.add_le_add_left (Nat.min_le_left _ _) _) (hu d hd)
    have key : ∀ f : Bool, ∀ (E : Value → Shared → Prop) (x y : Value) (a b : List (Int ⊕ List Nat)) (Q : Bool → Shared → Prop), (PySem.W.dataKind s.heap ds).keyOf x = some a → (PySem.W.dataKind s.heap ds).keyOf y = some b → Q ((PySem.W.dataKind s.heap ds).blt a b) s → wpAny (model prog w) A (oneLt' f x y) Q E s := by
      intro f E x y a b Q ha hb hq
      obtain ⟨d, as, hd, ra, rfl⟩ := PySem.W.dataKind_inv ha
      obtain ⟨d', as', hd', rb, rfl⟩ := PySem.W.dataKind_inv hb
      obtain ⟨r, rfl⟩ := ht d hd
      exact oneLt_any ra rb (hal _ hd d' hd') (by simp) (room hd) hq
    refine ⟨fun v hv => ?_, (if noT ds = true then oneType' else general'), ?_, fun h2 E Q hq => kind_any e ht hne h2 hq⟩
    · obtain ⟨d, hd, as, r⟩ := e.left v hv
      exact ⟨_, PySem.W.dataKind_some hal hd r⟩
    · intro E x y a b Q ha hb hq
      split
      · exact key true E x y a b Q ha hb hq
      · exact key false E x y a b Q ha hb hq
  · refine PySem.W.SortsAt.data e hal (.inl fun d hd => ?_) hu
    obtain ⟨r, rfl⟩ := ht d hd
    cases r with
    | nil => exact absurd hd hne
    | cons x r => exact ⟨x, r, rfl⟩
end
/-- all are tuples, or none is a tuple or None -/
def SortableT (ds : List PyData) : Prop := (∀ d, d ∈ ds → ∃ r, d = .tuple r) ∨ ∀ d, d ∈ ds → d ≠ .none ∧ ∀ xs, d ≠ .tuple xs
section
variable {prog : Program} {w : World} {A : Around} {E : Value → Shared → Prop} {s : Shared} {β : Type} {vs : List Value} {bs : List β} {enc : β → PyData} {R : Value → β → Prop}
theorem sortsAt_any {vs : List Value} {ds : List PyData} (e : EachIs (fun v d => ∃ as, Reads s.heap v d as) vs ds) (hal : PySem.W.AllAlike ds) (ht : SortableT ds) (hu : ∀ d, d ∈ ds → A.units + d.depth < cLine) : PySem.W.SortsAt prog w A s (PySem.W.dataKind s.heap ds) vs := by
  rcases ht with ht | ht
  · exact sortsAt_tups e hal ht hu
  · exact PySem.W.SortsAt.data e hal (.inr ht) hu
theorem sorted_any {l : Addr} {Q : Value → Shared → Prop} (hl : s.heap.IsList l vs.toArray) (e : EachIs R vs bs) (er : EachIs (fun v b => ∃ as, Reads s.heap v (enc b) as) vs bs) (hal : PySem.W.AllAlike (bs.map enc)) (hk : SortableT (bs.map enc)) (hL : bs.length ≤ sizeLine)
    (hu : ∀ b, b ∈ bs → A.units + 2 + (enc b).depth < cLine) (h : ∀ out, out.length = bs.length → EachIs R out (bs.mergeSort (PySem.W.dataLe false enc)) → Q (.ref (s.heap.objs.size + 1)) { s with heap := sortedAll s.heap vs (List.toArray out) }) :
    wpAny (model prog w) A (call (.builtin "sorted") [.ref l]) Q E s := by
  have er' : EachIs (fun v b => ∃ as, Reads (PySem.W.sortingHeap (PySem.W.copyHeap s.heap vs) (s.heap.objs.size + 1) vs) v (enc b) as) vs bs := er.mono fun _ _ ⟨as, r⟩ => ⟨as, PyProof.Rows.Reads.keeps (fun _ _ => PySem.W.sorting_copy_old) r⟩
  exact PySem.W.sorted_vals hl (sortsAt_any (s := { s with heap := PySem.W.sortingHeap (PySem.W.copyHeap s.heap vs) (s.heap.objs.size + 1) vs }) (PySem.W.each_map (R := fun v d => ∃ as, Reads (PySem.W.sortingHeap (PySem.W.copyHeap s.heap vs) (s.heap.objs.size + 1) vs) v d as) enc er') hal hk (PySem.W.bound_map hu)) (by rw [e.length]; exact hL)
    (h _ (by rw [PySem.W.sortVals_length false rfl]; exact e.length) (PySem.W.sortVals_data false e er' hal))
end
end DL
/-! sorted of data: as a rule. -/
namespace DL
open PySem PySem.Spec PyProof.Rows
open PySem.W (EachIs)
/-- a new empty list ahead; with the items in it -/
def nl (h : Heap) : Heap := h.push (seqObj "list" #[] 0)
def laid (h : Heap) (vs : List Value) : Heap := (nl h).update h.objs.size (Obj.mapSeq (· ++ vs.toArray))
theorem nl_at (h : Heap) : (nl h).get? h.objs.size = some (seqObj "list" #[] 0) := Heap.get?_push_size _ rfl
section
variable {prog : Program} {w : World} {A : Around} {E : Value → Shared → Prop} {s : Shared} {vs : List Value} {l : Addr}
/-- what is walked is laid item by item into a new list -/
def Collects (prog : Program) (w : World) (s : Shared) (l : Addr) (vs : List Value) : Prop :=
  ∀ (A : Around) (E : Value → Shared → Prop) (Q : List Value → Shared → Prop), Q vs { s with heap := laid s.heap vs } → wpAny (model prog w) A (collect (.ref l)) Q E s
theorem collects_list (hl : s.heap.IsList l vs.toArray) (few : vs.length ≤ sizeLine) : Collects prog w s l vs := fun _ _ _ q => PyProof.Rows.collect_list hl q few
theorem collects_tuple (hl : s.heap.IsTuple l vs.toArray) (few : vs.length ≤ sizeLine) : Collects prog w s l vs := by
  intro A E Q q
  obtain ⟨ob, at_l, isT, ep, items⟩ := hl
  have still : (nl s.heap).get? l = some ob := Heap.get?_push_of_some _ at_l
  have fits : ((#[] : Array Value) ++ vs.toArray).size ≤ sizeLine + 1 := by simpa using Nat.le_succ_of_le few
  have back : ((#[] : Array Value) ++ vs.toArray).toList = vs := by simp
  unfold collect
  apply wpAny_bind; apply wpAny_runValue; apply codeAny_builtin entry_proto_collect'
  apply wpAny_bind; refine wpAny_newList ?_ (Nat.zero_le _)
  apply wpAny_pure
  refine And.intro (Code.quiet_builtin _ (by decide +kernel)) (codeAny_builtin entry_list_iadd' ?_)
  change wpAny _ _ (Builtin.List.listExtendWith (Value.ref s.heap.objs.size) (Value.ref l) (Value.ref s.heap.objs.size)) _ _ (Shared.mk (nl s.heap) s.gens s.drawn s.toks s.os)
  delta Builtin.List.listExtendWith
  have ty : (Shared.mk (nl s.heap) s.gens s.drawn s.toks s.os).TypeIs (.ref l) "tuple" := ⟨ob, still, isT⟩
  have eqT : (Value.type "tuple" == Value.type "tuple") = true := by decide +kernel
  apply wpAny_bind; refine wpAny_typeOf ty ?_
  rw [eqT, Bool.or_true, if_pos rfl]
  apply wpAny_bind; apply listItems_at still items
  apply wpAny_bind; apply listItems_at (nl_at s.heap) rfl
  rw [if_neg (show ¬ _ by simp)]
  apply wpAny_bind
  refine listUpdate_at (nl_at s.heap) rfl ?_ (Nat.zero_le _) fits
  apply wpAny_pure
  refine wpAny_bind (wpAny_load (get?_update_seq (nl_at s.heap) _) (wpAny_pure ?_))
  rw [back]
  exact q
/-- sorted(..) of what is so laid: a sort of that list's copy -/
theorem sorted_col {kw : List (Str × Value)} {Q : Value → Shared → Prop} (hc : Collects prog w s l vs) (few : vs.length ≤ sizeLine) (k1 : argsOk "sorted" ⟨[.ref l], kw⟩) (k2 : ∀ x, argsOk "list.sort" ⟨[.ref x], kw⟩)
    (go : ∀ E', wpAny (model prog w) A.in1.in1 (Builtin.«list.sort» ⟨[.ref (s.heap.objs.size + 1)], kw⟩) (fun f s' => f = .done (.ret .none) ∧ Q (.ref (s.heap.objs.size + 1)) s') E' { s with heap := PySem.W.copyHeap s.heap vs }) :
    wpAny (model prog w) A (call (.builtin "sorted") [.ref l] kw) Q E s := by
  have size1 : (laid s.heap vs).objs.size = s.heap.objs.size + 1 := (Heap.size_update ..).trans (PyProof.Rows.size_push' ..)
  apply call_function_entry_kw kind_sorted plain_sorted entry_sorted k1
  delta Builtin.«sorted»
  apply wpAny_bind (m := checkCount "sorted" 1 1 _); apply wpAny_pure
  apply wpAny_bind; apply hc
  apply wpAny_bind; refine wpAny_newList ?_ few
  change wpAny _ _ _ _ _ (Shared.mk (PySem.W.copyHeap s.heap vs) s.gens s.drawn s.toks s.os)
  have size2 : ({ s with heap := laid s.heap vs } : Shared).heap.objs.size = s.heap.objs.size + 1 := size1
  rw [size2]
  apply wpAny_bind; apply wpAny_holding
  refine wpAny_call_entry_kw slot_list_sort ⟨_, PySem.W.copyHeap_at s.heap vs, rfl⟩ entry_list_sort (wpAny_mono (go _) ?_ fun _ _ z => z) (k2 _)
  rintro f s' ⟨rfl, done⟩
  exact ⟨.none, rfl, wpAny_pure ⟨_, rfl, done⟩⟩
variable {β : Type} {bs : List β} {enc : β → PyData} {R : Value → β → Prop}
theorem sorted_colAny {l : Addr} {Q : Value → Shared → Prop} (hcol : Collects prog w s l vs) (e : EachIs R vs bs) (er : EachIs (fun v b => ∃ as, Reads s.heap v (enc b) as) vs bs) (hal : PySem.W.AllAlike (bs.map enc)) (hk : SortableT (bs.map enc)) (hL : bs.length ≤ sizeLine)
    (hu : ∀ b, b ∈ bs → A.units + 2 + (enc b).depth < cLine) (h : ∀ out, out.length = bs.length → EachIs R out (bs.mergeSort (PySem.W.dataLe false enc)) → Q (.ref (s.heap.objs.size + 1)) { s with heap := sortedAll s.heap vs (List.toArray out) }) :
    wpAny (model prog w) A (call (.builtin "sorted") [.ref l]) Q E s := by
  have er' : EachIs (fun v b => ∃ as, Reads (PySem.W.sortingHeap (PySem.W.copyHeap s.heap vs) (s.heap.objs.size + 1) vs) v (enc b) as) vs bs := er.mono fun _ _ ⟨as, r⟩ => ⟨as, PyProof.Rows.Reads.keeps (fun _ _ => PySem.W.sorting_copy_old) r⟩
  have S := sortsAt_any (prog := prog) (w := w) (A := A.in1.in1) (s := { s with heap := PySem.W.sortingHeap (PySem.W.copyHeap s.heap vs) (s.heap.objs.size + 1) vs }) (PySem.W.each_map (R := fun v d => ∃ as, Reads (PySem.W.sortingHeap (PySem.W.copyHeap s.heap vs) (s.heap.objs.size + 1) vs) v d as) enc er') hal hk (PySem.W.bound_map hu)
  have hl : vs.length ≤ sizeLine := by rw [e.length]; exact hL
  exact sorted_col hcol hl (args_sorted1 _) (fun _ => args_list_sort _) fun _ => PySem.W.list_sort_vals (s := { s with heap := PySem.W.copyHeap s.heap vs }) (PySem.W.copyHeap_at s.heap vs) S hl
    ⟨rfl, h _ (by rw [PySem.W.sortVals_length false rfl]; exact e.length) (PySem.W.sortVals_data false e er' hal)⟩
end
end DL
namespace DL
open PySem PySem.Spec L2 Gd
open PySem.W (EachIs)
theorem each_of_vals : ∀ {bs : List (V × D)} {us : List Value}, Vals (bs.map (·.1)) us → EachIs (fun u (b : V × D) => RelV b.1 u) us bs
  | [], _, h => by cases h; exact .nil
  | _ :: _, _, h => by
    cases h with
    | cons h t => exact .cons h (each_of_vals t)
theorem vals_of_each : ∀ {bs : List (V × D)} {us : List Value}, EachIs (fun u (b : V × D) => RelV b.1 u) us bs → Vals (bs.map (·.1)) us
  | _, _, .nil => .nil
  | _, _, .cons h t => .cons h (vals_of_each t)
/-- data that can be sorted: any two alike; tuples, or neither tuples nor None -/
structure SortOk (ds : List D) : Prop where
  al : ∀ a ∈ ds, ∀ b ∈ ds, PySem.W.alike (py a) (py b) = true
  ty : (∀ a ∈ ds, ∃ xs, a = .tup xs) ∨ (∀ a ∈ ds, py a ≠ .none ∧ ∀ xs, a ≠ .tup xs)
  dn : ∀ a ∈ ds, dn 40 a = true
def sortD (ds : List D) : List D := ds.mergeSort (PySem.W.dataLe false py)
def rSortG (K : PySem.W.Frag) : List V → Hp → VK → Prop := fun vs H Q => ∃ (a : Addr) (bs : List (V × D)), vs = [.ref a] ∧ (SqL K H a (bs.map (·.1)) ∨ SqT K H a (bs.map (·.1))) ∧ (∀ b ∈ bs, Dp K H b.1 (py b.2)) ∧ SortOk (bs.map (·.2)) ∧
  ∀ p, H p = none → Q (.ref p) (upd H p (.lst ((bs.mergeSort (PySem.W.dataLe false fun b => py b.2)).map (·.1))))
section
variable {X : Cx} {dx : Dx} {K : PySem.W.Frag}
theorem cr_sortG (hu : X.A.units + 64 < cLine) : CallR X (.builtin "sorted") (rSortG X.K) := by
  intro pins s σ H vs us Q I r h
  obtain ⟨a, bs, rfl, hs, hd, ok, q⟩ := h
  obtain ⟨u, rfl, ru⟩ := vals1 r
  obtain rfl : u = Value.ref a := ru
  have key : ∃ its : List Value, Vals (bs.map (·.1)) its ∧ its.length ≤ sizeLine ∧ Collects X.prog X.w s a its := by
    rcases hs with hs | hs
    · obtain ⟨its, rv, hl, hz⟩ := I.list hs
      have hz : its.length ≤ sizeLine := by rw [← rv.length]; exact hz
      exact ⟨its, rv, hz, collects_list hl.isList hz⟩
    · obtain ⟨its, rv, pt, hz⟩ := I.tuple hs
      have hz : its.length ≤ sizeLine := by rw [← rv.length]; exact hz
      exact ⟨its, rv, hz, collects_tuple (show s.heap.IsTuple a its.toArray from pt) hz⟩
  obtain ⟨its, rv, hz, hcol⟩ := key
  have e := each_of_vals rv
  have len : bs.length = its.length := e.length.symm
  have er : EachIs (fun v (b : V × D) => ∃ as, Reads s.heap v (py b.2) as) its bs := (PySem.W.each_mem e).mono fun u b hb => Dp.reads I _ _ _ (hd b hb.2) hb.1
  have memd : ∀ d, d ∈ bs.map (fun b => py b.2) → ∃ c, c ∈ bs.map (·.2) ∧ d = py c := fun d hm => by
    obtain ⟨b, hb, rfl⟩ := List.mem_map.mp hm
    exact ⟨b.2, List.mem_map.mpr ⟨b, hb, rfl⟩, rfl⟩
  refine sorted_colAny (enc := fun b : V × D => py b.2) hcol e er (fun d hd d' hd' => ?_) ?_ (by rw [len]; exact hz) (fun b hb => ?_) fun out hl eo => ?_
  · obtain ⟨c, hc, rfl⟩ := memd d hd
    obtain ⟨c', hc', rfl⟩ := memd d' hd'
    exact ok.al c hc c' hc'
  · rcases ok.ty with t | t
    · refine .inl fun d hd => ?_
      obtain ⟨c, hc, rfl⟩ := memd d hd
      obtain ⟨xs, rfl⟩ := t c hc
      exact ⟨_, rfl⟩
    · refine .inr fun d hd => ?_
      obtain ⟨c, hc, rfl⟩ := memd d hd
      obtain ⟨h1, h2⟩ := t c hc
      refine ⟨h1, fun xs e => ?_⟩
      cases c with
      | tup ys => exact h2 ys rfl
      | _ => cases e
  · have := py_depth (ok.dn b.2 (List.mem_map.mpr ⟨b, hb, rfl⟩))
    omega
  · have keep : ∀ b u, s.heap.get? b = some u → (PyProof.Rows.sortedAll s.heap its (List.toArray out)).get? b = some u := fun b u e => PyProof.Rows.sortedAll_old e
    obtain ⟨n, hn⟩ := PyProof.Rows.sortedAll_at s.heap its (List.toArray out)
    have hnone : H (s.heap.objs.size + 1) = none := I.hok.fresh (Nat.le_succ _)
    refine ⟨.ref (s.heap.objs.size + 1), upd H (s.heap.objs.size + 1) (.lst ((bs.mergeSort (PySem.W.dataLe false fun b => py b.2)).map (·.1))), I.laid (t' := s.toks) keep (Nat.le_succ _) ⟨?_, out, n, vals_of_each eo, hn⟩, rfl, q _ hnone⟩
    rw [List.length_map, (List.mergeSort_perm _ _).length_eq, len]
    exact hz
theorem cr_sortG_ (K : PySem.W.Frag) (hu : X.A.units + 64 < cLine) (hK : X.K = K := by rfl) : CallR X (.builtin "sorted") (rSortG K) := by subst hK; exact cr_sortG hu
theorem DtAll.pairs {M : Mm} {H : Hp} : ∀ {bs : List (V × D)}, (∀ b ∈ bs, Dt K M H b.1 b.2) → DtAll K M H (bs.map (·.1)) (bs.map (·.2))
  | [], _ => .nil
  | b :: bs, h => .cons (h b List.mem_cons_self) (DtAll.pairs fun c m => h c (List.mem_cons_of_mem _ m))
theorem DtAll.zip {M : Mm} {H : Hp} : ∀ {vs : List V} {ds : List D}, DtAll K M H vs ds → (vs.zip ds).map (·.1) = vs ∧ (vs.zip ds).map (·.2) = ds ∧ ∀ b ∈ vs.zip ds, Dt K M H b.1 b.2
  | _, _, .nil => ⟨rfl, rfl, fun b m => nomatch m⟩
  | _, _, .cons h t => by
    obtain ⟨a, b, c⟩ := DtAll.zip t
    refine ⟨by rw [List.zip_cons_cons, List.map_cons, a], by rw [List.zip_cons_cons, List.map_cons, b], fun p m => ?_⟩
    rw [List.zip_cons_cons] at m
    rcases List.mem_cons.mp m with rfl | m
    · exact h
    · exact c p m
def kD : Key → D
  | .inl i => .int i
  | .inr x => .str x
/-- the items of a list, a tuple -/
def seqOf (S : Sto) : D → Option (List D)
  | .lst ds => some ds
  | .tup ds => some ds
  | .fls ns => some (ns.map D.int)
  | .adr p => getS S p
  | _ => none
def fSorted (d : D) (S : Sto) (Q : D → Sto → Prop) : Prop := opt (seqOf S d) fun ds => SortOk ds ∧ Q (.lst (sortD ds)) S
theorem seq_of {H : Hp} {S : Sto} {v : V} {d : D} {ds : List D} (r : HR K dx H S) (h : Dt K (Mu dx S) H v d) (e : seqOf S d = some ds) : ∃ a vs, v = .ref a ∧ (SqL K H a vs ∨ SqT K H a vs) ∧ DtAll K (Mu dx S) H vs ds := by
  cases h with
  | tup n h a => cases e; exact ⟨_, _, rfl, .inr (.inl h), a⟩
  | ktup h a => cases e; exact ⟨_, _, rfl, .inr (.inr h), a⟩
  | lst n h a => cases e; exact ⟨_, _, rfl, .inl (SqL.of h), a⟩
  | fls n h => cases e; exact ⟨_, _, rfl, .inl (.inl h), DtAll.ints _⟩
  | kfls h => cases e; exact ⟨_, _, rfl, .inl (.inr h), DtAll.ints _⟩
  | adr p =>
    obtain ⟨_, vs, eh, al⟩ := r.get e
    exact ⟨_, _, rfl, .inl (SqL.of eh), al⟩
  | _ => cases e
theorem cd_sorted : CallD K dx (rSortG K) (one fSorted) := by
  refine cd_one fun v d H S Q Qh r h t k => ?_
  obtain ⟨ds, e, ok, t⟩ := opt_run t
  obtain ⟨a, vs, rfl, hs, al⟩ := seq_of r h e
  obtain ⟨z1, z2, z3⟩ := al.zip
  refine ⟨a, vs.zip ds, rfl, by rw [z1]; exact hs, fun b hb => dp_of (z3 b hb) (ok.dn b.2 (by rw [← z2]; exact List.mem_map.mpr ⟨b, hb, rfl⟩)), by rw [z2]; exact ok, fun p n => ?_⟩
  have e2 : sortD ds = ((vs.zip ds).mergeSort (PySem.W.dataLe false fun b => py b.2)).map (·.2) := by
    unfold sortD
    have m := PySem.W.sort_maps (r := PySem.W.dataLe false fun b : V × D => py b.2) (s := PySem.W.dataLe false py) (l := vs.zip ds) (fun b : V × D => b.2) (fun _ _ _ _ => rfl)
    rw [z2] at m
    exact m.symm
  obtain ⟨r2, x2, d2⟩ := new_lst r n (DtAll.pairs (bs := (vs.zip ds).mergeSort (PySem.W.dataLe false fun b => py b.2)) fun b hb => z3 b ((List.mergeSort_perm _ _).mem_iff.mp hb))
  rw [← e2] at d2
  exact k _ _ _ S r2 x2 d2 t
end
end DL
/-! Dicts: items, in, comprehensions, what is not changed any more. -/
namespace DL
open PySem PySem.Spec L2 Gd

/-! ### tables of keys -/
def valD (kvs : List (Key × D)) (k : Key) : Option D := (kvs.find? fun kv => decide (kv.1 = k)).map (·.2)
def putD (kvs : List (Key × D)) (k : Key) (d : D) : List (Key × D) :=
  if (kvs.any fun kv => decide (kv.1 = k)) = true then kvs.map (fun kv => if kv.1 = k then (kv.1, d) else kv) else kvs ++ [(k, d)]
def dropD (kvs : List (Key × D)) (k : Key) : List (Key × D) := kvs.filter fun kv => decide (kv.1 ≠ k)
theorem valD_nil {k : Key} : valD [] k = none := rfl
theorem valD_pos {p : Key × D} {r : List (Key × D)} {k : Key} (e : p.1 = k) : valD (p :: r) k = some p.2 := by simp [valD, List.find?_cons, e]
theorem valD_neg {p : Key × D} {r : List (Key × D)} {k : Key} (e : ¬ p.1 = k) : valD (p :: r) k = valD r k := by simp [valD, List.find?_cons, e]
def KD (K : PySem.W.Frag) (M : Mm) (H : Hp) (ws : List (Key × V)) (kvs : List (Key × D)) : Prop := ws.map (·.1) = kvs.map (·.1) ∧ DtAll K M H (ws.map (·.2)) (kvs.map (·.2))
section
variable {K : PySem.W.Frag} {M : Mm} {H : Hp}
theorem KD.nil : KD K M H [] [] := ⟨rfl, .nil⟩
theorem KD.cons {p : Key × V} {q : Key × D} {ws : List (Key × V)} {kvs : List (Key × D)} (e : p.1 = q.1) (h : Dt K M H p.2 q.2) (t : KD K M H ws kvs) : KD K M H (p :: ws) (q :: kvs) :=
  ⟨by rw [List.map_cons, List.map_cons, e, t.1], .cons h t.2⟩
theorem KD.case {motive : List (Key × V) → List (Key × D) → Prop} (h0 : motive [] []) (h1 : ∀ p q ws kvs, p.1 = q.1 → Dt K M H p.2 q.2 → KD K M H ws kvs → motive ws kvs → motive (p :: ws) (q :: kvs)) :
    ∀ {ws : List (Key × V)} {kvs : List (Key × D)}, KD K M H ws kvs → motive ws kvs
  | [], [], _ => h0
  | [], q :: kvs, h => by cases h.1
  | p :: ws, [], h => by cases h.1
  | p :: ws, q :: kvs, h => by
    obtain ⟨e, a⟩ := h
    rw [List.map_cons, List.map_cons] at e
    obtain ⟨e1, e2⟩ := List.cons.inj e
    cases a with
    | cons a1 a2 => exact h1 p q ws kvs e1 a1 ⟨e2, a2⟩ (KD.case h0 h1 ⟨e2, a2⟩)
theorem KD.append {ws ws' : List (Key × V)} {kvs kvs' : List (Key × D)} (a : KD K M H ws kvs) (b : KD K M H ws' kvs') : KD K M H (ws ++ ws') (kvs ++ kvs') :=
  ⟨by rw [List.map_append, List.map_append, a.1, b.1], by rw [List.map_append, List.map_append]; exact a.2.append b.2⟩
theorem KD.length {ws : List (Key × V)} {kvs : List (Key × D)} (a : KD K M H ws kvs) : ws.length = kvs.length := by
  have := congrArg List.length a.1
  simpa using this
theorem KD.any {ws : List (Key × V)} {kvs : List (Key × D)} (a : KD K M H ws kvs) (k : Key) : (ws.any fun kv => decide (kv.1 = k)) = kvs.any fun kv => decide (kv.1 = k) := by
  refine KD.case (motive := fun ws kvs => (ws.any fun kv => decide (kv.1 = k)) = kvs.any fun kv => decide (kv.1 = k)) rfl (fun p q ws kvs e _ _ ih => ?_) a
  rw [List.any_cons, List.any_cons, ih, e]
theorem KD.val {ws : List (Key × V)} {kvs : List (Key × D)} (a : KD K M H ws kvs) (k : Key) : (valD kvs k = none ∧ valV ws k = none) ∨ ∃ v d, valD kvs k = some d ∧ valV ws k = some v ∧ Dt K M H v d := by
  refine KD.case (motive := fun ws kvs => (valD kvs k = none ∧ valV ws k = none) ∨ ∃ v d, valD kvs k = some d ∧ valV ws k = some v ∧ Dt K M H v d) (.inl ⟨rfl, rfl⟩) (fun p q ws kvs e h _ ih => ?_) a
  by_cases c : q.1 = k
  · exact .inr ⟨p.2, q.2, valD_pos c, valV_pos (e.trans c), h⟩
  · rw [valD_neg c, valV_neg (fun z => c (e.symm.trans z))]
    exact ih
theorem KD.put {ws : List (Key × V)} {kvs : List (Key × D)} (a : KD K M H ws kvs) (k : Key) {v : V} {d : D} (h : Dt K M H v d) : KD K M H (putK ws k v) (putD kvs k d) := by
  unfold putK putD
  rw [a.any k]
  split
  · refine KD.case (motive := fun ws kvs => KD K M H (ws.map fun kv => if kv.1 = k then (kv.1, v) else kv) (kvs.map fun kv => if kv.1 = k then (kv.1, d) else kv)) KD.nil (fun p q ws kvs e hd _ ih => ?_) a
    rw [List.map_cons, List.map_cons]
    by_cases c : q.1 = k
    · rw [if_pos c, if_pos (e.trans c)]
      exact KD.cons e h ih
    · rw [if_neg c, if_neg (fun z => c (e.symm.trans z))]
      exact KD.cons e hd ih
  · exact a.append (KD.cons rfl h KD.nil)
theorem KD.drop {ws : List (Key × V)} {kvs : List (Key × D)} (a : KD K M H ws kvs) (k : Key) : KD K M H (dropK ws k) (dropD kvs k) := by
  unfold dropK dropD
  refine KD.case (motive := fun ws kvs => KD K M H (ws.filter fun kv => decide (kv.1 ≠ k)) (kvs.filter fun kv => decide (kv.1 ≠ k))) KD.nil (fun p q ws kvs e hd _ ih => ?_) a
  by_cases c : q.1 = k
  · rw [List.filter_cons_of_neg (by simpa using e.trans c), List.filter_cons_of_neg (by simpa using c)]
    exact ih
  · rw [List.filter_cons_of_pos (by simpa using fun z => c (e.symm.trans z)), List.filter_cons_of_pos (by simpa using c)]
    exact KD.cons e hd ih
theorem KD.ext {M' : Mm} {H' : Hp} (x : Ext M H M' H') {ws : List (Key × V)} {kvs : List (Key × D)} (a : KD K M H ws kvs) : KD K M' H' ws kvs := ⟨a.1, a.2.ext x⟩
theorem KD.extD {M' : Mm} {H' : Hp} (x : ExtD M H M' H') {ws : List (Key × V)} {kvs : List (Key × D)} (a : KD K M H ws kvs) : KD K M' H' ws kvs := ⟨a.1, a.2.extD x⟩
end
theorem zip_fst : ∀ {ks : List Key} {vs : List D}, ks.length = vs.length → (ks.zip vs).map (·.1) = ks ∧ (ks.zip vs).map (·.2) = vs
  | [], [], _ => ⟨rfl, rfl⟩
  | k :: ks, v :: vs, h => by
    obtain ⟨a, b⟩ := zip_fst (ks := ks) (vs := vs) (by simpa using h)
    exact ⟨by rw [List.zip_cons_cons, List.map_cons, a], by rw [List.zip_cons_cons, List.map_cons, b]⟩
/-- the frozen form -/
def dicOf (kvs : List (Key × D)) : D := .dic (kvs.map (·.1)) (kvs.map (·.2))
def kvsOf (S : Sto) : D → Option (List (Key × D))
  | .dic ks vs => some (ks.zip vs)
  | .adr p => getK S p
  | _ => none
theorem zip_unzip : ∀ (kvs : List (Key × D)), (kvs.map (·.1)).zip (kvs.map (·.2)) = kvs
  | [] => rfl
  | p :: kvs => by rw [List.map_cons, List.map_cons, List.zip_cons_cons, zip_unzip kvs]
theorem kvsOf_dic {S : Sto} (kvs : List (Key × D)) : kvsOf S (dicOf kvs) = some kvs := by
  show some ((kvs.map (·.1)).zip (kvs.map (·.2))) = some kvs
  rw [zip_unzip]
def keyOf : D → Option Key
  | .int i => some (.inl i)
  | .str x => some (.inr x)
  | _ => none
section
variable {X : Cx} {dx : Dx} {K : PySem.W.Frag}
theorem kvs_of {H : Hp} {S : Sto} {v : V} {d : D} {kvs : List (Key × D)} (r : HR K dx H S) (h : Dt K (Mu dx S) H v d) (e : kvsOf S d = some kvs) : ∃ a ws, v = .ref a ∧ Rd H a (.dK ws) ∧ KD K (Mu dx S) H ws kvs := by
  cases h with
  | dic n h k a =>
    cases e
    subst k
    have l := a.length
    rw [List.length_map] at l
    obtain ⟨z1, z2⟩ := zip_fst (ks := List.map (fun p : Key × V => p.1) _) (vs := _) ((List.length_map _).trans l)
    exact ⟨_, _, rfl, .inr ⟨_, h⟩, z1.symm, by rw [z2]; exact a⟩
  | adr p =>
    obtain ⟨_, ws, eh, hk, al⟩ := r.getD e
    exact ⟨_, _, rfl, .inl eh, hk, al⟩
  | _ => cases e
theorem key_of {H : Hp} {M : Mm} {v : V} {d : D} {k : Key} (h : Dt K M H v d) (e : keyOf d = some k) : v = kV k := by
  cases h with
  | int i => cases e; rfl
  | str x => cases e; rfl
  | _ => cases e

/-! ### d[k], k in d -/
def rDGet : R2 := fun x y H Q => ∃ a v, x = .ref a ∧ DGet H a y (some v) ∧ Q v H
theorem ix_dict (hu : X.A.units + 1 < cLine) : IxR X rDGet := by
  intro value slice pins s σ H x y v u Q I rx ry h hs
  obtain ⟨a, z, rfl, g, q⟩ := h
  obtain rfl : v = Value.ref a := rx
  have hT := dict_typeIs I g
  unfold PyProof.Rows.subscriptTail
  refine wpAny_bind ?_
  rw [getitemInPython_of_ne hT.not_modules]
  refine wpAny_bind (wpAny_specialOf hT PySem.F.slot_dict_getitem.lookup ?_)
  have fin : wpAny (model X.prog X.w) X.A (subscripted slice false (.ref a) u) (fun r s₃ => wpAny (model X.prog X.w) X.A (PySem.letTemporaryGo value (.ref a) r >>= fun _ => pure r) (EP X pins σ Q) X.xe s₃) X.xe s := by
    rw [hs]
    exact wpAny_operating (d_getItem hu I g ry fun w' s' I' rw' => wpAny_bind (wpAny_letTemporaryGo (wpAny_pure ⟨z, H, I', rw', q⟩)))
  first
    | exact wpAny_pure (wpAny_bind fin)
    | exact wpAny_bind (wpAny_pure (wpAny_bind fin))
    | exact wpAny_bind fin
def fIxK : F2 := fun o i S Q => opt (kvsOf S o) fun kvs => opt (keyOf i) fun k => opt (valD kvs k) fun d => Q d S
theorem od_ixK : OpD K dx rDGet fIxK := by
  intro x y p q H S Q Qh r hx hy t k
  obtain ⟨kvs, e1, t⟩ := opt_run t
  obtain ⟨ky, e2, t⟩ := opt_run t
  obtain ⟨d, e3, t⟩ := opt_run t
  obtain ⟨a, ws, rfl, rd, al⟩ := kvs_of r hx e1
  obtain rfl := key_of hy e2
  rcases al.val ky with ⟨z, _⟩ | ⟨v, d', z1, z2, hd⟩
  · rw [e3] at z; cases z
  · rw [e3] at z1
    cases z1
    exact ⟨a, v, rfl, .inl ⟨ws, ky, rd, rfl, z2.symm⟩, k _ H _ S r Ext.refl hd t⟩
theorem de_ixK {a b : Expr} {ta tb : TE} {fa fb : DTE} {pos : Pos} (hu : X.A.units + 64 < cLine) (ha : DE X dx a ta fa) (hb : DE X dx b tb fb) (hs : PlainIx b := by exact fun _ _ => rfl) : DE X dx (.Subscript a b pos) (tOp rDGet ta tb) (dOp fIxK fa fb) :=
  ⟨pe_ix (ix_dict (by omega)) ha.pe hb.pe hs, op_go od_ixK ha hb⟩
def rDIn (neg : Bool) : R2 := fun y x H Q => ∃ a o, x = .ref a ∧ DGet H a y o ∧ Q (.bl (if neg then !o.isSome else o.isSome)) H
theorem op_din (hu : X.A.units + 64 < cLine) : OpR X (compareOp .In) (rDIn false) := by
  intro pins s σ H y x v u Q I ry rx h
  obtain ⟨a, o, rfl, g, q⟩ := h
  obtain rfl : u = Value.ref a := rx
  exact d_in (by omega) I g ry fun s3 I3 => ⟨.bl o.isSome, H, I3, rfl, q⟩
theorem op_dnotin (hu : X.A.units + 64 < cLine) : OpR X (compareOp .NotIn) (rDIn true) := by
  intro pins s σ H y x v u Q I ry rx h
  obtain ⟨a, o, rfl, g, q⟩ := h
  obtain rfl : u = Value.ref a := rx
  exact d_notIn (by omega) I g ry fun s3 I3 => ⟨.bl (!o.isSome), H, I3, rfl, q⟩
def hasD (kvs : List (Key × D)) (k : Key) : Bool := (valD kvs k).isSome
def fInK (neg : Bool) : F2 := fun i o S Q => opt (kvsOf S o) fun kvs => opt (keyOf i) fun k => Q (.bl (if neg then !hasD kvs k else hasD kvs k)) S
theorem od_inK (neg : Bool) : OpD K dx (rDIn neg) (fInK neg) := by
  intro y x q p H S Q Qh r hy hx t k
  obtain ⟨kvs, e1, t⟩ := opt_run t
  obtain ⟨ky, e2, t⟩ := opt_run t
  obtain ⟨a, ws, rfl, rd, al⟩ := kvs_of r hx e1
  obtain rfl := key_of hy e2
  refine ⟨a, valV ws ky, rfl, .inl ⟨ws, ky, rd, rfl, rfl⟩, ?_⟩
  have e : (valV ws ky).isSome = hasD kvs ky := by
    unfold hasD
    rcases al.val ky with ⟨z1, z2⟩ | ⟨v, d', z1, z2, hd⟩
    · rw [z1, z2]; rfl
    · rw [z1, z2]; rfl
  rw [e]
  exact k _ H _ S r Ext.refl (.bl _) t
end

/-! ### locking -/
section
variable {X : Cx} {dx : Dx} {e : Expr} {st : Stmt} {sts : List Stmt} {te : TE} {ts : TS} {fa : DTE} {t : DTS}
/-- what is handed on is locked -/
def tLkV (te : TE) : TE := fun σ H Q => te σ H fun v H1 => ∃ d u, v = .ref d ∧ H1 d = some u ∧ Mut (some u) ∧ ∀ od, Q v (upd H1 d (.frz od u))
theorem pe_lkV (h : PE X e te) : PE X e (tLkV te) := by
  refine ⟨fun pins s σ H Q I w => thn (h.run pins s σ H _ I w) fun u s1 ⟨v, H1, I1, r, d, o, _, hd, mu, q⟩ => ?_⟩
  obtain ⟨od, I2⟩ := I1.lock hd mu
  exact ⟨v, _, I2, r, q od⟩
/-- behind the statement something is locked -/
def tLkA (ts : TS) : TS := fun D σ H => ts { D with nx := fun σ' H' => ∃ d u, H' d = some u ∧ Mut (some u) ∧ ∀ od, D.nx σ' (upd H' d (.frz od u)) } σ H
theorem ps_lkA (h : PS X st ts) : PS X st (tLkA ts) := by
  refine ⟨fun pins s σ H D I w => thn (h.run pins s σ H _ I w) fun f s1 q => ?_⟩
  cases f with
  | next =>
    obtain ⟨σ', H', I2, d, o, hd, mu, q⟩ := q
    obtain ⟨od, I3⟩ := I2.lock hd mu
    exact ⟨σ', _, I3, q od⟩
  | brk => exact q
  | cont => exact q
  | ret v => exact q
/-- .. ahead of the statements, or nothing is -/
def tLkB (ts : TS) : TS := fun D σ H => ts D σ H ∨ ∃ d u, H d = some u ∧ Mut (some u) ∧ ∀ od, ts D σ (upd H d (.frz od u))
theorem pss_lkB (h : PSs X sts ts) : PSs X sts (tLkB ts) := by
  refine ⟨fun pins s σ H D I w => ?_⟩
  rcases w with w | ⟨d, u, hd, mu, w⟩
  · exact h.run pins s σ H D I w
  · obtain ⟨od, I2⟩ := I.lock hd mu
    exact h.run pins s σ _ D I2 (w od)
/-- a dict of one's own is not changed any more -/
def dFrzE (fa : DTE) : DTE := fun δ S Q => fa δ S fun d S1 => match d with
  | .adr p => opt (getK S1 p) fun kvs => Q (dicOf kvs) (delS S1 p)
  | _ => False
theorem de_frzK (h : DE X dx e te fa) : DE X dx e (tLkV te) (dFrzE fa) := by
  refine ⟨pe_lkV h.pe, fun σ H δ S Q Qh r s t k => ?_⟩
  refine h.go σ H δ S _ _ r s t fun v H1 d S1 r1 x1 d1 t1 => ?_
  cases d with
  | adr p =>
    obtain ⟨kvs, g, t1⟩ := opt_run t1
    cases d1
    obtain ⟨ws, e0, _, _⟩ := r1.frozenD g ⟨.none, .none, .plain, #[]⟩
    refine ⟨p, .dK ws, rfl, e0, trivial, fun od => ?_⟩
    obtain ⟨ws', e1, r2, x2, d2⟩ := r1.frozenD g od
    rw [e0] at e1
    cases e1
    exact k _ _ _ _ r2 (x1.trans x2) d2 t1
  | _ => exact t1.elim
/-- the dict in slot i is not changed any more -/
def dFrzK (i : Nat) (t : DTS) : DTS := fun DD δ S => match gt δ i with
  | some (.adr p) => opt (getK S p) fun kvs => t DD (put δ i (dicOf kvs)) (delS S p)
  | _ => t DD δ S
theorem dss_frzK (i : Nat) (h : DSs X dx sts ts t) : DSs X dx sts (tLkB ts) (dFrzK i t) := by
  refine ⟨pss_lkB h.pe, fun σ H δ S DD E r s q k => ?_⟩
  unfold dFrzK at q
  split at q
  · rename_i p g
    obtain ⟨kvs, eg, q⟩ := opt_run q
    obtain ⟨v, e1, d1⟩ := s.ix i _ (gt_ix g)
    cases d1
    rw [put_set] at q
    obtain ⟨ws, e0, _, _⟩ := r.frozenD eg ⟨.none, .none, .plain, #[]⟩
    refine .inr ⟨p, .dK ws, e0, trivial, fun od => ?_⟩
    obtain ⟨ws', e2, r2, x2, d2⟩ := r.frozenD eg od
    rw [e0] at e2
    cases e2
    have s2 := (s.ext x2).set i d2
    have e3 : σ.set i (some (.ref p)) = σ := by
      apply List.ext_getElem?
      intro j
      by_cases hj : i = j
      · subst hj
        rw [List.getElem?_set_self (List.getElem?_eq_some_iff.mp e1).1, e1]
      · rw [List.getElem?_set_ne hj]
    rw [e3] at s2
    exact h.go σ _ _ _ DD E r2 s2 q (k.on x2)
  · exact .inl (h.go σ H δ S DD E r s q k)
end
end DL
/-! Dict comprehensions of one clause; keys put, taken away; displays. -/
namespace L2
open PySem PySem.Spec PyProof.Rows
section
variable {X : Cx}
theorem ps_setDc {i : Nat} {y : Str} {py : Pos} {kx vx tg iter : Expr} {ifs : List Expr} {scope : Scope} {own : List (Str × Nat)} {pos spos : Pos} {wi : TI} {g : TG} {tt : TT} {tk tv : TE} (hc : X.calm = true) (hN : X.N.Nodup) (hy : X.N[i]? = some y) (hyl : X.env.scope.names.lookup y = some .local)
    (hsw : swapsWith (.DictComp kx vx [⟨tg, iter, ifs, 0⟩] scope pos) (some (.Name y py)) spos.line X.env = pure true) (hi : PI X tg iter wi) (ok : BlkOk X.N X.env.scope scope own)
    (hg : ∀ (s : Shared) (H : Hp) (C : Addr) (cl : List (Str × Addr)) (fp : List Addr), PG (X.blk s H scope (compEnvC scope cl C X.env) fp) tg g) (ht : ∀ (s : Shared) (H : Hp) (C : Addr) (cl : List (Str × Addr)) (fp : List Addr), PTs (X.blk s H scope (compEnvC scope cl C X.env) fp) ifs tt)
    (hk : ∀ (s : Shared) (H : Hp) (C : Addr) (cl : List (Str × Addr)) (fp : List Addr), PE (X.blk s H scope (compEnvC scope cl C X.env) fp) kx tk)
    (he : ∀ (s : Shared) (H : Hp) (C : Addr) (cl : List (Str × Addr)) (fp : List Addr), PE (X.blk s H scope (compEnvC scope cl C X.env) fp) vx tv) (hs : ∀ x, foldedSetIterable iter X.env x = pure x := by intro _; rfl) :
    PS X (.Assign [.Name y py] (.DictComp kx vx [⟨tg, iter, ifs, 0⟩] scope pos) spos) (tAsg (tDc wi g tt tk tv (own.map (·.2))) (gName i)) := by
  refine ⟨fun pins s σ H D I h => ?_⟩
  rw [exec_Assign_Name_used _ _ _ _ hsw]
  refine wpAny_bind (wpAny_standAt (wpAny_bind ?_))
  show wpAny _ X.A (do let _ ← comprehension (.DictComp kx vx [⟨tg, iter, ifs, 0⟩] scope pos) scope X.env (firstIterPos [⟨tg, iter, ifs, 0⟩] pos) newDict false (eval iter X.env) (some (assign (.Name y py) X.env))) _ _ s
  have h : tDc wi g tt tk tv (own.map (·.2)) σ H (fun x H1 => gName i x σ H1 D.nx) := h
  refine wpAny_bind (thn (dc_core (Qf := fun _ s' => SP X pins D .next s') hc hN I hi ok hg ht hk he hs h fun L C s' m H' I' q hn f => ?_) fun _ s' hq => wpAny_pure (wpAny_pure hq))
  show wpAny _ _ (assign (.Name y py) X.env (.ref L)) _ _ _
  refine wpAny_assign_Name (store_ok2 (v := V.ref L) I' hN hy (.inl hyl) rfl (fun s2 I2 ⟨a, sb, ha⟩ => ?_) (.inr hyl))
  obtain ⟨f0, f1, f2, f3, f4, f5⟩ := f
  have haC : C ≠ a := by
    rcases ha with z | z
    · rw [z]; exact f1
    · exact fun e => f4 y a z e.symm
  refine ⟨m, hn.sameBut sb haC, fun h3 sb3 => ?_⟩
  exact ⟨_, H', I2.turned (t' := s2.toks) (fun b o hb e => (sb3.2 b hb).trans e) f0 f1 f3 f4 f5, q⟩
end
end L2
namespace DL
open PySem PySem.Spec L2 Gd
section
variable {X : Cx} {dx : Dx} {pos : Pos} {tg kx vx iter : Expr} {ifs : List Expr} {tk tv : TE} {fk fv : DTE} {wi : TI} {fi : DTA} {g : TG} {f : DTG} {tt : TT} {ft : DTT} {o : List Nat} {scope : Scope} {own : List (Str × Nat)}
def dcGo (g : DTG) (tt : DTT) (tk tv : DTE) (own : List Nat) (δ : Sl) (Q : D → Sto → Prop) : List D → List (Key × D) → Sto → Prop
  | [], acc, S => Q (dicOf acc) S
  | x :: xs, acc, S => g x (wipeD δ own) fun δ1 => tt δ1 S fun b S1 =>
      if b = true then tk δ1 S1 fun kd S2 => tv δ1 S2 fun d S3 => opt (keyOf kd) fun k => Fit (acc.length + 1) ∧ dcGo g tt tk tv own δ Q xs (putD acc k d) S3 else dcGo g tt tk tv own δ Q xs acc S1
def dDc (ti : DTA) (g : DTG) (tt : DTT) (tk tv : DTE) (own : List Nat) : DTE := fun δ S Q => ti δ S fun xs S1 => dcGo g tt tk tv own δ Q xs [] S1
theorem dc_goX (hi : DI X dx tg iter wi fi) (sub : ∀ j ∈ o, j ∈ own.map (·.2))
    (hg : ∀ (m : Addr → Prop) (s : Shared) (H : Hp) (C : Addr) (cl : List (Str × Addr)) (fp : List Addr), DG (Blk X scope s H C cl fp) { dx with M0 := m } tg g f o)
    (ht : ∀ (m : Addr → Prop) (s : Shared) (H : Hp) (C : Addr) (cl : List (Str × Addr)) (fp : List Addr), DTs (Blk X scope s H C cl fp) { dx with M0 := m } ifs tt ft)
    (hk : ∀ (m : Addr → Prop) (s : Shared) (H : Hp) (C : Addr) (cl : List (Str × Addr)) (fp : List Addr), DE (Blk X scope s H C cl fp) { dx with M0 := m } kx tk fk)
    (hv : ∀ (m : Addr → Prop) (s : Shared) (H : Hp) (C : Addr) (cl : List (Str × Addr)) (fp : List Addr), DE (Blk X scope s H C cl fp) { dx with M0 := m } vx tv fv) :
    ∀ σ H δ S (Q : D → Sto → Prop) (Qx : V → Hp → Prop), HR X.K dx H S → SR X.K dx σ H δ S → dDc fi f ft fk fv (own.map (·.2)) δ S Q →
      (∀ p H1 ws acc S', H1 p = some (.dK ws) → (∀ od, HR X.K dx (upd H1 p (.frz od (.dK ws))) S' ∧ Ext (Mu dx S) H (Mu dx S') (upd H1 p (.frz od (.dK ws))) ∧ Dt X.K (Mu dx S') (upd H1 p (.frz od (.dK ws))) (.ref p) (dicOf acc)) → Q (dicOf acc) S' → Qx (.ref p) H1) →
      tDc wi g tt tk tv (own.map (·.2)) σ H Qx := by
  intro σ H δ S Q Qx r s q k
  refine hi.go σ H δ S _ _ r s q fun J H0 xs S0 r0 x0 wk q0 => ?_
  intro p n
  obtain ⟨G, Y, wl, all⟩ := wk
  have h0 : dx.H0 p = none := r0.old n
  have hp : ¬ dx.hand p := fun h => r0.live p (r0.hm p h) n
  have s0 := (s.ext x0)
  have np : ∀ {S'' : Sto} {H'' : Hp}, HR X.K (dx.and p) H'' S'' → ¬ (Mu (dx.and p) S'').ch p := fun r'' z => by
    rcases z with z | z
    · exact hp z
    · exact (r''.own p z).2 (.inr rfl)
  let Pw : (List (Key × D) → Sto → Prop) → Hp → Prop := fun R H' => ∃ S' acc ws, HR X.K (dx.and p) H' S' ∧ Ext (Mu dx S0) H0 (Mu (dx.and p) S') H' ∧ H' p = some (.dK ws) ∧ KD X.K (Mu (dx.and p) S') H' ws acc ∧ R acc S'
  refine ⟨fun i m H' => m = xs.length - i ∧ i ≤ xs.length ∧ Pw (dcGo f ft fk fv (own.map (·.2)) δ Q (xs.drop i)) H', ⟨xs.length, by simp, Nat.zero_le _, S0, [], [], r0.andO n _, ext_and n, upd_same, KD.nil, q0⟩, ?_⟩
  rintro i m H1 ⟨rfl, hi', S', acc, ws, r', x', ep, al, q'⟩
  have gs := (all _ H1 r'.mu_live x'.d)
  by_cases hlt : i < xs.length
  · refine .inr ⟨wl.goes i H1 hlt gs.1, Pw (dcGo f ft fk fv (own.map (·.2)) δ Q (xs.drop (i + 1))), fun H' w' => ⟨xs.length - (i + 1), by omega, rfl, hlt, w'⟩, fun v H2 y => ?_⟩
    obtain ⟨sm, d, ed, dd⟩ := gs.2 i v H2 hlt (wl.yields i H1 v H2 hlt gs.1 y)
    have e1 : xs.drop i = d :: xs.drop (i + 1) := by
      rw [List.drop_eq_getElem_cons hlt]
      have := List.getElem?_eq_getElem hlt
      rw [this] at ed
      cases ed
      rfl
    rw [e1] at q'
    have xs2 : Ext (Mu (dx.and p) S') H1 (Mu (dx.and p) S') H2 := Ext.same sm
    have r2 := r'.same sm
    have sd : SR X.K (dx.and p) (L2.wipe σ (own.map (·.2))) H2 (wipeD δ (own.map (·.2))) S' :=
      ⟨(s0.wipe _).len, fun j c hc => let ⟨u, a, b⟩ := (s0.wipe (own.map (·.2))).ix j c hc; ⟨u, a, b.ext (x'.trans xs2)⟩⟩
    refine (hg (dx.and p).M0 X.s_0 X.H_0 0 [] []).go v d _ H2 _ S' _ _ r2 sd dd q' fun σ3 δ3 s3 l3 o3 q3 => ⟨wipe_wipe l3 sub o3, ?_⟩
    refine (ht (dx.and p).M0 X.s_0 X.H_0 0 [] []).go σ3 H2 δ3 S' _ _ r2 s3 q3 fun b H3 S3 r3 x3 q4 => ?_
    have ep3 : H3 p = some (.dK ws) := x3.keep p _ (np r2) (sm p _ ep)
    have xt3 := (x'.trans xs2).trans x3
    have al3 := al.ext (xs2.trans x3)
    cases b with
    | false =>
      rw [if_neg Bool.false_ne_true] at q4 ⊢
      exact ⟨S3, acc, ws, r3, xt3, ep3, al3, q4⟩
    | true =>
      rw [if_pos rfl] at q4 ⊢
      refine (hk (dx.and p).M0 X.s_0 X.H_0 0 [] []).go σ3 H3 δ3 S3 _ _ r3 (s3.ext x3) q4 fun y H4 kd S4 r4 x4 d4 q5 => ?_
      refine (hv (dx.and p).M0 X.s_0 X.H_0 0 [] []).go σ3 H4 δ3 S4 _ _ r4 (s3.ext (x3.trans x4)) q5 fun z H5 c S5 r5 x5 d5 q6 => ?_
      obtain ⟨ky, ek, q7⟩ := opt_run q6
      have ep5 : H5 p = some (.dK ws) := x5.keep p _ (np r4) (x4.keep p _ (np r3) ep3)
      have al5 := (al3.ext (x4.trans x5)).put ky d5
      refine ⟨ws, ky, key_of (d4.ext x5) ek, ep5, ?_, S5, putD acc ky c, _, r5.and_putO h0 hp _, ext_put ((xt3.trans x4).trans x5) n, upd_same, al5.extD extD_put, q7.2⟩
      have := q7.1.line
      rw [al3.length]
      omega
  · have e : i = xs.length := by omega
    subst e
    rw [List.drop_length] at q'
    refine .inl ⟨wl.stops H1 gs.1, k p H1 ws acc S' ep (fun od => ?_) q'⟩
    have r2 := (r'.and_putO h0 hp (.frz od (.dK ws))).unand hp
    have x2 : Ext (Mu dx S0) H0 (Mu dx S') (upd H1 p (.frz od (.dK ws))) := (ext_put x' n).trans ext_back
    refine ⟨r2, x0.trans x2, .dic ?_ upd_same al.1 ((al.2.extD extD_put).ext ext_back)⟩
    rintro (z | z | z)
    · exact r0.live p z n
    · exact hp z
    · exact (r'.own p z).2 (.inr rfl)
theorem dc_go (hi : DI X dx tg iter wi fi) (sub : ∀ j ∈ o, j ∈ own.map (·.2))
    (hg : ∀ (m : Addr → Prop) (s : Shared) (H : Hp) (C : Addr) (cl : List (Str × Addr)) (fp : List Addr), DG (Blk X scope s H C cl fp) { dx with M0 := m } tg g f o)
    (ht : ∀ (m : Addr → Prop) (s : Shared) (H : Hp) (C : Addr) (cl : List (Str × Addr)) (fp : List Addr), DTs (Blk X scope s H C cl fp) { dx with M0 := m } ifs tt ft)
    (hk : ∀ (m : Addr → Prop) (s : Shared) (H : Hp) (C : Addr) (cl : List (Str × Addr)) (fp : List Addr), DE (Blk X scope s H C cl fp) { dx with M0 := m } kx tk fk)
    (hv : ∀ (m : Addr → Prop) (s : Shared) (H : Hp) (C : Addr) (cl : List (Str × Addr)) (fp : List Addr), DE (Blk X scope s H C cl fp) { dx with M0 := m } vx tv fv) :
    ∀ σ H δ S Q Qh, HR X.K dx H S → SR X.K dx σ H δ S → dDc fi f ft fk fv (own.map (·.2)) δ S Q → ThE X.K dx H S Q Qh → tLkV (tDc wi g tt tk tv (own.map (·.2))) σ H Qh := by
  intro σ H δ S Q Qh r s q k
  refine dc_goX hi sub hg ht hk hv σ H δ S Q _ r s q fun p H1 ws acc S' ep h q' => ⟨p, .dK ws, rfl, ep, trivial, fun od => ?_⟩
  obtain ⟨r2, x2, d2⟩ := h od
  exact k _ _ _ _ r2 x2 d2 q'
/-- {k: v for tg in iter if ..}, never changed -/
theorem de_dc (hc : X.calm = true) (hN : X.N.Nodup) (hi : DI X dx tg iter wi fi) (ok : BlkOk X.N X.env.scope scope own) (sub : ∀ j ∈ o, j ∈ own.map (·.2))
    (hg : ∀ (m : Addr → Prop) (s : Shared) (H : Hp) (C : Addr) (cl : List (Str × Addr)) (fp : List Addr), DG (Blk X scope s H C cl fp) { dx with M0 := m } tg g f o)
    (ht : ∀ (m : Addr → Prop) (s : Shared) (H : Hp) (C : Addr) (cl : List (Str × Addr)) (fp : List Addr), DTs (Blk X scope s H C cl fp) { dx with M0 := m } ifs tt ft)
    (hk : ∀ (m : Addr → Prop) (s : Shared) (H : Hp) (C : Addr) (cl : List (Str × Addr)) (fp : List Addr), DE (Blk X scope s H C cl fp) { dx with M0 := m } kx tk fk)
    (hv : ∀ (m : Addr → Prop) (s : Shared) (H : Hp) (C : Addr) (cl : List (Str × Addr)) (fp : List Addr), DE (Blk X scope s H C cl fp) { dx with M0 := m } vx tv fv)
    (hs : ∀ x, foldedSetIterable iter X.env x = pure x := by intro _; rfl) : DE X dx (.DictComp kx vx [⟨tg, iter, ifs, 0⟩] scope pos) (tLkV (tDc wi g tt tk tv (own.map (·.2)))) (dDc fi f ft fk fv (own.map (·.2))) :=
  ⟨pe_lkV (pe_dc hc hN hi.pe ok (fun s H C cl fp => (hg dx.M0 s H C cl fp).pe) (fun s H C cl fp => (ht dx.M0 s H C cl fp).pe) (fun s H C cl fp => (hk dx.M0 s H C cl fp).pe) (fun s H C cl fp => (hv dx.M0 s H C cl fp).pe) hs), dc_go hi sub hg ht hk hv⟩
/-- y = {k: v for ..}, never changed -/
theorem ds_setDc {i : Nat} {y : Str} {py spos : Pos} (hc : X.calm = true) (hN : X.N.Nodup) (hy : X.N[i]? = some y) (hyl : X.env.scope.names.lookup y = some .local)
    (hsw : swapsWith (.DictComp kx vx [⟨tg, iter, ifs, 0⟩] scope pos) (some (.Name y py)) spos.line X.env = pure true) (hi : DI X dx tg iter wi fi) (ok : BlkOk X.N X.env.scope scope own) (sub : ∀ j ∈ o, j ∈ own.map (·.2))
    (hg : ∀ (m : Addr → Prop) (s : Shared) (H : Hp) (C : Addr) (cl : List (Str × Addr)) (fp : List Addr), DG (Blk X scope s H C cl fp) { dx with M0 := m } tg g f o)
    (ht : ∀ (m : Addr → Prop) (s : Shared) (H : Hp) (C : Addr) (cl : List (Str × Addr)) (fp : List Addr), DTs (Blk X scope s H C cl fp) { dx with M0 := m } ifs tt ft)
    (hk : ∀ (m : Addr → Prop) (s : Shared) (H : Hp) (C : Addr) (cl : List (Str × Addr)) (fp : List Addr), DE (Blk X scope s H C cl fp) { dx with M0 := m } kx tk fk)
    (hv : ∀ (m : Addr → Prop) (s : Shared) (H : Hp) (C : Addr) (cl : List (Str × Addr)) (fp : List Addr), DE (Blk X scope s H C cl fp) { dx with M0 := m } vx tv fv)
    (hs : ∀ x, foldedSetIterable iter X.env x = pure x := by intro _; rfl) :
    DS X dx (.Assign [.Name y py] (.DictComp kx vx [⟨tg, iter, ifs, 0⟩] scope pos) spos) (tLkA (tAsg (tDc wi g tt tk tv (own.map (·.2))) (gName i))) (dSet i (dDc fi f ft fk fv (own.map (·.2)))) := by
  refine ⟨ps_lkA (ps_setDc hc hN hy hyl hsw hi.pe ok (fun s H C cl fp => (hg dx.M0 s H C cl fp).pe) (fun s H C cl fp => (ht dx.M0 s H C cl fp).pe) (fun s H C cl fp => (hk dx.M0 s H C cl fp).pe) (fun s H C cl fp => (hv dx.M0 s H C cl fp).pe) hs), fun σ H δ S DD E r s q k => ?_⟩
  show tDc wi g tt tk tv (own.map (·.2)) σ H fun x H1 => gName i x σ H1 fun σ' H' => ∃ d u, H' d = some u ∧ Mut (some u) ∧ ∀ od, E.nx σ' (upd H' d (.frz od u))
  refine dc_goX hi sub hg ht hk hv σ H δ S (fun d S1 => DD.nx (put δ i d) S1) _ r s q fun p H1 ws acc S' ep h q' => ?_
  refine ⟨p, .dK ws, ep, trivial, fun od => ?_⟩
  obtain ⟨r2, x2, d2⟩ := h od
  have q' : DD.nx (put δ i (dicOf acc)) S' := q'
  rw [put_set] at q'
  exact k.nx _ _ _ S' r2 x2 ((s.ext x2).set i d2) q'
end
end DL
/-! set(..) of a list or a tuple: whatever its loop does. -/
namespace DL
open PySem PySem.Spec PyProof.Rows L2
/-- a new empty set's object -/
abbrev eset (w : World) : Obj := { cls := .type "set", dict := none, data := .set #[] 0 (.fresh 0 0 (!w.params.followText "set-order")) }
abbrev gSame : Array GenState → Array GenState → Prop := fun a b => b = a
section
variable {P : Program} {w : World} {A : Around} {E : Value → Shared → Prop} {s : Shared}
/-- what the loop that fills the set at S from the walk at S + 1 must do; Fin: what is so behind it -/
def FillsSet (P : Program) (w : World) (A : Around) (s : Shared) (l : Addr) (items : Array Value) (Fin : Shared → Prop) : Prop :=
  ∀ (A' : Around) (St : Nat → Shared → Prop) (h2 : Heap) (R : Result → Shared → Prop), A'.units ≤ A.units + 3 → WalksS P w A'.in1 (s.heap.objs.size + 1) [s.heap.objs.size + 1, l] [s.heap.objs.size + 1] gSame items.size (fun i v => items[i]? = some v) St →
    St 0 { s with heap := h2 } → (∀ b o, s.heap.get? b = some o → h2.get? b = some o) → h2.get? s.heap.objs.size = some (eset w) →
    (∀ s', Moved [s.heap.objs.size, s.heap.objs.size + 1] gSame { s with heap := h2 } s' → Fin s' → R (.ok (.ret .none)) s') →
    codeAny (model P w) A' (.builtin "set.update.loop" ⟨[.ref s.heap.objs.size, .ref (s.heap.objs.size + 1)], []⟩) R { s with heap := h2 }
set_option maxHeartbeats 3200000 in
theorem call_set_seq {l : Addr} {items : Array Value} {Q : Value → Shared → Prop} {Fin : Shared → Prop} (hh : A.handled = none) (hl : s.heap.IsList l items ∨ s.heap.IsTuple l items) (fill : FillsSet P w A s l items Fin)
    (h : ∀ (h' : Heap) (tk : Nat), Fin { s with heap := h', toks := tk } → (∀ b o, s.heap.get? b = some o → h'.get? b = some o) → Q (.ref s.heap.objs.size) { s with heap := h', toks := tk }) :
    wpAny (model P w) A (call (.type "set") [.ref l]) Q E s := by
  have m1 := F.called_set.mro
  obtain ⟨mc, mt, m1⟩ := m1
  have m2 := F.called_set.made
  have m3 := F.called_set.sub
  have m4 := F.called_set.notType
  have m5 := F.called_set.canCreate
  have m6 := F.typeCall_set_1 (.ref l)
  have m7 := F.called_set.init.lookup
  have m8 := F.called_set.init.bind (.ref s.heap.objs.size)
  have at_S : (s.heap.push (eset w)).get? s.heap.objs.size = some (eset w) := Heap.get?_push_size _ rfl
  have two : (s.heap.push (eset w)).objs.size = s.heap.objs.size + 1 := Heap.size_push ..
  have old : ∀ b o, s.heap.get? b = some o → (s.heap.push (eset w)).get? b = some o := fun b o e => Heap.get?_push_of_some _ e
  apply wpAny_call; apply codeAny_of_tree
  change wpAny _ _ (callAny (.type "set") _) _ _ _
  apply wpAny_pure
  refine And.intro (Code.quiet_builtin _ (by decide +kernel)) (codeAny_builtin F.entry_type_call ?_)
  rw [Around.under_plain (weight_type_call_type "set" [.ref l] []) rfl]
  repeat (any_goals (first | assumption | wp_step))
  refine codeAny_mono (code_set_led1 (.ref l) (E := E) (Q₁ := fun ob t => ob = Value.ref s.heap.objs.size ∧ t = { s with heap := s.heap.push (eset w) }) ⟨rfl, rfl⟩) fun r t hr => ?_
  rcases r with e | fl
  · exact hr
  rcases fl with _ | _ | _ | v
  rotate_left 3
  · obtain ⟨rfl, rfl⟩ := hr
    have isS : Shared.TypeIs { s with heap := s.heap.push (eset w) } (.ref s.heap.objs.size) "set" := ⟨_, at_S, rfl⟩
    repeat (any_goals (first | assumption | wp_step))
    refine codeAny_mono (codeAny_call_builtin (R := wants (fun v t => v = Value.none ∧ ∃ h' tk, t = { s with heap := h', toks := tk } ∧ Fin t ∧ ∀ b o, s.heap.get? b = some o → h'.get? b = some o) E) F.called_set.init.plain F.entry_set_init (check_set_init_1 isS ?_)) fun r t hr => ?_
    · have low : ∀ {o : Obj}, s.heap.get? l = some o → l ≠ s.heap.objs.size + 1 := fun e => Nat.ne_of_lt (Nat.lt_succ_of_lt (Heap.lt_size e))
      have quiet : ∀ A' : Around, A'.handled = A.handled → A'.handled = none := fun A' e => e.trans hh
      have ending : ∀ (A' : Around) (St : Nat → Shared → Prop) (it : Obj) (R : Result → Shared → Prop), A'.units ≤ A.units + 3 → WalksS P w A'.in1 (s.heap.objs.size + 1) [s.heap.objs.size + 1, l] [s.heap.objs.size + 1] gSame items.size (fun i v => items[i]? = some v) St →
          St 0 { s with heap := (s.heap.push (eset w)).push it } → (∀ h' tk, Fin { s with heap := h', toks := tk } → (∀ b o, s.heap.get? b = some o → h'.get? b = some o) → R (.ok (.ret .none)) { s with heap := h', toks := tk }) →
          codeAny (model P w) A' (.builtin "set.update.loop" ⟨[.ref s.heap.objs.size, .ref (s.heap.objs.size + 1)], []⟩) R { s with heap := (s.heap.push (eset w)).push it } := by
        intro A' St it R hu W st hR
        refine fill A' St _ R hu W st (fun b o e => Heap.get?_push_of_some _ (old b o e)) (Heap.get?_push_of_some _ at_S) fun t mv fin => ?_
        obtain ⟨h', g', d', tk', os'⟩ := t
        cases (show g' = s.gens from mv.gens)
        cases (show d' = s.drawn from mv.drawn)
        cases (show os' = s.os from mv.os)
        refine hR h' tk' fin fun b o e => ?_
        have lt := Heap.lt_size e
        exact mv.heap b o (by simp only [List.mem_cons, List.not_mem_nil, or_false, not_or]; exact ⟨Nat.ne_of_lt lt, Nat.ne_of_lt (Nat.lt_succ_of_lt lt)⟩) (Heap.get?_push_of_some _ (old b o e))
      rcases hl with hl | hl
      all_goals
        obtain ⟨⟨oc, od, odt, osl⟩, at_l, isT, ep, its⟩ := hl
        cases isT; cases its
        have lw := low at_l
        have at_l2 := old _ _ at_l
        have s1 := F.sub_list_set
        have s2 := F.sub_list_frozenset
        have s3 := F.sub_tuple_set
        have s4 := F.sub_tuple_frozenset
        have n1 : (Value.type "list" == Value.type "dict") = false := by decide
        have n2 : (Value.type "tuple" == Value.type "dict") = false := by decide
        unfold Builtin.«set.__init__» noKeywords Builtin.Frozenset.updateFrom
        generalize hPI : pyIter = PI
        wp_walk
        subst hPI
        first
          | refine wpAny_pyIter_list (items := items) ⟨_, at_l2, rfl, ep, rfl⟩ ?_
          | refine wpAny_pyIter_tuple (items := items) ⟨_, at_l2, rfl, ep, rfl⟩ ?_
        apply wpAny_bind; apply wpAny_runValue
        rw [two]
      · refine ending _ _ _ _ (by simp [Around.units]) (Walks.list (by simp [hh]) _ l lw items).toS ⟨⟨_, by rw [← two]; exact Heap.get?_push_size _ rfl, rfl, rfl⟩, (show (s.heap.push (eset w)).IsList l items from ⟨_, at_l2, rfl, ep, rfl⟩).push _⟩ fun h' tk fin kp => ?_
        exact wpAny_pure (wpAny_pure ⟨rfl, h', tk, rfl, fin, kp⟩)
      · refine ending _ _ _ _ (by simp [Around.units]) (Walks.tuple (by simp [hh]) _ l lw items).toS ⟨⟨_, by rw [← two]; exact Heap.get?_push_size _ rfl, rfl, rfl⟩, (show (s.heap.push (eset w)).IsTuple l items from ⟨_, at_l2, rfl, ep, rfl⟩).push _⟩ fun h' tk fin kp => ?_
        exact wpAny_pure (wpAny_pure ⟨rfl, h', tk, rfl, fin, kp⟩)
    · rcases r with e | fl
      · exact hr
      rcases fl with _ | _ | _ | v
      rotate_left 3
      · obtain ⟨rfl, h', tk, rfl, fin, kp⟩ := hr
        repeat (any_goals (first | assumption | wp_step))
        exact h h' tk fin kp
      all_goals exact hr.elim
  all_goals exact hr.elim
end
end DL
/-! sorted(set(..)). -/
namespace DL
open PySem PySem.Spec PyProof.Rows L2
open PySem.W (EachIs)
section
variable {P : Program} {w : World} {A : Around} {E : Value → Shared → Prop} {s : Shared}
theorem not_two {S l : Addr} (lt : l < S) : S ∉ [S + 1, l] := by
  simp only [List.mem_cons, List.not_mem_nil, or_false, not_or]
  exact ⟨Nat.ne_of_lt (Nat.lt_succ_self _), Nat.ne_of_gt lt⟩
theorem none_above {h : Heap} {b : Addr} (le : h.objs.size ≤ b) : h.get? b = none := Heap.get?_none_of_le le
theorem fills_ints {l : Addr} {items : Array Value} {ns : List Int} (lt : l < s.heap.objs.size) (its : IntsAre items.toList ns) (few : ns.length + 1 < scanBound) :
    FillsSet P w A s l items fun t => ∃ c, SetR w t.heap s.heap.objs.size (fun j => decide (j ∈ ns)) c ∧ c ≤ ns.length := by
  intro A' St h2 R _ W st kp at_S hR
  have many : items.size = ns.length := by rw [← Array.length_toList]; exact IntsAre.length its
  refine set_update_ints W s.heap.objs.size (not_two lt) ns many few (fun i v e => ?_) (items.size - 0) 0 _ rfl (Nat.zero_le _) st ⟨0, Nat.le_refl _, setR_new_at at_S⟩ fun s' c mv hc hS => hR s' mv ⟨c, hS, many ▸ hc⟩
  have hi : i < ns.length := by rw [← many]; exact (Array.getElem?_eq_some_iff.mp e).1
  obtain ⟨t, e2⟩ := IntsAre.int_at its i v (by rw [Array.getElem?_toList]; exact e)
  rw [List.getD_eq_getElem?_getD, List.getElem?_eq_getElem hi] at e2
  exact ⟨ns[i], t, List.getElem?_eq_getElem hi, e2⟩
theorem fills_tups {l : Addr} {items : Array Value} (ks : List (Addr × List Int)) (lt : l < s.heap.objs.size) (its : items.toList = ks.map fun p => Value.ref p.1) (tups : ∀ p ∈ ks, IsT P w s.heap p.2 p.1) (few : ks.length < 64) (hu : A.units + 4 < cLine) :
    FillsSet P w A s l items fun t => ∃ L es ep tb, SetTR P w t.heap s.heap.objs.size L es ep tb ∧ Got ks ks.length L := by
  intro A' St h2 R le W st kp at_S hR
  have many : items.size = ks.length := by
    have := congrArg List.length its
    rwa [Array.length_toList, List.length_map] at this
  have hv : ∀ i v, items[i]? = some v → ∃ p : Addr × List Int, ks[i]? = some p ∧ v = Value.ref p.1 := fun i v e => by
    rw [← Array.getElem?_toList, its, List.getElem?_map] at e
    obtain ⟨p, e1, e2⟩ := Option.map_eq_some_iff.mp e
    exact ⟨p, e1, e2.symm⟩
  refine set_update_tups W s.heap.objs.size (not_two lt) ks many few hv s.heap tups (none_above (Nat.le_refl _)) (fun b hb => none_above (by rw [List.mem_singleton.mp hb]; exact Nat.le_succ _))
    (by have : A'.in1.units = A'.units + 1 := rfl; omega) (items.size - 0) 0 _ rfl (Nat.zero_le _) st kp ⟨[], #[], 0, _, setTR_fresh at_S, Got.zero ks⟩ fun s' L es ep tb mv hS g _ => hR s' mv ⟨L, es, ep, tb, hS, many ▸ g⟩

/-! ### sorted of a set of tuples of ints of any lengths -/
theorem perm_map_inv {α β : Type} {f : α → β} : ∀ {L : List α} {vs : List β}, vs.Perm (L.map f) → ∃ L1 : List α, L1.Perm L ∧ vs = L1.map f := by
  intro L vs h
  generalize e : L.map f = ws at h
  induction h generalizing L with
  | nil => exact ⟨[], by rw [List.map_eq_nil_iff.mp e], rfl⟩
  | cons x _ ih =>
    cases L with
    | nil => cases e
    | cons a L =>
      rw [List.map_cons] at e
      obtain ⟨e1, e2⟩ := List.cons.inj e
      obtain ⟨L1, p1, rfl⟩ := ih e2
      exact ⟨a :: L1, p1.cons a, by rw [List.map_cons, e1]⟩
  | swap x y l =>
    match L, e with
    | a :: b :: L, e =>
      rw [List.map_cons, List.map_cons] at e
      obtain ⟨e1, e2⟩ := List.cons.inj e
      obtain ⟨e2, e3⟩ := List.cons.inj e2
      exact ⟨b :: a :: L, List.Perm.swap a b L, by rw [List.map_cons, List.map_cons, e1, e2, e3]⟩
  | trans _ _ ih1 ih2 =>
    obtain ⟨L2, p2, e2⟩ := ih2 e
    obtain ⟨L1, p1, e1⟩ := ih1 e2.symm
    exact ⟨L1, p1.trans p2, e1⟩
theorem each_map_of {α β : Type} {R : β → α → Prop} {f : α → β} : ∀ {bs : List α}, (∀ b ∈ bs, R (f b) b) → EachIs R (bs.map f) bs
  | [], _ => .nil
  | b :: bs, h => .cons (h b List.mem_cons_self) (each_map_of fun c m => h c (List.mem_cons_of_mem _ m))
theorem map_of_each {α β : Type} {f : α → β} : ∀ {vs : List β} {bs : List α}, EachIs (fun v b => v = f b) vs bs → vs = bs.map f
  | _, _, .nil => rfl
  | _, _, .cons h t => by rw [List.map_cons, h, map_of_each t]
theorem list_tri : ∀ (a b : List Int), a < b ∨ a = b ∨ b < a
  | [], [] => .inr (.inl rfl)
  | [], _ :: _ => .inl (List.nil_lt_cons _ _)
  | _ :: _, [] => .inr (.inr (List.nil_lt_cons _ _))
  | x :: a, y :: b => by
    rcases Int.lt_trichotomy x y with h | h | h
    · exact .inl (List.cons_lt_cons_iff.mpr (.inl h))
    · subst h
      rcases list_tri a b with h | h | h
      · exact .inl (List.cons_lt_cons_iff.mpr (.inr ⟨rfl, h⟩))
      · exact .inr (.inl (by rw [h]))
      · exact .inr (.inr (List.cons_lt_cons_iff.mpr (.inr ⟨rfl, h⟩)))
    · exact .inr (.inr (List.cons_lt_cons_iff.mpr (.inl h)))
theorem reads_tup {h : Heap} {ns : List Int} {b : Addr} (x : IsT P w h ns b) : ∃ as, Reads h (.ref b) (.tuple (ns.map .int)) as := by
  obtain ⟨o, its, n, e1, e2, e3, e4⟩ := x
  have all : ∀ {us : List Value} {ks : List Int}, ItemsAre (intKind P w) ks us → ∃ as, ReadsAll h us (ks.map .int) as := by
    intro us ks i
    induction i with
    | nil => exact ⟨_, .nil⟩
    | cons h1 _ ih =>
      obtain ⟨t, rfl⟩ := Value.isInt_shape h1
      obtain ⟨as, r⟩ := ih
      exact ⟨_, .cons (.int _ t) r⟩
  obtain ⟨as, r⟩ := all e4
  exact ⟨_, .tuple e1 e2 e3 r⟩
def encT (p : Addr × List Int) : PyData := .tuple (p.2.map .int)
theorem alike_encT (p q : Addr × List Int) : PySem.W.alike (encT p) (encT q) = true := by
  unfold encT
  rw [PySem.W.alike]
  exact PySem.W.alike_ints _ _
theorem depth_encT (p : Addr × List Int) : (encT p).depth = 1 := by
  unfold encT
  rw [PyData.depth, PySem.W.depth_ints]
theorem dataLe_encT (p q : Addr × List Int) : PySem.W.dataLe false encT p q = !decide (q.2 < p.2) := by
  show (!PySem.W.dataLt (encT q) (encT p)) = _
  unfold encT
  rw [PySem.W.dataLt_tuple]
  exact congrArg _ (PySem.W.dataLt_ints _ _)
set_option maxHeartbeats 2000000 in
theorem sorted_setTT {a : Addr} {L : List (Addr × List Int)} {es : Array (Int × Value)} {ep : Nat} {t : SetTable} {Q : Value → Shared → Prop} (R : SetTR P w s.heap a L es ep t) (hh : A.handled = none) (hu : A.units + 8 < cLine)
    (hQ : ∀ s' p (out : List Value) (c : Nat) (L' : List (Addr × List Int)), (∀ b o, s.heap.get? b = some o → s'.heap.get? b = some o) → s'.gens = s.gens → s'.os = s.os → s.heap.objs.size ≤ p →
      s'.heap.get? p = some (seqObj "list" out.toArray c) → out = L'.map (fun q => Value.ref q.1) → L'.Perm L → L'.Pairwise (fun q r => q.2 < r.2) → Q (.ref p) s') :
    wpAny (model P w) A (call (.builtin "sorted") [.ref a]) Q E s := by
  obtain ⟨o, ho, hex, hd⟩ := R.ob
  have few := R.few
  have size := R.size
  apply Calls.call_function_entry kind_sorted plain_sorted entry_sorted (args_sorted1 _)
  delta Builtin.«sorted»
  apply wpAny_bind (m := checkCount "sorted" 1 1 _); apply wpAny_pure
  apply wpAny_bind
  refine collect_set (A := A.in1) hh ⟨o, ho, hex.1, hd⟩ R.fits (by unfold scanBound; omega) R.tab.ris R.led fun s1 vs k1 z1 g1 o1 pm => ?_
  have rows : es.toList.map (·.2) = L.map fun q => Value.ref q.1 := by
    rw [R.rows]
    unfold rowsOf
    rw [List.map_map]
    rfl
  rw [rows] at pm
  obtain ⟨L1, pL, rfl⟩ := perm_map_inv pm
  have len : (L1.map fun q : Addr × List Int => Value.ref q.1).length ≤ sizeLine := by rw [List.length_map, pL.length_eq, sizeLine_eq]; omega
  apply wpAny_bind; refine wpAny_newList ?_ len
  apply wpAny_bind; apply wpAny_holding
  have atL : (s1.heap.push (seqObj "list" (L1.map fun q => Value.ref q.1).toArray 0)).get? s1.heap.objs.size = some (seqObj "list" (L1.map fun q => Value.ref q.1).toArray 0) := Heap.get?_push_size _ rfl
  have oldL : ∀ b u, s.heap.get? b = some u → (s1.heap.push (seqObj "list" (L1.map fun q => Value.ref q.1).toArray 0)).get? b = some u := fun b u e => Heap.get?_push_of_some _ (k1 b u e)
  have ne : ∀ b u, s.heap.get? b = some u → b ≠ s1.heap.objs.size := fun b u e => Nat.ne_of_lt (Nat.lt_of_lt_of_le (Heap.lt_size e) z1)
  have er : EachIs (fun v b => ∃ as, Reads (PySem.W.sortingHeap (s1.heap.push (seqObj "list" (L1.map fun q => Value.ref q.1).toArray 0)) s1.heap.objs.size (L1.map fun q => Value.ref q.1)) v (encT b) as) (L1.map fun q => Value.ref q.1) L1 := by
    refine each_map_of fun b hb => ?_
    exact reads_tup (isT_keep (R.tup b (pL.mem_iff.mp hb)) fun c u e => PySem.W.sortingHeap_old (ne c u e) (oldL c u e))
  have e0 : EachIs (fun v (b : Addr × List Int) => v = Value.ref b.1) (L1.map fun q => Value.ref q.1) L1 := each_map_of fun b _ => rfl
  have hal : PySem.W.AllAlike (L1.map encT) := PySem.W.AllAlike.of alike_encT
  have S := sortsAt_tups (prog := P) (w := w) (A := A.in1.in1) (s := { s1 with heap := PySem.W.sortingHeap (s1.heap.push (seqObj "list" (L1.map fun q => Value.ref q.1).toArray 0)) s1.heap.objs.size (L1.map fun q => Value.ref q.1) }) (PySem.W.each_map (R := fun v d => ∃ as, Reads (PySem.W.sortingHeap (s1.heap.push (seqObj "list" (L1.map fun q => Value.ref q.1).toArray 0)) s1.heap.objs.size (L1.map fun q => Value.ref q.1)) v d as) encT er) hal
    (fun d hd => by obtain ⟨b, _, rfl⟩ := List.mem_map.mp hd; exact ⟨_, rfl⟩) (fun d hd => by
      obtain ⟨b, _, rfl⟩ := List.mem_map.mp hd
      rw [depth_encT]
      have : A.in1.in1.units = A.units + 2 := rfl
      omega)
  refine wpAny_call_entry slot_list_sort ⟨_, atL, rfl⟩ entry_list_sort (PySem.W.list_sort_vals (s := { s1 with heap := s1.heap.push (seqObj "list" (L1.map fun q => Value.ref q.1).toArray 0) }) atL S len ⟨.none, rfl, ?_⟩) (args_list_sort _)
  have eo := PySem.W.sortVals_data false e0 er hal
  have eo := map_of_each eo
  generalize PySem.W.sortVals _ false _ _ = out at eo ⊢
  obtain ⟨c, hc⟩ := sortedHeap_at (vs := L1.map fun q => Value.ref q.1) (out := out.toArray) atL
  apply wpAny_pure
  refine ⟨_, rfl, hQ _ s1.heap.objs.size out c (L1.mergeSort (PySem.W.dataLe false encT)) (fun b u e => ?_) g1 o1 z1 hc eo ((List.mergeSort_perm _ _).trans pL) ?_⟩
  · have lt := Heap.lt_size (k1 b u e)
    show (sortedHeap _ s1.heap.objs.size _ _).get? b = some u
    rw [sortedHeap_old (Nat.ne_of_lt lt) (by rw [PyProof.Rows.size_push']; exact Nat.lt_succ_of_lt lt)]
    exact oldL b u e
  · have sp := PySem.W.sort_pairwise (PySem.W.sortLe_total (PyProof.Rows.listOrd PyProof.Rows.itemOrd) false fun b => PySem.W.keyToks (encT b)) L1
    have nd : ((L1.mergeSort (PySem.W.dataLe false encT)).map (·.2)).Nodup := (((List.mergeSort_perm L1 (PySem.W.dataLe false encT)).trans pL).map (·.2)).nodup_iff.mpr R.nd
    refine ((List.pairwise_map.mp nd).and sp).imp ?_
    rintro q r ⟨hne, hle⟩
    have hle : PySem.W.dataLe false encT q r = true := hle
    rw [dataLe_encT] at hle
    have nlt : ¬ r.2 < q.2 := by simpa using hle
    rcases list_tri q.2 r.2 with h | h | h
    · exact h
    · exact absurd h hne
    · exact absurd h nlt
end
end DL
/-! sorted(set(..)) as a rule over data. -/
namespace DL
open PySem PySem.Spec L2 Gd
def tupI (ns : List Int) : D := .tup (ns.map D.int)
section
variable {X : Cx} {dx : Dx} {K : PySem.W.Frag}
theorem seq_items {pins : List (Addr × Obj)} {σ : L2.St} {H : Hp} {s : Shared} {a : Addr} {xs : List V} (I : Inv X pins σ H s) (h : SqL X.K H a xs ∨ SqT X.K H a xs) :
    ∃ its : List Value, Vals xs its ∧ xs.length ≤ sizeLine ∧ (s.heap.IsList a its.toArray ∨ s.heap.IsTuple a its.toArray) ∧ a < s.heap.objs.size := by
  rcases h with h | h
  · obtain ⟨its, rv, pl, hz⟩ := I.list h
    obtain ⟨o, n, e, _⟩ := id pl
    exact ⟨its, rv, hz, .inl pl.isList, Heap.lt_size e⟩
  · obtain ⟨its, rv, pt, hz⟩ := I.tuple h
    obtain ⟨o, e, _⟩ := id pt
    exact ⟨its, rv, hz, .inr (show s.heap.IsTuple a its.toArray from pt), Heap.lt_size e⟩
/-- set(xs) of ints -/
def rSetI (K : PySem.W.Frag) (w : World) : List V → Hp → VK → Prop := fun vs H Q => ∃ (a : Addr) (ns : List Int), vs = [.ref a] ∧ (SqL K H a (ns.map V.int) ∨ SqT K H a (ns.map V.int)) ∧ ns.length < 1000 ∧
  ∀ p c, H p = none → (∃ ks : List Int, ks.Nodup ∧ ks.length = c ∧ ∀ k ∈ ks, k ∈ ns) → Q (.ref p) (upd H p (SetO w p (fun j => decide (j ∈ ns)) c))
theorem cr_setI (hc : X.calm = true) : CallR X (.type "set") (rSetI X.K X.w) := by
  intro pins s σ H vs us Q I r h
  obtain ⟨a, ns, rfl, hs, few, q⟩ := h
  obtain ⟨its, rv, hz, hl, lt⟩ := seq_items I hs
  rw [Vals.ref1 r]
  have hn : H s.heap.objs.size = none := I.hok.fresh (Nat.le_refl _)
  refine call_set_seq (P := X.prog) (I.ok.hd hc) hl (fills_ints (ns := ns) lt (by simpa using ints_of_vals rv) (by unfold scanBound; omega)) fun h' tk ⟨c, R, hc'⟩ kp => ?_
  refine ⟨.ref s.heap.objs.size, upd H s.heap.objs.size (SetO X.w s.heap.objs.size (fun j => decide (j ∈ ns)) c), I.laid (t' := tk) kp (Nat.le_refl _) (setO_new R), rfl, q _ c hn ?_⟩
  obtain ⟨o, es, ep, t, _, _, _, _, nd, mem, _, _, sz, _⟩ := R
  exact ⟨_, nd, by rw [List.length_map, Array.length_toList, sz], fun k m => of_decide_eq_true ((mem k).mpr m)⟩
/-- set(xs) of tuples of ints -/
def rSetT (K : PySem.W.Frag) (P : Program) (w : World) : List V → Hp → VK → Prop := fun vs H Q => ∃ (a : Addr) (ks : List (Addr × List Int)), vs = [.ref a] ∧ (SqL K H a (ks.map fun p => V.ref p.1) ∨ SqT K H a (ks.map fun p => V.ref p.1)) ∧ (∀ p ∈ ks, SqT K H p.1 (p.2.map V.int)) ∧ ks.length < 64 ∧
  ∀ p L, H p = none → (∀ x ∈ L, x ∈ ks) → (∀ x ∈ ks, x.2 ∈ L.map (·.2)) → Q (.ref p) (upd H p (SetTO P w p L))
theorem cr_setT (hc : X.calm = true) (hu : X.A.units + 64 < cLine) : CallR X (.type "set") (rSetT X.K X.prog X.w) := by
  intro pins s σ H vs us Q I r h
  obtain ⟨a, ks, rfl, hs, hk, few, q⟩ := h
  obtain ⟨its, rv, hz, hl, lt⟩ := seq_items I hs
  rw [Vals.ref1 r]
  have hn : H s.heap.objs.size = none := I.hok.fresh (Nat.le_refl _)
  refine call_set_seq (P := X.prog) (I.ok.hd hc) hl (fills_tups ks lt (by simpa using refs_of_vals rv) (fun p hp => I.isT (hk p hp)) few (by omega)) fun h' tk ⟨L, es, ep, tb, R, g⟩ kp => ?_
  refine ⟨.ref s.heap.objs.size, upd H s.heap.objs.size (SetTO X.prog X.w s.heap.objs.size L), I.laid (t' := tk) kp (Nat.le_refl _) (setTO_new R.t0), rfl, q _ L hn (fun p hp => List.mem_of_mem_take (g.sub p hp)) fun p hp => ?_⟩
  exact g.all p (by rw [List.take_length]; exact hp)
/-- sorted of it -/
def rSortTT (K : PySem.W.Frag) (P : Program) (w : World) : List V → Hp → VK → Prop := fun vs H Q => ∃ (a : Addr) (L : List (Addr × List Int)), vs = [.ref a] ∧ H a = some (SetTO P w a L) ∧ (∀ p ∈ L, SqT K H p.1 (p.2.map V.int)) ∧
  ∀ (L' : List (Addr × List Int)) (p : Addr), L'.Perm L → L'.Pairwise (fun q r => q.2 < r.2) → H p = none → Q (.ref p) (upd H p (.lst (L'.map fun q => V.ref q.1)))
theorem cr_sortTT (hc : X.calm = true) (hu : X.A.units + 64 < cLine) : CallR X (.builtin "sorted") (rSortTT X.K X.prog X.w) := by
  intro pins s σ H vs us Q I r h
  obtain ⟨a, L, rfl, ha, hk, q⟩ := h
  have R0 : SetT0 X.prog X.w s.heap a L := (I.hok a _ ha).1
  obtain ⟨es, ep, t, R⟩ := R0.full fun p hp => I.isT (hk p hp)
  rw [Vals.ref1 r]
  refine sorted_setTT R (I.ok.hd hc) (by omega) fun s' p out c L' k g o hp hg hout pm pw => ?_
  have few : (L'.map fun q => V.ref q.1).length ≤ sizeLine := by
    have := R.few
    rw [List.length_map, pm.length_eq, sizeLine_eq]
    omega
  have hn : H p = none := I.hok.fresh hp
  have rv : Vals (L'.map fun q => V.ref q.1) out := by rw [hout]; exact vals_of_refs L'
  obtain ⟨h1, g1, d1, t1, o1⟩ := s'
  cases (show g1 = s.gens from g)
  cases (show o1 = s.os from o)
  exact ⟨.ref p, upd H p (.lst (L'.map fun q => V.ref q.1)), I.call (ch := []) (Un.laid k hp hn) (I.hok.laid k hp ⟨few, out, c, rv, hg⟩) I.bare (fun _ z => nomatch z), rfl, q L' p pm pw hn⟩

/-! ### over data -/
theorem nodup_le {α : Type} : ∀ {ks us : List α}, ks.Nodup → (∀ k ∈ ks, k ∈ us) → ks.length ≤ us.length
  | [], _, _, _ => Nat.zero_le _
  | k :: ks, us, nd, h => by
    have ⟨n1, n2⟩ := List.nodup_cons.mp nd
    obtain ⟨a, b, rfl⟩ := List.append_of_mem (h k List.mem_cons_self)
    have := nodup_le (ks := ks) (us := a ++ b) n2 fun j m => by
      have := h j (List.mem_cons_of_mem _ m)
      have ne : j ≠ k := fun e => n1 (e ▸ m)
      simp only [List.mem_append, List.mem_cons] at this ⊢
      rcases this with h | h | h
      · exact .inl h
      · exact absurd h ne
      · exact .inr h
    simp only [List.length_append, List.length_cons] at this ⊢
    omega
def SetSortI (S : Sto) (d : D) (Q : D → Sto → Prop) : Prop := ∃ ns : List Int, seqOf S d = some (ns.map D.int) ∧ ns.length < 1000 ∧ (∃ us : List Int, us.length < 64 ∧ ∀ k ∈ ns, k ∈ us) ∧ ∀ es : List Int, es.Pairwise (· < ·) → (∀ k, k ∈ es ↔ k ∈ ns) → Q (.lst (es.map D.int)) S
def SetSortT (S : Sto) (d : D) (Q : D → Sto → Prop) : Prop := ∃ L : List (List Int), seqOf S d = some (L.map tupI) ∧ L.length < 64 ∧ ∀ es : List (List Int), es.Pairwise (· < ·) → (∀ k, k ∈ es ↔ k ∈ L) → Q (.lst (es.map tupI)) S
def fSortSet (d : D) (S : Sto) (Q : D → Sto → Prop) : Prop := SetSortI S d Q ∨ SetSortT S d Q
def dSortSet (t : DTE) : DTE := fun δ S Q => t δ S fun d S1 => fSortSet d S1 Q
def rSetA (K : PySem.W.Frag) (P : Program) (w : World) : List V → Hp → VK → Prop := fun vs H Q => rSetI K w vs H Q ∨ rSetT K P w vs H Q
def rSortA (K : PySem.W.Frag) (P : Program) (w : World) : List V → Hp → VK → Prop := fun vs H Q => rSortedSet w vs H Q ∨ rSortTT K P w vs H Q
theorem CallR.or {f : Value} {r r' : List V → Hp → VK → Prop} (h : CallR X f r) (h' : CallR X f r') : CallR X f (fun vs H Q => r vs H Q ∨ r' vs H Q) := by
  intro pins s σ H vs us Q I rv q
  rcases q with q | q
  · exact h pins s σ H vs us Q I rv q
  · exact h' pins s σ H vs us Q I rv q
theorem cr_setA (hc : X.calm = true) (hu : X.A.units + 64 < cLine) : CallR X (.type "set") (rSetA X.K X.prog X.w) := CallR.or (cr_setI hc) (cr_setT hc hu)
theorem cr_sortA (hc : X.calm = true) (hu : X.A.units + 64 < cLine) : CallR X (.builtin "sorted") (rSortA X.K X.prog X.w) := CallR.or (cr_sortedSet hc) (cr_sortTT hc hu)
def tSortSet (X : Cx) (te : TE) : TE := tCB (rSortA X.K X.prog X.w) (tCons (tCB (rSetA X.K X.prog X.w) (tCons te tNil)) tNil)
theorem DtAll.tups {M : Mm} {H : Hp} : ∀ {vs : List V} {L : List (List Int)}, DtAll K M H vs (L.map tupI) → ∃ ks : List (Addr × List Int), ks.map (fun p => V.ref p.1) = vs ∧ ks.map (·.2) = L ∧ (∀ p ∈ ks, SqT K H p.1 (p.2.map V.int)) ∧ ∀ p ∈ ks, Dt K M H (.ref p.1) (tupI p.2)
  | _, [], h => by
    cases h
    exact ⟨[], rfl, rfl, (fun p m => nomatch m), (fun p m => nomatch m)⟩
  | _, ns :: L, h => by
    cases h with
    | cons h t =>
      obtain ⟨ks, e1, e2, e3, e4⟩ := DtAll.tups t
      obtain ⟨a, xs, rfl, hs, al⟩ := Dt.sqT (ds := ns.map D.int) h
      refine ⟨(a, ns) :: ks, by rw [List.map_cons, e1], by rw [List.map_cons, e2], fun p m => ?_, fun p m => ?_⟩
      · rcases List.mem_cons.mp m with rfl | m
        · rw [Dt.ints_of al] at hs
          exact hs
        · exact e3 p m
      · rcases List.mem_cons.mp m with rfl | m
        · exact h
        · exact e4 p m
theorem DtAll.ofKeys {M : Mm} {H : Hp} : ∀ {ks : List (Addr × List Int)}, (∀ p ∈ ks, Dt K M H (.ref p.1) (tupI p.2)) → DtAll K M H (ks.map fun p => V.ref p.1) ((ks.map (·.2)).map tupI)
  | [], _ => .nil
  | p :: ks, h => .cons (h p List.mem_cons_self) (DtAll.ofKeys fun q m => h q (List.mem_cons_of_mem _ m))
theorem sortSet_go {te : TE} {fa : DTE} (go : ∀ σ H δ S Q Qh, HR X.K dx H S → SR X.K dx σ H δ S → fa δ S Q → ThE X.K dx H S Q Qh → te σ H Qh) :
    ∀ σ H δ S Q Qh, HR X.K dx H S → SR X.K dx σ H δ S → dSortSet fa δ S Q → ThE X.K dx H S Q Qh → tSortSet X te σ H Qh := by
  intro σ H δ S Q Qh r s t k
  refine go σ H δ S _ _ r s t fun v H1 d S1 r1 x1 d1 t1 => ?_
  rcases t1 with ⟨ns, e, few, ⟨us, uf, um⟩, t1⟩ | ⟨L, e, few, t1⟩
  · obtain ⟨a, vs, rfl, hs, al⟩ := seq_of r1 d1 e
    rw [Dt.ints_of al] at hs
    refine .inl ⟨a, ns, rfl, hs, few, fun p c n hc => .inl ⟨p, _, c, rfl, upd_same, by obtain ⟨ks, nd, rfl, sub⟩ := hc; have := nodup_le nd fun k m => um k (sub k m); omega, fun es q sorted mem len n2 => ?_⟩⟩
    have sm1 : Same H1 (upd H1 p (SetO X.w p (fun j => decide (j ∈ ns)) c)) := same_new n
    have r2 := (r1.same sm1)
    obtain ⟨r3, x3, d3⟩ := new_lst (ds := es.map D.int) r2 n2 (DtAll.ints es)
    exact k _ _ _ S1 r3 ((x1.trans (Ext.same sm1)).trans x3) d3 (t1 es sorted fun j => (mem j).trans (by simp))
  · obtain ⟨a, vs, rfl, hs, al⟩ := seq_of r1 d1 e
    obtain ⟨ks, rfl, rfl, hk, hd⟩ := DtAll.tups al
    refine .inr ⟨a, ks, rfl, hs, hk, by simpa using few, fun p L n sub all => .inr ⟨p, L, rfl, upd_same, fun x m => ?_, fun L' q pm pw n2 => ?_⟩⟩
    · have := hk x (sub x m)
      rcases this with h | h
      · rcases h with h | ⟨o, h⟩
        · exact .inl (.inl ((same_new n) _ _ h))
        · exact .inl (.inr ⟨o, (same_new n) _ _ h⟩)
      · exact .inr h
    · have sm1 : Same H1 (upd H1 p (SetTO X.prog X.w p L)) := same_new n
      have r2 := (r1.same sm1)
      have al2 := DtAll.ofKeys (ks := L') fun x m => (hd x (sub x (pm.mem_iff.mp m))).ext (Ext.same sm1)
      obtain ⟨r3, x3, d3⟩ := new_lst r2 n2 al2
      refine k _ _ _ S1 r3 ((x1.trans (Ext.same sm1)).trans x3) d3 (t1 (L'.map (·.2)) (List.pairwise_map.mpr pw) fun j => ?_)
      constructor
      · intro m
        obtain ⟨x, mx, rfl⟩ := List.mem_map.mp m
        exact List.mem_map.mpr ⟨x, sub x (pm.mem_iff.mp mx), rfl⟩
      · intro m
        obtain ⟨x, mx, rfl⟩ := List.mem_map.mp m
        obtain ⟨y, my, e2⟩ := List.mem_map.mp (all x mx)
        exact List.mem_map.mpr ⟨y, pm.mem_iff.mpr my, e2⟩
/-- sorted(set(e)) -/
theorem de_sortSet {e st : Expr} {te : TE} {fa : DTE} (h : DE X dx e te fa) (hp : PE X e te → PE X st (tSortSet X te)) : DE X dx st (tSortSet X te) (dSortSet fa) := ⟨hp h.pe, sortSet_go h.go⟩
end
end DL
/-! sorted(xs, key=len) of tuples. -/
namespace DL
open PySem PySem.Spec L2 Gd
open PySem.W (EachIs)
theorem each_refs : ∀ {ks : List (Addr × Nat)} {us : List Value}, Vals (ks.map fun p => V.ref p.1) us → EachIs (fun u (p : Addr × Nat) => u = Value.ref p.1) us ks
  | [], _, h => by cases h; exact .nil
  | p :: ks, _, h => by
    cases h with
    | cons h t => exact .cons h (each_refs t)
theorem vals_refs : ∀ {ks : List (Addr × Nat)} {us : List Value}, EachIs (fun u (p : Addr × Nat) => u = Value.ref p.1) us ks → Vals (ks.map fun p => V.ref p.1) us
  | _, _, .nil => .nil
  | _, _, .cons h t => .cons h (vals_refs t)
/-- p.2 is how long the tuple at p.1 is -/
def rSortLen (K : PySem.W.Frag) : List V → Hp → VK → Prop := fun vs H Q => ∃ (a : Addr) (ks : List (Addr × Nat)), vs = [.ref a] ∧ SqL K H a (ks.map fun p => V.ref p.1) ∧ (∀ p ∈ ks, ∃ ys, SqT K H p.1 ys ∧ ys.length = p.2) ∧
  ∀ q, H q = none → Q (.ref q) (upd H q (.lst ((ks.mergeSort fun p r => decide (p.2 ≤ r.2)).map fun p => V.ref p.1)))
def tSortLen (K : PySem.W.Frag) (te : TE) : TE := tCB (rSortLen K) (tCons te tNil)
section
variable {X : Cx} {dx : Dx} {K : PySem.W.Frag}
theorem call_sortLen (hu : X.A.units + 64 < cLine) {pins : List (Addr × Obj)} {s : Shared} {σ : L2.St} {H : Hp} {vs : List V} {us : List Value} {Q : VK} (I : Inv X pins σ H s) (r : Vals vs us) (h : rSortLen X.K vs H Q) :
    wpAny (model X.prog X.w) X.A (call (.builtin "sorted") us [(Str.ofString "key", .builtin "len")]) (EP X pins σ Q) X.xe s := by
  obtain ⟨a, ks, rfl, hs, hk, q⟩ := h
  obtain ⟨its, rv, pl, hz⟩ := I.list hs
  rw [Vals.ref1 r]
  have e := each_refs rv
  have len : ks.length = its.length := e.length.symm
  rw [List.length_map] at hz
  refine PySem.W.sorted_key_data (b := false) (fun p : Addr × Nat => .int (p.2 : Int)) pl.isList e (fun d hd d' hd' => ?_) (.inr fun d hd => ?_) hz (fun p _ => ?_) (PyProof.Rows.ksk_s1 _ _) (fun _ => PyProof.Rows.ksk_l1 _ _) (fun _ => PyProof.Rows.ksk_t4 _ _) (fun v p hv hp h tk keep => ?_) fun out c h' tk keep fresh at_ l eo => ?_
  · obtain ⟨_, _, rfl⟩ := List.mem_map.mp hd
    obtain ⟨_, _, rfl⟩ := List.mem_map.mp hd'
    rfl
  · obtain ⟨_, _, rfl⟩ := List.mem_map.mp hd
    exact ⟨(fun z => nomatch z), fun xs z => nomatch z⟩
  · have : (PyData.int (p.2 : Int)).depth = 0 := by rw [PyData.depth]
    omega
  · obtain ⟨ys, ht, el⟩ := hk p hp
    obtain ⟨tits, tr, tp, tz⟩ := I.tuple ht
    obtain ⟨o, eo, ec, n, ed⟩ := tp
    have hl := tr.length
    have two := line63
    subst hv
    refine PyProof.Rows.len_tuple (s := { s with heap := h, toks := tk }) (items := tits.toArray) ⟨o, keep _ _ eo, ec, n, ed⟩ (by simp only [List.size_toArray]; omega) ?_
    refine ⟨h, tk + 2, rfl, fun b o e => e, ?_⟩
    have ez : ((tits.toArray.size : Nat) : Int) = (p.2 : Int) := by simp only [List.size_toArray]; omega
    rw [ez]
    exact .int _ _
  · have hn : H (s.heap.objs.size + 1) = none := I.hok.fresh (Nat.le_succ _)
    have e2 : PySem.W.dataLe false (fun p : Addr × Nat => .int (p.2 : Int)) = fun p r => decide (p.2 ≤ r.2) := by
      rw [PySem.W.dataLe_int]
      funext p r
      exact decide_eq_decide.mpr Int.ofNat_le
    rw [e2] at eo
    refine ⟨.ref (s.heap.objs.size + 1), upd H (s.heap.objs.size + 1) (.lst ((ks.mergeSort fun p r => decide (p.2 ≤ r.2)).map fun p => V.ref p.1)), I.laid (t' := tk) keep (Nat.le_succ _) ⟨?_, out, c, vals_refs eo, at_⟩, rfl, q _ hn⟩
    rw [List.length_map, (List.mergeSort_perm _ _).length_eq]
    exact hz
theorem pe_sortLen {e : Expr} {te : TE} {p p2 p3 pos : Pos} (hu : X.A.units + 64 < cLine) (h : PE X e te) (g1 : Gl X "sorted") (m1 : X.mg "sorted" = none) (g2 : Gl X "len") (m2 : X.mg "len" = none)
    (he : backTo pos (starEach [e] X.env) = (false, eval e X.env) :: backTo pos (starEach [] X.env) := by rfl) (hpl : (backTo pos (starEach [e] X.env)).any (·.1) = false := by rfl)
    (hs : starEach [e] X.env = (false, eval e X.env) :: starEach [] X.env := by rfl) :
    PE X (.Call (.Name "sorted" p) [e] [⟨some "key", .Name "len" p2, p3⟩] pos) (tSortLen X.K te) := by
  refine ⟨fun pins s σ H Q I w => ?_⟩
  refine wpAny_Call_Name_kw (ld_blt I g1 m1 rfl ?_ (by decide) (by decide))
  have ha : PA X [e] (tCons te tNil) := pa_cons h pa_nil hs
  refine PyProof.Rows.callWith_kw (thn (ha.run pos pins s σ H (fun vs H1 => rSortLen X.K vs H1 Q) I w) fun us s1 ⟨vs, H1, I1, r1, q1⟩ => ?_) he hpl
  show wpAny _ _ (evalAll [(do let v ← eval (.Name "len" p2) X.env; standAt pos; pure v)]) _ _ s1
  refine wpAny_evalAll_cons (wpAny_bind (ld_blt I1 g2 m2 rfl (wpAny_bind (wpAny_standAt (wpAny_pure (wpAny_evalAll_nil ?_)))) (by decide) (by decide)))
  exact call_sortLen hu I1 r1 q1
/-! ### over data -/
def lenT : D → Option Nat
  | .tup ds => some ds.length
  | _ => none
def lenD (d : D) : Nat := (lenT d).getD 0
def fSortLen (d : D) (S : Sto) (Q : D → Sto → Prop) : Prop := match d with
  | .lst ds => (∀ x ∈ ds, (lenT x).isSome = true) ∧ Q (.lst (ds.mergeSort fun x y => decide (lenD x ≤ lenD y))) S
  | _ => False
def dSortLen (t : DTE) : DTE := fun δ S Q => t δ S fun d S1 => fSortLen d S1 Q
theorem DtAll.lens {M : Mm} {H : Hp} : ∀ {vs : List V} {ds : List D}, DtAll K M H vs ds → (∀ x ∈ ds, (lenT x).isSome = true) →
    ∃ ks : List ((Addr × Nat) × D), ks.map (fun p => V.ref p.1.1) = vs ∧ ks.map (·.2) = ds ∧ (∀ p ∈ ks, (∃ ys, SqT K H p.1.1 ys ∧ ys.length = p.1.2) ∧ p.1.2 = lenD p.2 ∧ Dt K M H (.ref p.1.1) p.2)
  | _, _, .nil, _ => ⟨[], rfl, rfl, fun p m => nomatch m⟩
  | _, d :: ds, .cons h t, ok => by
    obtain ⟨ks, e1, e2, e3⟩ := DtAll.lens t fun x m => ok x (List.mem_cons_of_mem _ m)
    have o1 := ok d List.mem_cons_self
    cases d with
    | tup xs =>
      obtain ⟨a, ys, rfl, hs, al⟩ := h.sqT
      refine ⟨((a, xs.length), .tup xs) :: ks, by rw [List.map_cons, e1], by rw [List.map_cons, e2], fun p m => ?_⟩
      rcases List.mem_cons.mp m with rfl | m
      · exact ⟨⟨ys, hs, al.length⟩, rfl, h⟩
      · exact e3 p m
    | _ => cases o1
theorem sortLen_go {te : TE} {fa : DTE} (go : ∀ σ H δ S Q Qh, HR X.K dx H S → SR X.K dx σ H δ S → fa δ S Q → ThE X.K dx H S Q Qh → te σ H Qh) :
    ∀ σ H δ S Q Qh, HR X.K dx H S → SR X.K dx σ H δ S → dSortLen fa δ S Q → ThE X.K dx H S Q Qh → tSortLen X.K te σ H Qh := by
  intro σ H δ S Q Qh r s t k
  refine go σ H δ S _ _ r s t fun v H1 d S1 r1 x1 d1 t1 => ?_
  cases d with
  | lst ds =>
    obtain ⟨ok, t1⟩ := t1
    obtain ⟨a, vs, rfl, _, eh, al⟩ := d1.sqL
    obtain ⟨ks, rfl, rfl, hk⟩ := al.lens ok
    refine ⟨a, ks.map (·.1), rfl, by rw [List.map_map]; exact SqL.of eh, fun p m => ?_, fun q n => ?_⟩
    · obtain ⟨x, mx, rfl⟩ := List.mem_map.mp m
      exact (hk x mx).1
    · have e1 := PySem.W.sort_maps (r := fun x y : (Addr × Nat) × D => decide (x.1.2 ≤ y.1.2)) (s := fun p r : Addr × Nat => decide (p.2 ≤ r.2)) (l := ks) (fun x => x.1) (fun _ _ _ _ => rfl)
      have e2 := PySem.W.sort_maps (r := fun x y : (Addr × Nat) × D => decide (x.1.2 ≤ y.1.2)) (s := fun x y => decide (lenD x ≤ lenD y)) (l := ks) (fun x => x.2) (fun a ha b hb => by rw [(hk a ha).2.1, (hk b hb).2.1])
      have al2 : DtAll X.K (Mu dx S1) H1 ((ks.mergeSort fun x y => decide (x.1.2 ≤ y.1.2)).map fun p => V.ref p.1.1) ((ks.mergeSort fun x y => decide (x.1.2 ≤ y.1.2)).map (·.2)) := by
        have := DtAll.pairs (K := X.K) (M := Mu dx S1) (H := H1) (bs := (ks.mergeSort fun x y => decide (x.1.2 ≤ y.1.2)).map fun p => (V.ref p.1.1, p.2)) fun b hb => by
          obtain ⟨x, mx, rfl⟩ := List.mem_map.mp hb
          exact (hk x ((List.mergeSort_perm _ _).mem_iff.mp mx)).2.2
        rw [List.map_map, List.map_map] at this
        exact this
      rw [← e1, List.map_map]
      rw [← e2] at t1
      obtain ⟨r2, x2, d2⟩ := new_lst r1 n al2
      exact k _ _ _ S1 r2 (x1.trans x2) d2 t1
  | _ => exact t1.elim
theorem de_sortLen {e st : Expr} {te : TE} {fa : DTE} (K : PySem.W.Frag) (h : DE X dx e te fa) (hp : PE X e te → PE X st (tSortLen X.K te)) (hK : X.K = K := by rfl) : DE X dx st (tSortLen K te) (dSortLen fa) := by
  subst hK
  exact ⟨hp h.pe, sortLen_go h.go⟩
end
end DL
namespace DL
open PySem PySem.Spec L2 Gd
section
variable {X : Cx} {dx : Dx}
theorem de_sortLen_ (K : PySem.W.Frag) {e : Expr} {te : TE} {fa : DTE} {p p2 p3 pos : Pos} (hu : X.A.units + 64 < cLine) (h : DE X dx e te fa) (g1 : Gl X "sorted") (m1 : X.mg "sorted" = none) (g2 : Gl X "len") (m2 : X.mg "len" = none)
    (he : backTo pos (starEach [e] X.env) = (false, eval e X.env) :: backTo pos (starEach [] X.env) := by rfl) (hpl : (backTo pos (starEach [e] X.env)).any (·.1) = false := by rfl)
    (hs : starEach [e] X.env = (false, eval e X.env) :: starEach [] X.env := by rfl) (hK : X.K = K := by rfl) :
    DE X dx (.Call (.Name "sorted" p) [e] [⟨some "key", .Name "len" p2, p3⟩] pos) (tSortLen K te) (dSortLen fa) :=
  de_sortLen K h (fun h1 => pe_sortLen hu h1 g1 m1 g2 m2 he hpl hs) hK
theorem de_sortSet_ (K : PySem.W.Frag) (P : Program) (w : World) {e st : Expr} {te : TE} {fa : DTE} (h : DE X dx e te fa)
    (hp : PE X e te → PE X st (tCB (rSortA K P w) (tCons (tCB (rSetA K P w) (tCons te tNil)) tNil))) (h1 : X.K = K := by rfl) (h2 : X.prog = P := by rfl) (h3 : X.w = w := by rfl) :
    DE X dx st (tCB (rSortA K P w) (tCons (tCB (rSetA K P w) (tCons te tNil)) tNil)) (dSortSet fa) := by
  subst h1 h2 h3
  exact de_sortSet h hp
theorem cr_setA_ (K : PySem.W.Frag) (P : Program) (w : World) (hc : X.calm = true) (hu : X.A.units + 64 < cLine) (h1 : X.K = K := by rfl) (h2 : X.prog = P := by rfl) (h3 : X.w = w := by rfl) : CallR X (.type "set") (rSetA K P w) := by
  subst h1 h2 h3
  exact cr_setA hc hu
theorem cr_sortA_ (K : PySem.W.Frag) (P : Program) (w : World) (hc : X.calm = true) (hu : X.A.units + 64 < cLine) (h1 : X.K = K := by rfl) (h2 : X.prog = P := by rfl) (h3 : X.w = w := by rfl) : CallR X (.builtin "sorted") (rSortA K P w) := by
  subst h1 h2 h3
  exact cr_sortA hc hu
end
end DL
/-! One's own lists lent to a def that only reads them. -/
namespace DL
open PySem PySem.Spec L2 Gd
/-- nothing in it may be a list -/
def noL : D → Bool
  | .non => true
  | .bl _ => true
  | .int _ => true
  | .str _ => true
  | .tup xs => noLs xs
  | .lst _ => false
  | .fls _ => false
  | .adr _ => true
  | .dic _ _ => false
  | .obj _ _ _ => false
where noLs : List D → Bool
  | [] => true
  | x :: xs => noL x && noLs xs
section
variable {K : PySem.W.Frag} {dx : Dx} {H : Hp} {S : Sto}
/-- what may change while one's own lists are lent -/
def Lent (dx : Dx) (S : Sto) (b : Addr) : Prop := dx.M0 b ∨ dx.hand b ∨ (b ∈ S.map (·.1) ∧ getS S b = none)
theorem Lent.mu {b : Addr} (h : Lent dx S b) : (Mu dx S).mu b := by
  rcases h with h | h | h
  · exact .inl h
  · exact .inr (.inl h)
  · exact .inr (.inr h.1)
theorem lent_arg (r : HR K dx H S) {v : V} {d : D} (h : Dt K (Mu dx S) H v d) : Dt K (Fo (Lent dx S)) H v (frz S d) := by
  have le : Ext (Mu dx S) H (Fo (Lent dx S)) H := Ext.less (fun b z => (z.elim id False.elim : Lent dx S b).mu) (fun b z => z.elim)
  cases d with
  | adr p =>
    cases hg : getS S p with
    | none =>
      show Dt K _ H v (frzO p (getS S p))
      rw [hg]
      exact h.ext le
    | some xs =>
      show Dt K _ H v (frzO p (getS S p))
      rw [hg]
      cases h
      have m := getS_mem hg
      have mp : p ∈ S.map (·.1) := List.mem_map.mpr ⟨_, m, rfl⟩
      obtain ⟨vs, e, a⟩ := r.getL hg
      refine .lst ?_ e (a.ext le)
      rintro ((z | z | z) | z)
      · exact r.own_not mp z
      · exact r.own_not mp (r.hm _ z)
      · rw [hg] at z
        cases z.2
      · exact z
  | _ => exact h.ext le
theorem lent_args (r : HR K dx H S) : ∀ {vs : List V} {ds : List D}, DtAll K (Mu dx S) H vs ds → DtAll K (Fo (Lent dx S)) H vs (ds.map (frz S))
  | _, _, .nil => .nil
  | _, _, .cons h t => .cons (lent_arg r h) (lent_args r t)
mutual
theorem lent_back {H' : Hp} (hk : ∀ b xs, getS S b = some xs → ∃ vs, H' b = some (.lst vs)) : ∀ {v : V} {d : D}, Dt K (Fo (Lent dx S)) H' v d → noL d = true → Dt K (Mu dx S) H' v d
  | _, _, .non, _ => .non
  | _, _, .bl b, _ => .bl b
  | _, _, .int i, _ => .int i
  | _, _, .str x, _ => .str x
  | _, _, .tup (a := a) n h al, q => by
    refine .tup ?_ h (lent_backs hk al q)
    rintro (z | z | z)
    · exact n (.inl (.inl z))
    · exact n (.inl (.inr (.inl z)))
    · cases hg : getS S a with
      | none => exact n (.inl (.inr (.inr ⟨z, hg⟩)))
      | some xs =>
        obtain ⟨vs, e⟩ := hk a xs hg
        rcases h with h | ⟨o, h⟩
        · rw [e] at h; cases h
        · rw [e] at h; cases h
  | _, _, .ktup h al, q => .ktup h (lent_backs hk al q)
  | _, _, .adr a, _ => .adr a
  | _, _, .lst _ _ _, q => (Bool.false_ne_true q).elim
  | _, _, .fls _ _, q => (Bool.false_ne_true q).elim
  | _, _, .kfls _, q => (Bool.false_ne_true q).elim
  | _, _, .dic _ _ _ _, q => (Bool.false_ne_true q).elim
  | _, _, .obj _ _ _ _ _, q => (Bool.false_ne_true q).elim
theorem lent_backs {H' : Hp} (hk : ∀ b xs, getS S b = some xs → ∃ vs, H' b = some (.lst vs)) : ∀ {vs : List V} {ds : List D}, DtAll K (Fo (Lent dx S)) H' vs ds → noL.noLs ds = true → DtAll K (Mu dx S) H' vs ds
  | _, _, .nil, _ => .nil
  | _, _, .cons h t, q => by
    have q : (noL _ && noL.noLs _) = true := q
    rw [Bool.and_eq_true] at q
    exact .cons (lent_back hk h q.1) (lent_backs hk t q.2)
end
def dCallL (spec : DSpec) (fa : DTA) : DTE := fun δ S Q => fa δ S fun ds S1 => spec (ds.map (frz S1)) fun d => noL d = true ∧ Q d S1
theorem spdL_go {hand : Addr → Prop} {J : Hp → Prop} {vs : List V} {ds : List D} {spec : DSpec} {Q : D → Sto → Prop} {Qh : VK} {E : XK} (r : HR K dx H S) (a : DtAll K (Mu dx S) H vs ds)
    (h : (hand = noHand ∧ J = noJ) ∨ (hand = dx.hand ∧ J = dx.J)) (t : spec (ds.map (frz S)) fun d => noL d = true ∧ Q d S) (kk : ThE K dx H S Q Qh) : spD K hand J spec vs H Qh E := by
  have own : ∀ b xs, getS S b = some xs → ∃ vs, H b = some (.lst vs) := fun b xs e => let ⟨vs, e, _⟩ := r.getL e; ⟨vs, e⟩
  rcases h with ⟨rfl, rfl⟩ | ⟨rfl, rfl⟩
  · refine ⟨Lent dx S, _, _, fun b z => r.mu_live b z.mu, fun b z => z.elim, fun _ _ _ _ => trivial, trivial, lent_args r a, t, fun v H' d kp lv j hd q => ?_⟩
    have sm : Same H H' := fun b o e => kp b o e fun z => z
    exact kk v H' d S (r.same sm) (Ext.same sm) (lent_back (fun b xs e => let ⟨vs, e⟩ := own b xs e; ⟨vs, sm _ _ e⟩) hd q.1) q.2
  · refine ⟨Lent dx S, _, _, fun b z => r.mu_live b z.mu, fun b z => .inr (.inl z), r.stab, r.j, lent_args r a, t, fun v H' d kp lv j hd q => ?_⟩
    have xx : Ext (Mu dx S) H (Mu dx S) H' := ⟨fun b o n e => kp b o e fun z => n (.inl z), fun b m n => absurd m n, fun b m n => absurd m n⟩
    have nh : ∀ {b : Addr}, b ∈ S.map (·.1) → ¬ dx.hand b := fun m z => (r.own _ m).2 (r.hm _ z)
    refine kk v H' d S ⟨fun q xs m => ?_, r.nd, fun b m => lv b (.inl m), r.own, fun b o e n => kp b o (r.keep b o e n) n, j, r.stab, r.hm⟩ xx (lent_back (fun b xs e => ?_) hd q.1) q.2
    · obtain ⟨ws, e, al⟩ := r.sto q xs m
      exact ⟨ws, kp q _ e (nh (List.mem_map.mpr ⟨_, m, rfl⟩)), al.ext xx⟩
    · obtain ⟨vs, e2⟩ := own b xs e
      exact ⟨vs, kp b _ e2 (nh (List.mem_map.mpr ⟨_, getS_mem e, rfl⟩))⟩
end
section
variable {X : Cx} {dx : Dx} {k : Nat} {f c d : Addr} {fd : FuncData} {ps : List Str} {x : Str} {p pos : Pos} {e : Expr} {es : List Expr} {ta : TA} {fa : DTA} {spec : DSpec} {specR : Addr → DSpec}
theorem de_callL_ (K : PySem.W.Frag) (F : FnG X.prog X.w K X.mg X.base CX0 k f fd ps (spP K spec)) (room : Room k X.A) (guard : X.A.guards = some [])
    (hg : Gl X x) (hm : X.mg x = some (.ref f)) (kp : PySem.W.keepIn K (.ref f) = true) (hb : Binds K fd ps []) (ha : DA X dx (e :: es) ta fa)
    (hdb : (x == ("__debug__" : Str)) = false := by decide)
    (he : starEach (e :: es) X.env = (false, eval e X.env) :: starEach es X.env := by rfl)
    (hpl : (backTo pos (starEach es X.env)).any (·.1) = false := by rfl) (hK : X.K = K := by rfl) :
    DE X dx (.Call (.Name x p) (e :: es) [] pos) (tCall (spP K spec) [] (fun _ _ _ => False) ta) (dCallL spec fa) := by
  subst hK
  refine ⟨pe_callG F room guard hg hm kp hb .nil pass0 ha.pe hdb he hpl, fun σ H δ S Q Qh r s t kk => ?_⟩
  refine ha.go σ H δ S _ _ r s t fun vs H1 ds S1 r1 x1 d1 t1 => ?_
  rw [List.append_nil]
  exact spdL_go r1 d1 (.inl ⟨rfl, rfl⟩) t1 (kk.on x1)
theorem de_callRL_ (K : PySem.W.Frag) (F : FnG X.prog X.w K X.mg X.base CX0 k f fd ps (spR K specR)) (room : Room k X.A) (guard : X.A.guards = some [])
    (hg : Gl X x) (hm : X.mg x = some (.ref f)) (kp : PySem.W.keepIn K (.ref f) = true) (hb : Binds K fd ps []) (h1 : dx.hand = handR c d) (h2 : dx.J = RandOk c d) (ha : DA X dx (e :: es) ta fa)
    (hdb : (x == ("__debug__" : Str)) = false := by decide)
    (he : starEach (e :: es) X.env = (false, eval e X.env) :: starEach es X.env := by rfl)
    (hpl : (backTo pos (starEach es X.env)).any (·.1) = false := by rfl) (hK : X.K = K := by rfl) :
    DE X dx (.Call (.Name x p) (e :: es) [] pos) (tCall (spR K specR) [] (fun _ _ _ => False) ta) (dCallL (specR c) fa) := by
  subst hK
  refine ⟨pe_callG F room guard hg hm kp hb .nil pass0 ha.pe hdb he hpl, fun σ H δ S Q Qh r s t kk => ?_⟩
  refine ha.go σ H δ S _ _ r s t fun vs H1 ds S1 r1 x1 d1 t1 => ?_
  rw [List.append_nil]
  exact ⟨c, d, spdL_go r1 d1 (.inr ⟨h1.symm, h2.symm⟩) t1 (kk.on x1)⟩
end
end DL
/-! A list of one's own while an expression only reads it. -/
namespace DL
open PySem PySem.Spec L2 Gd
section
variable {K : PySem.W.Frag} {M M' : Mm} {H : Hp}
mutual
theorem loan_back {p : Addr} {vs : List V} (hp : H p = some (.lst vs)) (hm : ∀ b, M'.mu b → M.mu b ∨ b = p) : ∀ {v : V} {d : D}, Dt K M H v d → noL d = true → Dt K M' H v d
  | _, _, .non, _ => .non
  | _, _, .bl b, _ => .bl b
  | _, _, .int i, _ => .int i
  | _, _, .str x, _ => .str x
  | _, _, .tup n h al, q => by
    refine .tup (fun z => ?_) h (loan_backs hp hm al q)
    rcases hm _ z with z | z
    · exact n z
    · subst z
      rcases h with h | ⟨o, h⟩
      · rw [hp] at h; cases h
      · rw [hp] at h; cases h
  | _, _, .ktup h al, q => .ktup h (loan_backs hp hm al q)
  | _, _, .adr a, _ => .adr a
  | _, _, .lst _ _ _, q => (Bool.false_ne_true q).elim
  | _, _, .fls _ _, q => (Bool.false_ne_true q).elim
  | _, _, .kfls _, q => (Bool.false_ne_true q).elim
  | _, _, .dic _ _ _ _, q => (Bool.false_ne_true q).elim
  | _, _, .obj _ _ _ _ _, q => (Bool.false_ne_true q).elim
theorem loan_backs {p : Addr} {vs : List V} (hp : H p = some (.lst vs)) (hm : ∀ b, M'.mu b → M.mu b ∨ b = p) : ∀ {us : List V} {ds : List D}, DtAll K M H us ds → noL.noLs ds = true → DtAll K M' H us ds
  | _, _, .nil, _ => .nil
  | _, _, .cons h t, q => by
    have q : (noL _ && noL.noLs _) = true := q
    rw [Bool.and_eq_true] at q
    exact .cons (loan_back hp hm h q.1) (loan_backs hp hm t q.2)
end
end
def celN : Cel → Bool
  | .l xs => noL.noLs xs
  | .d kvs => noL.noLs (kvs.map (·.2))
/-- the list in slot i is only read while t is found -/
def dLoan (i : Nat) (t : DTE) : DTE := fun δ S Q => match gt δ i with
  | some (.adr p) => opt (getS S p) fun ds => t (put δ i (.lst ds)) (delS S p) fun d S1 => noL d = true ∧ (S1.all fun q => celN q.2) = true ∧ Q d ((p, .l ds) :: S1)
  | _ => False
section
variable {X : Cx} {dx : Dx} {e : Expr} {te : TE} {t : DTE}
theorem mu_back {dx : Dx} {p : Addr} {ds : List D} {S1 : Sto} : ∀ b, (Mu dx ((p, .l ds) :: S1)).mu b → (Mu dx S1).mu b ∨ b = p := by
  rintro b (z | z | z)
  · exact .inl (.inl z)
  · exact .inl (.inr (.inl z))
  · rcases List.mem_cons.mp z with z | z
    · exact .inr z
    · exact .inl (.inr (.inr z))
theorem de_loan (i : Nat) (h : DE X dx e te t) : DE X dx e te (dLoan i t) := by
  refine ⟨h.pe, fun σ H δ S Q Qh r s q k => ?_⟩
  unfold dLoan at q
  split at q
  · rename_i p g
    obtain ⟨ds, eg, q⟩ := opt_run q
    obtain ⟨v, e1, d1⟩ := s.ix i _ (gt_ix g)
    cases d1
    rw [put_set] at q
    have m := getS_mem eg
    have mp : p ∈ S.map (·.1) := List.mem_map.mpr ⟨_, m, rfl⟩
    obtain ⟨vs, eh, al⟩ := r.getL eg
    have r2 := r.del p
    have s2 := (s.ext (ext_del (p := p))).set i (r.frozen eg)
    have e2 : σ.set i (some (.ref p)) = σ := by
      apply List.ext_getElem?
      intro j
      by_cases hj : i = j
      · subst hj
        rw [List.getElem?_set_self (List.getElem?_eq_some_iff.mp e1).1, e1]
      · rw [List.getElem?_set_ne hj]
    rw [e2] at s2
    have np : ¬ (Mu dx (delS S p)).mu p := by
      rintro (z | z | z)
      · exact r.own_not mp z
      · exact r.own_not mp (r.hm _ z)
      · exact (delS_mem z).2 rfl
    refine h.go σ H _ _ _ Qh r2 s2 q fun w H1 d S1 r1 x1 d1 q1 => ?_
    have nc : ¬ (Mu dx (delS S p)).ch p := fun z => np (.inr z)
    have eh1 : H1 p = some (.lst vs) := x1.keep p _ nc eh
    have n1 : ¬ (Mu dx S1).mu p := fun z => by
      have := x1.fresh p z np
      rw [eh] at this
      cases this
    have X1 : Ext (Mu dx S) H (Mu dx ((p, .l ds) :: S1)) H1 := by
      refine ⟨fun b o n eb => x1.keep b o (fun z => n (z.elim .inl fun z => .inr (delS_mem z).1)) eb, fun b z n => ?_, fun b z n => ?_⟩
      · rcases mu_back b z with z | z
        · exact x1.fresh b z fun z => n (z.elim .inl fun z => .inr (z.elim .inl fun z => .inr (delS_mem z).1))
        · subst z; exact absurd (.inr (.inr mp)) n
      · rcases z with z | z
        · exact absurd (.inl z) n
        · rcases List.mem_cons.mp z with z | z
          · subst z; exact absurd (.inr mp) n
          · exact x1.freshC b (.inr z) fun z => n (z.elim .inl fun z => .inr (delS_mem z).1)
    refine k w H1 d _ ⟨fun b c mb => ?_, ?_, r1.live, fun b mb => ?_, r1.keep, r1.j, r1.stab, r1.hm⟩ X1 (loan_back eh1 mu_back d1 q1.1) q1.2.2
    · rcases List.mem_cons.mp mb with mb | mb
      · cases mb
        exact ⟨_, eh1, .l (al.ext X1)⟩
      · obtain ⟨o, eo, co⟩ := r1.sto b c mb
        have cn := List.all_eq_true.mp q1.2.1 _ mb
        refine ⟨o, eo, ?_⟩
        cases co with
        | l a => exact .l (loan_backs eh1 mu_back a cn)
        | d hk a => exact .d hk (loan_backs eh1 mu_back a cn)
    · exact List.nodup_cons.mpr ⟨fun z => n1 (.inr (.inr z)), r1.nd⟩
    · rcases List.mem_cons.mp mb with mb | mb
      · subst mb; exact r.own _ mp
      · exact r1.own b mb
  · exact q.elim
/-- a list that will be changed, beside others -/
def dNewF (t : DTA) : DTE := fun δ S Q => t δ S fun ds S1 => Fit ds.length ∧ ∀ p, p ∉ S1.map (·.1) → Q (.adr p) ((p, .l ds) :: S1)
theorem de_newF {es : List Expr} {pos : Pos} {tr : TA} {fr : DTA} (h : DA X dx es tr fr) : DE X dx (.List es pos) (tLst tr) (dNewF fr) := by
  refine ⟨pe_lst h.pe, fun σ H δ S Q Qh r0 s0 t k => ?_⟩
  refine h.go σ H δ S _ _ r0 s0 t fun vs H1 ds S1 r1 x1 d1 t1 => ⟨by rw [d1.length]; exact t1.1.line, fun p n => ?_⟩
  have g := r1.grow n d1
  exact k _ _ _ _ g (x1.trans (ext_own r1 n)) (.adr p) (t1.2 p (List.nodup_cons.mp g.nd).1)
/-- .. and beside what is handed over -/
def dNewR (a : Addr) (t : DTA) : DTE := fun δ S Q => t δ S fun ds S1 => Fit ds.length ∧ ∀ p, p ≠ a → p ∉ S1.map (·.1) → Q (.adr p) ((p, .l ds) :: S1)
theorem de_newR {a c : Addr} {es : List Expr} {pos : Pos} {tr : TA} {fr : DTA} (h1 : dx.hand = handR a c) (h : DA X dx es tr fr) : DE X dx (.List es pos) (tLst tr) (dNewR a fr) := by
  refine ⟨pe_lst h.pe, fun σ H δ S Q Qh r0 s0 t k => ?_⟩
  refine h.go σ H δ S _ _ r0 s0 t fun vs H1 ds S1 r1 x1 d1 t1 => ⟨by rw [d1.length]; exact t1.1.line, fun p n => ?_⟩
  have g := r1.grow n d1
  refine k _ _ _ _ g (x1.trans (ext_own r1 n)) (.adr p) (t1.2 p (fun e => ?_) (List.nodup_cons.mp g.nd).1)
  subst e
  have hp : dx.hand p := by rw [h1]; exact .inl rfl
  exact (g.own p List.mem_cons_self).2 (g.hm p hp)
end
end DL
/-! xs[::-1] of a list or of a tuple. -/
namespace DL
open PySem PySem.Spec PyProof.Rows L2 HT
section
variable {P : Program} {w : World} {A : Around} {E : Value → Shared → Prop} {s : Shared}
theorem back_adjust (n : Nat) : Builtin.Slice.sliceAdjust none none (-1) (n : Int) = ((n : Int) - 1, -1) := by
  unfold Builtin.Slice.sliceAdjust
  have : (-1 : Int) < 0 := by decide
  simp only [this, if_true]
theorem back_places (n : Nat) : Builtin.Slice.slicePlaces ((n : Int) - 1) (-1) (-1) = n := by
  unfold Builtin.Slice.slicePlaces
  have h1 : ¬ ((-1 : Int) > 0) := by decide
  simp only [h1, if_false]
  by_cases z : n = 0
  · subst z; decide
  · rw [if_pos (by omega), show (-(-1 : Int)) = 1 from rfl, Int.ediv_one]
    omega
theorem filterMap_some {α β : Type} {f : α → Option β} {g : α → β} : ∀ {l : List α}, (∀ x ∈ l, f x = some (g x)) → l.filterMap f = l.map g
  | [], _ => rfl
  | x :: l, h => by rw [List.filterMap_cons_some (h x List.mem_cons_self), filterMap_some fun y m => h y (List.mem_cons_of_mem _ m), List.map_cons]
theorem back_pick (its : List Value) : (List.range its.length).filterMap (fun (k : Nat) => its.toArray[(((its.length : Int) - 1) + (k : Int) * (-1)).toNat]?) = its.reverse := by
  apply List.ext_getElem?
  intro i
  have all : (List.range its.length).filterMap (fun (k : Nat) => its.toArray[(((its.length : Int) - 1) + (k : Int) * (-1)).toNat]?) = (List.range its.length).map fun k => its.getD (its.length - 1 - k) .none := by
    refine filterMap_some fun k m => ?_
    have lt := List.mem_range.mp m
    have e : (((its.length : Int) - 1) + (k : Int) * (-1)).toNat = its.length - 1 - k := by omega
    have lt2 : its.length - 1 - k < its.length := by omega
    rw [e]
    show its.toArray[its.length - 1 - k]? = some (its.getD (its.length - 1 - k) .none)
    rw [List.getElem?_toArray, List.getD_eq_getElem?_getD, List.getElem?_eq_getElem lt2]
    rfl
  rw [all, List.getElem?_map]
  by_cases lt : i < its.length
  · rw [List.getElem?_range lt, List.getElem?_reverse lt]
    show some (its.getD (its.length - 1 - i) .none) = _
    rw [List.getD_eq_getElem?_getD, List.getElem?_eq_getElem (by omega)]
    rfl
  · rw [List.getElem?_eq_none (by rw [List.length_range]; omega), List.getElem?_eq_none (by rw [List.length_reverse]; omega)]
    rfl
/-- what the machine makes of t[::-1] -/
theorem getItem_tuple_back {t sl : Addr} {its : List Value} {c : Value} {Q : Value → Shared → Prop} (ht : IsTup s.heap t its.toArray) (hs : s.heap.IsSliceOf sl .none .none c) (pc : IsPart c (some (-1))) (few : its.length ≤ sizeLine)
    (h2 : Q (.ref s.heap.objs.size) { s with heap := s.heap.push { cls := .type "tuple", data := .seq its.reverse.toArray } }) : wpAny (model P w) A (getItem (.ref t) (.ref sl)) Q E s := by
  obtain ⟨so, so1, so2, so3⟩ := id hs
  have isS : s.TypeIs (.ref sl) "slice" := ⟨so, so1, so2⟩
  have isT := ht.typeIs
  have fit : sizeOk (.seq its.reverse.toArray) := by
    show its.reverse.toArray.size ≤ sizeLine
    rw [List.size_toArray, List.length_reverse]
    exact few
  have sz : its.toArray.size = its.length := List.size_toArray ..
  unfold getItem
  refine wpAny_holding (wpAny_bind (wpAny_sequenceKey isT (by decide) (wpAny_bind (wpAny_callSpecial?_slot (name := Str.ofString "__getitem__") isT PyProof.Rows.slot_tuple_getitem (wpAny_call_entry PyProof.Rows.slot_tuple_getitem isT entry_tuple_getitem ?_ (args_tuple_getitem _ _))))))
  show wpAny _ _ (Builtin.Tuple.tupleItemsOf (.ref t) >>= _) _ _ s
  refine wpAny_bind (tupleItemsOf_ ht (wpAny_bind (wpAny_typeOf isS ?_)))
  rw [if_pos (by decide)]
  have cut : ∀ {R : Int × Int × Nat → Shared → Prop} {B : Around}, R ((its.length : Int) - 1, -1, its.length) s → wpAny (model P w) B (Builtin.Slice.sliceApplied (.ref sl) (pure ((its.toArray.size : Nat) : Int))) R E s := by
    intro R B hR
    rw [sz]
    unfold Builtin.Slice.sliceApplied Builtin.Slice.sliceFields
    refine wpAny_bind (wpAny_bind (wpAny_field so1 so3 (x := .none) rfl (wpAny_bind (wpAny_field so1 so3 (x := .none) rfl (wpAny_bind (wpAny_field so1 so3 (x := c) rfl (wpAny_pure (wpAny_bind (slicePart_ pc ?_)))))))))
    show wpAny _ _ (if ((-1 : Int) == 0) = true then _ else _) _ _ s
    rw [if_neg (by decide)]
    refine wpAny_bind (slicePart_none (wpAny_bind (slicePart_none (wpAny_bind (wpAny_pure ?_)))))
    show wpAny _ _ (match Builtin.Slice.sliceAdjust none none (-1) (its.length : Int) with | (x, y) => pure (x, (-1 : Int), Builtin.Slice.slicePlaces x y (-1))) _ _ s
    rw [back_adjust]
    show wpAny _ _ (pure ((its.length : Int) - 1, (-1 : Int), Builtin.Slice.slicePlaces ((its.length : Int) - 1) (-1) (-1))) _ _ s
    rw [back_places]
    exact wpAny_pure hR
  refine wpAny_bind (cut ?_)
  show wpAny _ _ (if ((its.length : Int) - 1 == 0 && (-1 : Int) == 1 && its.length == its.toArray.size) = true then _ else _) _ _ s
  rw [if_neg (by rw [show ((-1 : Int) == 1) = false from rfl, Bool.and_false, Bool.false_and]; exact Bool.false_ne_true), back_pick]
  first
    | exact wpAny_bind (m := Builtin.Tuple.tupleExact _) (wpAny_newObj_type (wpAny_pure ⟨_, rfl, wpAny_pure h2⟩) fit)
    | exact wpAny_bind (m := Builtin.Tuple.tupleExact _) (wpAny_newObj_type (wpAny_bind (wpAny_pure (wpAny_pure ⟨_, rfl, wpAny_pure h2⟩))) fit)
    | exact wpAny_bind (wpAny_bind (m := Builtin.Tuple.tupleExact _) (wpAny_newObj_type (wpAny_pure (wpAny_pure ⟨_, rfl, wpAny_pure h2⟩)) fit))
    | exact wpAny_bind (wpAny_bind (m := Builtin.Tuple.tupleExact _) (wpAny_newObj_type (wpAny_pure ⟨_, rfl, wpAny_pure h2⟩) fit))
end
section
variable {X : Cx} {dx : Dx} {K : PySem.W.Frag}
def tRevA (K : PySem.W.Frag) (te : TE) : TE := fun σ H Q => te σ H fun x H1 => ∃ a xs, x = .ref a ∧ ((SqL K H1 a xs ∧ ∀ p, H1 p = none → Q (.ref p) (upd H1 p (.lst xs.reverse))) ∨ (SqT K H1 a xs ∧ ∀ p, H1 p = none → Q (.ref p) (upd H1 p (.tup xs.reverse))))
theorem pe_revA {e : Expr} {te : TE} {k : Nat} {p1 p2 p3 pos : Pos} (he : PE X e te) : PE X (.Subscript e (.Slice none none (some (.UnaryOp .USub (.Constant (.int 1) k p1) p2)) p3) pos) (tRevA X.K te) := by
  constructor
  intro pins s σ H Q I h
  refine Subscript_ (thn (he.run pins s σ H _ I h) fun v s1 ⟨x, H1, I1, r1, a, xs, ex, both⟩ => ?_)
  subst ex
  cases r1
  have step : PO X (some (.UnaryOp .USub (.Constant (.int 1) k p1) p2)) (tPart (tUn (rU fun i => .int (-i)) (tC (.int 1)))) := po_some (pe_un un_neg pe_int)
  refine wpAny_Slice (thn (po_none.run pins s1 σ H1 (fun o H2 => o = none ∧ H2 = H1) I1 ⟨rfl, rfl⟩) fun v1 s2 ⟨o1, H2, I2, q1, n1, n2⟩ => ?_)
  cases n1; cases n2
  refine thn (po_none.run pins s2 σ _ (fun o H3 => o = none ∧ H3 = _) I2 ⟨rfl, rfl⟩) fun v2 s3 ⟨o2, H3, I3, q2, n1, n2⟩ => ?_
  cases n1; cases n2
  refine thn (step.run pins s3 σ _ (fun o H4 => o = some (-1) ∧ H4 = _) I3 ⟨1, rfl, -1, rfl, rfl, rfl⟩) fun v3 s4 ⟨o3, H4, I4, q3, n1, n2⟩ => ?_
  cases n1; cases n2
  have I5 := I4.kept (t' := s4.toks) (h' := s4.heap.push { cls := .type "slice", data := .fields #[v1, v2, v3] }) fun b ob z => Heap.get?_push_of_some _ z
  have sl := Heap.IsSliceOf.new s4.heap v1 v2 v3
  show wpAny (model X.prog X.w) X.A (subscriptTail e (.Slice none none (some (.UnaryOp .USub (.Constant (.int 1) k p1) p2)) p3) (.ref a) (.ref s4.heap.objs.size)) (EP X pins σ Q) X.xe { s4 with heap := s4.heap.push { cls := .type "slice", data := .fields #[v1, v2, v3] } }
  have fr := I5.hok.fresh (Nat.le_refl _)
  rcases both with ⟨hs, q⟩ | ⟨hs, q⟩
  · obtain ⟨its, r, pl, hz⟩ := I5.list hs
    have len := r.length
    refine tail_any (ops := [.ref a, .ref s4.heap.objs.size]) pl.isList.typeIs (PySem.slot_list_getitem.lookup) ?_ (by with_unfolding_all rfl)
    refine wpAny_getItem_list_slice pl.isList sl q1 q2 q3 (by decide) ?_ (by rw [List.size_toArray]; omega)
    rw [PySem.W.krv_pick]
    exact ⟨.ref _, _, I5.laid (t' := s4.toks) (o := .lst xs.reverse) (fun b ob z => Heap.get?_push_of_some _ z) (Nat.le_refl _) ⟨by rw [List.length_reverse]; exact hz, _, 0, r.reverse, Heap.get?_push_size _ rfl⟩, rfl, q _ fr⟩
  · obtain ⟨its, r, pt, hz⟩ := I5.tuple hs
    have len := r.length
    cases q1; cases q2
    refine tail_any (ops := [.ref a, .ref s4.heap.objs.size]) pt.typeIs (PyProof.Rows.slot_tuple_getitem.lookup) ?_ (by with_unfolding_all rfl)
    refine getItem_tuple_back pt sl q3 (by omega) ?_
    exact ⟨.ref _, _, I5.laid (t' := s4.toks) (o := .tup xs.reverse) (fun b ob z => Heap.get?_push_of_some _ z) (Nat.le_refl _) ⟨by rw [List.length_reverse]; exact hz, _, r.reverse, IsTup.new _ _⟩, rfl, q _ fr⟩
def fRevA : D → Sto → (D → Sto → Prop) → Prop
  | .lst ds, S, Q => Q (.lst ds.reverse) S
  | .tup ds, S, Q => Q (.tup ds.reverse) S
  | .adr p, S, Q => opt (getS S p) fun ds => Q (.lst ds.reverse) S
  | _, _, _ => False
theorem de_revA {e : Expr} {te : TE} {fa : DTE} {k' : Nat} {p1 p2 p3 pos : Pos} (K : PySem.W.Frag) (he : DE X dx e te fa) (hK : X.K = K := by rfl) : DE X dx (.Subscript e (.Slice none none (some (.UnaryOp .USub (.Constant (.int 1) k' p1) p2)) p3) pos) (tRevA K te) (dUn fRevA fa) := by
  subst hK
  refine ⟨pe_revA he.pe, fun σ H δ S Q Qh r s t k => ?_⟩
  refine he.go σ H δ S _ _ r s t fun v H1 d S1 r1 x1 d1 t1 => ?_
  cases d with
  | lst ds =>
    obtain ⟨a, vs, rfl, _, eh, al⟩ := d1.sqL
    refine ⟨a, vs, rfl, .inl ⟨SqL.of eh, fun p n => ?_⟩⟩
    obtain ⟨r2, x2, d2⟩ := new_lst r1 n al.reverse
    exact k _ _ _ S1 r2 (x1.trans x2) d2 t1
  | tup ds =>
    obtain ⟨a, vs, rfl, hs, al⟩ := d1.sqT
    refine ⟨a, vs, rfl, .inr ⟨hs, fun p n => ?_⟩⟩
    obtain ⟨r2, x2, d2⟩ := new_tup r1 n al.reverse
    exact k _ _ _ S1 r2 (x1.trans x2) d2 t1
  | adr q =>
    obtain ⟨ds, g, t1⟩ := opt_run t1
    cases d1
    obtain ⟨_, vs, eh, al⟩ := r1.get g
    refine ⟨q, vs, rfl, .inl ⟨SqL.of eh, fun p n => ?_⟩⟩
    obtain ⟨r2, x2, d2⟩ := new_lst r1 n al.reverse
    exact k _ _ _ S1 r2 (x1.trans x2) d2 t1
  | _ => exact t1.elim
end
end DL
namespace DL
open PySem PySem.Spec L2 Gd
namespace K8
abbrev prog : Program := PySem.Challenge.pw_allworlds_k48_whole_least_blockers
def top (i : Nat) : Stmt := prog.main.body.getD i (.Pass ⟨0, 0, 0, 0⟩)
abbrev s_least_masks : Stmt := top 2
abbrev s_bits_in : Stmt := top 4
abbrev s_is_least_blocker : Stmt := top 5
abbrev s_least_blocking : Stmt := top 3
abbrev s_least_blockers : Stmt := top 1
abbrev s__law_heap : Stmt := top 7
abbrev s__law_draw : Stmt := top 8
abbrev s__law_pick : Stmt := top 9
abbrev s__law_lots : Stmt := top 10
abbrev s__law_least : Stmt := top 11
abbrev s__law_numbers : Stmt := top 12
abbrev s__law_blocking : Stmt := top 13
abbrev s__law_drawn : Stmt := top 14
abbrev s__law_longer : Stmt := top 16
abbrev s__law_pairs_right : Stmt := top 15
abbrev s_law : Stmt := top 17
structure Txt (K : PySem.W.Frag) (mg : Str → Option Value) where
  least_masks : CalD K mg "least_masks" s_least_masks ["masks"]
  bits_in : CalD K mg "bits_in" s_bits_in ["mask"]
  is_least_blocker : CalD K mg "is_least_blocker" s_is_least_blocker ["masks", "blocker"]
  least_blocking : CalD K mg "least_blocking" s_least_blocking ["masks"]
  least_blockers : CalD K mg "least_blockers" s_least_blockers ["lots"]
  _law_heap : CalD K mg "_law_heap" s__law_heap ["_law_script"]
  _law_draw : CalD K mg "_law_draw" s__law_draw ["_law_heap_here", "_law_many"]
  _law_pick : CalD K mg "_law_pick" s__law_pick ["_law_heap_here", "_law_some"]
  _law_lots : CalD K mg "_law_lots" s__law_lots ["_law_things"]
  _law_least : CalD K mg "_law_least" s__law_least ["_law_lots_here"]
  _law_numbers : CalD K mg "_law_numbers" s__law_numbers ["_law_lots_here"]
  _law_blocking : CalD K mg "_law_blocking" s__law_blocking ["_law_lots_here"]
  _law_drawn : CalD K mg "_law_drawn" s__law_drawn ["_law_heap_here", "_law_numbers_here"]
  _law_longer : CalD K mg "_law_longer" s__law_longer ["_law_lots_here", "_law_at"]
  _law_pairs_right : CalD K mg "_law_pairs_right" s__law_pairs_right ["_law_heap_here"]
  law : CalD K mg "law" s_law ["_law_script"]
  b_abs : mg "abs" = none
  b_all : mg "all" = none
  b_any : mg "any" = none
  b_enumerate : mg "enumerate" = none
  b_int : mg "int" = none
  b_len : mg "len" = none
  b_list : mg "list" = none
  b_range : mg "range" = none
  b_repr : mg "repr" = none
  b_set : mg "set" = none
  b_sorted : mg "sorted" = none
  b_sum : mg "sum" = none
  b_tuple : mg "tuple" = none
def kb_least_blockers_0_lots_g {α : Type} (us ws : List α) : List α := match us, ws with
  | [], [w0] => [w0]
  | _, _ => []
theorem kb_least_blockers_0_lots {K : PySem.W.Frag} {f : Addr} {fd : FuncData} (F : Fun K "least_blockers" "least_blockers" s_least_blockers f fd) : KBinds K fd ["lots"] ["lots"] kb_least_blockers_0_lots_g kb_least_blockers_0_lots_g := by
  obtain ⟨oc, od, kV, doc, pm, an, cdv, ct, osl, rfl, lk, hcd⟩ := F.ex
  constructor
  · intro s us ws _ hl
    unfold kb_least_blockers_0_lots_g at hl ⊢
    split at hl
    · exact .of_eq rfl
    · cases hl
  · intro vs us zs ws r1 r2
    cases r1 with
    | cons _ _ => exact .nil
    | nil =>
      cases r2 with
      | nil => exact .nil
      | cons cw0 r2 =>
        cases r2 with
        | cons _ _ => exact .nil
        | nil =>
          exact (.cons cw0 .nil)
theorem kb_least_blockers_0_lots_ord : KOrd kb_least_blockers_0_lots_g kb_least_blockers_0_lots_g := by
  constructor
  · intro K M H vs ws ds es r1 r2
    cases r1 with
    | cons _ _ => exact .nil
    | nil =>
      cases r2 with
      | nil => exact .nil
      | cons cw0 r2 =>
        cases r2 with
        | cons _ _ => exact .nil
        | nil =>
          exact (.cons cw0 .nil)
theorem sc_least_masks : FnScope ["masks", "kept", "mask", "other"] ["masks"] (defScope s_least_masks) := ⟨rfl, rfl, rfl, by decide +kernel, rfl, by decide +kernel, by decide +kernel⟩
theorem sc_bits_in : FnScope ["mask", "bits"] ["mask"] (defScope s_bits_in) := ⟨rfl, rfl, rfl, by decide +kernel, rfl, by decide +kernel, by decide +kernel⟩
theorem sc_is_least_blocker : FnScope ["masks", "blocker", "alone", "mask", "shared"] ["masks", "blocker"] (defScope s_is_least_blocker) := ⟨rfl, rfl, rfl, by decide +kernel, rfl, by decide +kernel, by decide +kernel⟩
theorem sc_least_blocking : FnScope ["masks", "found", "waiting", "many", "blocker", "seen", "longer", "bit", "mask"] ["masks"] (defScope s_least_blocking) := ⟨rfl, rfl, rfl, by decide +kernel, rfl, by decide +kernel, by decide +kernel⟩
theorem sc_least_blockers : FnScope ["lots", "things", "bits", "ordered", "masks", "blockers", "mask", "place", "thing", "lot", "blocker"] ["lots"] (defScope s_least_blockers) := ⟨rfl, rfl, rfl, by decide +kernel, rfl, by decide +kernel, by decide +kernel⟩
theorem sc__law_heap : FnScope ["_law_script", "_law_stir", "_law_cell"] ["_law_script"] (defScope s__law_heap) := ⟨rfl, rfl, rfl, by decide +kernel, rfl, by decide +kernel, by decide +kernel⟩
theorem sc__law_draw : FnScope ["_law_heap_here", "_law_many", "_law_rest"] ["_law_heap_here", "_law_many"] (defScope s__law_draw) := ⟨rfl, rfl, rfl, by decide +kernel, rfl, by decide +kernel, by decide +kernel⟩
theorem sc__law_pick : FnScope ["_law_heap_here", "_law_some"] ["_law_heap_here", "_law_some"] (defScope s__law_pick) := ⟨rfl, rfl, rfl, by decide +kernel, rfl, by decide +kernel, by decide +kernel⟩
theorem sc__law_lots : FnScope ["_law_things", "_law_found", "_law_thing", "_law_lot"] ["_law_things"] (defScope s__law_lots) := ⟨rfl, rfl, rfl, by decide +kernel, rfl, by decide +kernel, by decide +kernel⟩
theorem sc__law_least : FnScope ["_law_lots_here", "_law_kept", "_law_lot", "_law_other", "_law_thing"] ["_law_lots_here"] (defScope s__law_least) := ⟨rfl, rfl, rfl, by decide +kernel, rfl, by decide +kernel, by decide +kernel⟩
theorem sc__law_numbers : FnScope ["_law_lots_here", "_law_found", "_law_lot"] ["_law_lots_here"] (defScope s__law_numbers) := ⟨rfl, rfl, rfl, by decide +kernel, rfl, by decide +kernel, by decide +kernel⟩
theorem sc__law_blocking : FnScope ["_law_lots_here", "_law_lot", "_law_other", "_law_thing"] ["_law_lots_here"] (defScope s__law_blocking) := ⟨rfl, rfl, rfl, by decide +kernel, rfl, by decide +kernel, by decide +kernel⟩
theorem sc__law_drawn : FnScope ["_law_heap_here", "_law_numbers_here", "_law_found", "_law_turn", "_law_lot", "_law_number"] ["_law_heap_here", "_law_numbers_here"] (defScope s__law_drawn) := ⟨rfl, rfl, rfl, by decide +kernel, rfl, by decide +kernel, by decide +kernel⟩
theorem sc__law_longer : FnScope ["_law_lots_here", "_law_at", "_law_lot"] ["_law_lots_here", "_law_at"] (defScope s__law_longer) := ⟨rfl, rfl, rfl, by decide +kernel, rfl, by decide +kernel, by decide +kernel⟩
theorem sc__law_pairs_right : FnScope ["_law_heap_here", "_law_many", "_law_at", "_law_lots_here", "_law_due"] ["_law_heap_here"] (defScope s__law_pairs_right) := ⟨rfl, rfl, rfl, by decide +kernel, rfl, by decide +kernel, by decide +kernel⟩
theorem sc_law : FnScope ["_law_script", "_law_heap_here", "_law_turn", "_law_numbers_here", "_law_lots_here", "_law_first", "_law_step", "_law_due", "_law_told", "_law_at"] ["_law_script"] (defScope s_law) := ⟨rfl, rfl, rfl, by decide +kernel, rfl, by decide +kernel, by decide +kernel⟩
end K8
end DL
/-! Lots and their least blockers, as sets. -/
namespace DL
namespace K8
section
variable {α : Type} [LT α] [DecidableLT α]
def insA (x : α) : List α → List α
  | [] => [x]
  | y :: ys => if x < y then x :: y :: ys else if y < x then y :: insA x ys else y :: ys
structure Lin (α : Type) [LT α] : Prop where
  irr : ∀ a : α, ¬ a < a
  tr : ∀ a b c : α, a < b → b < c → a < c
  tri : ∀ a b : α, a < b ∨ a = b ∨ b < a
theorem mem_insA (h : Lin α) {x : α} : ∀ {ys : List α} {k : α}, k ∈ insA x ys ↔ k = x ∨ k ∈ ys
  | [], k => by simp [insA]
  | y :: ys, k => by
    unfold insA
    split
    · simp
    · split
      · rw [List.mem_cons, mem_insA h, List.mem_cons]
        constructor
        · rintro (a | a | a)
          · exact .inr (.inl a)
          · exact .inl a
          · exact .inr (.inr a)
        · rintro (a | a | a)
          · exact .inr (.inl a)
          · exact .inl a
          · exact .inr (.inr a)
      · rename_i n1 n2
        have e : x = y := by
          rcases h.tri x y with a | a | a
          · exact absurd a n1
          · exact a
          · exact absurd a n2
        subst e
        simp
theorem asc_insA (h : Lin α) {x : α} : ∀ {ys : List α}, ys.Pairwise (· < ·) → (insA x ys).Pairwise (· < ·)
  | [], _ => by simp [insA]
  | y :: ys, a => by
    have ⟨a1, a2⟩ := List.pairwise_cons.mp a
    unfold insA
    split
    · rename_i l
      refine List.pairwise_cons.mpr ⟨fun z m => ?_, a⟩
      rcases List.mem_cons.mp m with rfl | m
      · exact l
      · exact h.tr _ _ _ l (a1 z m)
    · split
      · rename_i l
        refine List.pairwise_cons.mpr ⟨fun z m => ?_, asc_insA h a2⟩
        rcases (mem_insA h).mp m with rfl | m
        · exact l
        · exact a1 z m
      · exact a
theorem asc_of (h : Lin α) : ∀ xs : List α, ∃ es : List α, es.Pairwise (· < ·) ∧ ∀ k, k ∈ es ↔ k ∈ xs
  | [] => ⟨[], .nil, fun k => Iff.rfl⟩
  | x :: xs => by
    obtain ⟨es, p, m⟩ := asc_of h xs
    exact ⟨insA x es, asc_insA h p, fun k => by rw [mem_insA h, m, List.mem_cons]⟩
theorem asc_ext (h : Lin α) : ∀ {es fs : List α}, es.Pairwise (· < ·) → fs.Pairwise (· < ·) → (∀ k, k ∈ es ↔ k ∈ fs) → es = fs
  | [], [], _, _, _ => rfl
  | [], f :: fs, _, _, m => nomatch (m f).mpr List.mem_cons_self
  | e :: es, [], _, _, m => nomatch (m e).mp List.mem_cons_self
  | e :: es, f :: fs, pe, pf, m => by
    have ⟨e1, e2⟩ := List.pairwise_cons.mp pe
    have ⟨f1, f2⟩ := List.pairwise_cons.mp pf
    have q : e = f := by
      rcases List.mem_cons.mp ((m e).mp List.mem_cons_self) with q | q
      · exact q
      · rcases List.mem_cons.mp ((m f).mpr List.mem_cons_self) with q2 | q2
        · exact q2.symm
        · exact absurd (h.tr _ _ _ (e1 f q2) (f1 e q)) (h.irr _)
    subst q
    rw [asc_ext h e2 f2 fun k => ?_]
    constructor
    · intro a
      rcases List.mem_cons.mp ((m k).mp (List.mem_cons_of_mem _ a)) with q | q
      · subst q; exact absurd (e1 _ a) (h.irr _)
      · exact q
    · intro a
      rcases List.mem_cons.mp ((m k).mpr (List.mem_cons_of_mem _ a)) with q | q
      · subst q; exact absurd (f1 _ a) (h.irr _)
      · exact q
theorem asc_nodup (h : Lin α) {es : List α} (p : es.Pairwise (· < ·)) : es.Nodup := p.imp fun {a b} l e => by subst e; exact h.irr _ l
end
theorem linI : Lin Int := ⟨fun a => Int.lt_irrefl a, fun _ _ _ => Int.lt_trans, fun a b => Int.lt_trichotomy a b⟩
theorem linL : Lin (List Int) := ⟨fun a => List.lt_irrefl a, fun _ _ _ => List.lt_trans, list_tri⟩

abbrev Lot := List Int
abbrev Asc (a : Lot) : Prop := a.Pairwise (· < ·)
def Sub (a b : Lot) : Prop := ∀ x ∈ a, x ∈ b
def Hits (L : List Lot) (a : Lot) : Prop := ∀ l ∈ L, ∃ x ∈ l, x ∈ a
def less (a : Lot) (y : Int) : Lot := a.filter fun x => decide (x ≠ y)
def MinHit (L : List Lot) (a : Lot) : Prop := Asc a ∧ Hits L a ∧ ∀ y ∈ a, ¬ Hits L (less a y)
def MinLot (L : List Lot) (a : Lot) : Prop := a ∈ L ∧ ∀ o ∈ L, Sub o a → o = a
variable {L : List Lot} {a o : Lot}
theorem Sub.refl (a : Lot) : Sub a a := fun _ m => m
theorem Sub.trans {a b c : Lot} (h : Sub a b) (g : Sub b c) : Sub a c := fun x m => g x (h x m)
theorem mem_less {y x : Int} : x ∈ less a y ↔ x ∈ a ∧ x ≠ y := by simp [less]
theorem less_sub {y : Int} : Sub (less a y) a := fun x m => (mem_less.mp m).1
theorem asc_less {y : Int} (h : Asc a) : Asc (less a y) := h.sublist List.filter_sublist
theorem less_len {y : Int} (h : y ∈ a) : (less a y).length < a.length :=
  List.length_filter_lt_length_iff_exists.mpr ⟨y, h, by simp⟩
theorem Hits.mono (s : Sub o a) (h : Hits L o) : Hits L a := fun l m => let ⟨x, m1, m2⟩ := h l m; ⟨x, m1, s x m2⟩
theorem MinHit.least (h : MinHit L a) (ho : Asc o) (hh : Hits L o) (s : Sub o a) : o = a := by
  refine asc_ext linI ho h.1 fun k => ⟨s k, fun m => ?_⟩
  by_cases q : k ∈ o
  · exact q
  · exact absurd (Hits.mono (a := less a k) (fun x mx => mem_less.mpr ⟨s x mx, fun e => q (e ▸ mx)⟩) hh) (h.2.2 k m)
theorem min_in : ∀ (n : Nat) (a : Lot), a.length ≤ n → Asc a → Hits L a → ∃ o, MinHit L o ∧ Sub o a
  | n, a, hn, ha, hh => by
    by_cases q : ∃ y ∈ a, Hits L (less a y)
    · obtain ⟨y, my, hy⟩ := q
      have lt := less_len my
      match n, hn with
      | 0, hn => omega
      | n + 1, hn =>
        obtain ⟨o, h1, h2⟩ := min_in n (less a y) (by omega) (asc_less ha) hy
        exact ⟨o, h1, h2.trans less_sub⟩
    · exact ⟨a, ⟨ha, hh, fun y m z => q ⟨y, m, z⟩⟩, Sub.refl a⟩
theorem MinHit.lone (h : MinHit L a) {y : Int} (m : y ∈ a) : ∃ l ∈ L, y ∈ l ∧ ∀ z ∈ l, z ∈ a → z = y := by
  have n := h.2.2 y m
  unfold Hits at n
  obtain ⟨l, n⟩ := Classical.not_forall.mp n
  obtain ⟨ml, n⟩ := Classical.not_imp.mp n
  have al : ∀ z ∈ l, z ∈ a → z = y := fun z mz za => by
    refine Classical.byContradiction fun ne => n ⟨z, mz, mem_less.mpr ⟨za, ne⟩⟩
  obtain ⟨x, m1, m2⟩ := h.2.1 l ml
  have e := al x m1 m2
  subst e
  exact ⟨l, ml, m1, al⟩
theorem MinHit.of_lone (ha : Asc a) (hh : Hits L a) (h : ∀ y ∈ a, ∃ l ∈ L, ∀ z ∈ l, z ∈ a → z = y) : MinHit L a := by
  refine ⟨ha, hh, fun y m q => ?_⟩
  obtain ⟨l, ml, al⟩ := h y m
  obtain ⟨x, m1, m2⟩ := q l ml
  exact (mem_less.mp m2).2 (al x m1 (mem_less.mp m2).1)
theorem MinHit.congr {L' : List Lot} (h : ∀ a, Hits L a ↔ Hits L' a) : MinHit L a ↔ MinHit L' a := by
  unfold MinHit
  rw [h]
  constructor
  · exact fun ⟨p, q, r⟩ => ⟨p, q, fun y m z => r y m ((h _).mpr z)⟩
  · exact fun ⟨p, q, r⟩ => ⟨p, q, fun y m z => r y m ((h _).mp z)⟩
theorem sub_len (ha : Asc a) (ho : Asc o) (s : Sub o a) (ne : o ≠ a) : o.length < a.length := by
  have : ∃ y ∈ a, y ∉ o := by
    refine Classical.byContradiction fun q => ne (asc_ext linI ho ha fun k => ⟨s k, fun m => ?_⟩)
    exact Classical.byContradiction fun z => q ⟨k, m, z⟩
  obtain ⟨y, my, no⟩ := this
  have := nodup_le (us := less a y) (asc_nodup linI ho) fun k m => mem_less.mpr ⟨s k m, fun e => no (e ▸ m)⟩
  have := less_len my
  omega
theorem lot_in (hL : ∀ l ∈ L, Asc l) : ∀ (n : Nat) (a : Lot), a.length ≤ n → a ∈ L → ∃ o, MinLot L o ∧ Sub o a
  | n, a, hn, ma => by
    by_cases q : ∃ o ∈ L, Sub o a ∧ o ≠ a
    · obtain ⟨o, mo, so, ne⟩ := q
      have lt := sub_len (hL a ma) (hL o mo) so ne
      match n, hn with
      | 0, hn => omega
      | n + 1, hn =>
        obtain ⟨o2, h1, h2⟩ := lot_in hL n o (by omega) mo
        exact ⟨o2, h1, h2.trans so⟩
    · exact ⟨a, ⟨ma, fun o mo so => Classical.byContradiction fun ne => q ⟨o, mo, so, ne⟩⟩, Sub.refl a⟩
theorem hits_lots (hL : ∀ l ∈ L, Asc l) {E : List Lot} (hE : ∀ l, l ∈ E ↔ MinLot L l) (a : Lot) : Hits E a ↔ Hits L a := by
  constructor
  · intro h l m
    obtain ⟨o, mo, so⟩ := lot_in hL l.length l (Nat.le_refl _) m
    obtain ⟨x, m1, m2⟩ := h o ((hE o).mpr mo)
    exact ⟨x, so x m1, m2⟩
  · exact fun h l m => h l ((hE l).mp m).1
/-- the least blockers of the least blockers -/
theorem dual (hL : ∀ l ∈ L, Asc l) {E : List Lot} (hE : ∀ b, b ∈ E ↔ MinHit L b) (a : Lot) : MinHit E a ↔ MinLot L a := by
  have hits : ∀ l ∈ L, Hits E l := fun l m b mb => by
    obtain ⟨x, m1, m2⟩ := ((hE b).mp mb).2.1 l m
    exact ⟨x, m2, m1⟩
  have holds : ∀ a, Asc a → Hits E a → ∃ l ∈ L, Sub l a := by
    intro a ha hh
    refine Classical.byContradiction fun q => ?_
    obtain ⟨U, pU, mU⟩ := asc_of linI L.flatten
    have hc : Hits L (U.filter fun x => decide (x ∉ a)) := by
      intro l ml
      have : ∃ x ∈ l, x ∉ a := Classical.byContradiction fun z => q ⟨l, ml, fun x m => Classical.byContradiction fun n => z ⟨x, m, n⟩⟩
      obtain ⟨x, m1, m2⟩ := this
      exact ⟨x, m1, List.mem_filter.mpr ⟨(mU x).mpr (List.mem_flatten.mpr ⟨l, ml, m1⟩), decide_eq_true m2⟩⟩
    obtain ⟨b, hb, sb⟩ := min_in _ _ (Nat.le_refl _) (pU.sublist List.filter_sublist) hc
    obtain ⟨x, m1, m2⟩ := hh b ((hE b).mpr hb)
    exact of_decide_eq_true (List.mem_filter.mp (sb x m1)).2 m2
  constructor
  · intro h
    obtain ⟨l, ml, sl⟩ := holds a h.1 h.2.1
    have e := h.least (hL l ml) (hits l ml) sl
    subst e
    exact ⟨ml, fun o mo so => h.least (hL o mo) (hits o mo) so⟩
  · rintro ⟨ma, h⟩
    refine ⟨hL a ma, hits a ma, fun y my q => ?_⟩
    obtain ⟨l, ml, sl⟩ := holds _ (asc_less (hL a ma)) q
    have e := h l ml (sl.trans less_sub)
    subst e
    exact (mem_less.mp (sl y my)).2 rfl
end K8
end DL
/-! Masks: the search for all least ones that meet some masks. -/
namespace DL
namespace K8
abbrev T (m i : Nat) : Prop := m.testBit i = true
theorem ext_bits {m n : Nat} (h : ∀ i, T m i ↔ T n i) : m = n := Nat.eq_of_testBit_eq fun i => by
  have := h i
  cases e : m.testBit i <;> cases f : n.testBit i <;> simp_all
theorem T_and {m b i : Nat} : T (m &&& b) i ↔ T m i ∧ T b i := by simp [T, Nat.testBit_and]
theorem T_or {m b i : Nat} : T (m ||| b) i ↔ T m i ∨ T b i := by simp [T, Nat.testBit_or]
theorem T_pow {i j : Nat} : T (2 ^ i) j ↔ j = i := by simp [T, Nat.testBit_two_pow, eq_comm]
theorem T_zero {i : Nat} : ¬ T 0 i := by simp [T]
theorem T_lt {m i : Nat} (h : m < 1024) (t : T m i) : i < 10 := by
  refine Classical.byContradiction fun n => ?_
  have : m < 2 ^ i := Nat.lt_of_lt_of_le h (Nat.pow_le_pow_right (n := 2) (by decide) (by omega : 10 ≤ i))
  rw [T, Nat.testBit_lt_two_pow this] at t
  cases t
theorem and_ne {m b : Nat} : m &&& b ≠ 0 ↔ ∃ i, T m i ∧ T b i := by
  constructor
  · intro h
    refine Classical.byContradiction fun n => h (ext_bits fun i => ?_)
    rw [T_and]
    exact ⟨fun q => absurd ⟨i, q⟩ n, fun q => absurd q T_zero⟩
  · rintro ⟨i, h1, h2⟩ e
    have := T_and.mpr ⟨h1, h2⟩
    rw [e] at this
    exact T_zero this
def bitsN (m : Nat) : List Nat := ((List.range 10).filter m.testBit).map (2 ^ ·)
theorem mem_bits {m c : Nat} (h : m < 1024) : c ∈ bitsN m ↔ ∃ i, T m i ∧ c = 2 ^ i := by
  simp only [bitsN, List.mem_map, List.mem_filter, List.mem_range]
  constructor
  · rintro ⟨i, ⟨_, h2⟩, rfl⟩; exact ⟨i, h2, rfl⟩
  · rintro ⟨i, h2, rfl⟩; exact ⟨i, ⟨T_lt h h2, h2⟩, rfl⟩
theorem pow_inj {i j : Nat} (h : 2 ^ i = 2 ^ j) : i = j := by
  have : T (2 ^ i) i := T_pow.mpr rfl
  rw [h] at this
  exact T_pow.mp this
theorem bits_nodup (m : Nat) : (bitsN m).Nodup := by
  refine List.pairwise_map.mpr ((List.nodup_range.sublist List.filter_sublist).imp fun h e => h (pow_inj e))
def hitM (ms : List Nat) (b : Nat) : Prop := ∀ m ∈ ms, ∃ i, T m i ∧ T b i
def lone (m b i : Nat) : Prop := T m i ∧ T b i ∧ ∀ j, T m j → T b j → j = i
def MinB (ms : List Nat) (b : Nat) : Prop := b < 1024 ∧ hitM ms b ∧ ∀ i, T b i → ∃ m ∈ ms, lone m b i
/-- one bit at most -/
def one1 (n : Nat) : Bool := decide (n &&& (n - 1) = 0)
def aloneN (ms : List Nat) (b : Nat) : Nat := ms.foldl (fun al m => if one1 (m &&& b) then al ||| (m &&& b) else al) 0
def isL (ms : List Nat) (b : Nat) : Bool := decide (aloneN ms b = b)
theorem one1_all : ∀ n < 1024, one1 n = (n == 0 || (List.range 10).any fun i => n == 2 ^ i) := by decide +kernel
theorem one1_iff {n : Nat} (h : n < 1024) : one1 n = true ↔ n = 0 ∨ ∃ i, n = 2 ^ i := by
  rw [one1_all n h, Bool.or_eq_true, beq_iff_eq, List.any_eq_true]
  constructor
  · rintro (e | ⟨i, _, e⟩)
    · exact .inl e
    · exact .inr ⟨i, beq_iff_eq.mp e⟩
  · rintro (e | ⟨i, e⟩)
    · exact .inl e
    · refine .inr ⟨i, List.mem_range.mpr (T_lt h (by rw [e]; exact T_pow.mpr rfl)), beq_iff_eq.mpr e⟩
theorem lone_pow {m b i : Nat} : lone m b i ↔ m &&& b = 2 ^ i := by
  constructor
  · rintro ⟨h1, h2, h3⟩
    refine ext_bits fun j => ?_
    rw [T_and, T_pow]
    exact ⟨fun q => h3 j q.1 q.2, fun e => by subst e; exact ⟨h1, h2⟩⟩
  · intro e
    have k : ∀ j, (T m j ∧ T b j) ↔ j = i := fun j => by rw [← T_and, e, T_pow]
    exact ⟨((k i).mpr rfl).1, ((k i).mpr rfl).2, fun j a c => (k j).mp ⟨a, c⟩⟩
theorem and_lt {m b : Nat} (h : b < 1024) : m &&& b < 1024 := Nat.lt_of_le_of_lt Nat.and_le_right h
theorem T_alone {b : Nat} (hb : b < 1024) (i : Nat) : ∀ (ms : List Nat) (z : Nat), T (ms.foldl (fun al m => if one1 (m &&& b) then al ||| (m &&& b) else al) z) i ↔ T z i ∨ ∃ m ∈ ms, lone m b i
  | [], z => by simp
  | m :: ms, z => by
    rw [List.foldl_cons, T_alone hb i ms]
    have key : T (if one1 (m &&& b) = true then z ||| (m &&& b) else z) i ↔ T z i ∨ lone m b i := by
      by_cases q : one1 (m &&& b) = true
      · rw [if_pos q, T_or]
        rcases (one1_iff (and_lt hb)).mp q with e | ⟨j, e⟩
        · have : ¬ lone m b i := fun z => by
            rw [lone_pow, e] at z
            exact absurd z.symm (Nat.ne_of_gt (Nat.two_pow_pos i))
          rw [e]
          exact ⟨fun z => z.elim .inl fun z => absurd z T_zero, fun z => z.elim .inl fun z => absurd z this⟩
        · rw [lone_pow, e, T_pow]
          exact ⟨fun z => z.imp id fun z => by rw [z], fun z => z.imp id fun z => (pow_inj z).symm⟩
      · rw [if_neg q]
        have : ¬ lone m b i := fun z => q ((one1_iff (and_lt hb)).mpr (.inr ⟨i, lone_pow.mp z⟩))
        exact ⟨.inl, fun z => z.elim id fun z => absurd z this⟩
    rw [key]
    simp only [List.mem_cons, exists_eq_or_imp]
    exact or_assoc
theorem isL_iff {ms : List Nat} {b : Nat} (hb : b < 1024) : isL ms b = true ↔ ∀ i, T b i → ∃ m ∈ ms, lone m b i := by
  have k : ∀ i, T (aloneN ms b) i ↔ ∃ m ∈ ms, lone m b i := fun i => by
    unfold aloneN
    rw [T_alone hb]
    exact ⟨fun z => z.elim (fun z => absurd z T_zero) id, .inr⟩
  unfold isL
  rw [decide_eq_true_eq]
  constructor
  · intro e i t
    rw [← e] at t
    exact (k i).mp t
  · intro h
    refine ext_bits fun i => ?_
    rw [k]
    exact ⟨fun ⟨m, _, l⟩ => l.2.1, h i⟩
def stepB (pre : List Nat) (m b : Nat) : List Nat := if m &&& b ≠ 0 then [b] else ((bitsN m).map (b ||| ·)).filter (isL (pre ++ [m]))
theorem or_lt {b i : Nat} (hb : b < 1024) (hi : i < 10) : b ||| 2 ^ i < 1024 := Nat.or_lt_two_pow (n := 10) hb (Nat.pow_lt_pow_right (by decide) hi)
theorem mem_step {pre : List Nat} {m b C : Nat} (hm : m < 1024) (hb : b < 1024) : C ∈ stepB pre m b ↔ ((∃ i, T m i ∧ T b i) ∧ C = b) ∨ ((¬ ∃ i, T m i ∧ T b i) ∧ C < 1024 ∧ (∀ i, T C i → ∃ n ∈ pre ++ [m], lone n C i) ∧ ∃ i, T m i ∧ C = b ||| 2 ^ i) := by
  unfold stepB
  by_cases q : m &&& b ≠ 0
  · rw [if_pos q, List.mem_singleton]
    have q2 := and_ne.mp q
    exact ⟨fun e => .inl ⟨q2, e⟩, fun z => z.elim (·.2) fun z => absurd q2 z.1⟩
  · rw [if_neg q, List.mem_filter, List.mem_map]
    have q2 : ¬ ∃ i, T m i ∧ T b i := fun z => q (and_ne.mpr z)
    constructor
    · rintro ⟨⟨c, mc, rfl⟩, h⟩
      obtain ⟨i, ti, rfl⟩ := (mem_bits hm).mp mc
      have lt := or_lt hb (T_lt hm ti)
      exact .inr ⟨q2, lt, (isL_iff lt).mp h, i, ti, rfl⟩
    · rintro (⟨z, _⟩ | ⟨_, lt, h, i, ti, rfl⟩)
      · exact absurd z q2
      · exact ⟨⟨2 ^ i, (mem_bits hm).mpr ⟨i, ti, rfl⟩, rfl⟩, (isL_iff lt).mpr h⟩
theorem T_or2 {b i j : Nat} : T (b ||| 2 ^ i) j ↔ T b j ∨ j = i := by rw [T_or, T_pow]
theorem step_sound {pre : List Nat} {m b C : Nat} (hm : m < 1024) (hb : MinB pre b) (h : C ∈ stepB pre m b) : MinB (pre ++ [m]) C := by
  rcases (mem_step hm hb.1).mp h with ⟨⟨i, t1, t2⟩, rfl⟩ | ⟨q, lt, al, i, ti, rfl⟩
  · refine ⟨hb.1, fun n mn => ?_, fun j tj => ?_⟩
    · rcases List.mem_append.mp mn with mn | mn
      · exact hb.2.1 n mn
      · rw [List.mem_singleton.mp mn]
        exact ⟨i, t1, t2⟩
    · obtain ⟨n, mn, l⟩ := hb.2.2 j tj
      exact ⟨n, List.mem_append_left _ mn, l⟩
  · refine ⟨lt, fun n mn => ?_, al⟩
    rcases List.mem_append.mp mn with mn | mn
    · obtain ⟨j, t1, t2⟩ := hb.2.1 n mn
      exact ⟨j, t1, T_or2.mpr (.inl t2)⟩
    · rw [List.mem_singleton.mp mn]
      exact ⟨i, ti, T_or2.mpr (.inr rfl)⟩
theorem step_full {pre : List Nat} {m C : Nat} (hm : m < 1024) (h : MinB (pre ++ [m]) C) : ∃ b, MinB pre b ∧ C ∈ stepB pre m b := by
  by_cases q : ∀ i, T C i → ∃ n ∈ pre, lone n C i
  · refine ⟨C, ⟨h.1, fun n mn => h.2.1 n (List.mem_append_left _ mn), q⟩, (mem_step hm h.1).mpr (.inl ⟨?_, rfl⟩)⟩
    exact h.2.1 m (List.mem_append_right _ (List.mem_singleton.mpr rfl))
  · obtain ⟨i, q⟩ := Classical.not_forall.mp q
    obtain ⟨ti, q⟩ := Classical.not_imp.mp q
    obtain ⟨n, mn, l⟩ := h.2.2 i ti
    have e : n = m := by
      rcases List.mem_append.mp mn with z | z
      · exact absurd ⟨n, z, l⟩ q
      · exact List.mem_singleton.mp z
    subst e
    have B : ∀ j, T (C &&& (1023 ^^^ 2 ^ i)) j ↔ T C j ∧ j ≠ i := by
      intro j
      rw [T_and]
      constructor
      · rintro ⟨a, c⟩
        refine ⟨a, fun e => ?_⟩
        subst e
        have j10 := T_lt h.1 a
        have z : (1023 ^^^ 2 ^ j).testBit j = true := c
        rw [Nat.testBit_xor, Nat.testBit_two_pow_self, show (1023 : Nat) = 2 ^ 10 - 1 from rfl, Nat.testBit_two_pow_sub_one] at z
        simp [j10] at z
      · rintro ⟨a, ne⟩
        refine ⟨a, ?_⟩
        have j10 := T_lt h.1 a
        show (1023 ^^^ 2 ^ i).testBit j = true
        rw [Nat.testBit_xor, Nat.testBit_two_pow, show (1023 : Nat) = 2 ^ 10 - 1 from rfl, Nat.testBit_two_pow_sub_one]
        simp [j10, Ne.symm ne]
    have lt : C &&& (1023 ^^^ 2 ^ i) < 1024 := Nat.lt_of_le_of_lt Nat.and_le_left h.1
    refine ⟨C &&& (1023 ^^^ 2 ^ i), ⟨lt, fun x mx => ?_, fun j tj => ?_⟩, (mem_step hm lt).mpr (.inr ⟨?_, h.1, h.2.2, i, l.1, ?_⟩)⟩
    · obtain ⟨j, t1, t2⟩ := h.2.1 x (List.mem_append_left _ mx)
      by_cases q2 : ∃ j, T x j ∧ T C j ∧ j ≠ i
      · obtain ⟨j, a, c, ne⟩ := q2
        exact ⟨j, a, (B j).mpr ⟨c, ne⟩⟩
      · have only : ∀ j, T x j → T C j → j = i := fun j a c => Classical.byContradiction fun ne => q2 ⟨j, a, c, ne⟩
        have ej := only j t1 t2
        subst ej
        exact absurd ⟨x, mx, t1, t2, only⟩ q
    · have ⟨tC, ne⟩ := (B j).mp tj
      obtain ⟨x, mx, lx⟩ := h.2.2 j tC
      rcases List.mem_append.mp mx with mx | mx
      · exact ⟨x, mx, lx.1, tj, fun k a c => lx.2.2 k a ((B k).mp c).1⟩
      · have := List.mem_singleton.mp mx
        subst this
        exact absurd (l.2.2 j lx.1 tC) ne
    · rintro ⟨j, a, c⟩
      have ⟨tC, ne⟩ := (B j).mp c
      exact ne (l.2.2 j a tC)
    · refine ext_bits fun j => ?_
      rw [T_or2, B]
      constructor
      · intro t
        by_cases e : j = i
        · exact .inr e
        · exact .inl ⟨t, e⟩
      · rintro (t | e)
        · exact t.1
        · rw [e]; exact ti
theorem step_one {pre : List Nat} {m b d C : Nat} (hm : m < 1024) (hb : MinB pre b) (hd : MinB pre d) (h : C ∈ stepB pre m b) (g : C ∈ stepB pre m d) : b = d := by
  have key : ∀ {b d : Nat}, MinB pre b → MinB pre d → ∀ i, b = d ||| 2 ^ i → (¬ T d i) → False := by
    intro b d hb hd i e nt
    have ti : T b i := by rw [e]; exact T_or2.mpr (.inr rfl)
    obtain ⟨n, mn, l⟩ := hb.2.2 i ti
    obtain ⟨j, t1, t2⟩ := hd.2.1 n mn
    have := l.2.2 j t1 (by rw [e]; exact T_or2.mpr (.inl t2))
    subst this
    exact nt t2
  rcases (mem_step hm hb.1).mp h with ⟨q, rfl⟩ | ⟨q, lt, al, i, ti, rfl⟩
  · rcases (mem_step hm hd.1).mp g with ⟨q2, e⟩ | ⟨q2, _, _, i2, ti2, e⟩
    · exact e
    · exact (key hb hd i2 e fun t => q2 ⟨i2, ti2, t⟩).elim
  · rcases (mem_step hm hd.1).mp g with ⟨q2, e⟩ | ⟨q2, _, _, i2, ti2, e⟩
    · exact (key hd hb i e.symm fun t => q ⟨i, ti, t⟩).elim
    · have k : ∀ j, (T b j ∨ j = i) ↔ (T d j ∨ j = i2) := fun j => by rw [← T_or2, ← T_or2, e]
      have ei : i = i2 := by
        rcases (k i).mp (.inr rfl) with z | z
        · exact absurd ⟨i, ti, z⟩ q2
        · exact z
      subst ei
      refine ext_bits fun j => ⟨fun t => ?_, fun t => ?_⟩
      · rcases (k j).mp (.inl t) with z | z
        · exact z
        · subst z; exact absurd ⟨j, ti, t⟩ q
      · rcases (k j).mpr (.inl t) with z | z
        · exact z
        · subst z; exact absurd ⟨j, ti, t⟩ q2
theorem or_inj {b i j : Nat} (h : b ||| 2 ^ i = b ||| 2 ^ j) (ni : ¬ T b i) : i = j := by
  have : T (b ||| 2 ^ i) i := T_or2.mpr (.inr rfl)
  rw [h] at this
  rcases T_or2.mp this with z | z
  · exact absurd z ni
  · exact z
theorem step_nodup {pre : List Nat} {m b : Nat} (hm : m < 1024) : (stepB pre m b).Nodup := by
  unfold stepB
  split
  · simp
  · rename_i q
    refine List.Pairwise.sublist List.filter_sublist (List.pairwise_map.mpr ?_)
    refine (bits_nodup m).imp_of_mem fun {x y} mx my ne e => ne ?_
    obtain ⟨i, ti, rfl⟩ := (mem_bits hm).mp mx
    obtain ⟨j, tj, rfl⟩ := (mem_bits hm).mp my
    rw [or_inj e fun t => q (and_ne.mpr ⟨i, ti, t⟩)]
def leaves (pre : List Nat) : List Nat → Nat → List Nat
  | [], b => [b]
  | m :: r, b => (stepB pre m b).flatMap (leaves (pre ++ [m]) r)
theorem leaves_sound : ∀ (rest pre : List Nat) (b C : Nat), (∀ m ∈ rest, m < 1024) → MinB pre b → C ∈ leaves pre rest b → MinB (pre ++ rest) C
  | [], pre, b, C, _, hb, h => by
    rw [List.append_nil, List.mem_singleton.mp h]
    exact hb
  | m :: r, pre, b, C, hm, hb, h => by
    obtain ⟨B, m1, m2⟩ := List.mem_flatMap.mp h
    have := leaves_sound r (pre ++ [m]) B C (fun n q => hm n (List.mem_cons_of_mem _ q)) (step_sound (hm m List.mem_cons_self) hb m1) m2
    rwa [List.append_assoc] at this
theorem leaves_full : ∀ (rest pre : List Nat) (C : Nat), (∀ m ∈ rest, m < 1024) → MinB (pre ++ rest) C → ∃ b, MinB pre b ∧ C ∈ leaves pre rest b
  | [], pre, C, _, h => ⟨C, by rwa [List.append_nil] at h, List.mem_singleton.mpr rfl⟩
  | m :: r, pre, C, hm, h => by
    obtain ⟨B, h1, h2⟩ := leaves_full r (pre ++ [m]) C (fun n q => hm n (List.mem_cons_of_mem _ q)) (by rwa [List.append_assoc])
    obtain ⟨b, h3, h4⟩ := step_full (hm m List.mem_cons_self) h1
    exact ⟨b, h3, List.mem_flatMap.mpr ⟨B, h4, h2⟩⟩
theorem leaves_one : ∀ (rest pre : List Nat) (b d C : Nat), (∀ m ∈ rest, m < 1024) → MinB pre b → MinB pre d → C ∈ leaves pre rest b → C ∈ leaves pre rest d → b = d
  | [], pre, b, d, C, _, _, _, h, g => by rw [← List.mem_singleton.mp h, ← List.mem_singleton.mp g]
  | m :: r, pre, b, d, C, hm, hb, hd, h, g => by
    have h0 := hm m List.mem_cons_self
    obtain ⟨B, m1, m2⟩ := List.mem_flatMap.mp h
    obtain ⟨B', m1', m2'⟩ := List.mem_flatMap.mp g
    have e := leaves_one r (pre ++ [m]) B B' C (fun n q => hm n (List.mem_cons_of_mem _ q)) (step_sound h0 hb m1) (step_sound h0 hd m1') m2 m2'
    subst e
    exact step_one h0 hb hd m1 m1'
theorem leaves_nodup : ∀ (rest pre : List Nat) (b : Nat), (∀ m ∈ rest, m < 1024) → MinB pre b → (leaves pre rest b).Nodup
  | [], pre, b, _, _ => by simp [leaves]
  | m :: r, pre, b, hm, hb => by
    have h0 := hm m List.mem_cons_self
    have hr : ∀ n ∈ r, n < 1024 := fun n q => hm n (List.mem_cons_of_mem _ q)
    refine List.pairwise_flatMap.mpr ⟨fun B mB => leaves_nodup r _ B hr (step_sound h0 hb mB), (step_nodup h0).imp_of_mem fun {x y} mx my ne => ?_⟩
    intro u mu v mv e
    subst e
    exact ne (leaves_one r _ x y u hr (step_sound h0 hb mx) (step_sound h0 hb my) mu mv)
theorem min_nil {b : Nat} : MinB [] b ↔ b = 0 := by
  constructor
  · rintro ⟨_, _, h⟩
    refine ext_bits fun i => ⟨fun t => ?_, fun t => absurd t T_zero⟩
    obtain ⟨m, mm, _⟩ := h i t
    cases mm
  · rintro rfl
    exact ⟨by decide, (fun m mm => nomatch mm), fun i t => absurd t T_zero⟩
theorem mem_leaves {ms : List Nat} (hm : ∀ m ∈ ms, m < 1024) (C : Nat) : C ∈ leaves [] ms 0 ↔ MinB ms C := by
  constructor
  · exact fun h => leaves_sound ms [] 0 C hm (min_nil.mpr rfl) h
  · intro h
    obtain ⟨b, h1, h2⟩ := leaves_full ms [] C hm h
    rw [min_nil.mp h1] at h2
    exact h2
/-- how many knots the search has from here -/
def knots (pre : List Nat) : List Nat → Nat → Nat
  | [], _ => 1
  | m :: r, b => 1 + ((stepB pre m b).map (knots (pre ++ [m]) r)).sum
theorem knots_pos : ∀ (pre rest : List Nat) (b : Nat), 1 ≤ knots pre rest b
  | _, [], _ => Nat.le_refl _
  | _, _ :: _, _ => Nat.le_add_right 1 _
theorem nodup_1024 {l : List Nat} (nd : l.Nodup) (h : ∀ x ∈ l, x < 1024) : l.length ≤ 1024 := by
  have := nodup_le (us := List.range 1024) nd fun x m => List.mem_range.mpr (h x m)
  rwa [List.length_range] at this
theorem sum_flat (f : Nat → List Nat) (g : Nat → Nat) : ∀ l : List Nat, ((l.flatMap f).map g).sum = (l.map fun b => ((f b).map g).sum).sum
  | [] => rfl
  | b :: l => by rw [List.flatMap_cons, List.map_append, List.sum_append, sum_flat f g l, List.map_cons, List.sum_cons]
theorem sum_succ (g : Nat → Nat) : ∀ l : List Nat, (l.map fun b => 1 + g b).sum = l.length + (l.map g).sum
  | [] => rfl
  | b :: l => by rw [List.map_cons, List.sum_cons, sum_succ g l, List.map_cons, List.sum_cons, List.length_cons]; omega
theorem sum_zero : ∀ l : List Nat, (l.map fun _ => 0).sum = 0
  | [] => rfl
  | _ :: l => by rw [List.map_cons, List.sum_cons, sum_zero l]
theorem knots_le : ∀ (rest pre lv : List Nat), (∀ m ∈ rest, m < 1024) → lv.Nodup → (∀ b ∈ lv, MinB pre b) → (lv.map (knots pre rest)).sum ≤ 1024 * (rest.length + 1)
  | [], pre, lv, _, nd, hb => by
    have : (lv.map (knots pre [])).sum = lv.length := by
      have := sum_succ (fun _ => 0) lv
      rw [sum_zero] at this
      exact this
    rw [this]
    have := nodup_1024 nd fun x m => (hb x m).1
    simpa using this
  | m :: r, pre, lv, hm, nd, hb => by
    have h0 := hm m List.mem_cons_self
    have hr : ∀ n ∈ r, n < 1024 := fun n q => hm n (List.mem_cons_of_mem _ q)
    have e : (lv.map (knots pre (m :: r))).sum = lv.length + ((lv.flatMap (stepB pre m)).map (knots (pre ++ [m]) r)).sum := by
      rw [sum_flat]
      exact sum_succ (fun b => ((stepB pre m b).map (knots (pre ++ [m]) r)).sum) lv
    rw [e]
    have l1 := nodup_1024 nd fun x m => (hb x m).1
    have l2 := knots_le r (pre ++ [m]) (lv.flatMap (stepB pre m)) hr (List.pairwise_flatMap.mpr ⟨fun b _ => step_nodup h0, nd.imp_of_mem fun {x y} mx my ne => by
      intro u mu v mv e
      subst e
      exact ne (step_one h0 (hb x mx) (hb y my) mu mv)⟩) fun C mC => by
        obtain ⟨b, m1, m2⟩ := List.mem_flatMap.mp mC
        exact step_sound h0 (hb b m1) m2
    rw [List.length_cons]
    omega
theorem knots_all {ms : List Nat} (hm : ∀ m ∈ ms, m < 1024) : knots [] ms 0 ≤ 1024 * (ms.length + 1) := by
  have := knots_le ms [] [0] hm (by simp) (fun b m => by rw [List.mem_singleton.mp m]; exact min_nil.mpr rfl)
  simpa using this
theorem leaves_len {ms : List Nat} (hm : ∀ m ∈ ms, m < 1024) : (leaves [] ms 0).length ≤ 1024 :=
  nodup_1024 (leaves_nodup ms [] 0 hm (min_nil.mpr rfl)) fun x m => ((mem_leaves hm x).mp m).1
end K8
end DL
namespace DL
open PySem PySem.Spec L2 Gd
namespace K8
def Small (ms : List Nat) : Prop := ∀ m ∈ ms, m < 1024
/-- the masks kept: no one before is within -/
def leastM (ms : List Nat) : List Nat := ms.foldl (fun kept m => if kept.all (fun o => decide (m &&& o ≠ o)) then kept ++ [m] else kept) []
def Lots (n : Nat) (L : List Lot) : Prop := (∀ l ∈ L, Asc l) ∧ L.length < 64 ∧ ∃ U : Lot, Asc U ∧ U.length ≤ n ∧ ∀ l ∈ L, Sub l U
def tups (L : List Lot) : List D := L.map tupI
def sublots (U : Lot) : List Lot := U.foldl (fun f x => f ++ f.map (· ++ [x])) [[]]
def longer (L : List Lot) (n : Int) : List Lot := L.map (· ++ [2 * n]) ++ L.map (· ++ [2 * n + 1])
def sp_least_masks : DSpec := fun ds post => ∃ ms, ds = [.lst (nD ms)] ∧ ms.length ≤ 1000 ∧ post (.lst (nD (leastM ms)))
def sp_bits_in : DSpec := fun ds post => ∃ m : Nat, ds = [.int (m : Int)] ∧ m < 1024 ∧ post (.lst (nD (bitsN m)))
def sp_is_least_blocker : DSpec := fun ds post => ∃ (ms : List Nat) (b : Nat), ds = [.lst (nD ms), .int (b : Int)] ∧ b < 1024 ∧ post (.bl (isL ms b))
def sp_least_blocking : DSpec := fun ds post => ∃ ms, ds = [.lst (nD ms)] ∧ Small ms ∧ ms.length ≤ 1000 ∧ ∀ R : List Nat, R.Nodup → (∀ b, b ∈ R ↔ MinB ms b) → post (.lst (nD R))
def sp_least_blockers : DSpec := fun ds post => ∃ L, ds = [.tup (tups L)] ∧ Lots 10 L ∧ ∀ es : List Lot, es.Pairwise (· < ·) → (∀ b, b ∈ es ↔ MinHit L b) → post (.tup (tups es))
abbrev sp__law_heap := spHeap
abbrev sp__law_pick := spPick
def sp__law_lots : DSpec := fun ds post => ∃ U : Lot, ds = [.tup (U.map D.int)] ∧ U.length ≤ 10 ∧ post (.lst (tups (sublots U)))
def sp__law_least : DSpec := fun ds post => ∃ L, (ds = [.tup (tups L)] ∨ ds = [.lst (tups L)]) ∧ L.length < 64 ∧ (∀ l ∈ L, l.length ≤ 1000) ∧ ∀ es : List Lot, es.Pairwise (· < ·) → (∀ b, b ∈ es ↔ MinLot L b) → post (.tup (tups es))
def sp__law_numbers : DSpec := fun ds post => ∃ L, ds = [.tup (tups L)] ∧ Lots 10 L ∧ ∀ U : Lot, Asc U → (∀ x, x ∈ U ↔ ∃ l ∈ L, x ∈ l) → post (.tup (U.map D.int))
def sp__law_blocking : DSpec := fun ds post => ∃ L, ds = [.tup (tups L)] ∧ Lots 6 L ∧ ∀ es : List Lot, es.Pairwise (· < ·) → (∀ b, b ∈ es ↔ MinHit L b) → post (.tup (tups es))
def sp__law_drawn (a : Addr) : DSpec := fun ds post => ∃ U : Lot, ds = [.adr a, .lst (U.map D.int)] ∧ Asc U ∧ U.length ≤ 6 ∧ ∀ L : List Lot, L.length ≤ 6 → (∀ l ∈ L, Asc l ∧ Sub l U) → post (.tup (tups L))
def sp__law_longer : DSpec := fun ds post => ∃ (L : List Lot) (n : Nat), ds = [.lst (tups L), .int (n : Int)] ∧ L.length ≤ 100 ∧ (∀ l ∈ L, l.length ≤ 100) ∧ n ≤ 100 ∧ post (.lst (tups (longer L n)))
def sp__law_pairs_right (a : Addr) : DSpec := fun ds post => ds = [.adr a] ∧ post (.bl true)
end K8
end DL
namespace DL
open PySem PySem.Spec L2 Gd
namespace K8
def b0_least_masks : DTS := (dIfS (dTr (dLoan 1 (dCB (one fAll) (dCons (dLc (dSeq (dVar 1)) (dgName 3) dYes (dOp fNe (dOp fAnd (dVar 2) (dVar 3)) (dVar 3)) [3]) dNil)))) (dDrop (dML fAppend (dVar 1) (dCons (dVar 2) dNil))) dNext)
def r_least_masks : DTS := (dSeqS (dSet 1 (dNew dNil)) (dSeqS (dFor (dSeq (dVar 0)) (dgName 2) b0_least_masks) (dFrz 1 (dRet (dVar 1)))))
abbrev N_least_masks : List Str := ["masks", "kept", "mask", "other"]
def r_bits_in : DTS := (dSeqS (dSet 1 (dNew dNil)) (dSeqS (dWhile (dTr (dVar 0)) (dSeqS (dDrop (dML fAppend (dVar 1) (dCons (dOp fAnd (dVar 0) (dUn fNeg (dVar 0))) dNil))) (dSet 0 (dOp fAnd (dVar 0) (dOp fSub (dVar 0) (dC (.int 1))))))) (dFrz 1 (dRet (dVar 1)))))
abbrev N_bits_in : List Str := ["mask", "bits"]
def b0_is_least_blocker : DTS := (dSeqS (dSet 4 (dOp fAnd (dVar 3) (dVar 1))) (dIfS (dTest (dOp fEq (dOp fAnd (dVar 4) (dOp fSub (dVar 4) (dC (.int 1)))) (dC (.int 0)))) (dSet 2 (dOp fOr (dVar 2) (dVar 4))) dNext))
def r_is_least_blocker : DTS := (dSeqS (dSet 2 (dC (.int 0))) (dSeqS (dFor (dSeq (dVar 0)) (dgName 3) b0_is_least_blocker) (dRet (dOp fEq (dVar 2) (dVar 1)))))
abbrev N_is_least_blocker : List Str := ["masks", "blocker", "alone", "mask", "shared"]
def r_least_blocking : DTS := (dSeqS (dSet 1 (dNewF dNil)) (dSeqS (dSet 2 (dNewF (dCons (dTup (dCons (dC (.int 0)) (dCons (dC (.int 0)) dNil))) dNil))) (dSeqS (dWhile (dTr (dVar 2)) (dSeqS (dAsg (dML0 fPop (dVar 2)) (dgTup 2 (dgCons (dgName 3) (dgCons (dgName 4) dgNil)))) (dSeqS (dWhile (dAnd (dTest (dOp fLt (dVar 3) (dCB (one fLen) (dCons (dVar 0) dNil)))) (dTr (dOp fAnd (dOp fIx (dVar 0) (dVar 3)) (dVar 4)))) (dAug 3 (onI0 fun i j => .int (i + j)) (dC (.int 1)))) (dIfS (dTest (dOp fEq (dVar 3) (dCB (one fLen) (dCons (dVar 0) dNil)))) (dDrop (dML fAppend (dVar 1) (dCons (dVar 4) dNil))) (dSeqS (dSet 5 (dSl (dVar 0) dNoPart (dPart (dOp fAdd (dVar 3) (dC (.int 1)))))) (dSeqS (dSet 6 (dLc (dSeq (dCall sp_bits_in (dCons (dOp fIx (dVar 0) (dVar 3)) dNil))) (dgName 7) dYes (dOp fOr (dVar 4) (dVar 7)) [7])) (dDrop (dML fExtend (dVar 2) (dCons (dLc (dSeq (dVar 6)) (dgName 8) (dTr (dCall sp_is_least_blocker (dCons (dVar 5) (dCons (dVar 8) dNil)))) (dTup (dCons (dOp fAdd (dVar 3) (dC (.int 1))) (dCons (dVar 8) dNil))) [8]) dNil))))))))) (dFrz 2 (dFrz 1 (dRet (dVar 1)))))))
abbrev N_least_blocking : List Str := ["masks", "found", "waiting", "many", "blocker", "seen", "longer", "bit", "mask"]
def r_least_blockers : DTS := (dSeqS (dSet 1 (dSortSet (dLc2 (dSeq (dVar 0)) (dgName 9) dYes (dSeq (dVar 9)) (dgName 8) dYes (dVar 8) [9, 8] [8]))) (dSeqS (dSet 2 (dDc (dEnum (dCons (dVar 1) dNil)) (dgTup 2 (dgCons (dgName 7) (dgCons (dgName 8) dgNil))) dYes (dVar 8) (dOp fShl (dC (.int 1)) (dVar 7)) [7, 8])) (dSeqS (dSet 3 (dSortLen (dSortSet (dVar 0)))) (dSeqS (dSet 4 (dCall sp_least_masks (dCons (dLc (dSeq (dVar 3)) (dgName 9) dYes (dCB (one fSum) (dCons (dLc (dSeq (dVar 9)) (dgName 8) dYes (dOp fIxK (dVar 2) (dVar 8)) [8]) dNil)) [9]) dNil))) (dSeqS (dSet 5 (dLc (dSeq (dCall sp_least_blocking (dCons (dVar 4) dNil))) (dgName 6) dYes (dLc (dSeq (dVar 1)) (dgName 8) (dTr (dOp fAnd (dOp fIxK (dVar 2) (dVar 8)) (dVar 6))) (dVar 8) [8]) [6])) (dRet (dCB (one fTuple) (dCons (dCB (one fSorted) (dCons (dLc (dSeq (dVar 5)) (dgName 10) dYes (dCB (one fTuple) (dCons (dVar 10) dNil)) [10]) dNil)) dNil))))))))
abbrev N_least_blockers : List Str := ["lots", "things", "bits", "ordered", "masks", "blockers", "mask", "place", "thing", "lot", "blocker"]
def b0__law_heap : DTS := (dSet 1 (dOp fMod (dCB (one fInt) (dCons (dOp fAdd (dOp fAdd (dOp fAdd (dOp fMul (dVar 1) (dC (.int 48271))) (dOp fMul (dOp fMod (dCB (one fInt) (dCons (dCB (one fAbs) (dCons (dVar 2) dNil)) dNil)) (dC (.int 2147483563))) (dC (.int 2)))) (dCB (one fInt) (dCons (dOp fLt (dVar 2) (dC (.int 0))) dNil))) (dC (.int 17))) dNil)) (dC (.int 2147483647))))
def r__law_heap : DTS := (dSeqS (dSet 1 (dC (.int 48017))) (dSeqS (dFor (dSeq (dSl (dVar 0) dNoPart (dPart (dC (.int 60))))) (dgName 2) b0__law_heap) (dRet (dLst (dCons (dUn fRev (dLc (dSeq (dSl (dVar 0) dNoPart (dPart (dC (.int 60))))) (dgName 2) (dTest (dOp fGe (dCB (one fAbs) (dCons (dVar 2) dNil)) (dOp fPow (dC (.int 10)) (dC (.int 18))))) (dCB (one fAbs) (dCons (dVar 2) dNil)) [2])) (dCons (dVar 1) dNil))))))
abbrev N__law_heap : List Str := ["_law_script", "_law_stir", "_law_cell"]
def r__law_draw : DTS := (dSeqS (dWhile (dAnd (dTest (dOp fNe (dOp fIx (dVar 0) (dC (.int 0))) (dLst dNil))) (dTest (dOp fEq (dOp fIx (dOp fIx (dVar 0) (dC (.int 0))) (dUn fNeg (dC (.int 1)))) (dC (.int 0))))) (dDrop (dML0 fPop (dOp fIx (dVar 0) (dC (.int 0)))))) (dSeqS (dIfS (dTest (dOp fNe (dOp fIx (dVar 0) (dC (.int 0))) (dLst dNil))) (dSeqS (dSet 2 (dML0 fPop (dOp fIx (dVar 0) (dC (.int 0))))) (dSeqS (dDrop (dML fAppend (dOp fIx (dVar 0) (dC (.int 0))) (dCons (dOp fDiv (dVar 2) (dVar 1)) dNil))) (dRet (dOp fMod (dCB (one fInt) (dCons (dVar 2) dNil)) (dVar 1))))) dNext) (dSeqS (dSetI (dOp fMod (dCB (one fInt) (dCons (dOp fAdd (dOp fMul (dOp fIx (dVar 0) (dC (.int 1))) (dC (.int 16807))) (dC (.int 23))) dNil)) (dC (.int 2147483647))) (dVar 0) (dC (.int 1))) (dRet (dOp fMod (dCB (one fInt) (dCons (dOp fDiv (dOp fIx (dVar 0) (dC (.int 1))) (dC (.int 32))) dNil)) (dVar 1))))))
abbrev N__law_draw : List Str := ["_law_heap_here", "_law_many", "_law_rest"]
def r__law_pick (a : Addr) : DTS := (dRet (dOp fIx (dVar 1) (dCall (spDraw a) (dCons (dVar 0) (dCons (dCB (one fLen) (dCons (dVar 1) dNil)) dNil)))))
abbrev N__law_pick : List Str := ["_law_heap_here", "_law_some"]
def b0__law_lots : DTS := (dSet 1 (dOp fAdd (dVar 1) (dLc (dSeq (dVar 1)) (dgName 3) dYes (dOp fAdd (dVar 3) (dTup (dCons (dVar 2) dNil))) [3])))
def r__law_lots : DTS := (dSeqS (dSet 1 (dLst (dCons (dTup dNil) dNil))) (dSeqS (dFor (dSeq (dVar 0)) (dgName 2) b0__law_lots) (dRet (dVar 1))))
abbrev N__law_lots : List Str := ["_law_things", "_law_found", "_law_thing", "_law_lot"]
def r__law_least : DTS := (dSeqS (dSet 1 (dSortSet (dVar 0))) (dRet (dCB (one fTuple) (dCons (dLc (dSeq (dVar 1)) (dgName 2) (dNot (dTr (dCB (one fAny) (dCons (dLc (dSeq (dVar 1)) (dgName 3) dYes (dAndV (dOp fNe (dVar 3) (dVar 2)) (dCB (one fAll) (dCons (dLc (dSeq (dVar 3)) (dgName 4) dYes (dOp (fInN false) (dVar 4) (dVar 2)) [4]) dNil))) [3]) dNil)))) (dVar 2) [2]) dNil))))
abbrev N__law_least : List Str := ["_law_lots_here", "_law_kept", "_law_lot", "_law_other", "_law_thing"]
def b0__law_numbers : DTS := (dSet 1 (dOp fAdd (dVar 1) (dCB (one fList) (dCons (dVar 2) dNil))))
def r__law_numbers : DTS := (dSeqS (dSet 1 (dLst dNil)) (dSeqS (dFor (dSeq (dVar 0)) (dgName 2) b0__law_numbers) (dRet (dCB (one fTuple) (dCons (dSortSet (dVar 1)) dNil)))))
abbrev N__law_numbers : List Str := ["_law_lots_here", "_law_found", "_law_lot"]
def r__law_blocking : DTS := (dRet (dCall sp__law_least (dCons (dLc (dSeq (dCall sp__law_lots (dCons (dCall sp__law_numbers (dCons (dVar 0) dNil)) dNil))) (dgName 1) (dTr (dCB (one fAll) (dCons (dLc (dSeq (dVar 0)) (dgName 2) dYes (dCB (one fAny) (dCons (dLc (dSeq (dVar 2)) (dgName 3) dYes (dOp (fInN false) (dVar 3) (dVar 1)) [3]) dNil)) [2]) dNil))) (dVar 1) [1]) dNil)))
abbrev N__law_blocking : List Str := ["_law_lots_here", "_law_lot", "_law_other", "_law_thing"]
def b0__law_drawn (a : Addr) : DTS := (dSeqS (dSet 4 (dCB (one fTuple) (dCons (dLc (dSeq (dVar 1)) (dgName 5) (dTest (dOp fEq (dCall (spDraw a) (dCons (dVar 0) (dCons (dC (.int 2)) dNil))) (dC (.int 0)))) (dVar 5) [5]) dNil))) (dDrop (dML fAppend (dVar 2) (dCons (dIfE (dAnd (dTest (dOp fNe (dVar 2) (dLst dNil))) (dTest (dOp fEq (dCall (spDraw a) (dCons (dVar 0) (dCons (dC (.int 8)) dNil))) (dC (.int 0))))) (dCallL (sp__law_pick a) (dCons (dVar 0) (dCons (dVar 2) dNil))) (dVar 4)) dNil))))
def r__law_drawn (a : Addr) : DTS := (dSeqS (dSet 2 (dNewR a dNil)) (dSeqS (dFor (dRng1 (dCons (dCall (sp__law_pick a) (dCons (dVar 0) (dCons (dLst (dCons (dC (.int 3)) (dCons (dC (.int 2)) (dCons (dC (.int 4)) (dCons (dC (.int 6)) (dCons (dC (.int 1)) (dCons (dC (.int 0)) (dCons (dC (.int 5)) dNil)))))))) dNil))) dNil)) (dgName 3) (b0__law_drawn a)) (dFrz 2 (dRet (dCB (one fTuple) (dCons (dVar 2) dNil))))))
abbrev N__law_drawn : List Str := ["_law_heap_here", "_law_numbers_here", "_law_found", "_law_turn", "_law_lot", "_law_number"]
def r__law_longer : DTS := (dRet (dOp fAdd (dLc (dSeq (dVar 0)) (dgName 2) dYes (dOp fAdd (dVar 2) (dTup (dCons (dOp fMul (dC (.int 2)) (dVar 1)) dNil))) [2]) (dLc (dSeq (dVar 0)) (dgName 2) dYes (dOp fAdd (dVar 2) (dTup (dCons (dOp fAdd (dOp fMul (dC (.int 2)) (dVar 1)) (dC (.int 1))) dNil))) [2])))
abbrev N__law_longer : List Str := ["_law_lots_here", "_law_at", "_law_lot"]
def b0__law_pairs_right : DTS := (dSet 4 (dCall sp__law_longer (dCons (dVar 4) (dCons (dVar 2) dNil))))
def r__law_pairs_right (a : Addr) : DTS := (dSeqS (dSet 1 (dOp fAdd (dC (.int 1)) (dCall (spDraw a) (dCons (dVar 0) (dCons (dC (.int 5)) dNil))))) (dSeqS (dPar [3, 4] (dCons (dCB (one fTuple) (dCons (dLc (dRng1 (dCons (dVar 1) dNil)) (dgName 2) dYes (dTup (dCons (dOp fMul (dC (.int 2)) (dVar 2)) (dCons (dOp fAdd (dOp fMul (dC (.int 2)) (dVar 2)) (dC (.int 1))) dNil))) [2]) dNil)) (dCons (dLst (dCons (dTup dNil) dNil)) dNil))) (dSeqS (dFor (dRng1 (dCons (dVar 1) dNil)) (dgName 2) b0__law_pairs_right) (dRet (dAndV (dOp fEq (dCall sp_least_blockers (dCons (dVar 3) dNil)) (dCB (one fTuple) (dCons (dCB (one fSorted) (dCons (dVar 4) dNil)) dNil))) (dOp fEq (dCall sp_least_blockers (dCons (dCB (one fTuple) (dCons (dCB (one fSorted) (dCons (dVar 4) dNil)) dNil)) dNil)) (dVar 3)))))))
abbrev N__law_pairs_right : List Str := ["_law_heap_here", "_law_many", "_law_at", "_law_lots_here", "_law_due"]
def b0_law (a : Addr) : DTS := (dSeqS (dAsg (dTup (dCons (dCall (sp__law_pick a) (dCons (dVar 1) (dCons (dLst (dCons (dC (.int 0)) (dCons (dC (.int 0)) (dCons (dC (.int 7)) (dCons (dOp fPow (dC (.int 10)) (dC (.int 9))) dNil))))) dNil))) (dCons (dCall (sp__law_pick a) (dCons (dVar 1) (dCons (dLst (dCons (dC (.int 1)) (dCons (dC (.int 1)) (dCons (dC (.int 5)) dNil)))) dNil))) dNil))) (dgTup 2 (dgCons (dgName 5) (dgCons (dgName 6) dgNil)))) (dSeqS (dSet 3 (dLc (dRng1 (dCons (dOp fAdd (dC (.int 1)) (dCall (spDraw a) (dCons (dVar 1) (dCons (dC (.int 6)) dNil)))) dNil)) (dgName 9) dYes (dOp fAdd (dVar 5) (dOp fMul (dVar 6) (dVar 9))) [9])) (dSeqS (dSet 4 (dCall (sp__law_drawn a) (dCons (dVar 1) (dCons (dVar 3) dNil)))) (dSeqS (dPar [7, 8] (dCons (dCall sp__law_blocking (dCons (dVar 4) dNil)) (dCons (dCall sp_least_blockers (dCons (dVar 4) dNil)) dNil))) (dSeqS (dIfS (dOr (dTest (dOp fNe (dCB (one fRepr) (dCons (dVar 8) dNil)) (dCB (one fRepr) (dCons (dVar 7) dNil)))) (dTest (dOp fNe (dCallK sp_least_blockers kb_least_blockers_0_lots_g dNil (dCons (dUn fRevA (dVar 4)) dNil)) (dVar 7)))) (dRet (dC (.bl false))) dNext) (dIfS (dOr (dTest (dOp fNe (dCall sp_least_blockers (dCons (dVar 8) dNil)) (dCall sp__law_least (dCons (dVar 4) dNil)))) (dTest (dOp fNe (dCall sp_least_blockers (dCons (dCall sp__law_least (dCons (dVar 4) dNil)) dNil)) (dVar 7)))) (dRet (dC (.bl false))) dNext))))))
def r_law (a : Addr) : DTS := (dSeqS (dFor (dRng1 (dCons (dOp fAdd (dOp fAdd (dC (.int 2)) (dCB (one fInt) (dCons (dOp fGt (dCB (one fLen) (dCons (dVar 0) dNil)) (dC (.int 1))) dNil))) (dCB (one fInt) (dCons (dOp fGt (dCB (one fLen) (dCons (dVar 0) dNil)) (dC (.int 3))) dNil))) dNil)) (dgName 2) (b0_law a)) (dSeqS (dIfS (dNot (dTr (dCall (sp__law_pairs_right a) (dCons (dVar 1) dNil)))) (dRet (dC (.bl false))) dNext) (dSeqS (dIfS (dOr (dTest (dOp fNe (dCall sp_least_blockers (dCons (dTup dNil) dNil)) (dTup (dCons (dTup dNil) dNil)))) (dOr (dTest (dOp fNe (dCall sp_least_blockers (dCons (dTup (dCons (dTup dNil) dNil)) dNil)) (dTup dNil))) (dOr (dTest (dOp fNe (dCall sp_least_blockers (dCons (dTup (dCons (dTup (dCons (dC (.int 3)) dNil)) (dCons (dTup dNil) dNil))) dNil)) (dTup dNil))) (dTest (dOp fNe (dCall sp_least_blockers (dCons (dTup (dCons (dTup (dCons (dC (.int 2)) (dCons (dC (.int 9)) dNil))) dNil)) dNil)) (dTup (dCons (dTup (dCons (dC (.int 2)) dNil)) (dCons (dTup (dCons (dC (.int 9)) dNil)) dNil)))))))) (dRet (dC (.bl false))) dNext) (dRet (dAndV (dOp fEq (dCall sp_least_blockers (dCons (dTup (dCons (dTup (dCons (dC (.int 1)) (dCons (dC (.int 2)) dNil))) (dCons (dTup (dCons (dC (.int 1)) (dCons (dC (.int 3)) dNil))) (dCons (dTup (dCons (dC (.int 2)) (dCons (dC (.int 3)) dNil))) dNil)))) dNil)) (dTup (dCons (dTup (dCons (dC (.int 1)) (dCons (dC (.int 2)) dNil))) (dCons (dTup (dCons (dC (.int 1)) (dCons (dC (.int 3)) dNil))) (dCons (dTup (dCons (dC (.int 2)) (dCons (dC (.int 3)) dNil))) dNil))))) (dOp fEq (dCall sp_least_blockers (dCons (dTup (dCons (dTup (dCons (dC (.int 1)) (dCons (dC (.int 2)) dNil))) (dCons (dTup (dCons (dC (.int 2)) dNil)) (dCons (dTup (dCons (dC (.int 2)) (dCons (dC (.int 5)) dNil))) dNil)))) dNil)) (dTup (dCons (dTup (dCons (dC (.int 2)) dNil)) dNil))))))))
abbrev N_law : List Str := ["_law_script", "_law_heap_here", "_law_turn", "_law_numbers_here", "_law_lots_here", "_law_first", "_law_step", "_law_due", "_law_told", "_law_at"]
end K8
end DL
namespace DL
open PySem PySem.Spec L2 Gd
namespace K8
theorem and_nat (a b : Nat) : Builtin.bitAnd (a : Int) (b : Int) = ((a &&& b : Nat) : Int) := by
  unfold Builtin.bitAnd
  rw [decide_eq_true (Int.natCast_nonneg a), decide_eq_true (Int.natCast_nonneg b)]
  simp only [Int.toNat_natCast]
theorem or_nat (a b : Nat) : Builtin.bitOr (a : Int) (b : Int) = ((a ||| b : Nat) : Int) := by
  unfold Builtin.bitOr Builtin.bitAnd Builtin.bitNot
  rw [decide_eq_false (by omega), decide_eq_false (by omega)]
  show -(-((((-(-(a : Int) - 1) - 1).toNat ||| (-(-(b : Int) - 1) - 1).toNat : Nat)) : Int) - 1) - 1 = _
  rw [show (-(-(a : Int) - 1) - 1).toNat = a by omega, show (-(-(b : Int) - 1) - 1).toNat = b by omega]
  omega
theorem and_pred (n : Nat) : Builtin.bitAnd (n : Int) ((n : Int) - 1) = ((n &&& (n - 1) : Nat) : Int) := by
  cases n with
  | zero => decide
  | succ n => rw [show ((n + 1 : Nat) : Int) - 1 = ((n : Nat) : Int) by omega, and_nat]; rfl
theorem eq_zero (n : Nat) : decide ((n : Int) = 0) = decide (n = 0) := decide_eq_decide.mpr (by omega)
theorem eq_nat (a b : Nat) : decide ((a : Int) = (b : Int)) = decide (a = b) := decide_eq_decide.mpr (by omega)
theorem ne0_nat (a : Nat) : ((a : Int) != 0) = decide (a ≠ 0) := by
  by_cases h : a = 0
  · subst h; rfl
  · rw [decide_eq_true h]
    simpa using h
/-- one turn of a comprehension without what changes the store -/
theorem lc_fm {g : DTG} {tt : DTT} {te : DTE} {own : List Nat} {δ : Sl} {S : Sto} {Q : D → Sto → Prop} {α : Type} (enc : α → D) (f : α → Option D) : ∀ (L : List α) (acc : List D), acc.length + L.length ≤ 16777216 →
    (∀ x ∈ L, ∀ (kf : Sto → Prop) (k : D → Sto → Prop), (∀ d, f x = some d → k d S) → (f x = none → kf S) → g (enc x) (wipeD δ own) fun δ1 => tt δ1 S fun b S1 => if b = true then te δ1 S1 k else kf S1) →
    Q (.lst (acc ++ L.filterMap f)) S → lcGo g tt te own δ Q (L.map enc) acc S
  | [], acc, _, _, h => by simpa [lcGo] using h
  | x :: L, acc, hl, hx, h => by
    rw [List.length_cons] at hl
    refine hx x List.mem_cons_self (fun S1 => lcGo g tt te own δ Q (L.map enc) acc S1) (fun d S2 => Fit (acc.length + 1) ∧ lcGo g tt te own δ Q (L.map enc) (acc ++ [d]) S2) (fun d e => ⟨by unfold Fit; omega, ?_⟩) (fun e => ?_)
    · refine lc_fm enc f L _ (by rw [List.length_append, List.length_singleton]; omega) (fun y m => hx y (List.mem_cons_of_mem _ m)) ?_
      rw [List.filterMap_cons_some e] at h
      rwa [List.append_assoc]
    · refine lc_fm enc f L _ (by omega) (fun y m => hx y (List.mem_cons_of_mem _ m)) ?_
      rw [List.filterMap_cons_none e] at h
      exact h
/-- [e for x in xs] -/
theorem lc_map {g : DTG} {te : DTE} {own : List Nat} {δ : Sl} {S : Sto} {Q : D → Sto → Prop} {α : Type} (enc : α → D) (f : α → D) (L : List α) (hl : L.length ≤ 16777216)
    (hx : ∀ x ∈ L, ∀ k : D → Sto → Prop, k (f x) S → g (enc x) (wipeD δ own) fun δ1 => te δ1 S k) (h : Q (.lst (L.map f)) S) : lcGo g dYes te own δ Q (L.map enc) [] S := by
  refine lc_fm enc (fun x => some (f x)) L [] (by rw [List.length_nil]; omega) (fun x m kf k hk _ => hx x m k (hk _ rfl)) ?_
  rw [List.nil_append]
  have e : L.filterMap (fun x => some (f x)) = L.map f := by rw [← List.filterMap_eq_map]; rfl
  rw [e]
  exact h
/-- [e for x in xs if c] -/
theorem lc_filter {g : DTG} {tt : DTT} {te : DTE} {own : List Nat} {δ : Sl} {S : Sto} {Q : D → Sto → Prop} {α : Type} (enc : α → D) (p : α → Bool) (f : α → D) (L : List α) (hl : L.length ≤ 16777216)
    (hx : ∀ x ∈ L, ∀ (kf : Sto → Prop) (k : D → Sto → Prop), (p x = true → k (f x) S) → (p x = false → kf S) → g (enc x) (wipeD δ own) fun δ1 => tt δ1 S fun b S1 => if b = true then te δ1 S1 k else kf S1)
    (h : Q (.lst ((L.filter p).map f)) S) : lcGo g tt te own δ Q (L.map enc) [] S := by
  refine lc_fm enc (fun x => if p x = true then some (f x) else none) L [] (by rw [List.length_nil]; omega) (fun x m kf k hk h0 => hx x m kf k (fun e => hk _ (by rw [if_pos e])) (fun e => h0 (by rw [if_neg (by rw [e]; decide)]))) ?_
  rw [List.nil_append]
  have e : L.filterMap (fun x => if p x = true then some (f x) else none) = (L.filter p).map f := by
    clear hx h hl
    induction L with
    | nil => rfl
    | cons x L ih =>
      by_cases q : p x = true
      · rw [List.filterMap_cons_some (b := f x) (by rw [if_pos q]), ih, List.filter_cons_of_pos q, List.map_cons]
      · rw [List.filterMap_cons_none (by rw [if_neg q]), ih, List.filter_cons_of_neg q]
  rw [e]
  exact h
theorem own_self {p : Addr} {xs : List D} {S : Sto} : isOwn ((p, .l xs) :: S) (.adr p) := by
  show (getS _ p).isSome = true
  rw [getS_self]
  rfl
theorem own_next {p q : Addr} {xs ys : List D} {S : Sto} (h : q ≠ p) : isOwn ((q, .l ys) :: (p, .l xs) :: S) (.adr p) := by
  show (getS _ p).isSome = true
  rw [getS_other h, getS_self]
  rfl
theorem fAnd_nat {a b : Nat} {S : Sto} {Q : D → Sto → Prop} (h : Q (.int ((a &&& b : Nat) : Int)) S) : fAnd (.int (a : Int)) (.int (b : Int)) S Q := by
  show Q (.int (Builtin.bitAnd a b)) S
  rw [and_nat]
  exact h
theorem fOr_nat {a b : Nat} {S : Sto} {Q : D → Sto → Prop} (h : Q (.int ((a ||| b : Nat) : Int)) S) : fOr (.int (a : Int)) (.int (b : Int)) S Q := by
  show Q (.int (Builtin.bitOr a b)) S
  rw [or_nat]
  exact h
theorem nD_cons (m : Nat) (ms : List Nat) : nD (m :: ms) = .int (m : Int) :: nD ms := rfl
theorem nD_append (a b : List Nat) : nD (a ++ b) = nD a ++ nD b := List.map_append

/-! ### is_least_blocker -/
theorem ln_is_least_blocker : ∀ ds post, sp_is_least_blocker ds post → ds.length = 2 := by
  rintro ds post ⟨ms, b, rfl, _⟩
  rfl
theorem lp_isl {DD : DEnds} {b : Nat} {x0 : Option D} : ∀ (ms : List Nat) (al : Nat) (x3 x4 : Option D),
    (∀ x3 x4, DD.nx [x0, some (.int (b : Int)), some (.int ((ms.foldl (fun al m => if one1 (m &&& b) then al ||| (m &&& b) else al) al : Nat) : Int)), x3, x4] []) →
    forGo (dgName 3) b0_is_least_blocker DD (nD ms) [x0, some (.int (b : Int)), some (.int (al : Int)), x3, x4] []
  | [], al, x3, x4, h => h _ _
  | m :: ms, al, x3, x4, h => by
    show (if decide (Builtin.bitAnd (Builtin.bitAnd (m : Int) (b : Int)) (Builtin.bitAnd (m : Int) (b : Int) - 1) = 0) = true then forGo (dgName 3) b0_is_least_blocker DD (nD ms) [x0, some (.int (b : Int)), some (.int (Builtin.bitOr (al : Int) (Builtin.bitAnd (m : Int) (b : Int)))), some (.int (m : Int)), some (.int (Builtin.bitAnd (m : Int) (b : Int)))] []
      else forGo (dgName 3) b0_is_least_blocker DD (nD ms) [x0, some (.int (b : Int)), some (.int (al : Int)), some (.int (m : Int)), some (.int (Builtin.bitAnd (m : Int) (b : Int)))] [])
    rw [and_nat, and_pred, eq_zero, or_nat]
    rw [List.foldl_cons] at h
    by_cases q : one1 (m &&& b) = true
    · rw [if_pos q] at h
      exact yes q (lp_isl ms _ _ _ h)
    · rw [if_neg q] at h
      exact no (Bool.eq_false_iff.mpr q) (lp_isl ms _ _ _ h)
theorem vc_is_least_blocker : ∀ ds post, sp_is_least_blocker ds post → r_is_least_blocker { nx := fun _ _ => post .non, rt := fun d _ => post d } (startD N_is_least_blocker ds) [] := by
  rintro ds post ⟨ms, b, rfl, hb, h⟩
  refine lp_isl (al := 0) ms none none fun x3 x4 => ?_
  show post (.bl (decide (((aloneN ms b : Nat) : Int) = (b : Int))))
  rw [eq_nat]
  exact h

/-! ### bits_in -/
theorem ln_bits_in : ∀ ds post, sp_bits_in ds post → ds.length = 1 := by
  rintro ds post ⟨m, rfl, _⟩
  rfl
def lowB (m : Nat) : Nat := 2 ^ ((List.range 10).find? m.testBit).getD 0
theorem low_all : ∀ m : Nat, m < 1024 → m = 0 ∨ (Builtin.bitAnd (m : Int) (-(m : Int)) == ((lowB m : Nat) : Int) && bitsN m == lowB m :: bitsN (m &&& (m - 1)) && decide ((m &&& (m - 1)) < m)) = true := by decide +kernel
theorem vc_bits_in : ∀ ds post, sp_bits_in ds post → r_bits_in { nx := fun _ _ => post .non, rt := fun d _ => post d } (startD N_bits_in ds) [] := by
  rintro ds post ⟨m0, rfl, hm0, h⟩
  refine ⟨by show 0 ≤ 16777216; decide, fun p => ?_⟩
  refine ⟨fun n δ S => ∃ (m : Nat) (acc : List Nat), m = n ∧ m < 1024 ∧ acc.length + m ≤ 1024 ∧ acc ++ bitsN m = bitsN m0 ∧ δ = [some (.int (m : Int)), some (.adr p)] ∧ S = [(p, .l (nD acc))], ⟨m0, m0, [], rfl, hm0, by rw [List.length_nil]; omega, rfl, rfl, rfl⟩, ?_⟩
  rintro n δ S ⟨m, acc, rfl, hm, hl, e, rfl, rfl⟩
  show (if ((m : Int) != 0) = true then _ else _)
  rw [ne0_nat]
  by_cases z : m = 0
  · refine no (decide_eq_false (by simpa using z)) ?_
    subst z
    have e : acc = bitsN m0 := by rw [← e]; exact (List.append_nil acc).symm
    subst e
    refine opt_of getS_self ?_
    show post (frz _ _)
    rw [delS_one]
    exact h
  · refine yes (decide_eq_true z) ?_
    rcases low_all m hm with q | q
    · exact absurd q z
    · rw [Bool.and_eq_true, Bool.and_eq_true, beq_iff_eq, beq_iff_eq, decide_eq_true_eq] at q
      obtain ⟨⟨q1, q2⟩, q3⟩ := q
      refine ⟨own_self, ?_⟩
      show opt (getS _ p) _
      refine opt_of getS_self ⟨by rw [nD_len]; unfold Fit; omega, ?_⟩
      rw [setS_one]
      refine ⟨m &&& (m - 1), q3, m &&& (m - 1), acc ++ [lowB m], rfl, by omega, by rw [List.length_append, List.length_singleton]; omega, ?_, ?_, ?_⟩
      · rw [List.append_assoc, ← e, q2]
        rfl
      · show [some (D.int (Builtin.bitAnd (m : Int) ((m : Int) - 1))), some (.adr p)] = _
        rw [and_pred]
      · show [(p, Cel.l (nD acc ++ [.int (Builtin.bitAnd (m : Int) (-(m : Int)))]))] = _
        rw [q1, nD_append]
        rfl

/-! ### least_masks -/
theorem ln_least_masks : ∀ ds post, sp_least_masks ds post → ds.length = 1 := by
  rintro ds post ⟨ms, rfl, _⟩
  rfl
theorem asB_all {α : Type} (L : List α) (f : α → Bool) : asB (L.map fun x => D.bl (f x)) = some (L.map f) := by
  have := asB_map (L.map f)
  rwa [List.map_map] at this
theorem lp_least {DD : DEnds} {p : Addr} {x0 : Option D} : ∀ (ms kept : List Nat) (x2 x3 : Option D), kept.length + ms.length ≤ 1000 →
    (∀ x2 x3, DD.nx [x0, some (.adr p), x2, x3] [(p, .l (nD (ms.foldl (fun kept m => if kept.all (fun o => decide (m &&& o ≠ o)) then kept ++ [m] else kept) kept)))]) →
    forGo (dgName 2) b0_least_masks DD (nD ms) [x0, some (.adr p), x2, x3] [(p, .l (nD kept))]
  | [], kept, x2, x3, _, h => h _ _
  | m :: ms, kept, x2, x3, hl, h => by
    rw [List.length_cons] at hl
    show opt (getS [(p, .l (nD kept))] p) _
    refine opt_of getS_self ?_
    rw [delS_one]
    refine lc_map (fun o : Nat => D.int (o : Int)) (fun o => .bl (decide (m &&& o ≠ o))) kept (by omega) (fun o mo k hk => ?_) ?_
    · show k (.bl (!decide (Builtin.bitAnd (m : Int) (o : Int) = (o : Int)))) []
      rw [and_nat, eq_nat]
      have e : decide (m &&& o ≠ o) = !decide (m &&& o = o) := by simp
      rw [e] at hk
      exact hk
    · show opt (asB _) _
      rw [asB_all]
      refine ⟨rfl, rfl, ?_⟩
      show (if (kept.map fun o => decide (m &&& o ≠ o)).all id = true then _ else _)
      rw [List.foldl_cons] at h
      have e : (kept.map fun o => decide (m &&& o ≠ o)).all id = kept.all fun o => decide (m &&& o ≠ o) := by rw [List.all_map]; rfl
      rw [e]
      by_cases q : (kept.all fun o => decide (m &&& o ≠ o)) = true
      · rw [if_pos q] at h
        refine yes q ⟨own_self, ?_⟩
        refine opt_of getS_self ⟨by rw [nD_len]; unfold Fit; omega, ?_⟩
        rw [setS_one, show nD kept ++ [D.int (m : Int)] = nD (kept ++ [m]) from by rw [nD_append]; rfl]
        exact lp_least ms _ _ _ (by rw [List.length_append, List.length_singleton]; omega) h
      · rw [if_neg q] at h
        exact no (Bool.eq_false_iff.mpr q) (lp_least ms _ _ _ (by omega) h)
theorem vc_least_masks : ∀ ds post, sp_least_masks ds post → r_least_masks { nx := fun _ _ => post .non, rt := fun d _ => post d } (startD N_least_masks ds) [] := by
  rintro ds post ⟨ms, rfl, hl, h⟩
  refine ⟨by show 0 ≤ 16777216; decide, fun p => ?_⟩
  refine lp_least ms [] none none (by rw [List.length_nil]; omega) fun x2 x3 => ?_
  refine opt_of getS_self ?_
  rw [delS_one]
  exact h
end K8
end DL
namespace DL
open PySem PySem.Spec L2 Gd
namespace K8
/-! ### least_blocking -/
def nodeD (w : Nat × Nat) : D := .tup [.int (w.1 : Int), .int (w.2 : Int)]
def lvA (ms : List Nat) (w : Nat × Nat) : List Nat := leaves (ms.take w.1) (ms.drop w.1) w.2
def knA (ms : List Nat) (w : Nat × Nat) : Nat := knots (ms.take w.1) (ms.drop w.1) w.2
structure Srch (ms : List Nat) (n : Nat) (F : List Nat) (W : List (Nat × Nat)) : Prop where
  sum : (W.map (knA ms)).sum = n
  few : n ≤ 1100000
  ok : ∀ w ∈ W, w.1 ≤ ms.length ∧ w.2 < 1024
  perm : (F ++ W.flatMap (lvA ms)).Perm (leaves [] ms 0)
theorem lv_step {ms : List Nat} {k b : Nat} (h : k < ms.length) : lvA ms (k, b) = (stepB (ms.take k) ms[k] b).flatMap fun c => lvA ms (k + 1, c) := by
  unfold lvA
  show leaves (ms.take k) (ms.drop k) b = _
  rw [List.drop_eq_getElem_cons h, leaves]
  simp only [List.take_append_getElem]
theorem kn_step {ms : List Nat} {k b : Nat} (h : k < ms.length) : knA ms (k, b) = 1 + ((stepB (ms.take k) ms[k] b).map fun c => knA ms (k + 1, c)).sum := by
  unfold knA
  show knots (ms.take k) (ms.drop k) b = _
  rw [List.drop_eq_getElem_cons h, knots]
  simp only [List.take_append_getElem]
theorem step_met {pre : List Nat} {m b : Nat} (h : m &&& b ≠ 0) : stepB pre m b = [b] := by unfold stepB; rw [if_pos h]
theorem step_not {pre : List Nat} {m b : Nat} (h : m &&& b = 0) : stepB pre m b = ((bitsN m).map (b ||| ·)).filter (isL (pre ++ [m])) := by unfold stepB; rw [if_neg (by simpa using h)]
theorem lv_end {ms : List Nat} {b : Nat} : lvA ms (ms.length, b) = [b] := by
  unfold lvA
  show leaves (ms.take ms.length) (ms.drop ms.length) b = _
  rw [List.drop_length]
  rfl
theorem kn_pos {ms : List Nat} (w : Nat × Nat) : 1 ≤ knA ms w := knots_pos _ _ _
theorem srch_found {ms : List Nat} {n : Nat} {F : List Nat} {W : List (Nat × Nat)} {k b : Nat} (h : Srch ms n F (W ++ [(k, b)])) (e : lvA ms (k, b) = [b]) : ∃ n', n' < n ∧ Srch ms n' (F ++ [b]) W := by
  have s := h.sum
  rw [List.map_append, List.sum_append] at s
  have p := kn_pos (ms := ms) (k, b)
  have s2 : ([(k, b)].map (knA ms)).sum = knA ms (k, b) := by simp
  rw [s2] at s
  refine ⟨_, by omega, rfl, by have := h.few; omega, fun w m => h.ok w (List.mem_append_left _ m), ?_⟩
  refine List.Perm.trans ?_ h.perm
  rw [List.flatMap_append, List.flatMap_singleton, e, List.append_assoc]
  exact List.Perm.append_left F List.perm_append_comm
theorem srch_more {ms : List Nat} {n : Nat} {F : List Nat} {W : List (Nat × Nat)} {k b j : Nat} (hs : Small ms) (h : Srch ms n F (W ++ [(k, b)])) (hj : j < ms.length) (e : lvA ms (j, b) = lvA ms (k, b)) (le : knA ms (j, b) ≤ knA ms (k, b)) :
    ∃ n', n' < n ∧ Srch ms n' F (W ++ (stepB (ms.take j) ms[j] b).map fun c => (j + 1, c)) := by
  have s := h.sum
  rw [List.map_append, List.sum_append] at s
  have s2 : ([(k, b)].map (knA ms)).sum = knA ms (k, b) := by simp
  rw [s2] at s
  have ks := kn_step (b := b) hj
  have e2 : (((stepB (ms.take j) ms[j] b).map fun c => (j + 1, c)).map (knA ms)).sum = ((stepB (ms.take j) ms[j] b).map fun c => knA ms (j + 1, c)).sum := by rw [List.map_map]; rfl
  have hb := (h.ok (k, b) (List.mem_append_right _ (List.mem_singleton.mpr rfl))).2
  have hm : ms[j] < 1024 := hs _ (List.getElem_mem hj)
  refine ⟨_, ?_, rfl, ?_, fun w m => ?_, ?_⟩
  · rw [List.map_append, List.sum_append, e2]; omega
  · rw [List.map_append, List.sum_append, e2]; have := h.few; omega
  · rcases List.mem_append.mp m with m | m
    · exact h.ok w (List.mem_append_left _ m)
    · obtain ⟨c, mc, rfl⟩ := List.mem_map.mp m
      refine ⟨hj, ?_⟩
      rcases (mem_step hm hb).mp mc with ⟨_, rfl⟩ | ⟨_, lt, _⟩
      · exact hb
      · exact lt
  · refine List.Perm.trans (List.Perm.of_eq ?_) h.perm
    rw [List.flatMap_append, List.flatMap_append, List.flatMap_singleton, List.flatMap_map, ← e, lv_step hj]
theorem srch_len {ms : List Nat} {n : Nat} {F : List Nat} {W : List (Nat × Nat)} (hs : Small ms) (h : Srch ms n F W) : F.length ≤ 1024 ∧ W.length ≤ n := by
  constructor
  · have := h.perm.length_eq
    rw [List.length_append] at this
    have := leaves_len hs
    omega
  · rw [← h.sum]
    have := fun w : Nat × Nat => kn_pos (ms := ms) w
    clear h
    induction W with
    | nil => exact Nat.zero_le _
    | cons w W ih => rw [List.map_cons, List.sum_cons, List.length_cons]; have := this w; omega
theorem srch_zero {ms : List Nat} (hs : Small ms) (hl : ms.length ≤ 1000) : ∃ n, Srch ms n [] [(0, 0)] := by
  refine ⟨_, rfl, ?_, fun w m => ?_, ?_⟩
  · have e : ([((0 : Nat), (0 : Nat))].map (knA ms)).sum = knots [] ms 0 := by simp [knA]
    rw [e]
    have := knots_all hs
    omega
  · rw [List.mem_singleton.mp m]
    exact ⟨Nat.zero_le _, by decide⟩
  · simp [lvA]
theorem setS_two {p q : Addr} (h : q ≠ p) {a b c : Cel} : setS [(q, a), (p, b)] p c = [(q, a), (p, c)] := by
  unfold setS
  simp [h]
theorem setS_fst {p q : Addr} (h : q ≠ p) {a b c : Cel} : setS [(q, a), (p, b)] q c = [(q, c), (p, b)] := by
  unfold setS
  simp [Ne.symm h]
theorem delS_fst {p q : Addr} (h : q ≠ p) {a b : Cel} : delS [(q, a), (p, b)] q = [(p, b)] := by
  unfold delS
  simp [Ne.symm h]
theorem cutD_take {α : Type} (xs : List α) {p : Nat} (h : p ≤ xs.length) : cutD xs none (some (p : Int)) = xs.take p := by
  unfold cutD
  have e1 : HT.sIx xs.length 0 none = 0 := rfl
  have e2 : HT.sIx xs.length xs.length (some (p : Int)) = min p xs.length := by
    show (if (p : Int) < 0 then ((p : Int) + (xs.length : Int)).toNat else min (p : Int).toNat xs.length) = _
    rw [if_neg (by omega), Int.toNat_natCast]
  rw [e1, e2, List.drop_zero, Nat.sub_zero, Nat.min_eq_left h]
theorem cut_take {ms : List Nat} {j : Nat} (h : j < ms.length) : cutD (nD ms) none (some ((j : Int) + 1)) = nD (ms.take (j + 1)) := by
  rw [show (j : Int) + 1 = ((j + 1 : Nat) : Int) by omega, cutD_take _ (by rw [nD_len]; omega)]
  unfold nD
  rw [List.map_take]
theorem at_nD {ms : List Nat} {j : Nat} (h : j < ms.length) : atI (nD ms) (j : Int) = some (.int ((ms[j] : Nat) : Int)) := atI_nat (nD_get (List.getElem?_eq_getElem h))
theorem pop_at {xs : List D} {d : D} : (xs ++ [d])[(xs ++ [d]).length - 1]? = some d := by simp
abbrev wl (ms : List Nat) (p q : Addr) (x3 x4 x5 x6 x7 x8 : Option D) : Sl := [some (.lst (nD ms)), some (.adr p), some (.adr q), x3, x4, x5, x6, x7, x8]
abbrev wS (p q : Addr) (F : List Nat) (W : List (Nat × Nat)) : Sto := [(q, .l (W.map nodeD)), (p, .l (nD F))]
theorem ln_least_blocking : ∀ ds post, sp_least_blocking ds post → ds.length = 1 := by
  rintro ds post ⟨ms, rfl, _⟩
  rfl
theorem vc_least_blocking : ∀ ds post, sp_least_blocking ds post → r_least_blocking { nx := fun _ _ => post .non, rt := fun d _ => post d } (startD N_least_blocking ds) [] := by
  rintro ds post ⟨ms, rfl, hs, hl, h⟩
  refine ⟨by show 0 ≤ 16777216; decide, fun p hp => ?_⟩
  refine ⟨by show 2 ≤ 16777216; decide, by show 1 ≤ 16777216; decide, fun q hq => ?_⟩
  have ne : q ≠ p := by simpa using hq
  refine ⟨fun n δ S => ∃ (F : List Nat) (W : List (Nat × Nat)) (x3 x4 x5 x6 x7 x8 : Option D), Srch ms n F W ∧ δ = wl ms p q x3 x4 x5 x6 x7 x8 ∧ S = wS p q F W, ?_, ?_⟩
  · obtain ⟨n, hn⟩ := srch_zero hs hl
    exact ⟨n, [], [(0, 0)], none, none, none, none, none, none, hn, rfl, rfl⟩
  rintro n δ S ⟨F, W, x3, x4, x5, x6, x7, x8, hI, rfl, rfl⟩
  refine opt_of getS_self ?_
  by_cases z : W = []
  · subst z
    refine no rfl ?_
    refine opt_of getS_self ?_
    rw [delS_fst ne]
    refine opt_of getS_self ?_
    rw [delS_one]
    have pm : F.Perm (leaves [] ms 0) := by
      have := hI.perm
      rwa [List.flatMap_nil, List.append_nil] at this
    exact h F (pm.nodup_iff.mpr (leaves_nodup ms [] 0 hs (min_nil.mpr rfl))) fun b => by rw [pm.mem_iff, mem_leaves hs]
  · obtain ⟨W, ⟨k, b⟩, rfl⟩ : ∃ W' w, W = W' ++ [w] := ⟨W.dropLast, W.getLast z, (List.dropLast_concat_getLast z).symm⟩
    refine yes (by simp) ?_
    refine ⟨own_self, ?_⟩
    refine opt_of getS_self ?_
    rw [List.map_append]
    refine opt_of pop_at ?_
    rw [List.map_singleton, List.dropLast_concat, setS_fst ne]
    refine ⟨rfl, ?_⟩
    have ⟨hk, hb⟩ := hI.ok (k, b) (List.mem_append_right _ (List.mem_singleton.mpr rfl))
    refine ⟨fun m δ S => ∃ j : Nat, ms.length - j = m ∧ j ≤ ms.length ∧ lvA ms (j, b) = lvA ms (k, b) ∧ knA ms (j, b) ≤ knA ms (k, b) ∧ δ = wl ms p q (some (.int (j : Int))) (some (.int (b : Int))) x5 x6 x7 x8 ∧ S = wS p q F W, ⟨_, k, rfl, hk, rfl, Nat.le_refl _, rfl, rfl⟩, ?_⟩
    rintro m δ S ⟨j, rfl, hj, el, ek, rfl, rfl⟩
    have len := (srch_len hs hI).1
    have lenW := (srch_len hs hI).2
    rw [List.length_append, List.length_singleton] at lenW
    have few := hI.few
    show (if decide ((j : Int) < ((nD ms).length : Int)) = true then _ else _)
    rw [nD_len]
    have out : ∀ k1, (j = ms.length ∨ ∃ lt : j < ms.length, ms[j] &&& b = 0) → k1 = wS p q F W → (dIfS (dTest (dOp fEq (dVar 3) (dCB (one fLen) (dCons (dVar 0) dNil)))) (dDrop (dML fAppend (dVar 1) (dCons (dVar 4) dNil))) (dSeqS (dSet 5 (dSl (dVar 0) dNoPart (dPart (dOp fAdd (dVar 3) (dC (.int 1)))))) (dSeqS (dSet 6 (dLc (dSeq (dCall sp_bits_in (dCons (dOp fIx (dVar 0) (dVar 3)) dNil))) (dgName 7) dYes (dOp fOr (dVar 4) (dVar 7)) [7])) (dDrop (dML fExtend (dVar 2) (dCons (dLc (dSeq (dVar 6)) (dgName 8) (dTr (dCall sp_is_least_blocker (dCons (dVar 5) (dCons (dVar 8) dNil)))) (dTup (dCons (dOp fAdd (dVar 3) (dC (.int 1))) (dCons (dVar 8) dNil))) [8]) dNil))))))
        { nx := fun δ' S' => ∃ m', m' < n ∧ ∃ (F : List Nat) (W : List (Nat × Nat)) (x3 x4 x5 x6 x7 x8 : Option D), Srch ms m' F W ∧ δ' = wl ms p q x3 x4 x5 x6 x7 x8 ∧ S' = wS p q F W,
          ct := fun δ' S' => ∃ m', m' < n ∧ ∃ (F : List Nat) (W : List (Nat × Nat)) (x3 x4 x5 x6 x7 x8 : Option D), Srch ms m' F W ∧ δ' = wl ms p q x3 x4 x5 x6 x7 x8 ∧ S' = wS p q F W,
          bk := dFrz 2 (dFrz 1 (dRet (dVar 1))) { nx := fun _ _ => post .non, rt := fun d _ => post d }, rt := fun d _ => post d }
        (wl ms p q (some (.int (j : Int))) (some (.int (b : Int))) x5 x6 x7 x8) k1 := by
      rintro k1 hcase rfl
      show (if decide ((j : Int) = ((nD ms).length : Int)) = true then _ else _)
      rw [nD_len, eq_nat]
      rcases hcase with e | ⟨lt, e0⟩
      · refine yes (decide_eq_true e) ?_
        subst e
        refine ⟨own_next ne, ?_⟩
        refine opt_of ((getS_other ne).trans getS_self) ⟨by rw [nD_len]; unfold Fit; omega, ?_⟩
        rw [setS_two ne]
        rw [lv_end] at el
        obtain ⟨n', lt, hn⟩ := srch_found hI el.symm
        refine ⟨n', lt, F ++ [b], W, _, _, _, _, _, _, hn, rfl, ?_⟩
        show _ = [(q, Cel.l (W.map nodeD)), (p, .l (nD (F ++ [b])))]
        rw [nD_append]
        rfl
      · refine no (decide_eq_false (Nat.ne_of_lt lt)) ?_
        refine opt_of (at_nD lt) ?_
        refine ⟨ms[j], rfl, hs _ (List.getElem_mem lt), ?_⟩
        refine lc_map (fun i : Nat => D.int (i : Int)) (fun i => .int ((b ||| i : Nat) : Int)) (bitsN ms[j]) (by have : (bitsN ms[j]).length ≤ 10 := by { unfold bitsN; rw [List.length_map]; exact Nat.le_trans (List.length_filter_le _ _) (by simp) }; omega) (fun i mi k1 hk1 => ?_) ?_
        · show k1 (.int (Builtin.bitOr (b : Int) (i : Int))) _
          rw [or_nat]
          exact hk1
        have e3 : (bitsN ms[j]).map (fun i => D.int ((b ||| i : Nat) : Int)) = nD ((bitsN ms[j]).map (b ||| ·)) := by unfold nD; rw [List.map_map]; rfl
        rw [e3]
        refine ⟨own_self, ?_⟩
        have hb10 : ∀ c ∈ (bitsN ms[j]).map (b ||| ·), c < 1024 := fun c mc => by
          obtain ⟨i, mi, rfl⟩ := List.mem_map.mp mc
          obtain ⟨i, ti, rfl⟩ := (mem_bits (hs _ (List.getElem_mem lt))).mp mi
          exact or_lt hb (T_lt (hs _ (List.getElem_mem lt)) ti)
        have l10 : ((bitsN ms[j]).map (b ||| ·)).length ≤ 10 := by
          rw [List.length_map]
          unfold bitsN
          rw [List.length_map]
          exact Nat.le_trans (List.length_filter_le _ _) (by simp)
        refine lc_filter (fun i : Nat => D.int (i : Int)) (isL (ms.take (j + 1))) (fun c => nodeD (j + 1, c)) ((bitsN ms[j]).map (b ||| ·)) (by omega) (fun c mc kf k1 h1 h0 => ?_) ?_
        · refine ⟨ms.take (j + 1), c, congrArg (fun l => [D.lst l, .int (c : Int)]) (cut_take lt), hb10 c mc, ?_⟩
          show (if isL (ms.take (j + 1)) c = true then _ else _)
          by_cases q1 : isL (ms.take (j + 1)) c = true
          · exact yes q1 ⟨by show 2 ≤ 16777216; decide, h1 q1⟩
          · exact no (Bool.eq_false_iff.mpr q1) (h0 (Bool.eq_false_iff.mpr q1))
        · obtain ⟨n', lt', hn⟩ := srch_more hs hI lt el ek
          rw [step_not e0, List.take_append_getElem] at hn
          refine opt_of getS_self (opt_of (x := (((bitsN ms[j]).map (b ||| ·)).filter (isL (ms.take (j + 1)))).map fun c => nodeD (j + 1, c)) rfl ⟨?_, ?_⟩)
          · have := List.length_filter_le (isL (ms.take (j + 1))) ((bitsN ms[j]).map (b ||| ·))
            rw [List.length_map, List.length_map]
            unfold Fit
            omega
          · rw [setS_fst ne]
            refine ⟨n', lt', F, _, _, _, _, _, _, _, hn, rfl, ?_⟩
            unfold wS
            rw [List.map_append, List.map_map]
            rfl
    by_cases lt : j < ms.length
    · refine yes (decide_eq_true (by omega)) ?_
      refine opt_of (at_nD lt) ?_
      show (if (Builtin.bitAnd ((ms[j] : Nat) : Int) (b : Int) != 0) = true then _ else _)
      rw [and_nat, ne0_nat]
      by_cases e0 : ms[j] &&& b = 0
      · refine no (decide_eq_false (by simpa using e0)) ?_
        exact out _ (.inr ⟨lt, e0⟩) rfl
      · refine yes (decide_eq_true e0) ?_
        have l1 := lv_step (b := b) lt
        have k1 := kn_step (b := b) lt
        rw [step_met e0, List.flatMap_singleton] at l1
        rw [step_met e0] at k1
        have k2 : ([b].map fun c => knA ms (j + 1, c)).sum = knA ms (j + 1, b) := by simp
        rw [k2] at k1
        exact ⟨ms.length - (j + 1), by omega, j + 1, rfl, lt, by rw [← l1, el], by omega, rfl, rfl⟩
    · refine no (decide_eq_false (by omega)) ?_
      exact out _ (.inl (by omega)) rfl
end K8
end DL
namespace DL
open PySem PySem.Spec L2 Gd
namespace K8
/-! ### masks for lots -/
theorem asc_inj {th : Lot} (h : Asc th) {i j : Nat} (hi : i < th.length) (hj : j < th.length) (e : th[i] = th[j]) : i = j := by
  have p := List.pairwise_iff_getElem.mp h
  rcases Nat.lt_trichotomy i j with l | l | l
  · have := p i j hi hj l; omega
  · exact l
  · have := p j i hj hi l; omega
theorem asc_lt {th : Lot} (h : Asc th) {i j : Nat} (hi : i < th.length) (hj : j < th.length) (e : th[i] < th[j]) : i < j := by
  have p := List.pairwise_iff_getElem.mp h
  rcases Nat.lt_trichotomy i j with l | l | l
  · exact l
  · subst l; omega
  · have := p j i hj hi l; omega
def ix (th : Lot) (x : Int) : Nat := th.idxOf x
theorem ix_lt {th : Lot} {x : Int} (h : x ∈ th) : ix th x < th.length := List.idxOf_lt_length_of_mem h
theorem at_ix {th : Lot} {x : Int} (h : x ∈ th) : th[ix th x]'(ix_lt h) = x := List.getElem_idxOf (ix_lt h)
theorem ix_at {th : Lot} (ha : Asc th) {i : Nat} (hi : i < th.length) : ix th th[i] = i := asc_inj ha (ix_lt (List.getElem_mem hi)) hi (at_ix (List.getElem_mem hi))
theorem desc_bits : ∀ (js : List Nat), js.Pairwise (· > ·) → ∀ b, (∀ j ∈ js, j < b) → (js.map (2 ^ ·)).sum < 2 ^ b ∧ ∀ i, T (js.map (2 ^ ·)).sum i ↔ i ∈ js
  | [], _, b, _ => ⟨Nat.two_pow_pos b, fun i => ⟨fun t => absurd t T_zero, fun m => nomatch m⟩⟩
  | j :: r, p, b, hb => by
    have ⟨p1, p2⟩ := List.pairwise_cons.mp p
    obtain ⟨s1, s2⟩ := desc_bits r p2 j p1
    rw [List.map_cons, List.sum_cons]
    have hj := hb j List.mem_cons_self
    have e : (2 : Nat) ^ (j + 1) = 2 ^ j + 2 ^ j := by rw [Nat.pow_succ]; omega
    have top : 2 ^ j + (r.map (2 ^ ·)).sum < 2 ^ (j + 1) := by omega
    refine ⟨Nat.lt_of_lt_of_le top (Nat.pow_le_pow_right (by decide) hj), fun i => ?_⟩
    rw [List.mem_cons, ← s2 i]
    rcases Nat.lt_trichotomy i j with l | l | l
    · unfold T
      rw [Nat.testBit_two_pow_add_gt l]
      exact ⟨.inr, fun z => z.elim (fun z => by omega) id⟩
    · subst l
      unfold T
      rw [Nat.testBit_two_pow_add_eq, Nat.testBit_lt_two_pow s1]
      exact ⟨fun _ => .inl rfl, fun _ => rfl⟩
    · have f : ∀ n, n < 2 ^ (j + 1) → ¬ T n i := fun n h t => by
        have : n < 2 ^ i := Nat.lt_of_lt_of_le h (Nat.pow_le_pow_right (by decide) l)
        rw [T, Nat.testBit_lt_two_pow this] at t
        cases t
      exact ⟨fun t => absurd t (f _ top), fun z => z.elim (fun z => by omega) fun t => absurd t (f _ (by omega))⟩
def mkN (th l : Lot) : Nat := (l.map fun x => 2 ^ ix th x).sum
theorem mkN_bits {th l : Lot} (ha : Asc th) (hl : Asc l) (s : Sub l th) : mkN th l < 2 ^ th.length ∧ ∀ i, T (mkN th l) i ↔ ∃ h : i < th.length, th[i] ∈ l := by
  have e : mkN th l = (((l.map (ix th)).reverse).map (2 ^ ·)).sum := by
    rw [List.map_reverse, List.sum_reverse, List.map_map]
    rfl
  have d := desc_bits (l.map (ix th)).reverse (by
    refine List.pairwise_reverse.mpr (List.pairwise_map.mpr (hl.imp_of_mem fun {x y} mx my lt => ?_))
    have hx := s x mx
    have hy := s y my
    exact asc_lt ha (ix_lt hx) (ix_lt hy) (by rw [at_ix hx, at_ix hy]; exact lt)) th.length fun j m => by
      obtain ⟨x, mx, rfl⟩ := List.mem_map.mp (List.mem_reverse.mp m)
      exact ix_lt (s x mx)
  rw [e]
  refine ⟨d.1, fun i => ?_⟩
  rw [d.2, List.mem_reverse, List.mem_map]
  constructor
  · rintro ⟨x, mx, rfl⟩
    exact ⟨ix_lt (s x mx), by rw [at_ix (s x mx)]; exact mx⟩
  · rintro ⟨h, m⟩
    exact ⟨_, m, ix_at ha h⟩
/-- the lot of a mask -/
def back (th : Lot) (m : Nat) : Lot := th.filter fun x => decide (2 ^ ix th x &&& m ≠ 0)
theorem pow_and {i m : Nat} : 2 ^ i &&& m ≠ 0 ↔ T m i := by
  rw [and_ne]
  constructor
  · rintro ⟨j, h1, h2⟩
    rw [T_pow] at h1
    rwa [← h1]
  · exact fun t => ⟨i, T_pow.mpr rfl, t⟩
theorem mem_back {th : Lot} (ha : Asc th) {m : Nat} {x : Int} : x ∈ back th m ↔ ∃ (i : Nat) (h : i < th.length), th[i] = x ∧ T m i := by
  unfold back
  rw [List.mem_filter, decide_eq_true_eq, pow_and]
  constructor
  · rintro ⟨mx, t⟩
    exact ⟨_, ix_lt mx, at_ix mx, t⟩
  · rintro ⟨i, h, rfl, t⟩
    refine ⟨List.getElem_mem h, ?_⟩
    rw [ix_at ha h]
    exact t
theorem back_asc {th : Lot} (ha : Asc th) (m : Nat) : Asc (back th m) := ha.sublist List.filter_sublist
theorem back_mk {th a : Lot} (ha : Asc th) (h : Asc a) (s : Sub a th) : back th (mkN th a) = a := by
  refine asc_ext linI (back_asc ha _) h fun x => ?_
  rw [mem_back ha]
  have b := (mkN_bits ha h s).2
  constructor
  · rintro ⟨i, hi, rfl, t⟩
    obtain ⟨_, m⟩ := (b i).mp t
    exact m
  · intro m
    have mx := s x m
    exact ⟨_, ix_lt mx, at_ix mx, (b _).mpr ⟨ix_lt mx, by rw [at_ix mx]; exact m⟩⟩
/-- without a bit -/
def wo (m i : Nat) : Nat := m &&& (1023 ^^^ 2 ^ i)
theorem T_wo {m i : Nat} (hm : m < 1024) (j : Nat) : T (wo m i) j ↔ T m j ∧ j ≠ i := by
  unfold wo
  rw [T_and]
  constructor
  · rintro ⟨a, c⟩
    refine ⟨a, fun e => ?_⟩
    subst e
    have j10 := T_lt hm a
    have z : (1023 ^^^ 2 ^ j).testBit j = true := c
    rw [Nat.testBit_xor, Nat.testBit_two_pow_self, show (1023 : Nat) = 2 ^ 10 - 1 from rfl, Nat.testBit_two_pow_sub_one] at z
    simp [j10] at z
  · rintro ⟨a, ne⟩
    refine ⟨a, ?_⟩
    have j10 := T_lt hm a
    show (1023 ^^^ 2 ^ i).testBit j = true
    rw [Nat.testBit_xor, Nat.testBit_two_pow, show (1023 : Nat) = 2 ^ 10 - 1 from rfl, Nat.testBit_two_pow_sub_one]
    simp [j10, Ne.symm ne]
theorem wo_lt {m i : Nat} (hm : m < 1024) : wo m i < 1024 := Nat.lt_of_le_of_lt Nat.and_le_left hm
theorem minB_iff {ms : List Nat} {m : Nat} (hm : m < 1024) : MinB ms m ↔ hitM ms m ∧ ∀ i, T m i → ¬ hitM ms (wo m i) := by
  constructor
  · rintro ⟨_, h, al⟩
    refine ⟨h, fun i t q => ?_⟩
    obtain ⟨n, mn, l⟩ := al i t
    obtain ⟨j, t1, t2⟩ := q n mn
    have ⟨t3, ne⟩ := (T_wo hm j).mp t2
    exact ne (l.2.2 j t1 t3)
  · rintro ⟨h, al⟩
    refine ⟨hm, h, fun i t => ?_⟩
    have n := al i t
    unfold hitM at n
    obtain ⟨k, n⟩ := Classical.not_forall.mp n
    obtain ⟨mk, n⟩ := Classical.not_imp.mp n
    have only : ∀ j, T k j → T m j → j = i := fun j a c => Classical.byContradiction fun ne => n ⟨j, a, (T_wo hm j).mpr ⟨c, ne⟩⟩
    obtain ⟨j, t1, t2⟩ := h k mk
    have e := only j t1 t2
    subst e
    exact ⟨k, mk, t1, t2, only⟩
theorem sub_bits {m o : Nat} (e : m &&& o = o) (i : Nat) (t : T o i) : T m i := by
  rw [← e] at t
  exact (T_and.mp t).1
theorem least_in : ∀ (ms kept : List Nat), (∀ m ∈ kept, ∃ o ∈ ms.foldl (fun kept m => if kept.all (fun o => decide (m &&& o ≠ o)) then kept ++ [m] else kept) kept, m &&& o = o) ∧
    (∀ m ∈ ms, ∃ o ∈ ms.foldl (fun kept m => if kept.all (fun o => decide (m &&& o ≠ o)) then kept ++ [m] else kept) kept, m &&& o = o) ∧
    ∀ o ∈ ms.foldl (fun kept m => if kept.all (fun o => decide (m &&& o ≠ o)) then kept ++ [m] else kept) kept, o ∈ kept ∨ o ∈ ms
  | [], kept => ⟨fun m mm => ⟨m, mm, Nat.and_self m⟩, (fun m mm => nomatch mm), fun o mo => .inl mo⟩
  | m :: ms, kept => by
    rw [List.foldl_cons]
    by_cases q : (kept.all fun o => decide (m &&& o ≠ o)) = true
    · rw [if_pos q]
      obtain ⟨h1, h2, h3⟩ := least_in ms (kept ++ [m])
      refine ⟨fun n mn => h1 n (List.mem_append_left _ mn), fun n mn => ?_, fun o mo => ?_⟩
      · rcases List.mem_cons.mp mn with rfl | mn
        · exact h1 n (List.mem_append_right _ (List.mem_singleton.mpr rfl))
        · exact h2 n mn
      · rcases h3 o mo with z | z
        · rcases List.mem_append.mp z with z | z
          · exact .inl z
          · exact .inr (by rw [List.mem_singleton.mp z]; exact List.mem_cons_self)
        · exact .inr (List.mem_cons_of_mem _ z)
    · rw [if_neg q]
      obtain ⟨h1, h2, h3⟩ := least_in ms kept
      refine ⟨h1, fun n mn => ?_, fun o mo => (h3 o mo).imp id (List.mem_cons_of_mem _)⟩
      rcases List.mem_cons.mp mn with rfl | mn
      · have : ∃ o ∈ kept, n &&& o = o := by
          refine Classical.byContradiction fun z => q (List.all_eq_true.mpr fun o mo => decide_eq_true fun e => z ⟨o, mo, e⟩)
        obtain ⟨o, mo, e⟩ := this
        obtain ⟨o2, mo2, e2⟩ := h1 o mo
        refine ⟨o2, mo2, ?_⟩
        rw [← e2, ← Nat.and_assoc, e]
      · exact h2 n mn
theorem hit_least (ms : List Nat) (b : Nat) : hitM (leastM ms) b ↔ hitM ms b := by
  obtain ⟨_, h2, h3⟩ := least_in ms []
  constructor
  · intro h m mm
    obtain ⟨o, mo, e⟩ := h2 m mm
    obtain ⟨i, t1, t2⟩ := h o mo
    exact ⟨i, sub_bits e i t1, t2⟩
  · intro h o mo
    rcases h3 o mo with z | z
    · cases z
    · exact h o z
theorem hit_lots {th : Lot} {L : List Lot} (ha : Asc th) (hL : ∀ l ∈ L, Asc l ∧ Sub l th) (b : Nat) : hitM (L.map (mkN th)) b ↔ Hits L (back th b) := by
  constructor
  · intro h l ml
    obtain ⟨i, t1, t2⟩ := h _ (List.mem_map.mpr ⟨l, ml, rfl⟩)
    obtain ⟨hi, m⟩ := ((mkN_bits ha (hL l ml).1 (hL l ml).2).2 i).mp t1
    exact ⟨_, m, (mem_back ha).mpr ⟨i, hi, rfl, t2⟩⟩
  · intro h n mn
    obtain ⟨l, ml, rfl⟩ := List.mem_map.mp mn
    obtain ⟨x, mx, bx⟩ := h l ml
    obtain ⟨i, hi, rfl, t⟩ := (mem_back ha).mp bx
    exact ⟨i, ((mkN_bits ha (hL l ml).1 (hL l ml).2).2 i).mpr ⟨hi, mx⟩, t⟩
theorem back_wo {th : Lot} (ha : Asc th) {m i : Nat} (hm : m < 1024) (hi : i < th.length) : back th (wo m i) = less (back th m) th[i] := by
  refine asc_ext linI (back_asc ha _) (asc_less (back_asc ha _)) fun x => ?_
  rw [mem_back ha, mem_less, mem_back ha]
  constructor
  · rintro ⟨j, hj, rfl, t⟩
    have ⟨t1, ne⟩ := (T_wo hm j).mp t
    exact ⟨⟨j, hj, rfl, t1⟩, fun e => ne (asc_inj ha hj hi e)⟩
  · rintro ⟨⟨j, hj, rfl, t⟩, ne⟩
    exact ⟨j, hj, rfl, (T_wo hm j).mpr ⟨t, fun e => by subst e; exact ne rfl⟩⟩
variable {th : Lot} {L M : List Lot}
/-- least masks are least blockers -/
theorem masks_lots (ha : Asc th) (h10 : th.length ≤ 10) (hL : ∀ l ∈ L, Asc l ∧ Sub l th) (hM : ∀ l, l ∈ M ↔ l ∈ L) (hth : ∀ x ∈ th, ∃ l ∈ L, x ∈ l) (a : Lot) :
    MinHit L a ↔ ∃ m, MinB (leastM (M.map (mkN th))) m ∧ back th m = a := by
  have hit : ∀ b, hitM (leastM (M.map (mkN th))) b ↔ Hits L (back th b) := fun b => by
    rw [hit_least, hit_lots ha fun l m => hL l ((hM l).mp m)]
    exact ⟨fun h l m => h l ((hM l).mpr m), fun h l m => h l ((hM l).mp m)⟩
  constructor
  · intro h
    have s : Sub a th := fun x mx => by
      obtain ⟨l, ml, xl, _⟩ := h.lone mx
      exact (hL l ml).2 x xl
    obtain ⟨lt, bits⟩ := mkN_bits ha h.1 s
    have e := back_mk ha h.1 s
    have l1 : mkN th a < 1024 := Nat.lt_of_lt_of_le lt (Nat.pow_le_pow_right (n := 2) (by decide) h10)
    refine ⟨mkN th a, (minB_iff l1).mpr ⟨(hit _).mpr (by rw [e]; exact h.2.1), fun i t q => ?_⟩, e⟩
    obtain ⟨hi, m⟩ := (bits i).mp t
    have q := (hit _).mp q
    rw [back_wo ha l1 hi, e] at q
    exact h.2.2 _ m q
  · rintro ⟨m, hm, rfl⟩
    have l1 := hm.1
    obtain ⟨h1, h2⟩ := (minB_iff l1).mp hm
    refine ⟨back_asc ha m, (hit m).mp h1, fun y my q => ?_⟩
    obtain ⟨i, hi, rfl, t⟩ := (mem_back ha).mp my
    refine h2 i t ((hit _).mpr ?_)
    rw [back_wo ha l1 hi]
    exact q
theorem back_inj (ha : Asc th) (hL : ∀ l ∈ M, Asc l ∧ Sub l th) {m n : Nat} (hm : MinB (leastM (M.map (mkN th))) m) (hn : MinB (leastM (M.map (mkN th))) n) (e : back th m = back th n) : m = n := by
  have key : ∀ {m : Nat}, MinB (leastM (M.map (mkN th))) m → ∀ i, T m i → i < th.length := by
    intro m h i t
    obtain ⟨k, mk, l⟩ := h.2.2 i t
    rcases (least_in (M.map (mkN th)) []).2.2 k mk with z | z
    · cases z
    · obtain ⟨l2, ml, rfl⟩ := List.mem_map.mp z
      obtain ⟨hi, _⟩ := ((mkN_bits ha (hL l2 ml).1 (hL l2 ml).2).2 i).mp l.1
      exact hi
  have half : ∀ {m n : Nat}, MinB (leastM (M.map (mkN th))) m → back th m = back th n → ∀ i, T m i → T n i := by
    intro m n h e i t
    have hi := key h i t
    have : th[i] ∈ back th m := (mem_back ha).mpr ⟨i, hi, rfl, t⟩
    rw [e] at this
    obtain ⟨j, hj, e2, t2⟩ := (mem_back ha).mp this
    have := asc_inj ha hj hi e2
    subst this
    exact t2
  exact ext_bits fun i => ⟨half hm e i, half hn e.symm i⟩
end K8
end DL
namespace DL
open PySem PySem.Spec L2 Gd
namespace K8
/-! ### sorted tuples of numbers -/
theorem py_ints (ns : List Int) : pyAll (ns.map D.int) = ns.map PyData.int := by
  induction ns with
  | nil => rfl
  | cons n ns ih => show py (.int n) :: pyAll (ns.map D.int) = _; rw [ih]; rfl
theorem py_tup (ns : List Int) : py (tupI ns) = encT ((0 : Nat), ns) := by
  show PyData.tuple (pyAll (ns.map D.int)) = _
  rw [py_ints]
  rfl
theorem dn_tup (n : Nat) (ns : List Int) : dn (n + 2) (tupI ns) = true := by
  show (ns.map D.int).all (dn (n + 1)) = true
  rw [List.all_eq_true]
  intro x m
  obtain ⟨i, _, rfl⟩ := List.mem_map.mp m
  rfl
theorem dn_tups (n : Nat) (L : List Lot) : dn (n + 3) (.tup (tups L)) = true := by
  show (tups L).all (dn (n + 2)) = true
  rw [List.all_eq_true]
  intro x m
  obtain ⟨i, _, rfl⟩ := List.mem_map.mp m
  exact dn_tup n i
theorem sortOk_tups (L : List Lot) : SortOk (tups L) := by
  refine ⟨fun a ma b mb => ?_, .inl fun a ma => ?_, fun a ma => ?_⟩
  · obtain ⟨x, _, rfl⟩ := List.mem_map.mp ma
    obtain ⟨y, _, rfl⟩ := List.mem_map.mp mb
    rw [py_tup, py_tup]
    exact alike_encT _ _
  · obtain ⟨x, _, rfl⟩ := List.mem_map.mp ma
    exact ⟨_, rfl⟩
  · obtain ⟨x, _, rfl⟩ := List.mem_map.mp ma
    exact dn_tup 38 x
theorem sort_tups (X : List Lot) (nd : X.Nodup) : ∃ es : List Lot, sortD (tups X) = tups es ∧ es.Pairwise (· < ·) ∧ ∀ b, b ∈ es ↔ b ∈ X := by
  have e1 : (X.mergeSort fun a b => !decide (b < a)).map tupI = sortD (tups X) := PySem.W.sort_maps tupI fun a _ b _ => by
    show _ = PySem.W.dataLe false id (py (tupI a)) (py (tupI b))
    rw [py_tup, py_tup]
    exact (dataLe_encT ((0 : Nat), a) ((0 : Nat), b)).symm
  have pm := List.mergeSort_perm X fun a b => !decide (b < a)
  refine ⟨_, e1.symm, ?_, fun b => pm.mem_iff⟩
  have tot : PySem.W.TotalLe fun a b : Lot => !decide (b < a) := by
    have := PySem.W.sortLe_total (PyProof.Rows.listOrd PyProof.Rows.itemOrd) false fun b : Lot => PySem.W.keyToks (encT ((0 : Nat), b))
    have e : (fun a b : Lot => !decide (b < a)) = fun a b : Lot => PySem.W.dataLe false encT ((0 : Nat), a) ((0 : Nat), b) := by
      funext a b
      exact (dataLe_encT ((0 : Nat), a) ((0 : Nat), b)).symm
    rw [e]
    exact this
  have sp := PySem.W.sort_pairwise tot X
  refine ((pm.nodup_iff.mpr nd).and sp).imp ?_
  rintro q r ⟨ne, hle⟩
  have nlt : ¬ r < q := by simpa using hle
  rcases list_tri q r with h | h | h
  · exact h
  · exact absurd h ne
  · exact absurd h nlt
theorem seq_tup {S : Sto} (ds : List D) : seqOf S (.tup ds) = some ds := rfl

/-! ### the table of bits -/
theorem valD_map {α : Type} (key : α → Key) (val : α → D) : ∀ (L : List α), (∀ a ∈ L, ∀ b ∈ L, key a = key b → val a = val b) → ∀ a ∈ L, valD (L.map fun x => (key x, val x)) (key a) = some (val a)
  | [], _, a, m => nomatch m
  | x :: L, inj, a, m => by
    rw [List.map_cons]
    by_cases e : key x = key a
    · rw [valD_pos e]
      rw [inj x List.mem_cons_self a m e]
    · rw [valD_neg e]
      refine valD_map key val L (fun a ma b mb => inj a (List.mem_cons_of_mem _ ma) b (List.mem_cons_of_mem _ mb)) a ?_
      rcases List.mem_cons.mp m with rfl | m
      · exact absurd rfl e
      · exact m
theorem putD_new {kvs : List (Key × D)} {k : Key} {d : D} (h : ∀ kv ∈ kvs, kv.1 ≠ k) : putD kvs k d = kvs ++ [(k, d)] := by
  unfold putD
  rw [if_neg]
  intro q
  obtain ⟨kv, m, e⟩ := List.any_eq_true.mp q
  exact h kv m (of_decide_eq_true e)
/-- a table made by one clause, the store as it is -/
theorem dc_map {g : DTG} {tk tv : DTE} {own : List Nat} {δ : Sl} {S : Sto} {Q : D → Sto → Prop} {α : Type} (enc : α → D) (key : α → D) (kk : α → Key) (val : α → D) : ∀ (L acc : List α), acc.length + L.length ≤ 16777216 → ((acc ++ L).map kk).Nodup → (∀ x ∈ L, keyOf (key x) = some (kk x)) →
    (∀ x ∈ L, ∀ k : D → D → Sto → Prop, k (key x) (val x) S → g (enc x) (wipeD δ own) fun δ1 => tk δ1 S fun kd S2 => tv δ1 S2 fun d S3 => k kd d S3) →
    Q (dicOf ((acc ++ L).map fun x => (kk x, val x))) S → dcGo g dYes tk tv own δ Q (L.map enc) (acc.map fun x => (kk x, val x)) S
  | [], acc, _, _, _, _, h => by simpa [dcGo] using h
  | x :: L, acc, hl, nd, hk, hx, h => by
    rw [List.length_cons] at hl
    refine hx x List.mem_cons_self (fun kd d S3 => opt (keyOf kd) fun k => Fit ((acc.map fun x => (kk x, val x)).length + 1) ∧ dcGo g dYes tk tv own δ Q (L.map enc) (putD (acc.map fun x => (kk x, val x)) k d) S3) ?_
    refine opt_of (hk x List.mem_cons_self) ⟨by rw [List.length_map]; unfold Fit; omega, ?_⟩
    rw [putD_new, show (acc.map fun x => (kk x, val x)) ++ [(kk x, val x)] = (acc ++ [x]).map fun x => (kk x, val x) from by rw [List.map_append]; rfl]
    · have e : acc ++ x :: L = acc ++ [x] ++ L := by simp
      rw [e] at nd h
      exact dc_map enc key kk val L (acc ++ [x]) (by rw [List.length_append, List.length_singleton]; omega) nd (fun y m => hk y (List.mem_cons_of_mem _ m)) (fun y m => hx y (List.mem_cons_of_mem _ m)) h
    · intro kv m e
      obtain ⟨y, my, rfl⟩ := List.mem_map.mp m
      rw [List.map_append, List.map_cons] at nd
      exact (List.pairwise_append.mp nd).2.2 (kk y) (List.mem_map.mpr ⟨y, my, rfl⟩) (kk x) List.mem_cons_self e
def tabB (th : Lot) : List (Key × D) := (List.range th.length).map fun i => (Sum.inl (th.getD i 0), D.int ((2 ^ i : Nat) : Int))
theorem getD_at {th : Lot} {i : Nat} (h : i < th.length) : th.getD i 0 = th[i] := by
  rw [List.getD_eq_getElem?_getD, List.getElem?_eq_getElem h]
  rfl
theorem tab_at {th : Lot} (ha : Asc th) {x : Int} (h : x ∈ th) : valD (tabB th) (.inl x) = some (.int ((2 ^ ix th x : Nat) : Int)) := by
  have lt := ix_lt h
  have := valD_map (fun i => (Sum.inl (th.getD i 0) : Key)) (fun i => D.int ((2 ^ i : Nat) : Int)) (List.range th.length) (fun a ma b mb e => by
    have ha' := List.mem_range.mp ma
    have hb' := List.mem_range.mp mb
    have e : th.getD a 0 = th.getD b 0 := by injection e
    rw [getD_at ha', getD_at hb'] at e
    rw [asc_inj ha ha' hb' e]) (ix th x) (List.mem_range.mpr lt)
  rw [getD_at lt, at_ix h] at this
  exact this
theorem fIxK_tab {th : Lot} (ha : Asc th) {x : Int} (h : x ∈ th) {S : Sto} {Q : D → Sto → Prop} (q : Q (.int ((2 ^ ix th x : Nat) : Int)) S) : fIxK (dicOf (tabB th)) (.int x) S Q :=
  opt_of (kvsOf_dic _) (opt_of (x := (Sum.inl x : Key)) rfl (opt_of (tab_at ha h) q))
/-- the flat list of lots -/
theorem lc2_in {g : DTG} {te : DTE} {own : List Nat} {δ : Sl} {S : Sto} {k : List D → Sto → Prop} (hx : ∀ (x : Int) (k : D → Sto → Prop), k (.int x) S → g (.int x) (wipeD δ own) fun δ1 => te δ1 S k) : ∀ (l : Lot) (acc : List D), acc.length + l.length ≤ 16777216 →
    k (acc ++ l.map D.int) S → lc2In g dYes te own δ k (l.map D.int) acc S
  | [], acc, _, h => by simpa [lc2In] using h
  | x :: l, acc, hl, h => by
    rw [List.length_cons] at hl
    refine hx x (fun d S2 => Fit (acc.length + 1) ∧ lc2In g dYes te own δ k (l.map D.int) (acc ++ [d]) S2) ⟨by unfold Fit; omega, ?_⟩
    refine lc2_in hx l _ (by rw [List.length_append, List.length_singleton]; omega) ?_
    rw [List.append_assoc]
    exact h
theorem sum_nat (l : List Int) (f : Int → Nat) : (l.map fun x => ((f x : Nat) : Int)).sum = (((l.map f).sum : Nat) : Int) := by
  induction l with
  | nil => rfl
  | cons x l ih => rw [List.map_cons, List.sum_cons, ih, List.map_cons, List.sum_cons]; omega
end K8
end DL
namespace DL
open PySem PySem.Spec L2 Gd
namespace K8
theorem flat_le {L : List Lot} {n : Nat} (h : ∀ l ∈ L, l.length ≤ n) : L.flatten.length ≤ L.length * n := by
  induction L with
  | nil => simp
  | cons l L ih =>
    rw [List.flatten_cons, List.length_append, List.length_cons, Nat.succ_mul]
    have := h l List.mem_cons_self
    have := ih fun x m => h x (List.mem_cons_of_mem _ m)
    omega
theorem lot_len {l U : Lot} (hl : Asc l) (s : Sub l U) : l.length ≤ U.length := nodup_le (asc_nodup linI hl) s
theorem lc2_flat {Q : D → Sto → Prop} {x0 x1 x2 x3 x4 x5 x6 x7 x10 : Option D} : ∀ (L : List Lot) (acc : Lot) (x8 x9 : Option D), acc.length + L.flatten.length ≤ 16777216 → Q (.lst ((acc ++ L.flatten).map D.int)) [] →
    lc2Go (dgName 9) dYes (dSeq (dVar 9)) (dgName 8) dYes (dVar 8) [9, 8] [8] [x0, x1, x2, x3, x4, x5, x6, x7, x8, x9, x10] Q (tups L) (acc.map D.int) []
  | [], acc, x8, x9, _, h => by simpa [lc2Go, tups] using h
  | l :: L, acc, x8, x9, hl, h => by
    rw [List.flatten_cons, List.length_append] at hl
    rw [List.flatten_cons, ← List.append_assoc] at h
    refine lc2_in (fun x k q => q) l _ (by rw [List.length_map]; omega) ?_
    rw [← List.map_append]
    exact lc2_flat L _ _ _ (by rw [List.length_append]; omega) h
theorem ln_least_blockers : ∀ ds post, sp_least_blockers ds post → ds.length = 1 := by
  rintro ds post ⟨L, rfl, _⟩
  rfl
theorem enD_range (th : Lot) : enD (th.map D.int) = (List.range th.length).map fun i => D.tup [.int (i : Nat), (th.map D.int).getD i .non] := by
  unfold enD
  rw [List.length_map]
theorem int_at {th : Lot} {i : Nat} (h : i < th.length) : (th.map D.int).getD i .non = .int (th.getD i 0) := by
  rw [List.getD_eq_getElem?_getD, List.getElem?_map, List.getElem?_eq_getElem h, getD_at h]
  rfl
theorem tab_nodup {th : Lot} (ha : Asc th) : ((List.range th.length).map fun i => (Sum.inl (th.getD i 0) : Key)).Nodup := by
  refine List.pairwise_map.mpr (List.nodup_range.imp_of_mem fun {i j} mi mj ne e => ne ?_)
  have hi := List.mem_range.mp mi
  have hj := List.mem_range.mp mj
  have e : th.getD i 0 = th.getD j 0 := by injection e
  rw [getD_at hi, getD_at hj] at e
  exact asc_inj ha hi hj e
theorem shl_one (i : Nat) : (1 : Int) * 2 ^ ((i : Nat) : Int).toNat = ((2 ^ i : Nat) : Int) := by
  rw [Int.one_mul, Int.toNat_natCast]
  simp
theorem vc_least_blockers : ∀ ds post, sp_least_blockers ds post → r_least_blockers { nx := fun _ _ => post .non, rt := fun d _ => post d } (startD N_least_blockers ds) [] := by
  rintro ds post ⟨L, rfl, ⟨hL, few, U, hU, h10, sub⟩, h⟩
  have lens : ∀ l ∈ L, l.length ≤ 10 := fun l m => Nat.le_trans (lot_len (hL l m) (sub l m)) h10
  have fl := flat_le lens
  refine lc2_flat L [] none none (by rw [List.length_nil]; omega) ?_
  rw [List.nil_append]
  refine .inl ⟨L.flatten, rfl, by omega, ⟨U, by omega, fun k m => ?_⟩, fun th ha hth => ?_⟩
  · obtain ⟨l, ml, mk⟩ := List.mem_flatten.mp m
    exact sub l ml k mk
  have hth2 : ∀ x, x ∈ th ↔ ∃ l ∈ L, x ∈ l := fun x => by rw [hth, List.mem_flatten]
  have t10 : th.length ≤ 10 := by
    refine Nat.le_trans (lot_len ha fun x m => ?_) h10
    obtain ⟨l, ml, mk⟩ := (hth2 x).mp m
    exact sub l ml x mk
  have hLt : ∀ l ∈ L, Asc l ∧ Sub l th := fun l m => ⟨hL l m, fun x mx => (hth2 x).mpr ⟨l, m, mx⟩⟩
  show dcGo _ _ _ _ _ _ _ (enD (th.map D.int)) [] _
  rw [enD_range]
  refine dc_map (fun i => D.tup [.int (i : Nat), (th.map D.int).getD i .non]) (fun i => (th.map D.int).getD i .non) (fun i => (Sum.inl (th.getD i 0) : Key)) (fun i => .int ((2 ^ i : Nat) : Int)) (List.range th.length) [] (by rw [List.length_nil, List.length_range]; omega) (by rw [List.nil_append]; exact tab_nodup ha) (fun i m => by rw [int_at (List.mem_range.mp m)]; rfl) (fun i m k hk => ?_) ?_
  · have lt := List.mem_range.mp m
    refine ⟨rfl, ⟨by omega, by omega, by decide⟩, ?_⟩
    show k _ (.int ((1 : Int) * 2 ^ ((i : Nat) : Int).toNat)) _
    rw [shl_one]
    exact hk
  rw [List.nil_append]
  show dSeqS (dSet 3 (dSortLen (dSortSet (dVar 0)))) _ _ [some (.tup (tups L)), some (.lst (th.map D.int)), some (dicOf (tabB th)), none, none, none, none, none, none, none, none] []
  refine .inr ⟨L, rfl, few, fun es hes mes => ?_⟩
  obtain ⟨M, pm, eM⟩ := perm_map_inv (f := tupI) (L := es) (List.mergeSort_perm (tups es) fun x y => decide (lenD x ≤ lenD y))
  refine ⟨fun x m => ?_, ?_⟩
  · obtain ⟨l, _, rfl⟩ := List.mem_map.mp m
    rfl
  have eM : (es.map tupI).mergeSort (fun x y => decide (lenD x ≤ lenD y)) = M.map tupI := eM
  rw [eM]
  have hM : ∀ l, l ∈ M ↔ l ∈ L := fun l => pm.mem_iff.trans (mes l)
  have hMt : ∀ l ∈ M, Asc l ∧ Sub l th := fun l m => hLt l ((hM l).mp m)
  have lM : M.length ≤ 64 := by
    have nd : M.Nodup := pm.nodup_iff.mpr (asc_nodup linL hes)
    have := nodup_le nd fun l m => (hM l).mp m
    omega
  refine lc_map tupI (fun l => .int ((mkN th l : Nat) : Int)) M (by omega) (fun l ml k hk => ?_) ?_
  · have l10 : l.length ≤ 10 := lens l ((hM l).mp ml)
    refine lc_map D.int (fun x => .int ((2 ^ ix th x : Nat) : Int)) l (by omega) (fun x mx k2 hk2 => fIxK_tab ha ((hMt l ml).2 x mx) hk2) ?_
    have e : asI (l.map fun x => D.int ((2 ^ ix th x : Nat) : Int)) = some (l.map fun x => ((2 ^ ix th x : Nat) : Int)) := by
      have := asI_map (l.map fun x => ((2 ^ ix th x : Nat) : Int))
      rwa [List.map_map] at this
    refine opt_of e ?_
    rw [sum_nat l fun x => 2 ^ ix th x]
    exact hk
  have eN : (M.map fun l => D.int ((mkN th l : Nat) : Int)) = nD (M.map (mkN th)) := by unfold nD; rw [List.map_map]; rfl
  rw [eN]
  refine ⟨M.map (mkN th), rfl, by rw [List.length_map]; omega, ?_⟩
  have small : Small (leastM (M.map (mkN th))) := fun m mm => by
    rcases (least_in (M.map (mkN th)) []).2.2 m mm with z | z
    · cases z
    · obtain ⟨l, ml, rfl⟩ := List.mem_map.mp z
      exact Nat.lt_of_lt_of_le (mkN_bits ha (hMt l ml).1 (hMt l ml).2).1 (Nat.pow_le_pow_right (n := 2) (by decide) t10)
  refine ⟨leastM (M.map (mkN th)), rfl, small, ?_, fun R ndR mR => ?_⟩
  · have key : ∀ (ms kept : List Nat), (ms.foldl (fun kept m => if kept.all (fun o => decide (m &&& o ≠ o)) then kept ++ [m] else kept) kept).length ≤ kept.length + ms.length := by
      intro ms
      induction ms with
      | nil => exact fun kept => Nat.le_refl _
      | cons m ms ih =>
        intro kept
        rw [List.foldl_cons, List.length_cons]
        split
        · have := ih (kept ++ [m])
          rw [List.length_append, List.length_singleton] at this
          omega
        · have := ih kept
          omega
    have := key (M.map (mkN th)) []
    rw [List.length_nil, List.length_map] at this
    unfold leastM
    omega
  have lR : R.length ≤ 1024 := nodup_1024 ndR fun m mm => ((mR m).mp mm).1
  refine lc_map (fun m : Nat => D.int (m : Int)) (fun m => .lst ((back th m).map D.int)) R (by omega) (fun m mm k hk => ?_) ?_
  · refine lc_filter D.int (fun x => decide (2 ^ ix th x &&& m ≠ 0)) D.int th (by omega) (fun x mx kf k2 h1 h0 => ?_) hk
    refine opt_of (x := D.int ((2 ^ ix th x : Nat) : Int)) (by rw [zip_unzip]; exact tab_at ha mx) ?_
    show (if (Builtin.bitAnd ((2 ^ ix th x : Nat) : Int) (m : Int) != 0) = true then k2 (.int x) _ else kf _)
    rw [and_nat, ne0_nat]
    by_cases q : 2 ^ ix th x &&& m ≠ 0
    · exact yes (decide_eq_true q) (h1 (decide_eq_true q))
    · exact no (decide_eq_false q) (h0 (decide_eq_false q))
  refine lc_map (fun m : Nat => D.lst ((back th m).map D.int)) (fun m => tupI (back th m)) R (by omega) (fun m mm k hk => hk) ?_
  have eR : (R.map fun m => tupI (back th m)) = tups (R.map (back th)) := by unfold tups; rw [List.map_map]; rfl
  rw [eR]
  have ndX : (R.map (back th)).Nodup := List.pairwise_map.mpr (ndR.imp_of_mem fun {x y} mx my ne e => ne (back_inj ha hMt ((mR x).mp mx) ((mR y).mp my) e))
  obtain ⟨fs, e1, e2, e3⟩ := sort_tups _ ndX
  show SortOk (tups (R.map (back th))) ∧ post (.tup (sortD (tups (R.map (back th)))))
  refine ⟨sortOk_tups _, ?_⟩
  rw [e1]
  refine h fs e2 fun b => ?_
  rw [e3, List.mem_map, masks_lots ha t10 hLt hM (fun x m => (hth2 x).mp m)]
  constructor
  · rintro ⟨m, m1, m2⟩
    exact ⟨m, (mR m).mp m1, m2⟩
  · rintro ⟨m, m1, m2⟩
    exact ⟨m, (mR m).mpr m1, m2⟩
end K8
end DL
namespace DL
open PySem PySem.Spec L2 Gd
namespace K8
/-! ### what the law asks by trying all -/
theorem nb_tup (n : Nat) (ns : List Int) : nb (n + 2) (tupI ns) = true := by
  show (ns.map D.int).all (nb (n + 1)) = true
  rw [List.all_eq_true]
  intro x m
  obtain ⟨i, _, rfl⟩ := List.mem_map.mp m
  rfl
theorem tupI_inj {a b : Lot} (h : tupI a = tupI b) : a = b := by
  have : a.map D.int = b.map D.int := by injection h
  exact (List.map_inj_right (fun x y e => by injection e)).mp this
theorem deq_tup (a b : Lot) : deq (tupI a) (tupI b) = decide (a = b) := by
  rw [deq_dec (nb_tup 0 a) (nb_tup 0 b)]
  exact decide_eq_decide.mpr ⟨tupI_inj, fun e => by rw [e]⟩
theorem any_eq (l : Lot) (x : Int) : ((l.map D.int).any fun y => eqF y (.int x)) = decide (x ∈ l) := by
  induction l with
  | nil => rfl
  | cons y l ih =>
    rw [List.map_cons, List.any_cons, ih]
    show ((y == x) || decide (x ∈ l)) = _
    by_cases e : y = x
    · subst e; simp
    · have : (y == x) = false := by simpa using e
      rw [this, Bool.false_or]
      exact decide_eq_decide.mpr (by simp [Ne.symm e])
theorem flats (l : Lot) : (l.map D.int).all flatD = true := by
  rw [List.all_eq_true]
  intro x m
  obtain ⟨i, _, rfl⟩ := List.mem_map.mp m
  rfl
theorem fIn_lot {x : Int} {l : Lot} {S : Sto} {Q : D → Sto → Prop} (h : Q (.bl (decide (x ∈ l))) S) : fInN false (.int x) (tupI l) S Q := by
  refine ⟨rfl, flats l, ?_⟩
  show Q (.bl ((l.map D.int).any fun y => eqF y (.int x))) S
  rw [any_eq]
  exact h
theorem asB_f {α : Type} (L : List α) (f : α → Bool) : asB (L.map fun x => D.bl (f x)) = some (L.map f) := asB_all L f

/-! ### all sublots -/
theorem ln__law_lots : ∀ ds post, sp__law_lots ds post → ds.length = 1 := by
  rintro ds post ⟨U, rfl, _⟩
  rfl
abbrev grow (f : List Lot) (x : Int) : List Lot := f ++ f.map (· ++ [x])
theorem lp_lots {DD : DEnds} {x0 : Option D} : ∀ (U : Lot) (f : List Lot) (k : Nat) (x2 x3 : Option D), k + U.length ≤ 10 → f.length ≤ 2 ^ k → (∀ l ∈ f, l.length ≤ k) →
    (∀ x2 x3, DD.nx [x0, some (.lst (tups (U.foldl grow f))), x2, x3] []) → forGo (dgName 2) b0__law_lots DD (U.map D.int) [x0, some (.lst (tups f)), x2, x3] []
  | [], f, k, x2, x3, _, _, _, h => h _ _
  | x :: U, f, k, x2, x3, hk, hf, hl, h => by
    rw [List.length_cons] at hk
    have p : 2 ^ k ≤ 2 ^ 10 := Nat.pow_le_pow_right (by decide) (by omega)
    have p2 : (2 : Nat) ^ 10 = 1024 := rfl
    refine lc_map tupI (fun l => tupI (l ++ [x])) f (by omega) (fun l ml q hq => ?_) ?_
    · have := hl l ml
      refine ⟨by show 1 ≤ 16777216; decide, by rw [List.length_map]; show l.length + 1 ≤ 16777216; omega, ?_⟩
      rw [show tupI (l ++ [x]) = .tup (l.map D.int ++ [.int x]) from by unfold tupI; rw [List.map_append]; rfl] at hq
      exact hq
    · show Fit ((tups f).length + (f.map fun l => tupI (l ++ [x])).length) ∧ forGo (dgName 2) b0__law_lots DD (U.map D.int) [x0, some (.lst (tups f ++ f.map fun l => tupI (l ++ [x]))), some (.int x), x3] []
      refine ⟨?_, ?_⟩
      · unfold tups Fit
        rw [List.length_map, List.length_map]
        omega
      · have e : tups f ++ (f.map fun l => tupI (l ++ [x])) = tups (grow f x) := by
          unfold tups grow
          rw [List.map_append, List.map_map]
          rfl
        rw [e]
        refine lp_lots U (grow f x) (k + 1) _ _ (by omega) ?_ ?_ h
        · unfold grow
          rw [List.length_append, List.length_map, Nat.pow_succ]
          omega
        · intro l m
          rcases List.mem_append.mp m with m | m
          · have := hl l m; omega
          · obtain ⟨y, my, rfl⟩ := List.mem_map.mp m
            have := hl y my
            rw [List.length_append, List.length_singleton]
            omega
theorem vc__law_lots : ∀ ds post, sp__law_lots ds post → r__law_lots { nx := fun _ _ => post .non, rt := fun d _ => post d } (startD N__law_lots ds) [] := by
  rintro ds post ⟨U, rfl, h10, h⟩
  refine ⟨by show 0 ≤ 16777216; decide, by show 1 ≤ 16777216; decide, ?_⟩
  refine lp_lots U [[]] 0 none none (by omega) (by decide) (fun l m => by rw [List.mem_singleton.mp m]; exact Nat.le_refl 0) fun x2 x3 => ?_
  exact h
theorem mem_grow : ∀ (U pre : Lot) (f : List Lot), Asc (pre ++ U) → (∀ l, l ∈ f ↔ Asc l ∧ Sub l pre) → ∀ l, l ∈ U.foldl grow f ↔ Asc l ∧ Sub l (pre ++ U)
  | [], pre, f, _, hf, l => by rw [List.append_nil]; exact hf l
  | x :: U, pre, f, ha, hf, l => by
    have e : pre ++ x :: U = pre ++ [x] ++ U := by simp
    rw [e] at ha
    rw [List.foldl_cons, e]
    have ha1 := (List.pairwise_append.mp ha).1
    have below : ∀ y ∈ pre, y < x := fun y m => (List.pairwise_append.mp ha1).2.2 y m x (List.mem_singleton.mpr rfl)
    refine mem_grow U (pre ++ [x]) (grow f x) ha (fun l => ?_) l
    unfold grow
    rw [List.mem_append, hf, List.mem_map]
    constructor
    · rintro (⟨h1, h2⟩ | ⟨y, my, rfl⟩)
      · exact ⟨h1, fun z m => List.mem_append_left _ (h2 z m)⟩
      · obtain ⟨h1, h2⟩ := (hf y).mp my
        refine ⟨List.pairwise_append.mpr ⟨h1, List.pairwise_singleton _ _, fun a ma b mb => ?_⟩, fun z m => ?_⟩
        · rw [List.mem_singleton.mp mb]; exact below a (h2 a ma)
        · rcases List.mem_append.mp m with m | m
          · exact List.mem_append_left _ (h2 z m)
          · exact List.mem_append_right _ m
    · rintro ⟨h1, h2⟩
      by_cases q : x ∈ l
      · right
        have s : Sub (less l x) pre := fun z m => by
          obtain ⟨m1, ne⟩ := mem_less.mp m
          rcases List.mem_append.mp (h2 z m1) with z | z
          · exact z
          · exact absurd (List.mem_singleton.mp z) ne
        refine ⟨less l x, (hf _).mpr ⟨asc_less h1, s⟩, ?_⟩
        refine asc_ext linI (List.pairwise_append.mpr ⟨asc_less h1, List.pairwise_singleton _ _, fun a ma b mb => by rw [List.mem_singleton.mp mb]; exact below a (s a ma)⟩) h1 fun k => ?_
        rw [List.mem_append, mem_less, List.mem_singleton]
        constructor
        · rintro (z | z)
          · exact z.1
          · rw [z]; exact q
        · intro m
          by_cases e : k = x
          · exact .inr e
          · exact .inl ⟨m, e⟩
      · left
        refine ⟨h1, fun z m => ?_⟩
        rcases List.mem_append.mp (h2 z m) with w | w
        · exact w
        · rw [List.mem_singleton.mp w] at m; exact absurd m q
theorem mem_sublots {U : Lot} (ha : Asc U) (l : Lot) : l ∈ sublots U ↔ Asc l ∧ Sub l U := by
  refine mem_grow U [] [[]] ha (fun l => ?_) l
  rw [List.mem_singleton]
  constructor
  · rintro rfl
    exact ⟨.nil, fun x m => nomatch m⟩
  · rintro ⟨_, h⟩
    cases l with
    | nil => rfl
    | cons x l => exact nomatch h x List.mem_cons_self
theorem grow_len : ∀ (U : Lot) (f : List Lot), (U.foldl grow f).length = f.length * 2 ^ U.length
  | [], f => by simp
  | x :: U, f => by
    rw [List.foldl_cons, grow_len U, List.length_cons, Nat.pow_succ]
    unfold grow
    rw [List.length_append, List.length_map, Nat.mul_comm (2 ^ U.length) 2, ← Nat.mul_assoc]
    congr 1
    omega

/-! ### the least of some lots -/
theorem ln__law_least : ∀ ds post, sp__law_least ds post → ds.length = 1 := by
  rintro ds post ⟨L, rfl | rfl, _⟩ <;> rfl
def isMin (es : List Lot) (l : Lot) : Bool := !(es.any fun o => !decide (o = l) && o.all fun x => decide (x ∈ l))
theorem isMin_iff {es : List Lot} {l : Lot} : isMin es l = true ↔ ∀ o ∈ es, Sub o l → o = l := by
  unfold isMin
  rw [Bool.not_eq_true', Bool.eq_false_iff, Ne, List.any_eq_true]
  constructor
  · intro h o mo s
    refine Classical.byContradiction fun ne => h ⟨o, mo, ?_⟩
    rw [Bool.and_eq_true, decide_eq_false ne, List.all_eq_true]
    exact ⟨rfl, fun x mx => decide_eq_true (s x mx)⟩
  · rintro h ⟨o, mo, q⟩
    rw [Bool.and_eq_true, List.all_eq_true] at q
    have e := h o mo fun x mx => of_decide_eq_true (q.2 x mx)
    rw [decide_eq_true e] at q
    exact absurd q.1 (by decide)
theorem least_go {post : D → Prop} {x0 : Option D} {L es : List Lot} (hes : es.Pairwise (· < ·)) (mes : ∀ k, k ∈ es ↔ k ∈ L) (few : L.length < 64) (short : ∀ l ∈ L, l.length ≤ 1000) (h : ∀ es : List Lot, es.Pairwise (· < ·) → (∀ b, b ∈ es ↔ MinLot L b) → post (.tup (tups es))) :
    (dRet (dCB (one fTuple) (dCons (dLc (dSeq (dVar 1)) (dgName 2) (dNot (dTr (dCB (one fAny) (dCons (dLc (dSeq (dVar 1)) (dgName 3) dYes (dAndV (dOp fNe (dVar 3) (dVar 2)) (dCB (one fAll) (dCons (dLc (dSeq (dVar 3)) (dgName 4) dYes (dOp (fInN false) (dVar 4) (dVar 2)) [4]) dNil))) [3]) dNil)))) (dVar 2) [2]) dNil)))
      { nx := fun _ _ => post .non, rt := fun d _ => post d } [x0, some (.lst (tups es)), none, none, none] [] := by
  have le : es.length < 64 := by
    have := nodup_le (asc_nodup linL hes) fun k m => (mes k).mp m
    omega
  refine lc_filter tupI (isMin es) tupI es (by omega) (fun l ml kf k h1 h0 => ?_) ?_
  · refine lc_map tupI (fun o => .bl (!decide (o = l) && o.all fun x => decide (x ∈ l))) es (by omega) (fun o mo k2 hk2 => ?_) ?_
    · refine ⟨dn_tup 38 o, dn_tup 38 l, ?_⟩
      show (if (!deq (tupI o) (tupI l)) = true then _ else _)
      rw [deq_tup]
      by_cases e : o = l
      · rw [decide_eq_true e] at hk2
        exact no (by rw [decide_eq_true e]; rfl) hk2
      · refine yes (by rw [decide_eq_false e]; rfl) ?_
        rw [decide_eq_false e] at hk2
        refine lc_map D.int (fun x => .bl (decide (x ∈ l))) o (by have := short o ((mes o).mp mo); omega) (fun x mx q hq => fIn_lot hq) ?_
        refine opt_of (asB_f _ _) ?_
        rw [List.all_map]
        exact hk2
    · refine opt_of (asB_f _ _) ?_
      rw [List.any_map]
      by_cases q : isMin es l = true
      · refine yes q (h1 q)
      · refine no (Bool.eq_false_iff.mpr q) (h0 (Bool.eq_false_iff.mpr q))
  · refine h (es.filter (isMin es)) (hes.sublist List.filter_sublist) fun b => ?_
    rw [List.mem_filter, isMin_iff, mes]
    exact ⟨fun z => ⟨z.1, fun o mo s => z.2 o ((mes o).mpr mo) s⟩, fun z => ⟨z.1, fun o mo s => z.2 o ((mes o).mp mo) s⟩⟩
theorem vc__law_least : ∀ ds post, sp__law_least ds post → r__law_least { nx := fun _ _ => post .non, rt := fun d _ => post d } (startD N__law_least ds) [] := by
  rintro ds post ⟨L, rfl | rfl, few, short, h⟩
  · exact .inr ⟨L, rfl, few, fun es hes mes => least_go hes mes few short h⟩
  · exact .inr ⟨L, rfl, few, fun es hes mes => least_go hes mes few short h⟩

/-! ### the numbers of lots -/
theorem ln__law_numbers : ∀ ds post, sp__law_numbers ds post → ds.length = 1 := by
  rintro ds post ⟨L, rfl, _⟩
  rfl
theorem lp_numbers {DD : DEnds} {x0 : Option D} : ∀ (L : List Lot) (acc : Lot) (x2 : Option D), acc.length + L.flatten.length ≤ 16777216 →
    (∀ x2, DD.nx [x0, some (.lst ((acc ++ L.flatten).map D.int)), x2] []) → forGo (dgName 2) b0__law_numbers DD (tups L) [x0, some (.lst (acc.map D.int)), x2] []
  | [], acc, x2, _, h => by
    have := h x2
    rw [List.flatten_nil, List.append_nil] at this
    exact this
  | l :: L, acc, x2, hl, h => by
    rw [List.flatten_cons, List.length_append] at hl
    rw [List.flatten_cons, ← List.append_assoc] at h
    show Fit ((acc.map D.int).length + (l.map D.int).length) ∧ forGo (dgName 2) b0__law_numbers DD (tups L) [x0, some (.lst (acc.map D.int ++ l.map D.int)), some (tupI l)] []
    refine ⟨by rw [List.length_map, List.length_map]; unfold Fit; omega, ?_⟩
    rw [← List.map_append]
    exact lp_numbers L _ _ (by rw [List.length_append]; omega) h
theorem vc__law_numbers : ∀ ds post, sp__law_numbers ds post → r__law_numbers { nx := fun _ _ => post .non, rt := fun d _ => post d } (startD N__law_numbers ds) [] := by
  rintro ds post ⟨L, rfl, ⟨hL, few, U, hU, h10, sub⟩, h⟩
  have fl := flat_le fun l m => Nat.le_trans (lot_len (hL l m) (sub l m)) h10
  refine ⟨by show 0 ≤ 16777216; decide, ?_⟩
  refine lp_numbers L [] none (by rw [List.length_nil]; omega) fun x2 => ?_
  rw [List.nil_append]
  refine .inl ⟨L.flatten, rfl, by omega, ⟨U, by omega, fun k m => ?_⟩, fun th ha hth => ?_⟩
  · obtain ⟨l, ml, mk⟩ := List.mem_flatten.mp m
    exact sub l ml k mk
  · exact h th ha fun x => by rw [hth, List.mem_flatten]

/-! ### blockers by trying all -/
theorem ln__law_blocking : ∀ ds post, sp__law_blocking ds post → ds.length = 1 := by
  rintro ds post ⟨L, rfl, _⟩
  rfl
def hitB (L : List Lot) (a : Lot) : Bool := L.all fun o => o.any fun x => decide (x ∈ a)
theorem hitB_iff {L : List Lot} {a : Lot} : hitB L a = true ↔ Hits L a := by
  unfold hitB Hits
  rw [List.all_eq_true]
  constructor
  · intro h l m
    obtain ⟨x, mx, e⟩ := List.any_eq_true.mp (h l m)
    exact ⟨x, mx, of_decide_eq_true e⟩
  · intro h l m
    obtain ⟨x, mx, e⟩ := h l m
    exact List.any_eq_true.mpr ⟨x, mx, decide_eq_true e⟩
theorem min_all {L A : List Lot} {U : Lot} (hA : ∀ l, l ∈ A ↔ Asc l ∧ Sub l U ∧ Hits L l) (hU : ∀ l ∈ L, Sub l U) (b : Lot) : MinLot A b ↔ MinHit L b := by
  constructor
  · rintro ⟨mb, h⟩
    obtain ⟨h1, h2, h3⟩ := (hA b).mp mb
    refine ⟨h1, h3, fun y my q => ?_⟩
    have e := h (less b y) ((hA _).mpr ⟨asc_less h1, less_sub.trans h2, q⟩) less_sub
    rw [← e] at my
    exact (mem_less.mp my).2 rfl
  · intro h
    refine ⟨(hA b).mpr ⟨h.1, fun x m => ?_, h.2.1⟩, fun o mo s => ?_⟩
    · obtain ⟨l, ml, xl, _⟩ := h.lone m
      exact hU l ml x xl
    · obtain ⟨h1, _, h3⟩ := (hA o).mp mo
      exact h.least h1 h3 s
theorem vc__law_blocking : ∀ ds post, sp__law_blocking ds post → r__law_blocking { nx := fun _ _ => post .non, rt := fun d _ => post d } (startD N__law_blocking ds) [] := by
  rintro ds post ⟨L, rfl, ⟨hL, few, U0, hU0, h6, sub0⟩, h⟩
  refine ⟨L, rfl, ⟨hL, few, U0, hU0, by omega, sub0⟩, fun U hU mU => ?_⟩
  have sub : ∀ l ∈ L, Sub l U := fun l m x mx => (mU x).mpr ⟨l, m, mx⟩
  have u6 : U.length ≤ 6 := by
    refine Nat.le_trans (lot_len hU fun x m => ?_) h6
    obtain ⟨l, ml, mx⟩ := (mU x).mp m
    exact sub0 l ml x mx
  refine ⟨U, rfl, by omega, ?_⟩
  have lens : (sublots U).length = 2 ^ U.length := by
    unfold sublots
    rw [grow_len]
    simp
  have p : 2 ^ U.length ≤ 2 ^ 6 := Nat.pow_le_pow_right (by decide) u6
  have p2 : (2 : Nat) ^ 6 = 64 := rfl
  have hA : ∀ l, l ∈ (sublots U).filter (hitB L) ↔ Asc l ∧ Sub l U ∧ Hits L l := fun l => by
    rw [List.mem_filter, mem_sublots hU, hitB_iff, and_assoc]
  refine lc_filter tupI (hitB L) tupI (sublots U) (by omega) (fun l ml kf k h1 h0 => ?_) ?_
  · refine lc_map tupI (fun o => .bl (o.any fun x => decide (x ∈ l))) L (by omega) (fun o mo k2 hk2 => ?_) ?_
    · refine lc_map D.int (fun x => .bl (decide (x ∈ l))) o (by have := lot_len (hL o mo) (sub o mo); omega) (fun x mx q hq => fIn_lot hq) ?_
      refine opt_of (asB_f _ _) ?_
      rw [List.any_map]
      exact hk2
    · refine opt_of (asB_f _ _) ?_
      rw [List.all_map]
      by_cases q : hitB L l = true
      · exact yes q (h1 q)
      · exact no (Bool.eq_false_iff.mpr q) (h0 (Bool.eq_false_iff.mpr q))
  · refine ⟨(sublots U).filter (hitB L), .inr rfl, ?_, fun l m => ?_, fun es hes mes => ?_⟩
    · cases hx : U with
      | nil =>
        rw [hx, List.length_nil] at lens
        have := List.length_filter_le (hitB L) (sublots U)
        rw [hx] at this
        omega
      | cons x r =>
        rw [← hx]
        have : ((sublots U).filter (hitB L)).length < (sublots U).length := by
          refine List.length_filter_lt_length_iff_exists.mpr ⟨[], (mem_sublots hU []).mpr ⟨.nil, fun x m => nomatch m⟩, ?_⟩
          rw [hitB_iff]
          intro q
          obtain ⟨l, ml, _⟩ := (mU x).mp (by rw [hx]; exact List.mem_cons_self)
          obtain ⟨y, _, my⟩ := q l ml
          cases my
        omega
    · have := (hA l).mp m
      have := lot_len this.1 this.2.1
      omega
    · exact h es hes fun b => by rw [mes, min_all hA sub]

/-! ### longer lots -/
theorem ln__law_longer : ∀ ds post, sp__law_longer ds post → ds.length = 2 := by
  rintro ds post ⟨L, n, rfl, _⟩
  rfl
theorem app_tup (l : Lot) (m : Int) : tupI (l ++ [m]) = .tup (l.map D.int ++ [.int m]) := by unfold tupI; rw [List.map_append]; rfl
theorem app_tups (L : List Lot) (m : Int) : (L.map fun l => tupI (l ++ [m])) = tups (L.map (· ++ [m])) := by unfold tups; rw [List.map_map]; rfl
theorem vc__law_longer : ∀ ds post, sp__law_longer ds post → r__law_longer { nx := fun _ _ => post .non, rt := fun d _ => post d } (startD N__law_longer ds) [] := by
  rintro ds post ⟨L, n, rfl, hl, hs, hn, h⟩
  have mok : MOk 2 (n : Int) := MOk.left (by decide)
  refine lc_map tupI (fun l => tupI (l ++ [2 * (n : Int)])) L (by omega) (fun l ml k hk => ?_) ?_
  · have := hs l ml
    rw [app_tup] at hk
    exact ⟨mok, by show 1 ≤ 16777216; decide, by rw [List.length_map]; show l.length + 1 ≤ 16777216; omega, hk⟩
  refine lc_map tupI (fun l => tupI (l ++ [2 * (n : Int) + 1])) L (by omega) (fun l ml k hk => ?_) ?_
  · have := hs l ml
    rw [app_tup] at hk
    exact ⟨mok, by show 1 ≤ 16777216; decide, by rw [List.length_map]; show l.length + 1 ≤ 16777216; omega, hk⟩
  rw [app_tups, app_tups]
  show Fit ((tups (L.map (· ++ [2 * (n : Int)]))).length + (tups (L.map (· ++ [2 * (n : Int) + 1]))).length) ∧ post (.lst (tups (L.map (· ++ [2 * (n : Int)])) ++ tups (L.map (· ++ [2 * (n : Int) + 1]))))
  refine ⟨by unfold tups Fit; rw [List.length_map, List.length_map, List.length_map, List.length_map]; omega, ?_⟩
  have e : tups (L.map (· ++ [2 * (n : Int)])) ++ tups (L.map (· ++ [2 * (n : Int) + 1])) = tups (longer L n) := by unfold tups longer; rw [List.map_append]
  rw [e]
  exact h
end K8
end DL
namespace DL
open PySem PySem.Spec L2 Gd
namespace K8
theorem ln__law_heap : ∀ ds post, sp__law_heap ds post → ds.length = 1 := lnHeap
theorem vc__law_heap : ∀ ds post, sp__law_heap ds post → r__law_heap { nx := fun _ _ => post .non, rt := fun d _ => post d } (startD N__law_heap ds) [] := vcHeapB 48017 (by decide)
theorem vc__law_draw : ∀ (a c : Addr) (cs : List Int) (z m : Int), a ≠ c → ROk cs z → 1 ≤ m → m < 2 ^ 62 → r__law_draw { nx := fun _ _ => False, rt := drawEnd a c m } (startD N__law_draw [.adr a, .int m]) [(a, Cel.l [.adr c, .int z]), (c, Cel.l (cs.map D.int))] := vcDraw 16807 23 (by decide)
theorem ln__law_pick : ∀ a ds post, sp__law_pick a ds post → ds.length = 2 := lnPick
theorem vc__law_pick (a : Addr) : ∀ ds post, sp__law_pick a ds post → r__law_pick a { nx := fun _ _ => post .non, rt := fun d _ => post d } (startD N__law_pick ds) [] := vcPick a

/-! ### lots that are drawn -/
theorem noLs_ints (l : Lot) : noL.noLs (l.map D.int) = true := by
  induction l with
  | nil => rfl
  | cons x l ih => show (noL (.int x) && noL.noLs (l.map D.int)) = true; rw [ih]; rfl
theorem noL_tup (l : Lot) : noL (tupI l) = true := noLs_ints l
theorem ln__law_drawn : ∀ a ds post, sp__law_drawn a ds post → ds.length = 2 := by
  rintro a ds post ⟨U, rfl, _⟩
  rfl
theorem go_some {a : Addr} {x1 x2 x3 x4 : Option D} {S : Sto} {Q : D → Sto → Prop} : ∀ (l acc : Lot) (x5 : Option D), acc.length + l.length ≤ 16777216 → (∀ s : Lot, s.Sublist l → Q (.lst ((acc ++ s).map D.int)) S) →
    lcGo (dgName 5) (dTest (dOp fEq (dCall (spDraw a) (dCons (dVar 0) (dCons (dC (.int 2)) dNil))) (dC (.int 0)))) (dVar 5) [5] [some (.adr a), x1, x2, x3, x4, x5] Q (l.map D.int) (acc.map D.int) S
  | [], acc, x5, _, h => by
    have := h [] (List.Sublist.refl _)
    rwa [List.append_nil] at this
  | x :: l, acc, x5, hl, h => by
    rw [List.length_cons] at hl
    refine ⟨2, rfl, by decide, by decide, fun r r0 r1 => ?_⟩
    show (if decide (r = 0) = true then _ else _)
    by_cases e : r = 0
    · refine yes (decide_eq_true e) ⟨by rw [List.length_map]; unfold Fit; omega, ?_⟩
      have e2 : acc.map D.int ++ [D.int x] = (acc ++ [x]).map D.int := by rw [List.map_append]; rfl
      rw [e2]
      refine go_some l (acc ++ [x]) _ (by rw [List.length_append, List.length_singleton]; omega) fun s hs => ?_
      rw [List.append_assoc]
      exact h (x :: s) (hs.cons₂ x)
    · refine no (decide_eq_false e) ?_
      exact go_some l acc _ (by omega) fun s hs => h s (hs.cons x)
abbrev dS (a p : Addr) (U : Lot) (x3 x4 x5 : Option D) : Sl := [some (.adr a), some (.lst (U.map D.int)), some (.adr p), x3, x4, x5]
theorem lp_drawn {DD : DEnds} {a p : Addr} {U : Lot} (ne : p ≠ a) (hU : Asc U) (h6 : U.length ≤ 6) : ∀ (xs : List D) (F : List Lot) (x3 x4 x5 : Option D), F.length + xs.length ≤ 6 → (∀ l ∈ F, Asc l ∧ Sub l U) →
    (∀ (F : List Lot) (x3 x4 x5 : Option D), F.length ≤ 6 → (∀ l ∈ F, Asc l ∧ Sub l U) → DD.nx (dS a p U x3 x4 x5) [(p, .l (tups F))]) →
    forGo (dgName 3) (b0__law_drawn a) DD xs (dS a p U x3 x4 x5) [(p, .l (tups F))]
  | [], F, x3, x4, x5, hl, hF, h => h F x3 x4 x5 (by simpa using hl) hF
  | x :: xs, F, x3, x4, x5, hl, hF, h => by
    rw [List.length_cons] at hl
    refine go_some U [] _ (by rw [List.length_nil]; omega) fun s hs => ?_
    rw [List.nil_append]
    have hs1 : Asc s ∧ Sub s U := ⟨hU.sublist hs, fun y m => hs.subset m⟩
    have more : ∀ l : Lot, (Asc l ∧ Sub l U) → Fit ((tups F).length + 1) ∧ forGo (dgName 3) (b0__law_drawn a) DD xs (dS a p U (some x) (some (tupI s)) x5) (setS [(p, .l (tups F))] p (.l (tups F ++ [tupI l]))) := by
      intro l hl2
      refine ⟨by unfold tups; rw [List.length_map]; unfold Fit; omega, ?_⟩
      rw [setS_one, show tups F ++ [tupI l] = tups (F ++ [l]) from by unfold tups; rw [List.map_append]; rfl]
      refine lp_drawn ne hU h6 xs (F ++ [l]) _ _ _ (by rw [List.length_append, List.length_singleton]; omega) (fun y m => ?_) h
      rcases List.mem_append.mp m with m | m
      · exact hF y m
      · rw [List.mem_singleton.mp m]; exact hl2
    refine ⟨own_self, ⟨by show 0 ≤ 16777216; decide, ?_⟩⟩
    have fz : frz [(p, .l (tups F))] (.adr p) = .lst (tups F) := by
      show frzO p (getS _ p) = _
      rw [getS_self]
      rfl
    have fza : frz [(p, .l (tups F))] (.adr a) = .adr a := by
      show frzO a (getS _ a) = _
      rw [getS_other ne]
      rfl
    refine ⟨by rw [fz]; exact dn_tups 37 F, rfl, ?_⟩
    show (if (!deq (frz [(p, .l (tups F))] (.adr p)) (.lst [])) = true then _ else _)
    rw [fz]
    by_cases e : F = []
    · subst e
      refine no (by rw [show tups [] = [] from rfl, deq_refl (n := 1) rfl]; rfl) ?_
      exact opt_of getS_self (more s hs1)
    · refine yes ?_ ?_
      · cases F with
        | nil => exact absurd rfl e
        | cons l F => rfl
      refine ⟨8, rfl, by decide, by decide, fun r r0 r1 => ?_⟩
      show (if decide (r = 0) = true then _ else _)
      by_cases e0 : r = 0
      · refine yes (decide_eq_true e0) ?_
        refine ⟨tups F, by show [frz _ (.adr a), frz _ (.adr p)] = _; rw [fz, fza], by unfold tups; simpa using e, by unfold tups; rw [List.length_map]; omega, fun d md => ?_⟩
        obtain ⟨l, ml, rfl⟩ := List.mem_map.mp md
        exact ⟨noL_tup l, opt_of getS_self (more l (hF l ml))⟩
      · refine no (decide_eq_false e0) ?_
        exact opt_of getS_self (more s hs1)
theorem vc__law_drawn (a : Addr) : ∀ ds post, sp__law_drawn a ds post → r__law_drawn a { nx := fun _ _ => post .non, rt := fun d _ => post d } (startD N__law_drawn ds) [] := by
  rintro ds post ⟨U, rfl, hU, h6, h⟩
  refine ⟨by show 0 ≤ 16777216; decide, fun p ne hp => ?_⟩
  have fin : ∀ (F : List Lot) (x3 x4 x5 : Option D), F.length ≤ 6 → (∀ l ∈ F, Asc l ∧ Sub l U) → (dFrz 2 (dRet (dCB (one fTuple) (dCons (dVar 2) dNil)))) { nx := fun _ _ => post .non, rt := fun d _ => post d } (dS a p U x3 x4 x5) [(p, .l (tups F))] := by
    intro F x3 x4 x5 hl hF
    refine opt_of getS_self ?_
    rw [delS_one]
    exact h F hl hF
  refine ⟨by show 7 ≤ 16777216; decide, ?_⟩
  refine ⟨_, rfl, by simp, by simp, fun y m => ?_⟩
  simp only [List.mem_cons, List.not_mem_nil, or_false] at m
  rcases m with rfl | rfl | rfl | rfl | rfl | rfl | rfl
  all_goals
    refine ⟨by unfold Rg; decide, ?_⟩
    refine lp_drawn ne hU h6 _ [] none none none (by rw [List.length_nil, rngD_len]; decide) (fun l m => nomatch m) fin
end K8
end DL
namespace DL
open PySem PySem.Spec L2 Gd
namespace K8
/-! ### pairs -/
def pairs (n : Nat) : List Lot := (List.range n).map fun (i : Nat) => [2 * (i : Int), 2 * (i : Int) + 1]
def dueN (n : Nat) : List Lot := (List.range n).foldl (fun L (j : Nat) => longer L (j : Int)) [[]]
def pickC (n : Nat) (c : Nat → Bool) : Lot := (List.range n).map fun (i : Nat) => 2 * (i : Int) + (if c i = true then 1 else 0)
theorem dueN_succ (n : Nat) : dueN (n + 1) = longer (dueN n) (n : Int) := by
  unfold dueN
  rw [List.range_succ, List.foldl_append]
  rfl
theorem pickC_succ (n : Nat) (c : Nat → Bool) : pickC (n + 1) c = pickC n c ++ [2 * (n : Int) + (if c n = true then 1 else 0)] := by
  unfold pickC
  rw [List.range_succ, List.map_append]
  rfl
theorem pickC_congr {n : Nat} {c d : Nat → Bool} (h : ∀ i, i < n → c i = d i) : pickC n c = pickC n d := by
  unfold pickC
  apply List.map_congr_left
  intro i m
  rw [h i (List.mem_range.mp m)]
theorem mem_due : ∀ (n : Nat) (b : Lot), b ∈ dueN n ↔ ∃ c, b = pickC n c
  | 0, b => by
    show b ∈ [[]] ↔ _
    rw [List.mem_singleton]
    exact ⟨fun e => ⟨fun _ => false, e⟩, fun ⟨_, e⟩ => e⟩
  | n + 1, b => by
    rw [dueN_succ]
    unfold longer
    rw [List.mem_append, List.mem_map, List.mem_map]
    constructor
    · have key : ∀ (k : Bool) (l : Lot), l ∈ dueN n → ∃ c, l ++ [2 * (n : Int) + (if k = true then 1 else 0)] = pickC (n + 1) c := by
        intro k l m
        obtain ⟨c, rfl⟩ := (mem_due n l).mp m
        refine ⟨fun i => if i = n then k else c i, ?_⟩
        rw [pickC_succ, if_pos rfl]
        congr 1
        exact pickC_congr fun i lt => by rw [if_neg (by omega)]
      rintro (⟨l, ml, rfl⟩ | ⟨l, ml, rfl⟩)
      · have := key false l ml
        simpa using this
      · have := key true l ml
        simpa using this
    · rintro ⟨c, rfl⟩
      rw [pickC_succ]
      by_cases q : c n = true
      · right
        exact ⟨_, (mem_due n _).mpr ⟨c, rfl⟩, by rw [if_pos q]⟩
      · left
        exact ⟨_, (mem_due n _).mpr ⟨c, rfl⟩, by rw [if_neg q, Int.add_zero]⟩
theorem due_len : ∀ n : Nat, (dueN n).length = 2 ^ n
  | 0 => rfl
  | n + 1 => by
    rw [dueN_succ]
    unfold longer
    rw [List.length_append, List.length_map, List.length_map, due_len n, Nat.pow_succ]
    omega
theorem due_short : ∀ n : Nat, ∀ l ∈ dueN n, l.length = n := by
  intro n l m
  obtain ⟨c, rfl⟩ := (mem_due n l).mp m
  unfold pickC
  rw [List.length_map, List.length_range]
theorem due_nodup : ∀ n : Nat, (dueN n).Nodup
  | 0 => by show [[]].Nodup; simp
  | n + 1 => by
    rw [dueN_succ]
    unfold longer
    have nd := due_nodup n
    refine List.pairwise_append.mpr ⟨List.pairwise_map.mpr (nd.imp fun ne e => ne (List.append_inj_left' e rfl)), List.pairwise_map.mpr (nd.imp fun ne e => ne (List.append_inj_left' e rfl)), fun x mx y my e => ?_⟩
    obtain ⟨u, _, rfl⟩ := List.mem_map.mp mx
    obtain ⟨v, _, rfl⟩ := List.mem_map.mp my
    have := List.append_inj_right' e rfl
    have : 2 * (n : Int) = 2 * (n : Int) + 1 := by injection this
    omega
theorem mem_pick {n : Nat} {c : Nat → Bool} {x : Int} : x ∈ pickC n c ↔ ∃ i : Nat, i < n ∧ x = 2 * (i : Int) + (if c i = true then 1 else 0) := by
  unfold pickC
  rw [List.mem_map]
  constructor
  · rintro ⟨i, m, rfl⟩; exact ⟨i, List.mem_range.mp m, rfl⟩
  · rintro ⟨i, m, rfl⟩; exact ⟨i, List.mem_range.mpr m, rfl⟩
theorem mem_pairs {n : Nat} {l : Lot} : l ∈ pairs n ↔ ∃ i : Nat, i < n ∧ l = [2 * (i : Int), 2 * (i : Int) + 1] := by
  unfold pairs
  rw [List.mem_map]
  constructor
  · rintro ⟨i, m, rfl⟩; exact ⟨i, List.mem_range.mp m, rfl⟩
  · rintro ⟨i, m, rfl⟩; exact ⟨i, List.mem_range.mpr m, rfl⟩
theorem asc_pick (n : Nat) (c : Nat → Bool) : Asc (pickC n c) := by
  refine List.pairwise_map.mpr (List.pairwise_lt_range.imp fun {i j} lt => ?_)
  split <;> split <;> omega
theorem hits_pick (n : Nat) (c : Nat → Bool) : Hits (pairs n) (pickC n c) := by
  intro l ml
  obtain ⟨i, hi, rfl⟩ := mem_pairs.mp ml
  refine ⟨_, ?_, mem_pick.mpr ⟨i, hi, rfl⟩⟩
  split <;> simp
theorem due_iff (n : Nat) (b : Lot) : b ∈ dueN n ↔ MinHit (pairs n) b := by
  rw [mem_due]
  constructor
  · rintro ⟨c, rfl⟩
    refine MinHit.of_lone (asc_pick n c) (hits_pick n c) fun y my => ?_
    obtain ⟨i, hi, rfl⟩ := mem_pick.mp my
    refine ⟨_, mem_pairs.mpr ⟨i, hi, rfl⟩, fun z mz mp => ?_⟩
    obtain ⟨j, hj, rfl⟩ := mem_pick.mp mp
    simp only [List.mem_cons, List.not_mem_nil, or_false] at mz
    have e : j = i := by
      have : (0 : Int) ≤ (if c j = true then 1 else 0) ∧ (if c j = true then (1 : Int) else 0) ≤ 1 := by split <;> omega
      omega
    rw [e]
  · intro h
    refine ⟨fun i : Nat => decide (2 * (i : Int) + 1 ∈ b), ?_⟩
    refine (h.least (asc_pick n _) (hits_pick n _) fun x m => ?_).symm
    obtain ⟨i, hi, rfl⟩ := mem_pick.mp m
    by_cases q : 2 * (i : Int) + 1 ∈ b
    · rw [if_pos (decide_eq_true q)]; exact q
    · rw [if_neg (by simpa using q), Int.add_zero]
      obtain ⟨x, mx, mb⟩ := h.2.1 _ (mem_pairs.mpr ⟨i, hi, rfl⟩)
      simp only [List.mem_cons, List.not_mem_nil, or_false] at mx
      rcases mx with e | e
      · rw [← e]; exact mb
      · rw [e] at mb; exact absurd mb q
theorem asc_pairs (n : Nat) : (pairs n).Pairwise (· < ·) := by
  refine List.pairwise_map.mpr (List.pairwise_lt_range.imp fun {i j} lt => ?_)
  exact List.cons_lt_cons_iff.mpr (.inl (by omega))
theorem asc_pair {n : Nat} : ∀ l ∈ pairs n, Asc l := by
  intro l ml
  obtain ⟨i, hi, rfl⟩ := mem_pairs.mp ml
  refine List.pairwise_cons.mpr ⟨fun y m => ?_, List.pairwise_singleton _ _⟩
  rw [List.mem_singleton.mp m]
  omega
def U10 : Lot := [0, 1, 2, 3, 4, 5, 6, 7, 8, 9]
theorem sub_pairs {n : Nat} (hn : n ≤ 5) : ∀ l ∈ pairs n, Sub l U10 := by
  intro l ml x mx
  obtain ⟨i, hi, rfl⟩ := mem_pairs.mp ml
  simp only [List.mem_cons, List.not_mem_nil, or_false] at mx
  have : ∀ k : Nat, k < 10 → (k : Int) ∈ U10 := by decide
  rcases mx with e | e
  · have := this (2 * i) (by omega)
    rw [e]; simpa using this
  · have := this (2 * i + 1) (by omega)
    rw [e]; simpa using this
theorem lots_pairs {n : Nat} (hn : n ≤ 5) : Lots 10 (pairs n) := by
  refine ⟨asc_pair, ?_, U10, by decide, by decide, sub_pairs hn⟩
  unfold pairs
  rw [List.length_map, List.length_range]
  omega
theorem minlot_pairs (n : Nat) (l : Lot) : l ∈ pairs n ↔ MinLot (pairs n) l := by
  constructor
  · intro m
    refine ⟨m, fun o mo s => ?_⟩
    obtain ⟨i, hi, rfl⟩ := mem_pairs.mp m
    obtain ⟨j, hj, rfl⟩ := mem_pairs.mp mo
    have := s (2 * (j : Int)) List.mem_cons_self
    simp only [List.mem_cons, List.not_mem_nil, or_false] at this
    have e : j = i := by omega
    rw [e]
  · exact fun h => h.1
theorem lp_pairs {DD : DEnds} {x0 x1 x3 : Option D} : ∀ (js : List Nat) (L : List Lot) (x2 : Option D), (∀ j ∈ js, j ≤ 100) → L.length * 2 ^ js.length ≤ 64 → (∀ l ∈ L, l.length + js.length ≤ 50) →
    (∀ x2, DD.nx [x0, x1, x2, x3, some (.lst (tups (js.foldl (fun L (j : Nat) => longer L (j : Int)) L)))] []) → forGo (dgName 2) b0__law_pairs_right DD (nD js) [x0, x1, x2, x3, some (.lst (tups L))] []
  | [], L, x2, _, _, _, h => h x2
  | j :: js, L, x2, hj, hl, hs, h => by
    rw [List.length_cons, Nat.pow_succ, Nat.mul_comm (2 ^ js.length) 2, ← Nat.mul_assoc] at hl
    have p : 1 ≤ 2 ^ js.length := Nat.one_le_two_pow
    have le : L.length * 2 ≤ L.length * 2 * 2 ^ js.length := Nat.le_mul_of_pos_right _ p
    refine ⟨L, j, rfl, by omega, fun l m => by have := hs l m; omega, hj j List.mem_cons_self, ?_⟩
    refine lp_pairs js (longer L (j : Int)) _ (fun i m => hj i (List.mem_cons_of_mem _ m)) ?_ (fun l m => ?_) h
    · have : (longer L (j : Int)).length = L.length * 2 := by
        unfold longer
        rw [List.length_append, List.length_map, List.length_map]
        omega
      rw [this]
      exact hl
    · unfold longer at m
      have key : ∀ (y : Int), l ∈ L.map (· ++ [y]) → l.length + js.length ≤ 50 := fun y m => by
        obtain ⟨u, mu, rfl⟩ := List.mem_map.mp m
        have := hs u mu
        rw [List.length_cons] at this
        rw [List.length_append, List.length_singleton]
        omega
      rcases List.mem_append.mp m with m | m
      · exact key _ m
      · exact key _ m
theorem ln__law_pairs_right : ∀ a ds post, sp__law_pairs_right a ds post → ds.length = 1 := by
  rintro a ds post ⟨rfl, _⟩
  rfl
theorem vc__law_pairs_right (a : Addr) : ∀ ds post, sp__law_pairs_right a ds post → r__law_pairs_right a { nx := fun _ _ => post .non, rt := fun d _ => post d } (startD N__law_pairs_right ds) [] := by
  rintro ds post ⟨rfl, h⟩
  refine ⟨5, rfl, by decide, by decide, fun r r0 r1 => ?_⟩
  obtain ⟨k, rfl⟩ := Int.eq_ofNat_of_zero_le r0
  have hk : k + 1 ≤ 5 := by omega
  have toN : ((1 : Int) + (k : Int)).toNat = k + 1 := by omega
  have rg : Rg ((1 : Int) + (k : Int)) := by unfold Rg; omega
  refine ⟨rg, ?_⟩
  rw [toN, rngD_nD]
  refine lc_map (fun c : Nat => D.int (c : Int)) (fun i : Nat => tupI [2 * (i : Int), 2 * (i : Int) + 1]) (List.range (k + 1)) (by rw [List.length_range]; omega) (fun i m q hq => ?_) ?_
  · exact ⟨MOk.left (by decide), MOk.left (by decide), by show 2 ≤ 16777216; decide, hq⟩
  have eP : ((List.range (k + 1)).map fun (i : Nat) => tupI [2 * (i : Int), 2 * (i : Int) + 1]) = tups (pairs (k + 1)) := by unfold tups pairs; rw [List.map_map]; rfl
  rw [eP]
  refine ⟨by show 0 ≤ 16777216; decide, by show 1 ≤ 16777216; decide, rfl, rg, ?_⟩
  rw [toN, rngD_nD]
  have p5 : 2 ^ (k + 1) ≤ 2 ^ 5 := Nat.pow_le_pow_right (by decide) hk
  have p32 : (2 : Nat) ^ 5 = 32 := rfl
  refine lp_pairs (List.range (k + 1)) [[]] none (fun j m => by have := List.mem_range.mp m; omega) (by rw [List.length_range]; show 1 * 2 ^ (k + 1) ≤ 64; omega) (fun l m => by rw [List.mem_singleton.mp m, List.length_range]; show 0 + (k + 1) ≤ 50; omega) fun x2 => ?_
  obtain ⟨fs, e1, e2, e3⟩ := sort_tups (dueN (k + 1)) (due_nodup _)
  have eD : sortD (tups ((List.range (k + 1)).foldl (fun L (j : Nat) => longer L (j : Int)) [[]])) = tups fs := e1
  refine ⟨pairs (k + 1), rfl, lots_pairs hk, fun es hes mes => ?_⟩
  have ee : es = fs := asc_ext linL hes e2 fun b => by rw [mes, e3, due_iff]
  subst ee
  refine ⟨sortOk_tups _, ?_⟩
  rw [eD]
  refine ⟨dn_tups 37 es, dn_tups 37 es, ?_⟩
  refine yes (deq_refl (dn_tups 37 es)) ?_
  refine ⟨sortOk_tups _, ?_⟩
  rw [eD]
  have lots : Lots 10 es := by
    refine ⟨fun l m => ((mes l).mp m).1, ?_, U10, by decide, by decide, fun l m x mx => ?_⟩
    · have := nodup_le (asc_nodup linL hes) fun b m => (e3 b).mp m
      rw [due_len] at this
      omega
    · obtain ⟨o, mo, xo, _⟩ := ((mes l).mp m).lone mx
      exact sub_pairs hk o mo x xo
  refine ⟨es, rfl, lots, fun gs hgs mgs => ?_⟩
  have eg : gs = pairs (k + 1) := asc_ext linL hgs (asc_pairs _) fun b => by rw [mgs, dual asc_pair mes, ← minlot_pairs]
  subst eg
  refine ⟨dn_tups 37 _, dn_tups 37 _, ?_⟩
  show post (.bl (deq (.tup (tups (pairs (k + 1)))) (.tup (tups (pairs (k + 1))))))
  rw [deq_refl (dn_tups 37 _)]
  exact h
end K8
end DL
namespace DL
open PySem PySem.Spec L2 Gd
namespace K8
/-! ### the law -/
theorem deq_no {d : D} (h : dn 40 d = true) : (!deq d d) = false := by rw [deq_refl h]; rfl
theorem ft (n : Nat) (h : n ≤ 100 := by decide) : Fit n := by unfold Fit; omega
def minB (L : List Lot) (b : Lot) : Bool := hitB L b && b.all fun y => !hitB L (less b y)
theorem minB_ok {L : List Lot} {b : Lot} (h : Asc b) : minB L b = true ↔ MinHit L b := by
  unfold minB MinHit
  rw [Bool.and_eq_true, hitB_iff, List.all_eq_true]
  constructor
  · rintro ⟨h1, h2⟩
    refine ⟨h, h1, fun y my q => ?_⟩
    have := h2 y my
    rw [hitB_iff.mpr q] at this
    cases this
  · rintro ⟨_, h1, h2⟩
    refine ⟨h1, fun y my => ?_⟩
    cases e : hitB L (less b y) with
    | false => rfl
    | true => exact absurd (hitB_iff.mp e) (h2 y my)
/-- a constant: what its least blockers are -/
theorem const_is {L E : List Lot} (U : Lot) (hU : Asc U) (hs : ∀ l ∈ L, Sub l U) (chk : ((sublots U).all fun b => decide (b ∈ E) == minB L b) = true) (sub : (E.all fun b => decide (b ∈ sublots U)) = true) (b : Lot) : b ∈ E ↔ MinHit L b := by
  have key : ∀ b ∈ sublots U, (b ∈ E ↔ MinHit L b) := fun b m => by
    have := beq_iff_eq.mp (List.all_eq_true.mp chk b m)
    rw [← minB_ok ((mem_sublots hU b).mp m).1, ← this, decide_eq_true_eq]
  constructor
  · intro m
    exact (key b (of_decide_eq_true (List.all_eq_true.mp sub b m))).mp m
  · intro h
    refine (key b ((mem_sublots hU b).mpr ⟨h.1, fun x m => ?_⟩)).mpr h
    obtain ⟨l, ml, xl, _⟩ := h.lone m
    exact hs l ml x xl
theorem sub_few {es : List Lot} {L : List Lot} {U : Lot} (hU : Asc U) (h6 : U.length ≤ 6) (hes : es.Pairwise (· < ·)) (mes : ∀ b, b ∈ es ↔ MinHit L b) (sub : ∀ b ∈ es, Sub b U) : es.length < 64 := by
  have p : 2 ^ U.length ≤ 2 ^ 6 := Nat.pow_le_pow_right (by decide) h6
  have p2 : (2 : Nat) ^ 6 = 64 := rfl
  have lens : (sublots U).length = 2 ^ U.length := by unfold sublots; rw [grow_len]; simp
  by_cases q : [] ∈ es
  · have h0 := (mes []).mp q
    have : es.length ≤ 1 := by
      have := nodup_le (us := [[]]) (asc_nodup linL hes) fun b m => by
        have hb := (mes b).mp m
        have := hb.least .nil h0.2.1 (fun x mx => nomatch mx)
        rw [← this]
        exact List.mem_singleton.mpr rfl
      exact this
    omega
  · have l1 : ((sublots U).filter fun l => decide (l ≠ [])).length < (sublots U).length :=
      List.length_filter_lt_length_iff_exists.mpr ⟨[], (mem_sublots hU []).mpr ⟨.nil, fun x m => nomatch m⟩, by simp⟩
    have := nodup_le (us := (sublots U).filter fun l => decide (l ≠ [])) (asc_nodup linL hes) fun b m => List.mem_filter.mpr ⟨(mem_sublots hU b).mpr ⟨((mes b).mp m).1, sub b m⟩, decide_eq_true fun e => q (e ▸ m)⟩
    omega
theorem tups_rsz {n : Nat} : ∀ (es : List Lot), (∀ l ∈ es, l.length ≤ n) → rszAll (tups es) ≤ es.length * (1923 * n + 6)
  | [], _ => Nat.zero_le _
  | l :: es, h => by
    have ih := tups_rsz es fun x m => h x (List.mem_cons_of_mem _ m)
    have hl := h l List.mem_cons_self
    have e : ∀ l : Lot, rszAll (l.map D.int) = 1923 * l.length := by
      intro l
      induction l with
      | nil => rfl
      | cons x l ih => show 1921 + 2 + rszAll (l.map D.int) = _; rw [ih, List.length_cons]; omega
    have : 1923 * l.length ≤ 1923 * n := Nat.mul_le_mul_left _ hl
    show (rszAll (l.map D.int) + 4) + 2 + rszAll (tups es) ≤ _
    have e3 : (es.length + 1) * (1923 * n + 6) = es.length * (1923 * n + 6) + (1923 * n + 6) := Nat.succ_mul _ _
    rw [e, List.length_cons, e3]
    omega
theorem tups_ish : ∀ (es : List Lot), (∀ l ∈ es, ∀ x ∈ l, x.natAbs < 2 ^ 60) → ishAll (tups es) = true
  | [], _ => rfl
  | l :: es, h => by
    have ih := tups_ish es fun x m => h x (List.mem_cons_of_mem _ m)
    have hl := h l List.mem_cons_self
    have e : ∀ l : Lot, (∀ x ∈ l, x.natAbs < 2 ^ 60) → ishAll (l.map D.int) = true := by
      intro l hl
      induction l with
      | nil => rfl
      | cons x l ih2 =>
        show (decide (x.natAbs < 2 ^ 1900) && ishAll (l.map D.int)) = true
        rw [ih2 fun y m => hl y (List.mem_cons_of_mem _ m), Bool.and_true]
        exact decide_eq_true (Nat.lt_trans (hl x List.mem_cons_self) (Nat.pow_lt_pow_right (by decide) (by decide)))
    show (ishAll (l.map D.int) && ishAll (tups es)) = true
    rw [e l hl, ih]
    rfl
theorem tups_Rp {es : List Lot} (few : es.length < 64) (short : ∀ l ∈ es, l.length ≤ 6) (small : ∀ l ∈ es, ∀ x ∈ l, x.natAbs < 2 ^ 60) : Rp (.tup (tups es)) := by
  refine ⟨dn_tups 37 es, tups_ish es small, ?_⟩
  have := tups_rsz es short
  have : es.length * (1923 * 6 + 6) ≤ 64 * (1923 * 6 + 6) := Nat.mul_le_mul_right _ (by omega)
  show rszAll (tups es) + 4 ≤ 16777216
  omega
def rest_law (a : Addr) : DTS := (dSeqS (dSet 3 (dLc (dRng1 (dCons (dOp fAdd (dC (.int 1)) (dCall (spDraw a) (dCons (dVar 1) (dCons (dC (.int 6)) dNil)))) dNil)) (dgName 9) dYes (dOp fAdd (dVar 5) (dOp fMul (dVar 6) (dVar 9))) [9])) (dSeqS (dSet 4 (dCall (sp__law_drawn a) (dCons (dVar 1) (dCons (dVar 3) dNil)))) (dSeqS (dPar [7, 8] (dCons (dCall sp__law_blocking (dCons (dVar 4) dNil)) (dCons (dCall sp_least_blockers (dCons (dVar 4) dNil)) dNil))) (dSeqS (dIfS (dOr (dTest (dOp fNe (dCB (one fRepr) (dCons (dVar 8) dNil)) (dCB (one fRepr) (dCons (dVar 7) dNil)))) (dTest (dOp fNe (dCallK sp_least_blockers kb_least_blockers_0_lots_g dNil (dCons (dUn fRevA (dVar 4)) dNil)) (dVar 7)))) (dRet (dC (.bl false))) dNext) (dIfS (dOr (dTest (dOp fNe (dCall sp_least_blockers (dCons (dVar 8) dNil)) (dCall sp__law_least (dCons (dVar 4) dNil)))) (dTest (dOp fNe (dCall sp_least_blockers (dCons (dCall sp__law_least (dCons (dVar 4) dNil)) dNil)) (dVar 7)))) (dRet (dC (.bl false))) dNext)))))
theorem b0_law_is (a : Addr) : b0_law a = dSeqS (dAsg (dTup (dCons (dCall (sp__law_pick a) (dCons (dVar 1) (dCons (dLst (dCons (dC (.int 0)) (dCons (dC (.int 0)) (dCons (dC (.int 7)) (dCons (dOp fPow (dC (.int 10)) (dC (.int 9))) dNil))))) dNil))) (dCons (dCall (sp__law_pick a) (dCons (dVar 1) (dCons (dLst (dCons (dC (.int 1)) (dCons (dC (.int 1)) (dCons (dC (.int 5)) dNil)))) dNil))) dNil))) (dgTup 2 (dgCons (dgName 5) (dgCons (dgName 6) dgNil)))) (rest_law a) := rfl
abbrev lS (a : Addr) (ns : List Int) (x2 x3 x4 x5 x6 x7 x8 x9 : Option D) : Sl := [some (.fls ns), some (.adr a), x2, x3, x4, x5, x6, x7, x8, x9]
def numb (f g : Int) (n : Nat) : Lot := (List.range n).map fun (i : Nat) => f + g * (i : Int)
theorem asc_numb {f g : Int} (hg : 1 ≤ g) (n : Nat) : Asc (numb f g n) := by
  refine List.pairwise_map.mpr (List.pairwise_lt_range.imp fun {i j} lt => ?_)
  have : g * (i : Int) < g * (j : Int) := Int.mul_lt_mul_of_pos_left (by omega) (by omega)
  omega
theorem small_numb {f g : Int} (f0 : 0 ≤ f) (f1 : f ≤ 2 ^ 40) (g1 : 1 ≤ g) (g2 : g ≤ 5) {n : Nat} (hn : n ≤ 6) : ∀ x ∈ numb f g n, x.natAbs < 2 ^ 60 := by
  intro x m
  obtain ⟨i, mi, rfl⟩ := List.mem_map.mp m
  have := List.mem_range.mp mi
  have h1 : 0 ≤ g * (i : Int) := Int.mul_nonneg (by omega) (by omega)
  have h2 : g * (i : Int) ≤ 5 * (i : Int) := Int.mul_le_mul_of_nonneg_right g2 (by omega)
  omega
theorem turn {DD : DEnds} {a : Addr} {ns : List Int} {f g : Int} {x2 x3 x4 x7 x8 x9 : Option D} (f0 : 0 ≤ f) (f1 : f ≤ 2 ^ 40) (g1 : 1 ≤ g) (g2 : g ≤ 5) (h : ∀ x3 x4 x7 x8 x9, DD.nx (lS a ns x2 x3 x4 (some (.int f)) (some (.int g)) x7 x8 x9) []) :
    rest_law a DD (lS a ns x2 x3 x4 (some (.int f)) (some (.int g)) x7 x8 x9) [] := by
  refine ⟨6, rfl, by decide, by decide, fun r r0 r1 => ?_⟩
  obtain ⟨k, rfl⟩ := Int.eq_ofNat_of_zero_le r0
  have toN : ((1 : Int) + (k : Int)).toNat = k + 1 := by omega
  have rg : Rg ((1 : Int) + (k : Int)) := by unfold Rg; omega
  refine ⟨rg, ?_⟩
  rw [toN, rngD_nD]
  refine lc_map (fun c : Nat => D.int (c : Int)) (fun i : Nat => .int (f + g * (i : Int))) (List.range (k + 1)) (by rw [List.length_range]; omega) (fun i m q hq => ⟨MOk.left ⟨by omega, by omega⟩, hq⟩) ?_
  have eU : ((List.range (k + 1)).map fun (i : Nat) => D.int (f + g * (i : Int))) = (numb f g (k + 1)).map D.int := by unfold numb; rw [List.map_map]; rfl
  rw [eU]
  have hU := asc_numb (f := f) g1 (k + 1)
  have l6 : (numb f g (k + 1)).length ≤ 6 := by unfold numb; rw [List.length_map, List.length_range]; omega
  have sm := small_numb f0 f1 g1 g2 (n := k + 1) (by omega)
  generalize numb f g (k + 1) = U at hU l6 sm
  refine ⟨U, rfl, hU, l6, fun L hl hL => ?_⟩
  have lots6 : Lots 6 L := ⟨fun l m => (hL l m).1, by omega, U, hU, l6, fun l m => (hL l m).2⟩
  have lots10 : Lots 10 L := ⟨fun l m => (hL l m).1, by omega, U, hU, by omega, fun l m => (hL l m).2⟩
  refine ⟨L, rfl, lots6, fun es hes mes => ⟨L, rfl, lots10, fun gs hgs mgs => ?_⟩⟩
  have e := asc_ext linL hgs hes fun b => by rw [mgs, mes]
  subst e
  refine ⟨rfl, ?_⟩
  have subE : ∀ b ∈ gs, Sub b U := fun b m x mx => by
    obtain ⟨l, ml, xl, _⟩ := ((mes b).mp m).lone mx
    exact (hL l ml).2 x xl
  have fewE := sub_few hU l6 hes mes subE
  have R : Rp (.tup (tups gs)) := tups_Rp fewE (fun l m => Nat.le_trans (lot_len ((mes l).mp m).1 (subE l m)) l6) fun l m x mx => sm x (subE l m x mx)
  have D1 := dn_tups 37 gs
  refine ⟨R, R, ?_⟩
  refine no (same_no rfl) ?_
  have eR : (tups L).reverse = tups L.reverse := by unfold tups; rw [List.map_reverse]
  refine ⟨L.reverse, by rw [← eR]; rfl, ⟨fun l m => (hL l (List.mem_reverse.mp m)).1, by rw [List.length_reverse]; omega, U, hU, by omega, fun l m => (hL l (List.mem_reverse.mp m)).2⟩, fun hs hhs mhs => ?_⟩
  have e := asc_ext linL hhs hes fun b => by
    rw [mhs, mes]
    exact MinHit.congr fun a => ⟨fun q l m => q l (List.mem_reverse.mpr m), fun q l m => q l (List.mem_reverse.mp m)⟩
  subst e
  refine ⟨D1, D1, no (deq_no D1) ?_⟩
  have lotsE : Lots 10 hs := ⟨fun l m => ((mes l).mp m).1, fewE, U, hU, by omega, subE⟩
  have shortL : ∀ l ∈ L, l.length ≤ 1000 := fun l m => by have := lot_len (hL l m).1 (hL l m).2; omega
  refine ⟨hs, rfl, lotsE, fun ps hps mps => ⟨L, .inl rfl, by omega, shortL, fun qs hqs mqs => ?_⟩⟩
  have e := asc_ext linL hps hqs fun b => by rw [mps, mqs, dual (fun l m => (hL l m).1) mes]
  subst e
  have D2 := dn_tups 37 ps
  refine ⟨D2, D2, no (deq_no D2) ?_⟩
  refine ⟨L, .inl rfl, by omega, shortL, fun qs hqs mqs => ?_⟩
  have inL : ∀ l ∈ qs, l ∈ L := fun l m => ((mqs l).mp m).1
  refine ⟨qs, rfl, ⟨fun l m => (hL l (inL l m)).1, ?_, U, hU, by omega, fun l m => (hL l (inL l m)).2⟩, fun rs hrs mrs => ?_⟩
  · have := nodup_le (asc_nodup linL hqs) inL
    omega
  have e := asc_ext linL hrs hes fun b => by
    rw [mrs, mes]
    exact MinHit.congr (hits_lots (fun l m => (hL l m).1) mqs)
  subst e
  refine ⟨D1, D1, no (deq_no D1) ?_⟩
  exact h _ _ _ _ _
theorem lp_turns {DD : DEnds} {a : Addr} {ns : List Int} : ∀ (xs : List D) (x2 x3 x4 x5 x6 x7 x8 x9 : Option D), (∀ x2 x3 x4 x5 x6 x7 x8 x9, DD.nx (lS a ns x2 x3 x4 x5 x6 x7 x8 x9) []) →
    forGo (dgName 2) (b0_law a) DD xs (lS a ns x2 x3 x4 x5 x6 x7 x8 x9) []
  | [], x2, x3, x4, x5, x6, x7, x8, x9, h => h _ _ _ _ _ _ _ _
  | x :: xs, x2, x3, x4, x5, x6, x7, x8, x9, h => by
    have drawn : ∀ f g : Int, 0 ≤ f → f ≤ 2 ^ 40 → 1 ≤ g → g ≤ 5 → rest_law a { DD with nx := forGo (dgName 2) (b0_law a) DD xs, ct := forGo (dgName 2) (b0_law a) DD xs, bk := DD.nx } (lS a ns (some x) x3 x4 (some (.int f)) (some (.int g)) x7 x8 x9) [] :=
      fun f g f0 f1 g1 g2 => turn f0 f1 g1 g2 fun x3 x4 x7 x8 x9 => lp_turns xs _ _ _ _ _ _ _ _ h
    refine ⟨⟨by decide, by decide, by decide⟩, ft _, ?_⟩
    refine ⟨_, rfl, by simp, by simp, fun y my => ?_⟩
    have second : ∀ f : Int, 0 ≤ f → f ≤ 2 ^ 40 → ∀ z ∈ [D.int 1, .int 1, .int 5], Fit 2 ∧ dgTup 2 (dgCons (dgName 5) (dgCons (dgName 6) dgNil)) (.tup [.int f, z]) (lS a ns (some x) x3 x4 x5 x6 x7 x8 x9) fun δ => rest_law a { DD with nx := forGo (dgName 2) (b0_law a) DD xs, ct := forGo (dgName 2) (b0_law a) DD xs, bk := DD.nx } δ [] := by
      intro f f0 f1 z mz
      simp only [List.mem_cons, List.not_mem_nil, or_false] at mz
      refine ⟨ft _, ?_⟩
      rcases mz with rfl | rfl | rfl
      · exact ⟨rfl, drawn f 1 f0 f1 (by decide) (by decide)⟩
      · exact ⟨rfl, drawn f 1 f0 f1 (by decide) (by decide)⟩
      · exact ⟨rfl, drawn f 5 f0 f1 (by decide) (by decide)⟩
    have y4 : ∃ f : Int, y = .int f ∧ 0 ≤ f ∧ f ≤ 2 ^ 40 := by
      simp only [List.mem_cons, List.not_mem_nil, or_false] at my
      rcases my with rfl | rfl | rfl | rfl
      · exact ⟨_, rfl, by decide, by decide⟩
      · exact ⟨_, rfl, by decide, by decide⟩
      · exact ⟨_, rfl, by decide, by decide⟩
      · exact ⟨_, rfl, by decide, by decide⟩
    obtain ⟨f, rfl, f0, f1⟩ := y4
    refine ⟨ft _, ?_⟩
    exact ⟨_, rfl, by simp, by simp, fun z mz => second f f0 f1 z mz⟩
def rest_two : DTS := (dSeqS (dIfS (dOr (dTest (dOp fNe (dCall sp_least_blockers (dCons (dTup dNil) dNil)) (dTup (dCons (dTup dNil) dNil)))) (dOr (dTest (dOp fNe (dCall sp_least_blockers (dCons (dTup (dCons (dTup dNil) dNil)) dNil)) (dTup dNil))) (dOr (dTest (dOp fNe (dCall sp_least_blockers (dCons (dTup (dCons (dTup (dCons (dC (.int 3)) dNil)) (dCons (dTup dNil) dNil))) dNil)) (dTup dNil))) (dTest (dOp fNe (dCall sp_least_blockers (dCons (dTup (dCons (dTup (dCons (dC (.int 2)) (dCons (dC (.int 9)) dNil))) dNil)) dNil)) (dTup (dCons (dTup (dCons (dC (.int 2)) dNil)) (dCons (dTup (dCons (dC (.int 9)) dNil)) dNil)))))))) (dRet (dC (.bl false))) dNext) (dRet (dAndV (dOp fEq (dCall sp_least_blockers (dCons (dTup (dCons (dTup (dCons (dC (.int 1)) (dCons (dC (.int 2)) dNil))) (dCons (dTup (dCons (dC (.int 1)) (dCons (dC (.int 3)) dNil))) (dCons (dTup (dCons (dC (.int 2)) (dCons (dC (.int 3)) dNil))) dNil)))) dNil)) (dTup (dCons (dTup (dCons (dC (.int 1)) (dCons (dC (.int 2)) dNil))) (dCons (dTup (dCons (dC (.int 1)) (dCons (dC (.int 3)) dNil))) (dCons (dTup (dCons (dC (.int 2)) (dCons (dC (.int 3)) dNil))) dNil))))) (dOp fEq (dCall sp_least_blockers (dCons (dTup (dCons (dTup (dCons (dC (.int 1)) (dCons (dC (.int 2)) dNil))) (dCons (dTup (dCons (dC (.int 2)) dNil)) (dCons (dTup (dCons (dC (.int 2)) (dCons (dC (.int 5)) dNil))) dNil)))) dNil)) (dTup (dCons (dTup (dCons (dC (.int 2)) dNil)) dNil))))))
theorem rest_ok {a : Addr} {ns : List Int} {x2 x3 x4 x5 x6 x7 x8 x9 : Option D} : rest_two { nx := fun _ _ => False, rt := fun d _ => d = .bl true } (lS a ns x2 x3 x4 x5 x6 x7 x8 x9) [] := by
  have D0 := dn_tups 37
  -- ()
  refine ⟨ft _, [], rfl, ⟨(fun l m => nomatch m), by decide, [], .nil, by decide, (fun l m => nomatch m)⟩, fun es hes mes => ?_⟩
  have e := asc_ext linL hes (fs := [[]]) (by decide) fun b => (mes b).trans (const_is (L := []) (E := [[]]) [] .nil (fun l m => nomatch m) (by decide +kernel) (by decide +kernel) b).symm
  have q : (!deq (.tup (tups es)) (.tup (tups [[]]))) = false := by rw [e]; exact deq_no (D0 _)
  refine ⟨ft _, ft _, D0 es, D0 [[]], no q ?_⟩
  clear q e mes hes es
  -- ((),)
  refine ⟨ft _, ft _, [[]], rfl, ⟨by decide, by decide, [], .nil, by decide, by unfold Sub; decide⟩, fun es hes mes => ?_⟩
  have e := asc_ext linL hes (fs := []) .nil fun b => (mes b).trans (const_is (L := [[]]) (E := []) [] .nil (by unfold Sub; decide) (by decide +kernel) (by decide +kernel) b).symm
  have q : (!deq (.tup (tups es)) (.tup (tups []))) = false := by rw [e]; exact deq_no (D0 _)
  refine ⟨ft _, D0 es, D0 [], no q ?_⟩
  clear q e mes hes es
  -- ((3,), ())
  refine ⟨ft _, ft _, ft _, [[3], []], rfl, ⟨by decide, by decide, [3], by decide, by decide, by unfold Sub; decide⟩, fun es hes mes => ?_⟩
  have e := asc_ext linL hes (fs := []) .nil fun b => (mes b).trans (const_is (L := [[3], []]) (E := []) [3] (by decide) (by unfold Sub; decide) (by decide +kernel) (by decide +kernel) b).symm
  have q : (!deq (.tup (tups es)) (.tup (tups []))) = false := by rw [e]; exact deq_no (D0 _)
  refine ⟨ft _, D0 es, D0 [], no q ?_⟩
  clear q e mes hes es
  -- ((2, 9),)
  refine ⟨ft _, ft _, [[2, 9]], rfl, ⟨by decide, by decide, [2, 9], by decide, by decide, by unfold Sub; decide⟩, fun es hes mes => ?_⟩
  have e := asc_ext linL hes (fs := [[2], [9]]) (by decide) fun b => (mes b).trans (const_is (L := [[2, 9]]) (E := [[2], [9]]) [2, 9] (by decide) (by unfold Sub; decide) (by decide +kernel) (by decide +kernel) b).symm
  have q : (!deq (.tup (tups es)) (.tup (tups [[2], [9]]))) = false := by rw [e]; exact deq_no (D0 _)
  refine ⟨ft _, ft _, ft _, D0 es, D0 [[2], [9]], no q ?_⟩
  clear q e mes hes es
  -- ((1, 2), (1, 3), (2, 3))
  refine ⟨ft _, ft _, ft _, ft _, [[1, 2], [1, 3], [2, 3]], rfl, ⟨by decide, by decide, [1, 2, 3], by decide, by decide, by unfold Sub; decide⟩, fun es hes mes => ?_⟩
  have e := asc_ext linL hes (fs := [[1, 2], [1, 3], [2, 3]]) (by decide) fun b => (mes b).trans (const_is (L := [[1, 2], [1, 3], [2, 3]]) (E := [[1, 2], [1, 3], [2, 3]]) [1, 2, 3] (by decide) (by unfold Sub; decide) (by decide +kernel) (by decide +kernel) b).symm
  have q : deq (.tup (tups es)) (.tup (tups [[1, 2], [1, 3], [2, 3]])) = true := by rw [e]; exact deq_refl (D0 _)
  refine ⟨ft _, ft _, ft _, ft _, D0 es, D0 [[1, 2], [1, 3], [2, 3]], yes q ?_⟩
  clear q e mes hes es
  -- ((1, 2), (2,), (2, 5))
  refine ⟨ft _, ft _, ft _, ft _, [[1, 2], [2], [2, 5]], rfl, ⟨by decide, by decide, [1, 2, 5], by decide, by decide, by unfold Sub; decide⟩, fun es hes mes => ?_⟩
  have e := asc_ext linL hes (fs := [[2]]) (by decide) fun b => (mes b).trans (const_is (L := [[1, 2], [2], [2, 5]]) (E := [[2]]) [1, 2, 5] (by decide) (by unfold Sub; decide) (by decide +kernel) (by decide +kernel) b).symm
  have q : deq (.tup (tups es)) (.tup (tups [[2]])) = true := by rw [e]; exact deq_refl (D0 _)
  exact ⟨ft _, ft _, D0 es, D0 [[2]], congrArg D.bl q⟩
theorem vc_law (a : Addr) : ∀ ns : List Int, ns.length ≤ 63 → r_law a { nx := fun _ _ => False, rt := fun d _ => d = .bl true } (put (startD N_law [.fls ns]) 1 (.adr a)) [] := by
  intro ns few
  have rg : Rg (2 + (if decide ((1 : Int) < (ns.length : Int)) = true then 1 else 0) + (if decide ((3 : Int) < (ns.length : Int)) = true then 1 else 0)) := by
    unfold Rg
    split <;> split <;> omega
  refine ⟨rg, ?_⟩
  refine lp_turns _ none none none none none none none none fun x2 x3 x4 x5 x6 x7 x8 x9 => ?_
  exact ⟨rfl, rest_ok⟩
end K8
end DL

namespace DL
open PySem PySem.Spec L2 Gd
namespace K8
section
variable {P : Program} {w : World} {K : PySem.W.Frag} {mg : Str → Option Value} {base : Heap}
theorem ok_least_masks (T : Txt K mg) : FnG P w K mg base CX0 1 T.least_masks.f T.least_masks.fd ["masks"] (spP K sp_least_masks) := by
  have nd := sc_least_masks.nd
  refine fnD T.least_masks.F sc_least_masks ln_least_masks fun cdv A fr s H E room guard dx h1 h2 => ?_
  have hu := room.units
  exact ⟨_, r_least_masks, (dss_cons (ds_set nd rfl (by first | exact .inl rfl | exact .inr rfl) (de_new da_nil)) (dss_cons (ds_for PassesOwn.never rfl (di_seq_ K (dv 0)) (dg_name nd rfl (by first | exact .inl rfl | exact .inr rfl)) (dss_one (ds_if (dt_tru_ K (de_loan 1 (de_callB_ (cr_all_ K rfl) cd_all (da_cons (de_lc (own := [("other", 3)]) rfl nd (di_seq_ K (dv 1)) (blk_of rfl (by rfl)) (by decide) (fun m s0 H0 C cl fp => (dg_name nd rfl (by first | exact .inl rfl | exact .inr rfl))) (fun m s0 H0 C cl fp => dts_nil) (fun m s0 H0 C cl fp => (de_cmp (op_neA_ K hu) od_ne (de_op op_and od_onI0 (dv 2) (dv 3)) (dv 3) (nomark _)))) da_nil) fun h1 => pe_callB (cr_all_ K rfl) rfl T.b_all rfl h1))) (dss_one (ds_expr (de_met_ K md_append (dv 1) (da_cons (dv 2) da_nil) fun h1 h2 => pe_bm PySem.F.plainAttrs_list PySem.F.slot_list_append PySem.F.type_list_append mt_append h1 h2))) dss_nil))) (dss_frz 1 (dss_one (ds_ret (dv 1)))))), vc_least_masks⟩
theorem ok_bits_in (T : Txt K mg) : FnG P w K mg base CX0 1 T.bits_in.f T.bits_in.fd ["mask"] (spP K sp_bits_in) := by
  have nd := sc_bits_in.nd
  refine fnD T.bits_in.F sc_bits_in ln_bits_in fun cdv A fr s H E room guard dx h1 h2 => ?_
  have hu := room.units
  exact ⟨_, r_bits_in, (dss_cons (ds_set nd rfl (by first | exact .inl rfl | exact .inr rfl) (de_new da_nil)) (dss_cons (ds_while PassesOwn.never (dt_tru_ K (dv 0)) (dss_cons (ds_expr (de_met_ K md_append (dv 1) (da_cons (de_op op_and od_onI0 (dv 0) (de_un un_neg od_neg (dv 0))) da_nil) fun h1 h2 => pe_bm PySem.F.plainAttrs_list PySem.F.slot_list_append PySem.F.type_list_append mt_append h1 h2)) (dss_one (ds_set nd rfl (by first | exact .inl rfl | exact .inr rfl) (de_op op_and od_onI0 (dv 0) (de_op op_sub od_onI0 (dv 0) de_int)))))) (dss_frz 1 (dss_one (ds_ret (dv 1)))))), vc_bits_in⟩
theorem ok_is_least_blocker (T : Txt K mg) : FnG P w K mg base CX0 1 T.is_least_blocker.f T.is_least_blocker.fd ["masks", "blocker"] (spP K sp_is_least_blocker) := by
  have nd := sc_is_least_blocker.nd
  refine fnD T.is_least_blocker.F sc_is_least_blocker ln_is_least_blocker fun cdv A fr s H E room guard dx h1 h2 => ?_
  have hu := room.units
  exact ⟨_, r_is_least_blocker, (dss_cons (ds_set nd rfl (by first | exact .inl rfl | exact .inr rfl) de_int) (dss_cons (ds_for PassesOwn.never rfl (di_seq_ K (dv 0)) (dg_name nd rfl (by first | exact .inl rfl | exact .inr rfl)) (dss_cons (ds_set nd rfl (by first | exact .inl rfl | exact .inr rfl) (de_op op_and od_onI0 (dv 3) (dv 1))) (dss_one (ds_if (dt_cmp (op_eqA_ K hu) od_eq (de_op op_and od_onI0 (dv 4) (de_op op_sub od_onI0 (dv 4) de_int)) de_int (nomark _)) (dss_one (ds_set nd rfl (by first | exact .inl rfl | exact .inr rfl) (de_op op_or od_onI0 (dv 2) (dv 4)))) dss_nil)))) (dss_one (ds_ret (de_cmp (op_eqA_ K hu) od_eq (dv 2) (dv 1) (nomark _)))))), vc_is_least_blocker⟩
theorem ok_least_blocking (T : Txt K mg) : FnG P w K mg base CX0 2 T.least_blocking.f T.least_blocking.fd ["masks"] (spP K sp_least_blocking) := by
  have nd := sc_least_blocking.nd
  have G_bits_in := ok_bits_in (P := P) (w := w) (base := base) T
  have G_is_least_blocker := ok_is_least_blocker (P := P) (w := w) (base := base) T
  refine fnD T.least_blocking.F sc_least_blocking ln_least_blocking fun cdv A fr s H E room guard dx h1 h2 => ?_
  have hu := room.units
  exact ⟨_, r_least_blocking, (dss_cons (ds_set nd rfl (by first | exact .inl rfl | exact .inr rfl) (de_newF da_nil)) (dss_cons (ds_set nd rfl (by first | exact .inl rfl | exact .inr rfl) (de_newF (da_cons (de_tup (da_cons de_int (da_cons de_int da_nil))) da_nil))) (dss_cons (ds_while PassesOwn.never (dt_tru_ K (dv 2)) (dss_cons (ds_asg_ (de_met0_ K md_pop (dv 2) fun h1 => pe_bm0 PySem.F.plainAttrs_list PySem.F.slot_list_pop PySem.F.type_list_pop mt_pop h1) (dg_tup_ K (dgs_cons' (dg_name nd rfl (by first | exact .inl rfl | exact .inr rfl)) (dgs_cons' (dg_name nd rfl (by first | exact .inl rfl | exact .inr rfl)) dgs_nil fun h1 h2 => pgs_cons h1 h2) fun h1 h2 => pgs_cons h1 h2) fun h1 => pg_tup rfl h1) fun h1 h2 => ps_asg h1 h2) (dss_cons (ds_while PassesOwn.never (DW.dt (dw_and (dt_cmp op_lt od_onB (dv 3) (de_callB_ (cr_len_ K) cd_len (da_cons (dv 0) da_nil) fun h1 => pe_callB (cr_len_ K) rfl T.b_len rfl h1) (nomark _)) (dw_and1 (dt_tru_ K (de_op op_and od_onI0 (de_ix_ K (dv 0) (dv 3)) (dv 4)))))) (dss_one (ds_aug_ de_int ip_addI fun h1 => ps_aug nd rfl (by first | exact .inl rfl | exact .inr rfl) h1 ip_add))) (dss_one (ds_if (dt_cmp (op_eqA_ K hu) od_eq (dv 3) (de_callB_ (cr_len_ K) cd_len (da_cons (dv 0) da_nil) fun h1 => pe_callB (cr_len_ K) rfl T.b_len rfl h1) (nomark _)) (dss_one (ds_expr (de_met_ K md_append (dv 1) (da_cons (dv 4) da_nil) fun h1 h2 => pe_bm PySem.F.plainAttrs_list PySem.F.slot_list_append PySem.F.type_list_append mt_append h1 h2))) (dss_cons (ds_set nd rfl (by first | exact .inl rfl | exact .inr rfl) (de_slice_ K (dv 0) do_none (do_some (de_op (op_addAll_ K) od_add (dv 3) de_int)))) (dss_cons (ds_setLc (own := [("bit", 7)]) rfl nd rfl rfl (by rfl) (di_seq_ K (de_call_ K G_bits_in (room.mono (by decide)) guard rfl T.bits_in.m T.bits_in.F.2 T.bits_in.b  (da_cons (de_ix_ K (dv 0) (dv 3)) da_nil))) (blk_of rfl (by rfl)) (by decide) (fun m s0 H0 C cl fp => (dg_name nd rfl (by first | exact .inl rfl | exact .inr rfl))) (fun m s0 H0 C cl fp => dts_nil) (fun m s0 H0 C cl fp => (de_op op_or od_onI0 (dv 4) (dv 7)))) (dss_one (ds_expr (de_met_ K md_extend (dv 2) (da_cons (de_lc (own := [("mask", 8)]) rfl nd (di_seq_ K (dv 6)) (blk_of rfl (by rfl)) (by decide) (fun m s0 H0 C cl fp => (dg_name nd rfl (by first | exact .inl rfl | exact .inr rfl))) (fun m s0 H0 C cl fp => (dts_one (dt_tru_ K (de_call_ K G_is_least_blocker (room.mono (by decide)) guard rfl T.is_least_blocker.m T.is_least_blocker.F.2 T.is_least_blocker.b  (da_cons (dv 5) (da_cons (dv 8) da_nil)))))) (fun m s0 H0 C cl fp => (de_tup (da_cons (de_op (op_addAll_ K) od_add (dv 3) de_int) (da_cons (dv 8) da_nil))))) da_nil) fun h1 h2 => pe_bm PySem.F.plainAttrs_list PySem.F.slot_list_extend PySem.F.type_list_extend mt_extend h1 h2)))))))))) (dss_frz 2 (dss_frz 1 (dss_one (ds_ret (dv 1)))))))), vc_least_blocking⟩
theorem ok_least_blockers (T : Txt K mg) : FnG P w K mg base CX0 3 T.least_blockers.f T.least_blockers.fd ["lots"] (spP K sp_least_blockers) := by
  have nd := sc_least_blockers.nd
  have G_least_blocking := ok_least_blocking (P := P) (w := w) (base := base) T
  have G_least_masks := ok_least_masks (P := P) (w := w) (base := base) T
  refine fnD T.least_blockers.F sc_least_blockers ln_least_blockers fun cdv A fr s H E room guard dx h1 h2 => ?_
  have hu := room.units
  exact ⟨_, r_least_blockers, (dss_cons (ds_set nd rfl (by first | exact .inl rfl | exact .inr rfl) (de_sortSet_ K P w (de_lc2 (own := [("lot", 9), ("thing", 8)]) (vs1 := [8]) rfl nd (di_seq_ K (dv 0)) (blk_of rfl (by rfl)) (by decide) (by decide) (by decide) (fun m s0 H0 C cl fp => (dg_name nd rfl (by first | exact .inl rfl | exact .inr rfl))) (fun m s0 H0 C cl fp => dts_nil) (fun m s0 H0 C cl fp => (di_seq_ K (dv 9))) (fun m s0 H0 C cl fp => (dg_name nd rfl (by first | exact .inl rfl | exact .inr rfl))) (fun m s0 H0 C cl fp => dts_nil) (fun m s0 H0 C cl fp => (dv 8))) fun h1 => pe_callB (cr_sortA_ K P w rfl hu) rfl T.b_sorted rfl (pa_cons (pe_callTy (cr_setA_ K P w rfl hu) rfl T.b_set rfl (pa_cons h1 pa_nil)) pa_nil))) (dss_cons (ds_set nd rfl (by first | exact .inl rfl | exact .inr rfl) (de_dc (own := [("place", 7), ("thing", 8)]) rfl nd (di_enum K (da_cons (dv 1) da_nil) fun h1 => pi_enum rfl T.b_enumerate h1) (show BlkOk ["lots", "things", "bits", "ordered", "masks", "blockers", "mask", "place", "thing", "lot", "blocker"] (defScope s_least_blockers) _ [("place", 7), ("thing", 8)] from ⟨rfl, by decide +kernel, by decide +kernel, by decide +kernel, by decide +kernel⟩) (by decide) (fun m s0 H0 C cl fp => (dg_tup_ K (dgs_cons' (dg_name nd rfl (by first | exact .inl rfl | exact .inr rfl)) (dgs_cons' (dg_name nd rfl (by first | exact .inl rfl | exact .inr rfl)) dgs_nil fun h1 h2 => pgs_cons h1 h2) fun h1 h2 => pgs_cons h1 h2) fun h1 => pg_tup rfl h1)) (fun m s0 H0 C cl fp => dts_nil) (fun m s0 H0 C cl fp => (dv 8)) (fun m s0 H0 C cl fp => (de_op op_shl od_onI de_int (dv 7))))) (dss_cons (ds_set nd rfl (by first | exact .inl rfl | exact .inr rfl) (de_sortLen_ K hu (de_sortSet_ K P w (dv 0) fun h1 => pe_callB (cr_sortA_ K P w rfl hu) rfl T.b_sorted rfl (pa_cons (pe_callTy (cr_setA_ K P w rfl hu) rfl T.b_set rfl (pa_cons h1 pa_nil)) pa_nil)) rfl T.b_sorted rfl T.b_len)) (dss_cons (ds_set nd rfl (by first | exact .inl rfl | exact .inr rfl) (de_call_ K G_least_masks (room.mono (by decide)) guard rfl T.least_masks.m T.least_masks.F.2 T.least_masks.b  (da_cons (de_lc (own := [("lot", 9)]) rfl nd (di_seq_ K (dv 3)) (blk_of rfl (by rfl)) (by decide) (fun m s0 H0 C cl fp => (dg_name nd rfl (by first | exact .inl rfl | exact .inr rfl))) (fun m s0 H0 C cl fp => dts_nil) (fun m s0 H0 C cl fp => (de_callB_ (cr_sum_ K rfl) cd_sum (da_cons (de_lc (own := [("thing", 8)]) rfl nd (di_seq_ K (dv 9)) (blk_of rfl (by rfl)) (by decide) (fun m s0 H0 C cl fp => (dg_name nd rfl (by first | exact .inl rfl | exact .inr rfl))) (fun m s0 H0 C cl fp => dts_nil) (fun m s0 H0 C cl fp => (de_ixK hu (dv 2) (dv 8)))) da_nil) fun h1 => pe_callB (cr_sum_ K rfl) rfl T.b_sum rfl h1))) da_nil))) (dss_cons (ds_setLc (own := [("mask", 6)]) rfl nd rfl rfl (by rfl) (di_seq_ K (de_call_ K G_least_blocking (room.mono (by decide)) guard rfl T.least_blocking.m T.least_blocking.F.2 T.least_blocking.b  (da_cons (dv 4) da_nil))) (blk_of rfl (by rfl)) (by decide) (fun m s0 H0 C cl fp => (dg_name nd rfl (by first | exact .inl rfl | exact .inr rfl))) (fun m s0 H0 C cl fp => dts_nil) (fun m s0 H0 C cl fp => (de_lc (own := [("thing", 8)]) rfl nd (di_seq_ K (dv 1)) (blk_of rfl (by rfl)) (by decide) (fun m s0 H0 C cl fp => (dg_name nd rfl (by first | exact .inl rfl | exact .inr rfl))) (fun m s0 H0 C cl fp => (dts_one (dt_tru_ K (de_op op_and od_onI0 (de_ixK hu (dv 2) (dv 8)) (dv 6))))) (fun m s0 H0 C cl fp => (dv 8))))) (dss_one (ds_ret (de_callTy_ (cr_tuple_ K) cd_tuple_ (da_cons (de_callB_ (cr_sortG_ K hu) cd_sorted (da_cons (de_lc (own := [("blocker", 10)]) rfl nd (di_seq_ K (dv 5)) (blk_of rfl (by rfl)) (by decide) (fun m s0 H0 C cl fp => (dg_name nd rfl (by first | exact .inl rfl | exact .inr rfl))) (fun m s0 H0 C cl fp => dts_nil) (fun m s0 H0 C cl fp => (de_callTy_ (cr_tuple_ K) cd_tuple_ (da_cons (dv 10) da_nil) fun h1 => pe_callTy (cr_tuple_ K) rfl T.b_tuple rfl h1))) da_nil) fun h1 => pe_callB (cr_sortG_ K hu) rfl T.b_sorted rfl h1) da_nil) fun h1 => pe_callTy (cr_tuple_ K) rfl T.b_tuple rfl h1)))))))), vc_least_blockers⟩
theorem ok__law_heap (T : Txt K mg) : FnG P w K mg base CX0 1 T._law_heap.f T._law_heap.fd ["_law_script"] (spP K sp__law_heap) := by
  have nd := sc__law_heap.nd
  refine fnD T._law_heap.F sc__law_heap ln__law_heap fun cdv A fr s H E room guard dx h1 h2 => ?_
  have hu := room.units
  exact ⟨_, r__law_heap, (dss_cons (ds_set nd rfl (by first | exact .inl rfl | exact .inr rfl) de_int) (dss_cons (ds_for PassesOwn.never rfl (di_seq_ K (de_slice_ K (dv 0) do_none (do_some de_int))) (dg_name nd rfl (by first | exact .inl rfl | exact .inr rfl)) (dss_one (ds_set nd rfl (by first | exact .inl rfl | exact .inr rfl) (de_op op_mod od_onI (de_callTy_ call_int1 cd_int (da_cons (de_op (op_addAll_ K) od_add (de_op (op_addAll_ K) od_add (de_op (op_addAll_ K) od_add (de_op (op_mulAll_ K) od_mul (dv 1) de_int) (de_op (op_mulAll_ K) od_mul (de_op op_mod od_onI (de_callTy_ call_int1 cd_int (da_cons (de_callB_ call_abs cd_abs (da_cons (dv 2) da_nil) fun h1 => pe_callB call_abs rfl T.b_abs rfl h1) da_nil) fun h1 => pe_callTy call_int1 rfl T.b_int rfl h1) de_int) de_int)) (de_callTy_ call_int1 cd_int (da_cons (de_cmp op_lt od_onB (dv 2) de_int (nomark _)) da_nil) fun h1 => pe_callTy call_int1 rfl T.b_int rfl h1)) de_int) da_nil) fun h1 => pe_callTy call_int1 rfl T.b_int rfl h1) de_int)))) (dss_one (ds_ret (de_lst (da_cons (de_rev_ K (de_lc (own := [("_law_cell", 2)]) rfl nd (di_seq_ K (de_slice_ K (dv 0) do_none (do_some de_int))) (blk_of rfl (by rfl)) (by decide) (fun m s0 H0 C cl fp => (dg_name nd rfl (by first | exact .inl rfl | exact .inr rfl))) (fun m s0 H0 C cl fp => (dts_one (dt_cmp op_ge od_onB (de_callB_ call_abs cd_abs (da_cons (dv 2) da_nil) fun h1 => pe_callB call_abs rfl T.b_abs rfl h1) (de_op op_pow od_onI de_int de_int) (nomark _)))) (fun m s0 H0 C cl fp => (de_callB_ call_abs cd_abs (da_cons (dv 2) da_nil) fun h1 => pe_callB call_abs rfl T.b_abs rfl h1)))) (da_cons (dv 1) da_nil))))))), vc__law_heap⟩
theorem ok__law_draw (T : Txt K mg) : FnG P w K mg base CX0 1 T._law_draw.f T._law_draw.fd ["_law_heap_here", "_law_many"] (spR K spDraw) := by
  have nd := sc__law_draw.nd
  refine fnDraw T._law_draw.F sc__law_draw rfl fun cdv A fr s H E room guard dx => ?_
  have hu := room.units
  exact ⟨_, r__law_draw, (dss_cons (ds_while PassesOwn.never (DW.dt (dw_and (dt_cmp (op_neA_ K hu) od_ne (de_ix_ K (dv 0) de_int) (de_lst da_nil) (nomark _)) (dw_and1 (dt_cmp (op_eqA_ K hu) od_eq (de_ix_ K (de_ix_ K (dv 0) de_int) (de_un un_neg od_neg de_int)) de_int (nomark _))))) (dss_one (ds_expr (de_met0_ K md_pop (de_ix_ K (dv 0) de_int) fun h1 => pe_bm0 PySem.F.plainAttrs_list PySem.F.slot_list_pop PySem.F.type_list_pop mt_pop h1)))) (dss_cons (ds_if (dt_cmp (op_neA_ K hu) od_ne (de_ix_ K (dv 0) de_int) (de_lst da_nil) (nomark _)) (dss_cons (ds_set nd rfl (by first | exact .inl rfl | exact .inr rfl) (de_met0_ K md_pop (de_ix_ K (dv 0) de_int) fun h1 => pe_bm0 PySem.F.plainAttrs_list PySem.F.slot_list_pop PySem.F.type_list_pop mt_pop h1)) (dss_cons (ds_expr (de_met_ K md_append (de_ix_ K (dv 0) de_int) (da_cons (de_op op_fdivW od_onI (dv 2) (dv 1)) da_nil) fun h1 h2 => pe_bm PySem.F.plainAttrs_list PySem.F.slot_list_append PySem.F.type_list_append mt_append h1 h2)) (dss_one (ds_ret (de_op op_mod od_onI (de_callTy_ call_int1 cd_int (da_cons (dv 2) da_nil) fun h1 => pe_callTy call_int1 rfl T.b_int rfl h1) (dv 1)))))) dss_nil) (dss_cons (ds_setI_ (de_op op_mod od_onI (de_callTy_ call_int1 cd_int (da_cons (de_op (op_addAll_ K) od_add (de_op (op_mulAll_ K) od_mul (de_ix_ K (dv 0) de_int) de_int) de_int) da_nil) fun h1 => pe_callTy call_int1 rfl T.b_int rfl h1) de_int) (dv 0) de_int fun h1 h2 h3 => ps_asg h1 (pg_sub h2 h3 set_list)) (dss_one (ds_ret (de_op op_mod od_onI (de_callTy_ call_int1 cd_int (da_cons (de_op op_fdivW od_onI (de_ix_ K (dv 0) de_int) de_int) da_nil) fun h1 => pe_callTy call_int1 rfl T.b_int rfl h1) (dv 1))))))), vc__law_draw⟩
theorem ok__law_pick (T : Txt K mg) : FnG P w K mg base CX0 2 T._law_pick.f T._law_pick.fd ["_law_heap_here", "_law_some"] (spR K sp__law_pick) := by
  have nd := sc__law_pick.nd
  have G__law_draw := ok__law_draw (P := P) (w := w) (base := base) T
  refine fnR T._law_pick.F sc__law_pick ln__law_pick fun cdv A fr s H E room guard a c dx h1 h2 => ?_
  have hu := room.units
  exact ⟨_, r__law_pick a, (dss_one (ds_ret (de_ix_ K (dv 1) (de_callR_ K G__law_draw (room.mono (by decide)) guard rfl T._law_draw.m T._law_draw.F.2 T._law_draw.b h1 h2 (da_cons (dv 0) (da_cons (de_callB_ (cr_len_ K) cd_len (da_cons (dv 1) da_nil) fun h1 => pe_callB (cr_len_ K) rfl T.b_len rfl h1) da_nil)))))), vc__law_pick a⟩
theorem ok__law_lots (T : Txt K mg) : FnG P w K mg base CX0 1 T._law_lots.f T._law_lots.fd ["_law_things"] (spP K sp__law_lots) := by
  have nd := sc__law_lots.nd
  refine fnD T._law_lots.F sc__law_lots ln__law_lots fun cdv A fr s H E room guard dx h1 h2 => ?_
  have hu := room.units
  exact ⟨_, r__law_lots, (dss_cons (ds_set nd rfl (by first | exact .inl rfl | exact .inr rfl) (de_lst (da_cons (de_tup da_nil) da_nil))) (dss_cons (ds_for PassesOwn.never rfl (di_seq_ K (dv 0)) (dg_name nd rfl (by first | exact .inl rfl | exact .inr rfl)) (dss_one (ds_set nd rfl (by first | exact .inl rfl | exact .inr rfl) (de_op (op_addAll_ K) od_add (dv 1) (de_lc (own := [("_law_lot", 3)]) rfl nd (di_seq_ K (dv 1)) (blk_of rfl (by rfl)) (by decide) (fun m s0 H0 C cl fp => (dg_name nd rfl (by first | exact .inl rfl | exact .inr rfl))) (fun m s0 H0 C cl fp => dts_nil) (fun m s0 H0 C cl fp => (de_op (op_addAll_ K) od_add (dv 3) (de_tup (da_cons (dv 2) da_nil))))))))) (dss_one (ds_ret (dv 1))))), vc__law_lots⟩
theorem ok__law_least (T : Txt K mg) : FnG P w K mg base CX0 1 T._law_least.f T._law_least.fd ["_law_lots_here"] (spP K sp__law_least) := by
  have nd := sc__law_least.nd
  refine fnD T._law_least.F sc__law_least ln__law_least fun cdv A fr s H E room guard dx h1 h2 => ?_
  have hu := room.units
  exact ⟨_, r__law_least, (dss_cons (ds_set nd rfl (by first | exact .inl rfl | exact .inr rfl) (de_sortSet_ K P w (dv 0) fun h1 => pe_callB (cr_sortA_ K P w rfl hu) rfl T.b_sorted rfl (pa_cons (pe_callTy (cr_setA_ K P w rfl hu) rfl T.b_set rfl (pa_cons h1 pa_nil)) pa_nil))) (dss_one (ds_ret (de_callTy_ (cr_tuple_ K) cd_tuple_ (da_cons (de_lc (own := [("_law_lot", 2)]) rfl nd (di_seq_ K (dv 1)) (blk_of rfl (by rfl)) (by decide) (fun m s0 H0 C cl fp => (dg_name nd rfl (by first | exact .inl rfl | exact .inr rfl))) (fun m s0 H0 C cl fp => (dts_one (dt_not (dt_tru_ K (de_callB_ (cr_any_ K rfl) cd_any (da_cons (de_lc (own := [("_law_other", 3)]) rfl nd (di_seq_ K (dv 1)) (blk_of rfl (by rfl)) (by decide) (fun m s0 H0 C cl fp => (dg_name nd rfl (by first | exact .inl rfl | exact .inr rfl))) (fun m s0 H0 C cl fp => dts_nil) (fun m s0 H0 C cl fp => (de_and (de_cmp (op_neA_ K hu) od_ne (dv 3) (dv 2) (nomark _)) (de_one (de_callB_ (cr_all_ K rfl) cd_all (da_cons (de_lc (own := [("_law_thing", 4)]) rfl nd (di_seq_ K (dv 3)) (blk_of rfl (by rfl)) (by decide) (fun m s0 H0 C cl fp => (dg_name nd rfl (by first | exact .inl rfl | exact .inr rfl))) (fun m s0 H0 C cl fp => dts_nil) (fun m s0 H0 C cl fp => (de_cmp (op_in_ K) (od_in false) (dv 4) (dv 2) (by first | exact nomark _ | rfl)))) da_nil) fun h1 => pe_callB (cr_all_ K rfl) rfl T.b_all rfl h1))))) da_nil) fun h1 => pe_callB (cr_any_ K rfl) rfl T.b_any rfl h1))))) (fun m s0 H0 C cl fp => (dv 2))) da_nil) fun h1 => pe_callTy (cr_tuple_ K) rfl T.b_tuple rfl h1)))), vc__law_least⟩
theorem ok__law_numbers (T : Txt K mg) : FnG P w K mg base CX0 1 T._law_numbers.f T._law_numbers.fd ["_law_lots_here"] (spP K sp__law_numbers) := by
  have nd := sc__law_numbers.nd
  refine fnD T._law_numbers.F sc__law_numbers ln__law_numbers fun cdv A fr s H E room guard dx h1 h2 => ?_
  have hu := room.units
  exact ⟨_, r__law_numbers, (dss_cons (ds_set nd rfl (by first | exact .inl rfl | exact .inr rfl) (de_lst da_nil)) (dss_cons (ds_for PassesOwn.never rfl (di_seq_ K (dv 0)) (dg_name nd rfl (by first | exact .inl rfl | exact .inr rfl)) (dss_one (ds_set nd rfl (by first | exact .inl rfl | exact .inr rfl) (de_op (op_addAll_ K) od_add (dv 1) (de_callTy_ (cr_list_ K) cd_list_ (da_cons (dv 2) da_nil) fun h1 => pe_callTy (cr_list_ K) rfl T.b_list rfl h1))))) (dss_one (ds_ret (de_callTy_ (cr_tuple_ K) cd_tuple_ (da_cons (de_sortSet_ K P w (dv 1) fun h1 => pe_callB (cr_sortA_ K P w rfl hu) rfl T.b_sorted rfl (pa_cons (pe_callTy (cr_setA_ K P w rfl hu) rfl T.b_set rfl (pa_cons h1 pa_nil)) pa_nil)) da_nil) fun h1 => pe_callTy (cr_tuple_ K) rfl T.b_tuple rfl h1))))), vc__law_numbers⟩
theorem ok__law_blocking (T : Txt K mg) : FnG P w K mg base CX0 2 T._law_blocking.f T._law_blocking.fd ["_law_lots_here"] (spP K sp__law_blocking) := by
  have nd := sc__law_blocking.nd
  have G__law_least := ok__law_least (P := P) (w := w) (base := base) T
  have G__law_lots := ok__law_lots (P := P) (w := w) (base := base) T
  have G__law_numbers := ok__law_numbers (P := P) (w := w) (base := base) T
  refine fnD T._law_blocking.F sc__law_blocking ln__law_blocking fun cdv A fr s H E room guard dx h1 h2 => ?_
  have hu := room.units
  exact ⟨_, r__law_blocking, (dss_one (ds_ret (de_call_ K G__law_least (room.mono (by decide)) guard rfl T._law_least.m T._law_least.F.2 T._law_least.b  (da_cons (de_lc (own := [("_law_lot", 1)]) rfl nd (di_seq_ K (de_call_ K G__law_lots (room.mono (by decide)) guard rfl T._law_lots.m T._law_lots.F.2 T._law_lots.b  (da_cons (de_call_ K G__law_numbers (room.mono (by decide)) guard rfl T._law_numbers.m T._law_numbers.F.2 T._law_numbers.b  (da_cons (dv 0) da_nil)) da_nil))) (blk_of rfl (by rfl)) (by decide) (fun m s0 H0 C cl fp => (dg_name nd rfl (by first | exact .inl rfl | exact .inr rfl))) (fun m s0 H0 C cl fp => (dts_one (dt_tru_ K (de_callB_ (cr_all_ K rfl) cd_all (da_cons (de_lc (own := [("_law_other", 2)]) rfl nd (di_seq_ K (dv 0)) (blk_of rfl (by rfl)) (by decide) (fun m s0 H0 C cl fp => (dg_name nd rfl (by first | exact .inl rfl | exact .inr rfl))) (fun m s0 H0 C cl fp => dts_nil) (fun m s0 H0 C cl fp => (de_callB_ (cr_any_ K rfl) cd_any (da_cons (de_lc (own := [("_law_thing", 3)]) rfl nd (di_seq_ K (dv 2)) (blk_of rfl (by rfl)) (by decide) (fun m s0 H0 C cl fp => (dg_name nd rfl (by first | exact .inl rfl | exact .inr rfl))) (fun m s0 H0 C cl fp => dts_nil) (fun m s0 H0 C cl fp => (de_cmp (op_in_ K) (od_in false) (dv 3) (dv 1) (by first | exact nomark _ | rfl)))) da_nil) fun h1 => pe_callB (cr_any_ K rfl) rfl T.b_any rfl h1))) da_nil) fun h1 => pe_callB (cr_all_ K rfl) rfl T.b_all rfl h1)))) (fun m s0 H0 C cl fp => (dv 1))) da_nil)))), vc__law_blocking⟩
theorem ok__law_drawn (T : Txt K mg) : FnG P w K mg base CX0 3 T._law_drawn.f T._law_drawn.fd ["_law_heap_here", "_law_numbers_here"] (spR K sp__law_drawn) := by
  have nd := sc__law_drawn.nd
  have G__law_draw := ok__law_draw (P := P) (w := w) (base := base) T
  have G__law_pick := ok__law_pick (P := P) (w := w) (base := base) T
  refine fnR T._law_drawn.F sc__law_drawn ln__law_drawn fun cdv A fr s H E room guard a c dx h1 h2 => ?_
  have hu := room.units
  exact ⟨_, r__law_drawn a, (dss_cons (ds_set nd rfl (by first | exact .inl rfl | exact .inr rfl) (de_newR h1 da_nil)) (dss_cons (ds_for PassesOwn.never rfl (di_range1 rfl T.b_range (da_cons (de_callR_ K G__law_pick (room.mono (by decide)) guard rfl T._law_pick.m T._law_pick.F.2 T._law_pick.b h1 h2 (da_cons (dv 0) (da_cons (de_lst (da_cons de_int (da_cons de_int (da_cons de_int (da_cons de_int (da_cons de_int (da_cons de_int (da_cons de_int da_nil)))))))) da_nil))) da_nil)) (dg_name nd rfl (by first | exact .inl rfl | exact .inr rfl)) (dss_cons (ds_set nd rfl (by first | exact .inl rfl | exact .inr rfl) (de_callTy_ (cr_tuple_ K) cd_tuple_ (da_cons (de_lc (own := [("_law_number", 5)]) rfl nd (di_seq_ K (dv 1)) (blk_of rfl (by rfl)) (by decide) (fun m s0 H0 C cl fp => (dg_name nd rfl (by first | exact .inl rfl | exact .inr rfl))) (fun m s0 H0 C cl fp => (dts_one (dt_cmp (op_eqA_ K hu) od_eq (de_callR_ K G__law_draw (room.mono (by decide)) guard rfl T._law_draw.m T._law_draw.F.2 T._law_draw.b h1 h2 (da_cons (dv 0) (da_cons de_int da_nil))) de_int (nomark _)))) (fun m s0 H0 C cl fp => (dv 5))) da_nil) fun h1 => pe_callTy (cr_tuple_ K) rfl T.b_tuple rfl h1)) (dss_one (ds_expr (de_met_ K md_append (dv 2) (da_cons (de_if (DW.dt (dw_and (dt_cmp (op_neA_ K hu) od_ne (dv 2) (de_lst da_nil) (nomark _)) (dw_and1 (dt_cmp (op_eqA_ K hu) od_eq (de_callR_ K G__law_draw (room.mono (by decide)) guard rfl T._law_draw.m T._law_draw.F.2 T._law_draw.b h1 h2 (da_cons (dv 0) (da_cons de_int da_nil))) de_int (nomark _))))) (de_callRL_ K G__law_pick (room.mono (by decide)) guard rfl T._law_pick.m T._law_pick.F.2 T._law_pick.b h1 h2 (da_cons (dv 0) (da_cons (dv 2) da_nil))) (dv 4)) da_nil) fun h1 h2 => pe_bm PySem.F.plainAttrs_list PySem.F.slot_list_append PySem.F.type_list_append mt_append h1 h2))))) (dss_frz 2 (dss_one (ds_ret (de_callTy_ (cr_tuple_ K) cd_tuple_ (da_cons (dv 2) da_nil) fun h1 => pe_callTy (cr_tuple_ K) rfl T.b_tuple rfl h1)))))), vc__law_drawn a⟩
theorem ok__law_longer (T : Txt K mg) : FnG P w K mg base CX0 1 T._law_longer.f T._law_longer.fd ["_law_lots_here", "_law_at"] (spP K sp__law_longer) := by
  have nd := sc__law_longer.nd
  refine fnD T._law_longer.F sc__law_longer ln__law_longer fun cdv A fr s H E room guard dx h1 h2 => ?_
  have hu := room.units
  exact ⟨_, r__law_longer, (dss_one (ds_ret (de_op (op_addAll_ K) od_add (de_lc (own := [("_law_lot", 2)]) rfl nd (di_seq_ K (dv 0)) (blk_of rfl (by rfl)) (by decide) (fun m s0 H0 C cl fp => (dg_name nd rfl (by first | exact .inl rfl | exact .inr rfl))) (fun m s0 H0 C cl fp => dts_nil) (fun m s0 H0 C cl fp => (de_op (op_addAll_ K) od_add (dv 2) (de_tup (da_cons (de_op (op_mulAll_ K) od_mul de_int (dv 1)) da_nil))))) (de_lc (own := [("_law_lot", 2)]) rfl nd (di_seq_ K (dv 0)) (blk_of rfl (by rfl)) (by decide) (fun m s0 H0 C cl fp => (dg_name nd rfl (by first | exact .inl rfl | exact .inr rfl))) (fun m s0 H0 C cl fp => dts_nil) (fun m s0 H0 C cl fp => (de_op (op_addAll_ K) od_add (dv 2) (de_tup (da_cons (de_op (op_addAll_ K) od_add (de_op (op_mulAll_ K) od_mul de_int (dv 1)) de_int) da_nil)))))))), vc__law_longer⟩
theorem ok__law_pairs_right (T : Txt K mg) : FnG P w K mg base CX0 4 T._law_pairs_right.f T._law_pairs_right.fd ["_law_heap_here"] (spR K sp__law_pairs_right) := by
  have nd := sc__law_pairs_right.nd
  have G__law_draw := ok__law_draw (P := P) (w := w) (base := base) T
  have G__law_longer := ok__law_longer (P := P) (w := w) (base := base) T
  have G_least_blockers := ok_least_blockers (P := P) (w := w) (base := base) T
  refine fnR T._law_pairs_right.F sc__law_pairs_right ln__law_pairs_right fun cdv A fr s H E room guard a c dx h1 h2 => ?_
  have hu := room.units
  exact ⟨_, r__law_pairs_right a, (dss_cons (ds_set nd rfl (by first | exact .inl rfl | exact .inr rfl) (de_op (op_addAll_ K) od_add de_int (de_callR_ K G__law_draw (room.mono (by decide)) guard rfl T._law_draw.m T._law_draw.F.2 T._law_draw.b h1 h2 (da_cons (dv 0) (da_cons de_int da_nil))))) (dss_cons (ds_par_ (da_cons (de_callTy_ (cr_tuple_ K) cd_tuple_ (da_cons (de_lc (own := [("_law_at", 2)]) rfl nd (di_range1 rfl T.b_range (da_cons (dv 1) da_nil)) (blk_of rfl (by rfl)) (by decide) (fun m s0 H0 C cl fp => (dg_name nd rfl (by first | exact .inl rfl | exact .inr rfl))) (fun m s0 H0 C cl fp => dts_nil) (fun m s0 H0 C cl fp => (de_tup (da_cons (de_op (op_mulAll_ K) od_mul de_int (dv 2)) (da_cons (de_op (op_addAll_ K) od_add (de_op (op_mulAll_ K) od_mul de_int (dv 2)) de_int) da_nil))))) da_nil) fun h1 => pe_callTy (cr_tuple_ K) rfl T.b_tuple rfl h1) (da_cons (de_lst (da_cons (de_tup da_nil) da_nil)) da_nil)) fun h1 => ps_par (by rfl) nd rfl rfl (by decide) rfl rfl h1 (by rfl)) (dss_cons (ds_for PassesOwn.never rfl (di_range1 rfl T.b_range (da_cons (dv 1) da_nil)) (dg_name nd rfl (by first | exact .inl rfl | exact .inr rfl)) (dss_one (ds_set nd rfl (by first | exact .inl rfl | exact .inr rfl) (de_call_ K G__law_longer (room.mono (by decide)) guard rfl T._law_longer.m T._law_longer.F.2 T._law_longer.b  (da_cons (dv 4) (da_cons (dv 2) da_nil)))))) (dss_one (ds_ret (de_and (de_cmp (op_eqA_ K hu) od_eq (de_call_ K G_least_blockers (room.mono (by decide)) guard rfl T.least_blockers.m T.least_blockers.F.2 T.least_blockers.b  (da_cons (dv 3) da_nil)) (de_callTy_ (cr_tuple_ K) cd_tuple_ (da_cons (de_callB_ (cr_sortG_ K hu) cd_sorted (da_cons (dv 4) da_nil) fun h1 => pe_callB (cr_sortG_ K hu) rfl T.b_sorted rfl h1) da_nil) fun h1 => pe_callTy (cr_tuple_ K) rfl T.b_tuple rfl h1) (nomark _)) (de_one (de_cmp (op_eqA_ K hu) od_eq (de_call_ K G_least_blockers (room.mono (by decide)) guard rfl T.least_blockers.m T.least_blockers.F.2 T.least_blockers.b  (da_cons (de_callTy_ (cr_tuple_ K) cd_tuple_ (da_cons (de_callB_ (cr_sortG_ K hu) cd_sorted (da_cons (dv 4) da_nil) fun h1 => pe_callB (cr_sortG_ K hu) rfl T.b_sorted rfl h1) da_nil) fun h1 => pe_callTy (cr_tuple_ K) rfl T.b_tuple rfl h1) da_nil)) (dv 3) (nomark _))))))))), vc__law_pairs_right a⟩
theorem ok_law (T : Txt K mg) : FnG P w K mg base CX0 5 T.law.f T.law.fd ["_law_script"] (spL K) := by
  have nd := sc_law.nd
  have G__law_blocking := ok__law_blocking (P := P) (w := w) (base := base) T
  have G__law_draw := ok__law_draw (P := P) (w := w) (base := base) T
  have G__law_drawn := ok__law_drawn (P := P) (w := w) (base := base) T
  have G__law_heap := ok__law_heap (P := P) (w := w) (base := base) T
  have G__law_least := ok__law_least (P := P) (w := w) (base := base) T
  have G__law_pairs_right := ok__law_pairs_right (P := P) (w := w) (base := base) T
  have G__law_pick := ok__law_pick (P := P) (w := w) (base := base) T
  have G_least_blockers := ok_least_blockers (P := P) (w := w) (base := base) T
  refine fnLaw T.law.F sc_law rfl rfl fun cdv A fr s H E room guard => ?_
  have hu := room.units
  exact ⟨_, _, fun dx => (de_call_ K G__law_heap (room.mono (by decide)) guard rfl T._law_heap.m T._law_heap.F.2 T._law_heap.b  (da_cons (dv 0) da_nil)), DS.pe (dx := ⟨fun _ => False, H, noHand, noJ⟩) (ds_set nd rfl (by first | exact .inl rfl | exact .inr rfl) (de_call_ K G__law_heap (room.mono (by decide)) guard rfl T._law_heap.m T._law_heap.F.2 T._law_heap.b  (da_cons (dv 0) da_nil))), fun a c dx h1 h2 => ⟨r_law a, (dss_cons (ds_for PassesOwn.never rfl (di_range1 rfl T.b_range (da_cons (de_op (op_addAll_ K) od_add (de_op (op_addAll_ K) od_add de_int (de_callTy_ call_int1 cd_int (da_cons (de_cmp op_gt od_onB (de_callB_ (cr_len_ K) cd_len (da_cons (dv 0) da_nil) fun h1 => pe_callB (cr_len_ K) rfl T.b_len rfl h1) de_int (nomark _)) da_nil) fun h1 => pe_callTy call_int1 rfl T.b_int rfl h1)) (de_callTy_ call_int1 cd_int (da_cons (de_cmp op_gt od_onB (de_callB_ (cr_len_ K) cd_len (da_cons (dv 0) da_nil) fun h1 => pe_callB (cr_len_ K) rfl T.b_len rfl h1) de_int (nomark _)) da_nil) fun h1 => pe_callTy call_int1 rfl T.b_int rfl h1)) da_nil)) (dg_name nd rfl (by first | exact .inl rfl | exact .inr rfl)) (dss_cons (ds_asg_ (de_tup (da_cons (de_callR_ K G__law_pick (room.mono (by decide)) guard rfl T._law_pick.m T._law_pick.F.2 T._law_pick.b h1 h2 (da_cons (dv 1) (da_cons (de_lst (da_cons de_int (da_cons de_int (da_cons de_int (da_cons (de_op op_pow od_onI de_int de_int) da_nil))))) da_nil))) (da_cons (de_callR_ K G__law_pick (room.mono (by decide)) guard rfl T._law_pick.m T._law_pick.F.2 T._law_pick.b h1 h2 (da_cons (dv 1) (da_cons (de_lst (da_cons de_int (da_cons de_int (da_cons de_int da_nil)))) da_nil))) da_nil))) (dg_tup_ K (dgs_cons' (dg_name nd rfl (by first | exact .inl rfl | exact .inr rfl)) (dgs_cons' (dg_name nd rfl (by first | exact .inl rfl | exact .inr rfl)) dgs_nil fun h1 h2 => pgs_cons h1 h2) fun h1 h2 => pgs_cons h1 h2) fun h1 => pg_tup rfl h1) fun h1 h2 => ps_asg h1 h2) (dss_cons (ds_setLc (own := [("_law_at", 9)]) rfl nd rfl rfl (by rfl) (di_range1 rfl T.b_range (da_cons (de_op (op_addAll_ K) od_add de_int (de_callR_ K G__law_draw (room.mono (by decide)) guard rfl T._law_draw.m T._law_draw.F.2 T._law_draw.b h1 h2 (da_cons (dv 1) (da_cons de_int da_nil)))) da_nil)) (blk_of rfl (by rfl)) (by decide) (fun m s0 H0 C cl fp => (dg_name nd rfl (by first | exact .inl rfl | exact .inr rfl))) (fun m s0 H0 C cl fp => dts_nil) (fun m s0 H0 C cl fp => (de_op (op_addAll_ K) od_add (dv 5) (de_op (op_mulAll_ K) od_mul (dv 6) (dv 9))))) (dss_cons (ds_set nd rfl (by first | exact .inl rfl | exact .inr rfl) (de_callR_ K G__law_drawn (room.mono (by decide)) guard rfl T._law_drawn.m T._law_drawn.F.2 T._law_drawn.b h1 h2 (da_cons (dv 1) (da_cons (dv 3) da_nil)))) (dss_cons (ds_par_ (da_cons (de_call_ K G__law_blocking (room.mono (by decide)) guard rfl T._law_blocking.m T._law_blocking.F.2 T._law_blocking.b  (da_cons (dv 4) da_nil)) (da_cons (de_call_ K G_least_blockers (room.mono (by decide)) guard rfl T.least_blockers.m T.least_blockers.F.2 T.least_blockers.b  (da_cons (dv 4) da_nil)) da_nil)) fun h1 => ps_par (by rfl) nd rfl rfl (by decide) rfl rfl h1 (by rfl)) (dss_cons (ds_if (DW.dt (dw_or (dt_cmp (op_neA_ K hu) od_ne (de_callB_ (cr_repr_ K guard hu) cd_repr (da_cons (dv 8) da_nil) fun h1 => pe_callB (cr_repr_ K guard hu) rfl T.b_repr rfl h1) (de_callB_ (cr_repr_ K guard hu) cd_repr (da_cons (dv 7) da_nil) fun h1 => pe_callB (cr_repr_ K guard hu) rfl T.b_repr rfl h1) (nomark _)) (dw_or1 (dt_cmp (op_neA_ K hu) od_ne (de_callK0_ K G_least_blockers (room.mono (by decide)) guard rfl T.least_blockers.m T.least_blockers.F.2 (kb_least_blockers_0_lots T.least_blockers.F) kb_least_blockers_0_lots_ord  (dk_cons (de_revA K (dv 4)) dk_nil)) (dv 7) (nomark _))))) (dss_one (ds_ret de_bl)) dss_nil) (dss_one (ds_if (DW.dt (dw_or (dt_cmp (op_neA_ K hu) od_ne (de_call_ K G_least_blockers (room.mono (by decide)) guard rfl T.least_blockers.m T.least_blockers.F.2 T.least_blockers.b  (da_cons (dv 8) da_nil)) (de_call_ K G__law_least (room.mono (by decide)) guard rfl T._law_least.m T._law_least.F.2 T._law_least.b  (da_cons (dv 4) da_nil)) (nomark _)) (dw_or1 (dt_cmp (op_neA_ K hu) od_ne (de_call_ K G_least_blockers (room.mono (by decide)) guard rfl T.least_blockers.m T.least_blockers.F.2 T.least_blockers.b  (da_cons (de_call_ K G__law_least (room.mono (by decide)) guard rfl T._law_least.m T._law_least.F.2 T._law_least.b  (da_cons (dv 4) da_nil)) da_nil)) (dv 7) (nomark _))))) (dss_one (ds_ret de_bl)) dss_nil)))))))) (dss_cons (ds_if (dt_not (dt_tru_ K (de_callR_ K G__law_pairs_right (room.mono (by decide)) guard rfl T._law_pairs_right.m T._law_pairs_right.F.2 T._law_pairs_right.b h1 h2 (da_cons (dv 1) da_nil)))) (dss_one (ds_ret de_bl)) dss_nil) (dss_cons (ds_if (DW.dt (dw_or (dt_cmp (op_neA_ K hu) od_ne (de_call_ K G_least_blockers (room.mono (by decide)) guard rfl T.least_blockers.m T.least_blockers.F.2 T.least_blockers.b  (da_cons (de_tup da_nil) da_nil)) (de_tup (da_cons (de_tup da_nil) da_nil)) (nomark _)) (dw_or (dt_cmp (op_neA_ K hu) od_ne (de_call_ K G_least_blockers (room.mono (by decide)) guard rfl T.least_blockers.m T.least_blockers.F.2 T.least_blockers.b  (da_cons (de_tup (da_cons (de_tup da_nil) da_nil)) da_nil)) (de_tup da_nil) (nomark _)) (dw_or (dt_cmp (op_neA_ K hu) od_ne (de_call_ K G_least_blockers (room.mono (by decide)) guard rfl T.least_blockers.m T.least_blockers.F.2 T.least_blockers.b  (da_cons (de_tup (da_cons (de_tup (da_cons de_int da_nil)) (da_cons (de_tup da_nil) da_nil))) da_nil)) (de_tup da_nil) (nomark _)) (dw_or1 (dt_cmp (op_neA_ K hu) od_ne (de_call_ K G_least_blockers (room.mono (by decide)) guard rfl T.least_blockers.m T.least_blockers.F.2 T.least_blockers.b  (da_cons (de_tup (da_cons (de_tup (da_cons de_int (da_cons de_int da_nil))) da_nil)) da_nil)) (de_tup (da_cons (de_tup (da_cons de_int da_nil)) (da_cons (de_tup (da_cons de_int da_nil)) da_nil))) (nomark _))))))) (dss_one (ds_ret de_bl)) dss_nil) (dss_one (ds_ret (de_and (de_cmp (op_eqA_ K hu) od_eq (de_call_ K G_least_blockers (room.mono (by decide)) guard rfl T.least_blockers.m T.least_blockers.F.2 T.least_blockers.b  (da_cons (de_tup (da_cons (de_tup (da_cons de_int (da_cons de_int da_nil))) (da_cons (de_tup (da_cons de_int (da_cons de_int da_nil))) (da_cons (de_tup (da_cons de_int (da_cons de_int da_nil))) da_nil)))) da_nil)) (de_tup (da_cons (de_tup (da_cons de_int (da_cons de_int da_nil))) (da_cons (de_tup (da_cons de_int (da_cons de_int da_nil))) (da_cons (de_tup (da_cons de_int (da_cons de_int da_nil))) da_nil)))) (nomark _)) (de_one (de_cmp (op_eqA_ K hu) od_eq (de_call_ K G_least_blockers (room.mono (by decide)) guard rfl T.least_blockers.m T.least_blockers.F.2 T.least_blockers.b  (da_cons (de_tup (da_cons (de_tup (da_cons de_int (da_cons de_int da_nil))) (da_cons (de_tup (da_cons de_int da_nil)) (da_cons (de_tup (da_cons de_int (da_cons de_int da_nil))) da_nil)))) da_nil)) (de_tup (da_cons (de_tup (da_cons de_int da_nil)) da_nil)) (nomark _))))))))), vc_law a⟩⟩
end
end K8
end DL
namespace DL
open PySem PySem.Spec L2 Gd
namespace K8
theorem spL_hsp : ∀ (K : PySem.W.Frag) (H : Hp) (a : Addr) (ns : List Int), ns.length ≤ 63 → (∀ b u, H b = some u → ∃ o, u = .frz o (.lst (ns.map V.int))) → SqL K H a (ns.map V.int) → spL K [.ref a] H (fun v _ => v = .bl true) fun _ _ _ => False :=
  fun K H a ns hl only hS => ⟨a, ns, rfl, hl, only, hS, fun _ => rfl⟩
theorem all_mk {l : PySem.W.OpenLaw} {w : World} {K : PySem.W.Frag} {h : Heap} {mg : Str → Option Value} {fa f0 f1 f2 f3 f4 f5 f6 f7 f8 f9 f10 f11 f12 f13 f14 f15 : Addr} (X : K.In h) (G : h.Ns mainGlobals mg) (hfa : mg "law" = some (.ref fa))
    {od0 an0 : Option Addr} {sl0 : Array (Option Value)} {oc0 kV0 dc0 pm0 cd0 ct0 : Value}
    (a0 : PySem.W.nsIn K mainGlobals "least_masks" = some (some (.ref f0))) (l0 : K.lookup f0 = some ⟨oc0, od0, .func (PySem.W.fnOf "least_masks" "least_masks" (defArgs s_least_masks) (defBody s_least_masks) (defScope s_least_masks) .none kV0 dc0 pm0 an0 cd0 ct0), sl0⟩) (c0 : PySem.W.codeIn K cd0 "least_masks" = true) (k0 : PySem.W.keepIn K (.ref f0) = true)
    {od1 an1 : Option Addr} {sl1 : Array (Option Value)} {oc1 kV1 dc1 pm1 cd1 ct1 : Value}
    (a1 : PySem.W.nsIn K mainGlobals "bits_in" = some (some (.ref f1))) (l1 : K.lookup f1 = some ⟨oc1, od1, .func (PySem.W.fnOf "bits_in" "bits_in" (defArgs s_bits_in) (defBody s_bits_in) (defScope s_bits_in) .none kV1 dc1 pm1 an1 cd1 ct1), sl1⟩) (c1 : PySem.W.codeIn K cd1 "bits_in" = true) (k1 : PySem.W.keepIn K (.ref f1) = true)
    {od2 an2 : Option Addr} {sl2 : Array (Option Value)} {oc2 kV2 dc2 pm2 cd2 ct2 : Value}
    (a2 : PySem.W.nsIn K mainGlobals "is_least_blocker" = some (some (.ref f2))) (l2 : K.lookup f2 = some ⟨oc2, od2, .func (PySem.W.fnOf "is_least_blocker" "is_least_blocker" (defArgs s_is_least_blocker) (defBody s_is_least_blocker) (defScope s_is_least_blocker) .none kV2 dc2 pm2 an2 cd2 ct2), sl2⟩) (c2 : PySem.W.codeIn K cd2 "is_least_blocker" = true) (k2 : PySem.W.keepIn K (.ref f2) = true)
    {od3 an3 : Option Addr} {sl3 : Array (Option Value)} {oc3 kV3 dc3 pm3 cd3 ct3 : Value}
    (a3 : PySem.W.nsIn K mainGlobals "least_blocking" = some (some (.ref f3))) (l3 : K.lookup f3 = some ⟨oc3, od3, .func (PySem.W.fnOf "least_blocking" "least_blocking" (defArgs s_least_blocking) (defBody s_least_blocking) (defScope s_least_blocking) .none kV3 dc3 pm3 an3 cd3 ct3), sl3⟩) (c3 : PySem.W.codeIn K cd3 "least_blocking" = true) (k3 : PySem.W.keepIn K (.ref f3) = true)
    {od4 an4 : Option Addr} {sl4 : Array (Option Value)} {oc4 kV4 dc4 pm4 cd4 ct4 : Value}
    (a4 : PySem.W.nsIn K mainGlobals "least_blockers" = some (some (.ref f4))) (l4 : K.lookup f4 = some ⟨oc4, od4, .func (PySem.W.fnOf "least_blockers" "least_blockers" (defArgs s_least_blockers) (defBody s_least_blockers) (defScope s_least_blockers) .none kV4 dc4 pm4 an4 cd4 ct4), sl4⟩) (c4 : PySem.W.codeIn K cd4 "least_blockers" = true) (k4 : PySem.W.keepIn K (.ref f4) = true)
    {od5 an5 : Option Addr} {sl5 : Array (Option Value)} {oc5 kV5 dc5 pm5 cd5 ct5 : Value}
    (a5 : PySem.W.nsIn K mainGlobals "_law_heap" = some (some (.ref f5))) (l5 : K.lookup f5 = some ⟨oc5, od5, .func (PySem.W.fnOf "_law_heap" "_law_heap" (defArgs s__law_heap) (defBody s__law_heap) (defScope s__law_heap) .none kV5 dc5 pm5 an5 cd5 ct5), sl5⟩) (c5 : PySem.W.codeIn K cd5 "_law_heap" = true) (k5 : PySem.W.keepIn K (.ref f5) = true)
    {od6 an6 : Option Addr} {sl6 : Array (Option Value)} {oc6 kV6 dc6 pm6 cd6 ct6 : Value}
    (a6 : PySem.W.nsIn K mainGlobals "_law_draw" = some (some (.ref f6))) (l6 : K.lookup f6 = some ⟨oc6, od6, .func (PySem.W.fnOf "_law_draw" "_law_draw" (defArgs s__law_draw) (defBody s__law_draw) (defScope s__law_draw) .none kV6 dc6 pm6 an6 cd6 ct6), sl6⟩) (c6 : PySem.W.codeIn K cd6 "_law_draw" = true) (k6 : PySem.W.keepIn K (.ref f6) = true)
    {od7 an7 : Option Addr} {sl7 : Array (Option Value)} {oc7 kV7 dc7 pm7 cd7 ct7 : Value}
    (a7 : PySem.W.nsIn K mainGlobals "_law_pick" = some (some (.ref f7))) (l7 : K.lookup f7 = some ⟨oc7, od7, .func (PySem.W.fnOf "_law_pick" "_law_pick" (defArgs s__law_pick) (defBody s__law_pick) (defScope s__law_pick) .none kV7 dc7 pm7 an7 cd7 ct7), sl7⟩) (c7 : PySem.W.codeIn K cd7 "_law_pick" = true) (k7 : PySem.W.keepIn K (.ref f7) = true)
    {od8 an8 : Option Addr} {sl8 : Array (Option Value)} {oc8 kV8 dc8 pm8 cd8 ct8 : Value}
    (a8 : PySem.W.nsIn K mainGlobals "_law_lots" = some (some (.ref f8))) (l8 : K.lookup f8 = some ⟨oc8, od8, .func (PySem.W.fnOf "_law_lots" "_law_lots" (defArgs s__law_lots) (defBody s__law_lots) (defScope s__law_lots) .none kV8 dc8 pm8 an8 cd8 ct8), sl8⟩) (c8 : PySem.W.codeIn K cd8 "_law_lots" = true) (k8 : PySem.W.keepIn K (.ref f8) = true)
    {od9 an9 : Option Addr} {sl9 : Array (Option Value)} {oc9 kV9 dc9 pm9 cd9 ct9 : Value}
    (a9 : PySem.W.nsIn K mainGlobals "_law_least" = some (some (.ref f9))) (l9 : K.lookup f9 = some ⟨oc9, od9, .func (PySem.W.fnOf "_law_least" "_law_least" (defArgs s__law_least) (defBody s__law_least) (defScope s__law_least) .none kV9 dc9 pm9 an9 cd9 ct9), sl9⟩) (c9 : PySem.W.codeIn K cd9 "_law_least" = true) (k9 : PySem.W.keepIn K (.ref f9) = true)
    {od10 an10 : Option Addr} {sl10 : Array (Option Value)} {oc10 kV10 dc10 pm10 cd10 ct10 : Value}
    (a10 : PySem.W.nsIn K mainGlobals "_law_numbers" = some (some (.ref f10))) (l10 : K.lookup f10 = some ⟨oc10, od10, .func (PySem.W.fnOf "_law_numbers" "_law_numbers" (defArgs s__law_numbers) (defBody s__law_numbers) (defScope s__law_numbers) .none kV10 dc10 pm10 an10 cd10 ct10), sl10⟩) (c10 : PySem.W.codeIn K cd10 "_law_numbers" = true) (k10 : PySem.W.keepIn K (.ref f10) = true)
    {od11 an11 : Option Addr} {sl11 : Array (Option Value)} {oc11 kV11 dc11 pm11 cd11 ct11 : Value}
    (a11 : PySem.W.nsIn K mainGlobals "_law_blocking" = some (some (.ref f11))) (l11 : K.lookup f11 = some ⟨oc11, od11, .func (PySem.W.fnOf "_law_blocking" "_law_blocking" (defArgs s__law_blocking) (defBody s__law_blocking) (defScope s__law_blocking) .none kV11 dc11 pm11 an11 cd11 ct11), sl11⟩) (c11 : PySem.W.codeIn K cd11 "_law_blocking" = true) (k11 : PySem.W.keepIn K (.ref f11) = true)
    {od12 an12 : Option Addr} {sl12 : Array (Option Value)} {oc12 kV12 dc12 pm12 cd12 ct12 : Value}
    (a12 : PySem.W.nsIn K mainGlobals "_law_drawn" = some (some (.ref f12))) (l12 : K.lookup f12 = some ⟨oc12, od12, .func (PySem.W.fnOf "_law_drawn" "_law_drawn" (defArgs s__law_drawn) (defBody s__law_drawn) (defScope s__law_drawn) .none kV12 dc12 pm12 an12 cd12 ct12), sl12⟩) (c12 : PySem.W.codeIn K cd12 "_law_drawn" = true) (k12 : PySem.W.keepIn K (.ref f12) = true)
    {od13 an13 : Option Addr} {sl13 : Array (Option Value)} {oc13 kV13 dc13 pm13 cd13 ct13 : Value}
    (a13 : PySem.W.nsIn K mainGlobals "_law_longer" = some (some (.ref f13))) (l13 : K.lookup f13 = some ⟨oc13, od13, .func (PySem.W.fnOf "_law_longer" "_law_longer" (defArgs s__law_longer) (defBody s__law_longer) (defScope s__law_longer) .none kV13 dc13 pm13 an13 cd13 ct13), sl13⟩) (c13 : PySem.W.codeIn K cd13 "_law_longer" = true) (k13 : PySem.W.keepIn K (.ref f13) = true)
    {od14 an14 : Option Addr} {sl14 : Array (Option Value)} {oc14 kV14 dc14 pm14 cd14 ct14 : Value}
    (a14 : PySem.W.nsIn K mainGlobals "_law_pairs_right" = some (some (.ref f14))) (l14 : K.lookup f14 = some ⟨oc14, od14, .func (PySem.W.fnOf "_law_pairs_right" "_law_pairs_right" (defArgs s__law_pairs_right) (defBody s__law_pairs_right) (defScope s__law_pairs_right) .none kV14 dc14 pm14 an14 cd14 ct14), sl14⟩) (c14 : PySem.W.codeIn K cd14 "_law_pairs_right" = true) (k14 : PySem.W.keepIn K (.ref f14) = true)
    {od15 an15 : Option Addr} {sl15 : Array (Option Value)} {oc15 kV15 dc15 pm15 cd15 ct15 : Value}
    (a15 : PySem.W.nsIn K mainGlobals "law" = some (some (.ref f15))) (l15 : K.lookup f15 = some ⟨oc15, od15, .func (PySem.W.fnOf "law" "law" (defArgs s_law) (defBody s_law) (defScope s_law) .none kV15 dc15 pm15 an15 cd15 ct15), sl15⟩) (c15 : PySem.W.codeIn K cd15 "law" = true) (k15 : PySem.W.keepIn K (.ref f15) = true)
    (z_abs : PySem.W.nsIn K mainGlobals "abs" = some none)
    (z_all : PySem.W.nsIn K mainGlobals "all" = some none)
    (z_any : PySem.W.nsIn K mainGlobals "any" = some none)
    (z_enumerate : PySem.W.nsIn K mainGlobals "enumerate" = some none)
    (z_int : PySem.W.nsIn K mainGlobals "int" = some none)
    (z_len : PySem.W.nsIn K mainGlobals "len" = some none)
    (z_list : PySem.W.nsIn K mainGlobals "list" = some none)
    (z_range : PySem.W.nsIn K mainGlobals "range" = some none)
    (z_repr : PySem.W.nsIn K mainGlobals "repr" = some none)
    (z_set : PySem.W.nsIn K mainGlobals "set" = some none)
    (z_sorted : PySem.W.nsIn K mainGlobals "sorted" = some none)
    (z_sum : PySem.W.nsIn K mainGlobals "sum" = some none)
    (z_tuple : PySem.W.nsIn K mainGlobals "tuple" = some none)
    : ∃ fd : FuncData, (∀ (s : Shared) (v : Value), BindsTo s fd ⟨[v], []⟩ [("_law_script", v)]) ∧ ∀ base : Heap, K.In base → base.Ns mainGlobals mg → FnG l.prog w K mg base CX0 5 fa fd ["_law_script"] (spL K) := by
  have e := hfa.symm.trans (PySem.W.mg_of X G a15)
  cases e
  have F0 := fun_mk (st := s_least_masks) l0 c0 k0
  have b0 := F0.binds (ps := ["masks"]) fun _ _ _ _ _ _ us hl => match us, hl with | [_], _ => rfl
  have F1 := fun_mk (st := s_bits_in) l1 c1 k1
  have b1 := F1.binds (ps := ["mask"]) fun _ _ _ _ _ _ us hl => match us, hl with | [_], _ => rfl
  have F2 := fun_mk (st := s_is_least_blocker) l2 c2 k2
  have b2 := F2.binds (ps := ["masks", "blocker"]) fun _ _ _ _ _ _ us hl => match us, hl with | [_, _], _ => rfl
  have F3 := fun_mk (st := s_least_blocking) l3 c3 k3
  have b3 := F3.binds (ps := ["masks"]) fun _ _ _ _ _ _ us hl => match us, hl with | [_], _ => rfl
  have F4 := fun_mk (st := s_least_blockers) l4 c4 k4
  have b4 := F4.binds (ps := ["lots"]) fun _ _ _ _ _ _ us hl => match us, hl with | [_], _ => rfl
  have F5 := fun_mk (st := s__law_heap) l5 c5 k5
  have b5 := F5.binds (ps := ["_law_script"]) fun _ _ _ _ _ _ us hl => match us, hl with | [_], _ => rfl
  have F6 := fun_mk (st := s__law_draw) l6 c6 k6
  have b6 := F6.binds (ps := ["_law_heap_here", "_law_many"]) fun _ _ _ _ _ _ us hl => match us, hl with | [_, _], _ => rfl
  have F7 := fun_mk (st := s__law_pick) l7 c7 k7
  have b7 := F7.binds (ps := ["_law_heap_here", "_law_some"]) fun _ _ _ _ _ _ us hl => match us, hl with | [_, _], _ => rfl
  have F8 := fun_mk (st := s__law_lots) l8 c8 k8
  have b8 := F8.binds (ps := ["_law_things"]) fun _ _ _ _ _ _ us hl => match us, hl with | [_], _ => rfl
  have F9 := fun_mk (st := s__law_least) l9 c9 k9
  have b9 := F9.binds (ps := ["_law_lots_here"]) fun _ _ _ _ _ _ us hl => match us, hl with | [_], _ => rfl
  have F10 := fun_mk (st := s__law_numbers) l10 c10 k10
  have b10 := F10.binds (ps := ["_law_lots_here"]) fun _ _ _ _ _ _ us hl => match us, hl with | [_], _ => rfl
  have F11 := fun_mk (st := s__law_blocking) l11 c11 k11
  have b11 := F11.binds (ps := ["_law_lots_here"]) fun _ _ _ _ _ _ us hl => match us, hl with | [_], _ => rfl
  have F12 := fun_mk (st := s__law_drawn) l12 c12 k12
  have b12 := F12.binds (ps := ["_law_heap_here", "_law_numbers_here"]) fun _ _ _ _ _ _ us hl => match us, hl with | [_, _], _ => rfl
  have F13 := fun_mk (st := s__law_longer) l13 c13 k13
  have b13 := F13.binds (ps := ["_law_lots_here", "_law_at"]) fun _ _ _ _ _ _ us hl => match us, hl with | [_, _], _ => rfl
  have F14 := fun_mk (st := s__law_pairs_right) l14 c14 k14
  have b14 := F14.binds (ps := ["_law_heap_here"]) fun _ _ _ _ _ _ us hl => match us, hl with | [_], _ => rfl
  have F15 := fun_mk (st := s_law) l15 c15 k15
  have b15 := F15.binds (ps := ["_law_script"]) fun _ _ _ _ _ _ us hl => match us, hl with | [_], _ => rfl
  exact ⟨_, fun s v => .of_eq rfl, fun base _ _ => ok_law (P := l.prog) (w := w) (base := base) (⟨⟨f0, _, PySem.W.mg_of X G a0, F0, b0⟩, ⟨f1, _, PySem.W.mg_of X G a1, F1, b1⟩, ⟨f2, _, PySem.W.mg_of X G a2, F2, b2⟩, ⟨f3, _, PySem.W.mg_of X G a3, F3, b3⟩, ⟨f4, _, PySem.W.mg_of X G a4, F4, b4⟩, ⟨f5, _, PySem.W.mg_of X G a5, F5, b5⟩, ⟨f6, _, PySem.W.mg_of X G a6, F6, b6⟩, ⟨f7, _, PySem.W.mg_of X G a7, F7, b7⟩, ⟨f8, _, PySem.W.mg_of X G a8, F8, b8⟩, ⟨f9, _, PySem.W.mg_of X G a9, F9, b9⟩, ⟨f10, _, PySem.W.mg_of X G a10, F10, b10⟩, ⟨f11, _, PySem.W.mg_of X G a11, F11, b11⟩, ⟨f12, _, PySem.W.mg_of X G a12, F12, b12⟩, ⟨f13, _, PySem.W.mg_of X G a13, F13, b13⟩, ⟨f14, _, PySem.W.mg_of X G a14, F14, b14⟩, ⟨fa, _, PySem.W.mg_of X G a15, F15, b15⟩, PySem.W.mg_none_of X G z_abs, PySem.W.mg_none_of X G z_all, PySem.W.mg_none_of X G z_any, PySem.W.mg_none_of X G z_enumerate, PySem.W.mg_none_of X G z_int, PySem.W.mg_none_of X G z_len, PySem.W.mg_none_of X G z_list, PySem.W.mg_none_of X G z_range, PySem.W.mg_none_of X G z_repr, PySem.W.mg_none_of X G z_set, PySem.W.mg_none_of X G z_sorted, PySem.W.mg_none_of X G z_sum, PySem.W.mg_none_of X G z_tuple⟩ : Txt K mg)⟩
end K8
end DL
open PySem PySem.W PyProof.Rows in
set_option maxRecDepth 100000 in
set_option maxHeartbeats 0 in
theorem PySem.Challenge.cw_allworlds_k48_whole_least_blockers_holds : PySem.Challenge.rw_allworlds_k48_whole_least_blockers.Holds := by
  w_on; o_law; k_head; (case hw => w_witness2)
  k_fill
  refine DL.walkG (l := PySem.Challenge.rw_allworlds_k48_whole_least_blockers) (n := 63) (k := 5) (x := "_law_script") (sp := DL.spL) rfl (by decide) rfl ⟨rfl, by decide, by decide⟩ (fun w h Y => by first | exact PySem.W.kIn_of Y | exact PySem.W.km_in_of Y) ?F DL.K8.spL_hsp
  case F =>
    intro w mg fa h KX G hmg
    refine' DL.K8.all_mk KX G hmg ?a0 ?l0 ?c0 ?k0 ?a1 ?l1 ?c1 ?k1 ?a2 ?l2 ?c2 ?k2 ?a3 ?l3 ?c3 ?k3 ?a4 ?l4 ?c4 ?k4 ?a5 ?l5 ?c5 ?k5 ?a6 ?l6 ?c6 ?k6 ?a7 ?l7 ?c7 ?k7 ?a8 ?l8 ?c8 ?k8 ?a9 ?l9 ?c9 ?k9 ?a10 ?l10 ?c10 ?k10 ?a11 ?l11 ?c11 ?k11 ?a12 ?l12 ?c12 ?k12 ?a13 ?l13 ?c13 ?k13 ?a14 ?l14 ?c14 ?k14 ?a15 ?l15 ?c15 ?k15 ?z_abs ?z_all ?z_any ?z_enumerate ?z_int ?z_len ?z_list ?z_range ?z_repr ?z_set ?z_sorted ?z_sum ?z_tuple
    (case a0 => k_is)
    (case l0 => k_is)
    (case c0 => k_is)
    (case k0 => k_is)
    (case a1 => k_is)
    (case l1 => k_is)
    (case c1 => k_is)
    (case k1 => k_is)
    (case a2 => k_is)
    (case l2 => k_is)
    (case c2 => k_is)
    (case k2 => k_is)
    (case a3 => k_is)
    (case l3 => k_is)
    (case c3 => k_is)
    (case k3 => k_is)
    (case a4 => k_is)
    (case l4 => k_is)
    (case c4 => k_is)
    (case k4 => k_is)
    (case a5 => k_is)
    (case l5 => k_is)
    (case c5 => k_is)
    (case k5 => k_is)
    (case a6 => k_is)
    (case l6 => k_is)
    (case c6 => k_is)
    (case k6 => k_is)
    (case a7 => k_is)
    (case l7 => k_is)
    (case c7 => k_is)
    (case k7 => k_is)
    (case a8 => k_is)
    (case l8 => k_is)
    (case c8 => k_is)
    (case k8 => k_is)
    (case a9 => k_is)
    (case l9 => k_is)
    (case c9 => k_is)
    (case k9 => k_is)
    (case a10 => k_is)
    (case l10 => k_is)
    (case c10 => k_is)
    (case k10 => k_is)
    (case a11 => k_is)
    (case l11 => k_is)
    (case c11 => k_is)
    (case k11 => k_is)
    (case a12 => k_is)
    (case l12 => k_is)
    (case c12 => k_is)
    (case k12 => k_is)
    (case a13 => k_is)
    (case l13 => k_is)
    (case c13 => k_is)
    (case k13 => k_is)
    (case a14 => k_is)
    (case l14 => k_is)
    (case c14 => k_is)
    (case k14 => k_is)
    (case a15 => k_is)
    (case l15 => k_is)
    (case c15 => k_is)
    (case k15 => k_is)
    (case z_abs => k_is)
    (case z_all => k_is)
    (case z_any => k_is)
    (case z_enumerate => k_is)
    (case z_int => k_is)
    (case z_len => k_is)
    (case z_list => k_is)
    (case z_range => k_is)
    (case z_repr => k_is)
    (case z_set => k_is)
    (case z_sorted => k_is)
    (case z_sum => k_is)
    (case z_tuple => k_is)
