import PyProof.Rows.All
import Wide.All
import OpenK.AllK
import Wide.FinOn
import HandS.ForMost
import HandS.ForExc
import HandS.IsInst
import HandS.TupMul
import HandS.TupAny
import HandS.Zip
import HandS.Rev
import HandS.RevRange
import HandS.Wide
import HandS.Style
import HandS.RaiseMore
import PyProof.ReprRoads
import HandS.Walk
import PyProof.StrLawsRepr
import PyProof.Rows.RegStrFacts
import KE.GoesMore
import PySem.Challenge.RW_allworlds_k02_whole_fillings
set_option Elab.async false
set_option linter.all false
set_option maxRecDepth 100000
/-! Promises that are kept where no display of a container is under way (needed for repr of lists and tuples). -/
namespace Gd
open PySem PySem.Spec PyProof.Rows L2

structure FnG (P : Program) (w : World) (K : PySem.W.Frag) (mg : Str → Option Value) (base : Heap)
    (CX : CXT) (k : Nat) (f : Addr) (fd : FuncData) (ps : List Str) (sp : Sp) : Prop where
  many : ∀ vs H Q E, sp vs H Q E → vs.length = ps.length
  goes : ∀ (A : Around) (fr : List Env) (s : Shared) (H : Hp) (args : Args) (us : List Value) (vs : List V)
      (Q : VK) (E : XK), Room k A → A.guards = some [] → Env0 P w K mg base A fr s H →
      BindsTo s fd args (ps.zip us) → Vals vs us → sp vs H Q E →
      codeAny (model P w) A (.call (.ref f) args) (CR CX fr P w H s Q E) s

section
variable {P : Program} {w : World} {K : PySem.W.Frag} {mg : Str → Option Value} {base : Heap} {CX : CXT}

theorem FnG.up {j k : Nat} {f : Addr} {fd : FuncData} {ps : List Str} {sp : Sp}
    (F : FnG P w K mg base CX j f fd ps sp) (le : j ≤ k) : FnG P w K mg base CX k f fd ps sp where
  many := F.many
  goes := fun A fr s H args us vs Q E r => F.goes A fr s H args us vs Q E (r.mono le)

theorem FnG.weaker {k : Nat} {f : Addr} {fd : FuncData} {ps : List Str} {sp sq : Sp}
    (F : FnG P w K mg base CX k f fd ps sp) (le : ∀ vs H Q E, sq vs H Q E → sp vs H Q E) :
    FnG P w K mg base CX k f fd ps sq where
  many := fun vs H Q E q => F.many vs H Q E (le _ _ _ _ q)
  goes := fun A fr s H args us vs Q E r g e b v q => F.goes A fr s H args us vs Q E r g e b v (le _ _ _ _ q)

/-- a def by its body -/
theorem fnG_body {k : Nat} {x qual : Str} {st : Stmt} {f : Addr} {fd : FuncData} {N ps : List Str} {sp : Sp}
    (F : Fun K x qual st f fd) (S : FnScope N ps (defScope st))
    (many : ∀ vs H Q E, sp vs H Q E → vs.length = ps.length)
    (body : ∀ (cdv : Value) (A : Around) (fr : List Env) (s : Shared) (H : Hp) (vs : List V) (Q : VK) (E : XK),
      Room k (A.deeper (envOfC qual (defScope st) s.heap.objs.size f cdv)) → A.guards = some [] → sp vs H Q E →
      ∃ t, PSs (cxOf CX P w K mg base N qual (defScope st) f cdv A fr s H E) (defBody st) t ∧
        t { nx := fun _ H' => Q .non H', rt := Q } (start N vs) H) :
    FnG P w K mg base CX (k + 1) f fd ps sp := by
  obtain ⟨oc, od, kV, doc, pm, an, cdv, ct, osl, rfl, found, code⟩ := F.ex
  constructor
  · exact many
  intro A fr s H args us vs Q E room guard env bind rel want
  have n1 : vs.length = ps.length := many vs H Q E want
  have kin : K.In s.heap := env.mod.kin.keeps (fun b o h => (env.bs b o h).1)
  have calm : s.heap.NoLimit := env.mod.nolimit.keeps (fun b o h => (env.bs b o h).1)
  apply codeAny_call_function room.depth (kin f _ found) rfl S.co S.gen rfl (PySem.W.codeRec_of kin code)
  apply bind
  apply wpAny_newFunctionEnv_cells S.kind
  · rintro ⟨n, v⟩ hm
    cases S.par n (List.of_mem_zip hm).1 with
    | inl q => exact Or.inl q
    | inr q => exact Or.inr ⟨q, PySem.W.cellsFrom_some _ _ _ (Or.inl q)⟩
  intro e1 he s1 into
  subst he
  constructor
  · exact calm.keeps into.toInCall.keep
  apply codeAny_func
  obtain ⟨t, ht, go⟩ := body cdv A fr s H vs Q E (room.deeper _) guard want
  have I0 := inv_start (CX := CX) (P := P) (mg := mg) (E := E) S room.hd env n1 rel into
  apply wpAny_mono (ht.run [] s1 (start N vs) H _ I0 go)
  · intro fl s2 h2
    cases fl with
    | next =>
      obtain ⟨σ2, H2, J, q⟩ := h2
      exact ⟨.non, H2, J.os, J.bare, J.base, J.hok, rfl, q⟩
    | ret u =>
      obtain ⟨v, σ2, H2, J, r2, q⟩ := h2
      exact ⟨v, H2, J.os, J.bare, J.base, J.hok, r2, q⟩
    | brk =>
      obtain ⟨_, _, _, no⟩ := h2
      exact no.elim
    | cont =>
      obtain ⟨_, _, _, no⟩ := h2
      exact no.elim
  · intro e2 s2 h2
    exact h2
end

section
variable {X : Cx} {CX : CXT} {k : Nat} {f : Addr} {fd : FuncData} {ps ks : List Str} {sp : Sp} {E : XK} {x : Str}
  {p pos : Pos} {e : Expr} {es : List Expr} {kws : List Keyword} {ta tk : TA} {dvs : List V} {ds : List Value}

def Fin (X : Cx) (pins : List (Addr × Obj)) (σ : L2.St) (Q : VK) (r : Result) (s' : Shared) : Prop :=
  match r with
  | .ok (.ret u) => EP X pins σ Q u s'
  | .ok _ => False
  | .error err => X.xe err s'
theorem back {pins : List (Addr × Obj)} {σ : L2.St} {H : Hp} {s : Shared} {Q : VK} {r : Result} {s' : Shared}
    (I : Inv X pins σ H s) (out : Passes CX X E) (h : CR CX X.stack X.prog X.w H s Q E r s') :
    Fin X pins σ Q r s' := by
  cases r with
  | error err => exact out pins σ H s err s' I h
  | ok fl =>
    cases fl with
    | ret u => exact I.after h
    | next => exact h
    | brk => exact h
    | cont => exact h

theorem runG {pins : List (Addr × Obj)} {σ : L2.St} {H : Hp} {s : Shared} {Q : VK} {args : Args} {us : List Value} {vs : List V}
    (F : FnG X.prog X.w X.K X.mg X.base CX k f fd ps sp) (room : Room k X.A) (guard : X.A.guards = some [])
    (out : Passes CX X E) (I : Inv X pins σ H s) (bind : BindsTo s fd args (ps.zip us)) (rel : Vals vs us)
    (want : sp vs H Q E) :
    codeAny (model X.prog X.w) X.A (.call (.ref f) args) (Fin X pins σ Q) s :=
  codeAny_mono (F.goes X.A X.stack s H args us vs Q E room guard I.env0 bind rel want)
    fun r s' h => back I out h

/-- f(a, ..) -/
theorem pe_callG (F : FnG X.prog X.w X.K X.mg X.base CX k f fd ps sp) (room : Room k X.A) (guard : X.A.guards = some [])
    (hg : Gl X x) (hm : X.mg x = some (.ref f)) (kp : PySem.W.keepIn X.K (.ref f) = true) (hb : Binds X.K fd ps ds)
    (hd : Vals dvs ds) (out : Passes CX X E) (ha : PA X (e :: es) ta)
    (hdb : (x == ("__debug__" : Str)) = false := by decide)
    (he : starEach (e :: es) X.env = (false, eval e X.env) :: starEach es X.env := by rfl)
    (hpl : (backTo pos (starEach es X.env)).any (·.1) = false := by rfl) :
    PE X (.Call (.Name x p) (e :: es) [] pos) (tCall sp dvs E ta) := by
  constructor
  intro pins s σ H Q I want
  apply wpAny_Call_Name_kw
  apply ld_glob I hg hm _ hdb
  apply PySem.W.callWith_K (h₀ := X.base) I.ok.mod.kin kp _ he hpl
  apply thn (ha.run pos pins s σ H _ I want)
  rintro us s1 ⟨vs, H1, I1, r1, q1⟩
  refine ⟨I1.kIn, ?_⟩
  have r2 : Vals (vs ++ dvs) (us ++ ds) := r1.append hd
  have n2 : (us ++ ds).length = ps.length := r2.length.symm.trans (F.many _ _ _ _ q1)
  apply wpAny_call
  exact codeAny_mono (runG F room guard out I1 (hb s1 us I1.kIn n2) r2 q1)
    (fun r s' h => by cases r with | error _ => exact h | ok fl => cases fl <;> exact h)

/-- f() -/
theorem pe_callG0 (F : FnG X.prog X.w X.K X.mg X.base CX k f fd ps sp) (room : Room k X.A) (guard : X.A.guards = some [])
    (hg : Gl X x) (hm : X.mg x = some (.ref f)) (kp : PySem.W.keepIn X.K (.ref f) = true) (hb : Binds X.K fd ps ds)
    (hd : Vals dvs ds) (out : Passes CX X E) (hdb : (x == ("__debug__" : Str)) = false := by decide) :
    PE X (.Call (.Name x p) [] [] pos) (tCall sp dvs E tNil) := by
  constructor
  intro pins s σ H Q I want
  apply wpAny_Call_Name_kw
  apply ld_glob I hg hm _ hdb
  apply PySem.W.callWith_K0 I.kIn kp
  have r2 : Vals ([] ++ dvs) ([] ++ ds) := Vals.append .nil hd
  have n2 : (([] : List Value) ++ ds).length = ps.length := r2.length.symm.trans (F.many _ _ _ _ want)
  apply wpAny_call
  exact codeAny_mono (runG F room guard out I (hb s [] I.kIn n2) r2 want)
    (fun r s' h => by cases r with | error _ => exact h | ok fl => cases fl <;> exact h)

variable {g : List Value → List Value → List Value} {gV : List V → List V → List V}
/-- f(a, .., n = b, ..) -/
theorem pe_callGK (F : FnG X.prog X.w X.K X.mg X.base CX k f fd ps sp) (room : Room k X.A) (guard : X.A.guards = some [])
    (hg : Gl X x) (hm : X.mg x = some (.ref f)) (kp : PySem.W.keepIn X.K (.ref f) = true) (hb : KBinds X.K fd ps ks g gV)
    (out : Passes CX X E) (ha : PA X (e :: es) ta) (hk : PK X kws tk)
    (hall : (backToKw pos (keywordEach kws X.env)).all (·.1.isSome) = true := by rfl)
    (hks : (backToKw pos (keywordEach kws X.env)).filterMap (·.1) = ks := by rfl)
    (hdb : (x == ("__debug__" : Str)) = false := by decide)
    (he : starEach (e :: es) X.env = (false, eval e X.env) :: starEach es X.env := by rfl)
    (hpl : ((backTo pos (starEach (e :: es) X.env)).any (·.1) || (backToKw pos (keywordEach kws X.env)).any (·.1.isNone)) = false := by rfl) :
    PE X (.Call (.Name x p) (e :: es) kws pos) (tCallK sp gV E ta tk) := by
  constructor
  intro pins s σ H Q I want
  apply wpAny_Call_Name_kw
  apply ld_glob I hg hm _ hdb
  apply PySem.W.callWith_KW (h₀ := X.base) I.ok.mod.kin kp hall _ hpl he
  apply thn (ha.run pos pins s σ H _ I want)
  rintro us s1 ⟨vs, H1, I1, r1, q1⟩
  apply thn (hk.run pos pins s1 σ H1 _ I1 q1)
  rintro ws s2 ⟨zs, H2, I2, r2, q2⟩
  refine ⟨I2.kIn, ?_⟩
  rw [hks]
  have r3 := hb.rel r1 r2
  have n3 : (g us ws).length = ps.length := r3.length.symm.trans (F.many _ _ _ _ q2)
  apply wpAny_call
  exact codeAny_mono (runG F room guard out I2 (hb.to s2 us ws I2.kIn n3) r3 q2)
    (fun r s' h => by cases r with | error _ => exact h | ok fl => cases fl <;> exact h)

/-- f(n = b, ..) -/
theorem pe_callGK0 (F : FnG X.prog X.w X.K X.mg X.base CX k f fd ps sp) (room : Room k X.A) (guard : X.A.guards = some [])
    (hg : Gl X x) (hm : X.mg x = some (.ref f)) (kp : PySem.W.keepIn X.K (.ref f) = true) (hb : KBinds X.K fd ps ks g gV)
    (out : Passes CX X E) (hk : PK X kws tk)
    (hall : (backToKw pos (keywordEach kws X.env)).all (·.1.isSome) = true := by rfl)
    (hks : (backToKw pos (keywordEach kws X.env)).filterMap (·.1) = ks := by rfl)
    (hdb : (x == ("__debug__" : Str)) = false := by decide)
    (hpl : ((backTo pos (starEach [] X.env)).any (·.1) || (backToKw pos (keywordEach kws X.env)).any (·.1.isNone)) = false := by rfl) :
    PE X (.Call (.Name x p) [] kws pos) (tCallK sp gV E tNil tk) := by
  constructor
  intro pins s σ H Q I want
  apply wpAny_Call_Name_kw
  apply ld_glob I hg hm _ hdb
  apply PySem.W.callWith_KW0 (h₀ := X.base) I.ok.mod.kin kp hall _ hpl
  apply thn (hk.run pos pins s σ H _ I want)
  rintro ws s2 ⟨zs, H2, I2, r2, q2⟩
  refine ⟨I2.kIn, ?_⟩
  rw [hks]
  have r3 := hb.rel (vs := []) (us := []) .nil r2
  have n3 : (g [] ws).length = ps.length := r3.length.symm.trans (F.many _ _ _ _ q2)
  apply wpAny_call
  exact codeAny_mono (runG F room guard out I2 (hb.to s2 [] ws I2.kIn n3) r3 q2)
    (fun r s' h => by cases r with | error _ => exact h | ok fl => cases fl <;> exact h)
end

/-! ### repr -/
section
variable {X : Cx}
theorem kept_toks {pins : List (Addr × Obj)} {σ : L2.St} {H : Hp} {s : Shared} (I : Inv X pins σ H s) {h' : Heap} {t : Nat}
    (k : ∀ b o, s.heap.get? b = some o → h'.get? b = some o) : Inv X pins σ H { s with heap := h', toks := t } :=
  I.kept k

/-- repr of a list or a tuple of data -/
theorem repr_box (guard : X.A.guards = some []) (hu : X.A.units + 64 < cLine) :
    CallR X (.builtin "repr") (fun xs H Q => ∃ a d, xs = [.ref a] ∧ Dp X.K H (.ref a) d ∧ d.showable = true ∧ d.hasDict = false ∧ d.depth ≤ 60 ∧ d.shown.length ≤ sizeLine ∧ Q (.str d.shown) H) := by
  intro pins s σ H xs us Q I r h
  obtain ⟨a, d, rfl, dp, sh, nd, dd, sz, q⟩ := h
  obtain ⟨u, rfl, ru⟩ := vals1 r
  obtain rfl : u = .ref a := ru
  obtain ⟨as, rd⟩ := Dp.reads I d _ _ dp rfl
  refine repr_of_reads' rd sh (fun z => by rw [nd] at z; cases z) guard (by omega) (fun _ _ e => e) (fun h' u tk kp => ?_) sz
  exact ⟨.str d.shown, H, kept_toks I kp, ⟨_, rfl⟩, q⟩
end
end Gd
/-! Data: what a value stands for, whatever the heap holds besides. -/
namespace DL
open PySem PySem.Spec L2 Gd

inductive D where
  | non | bl (b : Bool) | int (i : Int) | str (x : Str) | tup (xs : List D) | lst (xs : List D)
  | fls (ns : List Int) | adr (a : Addr)

def KTup (K : PySem.W.Frag) (a : Addr) (xs : List V) : Prop :=
  ∃ (o : Obj) (its : Array Value) (n : Nat), K.lookup a = some o ∧ o.cls = .type "tuple" ∧ o.data = .seq its n ∧ its.size ≤ sizeLine ∧ Vals xs its.toList
def KLst (K : PySem.W.Frag) (a : Addr) (xs : List V) : Prop :=
  ∃ (o : Obj) (its : Array Value) (n : Nat), K.lookup a = some o ∧ o.cls = .type "list" ∧ o.dict = none ∧ o.data = .seq its n ∧ its.size ≤ sizeLine ∧ Vals xs its.toList

/-- what may change: elsewhere, and here -/
structure Mm where
  fo : Addr → Prop
  ch : Addr → Prop
def Mm.mu (M : Mm) (b : Addr) : Prop := M.fo b ∨ M.ch b
def Fo (m : Addr → Prop) : Mm := ⟨m, fun _ => False⟩
mutual
/-- the value stands for the data; M: what may change -/
inductive Dt (K : PySem.W.Frag) (M : Mm) (H : Hp) : V → D → Prop
  | non : Dt K M H .non .non
  | bl (b : Bool) : Dt K M H (.bl b) (.bl b)
  | int (i : Int) : Dt K M H (.int i) (.int i)
  | str (x : Str) : Dt K M H (.str x) (.str x)
  | tup {a : Addr} {xs : List V} {ds : List D} : ¬ M.mu a → Rd H a (.tup xs) → DtAll K M H xs ds → Dt K M H (.ref a) (.tup ds)
  | ktup {a : Addr} {xs : List V} {ds : List D} : KTup K a xs → DtAll K M H xs ds → Dt K M H (.ref a) (.tup ds)
  | lst {a : Addr} {xs : List V} {ds : List D} : ¬ M.mu a → H a = some (.lst xs) → DtAll K M H xs ds → Dt K M H (.ref a) (.lst ds)
  | fls {a : Addr} {ns : List Int} : ¬ M.mu a → Rd H a (.lst (ns.map V.int)) → Dt K M H (.ref a) (.fls ns)
  | kfls {a : Addr} {ns : List Int} : KLst K a (ns.map V.int) → Dt K M H (.ref a) (.fls ns)
  | adr (a : Addr) : Dt K M H (.ref a) (.adr a)
inductive DtAll (K : PySem.W.Frag) (M : Mm) (H : Hp) : List V → List D → Prop
  | nil : DtAll K M H [] []
  | cons {v : V} {vs : List V} {d : D} {ds : List D} : Dt K M H v d → DtAll K M H vs ds → DtAll K M H (v :: vs) (d :: ds)
end

/-- as far as data see it: all but what may change is kept, what may change anew is new -/
structure ExtD (M : Mm) (H : Hp) (M' : Mm) (H' : Hp) : Prop where
  keep : ∀ b o, ¬ M.mu b → H b = some o → H' b = some o
  fresh : ∀ b, M'.mu b → ¬ M.mu b → H b = none
/-- what happened to the heap: all is kept but what may change here -/
structure Ext (M : Mm) (H : Hp) (M' : Mm) (H' : Hp) : Prop where
  keep : ∀ b o, ¬ M.ch b → H b = some o → H' b = some o
  fresh : ∀ b, M'.mu b → ¬ M.mu b → H b = none
  freshC : ∀ b, M'.ch b → ¬ M.ch b → H b = none
theorem Ext.d {M M' : Mm} {H H' : Hp} (x : Ext M H M' H') : ExtD M H M' H' := ⟨fun b o n e => x.keep b o (fun z => n (.inr z)) e, x.fresh⟩

theorem Ext.refl {M : Mm} {H : Hp} : Ext M H M H := ⟨fun _ _ _ e => e, fun _ a b => absurd a b, fun _ a b => absurd a b⟩
theorem Ext.trans {M M1 M2 : Mm} {H H1 H2 : Hp} (a : Ext M H M1 H1) (b : Ext M1 H1 M2 H2) : Ext M H M2 H2 := by
  have keep : ∀ c o, ¬ M.ch c → H c = some o → H2 c = some o := by
    intro c o n e
    have e1 := a.keep c o n e
    by_cases m : M1.ch c
    · have := a.freshC c m n
      rw [this] at e
      cases e
    · exact b.keep c o m e1
  refine ⟨keep, ?_, ?_⟩
  · intro c m n
    by_cases m1 : M1.mu c
    · exact a.fresh c m1 n
    · have z := b.fresh c m m1
      cases e : H c with
      | none => rfl
      | some o =>
        have e1 := a.keep c o (fun z => n (.inr z)) e
        rw [z] at e1
        cases e1
  · intro c m n
    by_cases m1 : M1.ch c
    · exact a.freshC c m1 n
    · have z := b.freshC c m m1
      cases e : H c with
      | none => rfl
      | some o =>
        have e1 := a.keep c o n e
        rw [z] at e1
        cases e1
theorem ExtD.refl {M : Mm} {H : Hp} : ExtD M H M H := ⟨fun _ _ _ e => e, fun _ a b => absurd a b⟩
theorem ExtD.trans {M M1 M2 : Mm} {H H1 H2 : Hp} (a : ExtD M H M1 H1) (b : ExtD M1 H1 M2 H2) : ExtD M H M2 H2 := by
  constructor
  · intro c o n e
    have e1 := a.keep c o n e
    by_cases m : M1.mu c
    · have := a.fresh c m n
      rw [this] at e
      cases e
    · exact b.keep c o m e1
  · intro c m n
    by_cases m1 : M1.mu c
    · exact a.fresh c m1 n
    · have z := b.fresh c m m1
      cases e : H c with
      | none => rfl
      | some o =>
        have e1 := a.keep c o n e
        rw [z] at e1
        cases e1
theorem Ext.less {M M' : Mm} {H : Hp} (h : ∀ b, M'.mu b → M.mu b) (hc : ∀ b, M'.ch b → M.ch b) : Ext M H M' H :=
  ⟨fun _ _ _ e => e, fun b a n => absurd (h b a) n, fun b a n => absurd (hc b a) n⟩

section
variable {K : PySem.W.Frag} {M M' : Mm} {H H' : Hp}
theorem Rd.some {a : Addr} {u : HO} (h : Rd H a u) : ∃ o, H a = .some o := by
  rcases h with h | ⟨o, h⟩
  · exact ⟨_, h⟩
  · exact ⟨_, h⟩
theorem ExtD.rd (x : ExtD M H M' H') {a : Addr} {u : HO} (n : ¬ M.mu a) (h : Rd H a u) : Rd H' a u := by
  rcases h with h | ⟨o, h⟩
  · exact .inl (x.keep _ _ n h)
  · exact .inr ⟨o, x.keep _ _ n h⟩
theorem ExtD.out (x : ExtD M H M' H') {a : Addr} {o : HO} (n : ¬ M.mu a) (h : H a = some o) : ¬ M'.mu a := fun m => by
  have z := x.fresh a m n
  rw [z] at h
  cases h
theorem ExtD.outR (x : ExtD M H M' H') {a : Addr} {u : HO} (n : ¬ M.mu a) (h : Rd H a u) : ¬ M'.mu a := by
  obtain ⟨o, e⟩ := Rd.some h
  exact x.out n e
mutual
theorem Dt.extD (x : ExtD M H M' H') : ∀ {v : V} {d : D}, Dt K M H v d → Dt K M' H' v d
  | _, _, .non => .non
  | _, _, .bl b => .bl b
  | _, _, .int i => .int i
  | _, _, .str s => .str s
  | _, _, .tup n h a => .tup (x.outR n h) (x.rd n h) (DtAll.extD x a)
  | _, _, .ktup h a => .ktup h (DtAll.extD x a)
  | _, _, .lst n h a => .lst (x.out n h) (x.keep _ _ n h) (DtAll.extD x a)
  | _, _, .fls n h => .fls (x.outR n h) (x.rd n h)
  | _, _, .kfls h => .kfls h
  | _, _, .adr a => .adr a
theorem DtAll.extD (x : ExtD M H M' H') : ∀ {vs : List V} {ds : List D}, DtAll K M H vs ds → DtAll K M' H' vs ds
  | _, _, .nil => .nil
  | _, _, .cons h t => .cons (Dt.extD x h) (DtAll.extD x t)
end
theorem Dt.ext (x : Ext M H M' H') {v : V} {d : D} (h : Dt K M H v d) : Dt K M' H' v d := h.extD x.d
theorem DtAll.ext (x : Ext M H M' H') {vs : List V} {ds : List D} (h : DtAll K M H vs ds) : DtAll K M' H' vs ds := h.extD x.d
theorem Ext.rd (x : Ext M H M' H') {a : Addr} {u : HO} (n : ¬ M.mu a) (h : Rd H a u) : Rd H' a u := x.d.rd n h
theorem DtAll.length : ∀ {vs : List V} {ds : List D}, DtAll K M H vs ds → vs.length = ds.length
  | _, _, .nil => rfl
  | _, _, .cons _ t => by
    rw [List.length_cons, List.length_cons, DtAll.length t]
theorem DtAll.append : ∀ {vs ws : List V} {ds es : List D}, DtAll K M H vs ds → DtAll K M H ws es → DtAll K M H (vs ++ ws) (ds ++ es)
  | _, _, _, _, .nil, b => b
  | _, _, _, _, .cons h t, b => .cons h (DtAll.append t b)
theorem DtAll.get : ∀ {vs : List V} {ds : List D} {i : Nat} {d : D}, DtAll K M H vs ds → ds[i]? = some d → ∃ v, vs[i]? = some v ∧ Dt K M H v d
  | _, _, _, _, .nil, e => by simp at e
  | _, _, 0, _, .cons h _, e => by
    simp at e
    subst e
    exact ⟨_, rfl, h⟩
  | _, _, i + 1, _, .cons _ t, e => by
    obtain ⟨v, e1, e2⟩ := DtAll.get (i := i) t (by simpa using e)
    exact ⟨v, by simpa using e1, e2⟩
theorem DtAll.getV : ∀ {vs : List V} {ds : List D} {i : Nat} {v : V}, DtAll K M H vs ds → vs[i]? = some v → ∃ d, ds[i]? = some d ∧ Dt K M H v d
  | _, _, _, _, .nil, e => by simp at e
  | _, _, 0, _, .cons h _, e => by
    simp at e
    subst e
    exact ⟨_, rfl, h⟩
  | _, _, i + 1, _, .cons _ t, e => by
    obtain ⟨d, e1, e2⟩ := DtAll.getV (i := i) t (by simpa using e)
    exact ⟨d, by simpa using e1, e2⟩
theorem DtAll.take : ∀ {vs : List V} {ds : List D} (n : Nat), DtAll K M H vs ds → DtAll K M H (vs.take n) (ds.take n)
  | _, _, 0, _ => by simpa using DtAll.nil
  | _, _, _ + 1, .nil => .nil
  | _, _, n + 1, .cons h t => .cons h (DtAll.take n t)
theorem DtAll.drop : ∀ {vs : List V} {ds : List D} (n : Nat), DtAll K M H vs ds → DtAll K M H (vs.drop n) (ds.drop n)
  | _, _, 0, h => h
  | _, _, _ + 1, .nil => .nil
  | _, _, n + 1, .cons _ t => DtAll.drop n t
theorem DtAll.set {v : V} {d : D} (h : Dt K M H v d) : ∀ {vs : List V} {ds : List D} (n : Nat), DtAll K M H vs ds → DtAll K M H (vs.set n v) (ds.set n d)
  | _, _, _, .nil => .nil
  | _, _, 0, .cons _ t => .cons h t
  | _, _, n + 1, .cons a t => .cons a (DtAll.set h n t)
theorem DtAll.reverse {vs : List V} {ds : List D} (h : DtAll K M H vs ds) : DtAll K M H vs.reverse ds.reverse := by
  induction vs generalizing ds with
  | nil => cases h; exact .nil
  | cons v vs ih =>
    cases h with
    | cons h t =>
      rw [List.reverse_cons, List.reverse_cons]
      exact (ih t).append (.cons h .nil)
theorem DtAll.dropLast {vs : List V} {ds : List D} (h : DtAll K M H vs ds) : DtAll K M H vs.dropLast ds.dropLast := by
  rw [List.dropLast_eq_take, List.dropLast_eq_take, h.length]
  exact h.take _
theorem DtAll.rep {vs : List V} {ds : List D} (h : DtAll K M H vs ds) : ∀ k : Nat, DtAll K M H (List.replicate k vs).flatten (List.replicate k ds).flatten
  | 0 => .nil
  | k + 1 => by
    rw [List.replicate_succ, List.replicate_succ, List.flatten_cons, List.flatten_cons]
    exact h.append (DtAll.rep h k)
theorem DtAll.ints : ∀ (ns : List Int), DtAll K M H (ns.map V.int) (ns.map D.int)
  | [] => .nil
  | n :: ns => .cons (.int n) (DtAll.ints ns)
theorem Dt.ints_of : ∀ {ns : List Int} {vs : List V}, DtAll K M H vs (ns.map D.int) → vs = ns.map V.int
  | [], _, h => by cases h; rfl
  | n :: ns, _, h => by
    cases h with
    | cons h t =>
      cases h
      rw [Dt.ints_of t]
      rfl
theorem Dt.bls_of : ∀ {ns : List Bool} {vs : List V}, DtAll K M H vs (ns.map D.bl) → vs = ns.map V.bl
  | [], _, h => by cases h; rfl
  | n :: ns, _, h => by
    cases h with
    | cons h t =>
      cases h
      rw [Dt.bls_of t]
      rfl
theorem Dt.strs_of : ∀ {ns : List Str} {vs : List V}, DtAll K M H vs (ns.map D.str) → vs = ns.map V.str
  | [], _, h => by cases h; rfl
  | n :: ns, _, h => by
    cases h with
    | cons h t =>
      cases h
      rw [Dt.strs_of t]
      rfl
theorem Dt.sqT {v : V} {ds : List D} (h : Dt K M H v (.tup ds)) : ∃ a xs, v = .ref a ∧ SqT K H a xs ∧ DtAll K M H xs ds := by
  cases h with
  | tup n h a => exact ⟨_, _, rfl, .inl h, a⟩
  | ktup h a => exact ⟨_, _, rfl, .inr h, a⟩
theorem Dt.sqL {v : V} {ds : List D} (h : Dt K M H v (.lst ds)) : ∃ a xs, v = .ref a ∧ ¬ M.mu a ∧ H a = some (.lst xs) ∧ DtAll K M H xs ds := by
  cases h with
  | lst n h a => exact ⟨_, _, rfl, n, h, a⟩
theorem Dt.sqF {v : V} {ns : List Int} (h : Dt K M H v (.fls ns)) : ∃ a, v = .ref a ∧ SqL K H a (ns.map V.int) := by
  cases h with
  | fls n h => exact ⟨_, rfl, .inl h⟩
  | kfls h => exact ⟨_, rfl, .inr h⟩
end

/-! ### the frame of a def -/
abbrev Sl := List (Option D)
abbrev Sto := List (Addr × List D)
/-- M0: what may change elsewhere; H0: the heap at the entry; hand, J: what was handed over to be changed, and what is true of it -/
structure Dx where
  M0 : Addr → Prop
  H0 : Hp
  hand : Addr → Prop
  J : Hp → Prop
def Mu (dx : Dx) (S : Sto) : Mm := ⟨dx.M0, fun b => dx.hand b ∨ b ∈ S.map (·.1)⟩

structure HR (K : PySem.W.Frag) (dx : Dx) (H : Hp) (S : Sto) : Prop where
  sto : ∀ p xs, (p, xs) ∈ S → ∃ vs, H p = some (.lst vs) ∧ DtAll K (Mu dx S) H vs xs
  nd : (S.map (·.1)).Nodup
  live : ∀ b, dx.M0 b → H b ≠ none
  own : ∀ p, p ∈ S.map (·.1) → dx.H0 p = none ∧ ¬ dx.M0 p
  keep : ∀ b o, dx.H0 b = some o → ¬ dx.hand b → H b = some o
  j : dx.J H
  stab : ∀ H H' : Hp, (∀ b, dx.hand b → H' b = H b) → dx.J H → dx.J H'
  hm : ∀ b, dx.hand b → dx.M0 b

structure SR (K : PySem.W.Frag) (dx : Dx) (σ : L2.St) (H : Hp) (δ : Sl) (S : Sto) : Prop where
  len : δ.length = σ.length
  ix : ∀ (i : Nat) (d : D), δ[i]? = some (some d) → ∃ v : V, σ[i]? = some (some v) ∧ Dt K (Mu dx S) H v d

section
variable {K : PySem.W.Frag} {dx : Dx} {H H' : Hp} {S S' : Sto} {σ : L2.St} {δ : Sl}
theorem SR.extD {dy : Dx} (r : SR K dx σ H δ S) (x : ExtD (Mu dx S) H (Mu dy S') H') : SR K dy σ H' δ S' :=
  ⟨r.len, fun i d e => let ⟨v, e1, e2⟩ := r.ix i d e; ⟨v, e1, e2.extD x⟩⟩
theorem SR.ext (r : SR K dx σ H δ S) (x : Ext (Mu dx S) H (Mu dx S') H') : SR K dx σ H' δ S' :=
  ⟨r.len, fun i d e => let ⟨v, e1, e2⟩ := r.ix i d e; ⟨v, e1, e2.ext x⟩⟩
theorem SR.set (r : SR K dx σ H δ S) {v : V} {d : D} (i : Nat) (h : Dt K (Mu dx S) H v d) : SR K dx (σ.set i (some v)) H (δ.set i (some d)) S := by
  refine ⟨by rw [List.length_set, List.length_set]; exact r.len, fun j e he => ?_⟩
  by_cases q : j = i
  · subst q
    have lt : j < δ.length := by
      have := (List.getElem?_eq_some_iff.mp he).1
      rwa [List.length_set] at this
    rw [List.getElem?_set_self lt] at he
    cases he
    exact ⟨v, by rw [List.getElem?_set_self (by rw [← r.len]; exact lt)], h⟩
  · rw [List.getElem?_set_ne (Ne.symm q)] at he
    rw [List.getElem?_set_ne (Ne.symm q)]
    exact r.ix j e he
/-- slots forgotten -/
theorem SR.sub {δ' : Sl} (r : SR K dx σ H δ S) (l : δ'.length = δ.length) (h : ∀ (i : Nat) (d : D), δ'[i]? = some (some d) → δ[i]? = some (some d)) : SR K dx σ H δ' S :=
  ⟨l.trans r.len, fun i d e => r.ix i d (h i d e)⟩
theorem HR.hand_ne (r : HR K dx H S) {p : Addr} (n : H p = none) : ∀ b, dx.hand b → b ≠ p := fun b h e => by
  subst e
  exact r.live _ (r.hm _ h) n
theorem HR.mu_ne (r : HR K dx H S) {p : Addr} (n : H p = none) : ¬ (Mu dx S).mu p := by
  rintro (h | h | h)
  · exact r.live _ h n
  · exact r.live _ (r.hm _ h) n
  · obtain ⟨⟨q, xs⟩, hm, e⟩ := List.mem_map.mp h
    obtain ⟨vs, hp, _⟩ := r.sto q xs hm
    have e : q = p := e
    rw [e] at hp
    rw [hp] at n
    cases n
theorem ext_new {M : Mm} {p : Addr} {o : HO} (n : H p = none) : Ext M H M (upd H p o) :=
  ⟨fun b u _ e => by rw [upd_ne (ne_of_none e n)]; exact e, fun _ a b => absurd a b, fun _ a b => absurd a b⟩
theorem Ext.same {M : Mm} (h : Same H H') : Ext M H M H' := ⟨fun b o _ e => h b o e, fun _ a b => absurd a b, fun _ a b => absurd a b⟩
/-- all that was tracked is as it was -/
theorem HR.same (r : HR K dx H S) (h : Same H H') : HR K dx H' S where
  sto := fun p xs m => let ⟨vs, e, a⟩ := r.sto p xs m; ⟨vs, h _ _ e, a.ext (Ext.same h)⟩
  nd := r.nd
  live := fun b m z => by
    cases e : H b with
    | none => exact r.live b m e
    | some o => rw [h b o e] at z; cases z
  own := r.own
  keep := fun b o e n => h b o (r.keep b o e n)
  j := r.stab H H' (fun b hb => by
    cases e : H b with
    | none => exact absurd e (r.live b (r.hm b hb))
    | some o => exact h b o e) r.j
  stab := r.stab
  hm := r.hm
theorem same_new {p : Addr} {o : HO} (n : H p = none) : Same H (upd H p o) := fun b u e => by
  rw [upd_ne (ne_of_none e n)]; exact e
theorem HR.own_not (r : HR K dx H S) {p : Addr} (m : p ∈ S.map (·.1)) : ¬ dx.M0 p := (r.own p m).2
theorem HR.mu_live (r : HR K dx H S) : ∀ b, (Mu dx S).mu b → H b ≠ none := fun b m z => r.mu_ne z m
theorem HR.old (r : HR K dx H S) {p : Addr} (n : H p = none) : dx.H0 p = none := by
  cases e : dx.H0 p with
  | none => rfl
  | some o =>
    by_cases hb : dx.hand p
    · exact absurd n (r.live p (r.hm p hb))
    · have := r.keep p o e hb
      rw [n] at this
      cases this

/-- a new list of one's own -/
theorem ext_own {p : Addr} {o : HO} {xs : List D} (r : HR K dx H S) (n : H p = none) : Ext (Mu dx S) H (Mu dx ((p, xs) :: S)) (upd H p o) := by
  have key : ∀ b, (Mu dx ((p, xs) :: S)).ch b → ¬ (Mu dx S).ch b → H b = none := by
    intro b m z
    rcases m with m | m
    · exact absurd (.inl m) z
    · rcases List.mem_cons.mp m with e | m
      · have e : b = p := e
        rw [e]; exact n
      · exact absurd (.inr m) z
  refine ⟨fun b u _ e => by rw [upd_ne (ne_of_none e n)]; exact e, fun b m z => ?_, key⟩
  rcases m with m | m
  · exact absurd (.inl m) z
  · exact key b m fun y => z (.inr y)
theorem HR.grow (r : HR K dx H S) {p : Addr} {vs : List V} {xs : List D} (n : H p = none) (a : DtAll K (Mu dx S) H vs xs) : HR K dx (upd H p (.lst vs)) ((p, xs) :: S) := by
  have X := ext_own (o := .lst vs) (xs := xs) r n
  have R := r.same (same_new (o := .lst vs) n)
  refine ⟨fun q ys m => ?_, ?_, R.live, fun q m => ?_, R.keep, R.j, R.stab, R.hm⟩
  · rcases List.mem_cons.mp m with e | m
    · cases e
      exact ⟨vs, upd_same, a.ext X⟩
    · obtain ⟨ws, e, b⟩ := r.sto q ys m
      exact ⟨ws, by rw [upd_ne (ne_of_none e n)]; exact e, b.ext X⟩
  · rw [List.map_cons]
    refine List.nodup_cons.mpr ⟨fun m => r.mu_ne n (.inr (.inr m)), r.nd⟩
  · rw [List.map_cons] at m
    rcases List.mem_cons.mp m with e | m
    · have e : q = p := e
      rw [e]
      exact ⟨r.old n, fun z => r.live p z n⟩
    · exact r.own q m

/-- the store with other items at p -/
def setS (S : Sto) (p : Addr) (xs : List D) : Sto := S.map fun q => if q.1 = p then (p, xs) else q
theorem setS_keys (S : Sto) (p : Addr) (xs : List D) : (setS S p xs).map (·.1) = S.map (·.1) := by
  unfold setS
  rw [List.map_map]
  apply List.map_congr_left
  intro q _
  show (if q.1 = p then (p, xs) else q).1 = q.1
  split
  · rename_i h; exact h.symm
  · rfl
theorem setS_mem {S : Sto} {p q : Addr} {xs ys : List D} (h : (q, ys) ∈ setS S p xs) : (q = p ∧ ys = xs) ∨ (q ≠ p ∧ (q, ys) ∈ S) := by
  unfold setS at h
  obtain ⟨z, m, e⟩ := List.mem_map.mp h
  split at e
  · rename_i hz
    cases e
    exact .inl ⟨rfl, rfl⟩
  · rename_i hz
    subst e
    exact .inr ⟨hz, m⟩
def getS (S : Sto) (p : Addr) : Option (List D) := (S.find? fun q => q.1 = p).map (·.2)
theorem getS_mem {S : Sto} {p : Addr} {xs : List D} (h : getS S p = some xs) : (p, xs) ∈ S := by
  unfold getS at h
  obtain ⟨⟨q, ys⟩, e, rfl⟩ := Option.map_eq_some_iff.mp h
  have m := List.mem_of_find?_eq_some e
  have c := List.find?_some e
  have c : q = p := by simpa using c
  subst c
  exact m
theorem mu_set {dx : Dx} {S : Sto} {p : Addr} {xs : List D} : Mu dx (setS S p xs) = Mu dx S := by
  unfold Mu
  rw [setS_keys]
theorem ext_set {p : Addr} {o : HO} {xs : List D} (m : p ∈ S.map (·.1)) : Ext (Mu dx S) H (Mu dx (setS S p xs)) (upd H p o) := by
  rw [mu_set]
  refine ⟨fun b u n e => ?_, fun b a n => absurd a n, fun b a n => absurd a n⟩
  by_cases q : b = p
  · subst q; exact absurd (.inr m) n
  · rw [upd_ne q]; exact e
theorem HR.put (r : HR K dx H S) {p : Addr} {vs : List V} {xs : List D} (m : p ∈ S.map (·.1)) (a : DtAll K (Mu dx S) H vs xs) : HR K dx (upd H p (.lst vs)) (setS S p xs) := by
  have X := ext_set (dx := dx) (H := H) (o := .lst vs) (xs := xs) m
  have np : ¬ dx.M0 p := r.own_not m
  refine ⟨fun q ys mm => ?_, by rw [setS_keys]; exact r.nd, fun b hb => ?_, fun q hq => r.own q (by rw [← setS_keys S p xs]; exact hq), fun b o e n => ?_, ?_, r.stab, r.hm⟩
  · rcases setS_mem mm with ⟨rfl, rfl⟩ | ⟨ne, mm⟩
    · exact ⟨vs, upd_same, a.ext X⟩
    · obtain ⟨ws, e, b⟩ := r.sto q ys mm
      exact ⟨ws, by rw [upd_ne ne]; exact e, b.ext X⟩
  · have ne : b ≠ p := fun z => np (z ▸ hb)
    rw [upd_ne ne]
    exact r.live b hb
  · have ne : b ≠ p := fun z => by
      rw [z, (r.own p m).1] at e
      cases e
    rw [upd_ne ne]
    exact r.keep b o e n
  · refine r.stab H _ (fun b hb => ?_) r.j
    have ne : b ≠ p := fun z => np (z ▸ r.hm b hb)
    rw [upd_ne ne]
/-- a list is not changed any more -/
def delS (S : Sto) (p : Addr) : Sto := S.filter fun q => q.1 ≠ p
theorem delS_mem {S : Sto} {p b : Addr} (h : b ∈ (delS S p).map (·.1)) : b ∈ S.map (·.1) ∧ b ≠ p := by
  obtain ⟨q, m, rfl⟩ := List.mem_map.mp h
  obtain ⟨m1, m2⟩ := List.mem_filter.mp m
  exact ⟨List.mem_map.mpr ⟨q, m1, rfl⟩, by simpa using m2⟩
theorem ext_del {p : Addr} : Ext (Mu dx S) H (Mu dx (delS S p)) H := by
  have key : ∀ b, (Mu dx (delS S p)).ch b → (Mu dx S).ch b := fun b h => h.elim .inl fun h => .inr (delS_mem h).1
  exact Ext.less (fun b h => h.elim .inl fun h => .inr (key b h)) key
theorem HR.del (r : HR K dx H S) (p : Addr) : HR K dx H (delS S p) := by
  refine ⟨fun q ys m => ?_, ?_, r.live, fun q m => r.own q (delS_mem m).1, r.keep, r.j, r.stab, r.hm⟩
  · obtain ⟨ws, e, b⟩ := r.sto q ys (List.mem_filter.mp m).1
    exact ⟨ws, e, b.ext ext_del⟩
  · exact r.nd.sublist (List.Sublist.map _ List.filter_sublist)
theorem HR.frozen (r : HR K dx H S) {p : Addr} {xs : List D} (h : getS S p = some xs) : Dt K (Mu dx (delS S p)) H (.ref p) (.lst xs) := by
  have m := getS_mem h
  have mp : p ∈ S.map (·.1) := List.mem_map.mpr ⟨_, m, rfl⟩
  obtain ⟨vs, e, a⟩ := r.sto p xs m
  refine .lst ?_ e (a.ext ext_del)
  rintro (z | z | z)
  · exact r.own_not mp z
  · exact r.own_not mp (r.hm _ z)
  · exact (delS_mem z).2 rfl
theorem HR.get (r : HR K dx H S) {p : Addr} {xs : List D} (h : getS S p = some xs) : p ∈ S.map (·.1) ∧ ∃ vs, H p = some (.lst vs) ∧ DtAll K (Mu dx S) H vs xs :=
  ⟨List.mem_map.mpr ⟨_, getS_mem h, rfl⟩, r.sto p xs (getS_mem h)⟩
end
end DL
/-! Readings over data. -/
namespace DL
open PySem PySem.Spec L2 Gd

def gt : Sl → Nat → Option D
  | [], _ => none
  | a :: _, 0 => a
  | _ :: r, n + 1 => gt r n
def put : Sl → Nat → D → Sl
  | [], _, _ => []
  | _ :: r, 0, d => some d :: r
  | a :: r, n + 1, d => a :: put r n d
theorem gt_ix : ∀ {δ : Sl} {i : Nat} {d : D}, gt δ i = some d → δ[i]? = some (some d)
  | [], _, _, h => by cases h
  | a :: _, 0, _, h => by simpa [gt] using h
  | _ :: r, n + 1, _, h => by simpa [gt] using gt_ix (δ := r) (i := n) h
theorem put_set : ∀ {δ : Sl} {i : Nat} {d : D}, put δ i d = δ.set i (some d)
  | [], _, _ => rfl
  | _ :: _, 0, _ => rfl
  | a :: r, n + 1, d => by
    show a :: put r n d = a :: r.set n (some d)
    rw [put_set]

abbrev DTE := Sl → Sto → (D → Sto → Prop) → Prop
abbrev DTT := Sl → Sto → (Bool → Sto → Prop) → Prop
abbrev DTA := Sl → Sto → (List D → Sto → Prop) → Prop
structure DEnds where
  nx : Sl → Sto → Prop
  rt : D → Sto → Prop
  bk : Sl → Sto → Prop := fun _ _ => False
  ct : Sl → Sto → Prop := fun _ _ => False
abbrev DTS := DEnds → Sl → Sto → Prop

def ThE (K : PySem.W.Frag) (dx : Dx) (H : Hp) (S : Sto) (Q : D → Sto → Prop) (Qh : VK) : Prop :=
  ∀ v H' d S', HR K dx H' S' → Ext (Mu dx S) H (Mu dx S') H' → Dt K (Mu dx S') H' v d → Q d S' → Qh v H'
def ThT (K : PySem.W.Frag) (dx : Dx) (H : Hp) (S : Sto) (Q : Bool → Sto → Prop) (Qh : Bool → Hp → Prop) : Prop :=
  ∀ b H' S', HR K dx H' S' → Ext (Mu dx S) H (Mu dx S') H' → Q b S' → Qh b H'
def ThA (K : PySem.W.Frag) (dx : Dx) (H : Hp) (S : Sto) (Q : List D → Sto → Prop) (Qh : List V → Hp → Prop) : Prop :=
  ∀ vs H' ds S', HR K dx H' S' → Ext (Mu dx S) H (Mu dx S') H' → DtAll K (Mu dx S') H' vs ds → Q ds S' → Qh vs H'

structure DE (X : Cx) (dx : Dx) (e : Expr) (te : TE) (t : DTE) : Prop where
  pe : PE X e te
  go : ∀ σ H δ S Q Qh, HR X.K dx H S → SR X.K dx σ H δ S → t δ S Q → ThE X.K dx H S Q Qh → te σ H Qh
structure DT (X : Cx) (dx : Dx) (e : Expr) (te : TT) (t : DTT) : Prop where
  pe : PT X e te
  go : ∀ σ H δ S Q Qh, HR X.K dx H S → SR X.K dx σ H δ S → t δ S Q → ThT X.K dx H S Q Qh → te σ H Qh
structure DW (X : Cx) (dx : Dx) (e : Expr) (te : TT) (t : DTT) : Prop where
  pe : PW X e te
  go : ∀ σ H δ S Q Qh, HR X.K dx H S → SR X.K dx σ H δ S → t δ S Q → ThT X.K dx H S Q Qh → te σ H Qh
structure DA (X : Cx) (dx : Dx) (es : List Expr) (te : TA) (t : DTA) : Prop where
  pe : PA X es te
  go : ∀ σ H δ S Q Qh, HR X.K dx H S → SR X.K dx σ H δ S → t δ S Q → ThA X.K dx H S Q Qh → te σ H Qh
structure DK (X : Cx) (dx : Dx) (es : List Keyword) (te : TA) (t : DTA) : Prop where
  pe : PK X es te
  go : ∀ σ H δ S Q Qh, HR X.K dx H S → SR X.K dx σ H δ S → t δ S Q → ThA X.K dx H S Q Qh → te σ H Qh

structure ThS (K : PySem.W.Frag) (dx : Dx) (H : Hp) (S : Sto) (DD : DEnds) (E : Ends) : Prop where
  nx : ∀ σ' H' δ' S', HR K dx H' S' → Ext (Mu dx S) H (Mu dx S') H' → SR K dx σ' H' δ' S' → DD.nx δ' S' → E.nx σ' H'
  bk : ∀ σ' H' δ' S', HR K dx H' S' → Ext (Mu dx S) H (Mu dx S') H' → SR K dx σ' H' δ' S' → DD.bk δ' S' → E.bk σ' H'
  ct : ∀ σ' H' δ' S', HR K dx H' S' → Ext (Mu dx S) H (Mu dx S') H' → SR K dx σ' H' δ' S' → DD.ct δ' S' → E.ct σ' H'
  rt : ∀ v H' d S', HR K dx H' S' → Ext (Mu dx S) H (Mu dx S') H' → Dt K (Fo dx.M0) H' v d → DD.rt d S' → E.rt v H'
structure DS (X : Cx) (dx : Dx) (st : Stmt) (ts : TS) (t : DTS) : Prop where
  pe : PS X st ts
  go : ∀ σ H δ S DD E, HR X.K dx H S → SR X.K dx σ H δ S → t DD δ S → ThS X.K dx H S DD E → ts E σ H
structure DSs (X : Cx) (dx : Dx) (st : List Stmt) (ts : TS) (t : DTS) : Prop where
  pe : PSs X st ts
  go : ∀ σ H δ S DD E, HR X.K dx H S → SR X.K dx σ H δ S → t DD δ S → ThS X.K dx H S DD E → ts E σ H

section
variable {K : PySem.W.Frag} {dx : Dx} {H H1 : Hp} {S S1 : Sto}
theorem ThE.on {Q Qh} (h : ThE K dx H S Q Qh) (x : Ext (Mu dx S) H (Mu dx S1) H1) : ThE K dx H1 S1 Q Qh :=
  fun v H' d S' r y => h v H' d S' r (x.trans y)
theorem ThT.on {Q Qh} (h : ThT K dx H S Q Qh) (x : Ext (Mu dx S) H (Mu dx S1) H1) : ThT K dx H1 S1 Q Qh :=
  fun v H' S' r y => h v H' S' r (x.trans y)
theorem ThA.on {Q Qh} (h : ThA K dx H S Q Qh) (x : Ext (Mu dx S) H (Mu dx S1) H1) : ThA K dx H1 S1 Q Qh :=
  fun v H' d S' r y => h v H' d S' r (x.trans y)
theorem ThS.on {DD E} (h : ThS K dx H S DD E) (x : Ext (Mu dx S) H (Mu dx S1) H1) : ThS K dx H1 S1 DD E :=
  ⟨fun a b c d r y => h.nx a b c d r (x.trans y), fun a b c d r y => h.bk a b c d r (x.trans y), fun a b c d r y => h.ct a b c d r (x.trans y), fun a b c d r y => h.rt a b c d r (x.trans y)⟩
end

section
variable {X : Cx} {dx : Dx} {a b c e : Expr} {es rest : List Expr} {pos : Pos} {ta tb tc te : TE} {fa fb fc : DTE} {ua ub : TT} {ga gb : DTT} {tr : TA} {fr : DTA}

/-! ### names, constants -/
def dVar (i : Nat) : DTE := fun δ S Q => match gt δ i with
  | some d => Q d S
  | none => False
theorem de_var {i : Nat} (h : PE X e (tVar i)) : DE X dx e (tVar i) (dVar i) := by
  refine ⟨h, fun σ H δ S Q Qh r s t k => ?_⟩
  unfold dVar at t
  cases g : gt δ i with
  | none => rw [g] at t; exact t.elim
  | some d =>
    rw [g] at t
    obtain ⟨v, e1, e2⟩ := s.ix i d (gt_ix g)
    exact ⟨v, e1, k v H d S r Ext.refl e2 t⟩
/-- the name that stands in the i-th slot -/
theorem dv (i : Nat) {x : Str} {pos : Pos} (hN : X.N[i]? = some x := by rfl) (hv : Vis X.env.scope x := by first | exact Or.inl rfl | exact Or.inr (Or.inl rfl) | exact Or.inr (Or.inr rfl))
    (hd : (x == ("__debug__" : Str)) = false := by decide) (hcd : (x == ("__classdict__" : Str)) = false := by decide) : DE X dx (.Name x pos) (tVar i) (dVar i) :=
  de_var (pe_var hN hv hd hcd)
def dC (d : D) : DTE := fun _ S Q => Q d S
theorem de_c {v : V} {d : D} (h : PE X e (tC v)) (q : ∀ M H, Dt X.K M H v d) : DE X dx e (tC v) (dC d) :=
  ⟨h, fun σ H δ S Q Qh r s t k => k v H d S r Ext.refl (q _ _) t⟩
theorem de_int {i : Int} {j} : DE X dx (.Constant (.int i) j pos) (tC (.int i)) (dC (.int i)) := de_c pe_int fun _ _ => .int i
theorem de_bl {i : Bool} {j} : DE X dx (.Constant (.bool i) j pos) (tC (.bl i)) (dC (.bl i)) := de_c pe_bl fun _ _ => .bl i
theorem de_non {j} : DE X dx (.Constant .none j pos) (tC .non) (dC .non) := de_c pe_non fun _ _ => .non
theorem de_str {i : Str} {j} : DE X dx (.Constant (.str i) j pos) (tC (.str i)) (dC (.str i)) := de_c pe_str fun _ _ => .str i

/-! ### operators by values -/
abbrev F2 := D → D → Sto → (D → Sto → Prop) → Prop
def OpD (K : PySem.W.Frag) (dx : Dx) (r : R2) (f : F2) : Prop :=
  ∀ x y p q H S Q Qh, HR K dx H S → Dt K (Mu dx S) H x p → Dt K (Mu dx S) H y q → f p q S Q → ThE K dx H S Q Qh → r x y H Qh
def dOp (f : F2) (fa fb : DTE) : DTE := fun δ S Q => fa δ S fun p S1 => fb δ S1 fun q S2 => f p q S2 Q
theorem op_go {r : R2} {f : F2} (o : OpD X.K dx r f) (ha : DE X dx a ta fa) (hb : DE X dx b tb fb) :
    ∀ σ H δ S Q Qh, HR X.K dx H S → SR X.K dx σ H δ S → dOp f fa fb δ S Q → ThE X.K dx H S Q Qh → tOp r ta tb σ H Qh := by
  intro σ H δ S Q Qh r0 s0 t k
  refine ha.go σ H δ S _ _ r0 s0 t fun x H1 p S1 r1 x1 d1 t1 => ?_
  refine hb.go σ H1 δ S1 _ _ r1 (s0.ext x1) t1 fun y H2 q S2 r2 x2 d2 t2 => ?_
  exact o x y p q H2 S2 Q Qh r2 (d1.ext x2) d2 t2 (k.on (x1.trans x2))
theorem de_op {op : Operator} {r : R2} {f : F2} (h : OpR X (binaryOp op) r) (o : OpD X.K dx r f) (ha : DE X dx a ta fa) (hb : DE X dx b tb fb) : DE X dx (.BinOp a op b pos) (tOp r ta tb) (dOp f fa fb) :=
  ⟨pe_op h ha.pe hb.pe, op_go o ha hb⟩
theorem de_cmp {op : CmpOp} {r : R2} {f : F2} (h : OpR X (compareOp op) r) (o : OpD X.K dx r f) (ha : DE X dx a ta fa) (hb : DE X dx b tb fb) (hm : behindInMarks op b = false) : DE X dx (.Compare a [op] [b] pos) (tOp r ta tb) (dOp f fa fb) :=
  ⟨pe_cmpR h ha.pe hb.pe hm, op_go o ha hb⟩
def isB (Q : Bool → Sto → Prop) : D → Sto → Prop
  | .bl k, S => Q k S
  | _, _ => False
def dTest (t : DTE) : DTT := fun δ S Q => t δ S (isB Q)
theorem isB_run {K : PySem.W.Frag} {Q : Bool → Sto → Prop} {M : Mm} {H : Hp} {v : V} {d : D} {S : Sto} (h : Dt K M H v d) (q : isB Q d S) : ∃ k, v = .bl k ∧ d = .bl k ∧ Q k S := by
  cases h with
  | bl k => exact ⟨k, rfl, rfl, q⟩
  | _ => exact q.elim
theorem dt_cmp {op : CmpOp} {r : R2} {f : F2} (h : OpR X (compareOp op) r) (o : OpD X.K dx r f) (ha : DE X dx a ta fa) (hb : DE X dx b tb fb) (hm : behindInMarks op b = false) : DT X dx (.Compare a [op] [b] pos) (tTest (tOp r ta tb)) (dTest (dOp f fa fb)) := by
  refine ⟨pt_cmpR h ha.pe hb.pe hm, fun σ H δ S Q Qh r0 s0 t k => ?_⟩
  refine op_go o ha hb σ H δ S _ _ r0 s0 t fun v H1 d S1 r1 x1 d1 t1 => ?_
  obtain ⟨z, rfl, rfl, q⟩ := isB_run d1 t1
  exact ⟨z, rfl, k z H1 S1 r1 x1 q⟩
theorem dt_val (h : DE X dx e te fa) (he : ∀ whole, isTrue e X.env whole = (do let v ← whole; standAt e.pos; holding [v] (truthy v)) := by intro _; rfl) : DT X dx e (tB te) (dTest fa) := by
  refine ⟨pt_val h.pe he, fun σ H δ S Q Qh r0 s0 t k => ?_⟩
  refine h.go σ H δ S _ _ r0 s0 t fun v H1 d S1 r1 x1 d1 t1 => ?_
  obtain ⟨z, rfl, rfl, q⟩ := isB_run d1 t1
  exact ⟨z, rfl, k z H1 S1 r1 x1 q⟩
/-- a < b < c -/
def dChain (f g : F2) (fa fb fc : DTE) : DTE := fun δ S Q => fa δ S fun p S1 => fb δ S1 fun q S2 => f p q S2 fun z S3 =>
  isB (fun k S4 => if k = true then fc δ S4 fun w S5 => g q w S5 Q else Q (.bl false) S4) z S3
end
end DL
/-! Readings over data: tests, displays, items, slices, calls. -/
namespace DL
open PySem PySem.Spec L2 Gd

def opt {α : Type} (o : Option α) (Q : α → Prop) : Prop := match o with
  | some x => Q x
  | none => False
theorem opt_run {α : Type} {o : Option α} {Q : α → Prop} (h : opt o Q) : ∃ x, o = some x ∧ Q x := by
  cases o with
  | none => exact h.elim
  | some x => exact ⟨x, rfl, h⟩
section
variable {X : Cx} {dx : Dx} {a b c e : Expr} {es rest : List Expr} {pos : Pos} {ta tb tc te : TE} {fa fb fc : DTE} {ua ub : TT} {ga gb : DTT} {tr : TA} {fr : DTA}

theorem de_chain {op op' : CmpOp} {r r' : R2} {f g : F2} (h : OpR X (compareOp op) r) (o : OpD X.K dx r f) (h' : OpR X (compareOp op') r') (o' : OpD X.K dx r' g)
    (ha : DE X dx a ta fa) (hb : DE X dx b tb fb) (hc : DE X dx c tc fc)
    (hm : lastMarks [op, op'] [b, c] = false := by with_unfolding_all rfl) : DE X dx (.Compare a [op, op'] [b, c] pos) (tChain r r' ta tb tc) (dChain f g fa fb fc) := by
  refine ⟨pe_chain h h' ha.pe hb.pe hc.pe hm, fun σ H δ S Q Qh r0 s0 t k => ?_⟩
  refine ha.go σ H δ S _ _ r0 s0 t fun x H1 p S1 r1 x1 d1 t1 => ?_
  refine hb.go σ H1 δ S1 _ _ r1 (s0.ext x1) t1 fun y H2 q S2 r2 x2 d2 t2 => ?_
  refine o x y p q H2 S2 _ _ r2 (d1.ext x2) d2 t2 fun v H3 z S3 r3 x3 d3 t3 => ?_
  obtain ⟨w, rfl, rfl, t4⟩ := isB_run d3 t3
  refine ⟨w, rfl, ?_⟩
  cases w with
  | false =>
    rw [if_neg Bool.false_ne_true] at t4 ⊢
    exact k _ H3 _ S3 r3 ((x1.trans x2).trans x3) (.bl false) t4
  | true =>
    rw [if_pos rfl] at t4 ⊢
    refine hc.go σ H3 δ S3 _ _ r3 (s0.ext ((x1.trans x2).trans x3)) t4 fun u H4 z S4 r4 x4 d4 t5 => ?_
    exact o' y u q z H4 S4 Q Qh r4 (d2.ext (x3.trans x4)) d4 t5 (k.on (((x1.trans x2).trans x3).trans x4))
theorem dt_chain {op op' : CmpOp} {r r' : R2} {f g : F2} (h : OpR X (compareOp op) r) (o : OpD X.K dx r f) (h' : OpR X (compareOp op') r') (o' : OpD X.K dx r' g)
    (ha : DE X dx a ta fa) (hb : DE X dx b tb fb) (hc : DE X dx c tc fc)
    (hm : lastMarks [op, op'] [b, c] = false := by with_unfolding_all rfl) : DT X dx (.Compare a [op, op'] [b, c] pos) (tTest (tChain r r' ta tb tc)) (dTest (dChain f g fa fb fc)) := by
  refine ⟨pt_chain h h' ha.pe hb.pe hc.pe hm, fun σ H δ S Q Qh r0 s0 t k => ?_⟩
  refine (de_chain (pos := pos) h o h' o' ha hb hc hm).go σ H δ S _ _ r0 s0 t fun v H1 d S1 r1 x1 d1 t1 => ?_
  obtain ⟨z, rfl, rfl, q⟩ := isB_run d1 t1
  exact ⟨z, rfl, k z H1 S1 r1 x1 q⟩

/-! ### truth -/
def fTru : D → Sto → (Bool → Sto → Prop) → Prop
  | .non, S, Q => Q false S
  | .bl k, S, Q => Q k S
  | .int i, S, Q => Q (i != 0) S
  | .str x, S, Q => x.length ≤ sizeLine ∧ Q ((x.length : Int) != 0) S
  | .tup ds, S, Q => Q (!ds.isEmpty) S
  | .lst ds, S, Q => Q (!ds.isEmpty) S
  | .fls ds, S, Q => Q (!ds.isEmpty) S
  | .adr p, S, Q => opt (getS S p) fun ds => Q (!ds.isEmpty) S
theorem empty_all {K : PySem.W.Frag} {M : Mm} {H : Hp} {vs : List V} {ds : List D} (h : DtAll K M H vs ds) : vs.isEmpty = ds.isEmpty := by
  cases h <;> rfl
theorem tru_go {K : PySem.W.Frag} {v : V} {d : D} {H : Hp} {S : Sto} {Q : Bool → Sto → Prop} (r : HR K dx H S) (h : Dt K (Mu dx S) H v d) (q : fTru d S Q) : ∃ k, TruV K v H k ∧ Q k S := by
  cases h with
  | non => exact ⟨_, rfl, q⟩
  | bl k => exact ⟨_, rfl, q⟩
  | int i => exact ⟨_, rfl, q⟩
  | str x => exact ⟨_, ⟨q.1, rfl⟩, q.2⟩
  | tup n h a => exact ⟨_, .inr (.inl ⟨_, .inl h, rfl⟩), by rw [empty_all a]; exact q⟩
  | ktup h a => exact ⟨_, .inr (.inl ⟨_, .inr h, rfl⟩), by rw [empty_all a]; exact q⟩
  | lst n h a => exact ⟨_, .inl ⟨_, SqL.of h, rfl⟩, by rw [empty_all a]; exact q⟩
  | fls n h => exact ⟨_, .inl ⟨_, .inl h, rfl⟩, by rw [List.isEmpty_map]; exact q⟩
  | kfls h => exact ⟨_, .inl ⟨_, .inr h, rfl⟩, by rw [List.isEmpty_map]; exact q⟩
  | adr p =>
    obtain ⟨ds, g, q⟩ := opt_run q
    obtain ⟨_, vs, e, al⟩ := r.get g
    exact ⟨_, .inl ⟨_, SqL.of e, rfl⟩, by rw [empty_all al]; exact q⟩
def tTr (K : PySem.W.Frag) (te : TE) : TT := fun σ H Q => te σ H fun x H' => ∃ k, TruV K x H' k ∧ Q k H'
def dTr (t : DTE) : DTT := fun δ S Q => t δ S fun d S1 => fTru d S1 Q
theorem dt_tru (h : DE X dx e te fa) (he : ∀ whole, isTrue e X.env whole = (do let v ← whole; standAt e.pos; holding [v] (truthy v)) := by intro _; rfl) : DT X dx e (tTr X.K te) (dTr fa) := by
  refine ⟨pt_truth h.pe he, fun σ H δ S Q Qh r0 s0 t k => ?_⟩
  refine h.go σ H δ S _ _ r0 s0 t fun v H1 d S1 r1 x1 d1 t1 => ?_
  obtain ⟨z, tv, q⟩ := tru_go r1 d1 t1
  exact ⟨z, tv, k z H1 S1 r1 x1 q⟩

/-! ### and, or, not -/
def dNot (t : DTT) : DTT := fun δ S Q => t δ S fun k S1 => Q (!k) S1
def dAnd (t u : DTT) : DTT := fun δ S Q => t δ S fun k S1 => if k = true then u δ S1 Q else Q false S1
def dOr (t u : DTT) : DTT := fun δ S Q => t δ S fun k S1 => if k = true then Q true S1 else u δ S1 Q
theorem dt_not (h : DT X dx a ua ga) : DT X dx (.UnaryOp .Not a pos) (tNot ua) (dNot ga) :=
  ⟨pt_not h.pe, fun σ H δ S Q Qh r0 s0 t k => h.go σ H δ S _ _ r0 s0 t fun b H1 S1 r1 x1 q => k _ H1 S1 r1 x1 q⟩
theorem dw_and1 (h : DT X dx a ua ga) : DW X dx (.BoolOp .And [a] pos) ua ga := ⟨pw_and1 h.pe, h.go⟩
theorem dw_or1 (h : DT X dx a ua ga) : DW X dx (.BoolOp .Or [a] pos) ua ga := ⟨pw_or1 h.pe, h.go⟩
theorem dw_and (h : DT X dx a ua ga) (h2 : DW X dx (.BoolOp .And (b :: rest) pos) ub gb) : DW X dx (.BoolOp .And (a :: b :: rest) pos) (tAnd ua ub) (dAnd ga gb) := by
  refine ⟨pw_and h.pe h2.pe, fun σ H δ S Q Qh r0 s0 t k => ?_⟩
  refine h.go σ H δ S _ _ r0 s0 t fun z H1 S1 r1 x1 q => ?_
  cases z with
  | false =>
    rw [if_neg Bool.false_ne_true] at q ⊢
    exact k _ H1 S1 r1 x1 q
  | true =>
    rw [if_pos rfl] at q ⊢
    exact h2.go σ H1 δ S1 Q Qh r1 (s0.ext x1) q (k.on x1)
theorem dw_or (h : DT X dx a ua ga) (h2 : DW X dx (.BoolOp .Or (b :: rest) pos) ub gb) : DW X dx (.BoolOp .Or (a :: b :: rest) pos) (tOr ua ub) (dOr ga gb) := by
  refine ⟨pw_or h.pe h2.pe, fun σ H δ S Q Qh r0 s0 t k => ?_⟩
  refine h.go σ H δ S _ _ r0 s0 t fun z H1 S1 r1 x1 q => ?_
  cases z with
  | true =>
    rw [if_pos rfl] at q ⊢
    exact k _ H1 S1 r1 x1 q
  | false =>
    rw [if_neg Bool.false_ne_true] at q ⊢
    exact h2.go σ H1 δ S1 Q Qh r1 (s0.ext x1) q (k.on x1)
theorem DW.dt (h : DW X dx e ua ga) : DT X dx e ua ga := ⟨h.pe.pt, h.go⟩
/-- as values: all True or False but the last -/
def dAndV (t u : DTE) : DTE := fun δ S Q => t δ S (isB fun k S1 => if k = true then u δ S1 Q else Q (.bl false) S1)
def dOrV (t u : DTE) : DTE := fun δ S Q => t δ S (isB fun k S1 => if k = true then Q (.bl true) S1 else u δ S1 Q)
def dNotV (t : DTE) : DTE := fun δ S Q => t δ S (isB fun k S1 => Q (.bl (!k)) S1)
theorem de_one {op} (h : DE X dx a ta fa) : DE X dx (.BoolOp op [a] pos) ta fa := ⟨pe_one h.pe, h.go⟩
theorem de_and (h : DE X dx a ta fa) (h2 : DE X dx (.BoolOp .And (b :: rest) pos) tb fb) : DE X dx (.BoolOp .And (a :: b :: rest) pos) (tAndV ta tb) (dAndV fa fb) := by
  refine ⟨pe_and h.pe h2.pe, fun σ H δ S Q Qh r0 s0 t k => ?_⟩
  refine h.go σ H δ S _ _ r0 s0 t fun v H1 d S1 r1 x1 d1 t1 => ?_
  obtain ⟨z, rfl, rfl, q⟩ := isB_run d1 t1
  refine ⟨z, rfl, ?_⟩
  cases z with
  | false =>
    rw [if_neg Bool.false_ne_true] at q ⊢
    exact k _ H1 _ S1 r1 x1 (.bl false) q
  | true =>
    rw [if_pos rfl] at q ⊢
    exact h2.go σ H1 δ S1 Q Qh r1 (s0.ext x1) q (k.on x1)
theorem de_or (h : DE X dx a ta fa) (h2 : DE X dx (.BoolOp .Or (b :: rest) pos) tb fb) : DE X dx (.BoolOp .Or (a :: b :: rest) pos) (tOrV ta tb) (dOrV fa fb) := by
  refine ⟨pe_or h.pe h2.pe, fun σ H δ S Q Qh r0 s0 t k => ?_⟩
  refine h.go σ H δ S _ _ r0 s0 t fun v H1 d S1 r1 x1 d1 t1 => ?_
  obtain ⟨z, rfl, rfl, q⟩ := isB_run d1 t1
  refine ⟨z, rfl, ?_⟩
  cases z with
  | true =>
    rw [if_pos rfl] at q ⊢
    exact k _ H1 _ S1 r1 x1 (.bl true) q
  | false =>
    rw [if_neg Bool.false_ne_true] at q ⊢
    exact h2.go σ H1 δ S1 Q Qh r1 (s0.ext x1) q (k.on x1)
theorem de_not (h : DE X dx a ta fa) : DE X dx (.UnaryOp .Not a pos) (tNotV ta) (dNotV fa) := by
  refine ⟨pe_not h.pe, fun σ H δ S Q Qh r0 s0 t k => ?_⟩
  refine h.go σ H δ S _ _ r0 s0 t fun v H1 d S1 r1 x1 d1 t1 => ?_
  obtain ⟨z, rfl, rfl, q⟩ := isB_run d1 t1
  exact ⟨z, rfl, k _ H1 _ S1 r1 x1 (.bl _) q⟩
def dIfE (c : DTT) (t u : DTE) : DTE := fun δ S Q => c δ S fun k S1 => if k = true then t δ S1 Q else u δ S1 Q
theorem de_if (hc : DT X dx c ua ga) (ha : DE X dx a ta fa) (hb : DE X dx b tb fb) : DE X dx (.IfExp c a b pos) (tIf ua ta tb) (dIfE ga fa fb) := by
  refine ⟨pe_ifExp hc.pe ha.pe hb.pe, fun σ H δ S Q Qh r0 s0 t k => ?_⟩
  refine hc.go σ H δ S _ _ r0 s0 t fun z H1 S1 r1 x1 q => ?_
  cases z with
  | true =>
    rw [if_pos rfl] at q ⊢
    exact ha.go σ H1 δ S1 Q Qh r1 (s0.ext x1) q (k.on x1)
  | false =>
    rw [if_neg Bool.false_ne_true] at q ⊢
    exact hb.go σ H1 δ S1 Q Qh r1 (s0.ext x1) q (k.on x1)

/-! ### unary operators -/
def dUn (f : D → Sto → (D → Sto → Prop) → Prop) (t : DTE) : DTE := fun δ S Q => t δ S fun d S1 => f d S1 Q
def UnD (K : PySem.W.Frag) (dx : Dx) (r : V → Hp → VK → Prop) (f : D → Sto → (D → Sto → Prop) → Prop) : Prop :=
  ∀ x p H S Q Qh, HR K dx H S → Dt K (Mu dx S) H x p → f p S Q → ThE K dx H S Q Qh → r x H Qh
theorem de_un {op : UnaryOp} {r} {f} (h : UnR X (unaryOp op) r) (o : UnD X.K dx r f) (ha : DE X dx a ta fa) : DE X dx (.UnaryOp op a pos) (tUn r ta) (dUn f fa) :=
  ⟨pe_un h ha.pe, fun σ H δ S Q Qh r0 s0 t k => ha.go σ H δ S _ _ r0 s0 t fun v H1 d S1 r1 x1 d1 t1 => o v d H1 S1 Q Qh r1 d1 t1 (k.on x1)⟩
def fNeg : D → Sto → (D → Sto → Prop) → Prop
  | .int i, S, Q => Q (.int (-i)) S
  | _, _, _ => False
theorem od_neg {K} : UnD K dx (rU fun i => .int (-i)) fNeg := by
  intro x p H S Q Qh r0 h t k
  cases h with
  | int i => exact ⟨i, rfl, k _ H _ S r0 Ext.refl (.int _) t⟩
  | _ => exact t.elim

/-! ### arguments, displays -/
def dNil : DTA := fun _ S Q => Q [] S
def dCons (t : DTE) (u : DTA) : DTA := fun δ S Q => t δ S fun d S1 => u δ S1 fun ds S2 => Q (d :: ds) S2
theorem da_nil : DA X dx [] tNil dNil := ⟨pa_nil, fun σ H δ S Q Qh r s t k => k [] H [] S r Ext.refl .nil t⟩
theorem cons_go {t : TE} {u : TA} {f : DTE} {g : DTA} (h1 : ∀ σ H δ S Q Qh, HR X.K dx H S → SR X.K dx σ H δ S → f δ S Q → ThE X.K dx H S Q Qh → t σ H Qh)
    (h2 : ∀ σ H δ S Q Qh, HR X.K dx H S → SR X.K dx σ H δ S → g δ S Q → ThA X.K dx H S Q Qh → u σ H Qh) :
    ∀ σ H δ S Q Qh, HR X.K dx H S → SR X.K dx σ H δ S → dCons f g δ S Q → ThA X.K dx H S Q Qh → tCons t u σ H Qh := by
  intro σ H δ S Q Qh r0 s0 t k
  refine h1 σ H δ S _ _ r0 s0 t fun v H1 d S1 r1 x1 d1 t1 => ?_
  refine h2 σ H1 δ S1 _ _ r1 (s0.ext x1) t1 fun vs H2 ds S2 r2 x2 d2 t2 => ?_
  exact k _ H2 _ S2 r2 (x1.trans x2) (.cons (d1.ext x2) d2) t2
theorem da_cons (ha : DE X dx e te fa) (hr : DA X dx es tr fr) (hs : starEach (e :: es) X.env = (false, eval e X.env) :: starEach es X.env := by rfl) : DA X dx (e :: es) (tCons te tr) (dCons fa fr) :=
  ⟨pa_cons ha.pe hr.pe hs, cons_go ha.go hr.go⟩
theorem dk_nil : DK X dx [] tNil dNil := ⟨pk_nil, fun σ H δ S Q Qh r s t k => k [] H [] S r Ext.refl .nil t⟩
theorem dk_cons {kws : List Keyword} {nm : Option Str} {kpos : Pos} (ha : DE X dx e te fa) (hr : DK X dx kws tr fr) : DK X dx (⟨nm, e, kpos⟩ :: kws) (tCons te tr) (dCons fa fr) :=
  ⟨pk_cons ha.pe hr.pe, cons_go ha.go hr.go⟩

/-- no more than fits into one object -/
def Fit (n : Nat) : Prop := n ≤ 16777216
theorem Fit.line {n : Nat} (h : Fit n) : n ≤ sizeLine := by rw [sizeLine_eq]; exact h
def dTup (t : DTA) : DTE := fun δ S Q => t δ S fun ds S1 => Fit ds.length ∧ Q (.tup ds) S1
def dLst (t : DTA) : DTE := fun δ S Q => t δ S fun ds S1 => Fit ds.length ∧ Q (.lst ds) S1
theorem new_tup {K : PySem.W.Frag} {H : Hp} {S : Sto} {p : Addr} {vs : List V} {ds : List D} (r : HR K dx H S) (n : H p = none) (a : DtAll K (Mu dx S) H vs ds) :
    HR K dx (upd H p (.tup vs)) S ∧ Ext (Mu dx S) H (Mu dx S) (upd H p (.tup vs)) ∧ Dt K (Mu dx S) (upd H p (.tup vs)) (.ref p) (.tup ds) :=
  ⟨r.same (same_new n), ext_new n, .tup (r.mu_ne n) (.inl upd_same) (a.ext (ext_new n))⟩
theorem new_lst {K : PySem.W.Frag} {H : Hp} {S : Sto} {p : Addr} {vs : List V} {ds : List D} (r : HR K dx H S) (n : H p = none) (a : DtAll K (Mu dx S) H vs ds) :
    HR K dx (upd H p (.lst vs)) S ∧ Ext (Mu dx S) H (Mu dx S) (upd H p (.lst vs)) ∧ Dt K (Mu dx S) (upd H p (.lst vs)) (.ref p) (.lst ds) :=
  ⟨r.same (same_new n), ext_new n, .lst (r.mu_ne n) upd_same (a.ext (ext_new n))⟩
theorem de_tup {x1} (h : DA X dx es tr fr) : DE X dx (.Tuple es x1 pos) (tTup tr) (dTup fr) := by
  refine ⟨pe_tup h.pe, fun σ H δ S Q Qh r0 s0 t k => ?_⟩
  refine h.go σ H δ S _ _ r0 s0 t fun vs H1 ds S1 r1 x1 d1 t1 => ⟨by rw [d1.length]; exact t1.1.line, fun p n => ?_⟩
  obtain ⟨r2, x2, d2⟩ := new_tup r1 n d1
  exact k _ _ _ S1 r2 (x1.trans x2) d2 t1.2
theorem de_lst (h : DA X dx es tr fr) : DE X dx (.List es pos) (tLst tr) (dLst fr) := by
  refine ⟨pe_lst h.pe, fun σ H δ S Q Qh r0 s0 t k => ?_⟩
  refine h.go σ H δ S _ _ r0 s0 t fun vs H1 ds S1 r1 x1 d1 t1 => ⟨by rw [d1.length]; exact t1.1.line, fun p n => ?_⟩
  obtain ⟨r2, x2, d2⟩ := new_lst r1 n d1
  exact k _ _ _ S1 r2 (x1.trans x2) d2 t1.2
/-- a list that will be changed -/
def dNew (t : DTA) : DTE := fun δ S Q => t δ S fun ds S1 => Fit ds.length ∧ ∀ p, Q (.adr p) ((p, ds) :: S1)
theorem de_new (h : DA X dx es tr fr) : DE X dx (.List es pos) (tLst tr) (dNew fr) := by
  refine ⟨pe_lst h.pe, fun σ H δ S Q Qh r0 s0 t k => ?_⟩
  refine h.go σ H δ S _ _ r0 s0 t fun vs H1 ds S1 r1 x1 d1 t1 => ⟨by rw [d1.length]; exact t1.1.line, fun p n => ?_⟩
  exact k _ _ _ _ (r1.grow n d1) (x1.trans (ext_own r1 n)) (.adr p) (t1.2 p)

/-! ### items, slices -/
theorem atI_all {K : PySem.W.Frag} {M : Mm} {H : Hp} {vs : List V} {ds : List D} {i : Int} {d : D} (h : DtAll K M H vs ds) (e : atI ds i = some d) : ∃ v, atI vs i = some v ∧ Dt K M H v d := by
  unfold atI at e ⊢
  rw [h.length]
  cases q : ixN ds.length i with
  | none => rw [q] at e; cases e
  | some j =>
    rw [q] at e
    exact h.get (i := j) e
theorem atI_map {α β : Type} {f : α → β} {xs : List α} {i : Int} {x : α} (e : atI xs i = some x) : atI (xs.map f) i = some (f x) := by
  unfold atI at e ⊢
  rw [List.length_map]
  cases q : ixN xs.length i with
  | none => rw [q] at e; cases e
  | some j =>
    rw [q] at e
    have e : xs[j]? = some x := e
    show (xs.map f)[j]? = some (f x)
    rw [List.getElem?_map, e]
    rfl
def fIx : F2
  | .tup ds, .int i, S, Q => opt (atI ds i) fun d => Q d S
  | .lst ds, .int i, S, Q => opt (atI ds i) fun d => Q d S
  | .fls ns, .int i, S, Q => opt (atI ns i) fun n => Q (.int n) S
  | .adr p, .int i, S, Q => opt (getS S p) fun ds => opt (atI ds i) fun d => Q d S
  | .str z, .int i, S, Q => z.length ≤ sizeLine ∧ opt (atI z.cps.toList i) fun c => Q (.str ⟨#[c]⟩) S
  | _, _, _, _ => False
theorem od_ix {K : PySem.W.Frag} : OpD K dx (rIx K) fIx := by
  intro x y p q H S Q Qh r0 hx hy t k
  cases hy with
  | int i =>
    cases hx with
    | tup n h a =>
      obtain ⟨d, e, t⟩ := opt_run t
      obtain ⟨v, e1, d1⟩ := atI_all a e
      exact .inr (.inl ⟨_, _, i, v, rfl, rfl, .inl h, e1, k _ H _ S r0 Ext.refl d1 t⟩)
    | ktup h a =>
      obtain ⟨d, e, t⟩ := opt_run t
      obtain ⟨v, e1, d1⟩ := atI_all a e
      exact .inr (.inl ⟨_, _, i, v, rfl, rfl, .inr h, e1, k _ H _ S r0 Ext.refl d1 t⟩)
    | lst n h a =>
      obtain ⟨d, e, t⟩ := opt_run t
      obtain ⟨v, e1, d1⟩ := atI_all a e
      exact .inl ⟨_, _, i, v, rfl, rfl, SqL.of h, e1, k _ H _ S r0 Ext.refl d1 t⟩
    | fls n h =>
      obtain ⟨d, e, t⟩ := opt_run t
      exact .inl ⟨_, _, i, _, rfl, rfl, .inl h, atI_map e, k _ H _ S r0 Ext.refl (.int d) t⟩
    | kfls h =>
      obtain ⟨d, e, t⟩ := opt_run t
      exact .inl ⟨_, _, i, _, rfl, rfl, .inr h, atI_map e, k _ H _ S r0 Ext.refl (.int d) t⟩
    | adr p =>
      obtain ⟨ds, g, t⟩ := opt_run t
      obtain ⟨d, e, t⟩ := opt_run t
      obtain ⟨_, vs, eH, al⟩ := r0.get g
      obtain ⟨v, e1, d1⟩ := atI_all al e
      exact .inl ⟨_, _, i, v, rfl, rfl, SqL.of eH, e1, k _ H _ S r0 Ext.refl d1 t⟩
    | str z =>
      obtain ⟨l, t⟩ := t
      obtain ⟨c, e, t⟩ := opt_run t
      exact .inr (.inr ⟨z, i, c, rfl, rfl, l, e, k _ H _ S r0 Ext.refl (.str _) t⟩)
    | _ => exact t.elim
  | _ => cases hx <;> exact t.elim
theorem de_ix (ha : DE X dx a ta fa) (hb : DE X dx b tb fb) (hs : PlainIx b := by exact fun _ _ => rfl) : DE X dx (.Subscript a b pos) (tOp (rIx X.K) ta tb) (dOp fIx fa fb) :=
  ⟨pe_ix ix_seq ha.pe hb.pe hs, op_go od_ix ha hb⟩

/-- the part from lo to hi -/
def cutD {α : Type} (xs : List α) (lo hi : Option Int) : List α := (xs.drop (HT.sIx xs.length 0 lo)).take (HT.sIx xs.length xs.length hi - HT.sIx xs.length 0 lo)
theorem cut_all {K : PySem.W.Frag} {M : Mm} {H : Hp} {vs : List V} {ds : List D} (lo hi : Option Int) (h : DtAll K M H vs ds) : DtAll K M H (cutV vs lo hi) (cutD ds lo hi) := by
  unfold cutV cutD
  rw [h.length]
  exact (h.drop _).take _
theorem cut_map {α β : Type} (f : α → β) (xs : List α) (lo hi : Option Int) : cutD (xs.map f) lo hi = (cutD xs lo hi).map f := by
  unfold cutD
  rw [List.length_map, List.map_take, List.map_drop]
theorem cut_whole {α : Type} {xs : List α} {lo hi : Option Int} (h : HT.sIx xs.length 0 lo = 0 ∧ HT.sIx xs.length xs.length hi = xs.length) : cutD xs lo hi = xs := by
  unfold cutD
  rw [h.1, h.2]
  simp
abbrev DTO := Sl → Sto → (Option Int → Sto → Prop) → Prop
structure DO (X : Cx) (dx : Dx) (e : Option Expr) (te : TO) (t : DTO) : Prop where
  pe : PO X e te
  go : ∀ σ H δ S Q Qh, HR X.K dx H S → SR X.K dx σ H δ S → t δ S Q → (∀ o H' S', HR X.K dx H' S' → Ext (Mu dx S) H (Mu dx S') H' → Q o S' → Qh o H') → te σ H Qh
def dNoPart : DTO := fun _ S Q => Q none S
def isI (Q : Int → Sto → Prop) : D → Sto → Prop
  | .int i, S => Q i S
  | _, _ => False
def dPart (t : DTE) : DTO := fun δ S Q => t δ S (isI fun i S1 => Q (some i) S1)
theorem do_none : DO X dx none tNoPart dNoPart := ⟨po_none, fun σ H δ S Q Qh r s t k => k none H S r Ext.refl t⟩
theorem do_some (h : DE X dx e te fa) : DO X dx (some e) (tPart te) (dPart fa) := by
  refine ⟨po_some h.pe, fun σ H δ S Q Qh r0 s0 t k => ?_⟩
  refine h.go σ H δ S _ _ r0 s0 t fun v H1 d S1 r1 x1 d1 t1 => ?_
  cases d1 with
  | int i => exact ⟨i, rfl, k _ H1 S1 r1 x1 t1⟩
  | _ => exact t1.elim
def fSl : D → Option Int → Option Int → Sto → (D → Sto → Prop) → Prop
  | .tup ds, lo, hi, S, Q => Q (.tup (cutD ds lo hi)) S
  | .lst ds, lo, hi, S, Q => Q (.lst (cutD ds lo hi)) S
  | .fls ns, lo, hi, S, Q => Q (.lst ((cutD ns lo hi).map D.int)) S
  | .adr p, lo, hi, S, Q => opt (getS S p) fun ds => Q (.lst (cutD ds lo hi)) S
  | _, _, _, _, _ => False
def rSl (K : PySem.W.Frag) : V → Option Int → Option Int → Hp → VK → Prop := fun x lo hi H Q => rSlL K x lo hi H Q ∨ rSlA K x lo hi H Q
theorem sl_go {K : PySem.W.Frag} : ∀ x p lo hi H S Q Qh, HR K dx H S → Dt K (Mu dx S) H x p → fSl p lo hi S Q → ThE K dx H S Q Qh → rSl K x lo hi H Qh := by
  intro x p lo hi H S Q Qh r0 h t k
  have tp : ∀ {a : Addr} {xs : List V} {ds : List D}, SqT K H a xs → DtAll K (Mu dx S) H xs ds → Dt K (Mu dx S) H (.ref a) (.tup ds) → Q (.tup (cutD ds lo hi)) S → rSl K (.ref a) lo hi H Qh := by
    intro a xs ds h al d t
    refine .inr ⟨a, xs, rfl, h, fun e => ?_, fun _ p n => ?_⟩
    · rw [al.length] at e
      rw [cut_whole e] at t
      exact k _ H _ S r0 Ext.refl d t
    · obtain ⟨r2, x2, d2⟩ := new_tup r0 n (cut_all lo hi al)
      exact k _ _ _ S r2 x2 d2 t
  have lp : ∀ {a : Addr} {xs : List V} {ds : List D}, SqL K H a xs → DtAll K (Mu dx S) H xs ds → Q (.lst (cutD ds lo hi)) S → rSl K (.ref a) lo hi H Qh := by
    intro a xs ds h al t
    refine .inl ⟨a, xs, rfl, h, fun p n => ?_⟩
    obtain ⟨r2, x2, d2⟩ := new_lst r0 n (cut_all lo hi al)
    exact k _ _ _ S r2 x2 d2 t
  cases h with
  | tup n h al => exact tp (.inl h) al (.tup n h al) t
  | ktup h al => exact tp (.inr h) al (.ktup h al) t
  | lst n h al => exact lp (SqL.of h) al t
  | fls n h => exact lp (.inl h) (DtAll.ints _) (by rw [cut_map]; exact t)
  | kfls h => exact lp (.inr h) (DtAll.ints _) (by rw [cut_map]; exact t)
  | adr p =>
    obtain ⟨ds, g, t⟩ := opt_run t
    obtain ⟨_, vs, eH, al⟩ := r0.get g
    exact lp (SqL.of eH) al t
  | _ => exact t.elim
def dSl (t : DTE) (l h : DTO) : DTE := fun δ S Q => t δ S fun d S1 => l δ S1 fun lo S2 => h δ S2 fun hi S3 => fSl d lo hi S3 Q
theorem de_slice {lo hi : Option Expr} {tl th : TO} {fl fh : DTO} {p2 : Pos} (he : DE X dx e te fa) (hl : DO X dx lo tl fl) (hu : DO X dx hi th fh) : DE X dx (.Subscript e (.Slice lo hi none p2) pos) (tSl (rSl X.K) te tl th) (dSl fa fl fh) := by
  refine ⟨pe_slice (sl_list.or sl_tupA) he.pe hl.pe hu.pe, fun σ H δ S Q Qh r0 s0 t k => ?_⟩
  refine he.go σ H δ S _ _ r0 s0 t fun v H1 d S1 r1 x1 d1 t1 => ?_
  refine hl.go σ H1 δ S1 _ _ r1 (s0.ext x1) t1 fun o H2 S2 r2 x2 t2 => ?_
  refine hu.go σ H2 δ S2 _ _ r2 (s0.ext (x1.trans x2)) t2 fun o' H3 S3 r3 x3 t3 => ?_
  exact sl_go v d o o' H3 S3 Q Qh r3 (d1.ext (x2.trans x3)) t3 (k.on ((x1.trans x2).trans x3))
/-- xs[::-1] of a list -/
def fRev : D → Sto → (D → Sto → Prop) → Prop
  | .lst ds, S, Q => Q (.lst ds.reverse) S
  | .adr p, S, Q => opt (getS S p) fun ds => Q (.lst ds.reverse) S
  | _, _, _ => False
theorem de_rev {k' : Nat} {p1 p2 p3 : Pos} (he : DE X dx e te fa) : DE X dx (.Subscript e (.Slice none none (some (.UnaryOp .USub (.Constant (.int 1) k' p1) p2)) p3) pos) (tRevL X.K te) (dUn fRev fa) := by
  refine ⟨pe_revL he.pe, fun σ H δ S Q Qh r0 s0 t k => ?_⟩
  refine he.go σ H δ S _ _ r0 s0 t fun v H1 d S1 r1 x1 d1 t1 => ?_
  have lp : ∀ {a : Addr} {xs : List V} {ds : List D}, SqL X.K H1 a xs → DtAll X.K (Mu dx S1) H1 xs ds → Q (.lst ds.reverse) S1 →
      ∃ (a' : Addr) (ys : List V), V.ref a = V.ref a' ∧ SqL X.K H1 a' ys ∧ ∀ p, H1 p = none → Qh (.ref p) (upd H1 p (.lst ys.reverse)) := by
    intro a xs ds h al t
    refine ⟨a, xs, rfl, h, fun p n => ?_⟩
    obtain ⟨r2, x2, d2⟩ := new_lst r1 n al.reverse
    exact k _ _ _ S1 r2 (x1.trans x2) d2 t
  cases d1 with
  | lst n h al => exact lp (SqL.of h) al t1
  | adr p =>
    obtain ⟨ds, g, t1⟩ := opt_run t1
    obtain ⟨_, vs, eH, al⟩ := r1.get g
    exact lp (SqL.of eH) al t1
  | _ => exact t1.elim
end
end DL
/-! Readings over data: targets, what is walked, statements, loops, comprehensions. -/
namespace DL
open PySem PySem.Spec L2 Gd

abbrev DTG := D → Sl → (Sl → Prop) → Prop
abbrev DTGs := List D → Sl → (Sl → Prop) → Prop
structure DG (X : Cx) (dx : Dx) (tg : Expr) (g : TG) (t : DTG) (own : List Nat) : Prop where
  pe : PG X tg g
  go : ∀ v d σ H δ S Q Qh, HR X.K dx H S → SR X.K dx σ H δ S → Dt X.K (Mu dx S) H v d → t d δ Q →
    (∀ σ' δ', SR X.K dx σ' H δ' S → σ'.length = σ.length → (∀ j, j ∉ own → σ'[j]? = σ[j]?) → Q δ' → Qh σ' H) → g v σ H Qh
structure DGs (X : Cx) (dx : Dx) (tg : List Expr) (g : TGs) (t : DTGs) (own : List Nat) : Prop where
  pe : PGs X tg g
  go : ∀ vs ds σ H δ S Q Qh, HR X.K dx H S → SR X.K dx σ H δ S → DtAll X.K (Mu dx S) H vs ds → t ds δ Q →
    (∀ σ' δ', SR X.K dx σ' H δ' S → σ'.length = σ.length → (∀ j, j ∉ own → σ'[j]? = σ[j]?) → Q δ' → Qh σ' H) → g vs σ H Qh
section
variable {X : Cx} {dx : Dx} {pos : Pos} {tg e : Expr} {es : List Expr} {te : TE} {fa : DTE}
def dgName (i : Nat) : DTG := fun d δ Q => Q (put δ i d)
theorem dg_name {i : Nat} {x : Str} (hN : X.N.Nodup) (hi : X.N[i]? = some x) (hx : Loc X.env.scope x) (hf : X.fn x = true ∨ X.env.scope.names.lookup x = some .local := by first | exact .inl rfl | exact .inr rfl | assumption) :
    DG X dx (.Name x pos) (gName i) (dgName i) [i] := by
  refine ⟨pg_name hN hi hx hf, fun v d σ H δ S Q Qh r s h t k => ?_⟩
  have t : Q (put δ i d) := t
  rw [put_set] at t
  refine k _ _ (s.set i h) (by rw [List.length_set]) (fun j hj => ?_) t
  rw [List.getElem?_set_ne (fun z => hj (by simp [z]))]
def dgNil : DTGs := fun ds δ Q => match ds with
  | [] => Q δ
  | _ :: _ => False
def dgCons (t : DTG) (u : DTGs) : DTGs := fun ds δ Q => match ds with
  | [] => False
  | d :: r => t d δ fun δ' => u r δ' Q
theorem dgs_nil : DGs X dx [] gNil dgNil [] := by
  refine ⟨pgs_nil, fun vs ds σ H δ S Q Qh r s h t k => ?_⟩
  cases h with
  | nil => exact ⟨rfl, k σ δ s rfl (fun _ _ => rfl) t⟩
  | cons _ _ => exact t.elim
theorem dgs_cons {g : TG} {u : TGs} {f : DTG} {w : DTGs} {o1 o2 : List Nat} (h1 : DG X dx e g f o1) (h2 : DGs X dx es u w o2) (hl : PGs X (e :: es) (gCons g u) := by exact pgs_cons (by assumption) (by assumption)) : DGs X dx (e :: es) (gCons g u) (dgCons f w) (o1 ++ o2) := by
  refine ⟨hl, fun vs ds σ H δ S Q Qh r s h t k => ?_⟩
  cases h with
  | nil => exact t.elim
  | cons a b =>
    refine ⟨_, _, rfl, ?_⟩
    refine h1.go _ _ σ H δ S _ _ r s a t fun σ1 δ1 s1 l1 o1' t1 => ?_
    refine h2.go _ _ σ1 H δ1 S _ _ r s1 b t1 fun σ2 δ2 s2 l2 o2' t2 => ?_
    refine k σ2 δ2 s2 (l2.trans l1) (fun j hj => ?_) t2
    rw [o2' j fun z => hj (List.mem_append_right _ z), o1' j fun z => hj (List.mem_append_left _ z)]
def dgTup (n : Nat) (t : DTGs) : DTG := fun d δ Q => match d with
  | .tup ds => ds.length = n ∧ t ds δ Q
  | _ => False
theorem dg_tup {k : Nat} {g : TGs} {f : DTGs} {n : Nat} {o : List Nat} (h : DGs X dx es g f o) (hp : PG X (.Tuple es k pos) (gTup X.K n g)) : DG X dx (.Tuple es k pos) (gTup X.K n g) (dgTup n f) o := by
  refine ⟨hp, fun v d σ H δ S Q Qh r s hd t kk => ?_⟩
  cases d with
  | tup ds =>
    obtain ⟨a, xs, rfl, hs, al⟩ := hd.sqT
    exact ⟨a, xs, rfl, hs, al.length.trans t.1, h.go _ _ σ H δ S _ _ r s al t.2 kk⟩
  | _ => exact t.elim
end

/-! ### what is walked -/
def Walks (K : PySem.W.Frag) (dx : Dx) (J : It) (xs : List D) (S0 : Sto) (H0 : Hp) : Prop :=
  ∃ G Y, Walk J xs.length G Y ∧ ∀ M H, (∀ b, Mm.mu M b → H b ≠ none) → ExtD (Mu dx S0) H0 M H → G H ∧
    ∀ i x H', i < xs.length → Y i H x H' → Same H H' ∧ ∃ d, xs[i]? = some d ∧ Dt K M H' x d
structure DI (X : Cx) (dx : Dx) (tg iter : Expr) (wi : TI) (t : DTA) : Prop where
  pe : PI X tg iter wi
  go : ∀ σ H δ S Q R, HR X.K dx H S → SR X.K dx σ H δ S → t δ S Q →
    (∀ J H' xs S', HR X.K dx H' S' → Ext (Mu dx S) H (Mu dx S') H' → Walks X.K dx J xs S' H' → Q xs S' → R J H') → wi σ H R
section
variable {X : Cx} {dx : Dx} {pos : Pos} {tg e e2 : Expr} {te : TE} {fa : DTE} {ta : TA} {ga : DTA}
def iSeq (K : PySem.W.Frag) (tl : TE) : TI := fun σ H R => tl σ H fun x H1 => ∃ a, x = .ref a ∧
  ((∃ xs, SqL K H1 a xs ∧ R (Itl K a) H1) ∨ (∃ xs, SqT K H1 a xs ∧ R (Itt K a) H1))
theorem pi_seq (hl : PE X e te) : PI X tg e (iSeq X.K te) := by
  constructor
  intro pins s σ H R I want
  apply thn (hl.run pins s σ H _ I want)
  rintro v s1 ⟨x, H1, I1, r1, a, rfl, alt⟩
  obtain rfl : v = .ref a := r1
  have fresh : FpOk X pins H1 s1.heap.objs.size := I1.fpOk (Nat.le_refl _) (I1.hok.fresh (Nat.le_refl _))
  rcases alt with ⟨xs, sq, q⟩ | ⟨xs, sq, q⟩
  · obtain ⟨its, _, pl, _⟩ := I1.list sq
    apply wpAny_pyIter_list pl.isList
    exact ⟨_, [s1.heap.objs.size], _, _, H1, rfl, I1.kept (fun b o h => Heap.get?_push_of_some _ h), turn_list a _,
      ⟨_, Heap.get?_push_size _ rfl, rfl, rfl⟩, fun b hb => by rw [List.mem_singleton.mp hb]; exact fresh, q⟩
  · obtain ⟨its, _, pt, _⟩ := I1.tuple sq
    apply wpAny_pyIter_tuple (show s1.heap.IsTuple a its.toArray from pt)
    exact ⟨_, [s1.heap.objs.size], _, _, H1, rfl, I1.kept (fun b o h => Heap.get?_push_of_some _ h), turn_tuple a _,
      ⟨_, Heap.get?_push_size _ rfl, rfl, rfl⟩, fun b hb => by rw [List.mem_singleton.mp hb]; exact fresh, q⟩
theorem walks_lst {K : PySem.W.Frag} {S : Sto} {H : Hp} {a : Addr} {vs : List V} {ds : List D} (al : DtAll K (Mu dx S) H vs ds)
    (st : ∀ M H', ExtD (Mu dx S) H M H' → SqL K H' a vs) : Walks K dx (Itl K a) ds S H := by
  refine ⟨_, _, al.length ▸ walk_list (K := K) (a := a) (xs := vs), fun S1 H1 r1 x1 => ⟨st _ _ x1, fun i x H2 hi y => ?_⟩⟩
  obtain ⟨rfl, y⟩ := y
  obtain ⟨d, e1, d1⟩ := (al.extD x1).getV y
  exact ⟨Same.refl _, d, e1, d1⟩
theorem walks_tup {K : PySem.W.Frag} {S : Sto} {H : Hp} {a : Addr} {vs : List V} {ds : List D} (al : DtAll K (Mu dx S) H vs ds)
    (st : ∀ M H', ExtD (Mu dx S) H M H' → SqT K H' a vs) : Walks K dx (Itt K a) ds S H := by
  refine ⟨_, _, al.length ▸ walk_tup (K := K) (a := a) (xs := vs), fun S1 H1 r1 x1 => ⟨st _ _ x1, fun i x H2 hi y => ?_⟩⟩
  obtain ⟨rfl, y⟩ := y
  obtain ⟨d, e1, d1⟩ := (al.extD x1).getV y
  exact ⟨Same.refl _, d, e1, d1⟩
/-- the items of a list or a tuple -/
def items (Q : List D → Sto → Prop) : D → Sto → Prop
  | .tup ds, S => Q ds S
  | .lst ds, S => Q ds S
  | .fls ns, S => Q (ns.map D.int) S
  | _, _ => False
def dSeq (t : DTE) : DTA := fun δ S Q => t δ S (items Q)
theorem di_seq (h : DE X dx e te fa) : DI X dx tg e (iSeq X.K te) (dSeq fa) := by
  refine ⟨pi_seq h.pe, fun σ H δ S Q R r0 s0 t k => ?_⟩
  refine h.go σ H δ S _ _ r0 s0 t fun v H1 d S1 r1 x1 d1 t1 => ?_
  cases d1 with
  | tup n hr al => exact ⟨_, rfl, .inr ⟨_, .inl hr, k _ H1 _ S1 r1 x1 (walks_tup al fun S' H' x => .inl (x.rd n hr)) t1⟩⟩
  | ktup hr al => exact ⟨_, rfl, .inr ⟨_, .inr hr, k _ H1 _ S1 r1 x1 (walks_tup al fun S' H' x => .inr hr) t1⟩⟩
  | lst n hr al => exact ⟨_, rfl, .inl ⟨_, SqL.of hr, k _ H1 _ S1 r1 x1 (walks_lst al fun S' H' x => SqL.of (x.keep _ _ n hr)) t1⟩⟩
  | fls n hr => exact ⟨_, rfl, .inl ⟨_, .inl hr, k _ H1 _ S1 r1 x1 (walks_lst (DtAll.ints _) fun S' H' x => .inl (x.rd n hr)) t1⟩⟩
  | kfls hr => exact ⟨_, rfl, .inl ⟨_, .inr hr, k _ H1 _ S1 r1 x1 (walks_lst (DtAll.ints _) fun S' H' x => .inr hr) t1⟩⟩
  | _ => exact t1.elim
/-- lo, lo + c, .., n of them -/
def rngD (lo c : Int) (n : Nat) : List D := (List.range n).map fun (i : Nat) => D.int (lo + (i : Int) * c)
theorem rngD_len {lo c : Int} {n : Nat} : (rngD lo c n).length = n := by
  unfold rngD
  rw [List.length_map, List.length_range]
theorem rngD_at {lo c : Int} {n i : Nat} (h : i < n) : (rngD lo c n)[i]? = some (.int (lo + (i : Int) * c)) := by
  unfold rngD
  rw [List.getElem?_map, List.getElem?_range h]
  rfl
theorem walks_rng {K : PySem.W.Frag} {S : Sto} {H : Hp} {lo : Int} {n : Nat} : Walks K dx (Itr lo n) (rngD lo 1 n) S H := by
  have w := walk_range (lo := lo) (n := n)
  refine ⟨_, _, by rw [rngD_len]; exact w, fun S1 H1 r1 x1 => ⟨trivial, fun i x H2 hi y => ?_⟩⟩
  obtain ⟨rfl, rfl⟩ := y
  rw [rngD_len] at hi
  exact ⟨Same.refl _, _, rngD_at hi, by rw [Int.mul_one]; exact .int _⟩
theorem walks_rngC {K : PySem.W.Frag} {S : Sto} {H : Hp} {lo c : Int} {n : Nat} : Walks K dx (Itc lo c n) (rngD lo c n) S H := by
  have w := walk_rangeC (lo := lo) (c := c) (n := n)
  refine ⟨_, _, by rw [rngD_len]; exact w, fun S1 H1 r1 x1 => ⟨trivial, fun i x H2 hi y => ?_⟩⟩
  obtain ⟨rfl, rfl⟩ := y
  rw [rngD_len] at hi
  exact ⟨Same.refl _, _, rngD_at hi, .int _⟩
/-- small enough for a range -/
def Rg (i : Int) : Prop := -(2 ^ 62) ≤ i ∧ i < 2 ^ 62
def fRng1 (Q : List D → Sto → Prop) : List D → Sto → Prop
  | [.int j], S => Rg j ∧ Q (rngD 0 1 j.toNat) S
  | _, _ => False
def dRng1 (t : DTA) : DTA := fun δ S Q => t δ S (fRng1 Q)
theorem di_range1 {a : Expr} {p : Pos} (hg : Gl X "range") (hm : X.mg "range" = none) (ha : DA X dx [a] ta ga) (hs : starEach [a] X.env = [(false, eval a X.env)] := by rfl) :
    DI X dx tg (.Call (.Name "range" p) [a] [] pos) (iRng1 ta) (dRng1 ga) := by
  refine ⟨pi_range1 hg hm ha.pe hs, fun σ H δ S Q R r0 s0 t k => ?_⟩
  refine ha.go σ H δ S _ _ r0 s0 t fun vs H1 ds S1 r1 x1 d1 t1 => ?_
  cases d1 with
  | nil => exact t1.elim
  | cons h1 h2 =>
    cases h1 with
    | int j =>
      cases h2 with
      | nil => exact ⟨j, rfl, t1.1.1, t1.1.2, k _ H1 _ S1 r1 x1 walks_rng t1.2⟩
      | cons _ _ => exact t1.elim
    | _ => exact t1.elim
def fRng2 (Q : List D → Sto → Prop) : List D → Sto → Prop
  | [.int i, .int j], S => Rg i ∧ Rg j ∧ Q (rngD i 1 (j - i).toNat) S
  | _, _ => False
def dRng2 (t : DTA) : DTA := fun δ S Q => t δ S (fRng2 Q)
theorem di_range2 {a b : Expr} {p : Pos} (hg : Gl X "range") (hm : X.mg "range" = none) (ha : DA X dx [a, b] ta ga) (hs : starEach [a, b] X.env = [(false, eval a X.env), (false, eval b X.env)] := by rfl) (hs2 : starEach [b] X.env = [(false, eval b X.env)] := by rfl) :
    DI X dx tg (.Call (.Name "range" p) [a, b] [] pos) (iRng2 ta) (dRng2 ga) := by
  refine ⟨pi_range2 hg hm ha.pe hs hs2, fun σ H δ S Q R r0 s0 t k => ?_⟩
  refine ha.go σ H δ S _ _ r0 s0 t fun vs H1 ds S1 r1 x1 d1 t1 => ?_
  cases d1 with
  | nil => exact t1.elim
  | cons h1 h2 =>
    cases h1 with
    | int i =>
      cases h2 with
      | nil => exact t1.elim
      | cons h3 h4 =>
        cases h3 with
        | int j =>
          cases h4 with
          | nil => exact ⟨i, j, rfl, ⟨t1.1.1, t1.1.2, t1.2.1.1, t1.2.1.2⟩, k _ H1 _ S1 r1 x1 walks_rng t1.2.2⟩
          | cons _ _ => exact t1.elim
        | _ => exact t1.elim
    | _ => exact t1.elim
/-- range(i, j, -1) -/
def fRng3 (Q : List D → Sto → Prop) : List D → Sto → Prop
  | [.int i, .int j, .int c], S => c = -1 ∧ Rg i ∧ Rg j ∧ Q (rngD i (-1) (i - j).toNat) S
  | _, _ => False
def dRng3 (t : DTA) : DTA := fun δ S Q => t δ S (fRng3 Q)
theorem di_range3 {a b c : Expr} {p : Pos} (h : PI X tg (.Call (.Name "range" p) [a, b, c] [] pos) (iRng3 ta)) (ha : DA X dx [a, b, c] ta ga) :
    DI X dx tg (.Call (.Name "range" p) [a, b, c] [] pos) (iRng3 ta) (dRng3 ga) := by
  refine ⟨h, fun σ H δ S Q R r0 s0 t k => ?_⟩
  refine ha.go σ H δ S _ _ r0 s0 t fun vs H1 ds S1 r1 x1 d1 t1 => ?_
  match vs, ds, d1, t1 with
  | _, [.int i, .int j, .int c], .cons (.int _) (.cons (.int _) (.cons (.int _) .nil)), t1 =>
    obtain ⟨rfl, h1, h2, t2⟩ := t1
    exact ⟨i, j, -1, _, rfl, RgC.neg h1.1 h1.2 h2.1 h2.2, k _ H1 _ S1 r1 x1 walks_rngC t2⟩
end
end DL
/-! Readings over data: statements, loops, comprehensions, calls, a def by its body. -/
namespace DL
open PySem PySem.Spec L2 Gd

section
variable {X : Cx} {dx : Dx} {pos : Pos} {tg e : Expr} {es : List Expr} {te : TE} {fa : DTE} {st : Stmt} {sts : List Stmt} {ts us : TS} {t u : DTS} {uc : TT} {gc : DTT}

/-! ### statements -/
def dNext : DTS := fun DD δ S => DD.nx δ S
def dSeqS (t u : DTS) : DTS := fun DD δ S => t { DD with nx := u DD } δ S
theorem dss_nil : DSs X dx [] tNext dNext := ⟨pss_nil, fun σ H δ S DD E r s h k => k.nx σ H δ S r Ext.refl s h⟩
theorem dss_one (h : DS X dx st ts t) : DSs X dx [st] ts t := ⟨pss_one h.pe, h.go⟩
theorem dss_cons (h : DS X dx st ts t) (h2 : DSs X dx sts us u) : DSs X dx (st :: sts) (tSeq ts us) (dSeqS t u) := by
  refine ⟨pss_cons h.pe h2.pe, fun σ H δ S DD E r s q k => ?_⟩
  refine h.go σ H δ S { DD with nx := u DD } _ r s q ⟨fun σ1 H1 δ1 S1 r1 x1 s1 q1 => ?_, k.bk, k.ct, k.rt⟩
  exact h2.go σ1 H1 δ1 S1 DD E r1 s1 q1 (k.on x1)
/-- the list in slot i is not changed any more -/
def dFrz (i : Nat) (t : DTS) : DTS := fun DD δ S => match gt δ i with
  | some (.adr p) => opt (getS S p) fun ds => t DD (put δ i (.lst ds)) (delS S p)
  | _ => t DD δ S
theorem dss_frz (i : Nat) (h : DSs X dx sts ts t) : DSs X dx sts ts (dFrz i t) := by
  refine ⟨h.pe, fun σ H δ S DD E r s q k => ?_⟩
  unfold dFrz at q
  split at q
  · rename_i p g
    obtain ⟨ds, eg, q⟩ := opt_run q
    obtain ⟨v, e1, d1⟩ := s.ix i _ (gt_ix g)
    cases d1
    rw [put_set] at q
    have r2 := r.del p
    have s2 := (s.ext (ext_del (p := p))).set i (r.frozen eg)
    have e2 : σ.set i (some (.ref p)) = σ := by
      apply List.ext_getElem?
      intro j
      by_cases hj : i = j
      · subst hj
        rw [List.getElem?_set_self (List.getElem?_eq_some_iff.mp e1).1, e1]
      · rw [List.getElem?_set_ne hj]
    rw [e2] at s2
    exact h.go σ H _ _ DD E r2 s2 q (k.on ext_del)
  · exact h.go σ H δ S DD E r s q k
theorem ds_pass : DS X dx (.Pass pos) tNext dNext := ⟨ps_pass, fun σ H δ S DD E r s h k => k.nx σ H δ S r Ext.refl s h⟩
def dBreak : DTS := fun DD δ S => DD.bk δ S
def dCont : DTS := fun DD δ S => DD.ct δ S
theorem ds_break : DS X dx (.Break pos) tBreak dBreak := ⟨ps_break, fun σ H δ S DD E r s h k => k.bk σ H δ S r Ext.refl s h⟩
theorem ds_continue : DS X dx (.Continue pos) tCont dCont := ⟨ps_continue, fun σ H δ S DD E r s h k => k.ct σ H δ S r Ext.refl s h⟩
def dDrop (f : DTE) : DTS := fun DD δ S => f δ S fun _ S1 => DD.nx δ S1
theorem ds_expr (h : DE X dx e te fa) (hs : swapsWith e none pos.line X.env = pure false := by rfl) : DS X dx (.Expr e pos) (tDrop te) (dDrop fa) :=
  ⟨ps_expr h.pe hs, fun σ H δ S DD E r s q k => h.go σ H δ S _ _ r s q fun v H1 d S1 r1 x1 d1 t1 => k.nx σ H1 δ S1 r1 x1 (s.ext x1) t1⟩
/-- what is handed back: a list of one's own is not changed any more -/
def frzO (p : Addr) : Option (List D) → D
  | some ds => .lst ds
  | none => .adr p
def frz (S : Sto) : D → D
  | .adr p => frzO p (getS S p)
  | d => d
theorem frz_ok {K : PySem.W.Frag} {H : Hp} {S : Sto} {v : V} {d : D} (r : HR K dx H S) (h : Dt K (Mu dx S) H v d) : Dt K (Fo dx.M0) H v (frz S d) := by
  have le : Ext (Mu dx S) H (Fo dx.M0) H := Ext.less (fun b m => m.elim .inl False.elim) (fun b m => m.elim)
  cases h with
  | adr p =>
    show Dt K (Fo dx.M0) H (.ref p) (frzO p (getS S p))
    cases g : getS S p with
    | none => exact .adr p
    | some ds =>
      obtain ⟨m, vs, e, al⟩ := r.get g
      exact .lst (fun z => z.elim (r.own_not m) False.elim) e (al.ext le)
  | non => exact .non
  | bl k => exact .bl k
  | int i => exact .int i
  | str x => exact .str x
  | tup n h a => exact Dt.ext le (.tup n h a)
  | ktup h a => exact Dt.ext le (.ktup h a)
  | lst n h a => exact Dt.ext le (.lst n h a)
  | fls n h => exact Dt.ext le (.fls n h)
  | kfls h => exact Dt.ext le (.kfls h)
def dRet (f : DTE) : DTS := fun DD δ S => f δ S fun d S1 => DD.rt (frz S1 d) S1
theorem ds_ret (h : DE X dx e te fa) : DS X dx (.Return (some e) pos) (tRet te) (dRet fa) :=
  ⟨ps_ret h.pe, fun σ H δ S DD E r s q k => h.go σ H δ S _ _ r s q fun v H1 d S1 r1 x1 d1 t1 => k.rt v H1 _ S1 r1 x1 (frz_ok r1 d1) t1⟩
def dRetN : DTS := fun DD _ S => DD.rt .non S
theorem ds_retN : DS X dx (.Return none pos) tRetN dRetN := ⟨ps_retN, fun σ H δ S DD E r s q k => k.rt .non H .non S r Ext.refl .non q⟩
def dIfS (c : DTT) (t u : DTS) : DTS := fun DD δ S => c δ S fun b S1 => if b = true then t DD δ S1 else u DD δ S1
theorem ds_if {c : Expr} {p q : List Stmt} (hc : DT X dx c uc gc) (ha : DSs X dx p ts t) (hb : DSs X dx q us u) : DS X dx (.If c p q pos) (tIfS uc ts us) (dIfS gc t u) := by
  refine ⟨ps_if hc.pe ha.pe hb.pe, fun σ H δ S DD E r s w k => ?_⟩
  refine hc.go σ H δ S _ _ r s w fun b H1 S1 r1 x1 w1 => ?_
  cases b with
  | true =>
    rw [if_pos rfl] at w1 ⊢
    exact ha.go σ H1 δ S1 DD E r1 (s.ext x1) w1 (k.on x1)
  | false =>
    rw [if_neg Bool.false_ne_true] at w1 ⊢
    exact hb.go σ H1 δ S1 DD E r1 (s.ext x1) w1 (k.on x1)
def dAsg (f : DTE) (g : DTG) : DTS := fun DD δ S => f δ S fun d S1 => g d δ fun δ1 => DD.nx δ1 S1
theorem asg_go {g : TG} {f : DTG} {o : List Nat} (h : DE X dx e te fa) (hg : DG X dx tg g f o) :
    ∀ σ H δ S DD E, HR X.K dx H S → SR X.K dx σ H δ S → dAsg fa f DD δ S → ThS X.K dx H S DD E → tAsg te g E σ H := by
  intro σ H δ S DD E r s q k
  refine h.go σ H δ S _ _ r s q fun v H1 d S1 r1 x1 d1 t1 => ?_
  exact hg.go v d σ H1 δ S1 _ _ r1 (s.ext x1) d1 t1 fun σ2 δ2 s2 _ _ t2 => k.nx σ2 H1 δ2 S1 r1 x1 s2 t2
theorem ds_asg {g : TG} {f : DTG} {o : List Nat} (h : DE X dx e te fa) (hg : DG X dx tg g f o) (hp : PS X st (tAsg te g)) : DS X dx st (tAsg te g) (dAsg fa f) :=
  ⟨hp, asg_go h hg⟩
def dSet (i : Nat) (f : DTE) : DTS := fun DD δ S => f δ S fun d S1 => DD.nx (put δ i d) S1
theorem set_go {i : Nat} (h : ∀ σ H δ S Q Qh, HR X.K dx H S → SR X.K dx σ H δ S → fa δ S Q → ThE X.K dx H S Q Qh → te σ H Qh) :
    ∀ σ H δ S DD E, HR X.K dx H S → SR X.K dx σ H δ S → dSet i fa DD δ S → ThS X.K dx H S DD E → tAsg te (gName i) E σ H := by
  intro σ H δ S DD E r s q k
  refine h σ H δ S _ _ r s q fun v H1 d S1 r1 x1 d1 t1 => ?_
  have t1 : DD.nx (put δ i d) S1 := t1
  rw [put_set] at t1
  exact k.nx _ H1 _ S1 r1 x1 ((s.ext x1).set i d1) t1
theorem ds_set {i : Nat} {x : Str} {pos' : Pos} (hN : X.N.Nodup) (hi : X.N[i]? = some x) (hx : Loc X.env.scope x) (h : DE X dx e te fa) (hs : swapsWith e (some (.Name x pos')) pos.line X.env = pure false := by rfl)
    (hf : X.fn x = true ∨ X.env.scope.names.lookup x = some .local := by first | exact .inl rfl | exact .inr rfl | assumption) : DS X dx (.Assign [.Name x pos'] e pos) (tAsg te (gName i)) (dSet i fa) :=
  ⟨ps_set hN hi hx h.pe hs hf, set_go h.go⟩
/-- a, b = e1, e2 -/
def dPar (is : List Nat) (f : DTA) : DTS := fun DD δ S => f δ S fun ds S1 => ds.length = is.length ∧ DD.nx ((is.zip ds).foldl (fun δ p => put δ p.1 p.2) δ) S1
theorem ds_par {i j : Nat} {ta : TA} {fa : DTA} (h : DA X dx es ta fa) (hp : PS X st (tPar i j ta)) : DS X dx st (tPar i j ta) (dPar [i, j] fa) := by
  refine ⟨hp, fun σ H δ S DD E r s q k => ?_⟩
  refine h.go σ H δ S _ _ r s q fun vs H1 ds S1 r1 x1 d1 t1 => ?_
  match vs, ds, d1, t1 with
  | [v, w], [d, c], .cons h1 (.cons h2 .nil), t1 =>
    refine ⟨v, w, rfl, ?_⟩
    have t2 : DD.nx (put (put δ i d) j c) S1 := t1.2
    rw [put_set, put_set] at t2
    exact k.nx _ H1 _ S1 r1 x1 (((s.ext x1).set i h1).set j h2) t2
  | [], [], _, t1 => exact absurd t1.1 (by simp)
  | [_], [_], _, t1 => exact absurd t1.1 (by simp)
  | _ :: _ :: _ :: _, _ :: _ :: _ :: _, _, t1 => exact absurd t1.1 (by simp)
theorem ds_par3 {i j l : Nat} {ta : TA} {fa : DTA} (h : DA X dx es ta fa) (hp : PS X st (tPar3 i j l ta)) : DS X dx st (tPar3 i j l ta) (dPar [i, j, l] fa) := by
  refine ⟨hp, fun σ H δ S DD E r s q k => ?_⟩
  refine h.go σ H δ S _ _ r s q fun vs H1 ds S1 r1 x1 d1 t1 => ?_
  match vs, ds, d1, t1 with
  | [v, w, z], [d, c, b], .cons h1 (.cons h2 (.cons h3 .nil)), t1 =>
    refine ⟨v, w, z, rfl, ?_⟩
    have t2 : DD.nx (put (put (put δ i d) j c) l b) S1 := t1.2
    rw [put_set, put_set, put_set] at t2
    exact k.nx _ H1 _ S1 r1 x1 ((((s.ext x1).set i h1).set j h2).set l h3) t2
  | [], [], _, t1 => exact absurd t1.1 (by simp)
  | [_], [_], _, t1 => exact absurd t1.1 (by simp)
  | [_, _], [_, _], _, t1 => exact absurd t1.1 (by simp)
  | _ :: _ :: _ :: _ :: _, _ :: _ :: _ :: _ :: _, _, t1 => exact absurd t1.1 (by simp)
/-- x op= e of a name -/
def dAug (i : Nat) (f : F2) (fa : DTE) : DTS := fun DD δ S => match gt δ i with
  | some p => fa δ S fun q S1 => f p q S1 fun d S2 => DD.nx (put δ i d) S2
  | none => False
theorem ds_aug {i : Nat} {ti : TIp} {f : F2} (hp : PS X st (tAug i te ti)) (h : DE X dx e te fa) (o : OpD X.K dx ti f) : DS X dx st (tAug i te ti) (dAug i f fa) := by
  refine ⟨hp, fun σ H δ S DD E r s q k => ?_⟩
  unfold dAug at q
  cases g : gt δ i with
  | none => rw [g] at q; exact q.elim
  | some p =>
    rw [g] at q
    obtain ⟨x, e1, dp⟩ := s.ix i p (gt_ix g)
    refine ⟨x, e1, ?_⟩
    refine h.go σ H δ S _ _ r s q fun y H1 d S1 r1 x1 d1 t1 => ?_
    refine o x y p d H1 S1 _ _ r1 (dp.ext x1) d1 t1 fun z H2 c S2 r2 x2 d2 t2 => ?_
    have t2 : DD.nx (put δ i c) S2 := t2
    rw [put_set] at t2
    exact k.nx _ H2 _ S2 r2 (x1.trans x2) ((s.ext (x1.trans x2)).set i d2) t2

/-! ### loops -/
def forGo (g : DTG) (tb : DTS) (DD : DEnds) : List D → Sl → Sto → Prop
  | [], δ, S => DD.nx δ S
  | x :: xs, δ, S => g x δ fun δ1 => tb { DD with nx := forGo g tb DD xs, ct := forGo g tb DD xs, bk := DD.nx } δ1 S
def dFor (ti : DTA) (g : DTG) (tb : DTS) : DTS := fun DD δ S => ti δ S fun xs S1 => forGo g tb DD xs δ S1
theorem ds_for {iter : Expr} {wi : TI} {fi : DTA} {g : TG} {f : DTG} {o : List Nat} (hp : PassesOwn (model X.prog X.w) X.A X.env X.xe) (hc : X.calm = true) (hi : DI X dx tg iter wi fi) (hg : DG X dx tg g f o) (hb : DSs X dx sts ts t)
    (hs : ∀ x, foldedSetIterable iter X.env x = pure x := by intro _; rfl) : DS X dx (.For tg iter sts [] pos) (tFor wi g ts) (dFor fi f t) := by
  refine ⟨ps_for hp hc hi.pe hg.pe hb.pe hs, fun σ H δ S DD E r s q k => ?_⟩
  refine hi.go σ H δ S _ _ r s q fun J H0 xs S0 r0 x0 wk q0 => ?_
  obtain ⟨G, Y, wl, all⟩ := wk
  refine for_it wl (fun i σ' H' => ∃ δ' S', HR X.K dx H' S' ∧ SR X.K dx σ' H' δ' S' ∧ Ext (Mu dx S0) H0 (Mu dx S') H' ∧ forGo f t DD (xs.drop i) δ' S')
    ⟨δ, S0, r0, s.ext x0, Ext.refl, q0⟩ ?_ ?_ ?_
  · rintro i σ' H' _ ⟨δ', S', r', s', x', _⟩
    exact (all _ H' r'.mu_live x'.d).1
  · rintro i v σ' H1 H2 hi ⟨δ', S', r', s', x', q'⟩ y
    obtain ⟨sm, d, ed, dd⟩ := (all _ H1 r'.mu_live x'.d).2 i v H2 hi y
    have e1 : xs.drop i = d :: xs.drop (i + 1) := by
      rw [List.drop_eq_getElem_cons hi]
      have := List.getElem?_eq_getElem hi
      rw [this] at ed
      cases ed
      rfl
    rw [e1] at q'
    have xs2 : Ext (Mu dx S') H1 (Mu dx S') H2 := Ext.same sm
    refine hg.go v d σ' H2 δ' S' _ _ (r'.same sm) (s'.ext xs2) dd q' fun σ3 δ3 s3 _ _ q3 => ?_
    refine hb.go σ3 H2 δ3 S' _ _ (r'.same sm) s3 q3 ⟨?_, ?_, ?_, ?_⟩
    · intro σ4 H4 δ4 S4 r4 x4 s4 q4
      exact ⟨δ4, S4, r4, s4, (x'.trans xs2).trans x4, q4⟩
    · intro σ4 H4 δ4 S4 r4 x4 s4 q4
      exact k.nx σ4 H4 δ4 S4 r4 (((x0.trans x').trans xs2).trans x4) s4 q4
    · intro σ4 H4 δ4 S4 r4 x4 s4 q4
      exact ⟨δ4, S4, r4, s4, (x'.trans xs2).trans x4, q4⟩
    · intro v4 H4 d4 S4 r4 x4 h4 q4
      exact k.rt v4 H4 d4 S4 r4 (((x0.trans x').trans xs2).trans x4) h4 q4
  · rintro σ' H' ⟨δ', S', r', s', x', q'⟩
    rw [List.drop_length] at q'
    exact k.nx σ' H' δ' S' r' (x0.trans x') s' q'
def dWhile (c : DTT) (tb : DTS) : DTS := fun DD δ S => ∃ W : Nat → Sl → Sto → Prop, (∃ m, W m δ S) ∧ ∀ m δ S, W m δ S →
  c δ S fun b S1 => if b = true then tb { DD with nx := fun δ' S' => ∃ m', m' < m ∧ W m' δ' S', ct := fun δ' S' => ∃ m', m' < m ∧ W m' δ' S', bk := DD.nx } δ S1 else DD.nx δ S1
theorem ds_while {c : Expr} (hp : PassesOwn (model X.prog X.w) X.A X.env X.xe) (hc : DT X dx c uc gc) (hb : DSs X dx sts ts t) : DS X dx (.While c sts [] pos) (tWhile uc ts) (dWhile gc t) := by
  refine ⟨ps_while hp hc.pe hb.pe, fun σ H δ S DD E r s q k => ?_⟩
  obtain ⟨W, ⟨m0, w0⟩, turn⟩ := q
  refine ⟨fun m σ' H' => ∃ δ' S', HR X.K dx H' S' ∧ SR X.K dx σ' H' δ' S' ∧ Ext (Mu dx S) H (Mu dx S') H' ∧ W m δ' S', ⟨m0, δ, S, r, s, Ext.refl, w0⟩, ?_⟩
  rintro m σ' H' ⟨δ', S', r', s', x', w'⟩
  refine hc.go σ' H' δ' S' _ _ r' s' (turn m δ' S' w') fun b H1 S1 r1 x1 q1 => ?_
  cases b with
  | false =>
    rw [if_neg Bool.false_ne_true] at q1
    exact k.nx σ' H1 δ' S1 r1 (x'.trans x1) (s'.ext x1) q1
  | true =>
    rw [if_pos rfl] at q1
    refine ⟨fun σ2 H2 => ∃ m' δ2 S2, m' < m ∧ HR X.K dx H2 S2 ∧ SR X.K dx σ2 H2 δ2 S2 ∧ Ext (Mu dx S) H (Mu dx S2) H2 ∧ W m' δ2 S2, ?_, ?_⟩
    · rintro σ2 H2 ⟨m', δ2, S2, lt, a, b, c, d⟩
      exact ⟨m', lt, δ2, S2, a, b, c, d⟩
    · refine hb.go σ' H1 δ' S1 _ _ r1 (s'.ext x1) q1 ⟨?_, ?_, ?_, ?_⟩
      · rintro σ4 H4 δ4 S4 r4 x4 s4 ⟨m', lt, w4⟩
        exact ⟨m', δ4, S4, lt, r4, s4, (x'.trans x1).trans x4, w4⟩
      · intro σ4 H4 δ4 S4 r4 x4 s4 q4
        exact k.nx σ4 H4 δ4 S4 r4 ((x'.trans x1).trans x4) s4 q4
      · rintro σ4 H4 δ4 S4 r4 x4 s4 ⟨m', lt, w4⟩
        exact ⟨m', δ4, S4, lt, r4, s4, (x'.trans x1).trans x4, w4⟩
      · intro v4 H4 d4 S4 r4 x4 h4 q4
        exact k.rt v4 H4 d4 S4 r4 ((x'.trans x1).trans x4) h4 q4
end
end DL
/-! Readings over data: comprehensions, calls, a def by its body. -/
namespace DL
open PySem PySem.Spec L2 Gd

/-! ### slots forgotten -/
def clr : Sl → Nat → Sl
  | [], _ => []
  | _ :: r, 0 => none :: r
  | a :: r, n + 1 => a :: clr r n
theorem clr_set : ∀ {δ : Sl} {i : Nat}, clr δ i = δ.set i none
  | [], _ => rfl
  | _ :: _, 0 => rfl
  | a :: r, n + 1 => by
    show a :: clr r n = a :: r.set n none
    rw [clr_set]
def wipeD (δ : Sl) : List Nat → Sl
  | [] => δ
  | v :: vs => clr (wipeD δ vs) v
theorem wipeD_length (δ : Sl) : ∀ vs : List Nat, (wipeD δ vs).length = δ.length
  | [] => rfl
  | v :: vs => by
    unfold wipeD
    rw [clr_set, List.length_set, wipeD_length δ vs]
theorem wipeD_some {δ : Sl} {i : Nat} {d : D} : ∀ {vs : List Nat}, (wipeD δ vs)[i]? = some (some d) → δ[i]? = some (some d) ∧ i ∉ vs
  | [], h => ⟨h, by simp⟩
  | v :: vs, h => by
    unfold wipeD at h
    rw [clr_set] at h
    by_cases hi : v = i
    · subst hi
      by_cases hv : v < (wipeD δ vs).length
      · rw [List.getElem?_set_self hv] at h
        cases h
      · rw [List.getElem?_eq_none (by simpa using hv)] at h
        cases h
    · rw [List.getElem?_set_ne hi] at h
      obtain ⟨a, b⟩ := wipeD_some h
      exact ⟨a, by simp only [List.mem_cons, not_or]; exact ⟨fun e => hi e.symm, b⟩⟩
theorem wipe_in {σ : L2.St} {i : Nat} : ∀ {vs : List Nat}, i ∈ vs → (wipe σ vs)[i]? = if i < σ.length then some none else none
  | v :: vs, h => by
    unfold wipe
    by_cases hi : v = i
    · subst hi
      by_cases hv : v < σ.length
      · rw [List.getElem?_set_self (by rw [wipe_length]; exact hv), if_pos hv]
      · rw [if_neg hv, List.getElem?_eq_none (by rw [List.length_set, wipe_length]; omega)]
    · rw [List.getElem?_set_ne hi]
      exact wipe_in ((List.mem_cons.mp h).resolve_left fun e => hi e.symm)
theorem wipe_wipe {σ σ2 : L2.St} {vs o : List Nat} (l : σ2.length = (wipe σ vs).length) (sub : ∀ j ∈ o, j ∈ vs) (same : ∀ j, j ∉ o → σ2[j]? = (wipe σ vs)[j]?) : wipe σ2 vs = wipe σ vs := by
  apply List.ext_getElem?
  intro j
  by_cases h : j ∈ vs
  · rw [wipe_in h, wipe_in h, l, wipe_length]
  · rw [wipe_out h, same j fun z => h (sub j z)]
theorem SR.wipe {K : PySem.W.Frag} {dx : Dx} {σ : L2.St} {H : Hp} {δ : Sl} {S : Sto} (s : SR K dx σ H δ S) (vs : List Nat) : SR K dx (L2.wipe σ vs) H (wipeD δ vs) S := by
  refine ⟨by rw [wipeD_length, wipe_length]; exact s.len, fun i d h => ?_⟩
  obtain ⟨h1, h2⟩ := wipeD_some h
  obtain ⟨v, e1, e2⟩ := s.ix i d h1
  exact ⟨v, by rw [wipe_out h2]; exact e1, e2⟩

/-- a frame in which p may change elsewhere, too -/
def Dx.and (dx : Dx) (p : Addr) : Dx := { dx with M0 := fun b => dx.M0 b ∨ b = p }
section
variable {K : PySem.W.Frag} {dx : Dx} {H H' : Hp} {S S' : Sto} {σ : L2.St} {δ : Sl} {p : Addr}
theorem mu_and {b : Addr} : (Mu (dx.and p) S).mu b ↔ (Mu dx S).mu b ∨ b = p := by
  constructor
  · rintro ((h | h) | h)
    · exact .inl (.inl h)
    · exact .inr h
    · exact .inl (.inr h)
  · rintro ((h | h) | h)
    · exact .inl (.inl h)
    · exact .inr h
    · exact .inl (.inr h)
theorem ext_and {o : HO} (n : H p = none) : Ext (Mu dx S) H (Mu (dx.and p) S) (upd H p o) := by
  refine ⟨fun b u _ e => by rw [upd_ne (ne_of_none e n)]; exact e, fun b m z => ?_, fun b m z => absurd m z⟩
  rcases mu_and.mp m with m | m
  · exact absurd m z
  · rw [m]; exact n
theorem ext_back : Ext (Mu (dx.and p) S) H (Mu dx S) H := Ext.less (fun b m => mu_and.mpr (.inl m)) (fun b m => m)
theorem HR.and (r : HR K dx H S) (n : H p = none) (vs : List V) : HR K (dx.and p) (upd H p (.lst vs)) S := by
  have x := ext_and (dx := dx) (S := S) (o := .lst vs) n
  have q := r.same (same_new (o := .lst vs) n)
  refine ⟨fun b xs m => ?_, r.nd, fun b m => ?_, fun b m => ⟨(r.own b m).1, fun z => ?_⟩, q.keep, q.j, q.stab, fun b h => .inl (r.hm b h)⟩
  · obtain ⟨ws, e, a⟩ := r.sto b xs m
    exact ⟨ws, by rw [upd_ne (ne_of_none e n)]; exact e, a.ext x⟩
  · rcases m with m | m
    · exact q.live b m
    · have m : b = p := m
      rw [m, upd_same]
      exact fun z => nomatch z
  · rcases z with z | z
    · exact (r.own b m).2 z
    · have z : b = p := z
      obtain ⟨⟨b', xs⟩, mm, e⟩ := List.mem_map.mp m
      have e : b' = b := e
      obtain ⟨ws, eh, _⟩ := r.sto b' xs mm
      rw [e, z, n] at eh
      cases eh
theorem HR.unand (r : HR K (dx.and p) H S) (hp : ¬ dx.hand p) : HR K dx H S :=
  ⟨fun b xs m => let ⟨ws, e, a⟩ := r.sto b xs m; ⟨ws, e, a.ext ext_back⟩, r.nd, fun b m => r.live b (.inl m), fun b m => ⟨(r.own b m).1, fun z => (r.own b m).2 (.inl z)⟩, r.keep, r.j, r.stab,
    fun b h => (r.hm b h).resolve_right fun e => hp (by have e : b = p := e; rw [← e]; exact h)⟩
theorem extD_put {o : HO} : ExtD (Mu (dx.and p) S) H (Mu (dx.and p) S) (upd H p o) :=
  ⟨fun b u n e => by rw [upd_ne (fun z => n (mu_and.mpr (.inr z)))]; exact e, fun b m n => absurd m n⟩
theorem HR.and_put (r : HR K (dx.and p) H S) (h0 : dx.H0 p = none) (hp : ¬ dx.hand p) (vs : List V) : HR K (dx.and p) (upd H p (.lst vs)) S := by
  refine ⟨fun b xs m => ?_, r.nd, fun b m => ?_, r.own, fun b o e n => ?_, ?_, r.stab, r.hm⟩
  · obtain ⟨ws, e, a⟩ := r.sto b xs m
    have ne : b ≠ p := fun z => (r.own b (List.mem_map.mpr ⟨_, m, rfl⟩)).2 (.inr z)
    exact ⟨ws, by rw [upd_ne ne]; exact e, a.extD extD_put⟩
  · by_cases z : b = p
    · rw [z, upd_same]
      exact fun z => nomatch z
    · rw [upd_ne z]
      exact r.live b m
  · have ne : b ≠ p := fun z => by
      rw [z] at e
      have e : dx.H0 p = some o := e
      rw [h0] at e
      cases e
    rw [upd_ne ne]
    exact r.keep b o e n
  · refine r.stab H _ (fun b hb => ?_) r.j
    have ne : b ≠ p := fun z => hp (by rw [← z]; exact hb)
    rw [upd_ne ne]
/-- from a heap in which p was not there, p was changed once more -/
theorem ext_put {H1 : Hp} {S1 : Sto} {o : HO} (x : Ext (Mu dx S) H (Mu (dx.and p) S1) H1) (n : H p = none) : Ext (Mu dx S) H (Mu (dx.and p) S1) (upd H1 p o) :=
  ⟨fun b u z e => by rw [upd_ne (ne_of_none e n)]; exact x.keep b u z e, x.fresh, x.freshC⟩
end

section
variable {X : Cx} {dx : Dx} {pos : Pos} {tg e elt iter : Expr} {ifs : List Expr} {te : TE} {fa : DTE} {wi : TI} {fi : DTA} {g : TG} {f : DTG} {tt : TT} {ft : DTT} {o : List Nat} {scope : Scope} {own : List (Str × Nat)}
def lcGo (g : DTG) (tt : DTT) (te : DTE) (own : List Nat) (δ : Sl) (Q : D → Sto → Prop) : List D → List D → Sto → Prop
  | [], acc, S => Q (.lst acc) S
  | x :: xs, acc, S => g x (wipeD δ own) fun δ1 => tt δ1 S fun b S1 =>
      if b = true then te δ1 S1 fun d S2 => Fit (acc.length + 1) ∧ lcGo g tt te own δ Q xs (acc ++ [d]) S2 else lcGo g tt te own δ Q xs acc S1
def dLc (ti : DTA) (g : DTG) (tt : DTT) (te : DTE) (own : List Nat) : DTE := fun δ S Q => ti δ S fun xs S1 => lcGo g tt te own δ Q xs [] S1
/-- the tests of a clause -/
structure DTs (X : Cx) (dx : Dx) (ifs : List Expr) (tt : TT) (t : DTT) : Prop where
  pe : PTs X ifs tt
  go : ∀ σ H δ S Q Qh, HR X.K dx H S → SR X.K dx σ H δ S → t δ S Q → ThT X.K dx H S Q Qh → tt σ H Qh
def dYes : DTT := fun _ S Q => Q true S
theorem dts_nil : DTs X dx [] tYes dYes := ⟨pts_nil, fun σ H δ S Q Qh r s t k => k true H S r Ext.refl t⟩
theorem dts_one {c : Expr} (h : DT X dx c tt ft) : DTs X dx [c] tt ft := ⟨pts_one h.pe, h.go⟩
abbrev Blk (X : Cx) (scope : Scope) (s : Shared) (H : Hp) (C : Addr) (cl : List (Str × Addr)) (fp : List Addr) : Cx := X.blk s H scope (compEnvC scope cl C X.env) fp
theorem lc_go (hi : DI X dx tg iter wi fi) (sub : ∀ j ∈ o, j ∈ own.map (·.2))
    (hg : ∀ (m : Addr → Prop) (s : Shared) (H : Hp) (C : Addr) (cl : List (Str × Addr)) (fp : List Addr), DG (Blk X scope s H C cl fp) { dx with M0 := m } tg g f o)
    (ht : ∀ (m : Addr → Prop) (s : Shared) (H : Hp) (C : Addr) (cl : List (Str × Addr)) (fp : List Addr), DTs (Blk X scope s H C cl fp) { dx with M0 := m } ifs tt ft)
    (he : ∀ (m : Addr → Prop) (s : Shared) (H : Hp) (C : Addr) (cl : List (Str × Addr)) (fp : List Addr), DE (Blk X scope s H C cl fp) { dx with M0 := m } elt te fa) :
    ∀ σ H δ S Q Qh, HR X.K dx H S → SR X.K dx σ H δ S → dLc fi f ft fa (own.map (·.2)) δ S Q → ThE X.K dx H S Q Qh → tLc wi g tt te (own.map (·.2)) σ H Qh := by
  intro σ H δ S Q Qh r s q k
  refine hi.go σ H δ S _ _ r s q fun J H0 xs S0 r0 x0 wk q0 => ?_
  intro p n
  obtain ⟨G, Y, wl, all⟩ := wk
  have h0 : dx.H0 p = none := r0.old n
  have hp : ¬ dx.hand p := fun h => r0.live p (r0.hm p h) n
  have s0 := (s.ext x0)
  refine lc_it wl (fun i H' => ∃ S' acc vs, HR X.K (dx.and p) H' S' ∧ Ext (Mu dx S0) H0 (Mu (dx.and p) S') H' ∧ H' p = some (.lst vs) ∧ DtAll X.K (Mu (dx.and p) S') H' vs acc ∧ lcGo f ft fa (own.map (·.2)) δ Q (xs.drop i) acc S')
    ⟨S0, [], [], r0.and n [], ext_and n, upd_same, .nil, q0⟩ ?_ ?_ ?_
  · rintro i H' _ ⟨S', acc, vs, r', x', _⟩
    exact (all _ H' r'.mu_live x'.d).1
  · rintro i v H1 H2 hi' ⟨S', acc, vs, r', x', ep, al, q'⟩ y
    obtain ⟨sm, d, ed, dd⟩ := (all _ H1 r'.mu_live x'.d).2 i v H2 hi' y
    have e1 : xs.drop i = d :: xs.drop (i + 1) := by
      rw [List.drop_eq_getElem_cons hi']
      have := List.getElem?_eq_getElem hi'
      rw [this] at ed
      cases ed
      rfl
    rw [e1] at q'
    have xs2 : Ext (Mu (dx.and p) S') H1 (Mu (dx.and p) S') H2 := Ext.same sm
    have r2 := r'.same sm
    have sd : SR X.K (dx.and p) (L2.wipe σ (own.map (·.2))) H2 (wipeD δ (own.map (·.2))) S' :=
      ⟨(s0.wipe _).len, fun j c hc => let ⟨u, a, b⟩ := (s0.wipe (own.map (·.2))).ix j c hc; ⟨u, a, b.ext (x'.trans xs2)⟩⟩
    refine (hg (dx.and p).M0 X.s_0 X.H_0 0 [] []).go v d _ H2 _ S' _ _ r2 sd dd q' fun σ3 δ3 s3 l3 o3 q3 => ⟨wipe_wipe l3 sub o3, ?_⟩
    refine (ht (dx.and p).M0 X.s_0 X.H_0 0 [] []).go σ3 H2 δ3 S' _ _ r2 s3 q3 fun b H3 S3 r3 x3 q4 => ?_
    have np : ∀ {S'' : Sto} {H'' : Hp}, HR X.K (dx.and p) H'' S'' → ¬ (Mu (dx.and p) S'').ch p := fun r'' z => by
      rcases z with z | z
      · exact hp z
      · exact (r''.own p z).2 (.inr rfl)
    have ep3 : H3 p = some (.lst vs) := x3.keep p _ (np r2) (sm p _ ep)
    have xt3 := (x'.trans xs2).trans x3
    have al3 := al.ext (xs2.trans x3)
    cases b with
    | false =>
      rw [if_neg Bool.false_ne_true] at q4 ⊢
      exact ⟨S3, acc, vs, r3, xt3, ep3, al3, q4⟩
    | true =>
      rw [if_pos rfl] at q4 ⊢
      refine (he (dx.and p).M0 X.s_0 X.H_0 0 [] []).go σ3 H3 δ3 S3 _ _ r3 (s3.ext x3) q4 fun y H4 c S4 r4 x4 d4 q5 => ?_
      have ep4 : H4 p = some (.lst vs) := x4.keep p _ (np r3) ep3
      have al4 := (al3.ext x4).append (.cons d4 .nil)
      refine ⟨vs, ep4, ?_, S4, acc ++ [c], vs ++ [y], r4.and_put h0 hp _, ext_put (xt3.trans x4) n, upd_same, al4.extD extD_put, q5.2⟩
      have := q5.1.line
      rw [al3.length]
      omega
  · rintro H' ⟨S', acc, vs, r', x', ep, al, q'⟩
    rw [List.drop_length] at q'
    have r2 := r'.unand hp
    refine k (.ref p) H' _ S' r2 (x0.trans (x'.trans ext_back)) (.lst ?_ ep (al.ext ext_back)) q'
    rintro (z | z | z)
    · exact r0.live p z n
    · exact hp z
    · exact (r'.own p z).2 (.inr rfl)
/-- [elt for tg in iter if ..] -/
theorem de_lc (hc : X.calm = true) (hN : X.N.Nodup) (hi : DI X dx tg iter wi fi) (ok : BlkOk X.N X.env.scope scope own) (sub : ∀ j ∈ o, j ∈ own.map (·.2))
    (hg : ∀ (m : Addr → Prop) (s : Shared) (H : Hp) (C : Addr) (cl : List (Str × Addr)) (fp : List Addr), DG (Blk X scope s H C cl fp) { dx with M0 := m } tg g f o)
    (ht : ∀ (m : Addr → Prop) (s : Shared) (H : Hp) (C : Addr) (cl : List (Str × Addr)) (fp : List Addr), DTs (Blk X scope s H C cl fp) { dx with M0 := m } ifs tt ft)
    (he : ∀ (m : Addr → Prop) (s : Shared) (H : Hp) (C : Addr) (cl : List (Str × Addr)) (fp : List Addr), DE (Blk X scope s H C cl fp) { dx with M0 := m } elt te fa)
    (hs : ∀ x, foldedSetIterable iter X.env x = pure x := by intro _; rfl) : DE X dx (.ListComp elt [⟨tg, iter, ifs, 0⟩] scope pos) (tLc wi g tt te (own.map (·.2))) (dLc fi f ft fa (own.map (·.2))) :=
  ⟨pe_lc hc hN hi.pe ok (fun s H C cl fp => (hg dx.M0 s H C cl fp).pe) (fun s H C cl fp => (ht dx.M0 s H C cl fp).pe) (fun s H C cl fp => (he dx.M0 s H C cl fp).pe) hs, lc_go hi sub hg ht he⟩
/-- y = [elt for ..] -/
theorem ds_setLc {i : Nat} {y : Str} {py spos : Pos} (hc : X.calm = true) (hN : X.N.Nodup) (hy : X.N[i]? = some y) (hyl : X.env.scope.names.lookup y = some .local)
    (hsw : swapsWith (.ListComp elt [⟨tg, iter, ifs, 0⟩] scope pos) (some (.Name y py)) spos.line X.env = pure true) (hi : DI X dx tg iter wi fi) (ok : BlkOk X.N X.env.scope scope own) (sub : ∀ j ∈ o, j ∈ own.map (·.2))
    (hg : ∀ (m : Addr → Prop) (s : Shared) (H : Hp) (C : Addr) (cl : List (Str × Addr)) (fp : List Addr), DG (Blk X scope s H C cl fp) { dx with M0 := m } tg g f o)
    (ht : ∀ (m : Addr → Prop) (s : Shared) (H : Hp) (C : Addr) (cl : List (Str × Addr)) (fp : List Addr), DTs (Blk X scope s H C cl fp) { dx with M0 := m } ifs tt ft)
    (he : ∀ (m : Addr → Prop) (s : Shared) (H : Hp) (C : Addr) (cl : List (Str × Addr)) (fp : List Addr), DE (Blk X scope s H C cl fp) { dx with M0 := m } elt te fa)
    (hs : ∀ x, foldedSetIterable iter X.env x = pure x := by intro _; rfl) :
    DS X dx (.Assign [.Name y py] (.ListComp elt [⟨tg, iter, ifs, 0⟩] scope pos) spos) (tAsg (tLc wi g tt te (own.map (·.2))) (gName i)) (dSet i (dLc fi f ft fa (own.map (·.2)))) :=
  ⟨ps_setLc hc hN hy hyl hsw hi.pe ok (fun s H C cl fp => (hg dx.M0 s H C cl fp).pe) (fun s H C cl fp => (ht dx.M0 s H C cl fp).pe) (fun s H C cl fp => (he dx.M0 s H C cl fp).pe) hs, set_go (lc_go hi sub hg ht he)⟩
end
end DL
/-! Readings over data: comprehensions of two clauses. -/
namespace DL
open PySem PySem.Spec L2 Gd

section
variable {X : Cx} {dx : Dx} {pos : Pos} {tg e elt iter tg1 iter1 : Expr} {ifs ifs1 : List Expr} {te : TE} {fa : DTE} {wi wi1 : TI} {fi fi1 : DTA} {g g1 : TG} {f f1 : DTG} {tt tt1 : TT} {ft ft1 : DTT} {o o1 : List Nat} {scope : Scope} {own : List (Str × Nat)} {vs1 : List Nat}
def lc2In (g : DTG) (tt : DTT) (te : DTE) (own : List Nat) (δ : Sl) (k : List D → Sto → Prop) : List D → List D → Sto → Prop
  | [], acc, S => k acc S
  | x :: xs, acc, S => g x (wipeD δ own) fun δ1 => tt δ1 S fun b S1 =>
      if b = true then te δ1 S1 fun d S2 => Fit (acc.length + 1) ∧ lc2In g tt te own δ k xs (acc ++ [d]) S2 else lc2In g tt te own δ k xs acc S1
def lc2Go (g : DTG) (tt : DTT) (wi1 : DTA) (g1 : DTG) (tt1 : DTT) (te : DTE) (own own1 : List Nat) (δ : Sl) (Q : D → Sto → Prop) : List D → List D → Sto → Prop
  | [], acc, S => Q (.lst acc) S
  | x :: xs, acc, S => g x (wipeD δ own) fun δ1 => tt δ1 S fun b S1 =>
      if b = true then wi1 δ1 S1 fun ys S2 => lc2In g1 tt1 te own1 δ1 (lc2Go g tt wi1 g1 tt1 te own own1 δ Q xs) ys acc S2 else lc2Go g tt wi1 g1 tt1 te own own1 δ Q xs acc S1
def dLc2 (ti : DTA) (g : DTG) (tt : DTT) (wi1 : DTA) (g1 : DTG) (tt1 : DTT) (te : DTE) (own own1 : List Nat) : DTE := fun δ S Q => ti δ S fun xs S1 => lc2Go g tt wi1 g1 tt1 te own own1 δ Q xs [] S1
theorem lc2_go (hi : DI X dx tg iter wi fi) (sub : ∀ j ∈ o, j ∈ own.map (·.2)) (sub1 : ∀ j ∈ o1, j ∈ vs1)
    (hg : ∀ (m : Addr → Prop) (s : Shared) (H : Hp) (C : Addr) (cl : List (Str × Addr)) (fp : List Addr), DG (Blk X scope s H C cl fp) { dx with M0 := m } tg g f o)
    (ht : ∀ (m : Addr → Prop) (s : Shared) (H : Hp) (C : Addr) (cl : List (Str × Addr)) (fp : List Addr), DTs (Blk X scope s H C cl fp) { dx with M0 := m } ifs tt ft)
    (hi1 : ∀ (m : Addr → Prop) (s : Shared) (H : Hp) (C : Addr) (cl : List (Str × Addr)) (fp : List Addr), DI (Blk X scope s H C cl fp) { dx with M0 := m } tg1 iter1 wi1 fi1)
    (hg1 : ∀ (m : Addr → Prop) (s : Shared) (H : Hp) (C : Addr) (cl : List (Str × Addr)) (fp : List Addr), DG (Blk X scope s H C cl fp) { dx with M0 := m } tg1 g1 f1 o1)
    (ht1 : ∀ (m : Addr → Prop) (s : Shared) (H : Hp) (C : Addr) (cl : List (Str × Addr)) (fp : List Addr), DTs (Blk X scope s H C cl fp) { dx with M0 := m } ifs1 tt1 ft1)
    (he : ∀ (m : Addr → Prop) (s : Shared) (H : Hp) (C : Addr) (cl : List (Str × Addr)) (fp : List Addr), DE (Blk X scope s H C cl fp) { dx with M0 := m } elt te fa) :
    ∀ σ H δ S Q Qh, HR X.K dx H S → SR X.K dx σ H δ S → dLc2 fi f ft fi1 f1 ft1 fa (own.map (·.2)) vs1 δ S Q → ThE X.K dx H S Q Qh → tLc2 wi g tt wi1 g1 tt1 te (own.map (·.2)) vs1 σ H Qh := by
  intro σ H δ S Q Qh r s q k
  refine hi.go σ H δ S _ _ r s q fun J H0 xs S0 r0 x0 wk q0 => ?_
  intro p n
  obtain ⟨G, Y, wl, all⟩ := wk
  have h0 : dx.H0 p = none := r0.old n
  have hp : ¬ dx.hand p := fun h => r0.live p (r0.hm p h) n
  have s0 := (s.ext x0)
  have np : ∀ {S'' : Sto} {H'' : Hp}, HR X.K (dx.and p) H'' S'' → ¬ (Mu (dx.and p) S'').ch p := fun r'' z => by
    rcases z with z | z
    · exact hp z
    · exact (r''.own p z).2 (.inr rfl)
  -- what stands ahead of a turn, where what is left is told by R
  let Pw : (List D → Sto → Prop) → Hp → Prop := fun R H' => ∃ S' acc vs, HR X.K (dx.and p) H' S' ∧ Ext (Mu dx S0) H0 (Mu (dx.and p) S') H' ∧ H' p = some (.lst vs) ∧ DtAll X.K (Mu (dx.and p) S') H' vs acc ∧ R acc S'
  refine ⟨fun i m H' => m = xs.length - i ∧ i ≤ xs.length ∧ Pw (lc2Go f ft fi1 f1 ft1 fa (own.map (·.2)) vs1 δ Q (xs.drop i)) H', ⟨xs.length, by simp, Nat.zero_le _, S0, [], [], r0.and n [], ext_and n, upd_same, .nil, q0⟩, ?_⟩
  rintro i m H1 ⟨rfl, hi', S', acc, vs, r', x', ep, al, q'⟩
  have gs := (all _ H1 r'.mu_live x'.d)
  by_cases hlt : i < xs.length
  · refine .inr ⟨wl.goes i H1 hlt gs.1, Pw (lc2Go f ft fi1 f1 ft1 fa (own.map (·.2)) vs1 δ Q (xs.drop (i + 1))), fun H' w' => ⟨xs.length - (i + 1), by omega, rfl, hlt, w'⟩, fun v H2 y => ?_⟩
    obtain ⟨sm, d, ed, dd⟩ := gs.2 i v H2 hlt (wl.yields i H1 v H2 hlt gs.1 y)
    have e1 : xs.drop i = d :: xs.drop (i + 1) := by
      rw [List.drop_eq_getElem_cons hlt]
      have := List.getElem?_eq_getElem hlt
      rw [this] at ed
      cases ed
      rfl
    rw [e1] at q'
    have xs2 : Ext (Mu (dx.and p) S') H1 (Mu (dx.and p) S') H2 := Ext.same sm
    have r2 := r'.same sm
    have sd : SR X.K (dx.and p) (L2.wipe σ (own.map (·.2))) H2 (wipeD δ (own.map (·.2))) S' :=
      ⟨(s0.wipe _).len, fun j c hc => let ⟨u, a, b⟩ := (s0.wipe (own.map (·.2))).ix j c hc; ⟨u, a, b.ext (x'.trans xs2)⟩⟩
    refine (hg (dx.and p).M0 X.s_0 X.H_0 0 [] []).go v d _ H2 _ S' _ _ r2 sd dd q' fun σ3 δ3 s3 l3 o3 q3 => ⟨wipe_wipe l3 sub o3, ?_⟩
    refine (ht (dx.and p).M0 X.s_0 X.H_0 0 [] []).go σ3 H2 δ3 S' _ _ r2 s3 q3 fun b H3 S3 r3 x3 q4 => ?_
    have ep3 : H3 p = some (.lst vs) := x3.keep p _ (np r2) (sm p _ ep)
    have xt3 := (x'.trans xs2).trans x3
    have al3 := al.ext (xs2.trans x3)
    cases b with
    | false =>
      rw [if_neg Bool.false_ne_true] at q4 ⊢
      exact ⟨S3, acc, vs, r3, xt3, ep3, al3, q4⟩
    | true =>
      rw [if_pos rfl] at q4 ⊢
      have s3' := s3.ext x3
      refine (hi1 (dx.and p).M0 X.s_0 X.H_0 0 [] []).go σ3 H3 δ3 S3 _ _ r3 s3' q4 fun J1 H4 ys S4 r4 x4 wk1 q5 => ?_
      obtain ⟨G1, Y1, wl1, all1⟩ := wk1
      have s4 := s3'.ext x4
      have ep4 : H4 p = some (.lst vs) := x4.keep p _ (np r3) ep3
      have xt4 := xt3.trans x4
      let R := lc2Go f ft fi1 f1 ft1 fa (own.map (·.2)) vs1 δ Q (xs.drop (i + 1))
      let Pv : (List D → Sto → Prop) → Hp → Prop := fun R' H' => ∃ S'' acc vs, HR X.K (dx.and p) H' S'' ∧ Ext (Mu dx S0) H0 (Mu (dx.and p) S'') H' ∧ ExtD (Mu (dx.and p) S4) H4 (Mu (dx.and p) S'') H' ∧ H' p = some (.lst vs) ∧ DtAll X.K (Mu (dx.and p) S'') H' vs acc ∧ R' acc S''
      refine ⟨fun j m H' => m = ys.length - j ∧ j ≤ ys.length ∧ Pv (lc2In f1 ft1 fa vs1 δ3 R (ys.drop j)) H', ⟨ys.length, by simp, Nat.zero_le _, S4, acc, vs, r4, xt4, ExtD.refl, ep4, al3.ext x4, q5⟩, ?_⟩
      rintro j m H5 ⟨rfl, hj, S5, acc5, vs5, r5, xt5, xd5, ep5, al5, q6⟩
      have gs1 := (all1 _ H5 r5.mu_live xd5)
      by_cases hlt1 : j < ys.length
      · refine .inr ⟨wl1.goes j H5 hlt1 gs1.1, Pv (lc2In f1 ft1 fa vs1 δ3 R (ys.drop (j + 1))), fun H' w' => ⟨ys.length - (j + 1), by omega, rfl, hlt1, w'⟩, fun v1 H6 y1 => ?_⟩
        obtain ⟨sm1, d1, ed1, dd1⟩ := gs1.2 j v1 H6 hlt1 (wl1.yields j H5 v1 H6 hlt1 gs1.1 y1)
        have e2 : ys.drop j = d1 :: ys.drop (j + 1) := by
          rw [List.drop_eq_getElem_cons hlt1]
          have := List.getElem?_eq_getElem hlt1
          rw [this] at ed1
          cases ed1
          rfl
        rw [e2] at q6
        have xs6 : Ext (Mu (dx.and p) S5) H5 (Mu (dx.and p) S5) H6 := Ext.same sm1
        have r6 := r5.same sm1
        have s6 : SR X.K (dx.and p) (L2.wipe σ3 vs1) H6 (wipeD δ3 vs1) S5 := (s4.extD (xd5.trans xs6.d)).wipe vs1
        refine (hg1 (dx.and p).M0 X.s_0 X.H_0 0 [] []).go v1 d1 _ H6 _ S5 _ _ r6 s6 dd1 q6 fun σ7 δ7 s7 l7 o7 q7 => ⟨wipe_wipe l7 sub1 o7, ?_⟩
        refine (ht1 (dx.and p).M0 X.s_0 X.H_0 0 [] []).go σ7 H6 δ7 S5 _ _ r6 s7 q7 fun b H7 S7 r7 x7 q8 => ?_
        have ep7 : H7 p = some (.lst vs5) := x7.keep p _ (np r6) (sm1 p _ ep5)
        have xt7 := (xt5.trans xs6).trans x7
        have xd7 := (xd5.trans xs6.d).trans x7.d
        have al7 := al5.ext (xs6.trans x7)
        cases b with
        | false =>
          rw [if_neg Bool.false_ne_true] at q8 ⊢
          exact ⟨S7, acc5, vs5, r7, xt7, xd7, ep7, al7, q8⟩
        | true =>
          rw [if_pos rfl] at q8 ⊢
          refine (he (dx.and p).M0 X.s_0 X.H_0 0 [] []).go σ7 H7 δ7 S7 _ _ r7 (s7.ext x7) q8 fun y H8 c S8 r8 x8 d8 q9 => ?_
          have ep8 : H8 p = some (.lst vs5) := x8.keep p _ (np r7) ep7
          have al8 := (al7.ext x8).append (.cons d8 .nil)
          refine ⟨vs5, ep8, ?_, S8, acc5 ++ [c], vs5 ++ [y], r8.and_put h0 hp _, ext_put (xt7.trans x8) n, (xd7.trans x8.d).trans extD_put, upd_same, al8.extD extD_put, q9.2⟩
          have := q9.1.line
          rw [al7.length]
          omega
      · have e : j = ys.length := by omega
        subst e
        rw [List.drop_length] at q6
        exact .inl ⟨wl1.stops H5 gs1.1, S5, acc5, vs5, r5, xt5, ep5, al5, q6⟩
  · have e : i = xs.length := by omega
    subst e
    rw [List.drop_length] at q'
    refine .inl ⟨wl.stops H1 gs.1, ?_⟩
    have r2 := r'.unand hp
    refine k (.ref p) H1 _ S' r2 (x0.trans (x'.trans ext_back)) (.lst ?_ ep (al.ext ext_back)) q'
    rintro (z | z | z)
    · exact r0.live p z n
    · exact hp z
    · exact (r'.own p z).2 (.inr rfl)
theorem de_lc2 (hc : X.calm = true) (hN : X.N.Nodup) (hi : DI X dx tg iter wi fi) (ok : BlkOk X.N X.env.scope scope own) (hv : ∀ i ∈ vs1, i ∈ own.map (·.2)) (sub : ∀ j ∈ o, j ∈ own.map (·.2)) (sub1 : ∀ j ∈ o1, j ∈ vs1)
    (hg : ∀ (m : Addr → Prop) (s : Shared) (H : Hp) (C : Addr) (cl : List (Str × Addr)) (fp : List Addr), DG (Blk X scope s H C cl fp) { dx with M0 := m } tg g f o)
    (ht : ∀ (m : Addr → Prop) (s : Shared) (H : Hp) (C : Addr) (cl : List (Str × Addr)) (fp : List Addr), DTs (Blk X scope s H C cl fp) { dx with M0 := m } ifs tt ft)
    (hi1 : ∀ (m : Addr → Prop) (s : Shared) (H : Hp) (C : Addr) (cl : List (Str × Addr)) (fp : List Addr), DI (Blk X scope s H C cl fp) { dx with M0 := m } tg1 iter1 wi1 fi1)
    (hg1 : ∀ (m : Addr → Prop) (s : Shared) (H : Hp) (C : Addr) (cl : List (Str × Addr)) (fp : List Addr), DG (Blk X scope s H C cl fp) { dx with M0 := m } tg1 g1 f1 o1)
    (ht1 : ∀ (m : Addr → Prop) (s : Shared) (H : Hp) (C : Addr) (cl : List (Str × Addr)) (fp : List Addr), DTs (Blk X scope s H C cl fp) { dx with M0 := m } ifs1 tt1 ft1)
    (he : ∀ (m : Addr → Prop) (s : Shared) (H : Hp) (C : Addr) (cl : List (Str × Addr)) (fp : List Addr), DE (Blk X scope s H C cl fp) { dx with M0 := m } elt te fa)
    (hs : ∀ x, foldedSetIterable iter X.env x = pure x := by intro _; rfl) (hs1 : ∀ env x, foldedSetIterable iter1 env x = pure x := by intro _ _; rfl) :
    DE X dx (.ListComp elt [⟨tg, iter, ifs, 0⟩, ⟨tg1, iter1, ifs1, 0⟩] scope pos) (tLc2 wi g tt wi1 g1 tt1 te (own.map (·.2)) vs1) (dLc2 fi f ft fi1 f1 ft1 fa (own.map (·.2)) vs1) :=
  ⟨pe_lc2 hc hN hi.pe ok hv (fun s H C cl fp => (hg dx.M0 s H C cl fp).pe) (fun s H C cl fp => (ht dx.M0 s H C cl fp).pe) (fun s H C cl fp => (hi1 dx.M0 s H C cl fp).pe) (fun s H C cl fp => (hg1 dx.M0 s H C cl fp).pe) (fun s H C cl fp => (ht1 dx.M0 s H C cl fp).pe) (fun s H C cl fp => (he dx.M0 s H C cl fp).pe) hs hs1, lc2_go hi sub sub1 hg ht hi1 hg1 ht1 he⟩
theorem ds_setLc2 {i : Nat} {y : Str} {py spos : Pos} (hc : X.calm = true) (hN : X.N.Nodup) (hy : X.N[i]? = some y) (hyl : X.env.scope.names.lookup y = some .local)
    (hsw : swapsWith (.ListComp elt [⟨tg, iter, ifs, 0⟩, ⟨tg1, iter1, ifs1, 0⟩] scope pos) (some (.Name y py)) spos.line X.env = pure true) (hi : DI X dx tg iter wi fi) (ok : BlkOk X.N X.env.scope scope own) (hv : ∀ i ∈ vs1, i ∈ own.map (·.2)) (sub : ∀ j ∈ o, j ∈ own.map (·.2)) (sub1 : ∀ j ∈ o1, j ∈ vs1)
    (hg : ∀ (m : Addr → Prop) (s : Shared) (H : Hp) (C : Addr) (cl : List (Str × Addr)) (fp : List Addr), DG (Blk X scope s H C cl fp) { dx with M0 := m } tg g f o)
    (ht : ∀ (m : Addr → Prop) (s : Shared) (H : Hp) (C : Addr) (cl : List (Str × Addr)) (fp : List Addr), DTs (Blk X scope s H C cl fp) { dx with M0 := m } ifs tt ft)
    (hi1 : ∀ (m : Addr → Prop) (s : Shared) (H : Hp) (C : Addr) (cl : List (Str × Addr)) (fp : List Addr), DI (Blk X scope s H C cl fp) { dx with M0 := m } tg1 iter1 wi1 fi1)
    (hg1 : ∀ (m : Addr → Prop) (s : Shared) (H : Hp) (C : Addr) (cl : List (Str × Addr)) (fp : List Addr), DG (Blk X scope s H C cl fp) { dx with M0 := m } tg1 g1 f1 o1)
    (ht1 : ∀ (m : Addr → Prop) (s : Shared) (H : Hp) (C : Addr) (cl : List (Str × Addr)) (fp : List Addr), DTs (Blk X scope s H C cl fp) { dx with M0 := m } ifs1 tt1 ft1)
    (he : ∀ (m : Addr → Prop) (s : Shared) (H : Hp) (C : Addr) (cl : List (Str × Addr)) (fp : List Addr), DE (Blk X scope s H C cl fp) { dx with M0 := m } elt te fa)
    (hs : ∀ x, foldedSetIterable iter X.env x = pure x := by intro _; rfl) (hs1 : ∀ env x, foldedSetIterable iter1 env x = pure x := by intro _ _; rfl) :
    DS X dx (.Assign [.Name y py] (.ListComp elt [⟨tg, iter, ifs, 0⟩, ⟨tg1, iter1, ifs1, 0⟩] scope pos) spos) (tAsg (tLc2 wi g tt wi1 g1 tt1 te (own.map (·.2)) vs1) (gName i)) (dSet i (dLc2 fi f ft fi1 f1 ft1 fa (own.map (·.2)) vs1)) :=
  ⟨ps_setLc2 hc hN hy hyl hsw hi.pe ok hv (fun s H C cl fp => (hg dx.M0 s H C cl fp).pe) (fun s H C cl fp => (ht dx.M0 s H C cl fp).pe) (fun s H C cl fp => (hi1 dx.M0 s H C cl fp).pe) (fun s H C cl fp => (hg1 dx.M0 s H C cl fp).pe) (fun s H C cl fp => (ht1 dx.M0 s H C cl fp).pe) (fun s H C cl fp => (he dx.M0 s H C cl fp).pe) hs hs1, set_go (lc2_go hi sub sub1 hg ht hi1 hg1 ht1 he)⟩
end
end DL
/-! Readings over data: calls, a def by its body, operators. -/
namespace DL
open PySem PySem.Spec L2 Gd

/-! ### what a def promises, by data -/
abbrev DSpec := List D → (D → Prop) → Prop
def spD (K : PySem.W.Frag) (hand : Addr → Prop) (J : Hp → Prop) (spec : DSpec) : Sp := fun vs H Q _ => ∃ (m : Addr → Prop) (ds : List D) (post : D → Prop),
  (∀ b, m b → H b ≠ none) ∧ (∀ b, hand b → m b) ∧ (∀ H1 H2 : Hp, (∀ b, hand b → H2 b = H1 b) → J H1 → J H2) ∧ J H ∧ DtAll K (Fo m) H vs ds ∧ spec ds post ∧
  ∀ v H' d, (∀ b o, H b = some o → ¬ hand b → H' b = some o) → (∀ b, m b → H' b ≠ none) → J H' → Dt K (Fo m) H' v d → post d → Q v H'
def noHand : Addr → Prop := fun _ => False
def noJ : Hp → Prop := fun _ => True
abbrev spP (K : PySem.W.Frag) (spec : DSpec) : Sp := spD K noHand noJ spec
def startD (N : List Str) (ds : List D) : Sl := ds.map some ++ List.replicate (N.length - ds.length) none
theorem start_sr {K : PySem.W.Frag} {dx : Dx} {H : Hp} {S : Sto} {N : List Str} {vs : List V} {ds : List D} (a : DtAll K (Mu dx S) H vs ds) : SR K dx (L2.start N vs) H (startD N ds) S := by
  have l := a.length
  unfold L2.start startD
  refine ⟨by simp [l], fun i d h => ?_⟩
  by_cases hi : i < ds.length
  · rw [List.getElem?_append_left (by simpa using hi), List.getElem?_map] at h
    rw [List.getElem?_append_left (by simpa [l] using hi), List.getElem?_map]
    cases e : ds[i]? with
    | none => rw [e] at h; cases h
    | some c =>
      rw [e] at h
      have h : some c = some d := by simpa using h
      cases h
      obtain ⟨v, e1, d1⟩ := a.get e
      exact ⟨v, by rw [e1]; rfl, d1⟩
  · rw [List.getElem?_append_right (by simpa using Nat.le_of_not_lt hi), List.getElem?_replicate] at h
    split at h <;> cases h
section
variable {P : Program} {w : World} {K : PySem.W.Frag} {mg : Str → Option Value} {base : Heap}
abbrev Body (P : Program) (w : World) (K : PySem.W.Frag) (mg : Str → Option Value) (base : Heap) (N : List Str) (qual : Str) (st : Stmt) (f : Addr) (cdv : Value) (A : Around) (fr : List Env) (s : Shared) (H : Hp) (E : XK) : Cx :=
  (cxOf CX0 P w K mg base N qual (defScope st) f cdv A fr s H E).nox
/-- THE RULE for a def: its body as a term of rules over data -/
theorem fnD {k : Nat} {x qual : Str} {st : Stmt} {f : Addr} {fd : FuncData} {N ps : List Str} {hand : Addr → Prop} {J : Hp → Prop} {spec : DSpec}
    (F : Fun K x qual st f fd) (S : FnScope N ps (defScope st)) (len : ∀ ds post, spec ds post → ds.length = ps.length)
    (body : ∀ (cdv : Value) (A : Around) (fr : List Env) (s : Shared) (H : Hp) (E : XK), Room k (A.deeper (PyProof.Rows.envOfC qual (defScope st) s.heap.objs.size f cdv)) → A.guards = some [] →
      ∀ dx : Dx, dx.hand = hand → dx.J = J → ∃ ts t, DSs (Body P w K mg base N qual st f cdv A fr s H E) dx (defBody st) ts t ∧
        ∀ ds post, spec ds post → t { nx := fun _ _ => post .non, rt := fun d _ => post d } (startD N ds) []) :
    FnG P w K mg base CX0 (k + 1) f fd ps (spD K hand J spec) := by
  refine fnG_body F S ?_ ?_
  · rintro vs H Q E ⟨m, ds, post, _, _, _, _, a, sp, _⟩
    rw [a.length]
    exact len ds post sp
  · rintro cdv A fr s H vs Q E room guard ⟨m, ds, post, live, hm, stab, j, a, sp, k'⟩
    obtain ⟨ts, t, h, q⟩ := body cdv A fr s H E room guard ⟨m, H, hand, J⟩ rfl rfl
    refine ⟨ts, h.pe.nox, ?_⟩
    have le : ExtD (Fo m) H (Mu ⟨m, H, hand, J⟩ []) H := by
      refine ⟨fun _ _ _ e => e, fun b z n => ?_⟩
      rcases z with z | z | z
      · exact absurd (.inl z) n
      · exact absurd (.inl (hm b z)) n
      · cases z
    have r : HR K ⟨m, H, hand, J⟩ H [] := ⟨fun p xs z => (nomatch z), List.nodup_nil, live, fun p z => (nomatch z), fun b o e _ => e, j, stab, hm⟩
    refine h.go _ H (startD N ds) [] { nx := fun _ _ => post .non, rt := fun d _ => post d } _ r (start_sr (a.extD le)) (q ds post sp) ⟨?_, ?_, ?_, ?_⟩
    · intro σ' H' δ' S' r' x' s' p'
      exact k' .non H' .non r'.keep r'.live r'.j .non p'
    · intro σ' H' δ' S' r' x' s' p'
      exact p'.elim
    · intro σ' H' δ' S' r' x' s' p'
      exact p'.elim
    · intro v H' d S' r' x' hd p'
      exact k' v H' d r'.keep r'.live r'.j hd p'
end

/-! ### calls of defs of one's own -/
section
variable {X : Cx} {dx : Dx} {k : Nat} {f : Addr} {fd : FuncData} {ps ks : List Str} {x : Str} {p pos : Pos} {e : Expr} {es : List Expr} {kws : List Keyword} {ta tk : TA} {fa fk : DTA} {spec : DSpec}
def dCall (spec : DSpec) (fa : DTA) : DTE := fun δ S Q => fa δ S fun ds S1 => spec ds fun d => Q d S1
theorem spd_go {K : PySem.W.Frag} {hand : Addr → Prop} {J : Hp → Prop} {H : Hp} {S : Sto} {vs : List V} {ds : List D} {Q : D → Sto → Prop} {Qh : VK} {E : XK} (r : HR K dx H S) (a : DtAll K (Mu dx S) H vs ds)
    (h : (hand = noHand ∧ J = noJ) ∨ (hand = dx.hand ∧ J = dx.J)) (t : spec ds fun d => Q d S) (kk : ThE K dx H S Q Qh) : spD K hand J spec vs H Qh E := by
  have le : Ext (Mu dx S) H (Fo (Mu dx S).mu) H := Ext.less (fun b z => z.elim id False.elim) (fun b z => z.elim)
  have ge : ∀ H' : Hp, ExtD (Fo (Mu dx S).mu) H' (Mu dx S) H' := fun H' => ⟨fun _ _ _ e => e, fun b z n => absurd (.inl z) n⟩
  rcases h with ⟨rfl, rfl⟩ | ⟨rfl, rfl⟩
  · refine ⟨(Mu dx S).mu, ds, _, r.mu_live, fun b z => z.elim, fun _ _ _ _ => trivial, trivial, a.ext le, t, fun v H' d kp lv j hd q => ?_⟩
    have sm : Same H H' := fun b o e => kp b o e fun z => z
    exact kk v H' d S (r.same sm) (Ext.same sm) (hd.extD (ge H')) q
  · refine ⟨(Mu dx S).mu, ds, _, r.mu_live, fun b z => .inr (.inl z), r.stab, r.j, a.ext le, t, fun v H' d kp lv j hd q => ?_⟩
    have xx : Ext (Mu dx S) H (Mu dx S) H' := ⟨fun b o n e => kp b o e fun z => n (.inl z), fun b m n => absurd m n, fun b m n => absurd m n⟩
    refine kk v H' d S ⟨fun q xs m => ?_, r.nd, fun b m => lv b (.inl m), r.own, fun b o e n => kp b o (r.keep b o e n) n, j, r.stab, r.hm⟩ xx (hd.extD (ge H')) q
    obtain ⟨ws, e, al⟩ := r.sto q xs m
    have nh : ¬ dx.hand q := fun z => (r.own q (List.mem_map.mpr ⟨_, m, rfl⟩)).2 (r.hm q z)
    exact ⟨ws, kp q _ e nh, al.ext xx⟩
/-- f(a, ..) -/
theorem de_call {hand : Addr → Prop} {J : Hp → Prop} (F : FnG X.prog X.w X.K X.mg X.base CX0 k f fd ps (spD X.K hand J spec)) (room : Room k X.A) (guard : X.A.guards = some [])
    (hg : Gl X x) (hm : X.mg x = some (.ref f)) (kp : PySem.W.keepIn X.K (.ref f) = true) (hb : Binds X.K fd ps []) (hh : (hand = noHand ∧ J = noJ) ∨ (hand = dx.hand ∧ J = dx.J)) (ha : DA X dx (e :: es) ta fa)
    (hdb : (x == ("__debug__" : Str)) = false := by decide)
    (he : starEach (e :: es) X.env = (false, eval e X.env) :: starEach es X.env := by rfl)
    (hpl : (backTo pos (starEach es X.env)).any (·.1) = false := by rfl) :
    DE X dx (.Call (.Name x p) (e :: es) [] pos) (tCall (spD X.K hand J spec) [] (fun _ _ _ => False) ta) (dCall spec fa) := by
  refine ⟨pe_callG F room guard hg hm kp hb .nil pass0 ha.pe hdb he hpl, fun σ H δ S Q Qh r s t kk => ?_⟩
  refine ha.go σ H δ S _ _ r s t fun vs H1 ds S1 r1 x1 d1 t1 => ?_
  rw [List.append_nil]
  exact spd_go r1 d1 hh t1 (kk.on x1)
theorem de_call0 {hand : Addr → Prop} {J : Hp → Prop} (F : FnG X.prog X.w X.K X.mg X.base CX0 k f fd ps (spD X.K hand J spec)) (room : Room k X.A) (guard : X.A.guards = some [])
    (hg : Gl X x) (hm : X.mg x = some (.ref f)) (kp : PySem.W.keepIn X.K (.ref f) = true) (hb : Binds X.K fd ps []) (hh : (hand = noHand ∧ J = noJ) ∨ (hand = dx.hand ∧ J = dx.J))
    (hdb : (x == ("__debug__" : Str)) = false := by decide) :
    DE X dx (.Call (.Name x p) [] [] pos) (tCall (spD X.K hand J spec) [] (fun _ _ _ => False) tNil) (dCall spec dNil) := by
  refine ⟨pe_callG0 F room guard hg hm kp hb .nil pass0 hdb, fun σ H δ S Q Qh r s t kk => ?_⟩
  exact spd_go (vs := [] ++ []) (E := fun _ _ _ => False) r .nil hh t kk
/-- the values of keywords put into the parameters' order -/
structure KOrd (gV : List V → List V → List V) (gD : List D → List D → List D) : Prop where
  all : ∀ {K : PySem.W.Frag} {M : Mm} {H : Hp} {vs ws : List V} {ds es : List D}, DtAll K M H vs ds → DtAll K M H ws es → DtAll K M H (gV vs ws) (gD ds es)
def dCallK (spec : DSpec) (gD : List D → List D → List D) (fa fk : DTA) : DTE := fun δ S Q => fa δ S fun ds S1 => fk δ S1 fun es S2 => spec (gD ds es) fun d => Q d S2
variable {g : List Value → List Value → List Value} {gV : List V → List V → List V} {gD : List D → List D → List D}
/-- f(a, .., n = b, ..) -/
theorem de_callK {hand : Addr → Prop} {J : Hp → Prop} (F : FnG X.prog X.w X.K X.mg X.base CX0 k f fd ps (spD X.K hand J spec)) (room : Room k X.A) (guard : X.A.guards = some [])
    (hg : Gl X x) (hm : X.mg x = some (.ref f)) (kp : PySem.W.keepIn X.K (.ref f) = true) (hb : KBinds X.K fd ps ks g gV) (ho : KOrd gV gD) (hh : (hand = noHand ∧ J = noJ) ∨ (hand = dx.hand ∧ J = dx.J)) (ha : DA X dx (e :: es) ta fa) (hk : DK X dx kws tk fk)
    (hall : (backToKw pos (keywordEach kws X.env)).all (·.1.isSome) = true := by rfl)
    (hks : (backToKw pos (keywordEach kws X.env)).filterMap (·.1) = ks := by rfl)
    (hdb : (x == ("__debug__" : Str)) = false := by decide)
    (he : starEach (e :: es) X.env = (false, eval e X.env) :: starEach es X.env := by rfl)
    (hpl : ((backTo pos (starEach (e :: es) X.env)).any (·.1) || (backToKw pos (keywordEach kws X.env)).any (·.1.isNone)) = false := by rfl) :
    DE X dx (.Call (.Name x p) (e :: es) kws pos) (tCallK (spD X.K hand J spec) gV (fun _ _ _ => False) ta tk) (dCallK spec gD fa fk) := by
  refine ⟨pe_callGK F room guard hg hm kp hb pass0 ha.pe hk.pe hall hks hdb he hpl, fun σ H δ S Q Qh r s t kk => ?_⟩
  refine ha.go σ H δ S _ _ r s t fun vs H1 ds S1 r1 x1 d1 t1 => ?_
  refine hk.go σ H1 δ S1 _ _ r1 (s.ext x1) t1 fun ws H2 es S2 r2 x2 d2 t2 => ?_
  exact spd_go r2 (ho.all (d1.ext x2) d2) hh t2 (kk.on (x1.trans x2))
/-- f(n = b, ..) -/
theorem de_callK0 {hand : Addr → Prop} {J : Hp → Prop} (F : FnG X.prog X.w X.K X.mg X.base CX0 k f fd ps (spD X.K hand J spec)) (room : Room k X.A) (guard : X.A.guards = some [])
    (hg : Gl X x) (hm : X.mg x = some (.ref f)) (kp : PySem.W.keepIn X.K (.ref f) = true) (hb : KBinds X.K fd ps ks g gV) (ho : KOrd gV gD) (hh : (hand = noHand ∧ J = noJ) ∨ (hand = dx.hand ∧ J = dx.J)) (hk : DK X dx kws tk fk)
    (hall : (backToKw pos (keywordEach kws X.env)).all (·.1.isSome) = true := by rfl)
    (hks : (backToKw pos (keywordEach kws X.env)).filterMap (·.1) = ks := by rfl)
    (hdb : (x == ("__debug__" : Str)) = false := by decide)
    (hpl : ((backTo pos (starEach [] X.env)).any (·.1) || (backToKw pos (keywordEach kws X.env)).any (·.1.isNone)) = false := by rfl) :
    DE X dx (.Call (.Name x p) [] kws pos) (tCallK (spD X.K hand J spec) gV (fun _ _ _ => False) tNil tk) (dCallK spec gD dNil fk) := by
  refine ⟨pe_callGK0 F room guard hg hm kp hb pass0 hk.pe hall hks hdb hpl, fun σ H δ S Q Qh r s t kk => ?_⟩
  refine hk.go σ H δ S _ _ r s t fun ws H2 es S2 r2 x2 d2 t2 => ?_
  exact spd_go r2 (ho.all .nil d2) hh t2 (kk.on x2)

/-! ### built-ins -/
def CallD (K : PySem.W.Frag) (dx : Dx) (r : List V → Hp → VK → Prop) (f : List D → Sto → (D → Sto → Prop) → Prop) : Prop :=
  ∀ vs ds H S Q Qh, HR K dx H S → DtAll K (Mu dx S) H vs ds → f ds S Q → ThE K dx H S Q Qh → r vs H Qh
def dCB (f : List D → Sto → (D → Sto → Prop) → Prop) (fa : DTA) : DTE := fun δ S Q => fa δ S fun ds S1 => f ds S1 Q
theorem cb_go {r : List V → Hp → VK → Prop} {f} (o : CallD X.K dx r f) (ha : DA X dx es ta fa) :
    ∀ σ H δ S Q Qh, HR X.K dx H S → SR X.K dx σ H δ S → dCB f fa δ S Q → ThE X.K dx H S Q Qh → tCB r ta σ H Qh :=
  fun σ H δ S Q Qh r0 s0 t kk => ha.go σ H δ S _ _ r0 s0 t fun vs H1 ds S1 r1 x1 d1 t1 => o vs ds H1 S1 Q Qh r1 d1 t1 (kk.on x1)
theorem de_callB {id : String} {r : List V → Hp → VK → Prop} {f} (hc : CallR X (.builtin id) r) (o : CallD X.K dx r f) (hg : Gl X x) (hm : X.mg x = none) (hv : bootBuiltins x = some (.builtin id)) (ha : DA X dx (e :: es) ta fa)
    (h : PE X (.Call (.Name x p) (e :: es) [] pos) (tCB r ta) := by exact pe_callB (by assumption) (by assumption) (by assumption) (by assumption) (DA.pe (by assumption))) :
    DE X dx (.Call (.Name x p) (e :: es) [] pos) (tCB r ta) (dCB f fa) := ⟨h, cb_go o ha⟩
theorem de_callTy {id : String} {r : List V → Hp → VK → Prop} {f} (hc : CallR X (.type id) r) (o : CallD X.K dx r f) (hg : Gl X x) (hm : X.mg x = none) (hv : bootBuiltins x = some (.type id)) (ha : DA X dx (e :: es) ta fa)
    (h : PE X (.Call (.Name x p) (e :: es) [] pos) (tCB r ta) := by exact pe_callTy (by assumption) (by assumption) (by assumption) (by assumption) (DA.pe (by assumption))) :
    DE X dx (.Call (.Name x p) (e :: es) [] pos) (tCB r ta) (dCB f fa) := ⟨h, cb_go o ha⟩
end
end DL
/-! Readings over data: operators. -/
namespace DL
open PySem PySem.Spec L2 Gd

theorem tm_one (l : Addr) (items : Array Value) (n : Nat) (dd : Option Addr) (sl : Array (Option Value)) (u : Tok) :
    Meets (Builtin.«tuple.__mul__» ⟨[.ref l, .int 1 u], []⟩) (fun _ R s => s.heap.get? l = some { cls := .type "tuple", dict := dd, data := .seq items n, slots := sl } ∧
      R (.ok (.ret (Value.ref l))) s) :=
  .of_wp fun prog w A R s h => by
    obtain ⟨hp, g, d, tk, os⟩ := s
    obtain ⟨hl, h⟩ := h
    have f1 := AutoSeq1.idx_int
    wp_walk using wpAny_loadPart' hl
    exact ⟨_, rfl, h⟩
theorem tm_zero (l : Addr) (items : Array Value) (n : Nat) (dd : Option Addr) (sl : Array (Option Value)) (u : Tok) (he : items.isEmpty = false) :
    Meets (Builtin.«tuple.__mul__» ⟨[.ref l, .int 0 u], []⟩) (fun _ R s => s.heap.get? l = some { cls := .type "tuple", dict := dd, data := .seq items n, slots := sl } ∧
      R (.ok (.ret (Value.ref s.heap.objs.size))) { s with heap := s.heap.push { cls := Value.type "tuple", data := Data.seq #[] }, toks := s.toks }) :=
  .of_wp fun prog w A R s h => by
    obtain ⟨hp, g, d, tk, os⟩ := s
    obtain ⟨hl, h⟩ := h
    have f1 := AutoSeq1.idx_int
    have c1 : (items.isEmpty || (0 : Int) == 1) = false := by rw [he]; rfl
    wp_walk using wpAny_loadPart' hl
    repeat (first
      | (refine wpAny_ite_false (decide_eq_false (by rw [c1]; exact Bool.false_ne_true)) ?_; wp_walk using wpAny_loadPart' hl))
    exact ⟨_, rfl, h⟩
section
variable {X : Cx} {dx : Dx} {K : PySem.W.Frag}
/-- t * 0, t * 1 -/
def rRep01 (K : PySem.W.Frag) : R2 := fun x y H Q => ∃ l k xs, x = .ref l ∧ y = .int k ∧ SqT K H l xs ∧ xs ≠ [] ∧
  ((k = 1 ∧ Q (.ref l) H) ∨ (k = 0 ∧ ∀ p, H p = none → Q (.ref p) (upd H p (.tup []))))
theorem op_rep01 : OpR X (binaryOp .Mult) (rRep01 X.K) := by
  intro pins s σ H x y v u Q I rx ry h
  obtain ⟨l, k, xs, rfl, rfl, hT, hne, q⟩ := h
  cases rx
  obtain ⟨t, rfl⟩ := ry
  obtain ⟨its, r, ⟨⟨cls, dd, data, sl⟩, ho, hc, n, hd⟩, hs⟩ := I.tuple hT
  simp only at hc hd
  subst hc hd
  have hi : its.toArray.isEmpty = false := by
    cases r with
    | nil => exact absurd rfl hne
    | cons _ _ => rfl
  rcases q with ⟨rfl, q⟩ | ⟨rfl, q⟩
  · refine wpAny_binaryOp_repeat_ref (T := "tuple") (U := "int") (by decide) ⟨_, ho, rfl⟩ (fun s' => typeIs_int s' 1 t) noFill_tuple_mul F.fills_int_mul F.slot_int_rmul repeat_tuple F.slot_int_index.lookup
      (call_meets F.slot_int_rmul (typeIs_int s 1 t) F.entry_int_rmul (F.args_int_rmul_2 _ _) (int_rmul_tuple 1 t l its.toArray n dd sl)
        ⟨ho, rfl, ⟨_, ho, rfl⟩, call_meets F.slot_tuple_mul ⟨_, ho, rfl⟩ F.entry_tuple_mul (F.args_tuple_mul_2 _ _) (tm_one l its.toArray n dd sl t) ⟨ho, ?_⟩⟩)
    exact ⟨.ref l, H, I, rfl, q⟩
  · refine wpAny_binaryOp_repeat_ref (T := "tuple") (U := "int") (by decide) ⟨_, ho, rfl⟩ (fun s' => typeIs_int s' 0 t) noFill_tuple_mul F.fills_int_mul F.slot_int_rmul repeat_tuple F.slot_int_index.lookup
      (call_meets F.slot_int_rmul (typeIs_int s 0 t) F.entry_int_rmul (F.args_int_rmul_2 _ _) (int_rmul_tuple 0 t l its.toArray n dd sl)
        ⟨ho, rfl, ⟨_, ho, rfl⟩, call_meets F.slot_tuple_mul ⟨_, ho, rfl⟩ F.entry_tuple_mul (F.args_tuple_mul_2 _ _) (tm_zero l its.toArray n dd sl t hi) ⟨ho, ?_⟩⟩)
    refine ⟨.ref s.heap.objs.size, _, I.laid (t' := s.toks) (o := .tup []) (fun b ob e => Heap.get?_push_of_some _ e) (Nat.le_refl _) ?_, rfl, q _ (I.hok.fresh (Nat.le_refl _))⟩
    exact ⟨Nat.zero_le _, [], .nil, PyProof.Rows.IsTup.new _ _⟩

/-! ### + -/
/-- the items of a list -/
def asL (S : Sto) : D → Option (List D)
  | .lst ds => some ds
  | .adr p => getS S p
  | _ => none
theorem asL_at {H : Hp} {S : Sto} {x : V} {d : D} {ds : List D} (r : HR K dx H S) (h : Dt K (Mu dx S) H x d) (e : asL S d = some ds) : ∃ p vs, x = .ref p ∧ H p = some (.lst vs) ∧ DtAll K (Mu dx S) H vs ds := by
  cases h with
  | lst n h a =>
    have e : some _ = some ds := e
    cases e
    exact ⟨_, _, rfl, h, a⟩
  | adr p =>
    obtain ⟨_, vs, eh, al⟩ := r.get e
    exact ⟨p, vs, rfl, eh, al⟩
  | _ => cases e
def fAddL (p q : D) (S : Sto) (Q : D → Sto → Prop) : Prop := opt (asL S p) fun xs => opt (asL S q) fun ys => Fit (xs.length + ys.length) ∧ Q (.lst (xs ++ ys)) S
def fAdd : F2
  | .int i, .int j, S, Q => Q (.int (i + j)) S
  | .str x, .str y, S, Q => Fit (x.length + y.length) ∧ Q (.str (x ++ y)) S
  | .tup xs, .tup ys, S, Q => Fit (xs.length + ys.length) ∧ Q (.tup (xs ++ ys)) S
  | p, q, S, Q => fAddL p q S Q
def rAdd (K : PySem.W.Frag) : R2 := fun x y H Q => (∃ i j, x = .int i ∧ y = .int j ∧ Q (.int (i + j)) H) ∨ (∃ i j, x = .str i ∧ y = .str j ∧ i.length + j.length ≤ sizeLine ∧ Q (.str (i ++ j)) H) ∨ rCatA K x y H Q ∨ rCat x y H Q
theorem op_addAll : OpR X (binaryOp .Add) (DL.rAdd X.K) := op_add.or (op_add_str.or (op_catA.or op_cat))
theorem od_add : OpD K dx (DL.rAdd K) fAdd := by
  have lists : ∀ x y p q H S Q Qh, HR K dx H S → Dt K (Mu dx S) H x p → Dt K (Mu dx S) H y q → fAddL p q S Q → ThE K dx H S Q Qh → rCat x y H Qh := by
    intro x y p q H S Q Qh r hx hy t k
    obtain ⟨xs, e1, t⟩ := opt_run t
    obtain ⟨ys, e2, t⟩ := opt_run t
    obtain ⟨l, vs, rfl, h1, a1⟩ := asL_at r hx e1
    obtain ⟨b, ws, rfl, h2, a2⟩ := asL_at r hy e2
    refine ⟨l, b, vs, ws, rfl, rfl, h1, h2, by rw [a1.length, a2.length]; exact t.1.line, fun z n => ?_⟩
    obtain ⟨r2, x2, d2⟩ := new_lst r n (a1.append a2)
    exact k _ _ _ S r2 x2 d2 t.2
  have tups : ∀ x y xs ys H S Q Qh, HR K dx H S → Dt K (Mu dx S) H x (.tup xs) → Dt K (Mu dx S) H y (.tup ys) → Fit (xs.length + ys.length) ∧ Q (.tup (xs ++ ys)) S → ThE K dx H S Q Qh → rCatA K x y H Qh := by
    intro x y xs ys H S Q Qh r hx hy t k
    obtain ⟨a, vs, rfl, h1, a1⟩ := hx.sqT
    obtain ⟨b, ws, rfl, h2, a2⟩ := hy.sqT
    refine ⟨a, b, vs, ws, rfl, rfl, h1, h2, by rw [a1.length, a2.length]; exact t.1.line, fun e => ?_, fun _ e => ?_, fun _ _ z n => ?_⟩
    · subst e
      cases a1
      exact k _ H _ S r Ext.refl hy t.2
    · subst e
      cases a2
      have t2 := t.2
      rw [List.append_nil] at t2
      exact k _ H _ S r Ext.refl hx t2
    · obtain ⟨r2, x2, d2⟩ := new_tup r n (a1.append a2)
      exact k _ _ _ S r2 x2 d2 t.2
  intro x y p q H S Q Qh r hx hy t k
  cases p with
  | int i =>
    cases q with
    | int j =>
      cases hx
      cases hy
      exact .inl ⟨i, j, rfl, rfl, k _ H _ S r Ext.refl (.int _) t⟩
    | _ => exact .inr (.inr (.inr (lists _ _ _ _ H S Q Qh r hx hy t k)))
  | str i =>
    cases q with
    | str j =>
      cases hx
      cases hy
      exact .inr (.inl ⟨i, j, rfl, rfl, t.1.line, k _ H _ S r Ext.refl (.str _) t.2⟩)
    | _ => exact .inr (.inr (.inr (lists _ _ _ _ H S Q Qh r hx hy t k)))
  | tup xs =>
    cases q with
    | tup ys => exact .inr (.inr (.inl (tups _ _ _ _ H S Q Qh r hx hy t k)))
    | _ => exact .inr (.inr (.inr (lists _ _ _ _ H S Q Qh r hx hy t k)))
  | _ => cases q <;> exact .inr (.inr (.inr (lists _ _ _ _ H S Q Qh r hx hy t k)))

/-! ### numbers -/
def onI (C : Int → Int → Prop) (g : Int → Int → D) : F2
  | .int i, .int j, S, Q => C i j ∧ Q (g i j) S
  | _, _, _, _ => False
theorem od_onI {C : Int → Int → Prop} {g : Int → Int → Int} : OpD K dx (rI C fun i j => .int (g i j)) (onI C fun i j => .int (g i j)) := by
  intro x y p q H S Q Qh r hx hy t k
  cases hx with
  | int i =>
    cases hy with
    | int j => exact ⟨i, j, rfl, rfl, t.1, k _ H _ S r Ext.refl (.int _) t.2⟩
    | _ => exact t.elim
  | _ => cases hy <;> exact t.elim
def onI0 (g : Int → Int → D) : F2
  | .int i, .int j, S, Q => Q (g i j) S
  | _, _, _, _ => False
theorem od_onI0 {g : Int → Int → Int} : OpD K dx (rI0 fun i j => .int (g i j)) (onI0 fun i j => .int (g i j)) := by
  intro x y p q H S Q Qh r hx hy t k
  cases hx with
  | int i =>
    cases hy with
    | int j => exact ⟨i, j, rfl, rfl, k _ H _ S r Ext.refl (.int _) t⟩
    | _ => exact t.elim
  | _ => cases hy <;> exact t.elim
theorem od_onB {g : Int → Int → Bool} : OpD K dx (rI0 fun i j => .bl (g i j)) (onI0 fun i j => .bl (g i j)) := by
  intro x y p q H S Q Qh r hx hy t k
  cases hx with
  | int i =>
    cases hy with
    | int j => exact ⟨i, j, rfl, rfl, k _ H _ S r Ext.refl (.bl _) t⟩
    | _ => exact t.elim
  | _ => cases hy <;> exact t.elim
def fSub : F2 := onI0 fun i j => .int (i - j)
def fLt : F2 := onI0 fun i j => .bl (decide (i < j))
def fLe : F2 := onI0 fun i j => .bl (decide (i ≤ j))
def fGt : F2 := onI0 fun i j => .bl (decide (j < i))
def fGe : F2 := onI0 fun i j => .bl (decide (j ≤ i))
def MOk (i j : Int) : Prop := CMul i j ∨ CMulW i j
/-- a product of which one side is small -/
theorem MOk.left {i j : Int} (h : -(2 ^ 64) < i ∧ i < 2 ^ 64) : MOk i j := .inl (.inl h)
theorem MOk.right {i j : Int} (h : -(2 ^ 64) < j ∧ j < 2 ^ 64) : MOk i j := .inl (.inr h)
def fMul : F2
  | .int i, .int j, S, Q => MOk i j ∧ Q (.int (i * j)) S
  | .tup ds, .int k, S, Q => ds ≠ [] ∧ 0 ≤ k ∧ k ≤ 1000 ∧ ds.length ≤ 1000 ∧ Q (.tup (List.replicate k.toNat ds).flatten) S
  | .lst ds, .int k, S, Q => -(2 ^ 63) ≤ k ∧ k < 2 ^ 63 ∧ Fit (ds.length * k.toNat) ∧ Q (.lst (List.replicate k.toNat ds).flatten) S
  | _, _, _, _ => False
def rMul (K : PySem.W.Frag) : R2 := fun x y H Q => rI CMul (fun i j => .int (i * j)) x y H Q ∨ rI CMulW (fun i j => .int (i * j)) x y H Q ∨ rRep01 K x y H Q ∨ rRepT K x y H Q ∨ rRep x y H Q
theorem op_mulAll : OpR X (binaryOp .Mult) (rMul X.K) := op_mul.or (op_mulW.or (op_rep01.or (op_repT.or op_rep)))
theorem od_mul : OpD K dx (rMul K) fMul := by
  intro x y p q H S Q Qh r hx hy t k
  cases hy with
  | int j =>
    cases p with
    | int i =>
      cases hx
      rcases t with ⟨t | t, q⟩
      · exact .inl ⟨i, j, rfl, rfl, t, k _ H _ S r Ext.refl (.int _) q⟩
      · exact .inr (.inl ⟨i, j, rfl, rfl, t, k _ H _ S r Ext.refl (.int _) q⟩)
    | tup ds =>
      obtain ⟨ne, h0, h1, h2, q⟩ := t
      obtain ⟨a, vs, rfl, hT, al⟩ := hx.sqT
      have nv : vs ≠ [] := fun e => ne (by subst e; cases al; rfl)
      by_cases c0 : j = 0
      · subst c0
        refine .inr (.inr (.inl ⟨a, 0, vs, rfl, rfl, hT, nv, .inr ⟨rfl, fun z n => ?_⟩⟩))
        obtain ⟨r2, x2, d2⟩ := new_tup (ds := []) r n .nil
        exact k _ _ _ S r2 x2 d2 q
      · by_cases c1 : j = 1
        · subst c1
          have q : Q (.tup (List.replicate 1 ds).flatten) S := q
          rw [List.replicate_one, List.flatten_singleton] at q
          exact .inr (.inr (.inl ⟨a, 1, vs, rfl, rfl, hT, nv, .inl ⟨rfl, k _ H _ S r Ext.refl hx q⟩⟩))
        · refine .inr (.inr (.inr (.inl ⟨a, j, vs, rfl, rfl, hT, nv, by omega, h1, by rw [al.length]; exact h2, fun z n => ?_⟩)))
          obtain ⟨r2, x2, d2⟩ := new_tup r n (al.rep j.toNat)
          exact k _ _ _ S r2 x2 d2 q
    | lst ds =>
      obtain ⟨h0, h1, h2, q⟩ := t
      obtain ⟨a, vs, rfl, _, hl, al⟩ := hx.sqL
      refine .inr (.inr (.inr (.inr ⟨a, j, vs, rfl, rfl, hl, h0, h1, by rw [al.length]; exact h2.line, fun z n => ?_⟩)))
      obtain ⟨r2, x2, d2⟩ := new_lst r n (al.rep j.toNat)
      exact k _ _ _ S r2 x2 d2 q
    | _ => exact t.elim
  | _ => cases hx <;> exact t.elim
def fMod : F2 := onI (fun _ j => 0 < j) fun i j => .int (i % j)
def fDiv : F2 := onI CDivW fun i j => .int (i / j)
def fPow : F2 := onI CPow fun i j => .int (i ^ j.toNat)
def fAnd : F2 := onI0 fun i j => .int (Builtin.bitAnd i j)
def fOr : F2 := onI0 fun i j => .int (Builtin.bitOr i j)
def fXor : F2 := onI0 fun i j => .int (Builtin.bitXor i j)
def fShl : F2 := onI CPow fun i j => .int (i * 2 ^ j.toNat)
theorem ip_addI : OpD K dx (ipI fun i j => i + j) (onI0 fun i j => .int (i + j)) := by
  intro x y p q H S Q Qh r hx hy t k
  cases hx with
  | int i =>
    cases hy with
    | int j => exact ⟨i, j, rfl, rfl, k _ H _ S r Ext.refl (.int _) t⟩
    | _ => exact t.elim
  | _ => cases hy <;> exact t.elim
theorem ip_subI : OpD K dx (ipI fun i j => i - j) (onI0 fun i j => .int (i - j)) := by
  intro x y p q H S Q Qh r hx hy t k
  cases hx with
  | int i =>
    cases hy with
    | int j => exact ⟨i, j, rfl, rfl, k _ H _ S r Ext.refl (.int _) t⟩
    | _ => exact t.elim
  | _ => cases hy <;> exact t.elim

/-! ### is None -/
def fIsN : F2
  | p, .non, S, Q => Q (.bl (match p with | .non => true | _ => false)) S
  | _, _, _, _ => False
def fNotN : F2
  | p, .non, S, Q => Q (.bl (match p with | .non => false | _ => true)) S
  | _, _, _, _ => False
theorem od_isN : OpD K dx (fun x y H Q => y = .non ∧ Q (.bl (decide (x = .non))) H) fIsN := by
  intro x y p q H S Q Qh r hx hy t k
  cases hy with
  | non =>
    refine ⟨rfl, ?_⟩
    cases hx <;> exact k _ H _ S r Ext.refl (.bl _) t
  | _ => cases p <;> exact t.elim
theorem od_notN : OpD K dx (fun x y H Q => y = .non ∧ Q (.bl (!decide (x = .non))) H) fNotN := by
  intro x y p q H S Q Qh r hx hy t k
  cases hy with
  | non =>
    refine ⟨rfl, ?_⟩
    cases hx <;> exact k _ H _ S r Ext.refl (.bl _) t
  | _ => cases p <;> exact t.elim
end
end DL
/-! Readings over data: ==, repr, built-ins. -/
namespace DL
open PySem PySem.Spec L2 Gd

mutual
def py : D → PyData
  | .non => .none
  | .bl b => .bool b
  | .int i => .int i
  | .str x => .str x
  | .tup ds => .tuple (pyAll ds)
  | .lst ds => .list (pyAll ds)
  | .fls ns => .list (ns.map .int)
  | .adr _ => .none
def pyAll : List D → List PyData
  | [] => []
  | d :: ds => py d :: pyAll ds
end
/-- data without addresses, at most n deep -/
def dn : Nat → D → Bool
  | _, .non => true
  | _, .bl _ => true
  | _, .int _ => true
  | _, .str x => PyData.strOk x
  | n + 1, .tup ds => ds.all (dn n)
  | n + 1, .lst ds => ds.all (dn n)
  | _, _ => false
/-- .. and without True and False -/
def nb : Nat → D → Bool
  | _, .non => true
  | _, .int _ => true
  | _, .str x => PyData.strOk x
  | n + 1, .tup ds => ds.all (nb n)
  | n + 1, .lst ds => ds.all (nb n)
  | _, _ => false
theorem nb_dn : ∀ {n : Nat} {d : D}, nb n d = true → dn n d = true
  | _, .non, _ => by cases ‹Nat› <;> rfl
  | _, .int _, _ => by cases ‹Nat› <;> rfl
  | 0, .str _, h => h
  | _ + 1, .str _, h => h
  | n + 1, .tup ds, h => List.all_eq_true.mpr fun x m => nb_dn (List.all_eq_true.mp h x m)
  | n + 1, .lst ds, h => List.all_eq_true.mpr fun x m => nb_dn (List.all_eq_true.mp h x m)
  | 0, .tup _, h => by cases h
  | 0, .lst _, h => by cases h
  | 0, .bl _, h => by cases h
  | _ + 1, .bl _, h => by cases h
  | 0, .adr _, h => by cases h
  | _ + 1, .adr _, h => by cases h
  | 0, .fls _, h => by cases h
  | _ + 1, .fls _, h => by cases h
section
variable {K : PySem.W.Frag} {M : Mm} {H : Hp}
mutual
theorem dp_of : ∀ {n : Nat} {v : V} {d : D}, Dt K M H v d → dn n d = true → Dp K H v (py d)
  | _, _, _, .non, _ => .non
  | _, _, _, .bl b, _ => .bl b
  | _, _, _, .int i, _ => .int i
  | _, _, _, .str x, _ => .str x
  | n + 1, _, _, .tup _ h a, q => .tup (.inl h) (dpAll_of a (n := n) (List.all_eq_true.mp q))
  | n + 1, _, _, .ktup h a, q => .tup (.inr h) (dpAll_of a (n := n) (List.all_eq_true.mp q))
  | n + 1, _, _, .lst _ h a, q => .lst (SqL.of h) (dpAll_of a (n := n) (List.all_eq_true.mp q))
  | 0, _, _, .tup _ _ _, q => by cases q
  | 0, _, _, .ktup _ _, q => by cases q
  | 0, _, _, .lst _ _ _, q => by cases q
  | 0, _, _, .fls _ _, q => by cases q
  | _ + 1, _, _, .fls _ _, q => by cases q
  | 0, _, _, .kfls _, q => by cases q
  | _ + 1, _, _, .kfls _, q => by cases q
  | 0, _, _, .adr _, q => by cases q
  | _ + 1, _, _, .adr _, q => by cases q
theorem dpAll_of : ∀ {n : Nat} {vs : List V} {ds : List D}, DtAll K M H vs ds → (∀ x ∈ ds, dn n x = true) → DpAll K H vs (pyAll ds)
  | _, _, _, .nil, _ => .nil
  | _, _, _, .cons h t, q => .cons (dp_of h (q _ List.mem_cons_self)) (dpAll_of t fun x m => q x (List.mem_cons_of_mem _ m))
end
end
mutual
theorem py_can : ∀ {n : Nat} {d : D}, dn n d = true → (py d).canLay0 = true
  | _, .non, _ => by simp [py, PyData.canLay0]
  | _, .bl _, _ => by simp [py, PyData.canLay0]
  | _, .int _, _ => by simp [py, PyData.canLay0]
  | 0, .str x, h => by
    simp only [py, PyData.canLay0]
    exact h
  | _ + 1, .str x, h => by
    simp only [py, PyData.canLay0]
    exact h
  | n + 1, .tup ds, h => by
    simp only [py, PyData.canLay0]
    exact pyAll_can (n := n) (List.all_eq_true.mp h)
  | n + 1, .lst ds, h => by
    simp only [py, PyData.canLay0]
    exact pyAll_can (n := n) (List.all_eq_true.mp h)
  | 0, .tup _, h => by cases h
  | 0, .lst _, h => by cases h
  | 0, .adr _, h => by cases h
  | _ + 1, .adr _, h => by cases h
  | 0, .fls _, h => by cases h
  | _ + 1, .fls _, h => by cases h
theorem pyAll_can : ∀ {n : Nat} {ds : List D}, (∀ x ∈ ds, dn n x = true) → PyData.canLayAll0 (pyAll ds) = true
  | _, [], _ => by simp [pyAll, PyData.canLayAll0]
  | n, d :: ds, h => by
    simp only [pyAll, PyData.canLayAll0, Bool.and_eq_true]
    exact ⟨py_can (h _ List.mem_cons_self), pyAll_can fun x m => h x (List.mem_cons_of_mem _ m)⟩
end
mutual
theorem py_depth : ∀ {n : Nat} {d : D}, dn n d = true → (py d).depth ≤ n
  | _, .non, _ => by simp [py, PyData.depth]
  | _, .bl _, _ => by simp [py, PyData.depth]
  | _, .int _, _ => by simp [py, PyData.depth]
  | 0, .str x, h => by simp [py, PyData.depth]
  | _ + 1, .str x, h => by simp [py, PyData.depth]
  | n + 1, .tup ds, h => by
    simp only [py, PyData.depth]
    exact Nat.succ_le_succ (pyAll_depth (n := n) (List.all_eq_true.mp h))
  | n + 1, .lst ds, h => by
    simp only [py, PyData.depth]
    exact Nat.succ_le_succ (pyAll_depth (n := n) (List.all_eq_true.mp h))
  | 0, .tup _, h => by cases h
  | 0, .lst _, h => by cases h
  | 0, .adr _, h => by cases h
  | _ + 1, .adr _, h => by cases h
  | 0, .fls _, h => by cases h
  | _ + 1, .fls _, h => by cases h
theorem pyAll_depth : ∀ {n : Nat} {ds : List D}, (∀ x ∈ ds, dn n x = true) → PyData.depthAll (pyAll ds) ≤ n
  | _, [], _ => by simp [pyAll, PyData.depthAll]
  | n, d :: ds, h => by
    simp only [pyAll, PyData.depthAll]
    exact Nat.max_le.mpr ⟨py_depth (h _ List.mem_cons_self), pyAll_depth fun x m => h x (List.mem_cons_of_mem _ m)⟩
end
theorem py_shaped {d : D} (h : dn 40 d = true) : SeqAt.shaped (py d) = true := by
  unfold SeqAt.shaped
  rw [py_can h, Bool.true_and]
  have := py_depth h
  exact decide_eq_true (by omega)
def deq (a b : D) : Bool := PyData.eqv (py a) (py b)
theorem deq_refl {n : Nat} {d : D} (h : dn n d = true) : deq d d = true := SeqAt.eqv_refl _ (py_can h)
mutual
theorem eqv_eq : ∀ {n : Nat} {a b : D}, nb n a = true → nb n b = true → PyData.eqv (py a) (py b) = true → a = b
  | _, .non, .non, _, _, _ => rfl
  | _, .int i, .int j, _, _, h => by
    simp only [py, PyData.eqv, beq_iff_eq] at h
    rw [h]
  | _, .str x, .str y, _, _, h => by
    simp only [py, PyData.eqv, beq_iff_eq] at h
    rw [h]
  | n + 1, .tup xs, .tup ys, ha, hb, h => by
    simp only [py, PyData.eqv] at h
    rw [eqvAll_eq (n := n) (List.all_eq_true.mp ha) (List.all_eq_true.mp hb) h]
  | n + 1, .lst xs, .lst ys, ha, hb, h => by
    simp only [py, PyData.eqv] at h
    rw [eqvAll_eq (n := n) (List.all_eq_true.mp ha) (List.all_eq_true.mp hb) h]
  | 0, .bl _, _, h, _, _ => by cases h
  | _ + 1, .bl _, _, h, _, _ => by cases h
  | 0, .fls _, _, h, _, _ => by cases h
  | _ + 1, .fls _, _, h, _, _ => by cases h
  | 0, .adr _, _, h, _, _ => by cases h
  | _ + 1, .adr _, _, h, _, _ => by cases h
  | 0, .tup _, _, h, _, _ => by cases h
  | 0, .lst _, _, h, _, _ => by cases h
  | 0, _, .bl _, _, h, _ => by cases h
  | _ + 1, _, .bl _, _, h, _ => by cases h
  | 0, _, .fls _, _, h, _ => by cases h
  | _ + 1, _, .fls _, _, h, _ => by cases h
  | 0, _, .adr _, _, h, _ => by cases h
  | _ + 1, _, .adr _, _, h, _ => by cases h
  | 0, _, .tup _, _, h, _ => by cases h
  | 0, _, .lst _, _, h, _ => by cases h
  | _, .non, .int _, _, _, h => by simp [py, PyData.eqv] at h
  | _, .non, .str _, _, _, h => by simp [py, PyData.eqv] at h
  | _ + 1, .non, .tup _, _, _, h => by simp [py, PyData.eqv] at h
  | _ + 1, .non, .lst _, _, _, h => by simp [py, PyData.eqv] at h
  | _, .int _, .non, _, _, h => by simp [py, PyData.eqv] at h
  | _, .int _, .str _, _, _, h => by simp [py, PyData.eqv] at h
  | _ + 1, .int _, .tup _, _, _, h => by simp [py, PyData.eqv] at h
  | _ + 1, .int _, .lst _, _, _, h => by simp [py, PyData.eqv] at h
  | _, .str _, .non, _, _, h => by simp [py, PyData.eqv] at h
  | _, .str _, .int _, _, _, h => by simp [py, PyData.eqv] at h
  | _ + 1, .str _, .tup _, _, _, h => by simp [py, PyData.eqv] at h
  | _ + 1, .str _, .lst _, _, _, h => by simp [py, PyData.eqv] at h
  | _ + 1, .tup _, .non, _, _, h => by simp [py, PyData.eqv] at h
  | _ + 1, .tup _, .int _, _, _, h => by simp [py, PyData.eqv] at h
  | _ + 1, .tup _, .str _, _, _, h => by simp [py, PyData.eqv] at h
  | _ + 1, .tup _, .lst _, _, _, h => by simp [py, PyData.eqv] at h
  | _ + 1, .lst _, .non, _, _, h => by simp [py, PyData.eqv] at h
  | _ + 1, .lst _, .int _, _, _, h => by simp [py, PyData.eqv] at h
  | _ + 1, .lst _, .str _, _, _, h => by simp [py, PyData.eqv] at h
  | _ + 1, .lst _, .tup _, _, _, h => by simp [py, PyData.eqv] at h
theorem eqvAll_eq : ∀ {n : Nat} {xs ys : List D}, (∀ x ∈ xs, nb n x = true) → (∀ x ∈ ys, nb n x = true) → PyData.eqvAll (pyAll xs) (pyAll ys) = true → xs = ys
  | _, [], [], _, _, _ => rfl
  | _, x :: xs, y :: ys, ha, hb, h => by
    simp only [pyAll, PyData.eqvAll, Bool.and_eq_true] at h
    rw [eqv_eq (ha _ List.mem_cons_self) (hb _ List.mem_cons_self) h.1, eqvAll_eq (fun z m => ha z (List.mem_cons_of_mem _ m)) (fun z m => hb z (List.mem_cons_of_mem _ m)) h.2]
  | _, [], _ :: _, _, _, h => by simp [pyAll, PyData.eqvAll] at h
  | _, _ :: _, [], _, _, h => by simp [pyAll, PyData.eqvAll] at h
end
theorem deq_iff {n : Nat} {a b : D} (ha : nb n a = true) (hb : nb n b = true) : deq a b = true ↔ a = b :=
  ⟨eqv_eq ha hb, fun e => e ▸ deq_refl (nb_dn ha)⟩
open Classical in
theorem deq_dec {n : Nat} {a b : D} (ha : nb n a = true) (hb : nb n b = true) : deq a b = decide (a = b) := by
  by_cases h : a = b
  · rw [decide_eq_true h]
    exact (deq_iff ha hb).mpr h
  · rw [decide_eq_false h]
    exact Bool.eq_false_iff.mpr fun e => h ((deq_iff ha hb).mp e)

/-! ### == != -/
def fEqD : F2 := fun a b S Q => dn 40 (frz S a) = true ∧ dn 40 (frz S b) = true ∧ Q (.bl (deq (frz S a) (frz S b))) S
def fNeD : F2 := fun a b S Q => dn 40 (frz S a) = true ∧ dn 40 (frz S b) = true ∧ Q (.bl (!deq (frz S a) (frz S b))) S
def fEq : F2
  | .int i, .int j, S, Q => Q (.bl (decide (i = j))) S
  | .str i, .str j, S, Q => Q (.bl (decide (i = j))) S
  | a, b, S, Q => fEqD a b S Q
def fNe : F2
  | .int i, .int j, S, Q => Q (.bl (!decide (i = j))) S
  | .str i, .str j, S, Q => Q (.bl (!decide (i = j))) S
  | a, b, S, Q => fNeD a b S Q
section
variable {X : Cx} {dx : Dx} {K : PySem.W.Frag}
theorem dp_frz {H : Hp} {S : Sto} {v : V} {d : D} (r : HR K dx H S) (h : Dt K (Mu dx S) H v d) {n : Nat} (q : dn n (frz S d) = true) : Dp K H v (py (frz S d)) := dp_of (frz_ok r h) q
theorem od_eqD : OpD K dx (rEqD K) fEqD := by
  intro x y p q H S Q Qh r hx hy t k
  exact ⟨_, _, dp_frz r hx t.1, dp_frz r hy t.2.1, py_shaped t.1, py_shaped t.2.1, k _ H _ S r Ext.refl (.bl _) t.2.2⟩
theorem od_neD : OpD K dx (rNeD K) fNeD := by
  intro x y p q H S Q Qh r hx hy t k
  exact ⟨_, _, dp_frz r hx t.1, dp_frz r hy t.2.1, py_shaped t.1, py_shaped t.2.1, k _ H _ S r Ext.refl (.bl _) t.2.2⟩
def rEqA (K : PySem.W.Frag) : R2 := fun x y H Q => rEq x y H Q ∨ rEqD K x y H Q
def rNeA (K : PySem.W.Frag) : R2 := fun x y H Q => rNe x y H Q ∨ rNeD K x y H Q
theorem op_eqA (hu : X.A.units + 64 < cLine) : OpR X (compareOp .Eq) (rEqA X.K) := op_eq.or (op_eqD hu)
theorem op_neA (hu : X.A.units + 64 < cLine) : OpR X (compareOp .NotEq) (rNeA X.K) := op_ne.or (op_neD hu)
theorem od_eq : OpD K dx (rEqA K) fEq := by
  intro x y p q H S Q Qh r hx hy t k
  unfold fEq at t
  split at t
  · rename_i i j
    cases hx
    cases hy
    refine .inl ⟨rfl, ?_⟩
    have e : decide (V.int i = V.int j) = decide (i = j) := decide_eq_decide.mpr ⟨fun h => by cases h; rfl, fun h => by rw [h]⟩
    rw [e]
    exact k _ H _ S r Ext.refl (.bl _) t
  · rename_i i j
    cases hx
    cases hy
    refine .inl ⟨rfl, ?_⟩
    have e : decide (V.str i = V.str j) = decide (i = j) := decide_eq_decide.mpr ⟨fun h => by cases h; rfl, fun h => by rw [h]⟩
    rw [e]
    exact k _ H _ S r Ext.refl (.bl _) t
  · exact .inr (od_eqD x y p q H S Q Qh r hx hy t k)
theorem od_ne : OpD K dx (rNeA K) fNe := by
  intro x y p q H S Q Qh r hx hy t k
  unfold fNe at t
  split at t
  · rename_i i j
    cases hx
    cases hy
    refine .inl ⟨rfl, ?_⟩
    have e : decide (V.int i = V.int j) = decide (i = j) := decide_eq_decide.mpr ⟨fun h => by cases h; rfl, fun h => by rw [h]⟩
    rw [e]
    exact k _ H _ S r Ext.refl (.bl _) t
  · rename_i i j
    cases hx
    cases hy
    refine .inl ⟨rfl, ?_⟩
    have e : decide (V.str i = V.str j) = decide (i = j) := decide_eq_decide.mpr ⟨fun h => by cases h; rfl, fun h => by rw [h]⟩
    rw [e]
    exact k _ H _ S r Ext.refl (.bl _) t
  · exact .inr (od_neD x y p q H S Q Qh r hx hy t k)

/-! ### repr -/
mutual
/-- the text has at most so many signs -/
def rsz : D → Nat
  | .non => 4
  | .bl _ => 5
  | .int _ => 1921
  | .str x => 10 * x.length + 2
  | .tup ds => rszAll ds + 4
  | .lst ds => rszAll ds + 4
  | _ => 0
def rszAll : List D → Nat
  | [] => 0
  | d :: ds => rsz d + 2 + rszAll ds
end
mutual
/-- the ints are not too long -/
def ish : D → Bool
  | .int i => decide (i.natAbs < 2 ^ 1900)
  | .tup ds => ishAll ds
  | .lst ds => ishAll ds
  | _ => true
def ishAll : List D → Bool
  | [] => true
  | d :: ds => ish d && ishAll ds
end
end
end DL
/-! Readings over data: repr, built-ins, methods. -/
namespace DL
open PySem PySem.Spec L2 Gd

theorem log_of {i : Int} (h : i.natAbs < 2 ^ 1900) : i.natAbs.log2 < 1920 := by
  by_cases z : i.natAbs = 0
  · rw [z]
    decide
  · have := (Nat.log2_lt z).mpr h
    omega
mutual
theorem py_showable : ∀ {n : Nat} {d : D}, dn n d = true → ish d = true → (py d).showable = true
  | _, .non, _, _ => by simp [py, PyData.showable]
  | _, .bl _, _, _ => by simp [py, PyData.showable]
  | _, .int i, _, h => by
    simp only [py, PyData.showable]
    simp only [ish, decide_eq_true_eq] at h
    exact decide_eq_true (log_of h)
  | _, .str x, h, _ => by simp [py, PyData.showable]
  | n + 1, .tup ds, h, q => by
    simp only [py, PyData.showable]
    simp only [ish] at q
    exact pyAll_showable (n := n) (List.all_eq_true.mp h) q
  | n + 1, .lst ds, h, q => by
    simp only [py, PyData.showable]
    simp only [ish] at q
    exact pyAll_showable (n := n) (List.all_eq_true.mp h) q
  | 0, .tup _, h, _ => by cases h
  | 0, .lst _, h, _ => by cases h
  | 0, .adr _, h, _ => by cases h
  | _ + 1, .adr _, h, _ => by cases h
  | 0, .fls _, h, _ => by cases h
  | _ + 1, .fls _, h, _ => by cases h
theorem pyAll_showable : ∀ {n : Nat} {ds : List D}, (∀ x ∈ ds, dn n x = true) → ishAll ds = true → PyData.showableAll (pyAll ds) = true
  | _, [], _, _ => by simp [pyAll, PyData.showableAll]
  | n, d :: ds, h, q => by
    simp only [ishAll, Bool.and_eq_true] at q
    simp only [pyAll, PyData.showableAll, Bool.and_eq_true]
    exact ⟨py_showable (h _ List.mem_cons_self) q.1, pyAll_showable (fun x m => h x (List.mem_cons_of_mem _ m)) q.2⟩
end
theorem join_le (ts : List Str) : (Str.join ", " ts).length ≤ piled ts := by
  cases ts with
  | nil => exact Nat.zero_le _
  | cons a r =>
    have := join_length_add (a :: r) (by simp)
    omega
theorem str_wide {x : Str} (h : PyData.strOk x = true) : ∀ c ∈ x.cps.toList, c < 16 ^ 8 := by
  intro c m
  unfold PyData.strOk at h
  have := Array.all_eq_true_iff_forall_mem.mp h c (Array.mem_toList_iff.mp m)
  have : c < 1114112 := by simpa using this
  omega
mutual
theorem py_len : ∀ {n : Nat} {d : D}, dn n d = true → ish d = true → (py d).shown.length ≤ rsz d
  | _, .non, _, _ => by
    simp only [py, PyData.shown, rsz]
    decide
  | _, .bl b, _, _ => by
    simp only [py, PyData.shown, rsz]
    cases b <;> decide
  | _, .int i, _, h => by
    simp only [py, PyData.shown, rsz]
    simp only [ish, decide_eq_true_eq] at h
    exact PyProof.Rows.int_text_len_1921 (log_of h)
  | 0, .str x, h, _ => by
    simp only [py, PyData.shown, rsz]
    exact StrLaws.reprText_len x (str_wide h)
  | _ + 1, .str x, h, _ => by
    simp only [py, PyData.shown, rsz]
    exact StrLaws.reprText_len x (str_wide h)
  | n + 1, .tup ds, h, q => by
    simp only [ish] at q
    have ih := pyAll_len (n := n) (List.all_eq_true.mp h) q
    have j := join_le (PyData.shownAll (pyAll ds))
    simp only [py, PyData.shown, rsz]
    unfold tupleText
    rw [strLen_append, strLen_append]
    have e1 : ((("(" : String) : Str)).length = 1 := rfl
    have e3 : (((if (PyData.shownAll (pyAll ds)).length == 1 then ",)" else ")" : String) : Str)).length ≤ 2 := by split <;> decide
    omega
  | n + 1, .lst ds, h, q => by
    simp only [ish] at q
    have ih := pyAll_len (n := n) (List.all_eq_true.mp h) q
    have j := join_le (PyData.shownAll (pyAll ds))
    simp only [py, PyData.shown, rsz]
    rw [listText_eq_join, strLen_append, strLen_append]
    have e1 : ((("[" : String) : Str)).length = 1 := rfl
    have e3 : ((("]" : String) : Str)).length = 1 := rfl
    omega
  | 0, .tup _, h, _ => by cases h
  | 0, .lst _, h, _ => by cases h
  | 0, .adr _, h, _ => by cases h
  | _ + 1, .adr _, h, _ => by cases h
  | 0, .fls _, h, _ => by cases h
  | _ + 1, .fls _, h, _ => by cases h
theorem pyAll_len : ∀ {n : Nat} {ds : List D}, (∀ x ∈ ds, dn n x = true) → ishAll ds = true → piled (PyData.shownAll (pyAll ds)) ≤ rszAll ds
  | _, [], _, _ => by simp [pyAll, PyData.shownAll, piled]
  | n, d :: ds, h, q => by
    simp only [ishAll, Bool.and_eq_true] at q
    simp only [pyAll, PyData.shownAll, piled_cons, rszAll]
    have a := py_len (h _ List.mem_cons_self) q.1
    have b := pyAll_len (fun x m => h x (List.mem_cons_of_mem _ m)) q.2
    omega
end
def shw (d : D) : Str := (py d).shown
/-- repr(d) can be told -/
def Rp (d : D) : Prop := dn 40 d = true ∧ ish d = true ∧ rsz d ≤ 16777216
/-- a call with one argument -/
def one (f : D → Sto → (D → Sto → Prop) → Prop) : List D → Sto → (D → Sto → Prop) → Prop
  | [d], S, Q => f d S Q
  | _, _, _ => False
theorem cd_one {K : PySem.W.Frag} {dx : Dx} {r : List V → Hp → VK → Prop} {f : D → Sto → (D → Sto → Prop) → Prop}
    (o : ∀ v d H S Q Qh, HR K dx H S → Dt K (Mu dx S) H v d → f d S Q → ThE K dx H S Q Qh → r [v] H Qh) : CallD K dx r (one f) := by
  intro vs ds H S Q Qh r0 a t k
  cases a with
  | nil => exact t.elim
  | cons h a =>
    cases a with
    | nil => exact o _ _ H S Q Qh r0 h t k
    | cons _ _ => exact t.elim
def fRepr (d : D) (S : Sto) (Q : D → Sto → Prop) : Prop := Rp (frz S d) ∧ Q (.str (shw (frz S d))) S
section
variable {X : Cx} {dx : Dx} {K : PySem.W.Frag}
def rRepr (K : PySem.W.Frag) : List V → Hp → VK → Prop := fun xs H Q => ∃ x d, xs = [x] ∧ Dp K H x d ∧ d.showable = true ∧ d.hasDict = false ∧ d.depth ≤ 60 ∧ d.shown.length ≤ sizeLine ∧ Q (.str d.shown) H
theorem cr_repr (guard : X.A.guards = some []) (hu : X.A.units + 64 < cLine) : CallR X (.builtin "repr") (rRepr X.K) := by
  intro pins s σ H xs us Q I r h
  obtain ⟨x, d, rfl, dp, sh, nd, dd, sz, q⟩ := h
  cases dp with
  | non =>
    obtain ⟨u, rfl, ru⟩ := vals1 r
    cases ru
    refine PySem.P.repr_of_none ?_
    simp only [PyData.shown] at q
    exact ⟨.str _, H, I.tok _, ⟨_, rfl⟩, q⟩
  | bl b =>
    obtain ⟨u, rfl, ru⟩ := vals1 r
    cases ru
    refine PySem.P.repr_of_bool ?_
    simp only [PyData.shown] at q
    exact ⟨.str _, H, I.tok _, ⟨_, rfl⟩, q⟩
  | int i =>
    obtain ⟨u, rfl, t, rfl⟩ := vals1 r
    simp only [PyData.showable, decide_eq_true_eq] at sh
    refine PySem.P.repr_of_int sh ?_
    simp only [PyData.shown] at q
    exact ⟨.str _, H, I.tok _, ⟨_, rfl⟩, q⟩
  | str z =>
    obtain ⟨u, rfl, t, rfl⟩ := vals1 r
    simp only [PyData.shown] at q sz
    refine PySem.P.repr_of_str ?_ sz
    exact ⟨.str _, H, I.tok _, ⟨_, rfl⟩, q⟩
  | lst h1 h2 => exact repr_box guard hu pins s σ H _ us Q I r ⟨_, _, rfl, .lst h1 h2, sh, nd, dd, sz, q⟩
  | tup h1 h2 => exact repr_box guard hu pins s σ H _ us Q I r ⟨_, _, rfl, .tup h1 h2, sh, nd, dd, sz, q⟩
theorem py_nodict {n : Nat} {d : D} (h : dn n d = true) : (py d).hasDict = false := PyData.hasDict_of_canLay _ (py_can h)
theorem cd_repr : CallD K dx (rRepr K) (one fRepr) := by
  refine cd_one fun v d H S Q Qh r h t k => ?_
  obtain ⟨⟨h1, h2, h3⟩, q⟩ := t
  refine ⟨v, _, rfl, dp_frz r h h1, py_showable h1 h2, py_nodict h1, ?_, ?_, k _ H _ S r Ext.refl (.str _) q⟩
  · have := py_depth h1
    omega
  · have := py_len h1 h2
    rw [sizeLine_eq]
    omega

/-! ### len, tuple, list, all, any, sum, abs, int -/
def fLen : D → Sto → (D → Sto → Prop) → Prop
  | .tup ds, S, Q => Q (.int ds.length) S
  | .lst ds, S, Q => Q (.int ds.length) S
  | .fls ds, S, Q => Q (.int ds.length) S
  | .adr p, S, Q => opt (getS S p) fun ds => Q (.int ds.length) S
  | .str z, S, Q => Fit z.length ∧ Q (.int z.length) S
  | _, _, _ => False
def rLen (K : PySem.W.Frag) : List V → Hp → VK → Prop := fun xs H Q => (∃ p ys, xs = [.ref p] ∧ (SqL K H p ys ∨ SqT K H p ys) ∧ Q (.int ys.length) H) ∨ (∃ z, xs = [.str z] ∧ z.length ≤ sizeLine ∧ Q (.int z.length) H)
theorem cr_len : CallR X (.builtin "len") (rLen X.K) := call_len_seq.or call_len_str
theorem cd_len : CallD K dx (rLen K) (one fLen) := by
  refine cd_one fun v d H S Q Qh r h t k => ?_
  cases d with
  | tup ds =>
    obtain ⟨p, xs, rfl, hs, al⟩ := h.sqT
    exact .inl ⟨p, xs, rfl, .inr hs, by rw [al.length]; exact k _ H _ S r Ext.refl (.int _) t⟩
  | lst ds =>
    obtain ⟨p, xs, rfl, _, hs, al⟩ := h.sqL
    exact .inl ⟨p, xs, rfl, .inl (SqL.of hs), by rw [al.length]; exact k _ H _ S r Ext.refl (.int _) t⟩
  | fls ds =>
    obtain ⟨p, rfl, hs⟩ := h.sqF
    exact .inl ⟨p, _, rfl, .inl hs, by rw [List.length_map]; exact k _ H _ S r Ext.refl (.int _) t⟩
  | adr p =>
    cases h
    obtain ⟨ds, g, t⟩ := opt_run t
    obtain ⟨_, ws, eh, al⟩ := r.get g
    exact .inl ⟨p, ws, rfl, .inl (SqL.of eh), by rw [al.length]; exact k _ H _ S r Ext.refl (.int _) t⟩
  | str z =>
    cases h
    exact .inr ⟨z, rfl, t.1.line, k _ H _ S r Ext.refl (.int _) t.2⟩
  | _ => exact t.elim
/-- tuple(..) of a list or a tuple -/
def fTuple : D → Sto → (D → Sto → Prop) → Prop
  | .tup ds, S, Q => Q (.tup ds) S
  | .lst ds, S, Q => Q (.tup ds) S
  | .adr p, S, Q => opt (getS S p) fun ds => Q (.tup ds) S
  | _, _, _ => False
theorem cd_tuple : CallD K dx (fun xs H Q => ∃ p ys, xs = [.ref p] ∧ ((SqL K H p ys ∧ ∀ l, H l = none → Q (.ref l) (upd H l (.tup ys))) ∨ (SqT K H p ys ∧ Q (.ref p) H))) (one fTuple) := by
  refine cd_one fun v d H S Q Qh r h t k => ?_
  cases d with
  | tup ds =>
    obtain ⟨p, xs, rfl, hs, al⟩ := h.sqT
    exact ⟨p, xs, rfl, .inr ⟨hs, k _ H _ S r Ext.refl h t⟩⟩
  | lst ds =>
    obtain ⟨p, xs, rfl, _, hs, al⟩ := h.sqL
    refine ⟨p, xs, rfl, .inl ⟨SqL.of hs, fun l n => ?_⟩⟩
    obtain ⟨r2, x2, d2⟩ := new_tup r n al
    exact k _ _ _ S r2 x2 d2 t
  | adr p =>
    cases h
    obtain ⟨ds, g, t⟩ := opt_run t
    obtain ⟨_, ws, eh, al⟩ := r.get g
    refine ⟨p, ws, rfl, .inl ⟨SqL.of eh, fun l n => ?_⟩⟩
    obtain ⟨r2, x2, d2⟩ := new_tup r n al
    exact k _ _ _ S r2 x2 d2 t
  | _ => exact t.elim
def fList : D → Sto → (D → Sto → Prop) → Prop
  | .tup ds, S, Q => Q (.lst ds) S
  | .lst ds, S, Q => Q (.lst ds) S
  | .adr p, S, Q => opt (getS S p) fun ds => Q (.lst ds) S
  | _, _, _ => False
theorem cd_list : CallD K dx (fun xs H Q => ∃ p ys, xs = [.ref p] ∧ (SqL K H p ys ∨ SqT K H p ys) ∧ ∀ l, H l = none → Q (.ref l) (upd H l (.lst ys))) (one fList) := by
  refine cd_one fun v d H S Q Qh r h t k => ?_
  cases d with
  | tup ds =>
    obtain ⟨p, xs, rfl, hs, al⟩ := h.sqT
    refine ⟨p, xs, rfl, .inr hs, fun l n => ?_⟩
    obtain ⟨r2, x2, d2⟩ := new_lst r n al
    exact k _ _ _ S r2 x2 d2 t
  | lst ds =>
    obtain ⟨p, xs, rfl, _, hs, al⟩ := h.sqL
    refine ⟨p, xs, rfl, .inl (SqL.of hs), fun l n => ?_⟩
    obtain ⟨r2, x2, d2⟩ := new_lst r n al
    exact k _ _ _ S r2 x2 d2 t
  | adr p =>
    cases h
    obtain ⟨ds, g, t⟩ := opt_run t
    obtain ⟨_, ws, eh, al⟩ := r.get g
    refine ⟨p, ws, rfl, .inl (SqL.of eh), fun l n => ?_⟩
    obtain ⟨r2, x2, d2⟩ := new_lst r n al
    exact k _ _ _ S r2 x2 d2 t
  | _ => exact t.elim
/-- the truth values of data -/
def asB : List D → Option (List Bool)
  | [] => some []
  | .bl b :: r => (asB r).map (b :: ·)
  | _ :: _ => none
def asI : List D → Option (List Int)
  | [] => some []
  | .int i :: r => (asI r).map (i :: ·)
  | _ :: _ => none
theorem asB_at {ds : List D} : ∀ {bs : List Bool}, asB ds = some bs → ds = bs.map D.bl := by
  induction ds with
  | nil => intro bs h; cases h; rfl
  | cons d ds ih =>
    intro bs h
    cases d with
    | bl b =>
      have h : (asB ds).map (b :: ·) = some bs := h
      cases e : asB ds with
      | none => rw [e] at h; cases h
      | some cs => rw [e] at h; cases h; rw [ih e]; rfl
    | _ => cases h
theorem asI_at {ds : List D} : ∀ {bs : List Int}, asI ds = some bs → ds = bs.map D.int := by
  induction ds with
  | nil => intro bs h; cases h; rfl
  | cons d ds ih =>
    intro bs h
    cases d with
    | int b =>
      have h : (asI ds).map (b :: ·) = some bs := h
      cases e : asI ds with
      | none => rw [e] at h; cases h
      | some cs => rw [e] at h; cases h; rw [ih e]; rfl
    | _ => cases h
theorem asB_map (bs : List Bool) : asB (bs.map D.bl) = some bs := by
  induction bs with
  | nil => rfl
  | cons b bs ih => show (asB (bs.map D.bl)).map (b :: ·) = _; rw [ih]; rfl
theorem asI_map (bs : List Int) : asI (bs.map D.int) = some bs := by
  induction bs with
  | nil => rfl
  | cons b bs ih => show (asI (bs.map D.int)).map (b :: ·) = _; rw [ih]; rfl
def fAll : D → Sto → (D → Sto → Prop) → Prop
  | .lst ds, S, Q => opt (asB ds) fun bs => Q (.bl (bs.all id)) S
  | _, _, _ => False
def fAny : D → Sto → (D → Sto → Prop) → Prop
  | .lst ds, S, Q => opt (asB ds) fun bs => Q (.bl (bs.any id)) S
  | _, _, _ => False
def fSum : D → Sto → (D → Sto → Prop) → Prop
  | .lst ds, S, Q => opt (asI ds) fun bs => Q (.int bs.sum) S
  | _, _, _ => False
theorem cd_all : CallD K dx (rAll K) (one fAll) := by
  refine cd_one fun v d H S Q Qh r h t k => ?_
  cases d with
  | lst ds =>
    obtain ⟨bs, e, t⟩ := opt_run t
    obtain ⟨p, xs, rfl, _, hs, al⟩ := h.sqL
    rw [asB_at e] at al
    rw [Dt.bls_of al] at hs
    exact ⟨p, bs, rfl, SqL.of hs, k _ H _ S r Ext.refl (.bl _) t⟩
  | _ => exact t.elim
theorem cd_any : CallD K dx (rAny K) (one fAny) := by
  refine cd_one fun v d H S Q Qh r h t k => ?_
  cases d with
  | lst ds =>
    obtain ⟨bs, e, t⟩ := opt_run t
    obtain ⟨p, xs, rfl, _, hs, al⟩ := h.sqL
    rw [asB_at e] at al
    rw [Dt.bls_of al] at hs
    exact ⟨p, bs, rfl, SqL.of hs, k _ H _ S r Ext.refl (.bl _) t⟩
  | _ => exact t.elim
theorem cd_sum : CallD K dx (rSum K) (one fSum) := by
  refine cd_one fun v d H S Q Qh r h t k => ?_
  cases d with
  | lst ds =>
    obtain ⟨bs, e, t⟩ := opt_run t
    obtain ⟨p, xs, rfl, _, hs, al⟩ := h.sqL
    rw [asI_at e] at al
    rw [Dt.ints_of al] at hs
    exact ⟨p, bs, rfl, SqL.of hs, k _ H _ S r Ext.refl (.int _) t⟩
  | _ => exact t.elim
def fAbs : D → Sto → (D → Sto → Prop) → Prop
  | .int i, S, Q => Q (.int i.natAbs) S
  | _, _, _ => False
theorem cd_abs : CallD K dx (fun xs H Q => ∃ i, xs = [V.int i] ∧ Q (.int (if i < 0 then -i else i)) H) (one fAbs) := by
  refine cd_one fun v d H S Q Qh r h t k => ?_
  cases h with
  | int i =>
    refine ⟨i, rfl, ?_⟩
    have e : (if i < 0 then -i else i) = ((i.natAbs : Nat) : Int) := by split <;> omega
    rw [e]
    exact k _ H _ S r Ext.refl (.int _) t
  | _ => exact t.elim
def fInt : D → Sto → (D → Sto → Prop) → Prop
  | .int i, S, Q => Q (.int i) S
  | .bl b, S, Q => Q (.int (if b then 1 else 0)) S
  | _, _, _ => False
theorem cd_int : CallD K dx (fun xs H Q => (∃ i, xs = [V.int i] ∧ Q (.int i) H) ∨ ∃ k, xs = [V.bl k] ∧ Q (.int (if k then 1 else 0)) H) (one fInt) := by
  refine cd_one fun v d H S Q Qh r h t k => ?_
  cases h with
  | int i => exact .inl ⟨i, rfl, k _ H _ S r Ext.refl (.int _) t⟩
  | bl b => exact .inr ⟨b, rfl, k _ H _ S r Ext.refl (.int _) t⟩
  | _ => exact t.elim

/-! ### isinstance of built-in classes -/
def tyD : D → String
  | .non => "NoneType"
  | .bl _ => "bool"
  | .int _ => "int"
  | .str _ => "str"
  | .tup _ => "tuple"
  | _ => "list"
theorem ty_of {H : Hp} {v : V} {d : D} {M : Mm} (h : Dt K M H v d) (na : ∀ p, d ≠ .adr p) : TyX K H v (.type (tyD d)) := by
  cases h with
  | non => exact .base .non
  | bl b => exact .base (.bl b)
  | int i => exact .base (.int i)
  | str x => exact .base (.str x)
  | tup n h a =>
    rcases h with h | ⟨o, h⟩
    · exact .base (.tup h)
    · exact .fTuple h
  | ktup h a =>
    obtain ⟨o, _, _, e, c, _⟩ := h
    exact .kTuple e c
  | lst n h a => exact .base (.lst h)
  | fls n h =>
    rcases h with h | ⟨o, h⟩
    · exact .base (.lst h)
    · exact .base (.frz h)
  | kfls h =>
    obtain ⟨o, _, _, e, c, _⟩ := h
    exact .kList e c
  | adr p => exact absurd rfl (na p)

/-! ### methods of a list of one's own -/
def dM (f : D → List D → Sto → (D → Sto → Prop) → Prop) (fo : DTE) (fa : DTA) : DTE := fun δ S Q => fo δ S fun o S1 => fa δ S1 fun ds S2 => f o ds S2 Q
def fAppend : D → List D → Sto → (D → Sto → Prop) → Prop
  | .adr p, [d], S, Q => opt (getS S p) fun ds => Fit (ds.length + 1) ∧ Q .non (setS S p (ds ++ [d]))
  | _, _, _, _ => False
end
end DL
/-! Readings over data: methods of a list, isinstance, zip, reversed. -/
namespace DL
open PySem PySem.Spec L2 Gd

section
variable {X : Cx} {dx : Dx} {K : PySem.W.Frag} {a e : Expr} {es : List Expr} {to te : TE} {ta : TA} {fo fe : DTE} {fa : DTA} {st : Expr} {pos : Pos}
def isOwn (S : Sto) : D → Prop
  | .adr p => (getS S p).isSome = true
  | _ => False
def dML (f : D → List D → Sto → (D → Sto → Prop) → Prop) (fo : DTE) (fa : DTA) : DTE := fun δ S Q => fo δ S fun o S1 => isOwn S1 o ∧ fa δ S1 fun ds S2 => f o ds S2 Q
def MetD (K : PySem.W.Frag) (dx : Dx) (r : V → List V → Hp → VK → Prop) (f : D → List D → Sto → (D → Sto → Prop) → Prop) : Prop :=
  ∀ x vs p ds H S Q Qh, HR K dx H S → Dt K (Mu dx S) H x p → DtAll K (Mu dx S) H vs ds → f p ds S Q → ThE K dx H S Q Qh → r x vs H Qh
theorem own_ty {H : Hp} {S : Sto} {v : V} {d : D} (r : HR K dx H S) (h : Dt K (Mu dx S) H v d) (o : isOwn S d) : tyV K "list" v H := by
  cases h with
  | adr p =>
    obtain ⟨ds, g⟩ := Option.isSome_iff_exists.mp o
    obtain ⟨_, vs, e, _⟩ := r.get g
    exact .inl ⟨rfl, vs, SqL.of e⟩
  | _ => exact o.elim
theorem de_met {r : V → List V → Hp → VK → Prop} {f} (m : MetD X.K dx r f) (ho : DE X dx a to fo) (ha : DA X dx es ta fa) (hp : PE X st (tBM X.K "list" r to ta)) : DE X dx st (tBM X.K "list" r to ta) (dML f fo fa) := by
  refine ⟨hp, fun σ H δ S Q Qh r0 s t k => ?_⟩
  refine ho.go σ H δ S _ _ r0 s t fun v H1 d S1 r1 x1 d1 t1 => ⟨own_ty r1 d1 t1.1, ?_⟩
  refine ha.go σ H1 δ S1 _ _ r1 (s.ext x1) t1.2 fun vs H2 ds S2 r2 x2 d2 t2 => ?_
  exact m v vs d ds H2 S2 Q Qh r2 (d1.ext x2) d2 t2 (k.on (x1.trans x2))
def dML0 (f : D → List D → Sto → (D → Sto → Prop) → Prop) (fo : DTE) : DTE := fun δ S Q => fo δ S fun o S1 => isOwn S1 o ∧ f o [] S1 Q
theorem de_met0 {r : V → List V → Hp → VK → Prop} {f} (m : MetD X.K dx r f) (ho : DE X dx a to fo) (hp : PE X st (tBM0 X.K "list" r to)) : DE X dx st (tBM0 X.K "list" r to) (dML0 f fo) := by
  refine ⟨hp, fun σ H δ S Q Qh r0 s t k => ?_⟩
  refine ho.go σ H δ S _ _ r0 s t fun v H1 d S1 r1 x1 d1 t1 => ⟨own_ty r1 d1 t1.1, ?_⟩
  exact m v [] d [] H1 S1 Q Qh r1 d1 .nil t1.2 (k.on x1)
theorem md_append : MetD K dx rAppend fAppend := by
  intro x vs p ds H S Q Qh r hx al t k
  cases hx with
  | adr p =>
    cases al with
    | nil => exact t.elim
    | cons h al =>
      cases al with
      | cons _ _ => exact t.elim
      | nil =>
        obtain ⟨ds0, g, t⟩ := opt_run t
        obtain ⟨m, ws, eh, a0⟩ := r.get g
        refine ⟨p, ws, _, rfl, rfl, eh, ?_, k _ _ _ _ (r.put m (a0.append (.cons h .nil))) (ext_set m) .non t.2⟩
        have := t.1.line
        rw [a0.length]
        omega
  | _ => exact t.elim
def fPop : D → List D → Sto → (D → Sto → Prop) → Prop
  | .adr p, [], S, Q => opt (getS S p) fun ds => opt (ds[ds.length - 1]?) fun d => Q d (setS S p ds.dropLast)
  | _, _, _, _ => False
theorem md_pop : MetD K dx rPop fPop := by
  intro x vs p ds H S Q Qh r hx al t k
  cases hx with
  | adr p =>
    cases al with
    | cons _ _ => exact t.elim
    | nil =>
      obtain ⟨ds0, g, t⟩ := opt_run t
      obtain ⟨d, e, t⟩ := opt_run t
      obtain ⟨m, ws, eh, a0⟩ := r.get g
      obtain ⟨v, ev, dv⟩ := a0.get e
      have x1 : Ext (Mu dx S) H (Mu dx (setS S p ds0.dropLast)) (upd H p (.lst ws.dropLast)) := ext_set m
      exact ⟨p, ws, v, rfl, rfl, eh, by rw [a0.length]; exact ev, k _ _ _ _ (r.put m a0.dropLast) x1 (dv.ext x1) t⟩
  | _ => exact t.elim
def fExtend : D → List D → Sto → (D → Sto → Prop) → Prop
  | .adr p, [d], S, Q => opt (getS S p) fun ds => opt (asL S d) fun es => Fit (ds.length + es.length) ∧ Q .non (setS S p (ds ++ es))
  | _, _, _, _ => False
theorem md_extend : MetD K dx rExtend fExtend := by
  intro x vs p ds H S Q Qh r hx al t k
  cases hx with
  | adr p =>
    cases al with
    | nil => exact t.elim
    | cons h al =>
      cases al with
      | cons _ _ => exact t.elim
      | nil =>
        obtain ⟨ds0, g, t⟩ := opt_run t
        obtain ⟨es, e2, t⟩ := opt_run t
        obtain ⟨m, ws, eh, a0⟩ := r.get g
        obtain ⟨b, zs, rfl, hb, a1⟩ := asL_at r h e2
        exact ⟨p, b, ws, zs, rfl, rfl, eh, hb, by rw [a0.length, a1.length]; exact t.1.line, k _ _ _ _ (r.put m (a0.append a1)) (ext_set m) .non t.2⟩
  | _ => exact t.elim

/-! ### isinstance(x, T) -/
def noAdr : D → Bool
  | .adr _ => false
  | _ => true
def fIsi (T : String) (f : String → Bool) (d : D) (S : Sto) (Q : D → Sto → Prop) : Prop := noAdr d = true ∧ Q (.bl (f (tyD d))) S
def dIsi (f : String → Bool) (fe : DTE) : DTE := fun δ S Q => fe δ S fun d S1 => noAdr d = true ∧ Q (.bl (f (tyD d))) S1
def tIsi (K : PySem.W.Frag) (T : String) (te : TE) : TE := tCB (rIsi K) (tCons te (tCons (tC (.ty T)) tNil))
theorem de_isi {T : String} {f : String → Bool} (hf : ∀ t ∈ ["NoneType", "bool", "int", "str", "tuple", "list"], kitB t T = some (f t)) (he : DE X dx e te fe) (hp : PE X st (tIsi X.K T te)) : DE X dx st (tIsi X.K T te) (dIsi f fe) := by
  refine ⟨hp, fun σ H δ S Q Qh r0 s t k => ?_⟩
  refine he.go σ H δ S _ _ r0 s t fun v H1 d S1 r1 x1 d1 t1 => ?_
  refine ⟨v, .ty T, _, _, f (tyD d), rfl, .ty T, ty_of d1 (fun p e => by rw [e] at t1; cases t1.1), kit_ty (hf _ ?_), k _ H1 _ S1 r1 x1 (.bl _) t1.2⟩
  cases d <;> simp [tyD]

/-! ### reversed(xs) -/
def dRev (t : DTE) : DTA := fun δ S Q => t δ S (items fun ds S1 => Q ds.reverse S1)
theorem di_rev {tg : Expr} {p : Pos} (he : DE X dx e te fe) (hp : PI X tg st (RT.iRevA X.K te)) : DI X dx tg st (RT.iRevA X.K te) (dRev fe) := by
  refine ⟨hp, fun σ H δ S Q R r0 s t k => ?_⟩
  refine he.go σ H δ S _ _ r0 s t fun v H1 d S1 r1 x1 d1 t1 => ?_
  have revL : ∀ {a : Addr} {vs : List V} {ds : List D}, DtAll X.K (Mu dx S1) H1 vs ds → (∀ M H', ExtD (Mu dx S1) H1 M H' → SqL X.K H' a vs) → Walks X.K dx (Itv X.K a vs.length) ds.reverse S1 H1 := by
    intro a vs ds al stay
    have w := walk_rev (K := X.K) (a := a) (xs := vs)
    refine ⟨_, _, by rw [List.length_reverse, ← al.length]; exact w, fun M H2 lv x2 => ⟨stay _ _ x2, fun i y H3 hi z => ?_⟩⟩
    obtain ⟨rfl, z⟩ := z
    obtain ⟨c, e1, c1⟩ := (al.extD x2).getV z
    rw [List.length_reverse] at hi
    refine ⟨Same.refl _, c, ?_, c1⟩
    rw [List.getElem?_reverse hi, ← al.length]
    exact e1
  have revT : ∀ {a : Addr} {vs : List V} {ds : List D}, DtAll X.K (Mu dx S1) H1 vs ds → (∀ M H', ExtD (Mu dx S1) H1 M H' → SqT X.K H' a vs) → Walks X.K dx (RT.ItvT X.K a vs.length) ds.reverse S1 H1 := by
    intro a vs ds al stay
    have w : Walk (RT.ItvT X.K a vs.length) vs.length (fun H => SqT X.K H a vs) (fun i H x H' => H' = H ∧ vs[vs.length - 1 - i]? = some x) :=
      ⟨fun i _ hi q => ⟨hi, vs, vs[vs.length - 1 - i]'(by omega), q, by simp [show vs.length - 1 - i < vs.length by omega]⟩, fun _ _ => Nat.le_refl _, fun _ _ _ _ _ q y => ⟨y.1, y.2 vs q⟩⟩
    refine ⟨_, _, by rw [List.length_reverse, ← al.length]; exact w, fun M H2 lv x2 => ⟨stay _ _ x2, fun i y H3 hi z => ?_⟩⟩
    obtain ⟨rfl, z⟩ := z
    obtain ⟨c, e1, c1⟩ := (al.extD x2).getV z
    rw [List.length_reverse] at hi
    refine ⟨Same.refl _, c, ?_, c1⟩
    rw [List.getElem?_reverse hi, ← al.length]
    exact e1
  cases d1 with
  | tup n hr al => exact ⟨_, _, rfl, .inr ⟨.inl hr, k _ H1 _ S1 r1 x1 (revT al fun M H' x => .inl (x.rd n hr)) t1⟩⟩
  | ktup hr al => exact ⟨_, _, rfl, .inr ⟨.inr hr, k _ H1 _ S1 r1 x1 (revT al fun M H' x => .inr hr) t1⟩⟩
  | lst n hr al => exact ⟨_, _, rfl, .inl ⟨SqL.of hr, k _ H1 _ S1 r1 x1 (revL al fun M H' x => SqL.of (x.keep _ _ n hr)) t1⟩⟩
  | fls n hr => exact ⟨_, _, rfl, .inl ⟨.inl hr, k _ H1 _ S1 r1 x1 (revL (DtAll.ints _) fun M H' x => .inl (x.rd n hr)) t1⟩⟩
  | kfls hr => exact ⟨_, _, rfl, .inl ⟨.inr hr, k _ H1 _ S1 r1 x1 (revL (DtAll.ints _) fun M H' x => .inr hr) t1⟩⟩
  | _ => exact t1.elim
end
end DL
/-! zip of two sequences, lists or tuples. -/
namespace DL
open PySem PySem.Spec L2 Gd

def SqX (K : PySem.W.Frag) (c : Bool) (H : Hp) (a : Addr) (xs : List V) : Prop := match c with
  | true => SqT K H a xs
  | false => SqL K H a xs
def ItAt (c : Bool) (h : Heap) (it a : Addr) (i : Nat) : Prop := match c with
  | true => h.IsTupleIter it a i
  | false => h.IsListIter it a i
def HasX (c : Bool) (h : Heap) (a : Addr) (its : Array Value) : Prop := match c with
  | true => h.IsTuple a its
  | false => h.IsList a its
theorem drawsX {prog : Program} {w : World} {A : Around} (hh : A.handled = none) (c : Bool) (it l : Addr) (hne : l ≠ it) (items : Array Value) :
    Draws prog w A it [it, l] items.size (fun i v => items[i]? = some v) (fun i h => ItAt c h it l i ∧ HasX c h l items) := by
  cases c with
  | true => exact Draws.tuple hh it l hne items
  | false => exact Draws.list hh it l hne items
theorem ItAt.at {c : Bool} {h h' : Heap} {it a : Addr} {i : Nat} (x : ItAt c h it a i) (k : ∀ o, h.get? it = some o → h'.get? it = some o) : ItAt c h' it a i := by
  cases c with
  | true => exact Heap.IsTupleIter.at x k
  | false => exact Heap.IsListIter.at x k
theorem ItAt.obj {c : Bool} {h : Heap} {it a : Addr} {i : Nat} (x : ItAt c h it a i) : ∃ o, h.get? it = some o ∧ ∀ v, o.data ≠ .cell v := by
  cases c with
  | true =>
    obtain ⟨o, e, _, d⟩ := x
    exact ⟨o, e, fun v z => by rw [d] at z; cases z⟩
  | false =>
    obtain ⟨o, e, _, d⟩ := x
    exact ⟨o, e, fun v z => by rw [d] at z; cases z⟩
def ItZ (K : PySem.W.Frag) (c1 c2 : Bool) (a b : Addr) (xs ys : List V) : It where
  go := fun i H => SqX K c1 H a xs ∧ SqX K c2 H b ys ∧ i < xs.length ∧ i < ys.length
  yld := fun i H v H' => ∃ T x y, v = .ref T ∧ H T = none ∧ H' = upd H T (.tup [x, y]) ∧ xs[i]? = some x ∧ ys[i]? = some y
  stop := fun i H => SqX K c1 H a xs ∧ SqX K c2 H b ys ∧ i ≤ xs.length ∧ i ≤ ys.length ∧ (i = xs.length ∨ i = ys.length)
section
variable {X : Cx} {pins : List (Addr × Obj)} {σ : L2.St} {H : Hp} {s : Shared}
theorem seqX (I : Inv X pins σ H s) {c : Bool} {a : Addr} {xs : List V} (q : SqX X.K c H a xs) : ∃ its : List Value, Vals xs its ∧ HasX c s.heap a its.toArray ∧ a < s.heap.objs.size := by
  cases c with
  | true =>
    obtain ⟨its, r, p, _⟩ := I.tuple q
    obtain ⟨o, e, _⟩ := id p
    exact ⟨its, r, p, Heap.lt_size e⟩
  | false =>
    obtain ⟨its, r, p, _⟩ := I.list q
    exact ⟨its, r, p.isList, p.lt⟩
theorem turn_zipM {P : Program} {w : World} {K : PySem.W.Frag} {elts : List Expr} {kk : Nat} {tpos : Pos} {c1 c2 : Bool} {a b z TI TO i1 i2 : Addr} {xs ys : List V} (D : ZipSep2 z TI TO i1 i2 [i1, a] [i2, b]) (n1 : a ≠ i1) (n2 : b ≠ i2) :
    Turn P w K (.Tuple elts kk tpos) (ItZ K c1 c2 a b xs ys) [z, TI, TO, i1, i2] z (fun i h => IsZip h z TI TO .none ∧ IsTupOf2 h TI (.ref i1) (.ref i2) ∧ (∃ x y, IsTupOf2 h TO x y) ∧ ItAt c1 h i1 a i ∧ ItAt c2 h i2 b i) where
  mem := by simp
  obj := by
    rintro i h ⟨hz, hTI, ⟨x, y, hTO⟩, h1, h2⟩ c hc
    have cases5 : c = z ∨ c = TI ∨ c = TO ∨ c = i1 ∨ c = i2 := by simpa using hc
    rcases cases5 with rfl | rfl | rfl | rfl | rfl
    · exact ⟨_, hz, fun v q => nomatch q⟩
    · exact ⟨_, hTI, fun v q => nomatch q⟩
    · exact ⟨_, hTO, fun v q => nomatch q⟩
    · exact h1.obj
    · exact h2.obj
  keep := by
    rintro i h h' ⟨hz, hTI, ⟨x, y, hTO⟩, h1, h2⟩ k
    exact ⟨k z (by simp) _ hz, k TI (by simp) _ hTI, ⟨x, y, k TO (by simp) _ hTO⟩, h1.at fun o q => k i1 (by simp) o q, h2.at fun o q => k i2 (by simp) o q⟩
  item := by
    rintro X rfl rfl rfl hc i pins s σ H E I hf ⟨hz, hTI, ⟨x0, y0, hTO⟩, h1, h2⟩ ⟨qx, qy, lx, ly⟩
    obtain ⟨its1, rv1, p1, _⟩ := seqX I qx
    obtain ⟨its2, rv2, p2, _⟩ := seqX I qy
    have m1 := rv1.length
    have m2 := rv2.length
    have hzl : z < s.heap.objs.size := Heap.lt_size hz
    have hh : X.A.in1.handled = none := I.ok.hd hc
    refine wpAny_pyNext_zipD2_item D (drawsX hh c1 i1 a n1 its1.toArray) (drawsX hh c2 i2 b n2 its2.toArray) hz hTI hTO ⟨h1, p1⟩ ⟨h2, p2⟩ (by simpa [← m1] using lx) (by simpa [← m2] using ly) ?_
    intro u1 u2 h' tk e1 e2 z' TO' st1 st2 hT hsz hk
    refine ⟨_, rfl, wpAny_letOwnedTupleGo_zip (s := { s with heap := h', toks := tk }) z' fun h'' z'' sb => ?_⟩
    obtain ⟨x, ex⟩ : ∃ x, xs[i]? = some x := ⟨xs[i], by simp [lx]⟩
    obtain ⟨y, ey⟩ : ∃ y, ys[i]? = some y := ⟨ys[i], by simp [ly]⟩
    obtain ⟨v1, g1, r1⟩ := rv1.get ex
    obtain ⟨v2, g2, r2⟩ := rv2.get ey
    have w1 : v1 = u1 := by
      have : its1[i]? = some u1 := by simpa using e1
      rw [g1] at this
      exact Option.some.inj this
    have w2 : v2 = u2 := by
      have : its2[i]? = some u2 := by simpa using e2
      rw [g2] at this
      exact Option.some.inj this
    subst w1 w2
    have hT2 : h''.get? s.heap.objs.size = some { cls := .type "tuple", data := .seq #[v1, v2] } := (sb.2 _ (Nat.ne_of_gt hzl)).trans hT
    have new : ObjOk X.prog X.w (upd H s.heap.objs.size (.tup [x, y])) h'' s.heap.objs.size (.tup [x, y]) :=
      ⟨by show 2 ≤ sizeLine; decide, [v1, v2], .cons r1 (.cons r2 .nil), ⟨_, hT2, rfl, _, rfl⟩⟩
    have all : ∀ c o, c ∉ [z, TI, TO, i1, i2] → s.heap.get? c = some o → h''.get? c = some o := by
      intro c o hb q
      simp only [List.mem_cons, List.not_mem_nil, or_false, not_or] at hb
      exact (sb.2 c hb.1).trans (hk c o hb.1 hb.2.2.1 hb.2.2.2.1 hb.2.2.2.2 q)
    have I1 := I.turnedNew (t' := tk) (ch := [z, TI, TO, i1, i2]) all hf (Nat.le_refl _) new
    refine ⟨.ref s.heap.objs.size, _, I1, rfl, ⟨_, x, y, rfl, I.hok.fresh (Nat.le_refl _), rfl, ex, ey⟩, ⟨z'', ?_, ⟨v1, v2, ?_⟩, ?_, ?_⟩, fun c hcm => ?_⟩
    · exact (sb.2 _ D.TIz).trans (hk _ _ D.TIz D.TITO D.TIi1 D.TIi2 hTI)
    · exact (sb.2 _ D.TOz).trans TO'
    · exact st1.1.at fun o q => (sb.2 _ (fun e => D.zf1 (by simp [e]))).trans q
    · exact st2.1.at fun o q => (sb.2 _ (fun e => D.zf2 (by simp [e]))).trans q
    · have hlt : c < s.heap.objs.size := by
        have cases5 : c = z ∨ c = TI ∨ c = TO ∨ c = i1 ∨ c = i2 := by simpa using hcm
        rcases cases5 with rfl | rfl | rfl | rfl | rfl
        · exact hzl
        · exact Heap.lt_size hTI
        · exact Heap.lt_size hTO
        · obtain ⟨_, e, _⟩ := h1.obj; exact Heap.lt_size e
        · obtain ⟨_, e, _⟩ := h2.obj; exact Heap.lt_size e
      rw [upd_ne (Nat.ne_of_lt hlt)]
      exact (hf c hcm).1
  done := by
    rintro X rfl rfl rfl hc i pins s σ H E I hf ⟨hz, hTI, ⟨x0, y0, hTO⟩, h1, h2⟩ ⟨qx, qy, lx, ly, en⟩
    obtain ⟨its1, rv1, p1, _⟩ := seqX I qx
    obtain ⟨its2, rv2, p2, _⟩ := seqX I qy
    have m1 := rv1.length
    have m2 := rv2.length
    have hh : X.A.in1.handled = none := I.ok.hd hc
    refine wpAny_pyNext_zipD2_end D (drawsX hh c1 i1 a n1 its1.toArray) (drawsX hh c2 i2 b n2 its2.toArray) hz hTI hTO ⟨h1, p1⟩ ⟨h2, p2⟩ (by simpa [← m1] using lx) (by simpa [← m2] using ly) (by simpa [← m1, ← m2] using en) ?_
    intro h' tk hk
    refine ⟨rfl, I.turnedL (t' := tk) (ch := [z, TI, TO, i1, i2]) (fun c o hb q => ?_) hf⟩
    simp only [List.mem_cons, List.not_mem_nil, or_false, not_or] at hb
    exact hk c o hb.1 hb.2.2.1 hb.2.2.2.1 hb.2.2.2.2 q
  self := fun A i s Q E st h => wpAny_pyIter_zip st.1 h
end
theorem sep_zip (n a b : Nat) (ha : a < n) (hb : b < n) : ZipSep2 (n + 4) (n + 2) (n + 3) n (n + 1) [n, a] [n + 1, b] where
  TIz := by show n + 2 ≠ n + 4; omega
  TOz := by show n + 3 ≠ n + 4; omega
  TITO := by show n + 2 ≠ n + 3; omega
  TIi1 := by show n + 2 ≠ n; omega
  mem1 := by simp
  zf1 := by
    intro h
    have h : n + 4 = n ∨ n + 4 = a := by simpa using h
    omega
  Tf1 := by
    intro h
    have h : n + 3 = n ∨ n + 3 = a := by simpa using h
    omega
  TIi2 := by show n + 2 ≠ n + 1; omega
  mem2 := by simp
  zf2 := by
    intro h
    have h : n + 4 = n + 1 ∨ n + 4 = b := by simpa using h
    omega
  Tf2 := by
    intro h
    have h : n + 3 = n + 1 ∨ n + 3 = b := by simpa using h
    omega
  sep1_2 := by
    intro h
    have h : n = n + 1 ∨ n = b := by simpa using h
    omega
  sep2_1 := by
    intro h
    have h : n + 1 = n ∨ n + 1 = a := by simpa using h
    omega
def iZipM (K : PySem.W.Frag) (ta : TA) : TI := fun σ H R => ta σ H fun vs H1 => ∃ c1 c2 a b xs ys, vs = [.ref a, .ref b] ∧ SqX K c1 H1 a xs ∧ SqX K c2 H1 b ys ∧ R (ItZ K c1 c2 a b xs ys) H1
theorem pi_zipM {X : Cx} {e e2 : Expr} {ta : TA} {p pos tpos : Pos} {elts : List Expr} {kk : Nat} (hg : Gl X "zip") (hm : X.mg "zip" = none) (ha : PA X [e, e2] ta)
    (hs : starEach [e, e2] X.env = (false, eval e X.env) :: starEach [e2] X.env := by rfl) (hpl : (backTo pos (starEach [e2] X.env)).any (·.1) = false := by rfl) :
    PI X (.Tuple elts kk tpos) (.Call (.Name "zip" p) [e, e2] [] pos) (iZipM X.K ta) := by
  constructor
  intro pins s σ H R I want
  refine PyProof.Rows.Call_ (ld_blt I hg hm PyProof.Rows.boot_zip ?_)
  apply PyProof.Rows.callWith_type1 _ hs hpl
  apply thn (ha.run pos pins s σ H _ I want)
  rintro us s1 ⟨vs, H1, I1, r1, c1, c2, a, b, xs, ys, rfl, qx, qy, q⟩
  obtain ⟨u1, u2, rfl, ru1, ru2⟩ := vals2 r1
  obtain rfl : u1 = .ref a := ru1
  obtain rfl : u2 = .ref b := ru2
  obtain ⟨its1, rv1, p1, l1⟩ := seqX I1 qx
  obtain ⟨its2, rv2, p2, l2⟩ := seqX I1 qy
  have fresh : ∀ c, c ∈ [s1.heap.objs.size + 4, s1.heap.objs.size + 2, s1.heap.objs.size + 3, s1.heap.objs.size, s1.heap.objs.size + 1] → FpOk X pins H1 c := by
    intro c hcm
    have le : s1.heap.objs.size ≤ c := by
      simp only [List.mem_cons, List.not_mem_nil, or_false] at hcm
      omega
    exact I1.fpOk le (I1.hok.fresh le)
  have sep := sep_zip s1.heap.objs.size a b l1 l2
  have done : ∀ {o1 o2 : Obj} (h' : Heap), IsZip h' (s1.heap.objs.size + 4) (s1.heap.objs.size + 2) (s1.heap.objs.size + 3) .none →
      IsTupOf2 h' (s1.heap.objs.size + 2) (.ref s1.heap.objs.size) (.ref (s1.heap.objs.size + 1)) → IsTupOf2 h' (s1.heap.objs.size + 3) .none .none →
      ItAt c1 h' s1.heap.objs.size a 0 → ItAt c2 h' (s1.heap.objs.size + 1) b 0 → (∀ c o, s1.heap.get? c = some o → h'.get? c = some o) →
      wpAny (model X.prog X.w) X.A (pyIter (.ref (s1.heap.objs.size + 4))) (PIE X pins σ (.Tuple elts kk tpos) R) X.xe { s1 with heap := h' } := by
    intro o1 o2 h' hz hTI hTO h1 h2 hk
    apply wpAny_pyIter_zip hz
    have I2 : Inv X pins σ H1 { s1 with heap := h' } := I1.kept (t' := s1.toks) hk
    exact ⟨_, _, _, _, H1, rfl, I2, turn_zipM sep (Nat.ne_of_lt l1) (Nat.ne_of_lt (Nat.lt_succ_of_lt l2)), ⟨hz, hTI, ⟨_, _, hTO⟩, h1, h2⟩, fresh, q⟩
  cases c1 with
  | true =>
    cases c2 with
    | true => exact zip_begins2 (begins_tuple a its1.toArray) (begins_tuple b its2.toArray) p1 p2 fun h' hz hTI hTO g1 g2 _ hk => done (o1 := default) (o2 := default) h' hz hTI hTO ⟨_, g1, rfl, rfl⟩ ⟨_, g2, rfl, rfl⟩ hk
    | false => exact zip_begins2 (begins_tuple a its1.toArray) (begins_list b its2.toArray) p1 p2 fun h' hz hTI hTO g1 g2 _ hk => done (o1 := default) (o2 := default) h' hz hTI hTO ⟨_, g1, rfl, rfl⟩ ⟨_, g2, rfl, rfl⟩ hk
  | false =>
    cases c2 with
    | true => exact zip_begins2 (begins_list a its1.toArray) (begins_tuple b its2.toArray) p1 p2 fun h' hz hTI hTO g1 g2 _ hk => done (o1 := default) (o2 := default) h' hz hTI hTO ⟨_, g1, rfl, rfl⟩ ⟨_, g2, rfl, rfl⟩ hk
    | false => exact zip_begins2 (begins_list a its1.toArray) (begins_list b its2.toArray) p1 p2 fun h' hz hTI hTO g1 g2 _ hk => done (o1 := default) (o2 := default) h' hz hTI hTO ⟨_, g1, rfl, rfl⟩ ⟨_, g2, rfl, rfl⟩ hk

/-! ### over data -/
/-- pairs -/
def zipD (xs ys : List D) : List D := List.zipWith (fun x y => D.tup [x, y]) xs ys
theorem zipD_len (xs ys : List D) : (zipD xs ys).length = min xs.length ys.length := List.length_zipWith
def dZip (ta : DTA) : DTA := fun δ S Q => ta δ S fun ds S1 => match ds with
  | [p, q] => items (fun xs S2 => items (fun ys S3 => Q (zipD xs ys) S3) q S2) p S1
  | _ => False
section
variable {X : Cx} {dx : Dx} {K : PySem.W.Frag} {H : Hp} {S : Sto}
theorem seq_data {v : V} {d : D} {Q : List D → Sto → Prop} (h : Dt K (Mu dx S) H v d) (t : items Q d S) :
    ∃ c a vs ds, v = .ref a ∧ DtAll K (Mu dx S) H vs ds ∧ Q ds S ∧ SqX K c H a vs ∧ ∀ M H', ExtD (Mu dx S) H M H' → SqX K c H' a vs := by
  cases h with
  | tup n hr al => exact ⟨true, _, _, _, rfl, al, t, .inl hr, fun M H' x => .inl (x.rd n hr)⟩
  | ktup hr al => exact ⟨true, _, _, _, rfl, al, t, .inr hr, fun M H' x => .inr hr⟩
  | lst n hr al => exact ⟨false, _, _, _, rfl, al, t, SqL.of hr, fun M H' x => SqL.of (x.keep _ _ n hr)⟩
  | fls n hr => exact ⟨false, _, _, _, rfl, DtAll.ints _, t, .inl hr, fun M H' x => .inl (x.rd n hr)⟩
  | kfls hr => exact ⟨false, _, _, _, rfl, DtAll.ints _, t, .inr hr, fun M H' x => .inr hr⟩
  | _ => exact t.elim
theorem walks_zip {c1 c2 : Bool} {a b : Addr} {vs ws : List V} {xs ys : List D} (al : DtAll K (Mu dx S) H vs xs) (bl : DtAll K (Mu dx S) H ws ys)
    (sa : ∀ M H', ExtD (Mu dx S) H M H' → SqX K c1 H' a vs) (sb : ∀ M H', ExtD (Mu dx S) H M H' → SqX K c2 H' b ws) : Walks K dx (ItZ K c1 c2 a b vs ws) (zipD xs ys) S H := by
  have la := al.length
  have lb := bl.length
  refine ⟨fun H' => SqX K c1 H' a vs ∧ SqX K c2 H' b ws, fun i H v H' => ∃ T x y, v = .ref T ∧ H T = none ∧ H' = upd H T (.tup [x, y]) ∧ vs[i]? = some x ∧ ws[i]? = some y, ⟨?_, ?_, fun i H x H' _ _ y => y⟩, fun M H2 lv x2 => ⟨⟨sa _ _ x2, sb _ _ x2⟩, ?_⟩⟩
  · intro i H' hi g
    rw [zipD_len] at hi
    exact ⟨g.1, g.2, by omega, by omega⟩
  · intro H' g
    rw [zipD_len]
    exact ⟨g.1, g.2, by omega, by omega, by omega⟩
  · rintro i v H3 hi ⟨T, x, y, rfl, n, rfl, ex, ey⟩
    obtain ⟨d1, f1, g1⟩ := (al.extD x2).getV ex
    obtain ⟨d2, f2, g2⟩ := (bl.extD x2).getV ey
    refine ⟨same_new n, .tup [d1, d2], ?_, .tup (fun z => lv T z n) (.inl upd_same) (.cons (g1.ext (ext_new n)) (.cons (g2.ext (ext_new n)) .nil))⟩
    unfold zipD
    rw [List.getElem?_zipWith, f1, f2]
theorem di_zip {tg st : Expr} {ta : TA} {fa : DTA} {es : List Expr} (ha : DA X dx es ta fa) (hp : PI X tg st (iZipM X.K ta)) : DI X dx tg st (iZipM X.K ta) (dZip fa) := by
  refine ⟨hp, fun σ H δ S Q R r s t k => ?_⟩
  refine ha.go σ H δ S _ _ r s t fun vs H1 ds S1 r1 x1 d1 t1 => ?_
  cases d1 with
  | nil => exact t1.elim
  | cons h1 d1 =>
    cases d1 with
    | nil => exact t1.elim
    | cons h2 d1 =>
      cases d1 with
      | cons _ _ => exact t1.elim
      | nil =>
        obtain ⟨c1, a, vs1, xs, rfl, al, t2, q1, s1⟩ := seq_data h1 t1
        obtain ⟨c2, b, vs2, ys, rfl, bl, t3, q2, s2⟩ := seq_data h2 t2
        exact ⟨c1, c2, a, b, vs1, vs2, rfl, q1, q2, k _ H1 _ S1 r1 x1 (walks_zip al bl s1 s2) t3⟩
end
end DL
/-! The end of a law: its def's promise, at the heap behind the top. -/
namespace DL
open PySem PySem.Spec L2 Gd

section
variable {P : Program} {w : World} {K : PySem.W.Frag} {mg mb : Str → Option Value} {k : Nat} {fa a : Addr} {fd : FuncData} {x : Str} {sp : Sp} {s1 : Shared} {vs : List Value} {ns : List Int}

/-- the heap as it stands when the law is called: nothing is tracked but the script, by what holds of it -/
structure Entry (P : Program) (w : World) (K : PySem.W.Frag) (H : Hp) (h : Heap) (a : Addr) (ns : List Int) : Prop where
  ok : HOk P w H h
  only : ∀ b u, H b = some u → b = a ∧ K.lookup a = none ∧ ∃ o, h.get? b = some o ∧ u = .frz o (.lst (ns.map V.int))
  script : SqL K H a (ns.map V.int)
theorem entry_of (inK : K.In s1.heap) (at_ : s1.heap.get? a = some { cls := .type "list", data := .seq vs.toArray }) (its : PyProof.Rows.IntsAre vs ns) (few : ns.length ≤ sizeLine) :
    ∃ H, Entry P w K H s1.heap a ns := by
  have rel : Vals (ns.map V.int) vs := vals_of_ints its
  have len : vs.length = ns.length := by
    have := rel.length
    rw [List.length_map] at this
    exact this.symm
  cases known : K.lookup a with
  | some o =>
    have e := inK a o known
    rw [at_] at e
    cases e
    refine ⟨fun _ => none, fun b u e => (nomatch e), fun b u e => (nomatch e), .inr ⟨_, vs.toArray, _, known, rfl, rfl, rfl, ?_, by simpa using rel⟩⟩
    rw [List.size_toArray, len]
    exact few
  | none =>
    let ob : Obj := { cls := .type "list", data := .seq vs.toArray }
    refine ⟨fun b => if b = a then some (.frz ob (.lst (ns.map V.int))) else none, ?_, ?_, .inl (.inr ⟨ob, if_pos rfl⟩)⟩
    · intro b u e
      by_cases q : b = a
      · have e := (if_pos q).symm.trans e
        cases e
        subst q
        exact ⟨at_, by rw [List.length_map]; exact few, vs, _, rel, at_⟩
      · have e := (if_neg q).symm.trans e
        cases e
    · intro b u e
      by_cases q : b = a
      · have e := (if_pos q).symm.trans e
        cases e
        subst q
        exact ⟨rfl, known, ob, at_, rfl⟩
      · have e := (if_neg q).symm.trans e
        cases e
theorem law_run (inK : K.In s1.heap) (ng : s1.heap.Ns mainGlobals mg) (nbl : s1.heap.Ns builtinsNs mb) (same : ∀ y : Str, y ≠ "__name__" → mb y = bootBuiltins y) (calm : s1.heap.NoLimit) (gens : s1.gens = #[])
    (at_ : s1.heap.get? a = some { cls := .type "list", data := .seq vs.toArray }) (its : PyProof.Rows.IntsAre vs ns) (few : ns.length ≤ sizeLine) (room : Room k callerA)
    (F : ∀ base : Heap, K.In base → base.Ns mainGlobals mg → FnG P w K mg base CX0 k fa fd [x] sp) (bind : ∀ (s : Shared) (u : Value), BindsTo s fd ⟨[u], []⟩ [(x, u)])
    (hsp : ∀ H : Hp, (∀ b u, H b = some u → ∃ o, u = .frz o (.lst (ns.map V.int))) → SqL K H a (ns.map V.int) → sp [.ref a] H (fun v _ => v = .bl true) fun _ _ _ => False) :
    codeAny (model P w) callerA (.call (.ref fa) ⟨[.ref a], []⟩) (fun r s' => r = .ok (.ret (.bool true)) ∧ OldK s1.heap s'.heap ∧ s'.os = s1.os ∧ PyProof.Rows.AllBare s'.gens) s1 := by
  obtain ⟨H, E⟩ := entry_of (P := P) (w := w) inK at_ its few
  have free : ∀ {b : Addr} {o : Obj}, s1.heap.get? b = some o → (∀ xs n, o.data ≠ .seq xs n) → H b = none := by
    intro b o e d
    cases q : H b with
    | none => rfl
    | some u =>
      obtain ⟨rfl, _, _⟩ := E.only b u q
      rw [at_] at e
      cases e
      exact absurd rfl (d _ _)
  have ns_of : ∀ {b : Addr} {m : Str → Option Value}, s1.heap.Ns b m → (hidT s1.heap H).Ns b m := by
    rintro b m ⟨o, es, ep, e, d, q⟩
    exact ⟨o, es, ep, hidT_get e (free e fun xs n z => by rw [d] at z; cases z), d, q⟩
  have kin : K.In (hidT s1.heap H) := by
    intro b o e
    refine hidT_get (inK b o e) ?_
    cases q : H b with
    | none => rfl
    | some u =>
      obtain ⟨rfl, z, _⟩ := E.only b u q
      rw [z] at e
      cases e
  have modf : Mod K mg (hidT s1.heap H) := ⟨kin, ns_of ng, ⟨mb, ns_of nbl, same⟩, by obtain ⟨mc, z1, z2⟩ := calm; exact ⟨mc, ns_of z1, z2⟩⟩
  have none_ : ∀ {b : Addr}, b ∈ frs ([] : List Env) → False := fun h => by simp [frs] at h
  have env0 : Env0 P w K mg (hidT s1.heap H) callerA [] s1 H :=
    ⟨rfl, modf, fun b o e => of_hidT e, Nat.le_of_eq (hidT_size _ _), trivial, fun b hb => (none_ hb).elim, E.ok, .of_eq gens⟩
  apply codeAny_mono ((F _ kin (ns_of ng)).goes callerA [] s1 H ⟨[.ref a], []⟩ [.ref a] [.ref a] _ _ room rfl env0 (bind s1 (.ref a)) (.cons rfl .nil)
    (hsp H (fun b u q => by obtain ⟨_, _, o, _, z⟩ := E.only b u q; exact ⟨o, z⟩) E.script))
  intro r s2 h
  match r, h with
  | .error e, h => exact h.elim
  | .ok .next, h => exact h.elim
  | .ok .brk, h => exact h.elim
  | .ok .cont, h => exact h.elim
  | .ok (.ret u), ⟨v, H2, os, bare, un, hok, rv, q⟩ =>
    have q : v = .bl true := q
    subst q
    obtain rfl : u = .bool true := rv
    refine ⟨rfl, OldK.of_keep fun b o e => ?_, os, bare⟩
    cases z : H b with
    | none => exact un.keep b o e z (fun hb => none_ hb) (by simp)
    | some u =>
      obtain ⟨_, _, o2, e2, rfl⟩ := E.only b u z
      have z2 := un.frzs b o2 _ z
      obtain ⟨e3, _⟩ := hok b _ z2
      rw [e] at e2
      cases e2
      exact e3
/-- the goal that the head leaves -/
theorem walkG {l : PySem.W.OpenLaw} {n k : Nat} {q : Program} {loose : List Str} {XP : (Str → Option Value) → Heap → Prop} {YP : World → Heap → Prop} {d : DefRec} {K : Params → PySem.W.Frag} {sp : PySem.W.Frag → Sp} {x : Str}
    (most : l.most = some n) (few : n ≤ sizeLine) (plain : d.params.defaults = []) (room : Room k callerA)
    (hY : ∀ (w : World) (h : Heap), YP w h → (K w.params).In h)
    (F : ∀ (w : World) (mg : Str → Option Value) (fa : Addr) (h : Heap), (K w.params).In h → h.Ns mainGlobals mg → mg d.name = some (.ref fa) →
      ∃ fd : FuncData, (∀ (s : Shared) (u : Value), BindsTo s fd ⟨[u], []⟩ [(x, u)]) ∧
        ∀ base : Heap, (K w.params).In base → base.Ns mainGlobals mg → FnG l.prog w (K w.params) mg base CX0 k fa fd [x] (sp (K w.params)))
    (hsp : ∀ (K : PySem.W.Frag) (H : Hp) (a : Addr) (ns : List Int), ns.length ≤ n → (∀ b u, H b = some u → ∃ o, u = .frz o (.lst (ns.map V.int))) → SqL K H a (ns.map V.int) → sp K [.ref a] H (fun v _ => v = .bl true) fun _ _ _ => False) :
    PySem.W.WalkO q loose XP YP l.row.toRowW d [] (fun f vs => PySem.call f vs) := by
  apply Att.attach_call most plain
  intro w s0 s1 mg mb fa o pm cd doc a vs ns G Y ho hd hcd hmg hobj hints hlen hg
  have inK := hY w _ Y
  obtain ⟨fd, hb, hF⟩ := F w mg fa _ inK G.T.g hmg
  exact law_run inK G.T.g G.T.b G.T.builtins G.T.nolimit hg hobj hints (Nat.le_trans hlen few) room hF hb (fun H hO hS => hsp (K w.params) H a ns hlen hO hS)
end
end DL
/-! A source of draws, handed from def to def; the law itself. -/
namespace DL
open PySem PySem.Spec L2 Gd

def handR (a c : Addr) : Addr → Prop := fun b => b = a ∨ b = c
def ROk (cs : List Int) (z : Int) : Prop := (∀ x ∈ cs, 0 ≤ x) ∧ cs.length ≤ 63 ∧ 0 ≤ z ∧ z < 2 ^ 40
def RandOk (a c : Addr) : Hp → Prop := fun H => a ≠ c ∧ ∃ (cs : List Int) (z : Int), H a = some (.lst [.ref c, .int z]) ∧ H c = some (.lst (cs.map V.int)) ∧ ROk cs z
def spR (K : PySem.W.Frag) (spec : Addr → DSpec) : Sp := fun vs H Q E => ∃ a c, spD K (handR a c) (RandOk a c) (spec a) vs H Q E
section
variable {P : Program} {w : World} {K : PySem.W.Frag} {mg : Str → Option Value} {base : Heap}
theorem fnR {k : Nat} {x qual : Str} {st : Stmt} {f : Addr} {fd : FuncData} {N ps : List Str} {spec : Addr → DSpec}
    (F : Fun K x qual st f fd) (S : FnScope N ps (defScope st)) (len : ∀ a ds post, spec a ds post → ds.length = ps.length)
    (body : ∀ (cdv : Value) (A : Around) (fr : List Env) (s : Shared) (H : Hp) (E : XK), Room k (A.deeper (PyProof.Rows.envOfC qual (defScope st) s.heap.objs.size f cdv)) → A.guards = some [] →
      ∀ (a c : Addr) (dx : Dx), dx.hand = handR a c → dx.J = RandOk a c → ∃ ts t, DSs (Body P w K mg base N qual st f cdv A fr s H E) dx (defBody st) ts t ∧
        ∀ ds post, spec a ds post → t { nx := fun _ _ => post .non, rt := fun d _ => post d } (startD N ds) []) :
    FnG P w K mg base CX0 (k + 1) f fd ps (spR K spec) := by
  refine fnG_body F S ?_ ?_
  · rintro vs H Q E ⟨a, c, m, ds, post, _, _, _, _, al, sp, _⟩
    rw [al.length]
    exact len a ds post sp
  · rintro cdv A fr s H vs Q E room guard ⟨a, c, m, ds, post, live, hm, stab, j, al, sp, k'⟩
    obtain ⟨ts, t, h, q⟩ := body cdv A fr s H E room guard a c ⟨m, H, handR a c, RandOk a c⟩ rfl rfl
    refine ⟨ts, h.pe.nox, ?_⟩
    have le : ExtD (Fo m) H (Mu ⟨m, H, handR a c, RandOk a c⟩ []) H := by
      refine ⟨fun _ _ _ e => e, fun b z n => ?_⟩
      rcases z with z | z | z
      · exact absurd (.inl z) n
      · exact absurd (.inl (hm b z)) n
      · cases z
    have r : HR K ⟨m, H, handR a c, RandOk a c⟩ H [] := ⟨fun p xs z => (nomatch z), List.nodup_nil, live, fun p z => (nomatch z), fun b o e _ => e, j, stab, hm⟩
    refine h.go _ H (startD N ds) [] { nx := fun _ _ => post .non, rt := fun d _ => post d } _ r (start_sr (al.extD le)) (q ds post sp) ⟨?_, ?_, ?_, ?_⟩
    · intro σ' H' δ' S' r' x' s' p'
      exact k' .non H' .non r'.keep r'.live r'.j .non p'
    · intro σ' H' δ' S' r' x' s' p'
      exact p'.elim
    · intro σ' H' δ' S' r' x' s' p'
      exact p'.elim
    · intro v H' d S' r' x' hd p'
      exact k' v H' d r'.keep r'.live r'.j hd p'

/-- a number below another one -/
def spDraw : Addr → DSpec := fun a ds post => ∃ m : Int, ds = [.adr a, .int m] ∧ 1 ≤ m ∧ m < 2 ^ 62 ∧ ∀ r : Int, 0 ≤ r → r < m → post (.int r)
def drawEnd (a c : Addr) (m : Int) : D → Sto → Prop := fun d S => ∃ (r : Int) (cs : List Int) (z : Int), d = .int r ∧ 0 ≤ r ∧ r < m ∧ getS S a = some [.adr c, .int z] ∧ getS S c = some (cs.map D.int) ∧ ROk cs z
theorem fnDraw {k : Nat} {x qual : Str} {st : Stmt} {f : Addr} {fd : FuncData} {N ps : List Str}
    (F : Fun K x qual st f fd) (S : FnScope N ps (defScope st)) (len : ps.length = 2)
    (body : ∀ (cdv : Value) (A : Around) (fr : List Env) (s : Shared) (H : Hp) (E : XK), Room k (A.deeper (PyProof.Rows.envOfC qual (defScope st) s.heap.objs.size f cdv)) → A.guards = some [] →
      ∀ (dx : Dx), ∃ ts t, DSs (Body P w K mg base N qual st f cdv A fr s H E) dx (defBody st) ts t ∧
        ∀ (a c : Addr) (cs : List Int) (z m : Int), a ≠ c → ROk cs z → 1 ≤ m → m < 2 ^ 62 → t { nx := fun _ _ => False, rt := drawEnd a c m } (startD N [.adr a, .int m]) [(a, [.adr c, .int z]), (c, cs.map D.int)]) :
    FnG P w K mg base CX0 (k + 1) f fd ps (spR K spDraw) := by
  refine fnG_body F S ?_ ?_
  · rintro vs H Q E ⟨a, c, m, ds, post, _, _, _, _, al, ⟨_, rfl, _⟩, _⟩
    rw [al.length, len]
    rfl
  · rintro cdv A fr s H vs Q E room guard ⟨a, c, mm, ds, post, live, hm, stab, j, al, ⟨m, rfl, m1, m2, kp⟩, k'⟩
    obtain ⟨ne, cs, z, ha, hc, ok⟩ := j
    have hvs : vs = [.ref a, .int m] := by
      cases al with
      | cons h1 al =>
        cases h1
        cases al with
        | cons h2 al =>
          cases h2
          cases al
          rfl
    subst hvs
    let H0 : Hp := fun b => if b = a ∨ b = c then none else H b
    let dx : Dx := ⟨fun b => mm b ∧ ¬ (b = a ∨ b = c), H0, noHand, noJ⟩
    obtain ⟨ts, t, h, q⟩ := body cdv A fr s H E room guard dx
    refine ⟨ts, h.pe.nox, ?_⟩
    have h0 : ∀ b, (b = a ∨ b = c) → H0 b = none := fun b e => if_pos e
    have h1 : ∀ b, ¬ (b = a ∨ b = c) → H0 b = H b := fun b e => if_neg e
    have r : HR K dx H [(a, [.adr c, .int z]), (c, cs.map D.int)] := by
      refine ⟨fun p xs mm => ?_, ?_, fun b mb => live b mb.1, fun p mp => ?_, fun b o e _ => ?_, trivial, fun _ _ _ _ => trivial, fun b z => z.elim⟩
      · rcases List.mem_cons.mp mm with e | mm
        · cases e
          exact ⟨_, ha, .cons (.adr c) (.cons (.int z) .nil)⟩
        · rcases List.mem_cons.mp mm with e | mm
          · cases e
            exact ⟨_, hc, DtAll.ints cs⟩
          · cases mm
      · show [a, c].Nodup
        simpa using ne
      · have mp : p ∈ [a, c] := mp
        have e : p = a ∨ p = c := by simpa using mp
        exact ⟨h0 p e, fun z => z.2 e⟩
      · by_cases e2 : b = a ∨ b = c
        · have e : H0 b = some o := e
          rw [h0 b e2] at e
          cases e
        · have e : H0 b = some o := e
          rw [h1 b e2] at e
          exact e
    refine h.go _ H (startD N [.adr a, .int m]) _ _ _ r (start_sr (.cons (.adr a) (.cons (.int m) .nil))) (q a c cs z m ne ok m1 m2) ⟨?_, ?_, ?_, ?_⟩
    · intro σ' H' δ' S' r' x' s' p'
      exact p'.elim
    · intro σ' H' δ' S' r' x' s' p'
      exact p'.elim
    · intro σ' H' δ' S' r' x' s' p'
      exact p'.elim
    · rintro v H' d S' r' x' hd ⟨r, cs', z', rfl, r0, r1, ga, gc, ok'⟩
      obtain ⟨_, va, ea, da⟩ := r'.get ga
      obtain ⟨_, vc, ec, dc⟩ := r'.get gc
      have ja : H' a = some (.lst [.ref c, .int z']) := by
        cases da with
        | cons h1 da =>
          cases h1
          cases da with
          | cons h2 da =>
            cases h2
            cases da
            exact ea
      have jc : H' c = some (.lst (cs'.map V.int)) := by
        rw [Dt.ints_of dc] at ec
        exact ec
      have hd2 : Dt K (Fo mm) H' v (.int r) := by
        cases hd
        exact .int r
      refine k' v H' _ (fun b o e n => ?_) (fun b mb => ?_) ⟨ne, cs', z', ja, jc, ok'⟩ hd2 (kp r r0 r1)
      · have n : ¬ (b = a ∨ b = c) := n
        exact r'.keep b o ((h1 b n).trans e) fun z => z
      · by_cases e2 : b = a ∨ b = c
        · rcases e2 with rfl | rfl
          · rw [ja]; exact fun z => nomatch z
          · rw [jc]; exact fun z => nomatch z
        · exact r'.live b ⟨mb, e2⟩

/-- the script in, a source of draws out -/
def spHeap : DSpec := fun ds post => ∃ ns : List Int, ds = [.fls ns] ∧ ns.length ≤ 63 ∧ ∀ (cs : List Int) (z : Int), ROk cs z → post (.lst [.lst (cs.map D.int), .int z])
def spL (K : PySem.W.Frag) : Sp := fun vs H Q _ => ∃ (a : Addr) (ns : List Int), vs = [.ref a] ∧ ns.length ≤ 63 ∧ (∀ b u, H b = some u → ∃ o, u = .frz o (.lst (ns.map V.int))) ∧ SqL K H a (ns.map V.int) ∧ ∀ H', Q (.bl true) H'
theorem fnLaw {k : Nat} {x qual : Str} {st : Stmt} {f : Addr} {fd : FuncData} {N ps : List Str} {y : Str} {py ps1 : Pos} {rest : List Stmt} {e1 : Expr}
    (F : Fun K x qual st f fd) (S : FnScope N ps (defScope st)) (len : ps.length = 1) (hb : defBody st = .Assign [.Name y py] e1 ps1 :: rest)
    (body : ∀ (cdv : Value) (A : Around) (fr : List Env) (s : Shared) (H : Hp) (E : XK), Room k (A.deeper (PyProof.Rows.envOfC qual (defScope st) s.heap.objs.size f cdv)) → A.guards = some [] →
      ∃ te ts, (∀ dx, DE (Body P w K mg base N qual st f cdv A fr s H E) dx e1 te (dCall spHeap (dCons (dVar 0) dNil))) ∧ PS (Body P w K mg base N qual st f cdv A fr s H E) (.Assign [.Name y py] e1 ps1) (tAsg te (gName 1)) ∧
        ∀ (a c : Addr) (dx : Dx), dx.hand = handR a c → dx.J = RandOk a c → ∃ t, DSs (Body P w K mg base N qual st f cdv A fr s H E) dx rest ts t ∧
          ∀ ns : List Int, ns.length ≤ 63 → t { nx := fun _ _ => False, rt := fun d _ => d = .bl true } (put (startD N [.fls ns]) 1 (.adr a)) []) :
    FnG P w K mg base CX0 (k + 1) f fd ps (spL K) := by
  refine fnG_body F S ?_ ?_
  · rintro vs H Q E ⟨a, ns, rfl, _⟩
    rw [len]
    rfl
  · rintro cdv A fr s H vs Q E room guard ⟨a0, ns, rfl, few, only, hS, k'⟩
    obtain ⟨te, ts, he, hp, hr⟩ := body cdv A fr s H E room guard
    refine ⟨tSeq (tAsg te (gName 1)) ts, ?_, ?_⟩
    · rw [hb]
      refine (pss_cons hp ?_).nox
      obtain ⟨t, h, _⟩ := hr 0 0 ⟨fun _ => False, H, handR 0 0, RandOk 0 0⟩ rfl rfl
      exact h.pe
    · let dx0 : Dx := ⟨fun _ => False, H, noHand, noJ⟩
      have r0 : HR K dx0 H [] := ⟨fun p xs z => (nomatch z), List.nodup_nil, fun b z => z.elim, fun p z => (nomatch z), fun b o e _ => e, trivial, fun _ _ _ _ => trivial, fun b z => z.elim⟩
      have nm : ∀ b, ¬ (Mu dx0 []).mu b := fun b z => by
        rcases z with z | z | z
        · exact z
        · exact z
        · cases z
      have d0 : Dt K (Mu dx0 []) H (.ref a0) (.fls ns) := by
        rcases hS with h | h
        · exact .fls (nm _) h
        · exact .kfls h
      refine (he dx0).go (L2.start N [.ref a0]) H (startD N [.fls ns]) [] (fun d S => S = [] ∧ ∃ cs z, ROk cs z ∧ d = .lst [.lst (cs.map D.int), .int z]) _ r0 (start_sr (.cons d0 .nil)) ?_ ?_
      · exact ⟨ns, rfl, few, fun cs z ok => ⟨rfl, cs, z, ok, rfl⟩⟩
      · rintro v H' d S' r' x' hd ⟨rfl, cs, z, ok, rfl⟩
        obtain ⟨a, vs, rfl, _, ha, al⟩ := hd.sqL
        have key : ∃ c, vs = [.ref c, .int z] ∧ H' c = some (.lst (cs.map V.int)) := by
          cases al with
          | cons h1 al =>
            obtain ⟨c, ws, rfl, _, hc, bl⟩ := h1.sqL
            rw [Dt.ints_of bl] at hc
            cases al with
            | cons h2 al =>
              cases h2
              cases al
              exact ⟨c, rfl, hc⟩
        obtain ⟨c, rfl, hc⟩ := key
        have ne : a ≠ c := fun e => by
          subst e
          rw [ha] at hc
          cases cs with
          | nil => cases hc
          | cons i cs => injection hc with hc; injection hc with hc; injection hc with hc; cases hc
        let dx1 : Dx := ⟨handR a c, H', handR a c, RandOk a c⟩
        have r1 : HR K dx1 H' [] := by
          refine ⟨fun p xs z => (nomatch z), List.nodup_nil, fun b hb => ?_, fun p z => (nomatch z), fun b o e _ => e, ⟨ne, cs, z, ha, hc, ok⟩, fun H1 H2 same j => ?_, fun b z => z⟩
          · rcases hb with rfl | rfl
            · rw [ha]; exact fun z => nomatch z
            · rw [hc]; exact fun z => nomatch z
          · obtain ⟨ne, cs, z, e1, e2, ok⟩ := j
            exact ⟨ne, cs, z, (same a (.inl rfl)).trans e1, (same c (.inr rfl)).trans e2, ok⟩
        have d1 : Dt K (Mu dx1 []) H' (.ref a0) (.fls ns) := by
          rcases hS with h | h
          · obtain ⟨o, e⟩ := Rd.some h
            obtain ⟨o', e'⟩ := only a0 o e
            subst e'
            have e2 := r'.keep a0 _ e (fun z => z)
            refine .fls ?_ (.inr ⟨o', e2⟩)
            have na : a0 ≠ a := fun z => by rw [z, ha] at e2; cases e2
            have nc : a0 ≠ c := fun z => by rw [z, hc] at e2; cases e2
            rintro ((z | z) | z)
            · exact na z
            · exact nc z
            · rcases z with (z | z) | z
              · exact na z
              · exact nc z
              · cases z
          · exact .kfls h
        obtain ⟨t, h, q⟩ := hr a c dx1 rfl rfl
        have s1 : SR K dx1 ((L2.start N [.ref a0]).set 1 (some (.ref a))) H' (put (startD N [.fls ns]) 1 (.adr a)) [] := by
          rw [put_set]
          exact (start_sr (.cons d1 .nil)).set 1 (.adr a)
        show ts _ ((L2.start N [.ref a0]).set 1 (some (.ref a))) H'
        refine h.go _ H' _ [] { nx := fun _ _ => False, rt := fun d _ => d = .bl true } _ r1 s1 (q ns few) ⟨?_, ?_, ?_, ?_⟩
        · intro σ' H' δ' S' r' x' s' p'
          exact p'.elim
        · intro σ' H' δ' S' r' x' s' p'
          exact p'.elim
        · intro σ' H' δ' S' r' x' s' p'
          exact p'.elim
        · rintro v H2 d S' r' x' hd rfl
          cases hd
          exact k' H2
end

section
variable {X : Cx} {dx : Dx} {k : Nat} {f a c : Addr} {fd : FuncData} {ps : List Str} {x : Str} {p pos : Pos} {e : Expr} {es : List Expr} {ta : TA} {fa : DTA} {spec : Addr → DSpec}
/-- f(heap, ..) -/
theorem de_callR (F : FnG X.prog X.w X.K X.mg X.base CX0 k f fd ps (spR X.K spec)) (room : Room k X.A) (guard : X.A.guards = some [])
    (hg : Gl X x) (hm : X.mg x = some (.ref f)) (kp : PySem.W.keepIn X.K (.ref f) = true) (hb : Binds X.K fd ps []) (h1 : dx.hand = handR a c) (h2 : dx.J = RandOk a c) (ha : DA X dx (e :: es) ta fa)
    (hdb : (x == ("__debug__" : Str)) = false := by decide)
    (he : starEach (e :: es) X.env = (false, eval e X.env) :: starEach es X.env := by rfl)
    (hpl : (backTo pos (starEach es X.env)).any (·.1) = false := by rfl) :
    DE X dx (.Call (.Name x p) (e :: es) [] pos) (tCall (spR X.K spec) [] (fun _ _ _ => False) ta) (dCall (spec a) fa) := by
  refine ⟨pe_callG F room guard hg hm kp hb .nil pass0 ha.pe hdb he hpl, fun σ H δ S Q Qh r s t kk => ?_⟩
  refine ha.go σ H δ S _ _ r s t fun vs H1 ds S1 r1 x1 d1 t1 => ?_
  rw [List.append_nil]
  exact ⟨a, c, spd_go r1 d1 (.inr ⟨h1.symm, h2.symm⟩) t1 (kk.on x1)⟩
/-- o[i] = e, of a list of one's own -/
def fSetI (o i d : D) (S : Sto) (k : Sto → Prop) : Prop := match o, i with
  | .adr p, .int j => opt (getS S p) fun ds => opt (ixN ds.length j) fun n => k (setS S p (ds.set n d))
  | _, _ => False
def dSetI (fe fo fi : DTE) : DTS := fun DD δ S => fe δ S fun d S1 => fo δ S1 fun o S2 => fi δ S2 fun i S3 => fSetI o i d S3 fun S4 => DD.nx δ S4
theorem ds_setI {st o i : Expr} {st' : Stmt} {te to ti : TE} {fe fo fi : DTE} (hE : DE X dx e te fe) (hO : DE X dx o to fo) (hI : DE X dx i ti fi) (hp : PS X st' (tAsg te (gSub to ti rSetL))) : DS X dx st' (tAsg te (gSub to ti rSetL)) (dSetI fe fo fi) := by
  refine ⟨hp, fun σ H δ S DD E r s q k => ?_⟩
  refine hE.go σ H δ S _ _ r s q fun v H1 d S1 r1 x1 d1 t1 => ?_
  refine hO.go σ H1 δ S1 _ _ r1 (s.ext x1) t1 fun vo H2 o S2 r2 x2 d2 t2 => ?_
  refine hI.go σ H2 δ S2 _ _ r2 (s.ext (x1.trans x2)) t2 fun vi H3 i S3 r3 x3 d3 t3 => ?_
  unfold fSetI at t3
  split at t3
  · rename_i p j
    obtain ⟨ds, g, t3⟩ := opt_run t3
    obtain ⟨n, en, t3⟩ := opt_run t3
    cases d3
    have d2' := d2.ext x3
    cases d2'
    obtain ⟨m, ws, eh, al⟩ := r3.get g
    have x4 : Ext (Mu dx S3) H3 (Mu dx (setS S3 p (ds.set n d))) (upd H3 p (.lst (ws.set n v))) := ext_set m
    refine ⟨p, ws, j, n, rfl, rfl, eh, by rw [al.length]; exact en, k.nx _ _ _ _ (r3.put m (al.set (d1.ext (x2.trans x3)) n)) (((x1.trans x2).trans x3).trans x4) (s.ext (((x1.trans x2).trans x3).trans x4)) t3⟩
  · exact t3.elim
end
end DL
/-! The rules once more, with what they need of single values made from their own parts. -/
namespace DL
open PySem PySem.Spec L2 Gd

structure CalD (K : PySem.W.Frag) (mg : Str → Option Value) (x : Str) (st : Stmt) (ps : List Str) where
  f : Addr
  fd : FuncData
  m : mg x = some (.ref f)
  F : Fun K x x st f fd
  b : Binds K fd ps []
section
variable {X : Cx} {dx : Dx} {a e o i tg st : Expr} {es : List Expr} {to te ti : TE} {ta : TA} {fo fe fi : DTE} {fa : DTA} {s : Stmt} {pos p : Pos} {x : Str}
theorem de_met' {r : V → List V → Hp → VK → Prop} {f} (m : MetD X.K dx r f) (ho : DE X dx a to fo) (ha : DA X dx es ta fa) (hp : PE X a to → PA X es ta → PE X st (tBM X.K "list" r to ta)) : DE X dx st (tBM X.K "list" r to ta) (dML f fo fa) := de_met m ho ha (hp ho.pe ha.pe)
theorem de_met0' {r : V → List V → Hp → VK → Prop} {f} (m : MetD X.K dx r f) (ho : DE X dx a to fo) (hp : PE X a to → PE X st (tBM0 X.K "list" r to)) : DE X dx st (tBM0 X.K "list" r to) (dML0 f fo) := de_met0 m ho (hp ho.pe)
def isi_tuple (t : String) : Bool := t == "tuple"
def isi_int (t : String) : Bool := t == "int" || t == "bool"
def isi_bool (t : String) : Bool := t == "bool"
def isi_list (t : String) : Bool := t == "list"
def isi_str (t : String) : Bool := t == "str"
theorem de_isi' {T : String} {f : String → Bool} (hf : ∀ t ∈ ["NoneType", "bool", "int", "str", "tuple", "list"], kitB t T = some (f t)) (he : DE X dx e te fe) (hp : PE X e te → PE X st (tIsi X.K T te)) : DE X dx st (tIsi X.K T te) (dIsi f fe) := de_isi hf he (hp he.pe)
theorem de_callB' {id : String} {r : List V → Hp → VK → Prop} {f} (hc : CallR X (.builtin id) r) (o : CallD X.K dx r f) (ha : DA X dx es ta fa) (hp : PA X es ta → PE X st (tCB r ta)) : DE X dx st (tCB r ta) (dCB f fa) := ⟨hp ha.pe, cb_go o ha⟩
theorem de_callTy' {id : String} {r : List V → Hp → VK → Prop} {f} (hc : CallR X (.type id) r) (o : CallD X.K dx r f) (ha : DA X dx es ta fa) (hp : PA X es ta → PE X st (tCB r ta)) : DE X dx st (tCB r ta) (dCB f fa) := ⟨hp ha.pe, cb_go o ha⟩
theorem dgs_cons' {g : TG} {u : TGs} {f : DTG} {w : DTGs} {o1 o2 : List Nat} (h1 : DG X dx e g f o1) (h2 : DGs X dx es u w o2) (hl : PG X e g → PGs X es u → PGs X (e :: es) (gCons g u)) : DGs X dx (e :: es) (gCons g u) (dgCons f w) (o1 ++ o2) := dgs_cons h1 h2 (hl h1.pe h2.pe)
theorem dg_tup' {k : Nat} {g : TGs} {f : DTGs} {n : Nat} {o : List Nat} (h : DGs X dx es g f o) (hp : PGs X es g → PG X (.Tuple es k pos) (gTup X.K n g)) : DG X dx (.Tuple es k pos) (gTup X.K n g) (dgTup n f) o := dg_tup h (hp h.pe)
theorem di_range3' {b c : Expr} (h : PA X [a, b, c] ta → PI X tg (.Call (.Name "range" p) [a, b, c] [] pos) (iRng3 ta)) (ha : DA X dx [a, b, c] ta fa) : DI X dx tg (.Call (.Name "range" p) [a, b, c] [] pos) (iRng3 ta) (dRng3 fa) := di_range3 (h ha.pe) ha
theorem di_zip' (ha : DA X dx es ta fa) (hp : PA X es ta → PI X tg st (iZipM X.K ta)) : DI X dx tg st (iZipM X.K ta) (dZip fa) := di_zip ha (hp ha.pe)
theorem di_rev' (he : DE X dx e te fe) (hp : PE X e te → PI X tg st (RT.iRevA X.K te)) : DI X dx tg st (RT.iRevA X.K te) (dRev fe) := di_rev (p := ⟨0, 0, 0, 0⟩) he (hp he.pe)
theorem ds_par' {i j : Nat} (h : DA X dx es ta fa) (hp : PA X es ta → PS X s (tPar i j ta)) : DS X dx s (tPar i j ta) (dPar [i, j] fa) := ds_par h (hp h.pe)
theorem ds_par3' {i j l : Nat} (h : DA X dx es ta fa) (hp : PA X es ta → PS X s (tPar3 i j l ta)) : DS X dx s (tPar3 i j l ta) (dPar [i, j, l] fa) := ds_par3 h (hp h.pe)
theorem ds_asg' {g : TG} {f : DTG} {o : List Nat} (h : DE X dx e te fe) (hg : DG X dx tg g f o) (hp : PE X e te → PG X tg g → PS X s (tAsg te g)) : DS X dx s (tAsg te g) (dAsg fe f) := ds_asg h hg (hp h.pe hg.pe)
theorem ds_setI' (hE : DE X dx e te fe) (hO : DE X dx o to fo) (hI : DE X dx i ti fi) (hp : PE X e te → PE X o to → PE X i ti → PS X s (tAsg te (gSub to ti rSetL))) : DS X dx s (tAsg te (gSub to ti rSetL)) (dSetI fe fo fi) := ds_setI (st := e) hE hO hI (hp hE.pe hO.pe hI.pe)
theorem ds_aug' {i : Nat} {tp : TIp} {f : F2} (h : DE X dx e te fe) (o : OpD X.K dx tp f) (hp : PE X e te → PS X s (tAug i te tp)) : DS X dx s (tAug i te tp) (dAug i f fe) := ds_aug (hp h.pe) h o
end
end DL
/-! The rules with what is known named outright, so that they can stand in a comprehension, too. -/
namespace DL
open PySem PySem.Spec L2 Gd

section
variable {X : Cx} {dx : Dx} {a b e o i tg st : Expr} {es : List Expr} {kws : List Keyword} {ta' tb' te to ti : TE} {ta tk : TA} {fo fe fi ga gb : DTE} {fa fk : DTA} {s : Stmt} {pos p : Pos} {x : Str}
theorem op_addAll_ (K : PySem.W.Frag) (hK : X.K = K := by rfl) : OpR X (binaryOp .Add) (DL.rAdd K) := by subst hK; exact op_addAll
theorem op_mulAll_ (K : PySem.W.Frag) (hK : X.K = K := by rfl) : OpR X (binaryOp .Mult) (DL.rMul K) := by subst hK; exact op_mulAll
theorem op_eqA_ (K : PySem.W.Frag) (hu : X.A.units + 64 < cLine) (hK : X.K = K := by rfl) : OpR X (compareOp .Eq) (rEqA K) := by subst hK; exact op_eqA hu
theorem op_neA_ (K : PySem.W.Frag) (hu : X.A.units + 64 < cLine) (hK : X.K = K := by rfl) : OpR X (compareOp .NotEq) (rNeA K) := by subst hK; exact op_neA hu
theorem de_ix_ (K : PySem.W.Frag) (ha : DE X dx a ta' ga) (hb : DE X dx b tb' gb) (hs : PlainIx b := by exact fun _ _ => rfl) (hK : X.K = K := by rfl) : DE X dx (.Subscript a b pos) (tOp (rIx K) ta' tb') (dOp fIx ga gb) := by subst hK; exact de_ix ha hb hs
theorem de_slice_ (K : PySem.W.Frag) {lo hi : Option Expr} {tl th : TO} {fl fh : DTO} {p2 : Pos} (he : DE X dx e te fe) (hl : DO X dx lo tl fl) (hu : DO X dx hi th fh) (hK : X.K = K := by rfl) : DE X dx (.Subscript e (.Slice lo hi none p2) pos) (tSl (rSl K) te tl th) (dSl fe fl fh) := by subst hK; exact de_slice he hl hu
theorem de_rev_ (K : PySem.W.Frag) {k' : Nat} {p1 p2 p3 : Pos} (he : DE X dx e te fe) (hK : X.K = K := by rfl) : DE X dx (.Subscript e (.Slice none none (some (.UnaryOp .USub (.Constant (.int 1) k' p1) p2)) p3) pos) (tRevL K te) (dUn fRev fe) := by subst hK; exact de_rev he
theorem dt_tru_ (K : PySem.W.Frag) (h : DE X dx e te fe) (he : ∀ whole, isTrue e X.env whole = (do let v ← whole; standAt e.pos; holding [v] (truthy v)) := by intro _; rfl) (hK : X.K = K := by rfl) : DT X dx e (tTr K te) (dTr fe) := by subst hK; exact dt_tru h he
theorem di_seq_ (K : PySem.W.Frag) (h : DE X dx e te fe) (hK : X.K = K := by rfl) : DI X dx tg e (iSeq K te) (dSeq fe) := by subst hK; exact di_seq h
theorem di_zip_ (K : PySem.W.Frag) (ha : DA X dx es ta fa) (hp : PA X es ta → PI X tg (.Call (.Name x p) es [] pos) (iZipM K ta)) (hK : X.K = K := by rfl) : DI X dx tg (.Call (.Name x p) es [] pos) (iZipM K ta) (dZip fa) := by subst hK; exact di_zip' ha hp
theorem di_rev_ (K : PySem.W.Frag) (he : DE X dx e te fe) (hp : PE X e te → PI X tg (.Call (.Name x p) [e] [] pos) (RT.iRevA K te)) (hK : X.K = K := by rfl) : DI X dx tg (.Call (.Name x p) [e] [] pos) (RT.iRevA K te) (dRev fe) := by subst hK; exact di_rev' he hp
theorem dg_tup_ (K : PySem.W.Frag) {k : Nat} {g : TGs} {f : DTGs} {n : Nat} {ow : List Nat} (h : DGs X dx es g f ow) (hp : PGs X es g → PG X (.Tuple es k pos) (gTup K n g)) (hK : X.K = K := by rfl) : DG X dx (.Tuple es k pos) (gTup K n g) (dgTup n f) ow := by subst hK; exact dg_tup' h hp
theorem de_met_ (K : PySem.W.Frag) {r : V → List V → Hp → VK → Prop} {f} (m : MetD X.K dx r f) (ho : DE X dx a to fo) (ha : DA X dx es ta fa) {nm : Str} {apos : Pos} (hp : PE X a to → PA X es ta → PE X (.Call (.Attribute a nm apos) es [] pos) (tBM K "list" r to ta)) (hK : X.K = K := by rfl) : DE X dx (.Call (.Attribute a nm apos) es [] pos) (tBM K "list" r to ta) (dML f fo fa) := by subst hK; exact de_met' m ho ha hp
theorem de_met0_ (K : PySem.W.Frag) {r : V → List V → Hp → VK → Prop} {f} (m : MetD X.K dx r f) (ho : DE X dx a to fo) {nm : Str} {apos : Pos} (hp : PE X a to → PE X (.Call (.Attribute a nm apos) [] [] pos) (tBM0 K "list" r to)) (hK : X.K = K := by rfl) : DE X dx (.Call (.Attribute a nm apos) [] [] pos) (tBM0 K "list" r to) (dML0 f fo) := by subst hK; exact de_met0' m ho hp
theorem de_isi_ (K : PySem.W.Frag) {T : String} {f : String → Bool} (hf : ∀ t ∈ ["NoneType", "bool", "int", "str", "tuple", "list"], kitB t T = some (f t)) (he : DE X dx e te fe) (hp : PE X e te → PE X (.Call (.Name x p) [e, b] [] pos) (tIsi K T te)) (hK : X.K = K := by rfl) : DE X dx (.Call (.Name x p) [e, b] [] pos) (tIsi K T te) (dIsi f fe) := by subst hK; exact de_isi' hf he hp
def rTuple (K : PySem.W.Frag) : List V → Hp → VK → Prop := fun xs H Q => ∃ p ys, xs = [.ref p] ∧ ((SqL K H p ys ∧ ∀ l, H l = none → Q (.ref l) (upd H l (.tup ys))) ∨ (SqT K H p ys ∧ Q (.ref p) H))
def rList (K : PySem.W.Frag) : List V → Hp → VK → Prop := fun xs H Q => ∃ p ys, xs = [.ref p] ∧ (SqL K H p ys ∨ SqT K H p ys) ∧ ∀ l, H l = none → Q (.ref l) (upd H l (.lst ys))
theorem cr_tuple_ (K : PySem.W.Frag) (hK : X.K = K := by rfl) : CallR X (.type "tuple") (rTuple K) := by subst hK; exact call_tuple_of
theorem cr_list_ (K : PySem.W.Frag) (hK : X.K = K := by rfl) : CallR X (.type "list") (rList K) := by subst hK; exact call_list_of
theorem cd_tuple_ {K : PySem.W.Frag} : CallD K dx (rTuple K) (one fTuple) := cd_tuple
theorem cd_list_ {K : PySem.W.Frag} : CallD K dx (rList K) (one fList) := cd_list
theorem cr_len_ (K : PySem.W.Frag) (hK : X.K = K := by rfl) : CallR X (.builtin "len") (rLen K) := by subst hK; exact cr_len
theorem cr_repr_ (K : PySem.W.Frag) (guard : X.A.guards = some []) (hu : X.A.units + 64 < cLine) (hK : X.K = K := by rfl) : CallR X (.builtin "repr") (rRepr K) := by subst hK; exact cr_repr guard hu
theorem cr_all_ (K : PySem.W.Frag) (hc : X.calm = true) (hK : X.K = K := by rfl) : CallR X (.builtin "all") (rAll K) := by subst hK; exact cr_all hc
theorem cr_any_ (K : PySem.W.Frag) (hc : X.calm = true) (hK : X.K = K := by rfl) : CallR X (.builtin "any") (rAny K) := by subst hK; exact cr_any hc
theorem cr_sum_ (K : PySem.W.Frag) (hc : X.calm = true) (hK : X.K = K := by rfl) : CallR X (.builtin "sum") (rSum K) := by subst hK; exact cr_sum hc
theorem cr_isi_ (K : PySem.W.Frag) (hK : X.K = K := by rfl) : CallR X (.builtin "isinstance") (rIsi K) := by subst hK; exact call_isi
theorem de_callB_ {id : String} {r : List V → Hp → VK → Prop} {f} (hc : CallR X (.builtin id) r) (o : CallD X.K dx r f) (ha : DA X dx es ta fa) (hp : PA X es ta → PE X (.Call (.Name x p) es [] pos) (tCB r ta)) : DE X dx (.Call (.Name x p) es [] pos) (tCB r ta) (dCB f fa) := ⟨hp ha.pe, cb_go o ha⟩
theorem de_callTy_ {id : String} {r : List V → Hp → VK → Prop} {f} (hc : CallR X (.type id) r) (o : CallD X.K dx r f) (ha : DA X dx es ta fa) (hp : PA X es ta → PE X (.Call (.Name x p) es [] pos) (tCB r ta)) : DE X dx (.Call (.Name x p) es [] pos) (tCB r ta) (dCB f fa) := ⟨hp ha.pe, cb_go o ha⟩
theorem ds_par_ {i j : Nat} {tgs : List Expr} {kt k2 : Nat} {pt pt2 : Pos} (h : DA X dx es ta fa) (hp : PA X es ta → PS X (.Assign [.Tuple tgs kt pt] (.Tuple es k2 pt2) pos) (tPar i j ta)) : DS X dx (.Assign [.Tuple tgs kt pt] (.Tuple es k2 pt2) pos) (tPar i j ta) (dPar [i, j] fa) := ds_par h (hp h.pe)
theorem ds_par3_ {i j l : Nat} {tgs : List Expr} {kt k2 : Nat} {pt pt2 : Pos} (h : DA X dx es ta fa) (hp : PA X es ta → PS X (.Assign [.Tuple tgs kt pt] (.Tuple es k2 pt2) pos) (tPar3 i j l ta)) : DS X dx (.Assign [.Tuple tgs kt pt] (.Tuple es k2 pt2) pos) (tPar3 i j l ta) (dPar [i, j, l] fa) := ds_par3 h (hp h.pe)
theorem ds_asg_ {g : TG} {f : DTG} {ow : List Nat} (h : DE X dx e te fe) (hg : DG X dx tg g f ow) (hp : PE X e te → PG X tg g → PS X (.Assign [tg] e pos) (tAsg te g)) : DS X dx (.Assign [tg] e pos) (tAsg te g) (dAsg fe f) := ds_asg h hg (hp h.pe hg.pe)
theorem ds_setI_ {p2 : Pos} (hE : DE X dx e te fe) (hO : DE X dx o to fo) (hI : DE X dx i ti fi) (hp : PE X e te → PE X o to → PE X i ti → PS X (.Assign [.Subscript o i p2] e pos) (tAsg te (gSub to ti rSetL))) : DS X dx (.Assign [.Subscript o i p2] e pos) (tAsg te (gSub to ti rSetL)) (dSetI fe fo fi) := ds_setI (st := e) hE hO hI (hp hE.pe hO.pe hI.pe)
theorem ds_aug_ {i : Nat} {tp : TIp} {f : F2} {op : Operator} (h : DE X dx e te fe) (o : OpD X.K dx tp f) (hp : PE X e te → PS X (.AugAssign tg op e pos) (tAug i te tp)) : DS X dx (.AugAssign tg op e pos) (tAug i te tp) (dAug i f fe) := ds_aug (hp h.pe) h o
variable {k : Nat} {f c d : Addr} {fd : FuncData} {ps ks : List Str} {spec : DSpec} {specR : Addr → DSpec} {g : List Value → List Value → List Value} {gV : List V → List V → List V} {gD : List D → List D → List D}
theorem de_call_ (K : PySem.W.Frag) (F : FnG X.prog X.w K X.mg X.base CX0 k f fd ps (spP K spec)) (room : Room k X.A) (guard : X.A.guards = some [])
    (hg : Gl X x) (hm : X.mg x = some (.ref f)) (kp : PySem.W.keepIn K (.ref f) = true) (hb : Binds K fd ps []) (ha : DA X dx (e :: es) ta fa)
    (hdb : (x == ("__debug__" : Str)) = false := by decide)
    (he : starEach (e :: es) X.env = (false, eval e X.env) :: starEach es X.env := by rfl)
    (hpl : (backTo pos (starEach es X.env)).any (·.1) = false := by rfl) (hK : X.K = K := by rfl) :
    DE X dx (.Call (.Name x p) (e :: es) [] pos) (tCall (spP K spec) [] (fun _ _ _ => False) ta) (dCall spec fa) := by subst hK; exact de_call F room guard hg hm kp hb (.inl ⟨rfl, rfl⟩) ha hdb he hpl
theorem de_callR_ (K : PySem.W.Frag) (F : FnG X.prog X.w K X.mg X.base CX0 k f fd ps (spR K specR)) (room : Room k X.A) (guard : X.A.guards = some [])
    (hg : Gl X x) (hm : X.mg x = some (.ref f)) (kp : PySem.W.keepIn K (.ref f) = true) (hb : Binds K fd ps []) (h1 : dx.hand = handR c d) (h2 : dx.J = RandOk c d) (ha : DA X dx (e :: es) ta fa)
    (hdb : (x == ("__debug__" : Str)) = false := by decide)
    (he : starEach (e :: es) X.env = (false, eval e X.env) :: starEach es X.env := by rfl)
    (hpl : (backTo pos (starEach es X.env)).any (·.1) = false := by rfl) (hK : X.K = K := by rfl) :
    DE X dx (.Call (.Name x p) (e :: es) [] pos) (tCall (spR K specR) [] (fun _ _ _ => False) ta) (dCall (specR c) fa) := by subst hK; exact de_callR F room guard hg hm kp hb h1 h2 ha hdb he hpl
theorem de_callK_ (K : PySem.W.Frag) (F : FnG X.prog X.w K X.mg X.base CX0 k f fd ps (spP K spec)) (room : Room k X.A) (guard : X.A.guards = some [])
    (hg : Gl X x) (hm : X.mg x = some (.ref f)) (kp : PySem.W.keepIn K (.ref f) = true) (hb : KBinds K fd ps ks g gV) (ho : KOrd gV gD) (ha : DA X dx (e :: es) ta fa) (hk : DK X dx kws tk fk)
    (hall : (backToKw pos (keywordEach kws X.env)).all (·.1.isSome) = true := by rfl)
    (hks : (backToKw pos (keywordEach kws X.env)).filterMap (·.1) = ks := by rfl)
    (hdb : (x == ("__debug__" : Str)) = false := by decide)
    (he : starEach (e :: es) X.env = (false, eval e X.env) :: starEach es X.env := by rfl)
    (hpl : ((backTo pos (starEach (e :: es) X.env)).any (·.1) || (backToKw pos (keywordEach kws X.env)).any (·.1.isNone)) = false := by rfl) (hK : X.K = K := by rfl) :
    DE X dx (.Call (.Name x p) (e :: es) kws pos) (tCallK (spP K spec) gV (fun _ _ _ => False) ta tk) (dCallK spec gD fa fk) := by subst hK; exact de_callK F room guard hg hm kp hb ho (.inl ⟨rfl, rfl⟩) ha hk hall hks hdb he hpl
theorem de_callK0_ (K : PySem.W.Frag) (F : FnG X.prog X.w K X.mg X.base CX0 k f fd ps (spP K spec)) (room : Room k X.A) (guard : X.A.guards = some [])
    (hg : Gl X x) (hm : X.mg x = some (.ref f)) (kp : PySem.W.keepIn K (.ref f) = true) (hb : KBinds K fd ps ks g gV) (ho : KOrd gV gD) (hk : DK X dx kws tk fk)
    (hall : (backToKw pos (keywordEach kws X.env)).all (·.1.isSome) = true := by rfl)
    (hks : (backToKw pos (keywordEach kws X.env)).filterMap (·.1) = ks := by rfl)
    (hdb : (x == ("__debug__" : Str)) = false := by decide)
    (hpl : ((backTo pos (starEach [] X.env)).any (·.1) || (backToKw pos (keywordEach kws X.env)).any (·.1.isNone)) = false := by rfl) (hK : X.K = K := by rfl) :
    DE X dx (.Call (.Name x p) [] kws pos) (tCallK (spP K spec) gV (fun _ _ _ => False) tNil tk) (dCallK spec gD dNil fk) := by subst hK; exact de_callK0 F room guard hg hm kp hb ho (.inl ⟨rfl, rfl⟩) hk hall hks hdb hpl
end
end DL
/-! Numbers as data; the helpers that draw. -/
namespace DL
open PySem PySem.Spec L2 Gd

/-! ### numbers as data -/
def nD (cs : List Nat) : List D := cs.map fun c : Nat => D.int (c : Int)
def asSeq : D → Option (List D)
  | .tup ds => some ds
  | .lst ds => some ds
  | _ => none
theorem items_of {Q : List D → Sto → Prop} {q : D} {xs : List D} {S : Sto} (h : asSeq q = some xs) : items Q q S = Q xs S := by
  cases q with
  | tup ds => cases h; rfl
  | lst ds => cases h; rfl
  | _ => cases h
theorem fLen_of {Q : D → Sto → Prop} {q : D} {xs : List D} {S : Sto} (h : asSeq q = some xs) : fLen q S Q = Q (.int xs.length) S := by
  cases q with
  | tup ds => cases h; rfl
  | lst ds => cases h; rfl
  | _ => cases h
theorem nD_len (cs : List Nat) : (nD cs).length = cs.length := List.length_map _
theorem nD_get {cs : List Nat} {i : Nat} {c : Nat} (h : cs[i]? = some c) : (nD cs)[i]? = some (.int (c : Int)) := by
  unfold nD
  rw [List.getElem?_map, h]
  rfl
def prodN : List Nat → Nat
  | [] => 1
  | c :: cs => c * prodN cs
theorem prodN_append (a b : List Nat) : prodN (a ++ b) = prodN a * prodN b := by
  induction a with
  | nil => simp [prodN]
  | cons c a ih => simp only [List.cons_append, prodN, ih, Nat.mul_assoc]
theorem prodN_reverse (a : List Nat) : prodN a.reverse = prodN a := by
  induction a with
  | nil => rfl
  | cons c a ih => simp only [List.reverse_cons, prodN_append, prodN, ih, Nat.mul_one, Nat.mul_comm]
/-- none is 0 or great -/
def Pos1 (cs : List Nat) : Prop := ∀ c ∈ cs, 1 ≤ c ∧ c < 2 ^ 60
theorem prodN_pos {cs : List Nat} (h : Pos1 cs) : 1 ≤ prodN cs := by
  induction cs with
  | nil => exact Nat.le_refl _
  | cons c cs ih =>
    have h1 := (h c List.mem_cons_self).1
    have h2 := ih fun x m => h x (List.mem_cons_of_mem _ m)
    exact Nat.mul_le_mul h1 h2
theorem rngD_nD (n : Nat) : rngD 0 1 n = nD (List.range n) := by
  unfold rngD nD
  apply List.map_congr_left
  intro i _
  simp
theorem Rg.nat {n : Nat} (h : n < 2 ^ 62) : Rg (n : Int) := by
  unfold Rg
  omega
theorem getS_self {p : Addr} {xs : List D} {S : Sto} : getS ((p, xs) :: S) p = some xs := by
  unfold getS
  rw [List.find?_cons_of_pos (by simp)]
  rfl
theorem getS_other {p q : Addr} {xs : List D} {S : Sto} (h : p ≠ q) : getS ((p, xs) :: S) q = getS S q := by
  unfold getS
  rw [List.find?_cons_of_neg (by simpa using h)]
theorem setS_one {p : Addr} {xs ys : List D} : setS [(p, xs)] p ys = [(p, ys)] := by
  unfold setS
  simp
theorem delS_one {p : Addr} {xs : List D} : delS [(p, xs)] p = [] := by
  unfold delS
  simp
theorem opt_of {α : Type} {o : Option α} {x : α} {Q : α → Prop} (e : o = some x) (h : Q x) : opt o Q := by
  rw [e]
  exact h
theorem log60 {c : Nat} (h : c < 2 ^ 60) : ((c : Nat) : Int).natAbs.log2 < 9000 := by
  rw [Int.natAbs_natCast]
  by_cases z : c = 0
  · rw [z]; decide
  · have := (Nat.log2_lt z).mpr h
    omega
theorem fIx_of {Q : D → Sto → Prop} {q : D} {xs : List D} {S : Sto} {i : Nat} (h : asSeq q = some xs) (hi : i < xs.length) (t : Q (xs.getD i .non) S) : fIx q (.int (i : Int)) S Q := by
  have e : atI xs (i : Int) = some (xs.getD i .non) := by
    refine atI_nat ?_
    rw [List.getD_eq_getElem?_getD, List.getElem?_eq_getElem hi]
    rfl
  cases q with
  | tup ds => cases h; exact opt_of e t
  | lst ds => cases h; exact opt_of e t
  | _ => cases h

/-! ### _law_pick -/
def spPick (a : Addr) : DSpec := fun ds post => ∃ xs, ds = [.adr a, .lst xs] ∧ xs ≠ [] ∧ xs.length ≤ 1000 ∧ ∀ x ∈ xs, post x
def rPick (a : Addr) : DTS := (dRet (dOp fIx (dVar 1) (dCall (spDraw a) (dCons (dVar 0) (dCons (dCB (one fLen) (dCons (dVar 1) dNil)) dNil)))))
theorem frz_nil (d : D) : frz [] d = d := by cases d <;> rfl
theorem lnPick : ∀ a ds post, spPick a ds post → ds.length = 2 := by
  rintro a ds post ⟨xs, rfl, _⟩
  rfl
theorem vcPick (a : Addr) : ∀ ds post, spPick a ds post → rPick a { nx := fun _ _ => post .non, rt := fun d _ => post d } (ds.map some ++ List.replicate (2 - ds.length) none) [] := by
  rintro ds post ⟨xs, rfl, hn, hl, h⟩
  have h1 : 1 ≤ xs.length := List.length_pos_iff.mpr hn
  refine ⟨(xs.length : Int), rfl, by omega, by omega, fun r r0 r1 => ?_⟩
  obtain ⟨n, rfl⟩ := Int.eq_ofNat_of_zero_le r0
  have hi : n < xs.length := by omega
  refine fIx_of rfl hi ?_
  have m : xs.getD n .non ∈ xs := by
    rw [List.getD_eq_getElem?_getD, List.getElem?_eq_getElem hi]
    exact List.getElem_mem hi
  have e := h _ m
  show post (frz [] (xs.getD n .non))
  rw [frz_nil]
  exact e

/-! ### _law_draw -/
def rDraw (k1 k2 : Int) : DTS := (dSeqS (dWhile (dAnd (dTest (dOp fNe (dOp fIx (dVar 0) (dC (.int 0))) (dLst dNil))) (dTest (dOp fEq (dOp fIx (dOp fIx (dVar 0) (dC (.int 0))) (dUn fNeg (dC (.int 1)))) (dC (.int 0))))) (dDrop (dML0 fPop (dOp fIx (dVar 0) (dC (.int 0)))))) (dSeqS (dIfS (dTest (dOp fNe (dOp fIx (dVar 0) (dC (.int 0))) (dLst dNil))) (dSeqS (dSet 2 (dML0 fPop (dOp fIx (dVar 0) (dC (.int 0))))) (dSeqS (dDrop (dML fAppend (dOp fIx (dVar 0) (dC (.int 0))) (dCons (dOp fDiv (dVar 2) (dVar 1)) dNil))) (dRet (dOp fMod (dCB (one fInt) (dCons (dVar 2) dNil)) (dVar 1))))) dNext) (dSeqS (dSetI (dOp fMod (dCB (one fInt) (dCons (dOp fAdd (dOp fMul (dOp fIx (dVar 0) (dC (.int 1))) (dC (.int k1))) (dC (.int k2))) dNil)) (dC (.int 2147483647))) (dVar 0) (dC (.int 1))) (dRet (dOp fMod (dCB (one fInt) (dCons (dOp fDiv (dOp fIx (dVar 0) (dC (.int 1))) (dC (.int 32))) dNil)) (dVar 1))))))
def St (a c : Addr) (z : Int) (cs : List Int) : Sto := [(a, [.adr c, .int z]), (c, cs.map D.int)]
section
variable {a c : Addr} {z : Int} {cs : List Int}
theorem St_a : getS (St a c z cs) a = some [.adr c, .int z] := getS_self
theorem St_c (h : a ≠ c) : getS (St a c z cs) c = some (cs.map D.int) := (getS_other h).trans getS_self
theorem St_setC (h : a ≠ c) (ds : List Int) : setS (St a c z cs) c (ds.map D.int) = St a c z ds := by
  unfold setS St
  simp [h]
theorem St_setA (h : a ≠ c) (y : Int) : setS (St a c z cs) a [.adr c, .int y] = St a c y cs := by
  unfold setS St
  simp [h, Ne.symm h]
theorem fIx_list {Q : D → Sto → Prop} (h : Q (.adr c) (St a c z cs)) : fIx (.adr a) (.int 0) (St a c z cs) Q := opt_of St_a (opt_of (x := D.adr c) rfl h)
theorem fIx_num {Q : D → Sto → Prop} (h : Q (.int z) (St a c z cs)) : fIx (.adr a) (.int 1) (St a c z cs) Q := opt_of St_a (opt_of (x := D.int z) rfl h)
theorem ne_nil {Q : D → Sto → Prop} (h : a ≠ c) (q : Q (.bl (!cs.isEmpty)) (St a c z cs)) : fNe (.adr c) (.lst []) (St a c z cs) Q := by
  have e : frz (St a c z cs) (.adr c) = .lst (cs.map D.int) := by
    show frzO c (getS (St a c z cs) c) = _
    rw [St_c h]
    rfl
  have hd : dn 40 (.lst (cs.map D.int)) = true := by
    show (cs.map D.int).all (dn 39) = true
    rw [List.all_eq_true]
    intro x m
    obtain ⟨i, _, rfl⟩ := List.mem_map.mp m
    rfl
  refine ⟨by rw [e]; exact hd, rfl, ?_⟩
  rw [e]
  have e2 : deq (.lst (cs.map D.int)) (frz (St a c z cs) (.lst [])) = cs.isEmpty := by
    show deq (.lst (cs.map D.int)) (.lst []) = cs.isEmpty
    cases cs with
    | nil => simp [deq, py, pyAll, PyData.eqv, PyData.eqvAll]
    | cons i cs => simp [deq, py, pyAll, PyData.eqv, PyData.eqvAll]
  rw [e2]
  exact q
theorem getLast_map {cs : List Int} {x : Int} : ((cs ++ [x]).map D.int)[((cs ++ [x]).map D.int).length - 1]? = some (.int x) := by
  rw [List.map_append, List.length_append]
  simp
theorem pop_map {cs : List Int} {x : Int} : ((cs ++ [x]).map D.int).dropLast = cs.map D.int := by
  rw [List.map_append]
  simp
theorem ROk.pop {x : Int} (h : ROk (cs ++ [x]) z) : ROk cs z ∧ 0 ≤ x ∧ cs.length ≤ 62 := by
  refine ⟨⟨fun y m => h.1 y (List.mem_append_left _ m), ?_, h.2.2⟩, h.1 x (by simp), ?_⟩
  · have := h.2.1
    rw [List.length_append, List.length_singleton] at this
    omega
  · have := h.2.1
    rw [List.length_append, List.length_singleton] at this
    omega
theorem vcDraw (k1 k2 : Int) (hk1 : -(2 ^ 64) < k1 ∧ k1 < 2 ^ 64) : ∀ (a c : Addr) (cs : List Int) (z m : Int), a ≠ c → ROk cs z → 1 ≤ m → m < 2 ^ 62 → rDraw k1 k2 { nx := fun _ _ => False, rt := drawEnd a c m } [some (.adr a), some (.int m), none] [(a, [.adr c, .int z]), (c, cs.map D.int)] := by
  intro a c cs z m ne ok m1 m2
  show rDraw k1 k2 _ _ (St a c z cs)
  have mlog : m.natAbs.log2 < 9000 := by
    have h : m.natAbs < 2 ^ 62 := by omega
    have := (Nat.log2_lt (by omega)).mpr h
    omega
  -- the while
  refine ⟨fun n δ S => δ = [some (.adr a), some (.int m), none] ∧ ∃ cs, S = St a c z cs ∧ ROk cs z ∧ cs.length = n, ⟨cs.length, rfl, cs, rfl, ok, rfl⟩, ?_⟩
  rintro n δ S ⟨rfl, cs, rfl, ok, rfl⟩
  have behind : ∀ cs, ROk cs z → (dSeqS (dIfS (dTest (dOp fNe (dOp fIx (dVar 0) (dC (.int 0))) (dLst dNil))) (dSeqS (dSet 2 (dML0 fPop (dOp fIx (dVar 0) (dC (.int 0))))) (dSeqS (dDrop (dML fAppend (dOp fIx (dVar 0) (dC (.int 0))) (dCons (dOp fDiv (dVar 2) (dVar 1)) dNil))) (dRet (dOp fMod (dCB (one fInt) (dCons (dVar 2) dNil)) (dVar 1))))) dNext) (dSeqS (dSetI (dOp fMod (dCB (one fInt) (dCons (dOp fAdd (dOp fMul (dOp fIx (dVar 0) (dC (.int 1))) (dC (.int k1))) (dC (.int k2))) dNil)) (dC (.int 2147483647))) (dVar 0) (dC (.int 1))) (dRet (dOp fMod (dCB (one fInt) (dCons (dOp fDiv (dOp fIx (dVar 0) (dC (.int 1))) (dC (.int 32))) dNil)) (dVar 1)))))
      { nx := fun _ _ => False, rt := drawEnd a c m } [some (.adr a), some (.int m), none] (St a c z cs) := by
    intro cs ok
    refine opt_of St_a (opt_of (x := D.adr c) rfl ?_)
    refine ⟨by show 0 ≤ 16777216; decide, ne_nil ne ?_⟩
    rcases List.eq_nil_or_concat cs with rfl | ⟨cs, x, rfl⟩
    · -- no great numbers left
      refine opt_of St_a (opt_of (x := D.int _) rfl ?_)
      refine ⟨MOk.right hk1, ?_⟩
      refine ⟨by show (0 : Int) < 2147483647; decide, opt_of St_a (opt_of (x := 1) rfl ?_)⟩
      show dRet (dOp fMod (dCB (one fInt) (dCons (dOp fDiv (dOp fIx (dVar 0) (dC (.int 1))) (dC (.int 32))) dNil)) (dVar 1)) { nx := fun _ _ => False, rt := drawEnd a c m } [some (.adr a), some (.int m), none] (setS (St a c z []) a [D.adr c, D.int ((z * k1 + k2) % 2147483647)])
      rw [St_setA ne]
      refine opt_of St_a (opt_of (x := D.int _) rfl ?_)
      refine ⟨⟨by decide, by decide⟩, ⟨by omega, ?_⟩⟩
      have b0 : 0 ≤ (z * k1 + k2) % 2147483647 := Int.emod_nonneg _ (by decide)
      have b1 : (z * k1 + k2) % 2147483647 < 2147483647 := Int.emod_lt_of_pos _ (by decide)
      exact ⟨_, [], _, rfl, Int.emod_nonneg _ (by omega), Int.emod_lt_of_pos _ (by omega), St_a, St_c ne, fun x m => (nomatch m), by decide, b0, by omega⟩
    · rw [List.concat_eq_append] at ok ⊢
      obtain ⟨ok2, x0, l62⟩ := ok.pop
      have e : (!(cs ++ [x]).isEmpty) = true := by cases cs <;> rfl
      rw [e]
      refine opt_of St_a (opt_of (x := D.adr c) rfl ?_)
      refine ⟨?_, opt_of (St_c ne) (opt_of getLast_map ?_)⟩
      · show (getS _ c).isSome = true
        rw [St_c ne]
        rfl
      · rw [pop_map, St_setC ne]
        refine opt_of St_a (opt_of (x := D.adr c) rfl ?_)
        refine ⟨?_, ⟨by omega, mlog⟩, ?_⟩
        · show (getS _ c).isSome = true
          rw [St_c ne]
          rfl
        · refine opt_of (St_c ne) ⟨by unfold Fit; rw [List.length_map]; omega, ?_⟩
          have e3 : cs.map D.int ++ [D.int (x / m)] = (cs ++ [x / m]).map D.int := by rw [List.map_append]; rfl
          rw [e3, St_setC ne]
          refine ⟨by omega, ?_⟩
          refine ⟨_, cs ++ [x / m], z, rfl, Int.emod_nonneg _ (by omega), Int.emod_lt_of_pos _ (by omega), St_a, St_c ne, ?_, ?_, ok2.2.2⟩
          · intro y my
            rcases List.mem_append.mp my with my | my
            · exact ok2.1 y my
            · rw [List.mem_singleton.mp my]
              exact Int.ediv_nonneg x0 (by omega)
          · rw [List.length_append, List.length_singleton]
            omega
  refine opt_of St_a (opt_of (x := D.adr c) rfl ?_)
  refine ⟨by show 0 ≤ 16777216; decide, ne_nil ne ?_⟩
  rcases List.eq_nil_or_concat cs with rfl | ⟨cs, x, rfl⟩
  · exact behind [] ok
  · rw [List.concat_eq_append] at ok ⊢
    obtain ⟨ok2, x0, l62⟩ := ok.pop
    have e : (!(cs ++ [x]).isEmpty) = true := by cases cs <;> rfl
    rw [e]
    refine opt_of St_a (opt_of (x := D.adr c) rfl ?_)
    refine (opt_of (St_c ne) (opt_of (x := D.int x) ?_ ?_))
    · rw [List.map_append]
      exact atI_last _ _
    show (if decide (x = 0) = true then _ else _)
    by_cases hx : x = 0
    · rw [if_pos (decide_eq_true hx)]
      refine opt_of St_a (opt_of (x := D.adr c) rfl ?_)
      refine ⟨?_, opt_of (St_c ne) (opt_of getLast_map ?_)⟩
      · show (getS _ c).isSome = true
        rw [St_c ne]
        rfl
      · rw [pop_map, St_setC ne]
        exact ⟨cs.length, by rw [List.length_append, List.length_singleton]; omega, rfl, cs, rfl, ok2, rfl⟩
    · rw [if_neg (by simpa using hx)]
      exact behind _ ok
end

/-! ### _law_heap -/
def cellF (x : Int) : Int := 2 * x.natAbs + (if decide (x < 0) = true then 1 else 0)
def rHeapA (k0 : Int) : DTS := (dSeqS (dPar [2, 3] (dCons (dLc (dSeq (dSl (dVar 0) dNoPart (dPart (dC (.int 60))))) (dgName 1) dYes (dOp fAdd (dOp fMul (dC (.int 2)) (dCB (one fAbs) (dCons (dVar 1) dNil))) (dCB (one fInt) (dCons (dOp fLt (dVar 1) (dC (.int 0))) dNil))) [1]) (dCons (dC (.int k0)) dNil))) (dSeqS (dFor (dSeq (dVar 2)) (dgName 1) (dSet 3 (dOp fMod (dCB (one fInt) (dCons (dOp fAdd (dOp fAdd (dOp fMul (dVar 3) (dC (.int 69621))) (dOp fMod (dCB (one fInt) (dCons (dVar 1) dNil)) (dC (.int 2147483563)))) (dC (.int 29))) dNil)) (dC (.int 2147483647))))) (dRet (dLst (dCons (dUn fRev (dLc (dSeq (dVar 2)) (dgName 1) (dTest (dOp fGe (dVar 1) (dOp fPow (dC (.int 10)) (dC (.int 18))))) (dVar 1) [1])) (dCons (dVar 3) dNil))))))
theorem go_cells {q : Option D} {x1 x2 x3 : Option D} {Q : D → Sto → Prop} : ∀ (ns : List Int) (acc : List D), acc.length + ns.length ≤ 1000 → Q (.lst (acc ++ (ns.map cellF).map D.int)) [] →
    lcGo (dgName 1) dYes (dOp fAdd (dOp fMul (dC (.int 2)) (dCB (one fAbs) (dCons (dVar 1) dNil))) (dCB (one fInt) (dCons (dOp fLt (dVar 1) (dC (.int 0))) dNil))) [1] [q, x1, x2, x3] Q (ns.map D.int) acc []
  | [], acc, _, h => by simpa [lcGo] using h
  | n :: ns, acc, hl, h => by
    rw [List.length_cons] at hl
    refine ⟨MOk.left (by decide), by unfold Fit; omega, ?_⟩
    refine go_cells ns _ (by rw [List.length_append, List.length_singleton]; omega) ?_
    rw [List.append_assoc]
    exact h
theorem cellF_nn (x : Int) : 0 ≤ cellF x := by
  unfold cellF
  split <;> omega
theorem lp_stir {DD : DEnds} {q x2 : Option D} : ∀ (ns : List Int) (z : Int) (x1 : Option D), 0 ≤ z ∧ z < 2 ^ 40 → (∀ (z : Int) x1, 0 ≤ z ∧ z < 2 ^ 40 → DD.nx [q, x1, x2, some (.int z)] []) →
    forGo (dgName 1) (dSet 3 (dOp fMod (dCB (one fInt) (dCons (dOp fAdd (dOp fAdd (dOp fMul (dVar 3) (dC (.int 69621))) (dOp fMod (dCB (one fInt) (dCons (dVar 1) dNil)) (dC (.int 2147483563)))) (dC (.int 29))) dNil)) (dC (.int 2147483647)))) DD (ns.map D.int) [q, x1, x2, some (.int z)] []
  | [], z, x1, hz, h => h z x1 hz
  | n :: ns, z, x1, hz, h => by
    refine ⟨MOk.right (by decide), (by show (0 : Int) < 2147483563; decide), (by show (0 : Int) < 2147483647; decide), ?_⟩
    refine lp_stir ns _ _ ⟨Int.emod_nonneg _ (by decide), ?_⟩ h
    exact Int.lt_trans (Int.emod_lt_of_pos _ (by decide)) (by decide)
theorem go_great {q : Option D} {x1 x2 x3 : Option D} {Q : D → Sto → Prop} : ∀ (ns : List Int) (acc : List Int), acc.length + ns.length ≤ 63 → (∀ x ∈ ns, 0 ≤ x) → (∀ x ∈ acc, 0 ≤ x) → (∀ cs : List Int, cs.length ≤ 63 → (∀ x ∈ cs, 0 ≤ x) → Q (.lst (cs.map D.int)) []) →
    lcGo (dgName 1) (dTest (dOp fGe (dVar 1) (dOp fPow (dC (.int 10)) (dC (.int 18))))) (dVar 1) [1] [q, x1, x2, x3] Q (ns.map D.int) (acc.map D.int) []
  | [], acc, hl, _, ha, h => h acc (by simpa using hl) ha
  | n :: ns, acc, hl, hn, ha, h => by
    rw [List.length_cons] at hl
    refine ⟨⟨by decide, by decide, by decide⟩, ?_⟩
    have hn' : ∀ x ∈ ns, 0 ≤ x := fun y m => hn y (List.mem_cons_of_mem _ m)
    show (if decide (10 ^ (18 : Int).toNat ≤ n) = true then _ else _)
    split
    · refine ⟨by unfold Fit; rw [List.length_map]; omega, ?_⟩
      have e : acc.map D.int ++ [D.int n] = (acc ++ [n]).map D.int := by rw [List.map_append]; rfl
      rw [e]
      refine go_great ns (acc ++ [n]) (by rw [List.length_append, List.length_singleton]; omega) hn' ?_ h
      intro x m
      rcases List.mem_append.mp m with m | m
      · exact ha x m
      · rw [List.mem_singleton.mp m]
        exact hn n List.mem_cons_self
    · exact go_great ns acc (by omega) hn' ha h
theorem lnHeap : ∀ ds post, spHeap ds post → ds.length = 1 := by
  rintro ds post ⟨ns, rfl, _⟩
  rfl
theorem cutD_len {α : Type} (xs : List α) (lo hi : Option Int) : (cutD xs lo hi).length ≤ xs.length := by
  unfold cutD
  rw [List.length_take, List.length_drop]
  omega
theorem vcHeapA (k0 : Int) (hk : 0 ≤ k0 ∧ k0 < 2 ^ 40) : ∀ ds post, spHeap ds post → rHeapA k0 { nx := fun _ _ => post .non, rt := fun d _ => post d } (ds.map some ++ List.replicate (4 - ds.length) none) [] := by
  rintro ds post ⟨ns, rfl, hl, h⟩
  have hc := cutD_len ns none (some 60)
  refine go_cells (cutD ns none (some 60)) [] (by rw [List.length_nil]; omega) ⟨rfl, ?_⟩
  rw [List.nil_append]
  refine lp_stir _ _ _ hk fun z x1 hz => ?_
  refine go_great _ [] (by simp only [List.length_nil, List.length_map]; omega) ?_ (fun x m => (nomatch m)) fun cs l nn => ?_
  · intro x m
    obtain ⟨y, _, rfl⟩ := List.mem_map.mp m
    exact cellF_nn y
  · refine ⟨by show 2 ≤ 16777216; decide, ?_⟩
    have := h cs.reverse z ⟨fun x m => nn x (List.mem_reverse.mp m), by rw [List.length_reverse]; exact l, hz.1, hz.2⟩
    rw [List.map_reverse] at this
    exact this
end DL
namespace DL
open PySem PySem.Spec L2 Gd
namespace K2
abbrev prog : Program := PySem.Challenge.pw_allworlds_k02_whole_fillings
def top (i : Nat) : Stmt := prog.main.body.getD i (.Pass ⟨0, 0, 0, 0⟩)
abbrev s_fill_count : Stmt := top 1
abbrev s_fillings_of : Stmt := top 2
abbrev s_filling_number : Stmt := top 3
abbrev s_filling_at : Stmt := top 4
abbrev s_at_places : Stmt := top 5
abbrev s__law_heap : Stmt := top 7
abbrev s__law_draw : Stmt := top 8
abbrev s__law_pick : Stmt := top 9
abbrev s__law_next : Stmt := top 10
abbrev s__law_right : Stmt := top 11
abbrev s_law : Stmt := top 12
structure Txt (K : PySem.W.Frag) (mg : Str → Option Value) where
  fill_count : CalD K mg "fill_count" s_fill_count ["counts"]
  fillings_of : CalD K mg "fillings_of" s_fillings_of ["counts"]
  filling_number : CalD K mg "filling_number" s_filling_number ["counts", "filling"]
  filling_at : CalD K mg "filling_at" s_filling_at ["counts", "number"]
  at_places : CalD K mg "at_places" s_at_places ["filling", "places"]
  _law_heap : CalD K mg "_law_heap" s__law_heap ["_law_script"]
  _law_draw : CalD K mg "_law_draw" s__law_draw ["_law_heap_here", "_law_many"]
  _law_pick : CalD K mg "_law_pick" s__law_pick ["_law_heap_here", "_law_some"]
  _law_next : CalD K mg "_law_next" s__law_next ["_law_counts", "_law_filling"]
  _law_right : CalD K mg "_law_right" s__law_right ["_law_heap_here", "_law_counts"]
  law : CalD K mg "law" s_law ["_law_script"]
  b_abs : mg "abs" = none
  b_all : mg "all" = none
  b_int : mg "int" = none
  b_isinstance : mg "isinstance" = none
  b_len : mg "len" = none
  b_range : mg "range" = none
  b_repr : mg "repr" = none
  b_reversed : mg "reversed" = none
  b_tuple : mg "tuple" = none
  b_zip : mg "zip" = none
def kb_fill_count_0_counts_g {α : Type} (us ws : List α) : List α := match us, ws with
  | [], [w0] => [w0]
  | _, _ => []
theorem kb_fill_count_0_counts {K : PySem.W.Frag} {f : Addr} {fd : FuncData} (F : Fun K "fill_count" "fill_count" s_fill_count f fd) : KBinds K fd ["counts"] ["counts"] kb_fill_count_0_counts_g kb_fill_count_0_counts_g := by
  obtain ⟨oc, od, kV, doc, pm, an, cdv, ct, osl, rfl, lk, hcd⟩ := F.ex
  constructor
  · intro s us ws _ hl
    unfold kb_fill_count_0_counts_g at hl ⊢
    split at hl
    · exact .of_eq rfl
    · cases hl
  · intro vs us zs ws r1 r2
    cases r1 with
    | cons _ _ => exact .nil
    | nil =>
      cases r2 with
      | nil => exact .nil
      | cons cw0 r2 =>
        cases r2 with
        | cons _ _ => exact .nil
        | nil =>
          exact (.cons cw0 .nil)
theorem kb_fill_count_0_counts_ord : KOrd kb_fill_count_0_counts_g kb_fill_count_0_counts_g := by
  constructor
  · intro K M H vs ws ds es r1 r2
    cases r1 with
    | cons _ _ => exact .nil
    | nil =>
      cases r2 with
      | nil => exact .nil
      | cons cw0 r2 =>
        cases r2 with
        | cons _ _ => exact .nil
        | nil =>
          exact (.cons cw0 .nil)
def kb_fillings_of_0_counts_g {α : Type} (us ws : List α) : List α := match us, ws with
  | [], [w0] => [w0]
  | _, _ => []
theorem kb_fillings_of_0_counts {K : PySem.W.Frag} {f : Addr} {fd : FuncData} (F : Fun K "fillings_of" "fillings_of" s_fillings_of f fd) : KBinds K fd ["counts"] ["counts"] kb_fillings_of_0_counts_g kb_fillings_of_0_counts_g := by
  obtain ⟨oc, od, kV, doc, pm, an, cdv, ct, osl, rfl, lk, hcd⟩ := F.ex
  constructor
  · intro s us ws _ hl
    unfold kb_fillings_of_0_counts_g at hl ⊢
    split at hl
    · exact .of_eq rfl
    · cases hl
  · intro vs us zs ws r1 r2
    cases r1 with
    | cons _ _ => exact .nil
    | nil =>
      cases r2 with
      | nil => exact .nil
      | cons cw0 r2 =>
        cases r2 with
        | cons _ _ => exact .nil
        | nil =>
          exact (.cons cw0 .nil)
theorem kb_fillings_of_0_counts_ord : KOrd kb_fillings_of_0_counts_g kb_fillings_of_0_counts_g := by
  constructor
  · intro K M H vs ws ds es r1 r2
    cases r1 with
    | cons _ _ => exact .nil
    | nil =>
      cases r2 with
      | nil => exact .nil
      | cons cw0 r2 =>
        cases r2 with
        | cons _ _ => exact .nil
        | nil =>
          exact (.cons cw0 .nil)
def kb_filling_number_0_filling_counts_g {α : Type} (us ws : List α) : List α := match us, ws with
  | [], [w0, w1] => [w1, w0]
  | _, _ => []
theorem kb_filling_number_0_filling_counts {K : PySem.W.Frag} {f : Addr} {fd : FuncData} (F : Fun K "filling_number" "filling_number" s_filling_number f fd) : KBinds K fd ["counts", "filling"] ["filling", "counts"] kb_filling_number_0_filling_counts_g kb_filling_number_0_filling_counts_g := by
  obtain ⟨oc, od, kV, doc, pm, an, cdv, ct, osl, rfl, lk, hcd⟩ := F.ex
  constructor
  · intro s us ws _ hl
    unfold kb_filling_number_0_filling_counts_g at hl ⊢
    split at hl
    · exact .of_eq rfl
    · cases hl
  · intro vs us zs ws r1 r2
    cases r1 with
    | cons _ _ => exact .nil
    | nil =>
      cases r2 with
      | nil => exact .nil
      | cons cw0 r2 =>
        cases r2 with
        | nil => exact .nil
        | cons cw1 r2 =>
          cases r2 with
          | cons _ _ => exact .nil
          | nil =>
            exact (.cons cw1 (.cons cw0 .nil))
theorem kb_filling_number_0_filling_counts_ord : KOrd kb_filling_number_0_filling_counts_g kb_filling_number_0_filling_counts_g := by
  constructor
  · intro K M H vs ws ds es r1 r2
    cases r1 with
    | cons _ _ => exact .nil
    | nil =>
      cases r2 with
      | nil => exact .nil
      | cons cw0 r2 =>
        cases r2 with
        | nil => exact .nil
        | cons cw1 r2 =>
          cases r2 with
          | cons _ _ => exact .nil
          | nil =>
            exact (.cons cw1 (.cons cw0 .nil))
def kb_filling_at_0_number_counts_g {α : Type} (us ws : List α) : List α := match us, ws with
  | [], [w0, w1] => [w1, w0]
  | _, _ => []
theorem kb_filling_at_0_number_counts {K : PySem.W.Frag} {f : Addr} {fd : FuncData} (F : Fun K "filling_at" "filling_at" s_filling_at f fd) : KBinds K fd ["counts", "number"] ["number", "counts"] kb_filling_at_0_number_counts_g kb_filling_at_0_number_counts_g := by
  obtain ⟨oc, od, kV, doc, pm, an, cdv, ct, osl, rfl, lk, hcd⟩ := F.ex
  constructor
  · intro s us ws _ hl
    unfold kb_filling_at_0_number_counts_g at hl ⊢
    split at hl
    · exact .of_eq rfl
    · cases hl
  · intro vs us zs ws r1 r2
    cases r1 with
    | cons _ _ => exact .nil
    | nil =>
      cases r2 with
      | nil => exact .nil
      | cons cw0 r2 =>
        cases r2 with
        | nil => exact .nil
        | cons cw1 r2 =>
          cases r2 with
          | cons _ _ => exact .nil
          | nil =>
            exact (.cons cw1 (.cons cw0 .nil))
theorem kb_filling_at_0_number_counts_ord : KOrd kb_filling_at_0_number_counts_g kb_filling_at_0_number_counts_g := by
  constructor
  · intro K M H vs ws ds es r1 r2
    cases r1 with
    | cons _ _ => exact .nil
    | nil =>
      cases r2 with
      | nil => exact .nil
      | cons cw0 r2 =>
        cases r2 with
        | nil => exact .nil
        | cons cw1 r2 =>
          cases r2 with
          | cons _ _ => exact .nil
          | nil =>
            exact (.cons cw1 (.cons cw0 .nil))
def kb_at_places_0_places_filling_g {α : Type} (us ws : List α) : List α := match us, ws with
  | [], [w0, w1] => [w1, w0]
  | _, _ => []
theorem kb_at_places_0_places_filling {K : PySem.W.Frag} {f : Addr} {fd : FuncData} (F : Fun K "at_places" "at_places" s_at_places f fd) : KBinds K fd ["filling", "places"] ["places", "filling"] kb_at_places_0_places_filling_g kb_at_places_0_places_filling_g := by
  obtain ⟨oc, od, kV, doc, pm, an, cdv, ct, osl, rfl, lk, hcd⟩ := F.ex
  constructor
  · intro s us ws _ hl
    unfold kb_at_places_0_places_filling_g at hl ⊢
    split at hl
    · exact .of_eq rfl
    · cases hl
  · intro vs us zs ws r1 r2
    cases r1 with
    | cons _ _ => exact .nil
    | nil =>
      cases r2 with
      | nil => exact .nil
      | cons cw0 r2 =>
        cases r2 with
        | nil => exact .nil
        | cons cw1 r2 =>
          cases r2 with
          | cons _ _ => exact .nil
          | nil =>
            exact (.cons cw1 (.cons cw0 .nil))
theorem kb_at_places_0_places_filling_ord : KOrd kb_at_places_0_places_filling_g kb_at_places_0_places_filling_g := by
  constructor
  · intro K M H vs ws ds es r1 r2
    cases r1 with
    | cons _ _ => exact .nil
    | nil =>
      cases r2 with
      | nil => exact .nil
      | cons cw0 r2 =>
        cases r2 with
        | nil => exact .nil
        | cons cw1 r2 =>
          cases r2 with
          | cons _ _ => exact .nil
          | nil =>
            exact (.cons cw1 (.cons cw0 .nil))
theorem sc_fill_count : FnScope ["counts", "many", "count"] ["counts"] (defScope s_fill_count) := ⟨rfl, rfl, rfl, by decide +kernel, rfl, by decide +kernel, by decide +kernel⟩
theorem sc_fillings_of : FnScope ["counts", "fillings", "count", "filling", "case"] ["counts"] (defScope s_fillings_of) := ⟨rfl, rfl, rfl, by decide +kernel, rfl, by decide +kernel, by decide +kernel⟩
theorem sc_filling_number : FnScope ["counts", "filling", "number", "count", "case"] ["counts", "filling"] (defScope s_filling_number) := ⟨rfl, rfl, rfl, by decide +kernel, rfl, by decide +kernel, by decide +kernel⟩
theorem sc_filling_at : FnScope ["counts", "number", "cases", "count"] ["counts", "number"] (defScope s_filling_at) := ⟨rfl, rfl, rfl, by decide +kernel, rfl, by decide +kernel, by decide +kernel⟩
theorem sc_at_places : FnScope ["filling", "places", "place"] ["filling", "places"] (defScope s_at_places) := ⟨rfl, rfl, rfl, by decide +kernel, rfl, by decide +kernel, by decide +kernel⟩
theorem sc__law_heap : FnScope ["_law_script", "_law_cell", "_law_cells", "_law_stir"] ["_law_script"] (defScope s__law_heap) := ⟨rfl, rfl, rfl, by decide +kernel, rfl, by decide +kernel, by decide +kernel⟩
theorem sc__law_draw : FnScope ["_law_heap_here", "_law_many", "_law_rest"] ["_law_heap_here", "_law_many"] (defScope s__law_draw) := ⟨rfl, rfl, rfl, by decide +kernel, rfl, by decide +kernel, by decide +kernel⟩
theorem sc__law_pick : FnScope ["_law_heap_here", "_law_some"] ["_law_heap_here", "_law_some"] (defScope s__law_pick) := ⟨rfl, rfl, rfl, by decide +kernel, rfl, by decide +kernel, by decide +kernel⟩
theorem sc__law_next : FnScope ["_law_counts", "_law_filling", "_law_place"] ["_law_counts", "_law_filling"] (defScope s__law_next) := ⟨rfl, rfl, rfl, by decide +kernel, rfl, by decide +kernel, by decide +kernel⟩
theorem sc__law_right : FnScope ["_law_heap_here", "_law_counts", "_law_count", "_law_filling", "_law_number", "_law_places", "_law_place", "_law_told", "_law_size", "_law_due", "_law_kept", "_law_turn"] ["_law_heap_here", "_law_counts"] (defScope s__law_right) := ⟨rfl, rfl, rfl, by decide +kernel, rfl, by decide +kernel, by decide +kernel⟩
theorem sc_law : FnScope ["_law_script", "_law_heap_here", "_law_turn", "_law_great", "_law_number", "_law_filling", "_law_place", "_law_counts", "_law_size", "_law_count", "_law_case"] ["_law_script"] (defScope s_law) := ⟨rfl, rfl, rfl, by decide +kernel, rfl, by decide +kernel, by decide +kernel⟩
end K2
end DL
namespace DL
open PySem PySem.Spec L2 Gd
namespace K2
def sp_fill_count : DSpec := fun ds post => ∃ q cs, ds = [q] ∧ asSeq q = some (nD cs) ∧ Pos1 cs ∧ post (.int (prodN cs : Nat))
def stepF (fs : List (List Nat)) (c : Nat) : List (List Nat) := fs.flatMap fun f => (List.range c).map fun k => f ++ [k]
def allF (cs : List Nat) : List (List Nat) := cs.foldl stepF [[]]
def tD (f : List Nat) : D := .tup (nD f)
def sp_fillings_of : DSpec := fun ds post => ∃ q cs, ds = [q] ∧ asSeq q = some (nD cs) ∧ Pos1 cs ∧ prodN cs ≤ 100000 ∧ cs.length ≤ 1000 ∧ post (.tup ((allF cs).map tD))
def digs : List Nat → Nat → List Nat
  | [], _ => []
  | c :: r, n => n % c :: digs r (n / c)
def atF (cs : List Nat) (n : Nat) : List Nat := (digs cs.reverse n).reverse
def sp_filling_at : DSpec := fun ds post => ∃ q cs, ∃ n : Nat, ds = [q, .int n] ∧ asSeq q = some (nD cs) ∧ Pos1 cs ∧ cs.length ≤ 1000 ∧ post (tD (atF cs n))
def numG : Nat → List Nat → List Nat → Nat
  | a, c :: cs, k :: ks => numG (a * c + k) cs ks
  | a, _, _ => a
def sp_filling_number : DSpec := fun ds post => ∃ q r cs f, ds = [q, r] ∧ asSeq q = some (nD cs) ∧ asSeq r = some (nD f) ∧ Pos1 cs ∧ post (.int (numG 0 cs f : Nat))
def sp_at_places : DSpec := fun ds post => ∃ q r xs ps, ds = [q, r] ∧ asSeq q = some xs ∧ asSeq r = some (nD ps) ∧ (∀ p ∈ ps, p < xs.length) ∧ ps.length ≤ 1000 ∧ post (.tup (ps.map fun p => xs.getD p .non))
abbrev sp__law_heap := spHeap
abbrev sp__law_pick := spPick
def inc : List Nat → List Nat → Option (List Nat)
  | c :: r, k :: ks => if k + 1 < c then some ((k + 1) :: ks) else (inc r ks).map (0 :: ·)
  | _, _ => none
def nextF (cs f : List Nat) : Option (List Nat) := (inc cs.reverse f.reverse).map List.reverse
def oD : Option (List Nat) → D
  | some f => tD f
  | none => .non
def sp__law_next : DSpec := fun ds post => ∃ q cs f, ds = [q, tD f] ∧ asSeq q = some (nD cs) ∧ f.length = cs.length ∧ cs.length ≤ 1000 ∧ post (oD (nextF cs f))
def sp__law_right (a : Addr) : DSpec := fun ds post => ∃ cs, ds = [.adr a, .lst (nD cs)] ∧ Pos1 cs ∧ prodN cs ≤ 720 ∧ cs.length ≤ 6 ∧ post (.bl true)
end K2
end DL
namespace DL
open PySem PySem.Spec L2 Gd
namespace K2
def b0_fill_count : DTS := (dSet 1 (dOp fMul (dVar 1) (dVar 2)))
def r_fill_count : DTS := (dSeqS (dSet 1 (dC (.int 1))) (dSeqS (dFor (dSeq (dVar 0)) (dgName 2) b0_fill_count) (dRet (dVar 1))))
abbrev N_fill_count : List Str := ["counts", "many", "count"]
def b0_fillings_of : DTS := (dSet 1 (dLc2 (dSeq (dVar 1)) (dgName 3) dYes (dRng1 (dCons (dVar 2) dNil)) (dgName 4) dYes (dOp fAdd (dVar 3) (dTup (dCons (dVar 4) dNil))) [3, 4] [4]))
def r_fillings_of : DTS := (dSeqS (dSet 1 (dLst (dCons (dTup dNil) dNil))) (dSeqS (dFor (dSeq (dVar 0)) (dgName 2) b0_fillings_of) (dRet (dCB (one fTuple) (dCons (dVar 1) dNil)))))
abbrev N_fillings_of : List Str := ["counts", "fillings", "count", "filling", "case"]
def b0_filling_number : DTS := (dSet 2 (dOp fAdd (dOp fMul (dVar 2) (dVar 3)) (dVar 4)))
def r_filling_number : DTS := (dSeqS (dSet 2 (dC (.int 0))) (dSeqS (dFor (dZip (dCons (dVar 0) (dCons (dVar 1) dNil))) (dgTup 2 (dgCons (dgName 3) (dgCons (dgName 4) dgNil))) b0_filling_number) (dRet (dVar 2))))
abbrev N_filling_number : List Str := ["counts", "filling", "number", "count", "case"]
def b0_filling_at : DTS := (dSeqS (dDrop (dML fAppend (dVar 2) (dCons (dOp fMod (dVar 1) (dVar 3)) dNil))) (dSet 1 (dOp fDiv (dVar 1) (dVar 3))))
def r_filling_at : DTS := (dSeqS (dSet 2 (dNew dNil)) (dSeqS (dFor (dRev (dVar 0)) (dgName 3) b0_filling_at) (dFrz 2 (dRet (dCB (one fTuple) (dCons (dUn fRev (dVar 2)) dNil))))))
abbrev N_filling_at : List Str := ["counts", "number", "cases", "count"]
def r_at_places : DTS := (dRet (dCB (one fTuple) (dCons (dLc (dSeq (dVar 1)) (dgName 2) dYes (dOp fIx (dVar 0) (dVar 2)) [2]) dNil)))
abbrev N_at_places : List Str := ["filling", "places", "place"]
def b0__law_heap : DTS := (dSet 3 (dOp fMod (dCB (one fInt) (dCons (dOp fAdd (dOp fAdd (dOp fMul (dVar 3) (dC (.int 69621))) (dOp fMod (dCB (one fInt) (dCons (dVar 1) dNil)) (dC (.int 2147483563)))) (dC (.int 29))) dNil)) (dC (.int 2147483647))))
def r__law_heap : DTS := (dSeqS (dPar [2, 3] (dCons (dLc (dSeq (dSl (dVar 0) dNoPart (dPart (dC (.int 60))))) (dgName 1) dYes (dOp fAdd (dOp fMul (dC (.int 2)) (dCB (one fAbs) (dCons (dVar 1) dNil))) (dCB (one fInt) (dCons (dOp fLt (dVar 1) (dC (.int 0))) dNil))) [1]) (dCons (dC (.int 22031)) dNil))) (dSeqS (dFor (dSeq (dVar 2)) (dgName 1) b0__law_heap) (dRet (dLst (dCons (dUn fRev (dLc (dSeq (dVar 2)) (dgName 1) (dTest (dOp fGe (dVar 1) (dOp fPow (dC (.int 10)) (dC (.int 18))))) (dVar 1) [1])) (dCons (dVar 3) dNil))))))
abbrev N__law_heap : List Str := ["_law_script", "_law_cell", "_law_cells", "_law_stir"]
def r__law_draw : DTS := (dSeqS (dWhile (dAnd (dTest (dOp fNe (dOp fIx (dVar 0) (dC (.int 0))) (dLst dNil))) (dTest (dOp fEq (dOp fIx (dOp fIx (dVar 0) (dC (.int 0))) (dUn fNeg (dC (.int 1)))) (dC (.int 0))))) (dDrop (dML0 fPop (dOp fIx (dVar 0) (dC (.int 0)))))) (dSeqS (dIfS (dTest (dOp fNe (dOp fIx (dVar 0) (dC (.int 0))) (dLst dNil))) (dSeqS (dSet 2 (dML0 fPop (dOp fIx (dVar 0) (dC (.int 0))))) (dSeqS (dDrop (dML fAppend (dOp fIx (dVar 0) (dC (.int 0))) (dCons (dOp fDiv (dVar 2) (dVar 1)) dNil))) (dRet (dOp fMod (dCB (one fInt) (dCons (dVar 2) dNil)) (dVar 1))))) dNext) (dSeqS (dSetI (dOp fMod (dCB (one fInt) (dCons (dOp fAdd (dOp fMul (dOp fIx (dVar 0) (dC (.int 1))) (dC (.int 48271))) (dC (.int 17))) dNil)) (dC (.int 2147483647))) (dVar 0) (dC (.int 1))) (dRet (dOp fMod (dCB (one fInt) (dCons (dOp fDiv (dOp fIx (dVar 0) (dC (.int 1))) (dC (.int 32))) dNil)) (dVar 1))))))
abbrev N__law_draw : List Str := ["_law_heap_here", "_law_many", "_law_rest"]
def r__law_pick (a : Addr) : DTS := (dRet (dOp fIx (dVar 1) (dCall (spDraw a) (dCons (dVar 0) (dCons (dCB (one fLen) (dCons (dVar 1) dNil)) dNil)))))
abbrev N__law_pick : List Str := ["_law_heap_here", "_law_some"]
def b0__law_next : DTS := (dIfS (dTest (dOp fLt (dOp fAdd (dOp fIx (dVar 1) (dVar 2)) (dC (.int 1))) (dOp fIx (dVar 0) (dVar 2)))) (dRet (dOp fAdd (dOp fAdd (dSl (dVar 1) dNoPart (dPart (dVar 2))) (dTup (dCons (dOp fAdd (dOp fIx (dVar 1) (dVar 2)) (dC (.int 1))) dNil))) (dOp fMul (dTup (dCons (dC (.int 0)) dNil)) (dOp fSub (dOp fSub (dCB (one fLen) (dCons (dVar 0) dNil)) (dC (.int 1))) (dVar 2))))) dNext)
def r__law_next : DTS := (dSeqS (dFor (dRng3 (dCons (dOp fSub (dCB (one fLen) (dCons (dVar 0) dNil)) (dC (.int 1))) (dCons (dUn fNeg (dC (.int 1))) (dCons (dUn fNeg (dC (.int 1))) dNil)))) (dgName 2) b0__law_next) (dRet (dC .non)))
abbrev N__law_next : List Str := ["_law_counts", "_law_filling", "_law_place"]
def b0__law_right : DTS := (dSet 8 (dOp fMul (dVar 8) (dVar 2)))
def b1__law_right : DTS := (dSeqS (dIfS (dTest (dOp fNe (dCB (one fRepr) (dCons (dOp fIx (dVar 7) (dVar 4)) dNil)) (dCB (one fRepr) (dCons (dVar 3) dNil)))) (dRet (dC (.bl false))) dNext) (dSeqS (dIfS (dOr (dTest (dOp fNe (dCB (one fRepr) (dCons (dCall sp_filling_number (dCons (dCB (one fTuple) (dCons (dVar 1) dNil)) (dCons (dVar 3) dNil))) dNil)) (dCB (one fRepr) (dCons (dVar 4) dNil)))) (dTest (dOp fNe (dCB (one fRepr) (dCons (dCall sp_filling_at (dCons (dVar 1) (dCons (dVar 4) dNil))) dNil)) (dCB (one fRepr) (dCons (dVar 3) dNil))))) (dRet (dC (.bl false))) dNext) (dSet 3 (dCall sp__law_next (dCons (dVar 1) (dCons (dVar 3) dNil))))))
def b2__law_right : DTS := (dDrop (dML fAppend (dVar 9) (dCons (dOp fIx (dOp fIx (dVar 7) (dVar 4)) (dVar 6)) dNil)))
def r__law_right (a : Addr) : DTS := (dSeqS (dPar [7, 8] (dCons (dCall sp_fillings_of (dCons (dCB (one fTuple) (dCons (dVar 1) dNil)) dNil)) (dCons (dC (.int 1)) dNil))) (dSeqS (dFor (dSeq (dVar 1)) (dgName 2) b0__law_right) (dSeqS (dIfS (dOr (dNot (dTr (dIsi isi_tuple (dVar 7)))) (dOr (dTest (dOp fNe (dCB (one fLen) (dCons (dVar 7) dNil)) (dVar 8))) (dOr (dTest (dOp fNe (dCB (one fRepr) (dCons (dCall sp_fill_count (dCons (dVar 1) dNil)) dNil)) (dCB (one fRepr) (dCons (dVar 8) dNil)))) (dTest (dOp fNe (dCallK sp_fill_count kb_fill_count_0_counts_g dNil (dCons (dCB (one fTuple) (dCons (dVar 1) dNil)) dNil)) (dVar 8)))))) (dRet (dC (.bl false))) dNext) (dSeqS (dSet 3 (dOp fMul (dTup (dCons (dC (.int 0)) dNil)) (dCB (one fLen) (dCons (dVar 1) dNil)))) (dSeqS (dFor (dRng1 (dCons (dVar 8) dNil)) (dgName 4) b1__law_right) (dSeqS (dIfS (dOr (dTest (dOp fNotN (dVar 3) (dC .non))) (dTest (dOp fNe (dCallK sp_fillings_of kb_fillings_of_0_counts_g dNil (dCons (dVar 1) dNil)) (dVar 7)))) (dRet (dC (.bl false))) dNext) (dSeqS (dSet 4 (dCall (spDraw a) (dCons (dVar 0) (dCons (dVar 8) dNil)))) (dSeqS (dIfS (dOr (dTest (dOp fNe (dCallK sp_filling_number kb_filling_number_0_filling_counts_g dNil (dCons (dOp fIx (dVar 7) (dVar 4)) (dCons (dVar 1) dNil))) (dVar 4))) (dTest (dOp fNe (dCallK sp_filling_at kb_filling_at_0_number_counts_g dNil (dCons (dVar 4) (dCons (dCB (one fTuple) (dCons (dVar 1) dNil)) dNil))) (dOp fIx (dVar 7) (dVar 4))))) (dRet (dC (.bl false))) dNext) (dSeqS (dSet 5 (dIfE (dTest (dOp fNe (dVar 1) (dLst dNil))) (dLc (dRng1 (dCons (dCall (spDraw a) (dCons (dVar 0) (dCons (dC (.int 7)) dNil))) dNil)) (dgName 11) dYes (dCall (spDraw a) (dCons (dVar 0) (dCons (dCB (one fLen) (dCons (dVar 1) dNil)) dNil))) [11]) (dLst dNil))) (dSeqS (dPar [9, 10] (dCons (dNew dNil) (dCons (dCB (one fRepr) (dCons (dVar 1) dNil)) dNil))) (dSeqS (dFor (dSeq (dVar 5)) (dgName 6) b2__law_right) (dFrz 9 (dSeqS (dIfS (dOr (dTest (dOp fNe (dCB (one fRepr) (dCons (dCall sp_at_places (dCons (dOp fIx (dVar 7) (dVar 4)) (dCons (dCB (one fTuple) (dCons (dVar 5) dNil)) dNil))) dNil)) (dCB (one fRepr) (dCons (dCB (one fTuple) (dCons (dVar 9) dNil)) dNil)))) (dTest (dOp fNe (dCallK sp_at_places kb_at_places_0_places_filling_g dNil (dCons (dVar 5) (dCons (dOp fIx (dVar 7) (dVar 4)) dNil))) (dCB (one fTuple) (dCons (dVar 9) dNil))))) (dRet (dC (.bl false))) dNext) (dRet (dOp fEq (dCB (one fRepr) (dCons (dVar 1) dNil)) (dVar 10))))))))))))))))
abbrev N__law_right : List Str := ["_law_heap_here", "_law_counts", "_law_count", "_law_filling", "_law_number", "_law_places", "_law_place", "_law_told", "_law_size", "_law_due", "_law_kept", "_law_turn"]
def b0_law (a : Addr) : DTS := (dSeqS (dSet 9 (dCall (sp__law_pick a) (dCons (dVar 1) (dCons (dLst (dCons (dC (.int 2)) (dCons (dC (.int 3)) (dCons (dC (.int 2)) (dCons (dC (.int 1)) (dCons (dC (.int 4)) (dCons (dOp fAdd (dC (.int 1)) (dCall (spDraw a) (dCons (dVar 1) (dCons (dC (.int 7)) dNil)))) dNil))))))) dNil)))) (dIfS (dTest (dOp fLe (dOp fMul (dVar 8) (dVar 9)) (dC (.int 720)))) (dSeqS (dDrop (dML fAppend (dVar 7) (dCons (dVar 9) dNil))) (dSet 8 (dOp fMul (dVar 8) (dVar 9)))) dNext))
def b1_law (a : Addr) : DTS := (dSeqS (dPar [7, 8] (dCons (dNew dNil) (dCons (dC (.int 1)) dNil))) (dSeqS (dFor (dRng1 (dCons (dCall (spDraw a) (dCons (dVar 1) (dCons (dC (.int 7)) dNil))) dNil)) (dgName 6) (b0_law a)) (dFrz 7 (dIfS (dNot (dTr (dCall (sp__law_right a) (dCons (dVar 1) (dCons (dVar 7) dNil))))) (dRet (dC (.bl false))) dNext))))
def r_law (a : Addr) : DTS := (dSeqS (dFor (dRng1 (dCons (dOp fAdd (dC (.int 2)) (dOp fMul (dC (.int 2)) (dCB (one fInt) (dCons (dOp fGt (dCB (one fLen) (dCons (dVar 0) dNil)) (dC (.int 2))) dNil)))) dNil)) (dgName 2) (b1_law a)) (dSeqS (dSet 3 (dOp fAdd (dOp fAdd (dOp fMul (dTup (dCons (dC (.int 6)) dNil)) (dC (.int 4))) (dTup (dCons (dC (.int 2)) (dCons (dC (.int 1)) (dCons (dC (.int 5)) dNil))))) (dOp fMul (dTup (dCons (dC (.int 6)) dNil)) (dCall (spDraw a) (dCons (dVar 1) (dCons (dC (.int 17)) dNil)))))) (dSeqS (dSet 4 (dCall (spDraw a) (dCons (dVar 1) (dCons (dCall sp_fill_count (dCons (dVar 3) dNil)) dNil)))) (dSeqS (dSet 5 (dCall sp_filling_at (dCons (dVar 3) (dCons (dVar 4) dNil)))) (dSeqS (dIfS (dOr (dTest (dOp fNe (dCB (one fLen) (dCons (dVar 5) dNil)) (dCB (one fLen) (dCons (dVar 3) dNil)))) (dOr (dNot (dTr (dCB (one fAll) (dCons (dLc (dZip (dCons (dVar 5) (dCons (dVar 3) dNil))) (dgTup 2 (dgCons (dgName 10) (dgCons (dgName 9) dgNil))) dYes (dChain fLe fLt (dC (.int 0)) (dVar 10) (dVar 9)) [10, 9]) dNil)))) (dTest (dOp fNe (dCall sp_filling_number (dCons (dVar 3) (dCons (dVar 5) dNil))) (dVar 4))))) (dRet (dC (.bl false))) dNext) (dSeqS (dIfS (dOr (dTest (dOp fNe (dCall sp_fillings_of (dCons (dTup dNil) dNil)) (dTup (dCons (dTup dNil) dNil)))) (dOr (dTest (dOp fNe (dCall sp_fill_count (dCons (dLst dNil) dNil)) (dC (.int 1)))) (dOr (dTest (dOp fNe (dCall sp_filling_number (dCons (dTup dNil) (dCons (dTup dNil) dNil))) (dC (.int 0)))) (dTest (dOp fNe (dCall sp_filling_at (dCons (dTup dNil) (dCons (dC (.int 0)) dNil))) (dTup dNil)))))) (dRet (dC (.bl false))) dNext) (dRet (dAndV (dOp fEq (dCall sp_fillings_of (dCons (dTup (dCons (dC (.int 2)) (dCons (dC (.int 1)) (dCons (dC (.int 2)) dNil)))) dNil)) (dTup (dCons (dTup (dCons (dC (.int 0)) (dCons (dC (.int 0)) (dCons (dC (.int 0)) dNil)))) (dCons (dTup (dCons (dC (.int 0)) (dCons (dC (.int 0)) (dCons (dC (.int 1)) dNil)))) (dCons (dTup (dCons (dC (.int 1)) (dCons (dC (.int 0)) (dCons (dC (.int 0)) dNil)))) (dCons (dTup (dCons (dC (.int 1)) (dCons (dC (.int 0)) (dCons (dC (.int 1)) dNil)))) dNil)))))) (dAndV (dOp fEq (dCall sp_filling_number (dCons (dTup (dCons (dC (.int 2)) (dCons (dC (.int 3)) dNil))) (dCons (dTup (dCons (dC (.int 1)) (dCons (dC (.int 1)) dNil))) dNil))) (dC (.int 4))) (dOp fEq (dCall sp_at_places (dCons (dTup (dCons (dC (.int 7)) (dCons (dC (.int 8)) dNil))) (dCons (dTup (dCons (dC (.int 1)) (dCons (dC (.int 0)) (dCons (dC (.int 1)) dNil)))) dNil))) (dTup (dCons (dC (.int 8)) (dCons (dC (.int 7)) (dCons (dC (.int 8)) dNil))))))))))))))
abbrev N_law : List Str := ["_law_script", "_law_heap_here", "_law_turn", "_law_great", "_law_number", "_law_filling", "_law_place", "_law_counts", "_law_size", "_law_count", "_law_case"]
end K2
end DL
namespace DL
open PySem PySem.Spec L2 Gd
namespace K2
theorem ln_fill_count : ∀ ds post, sp_fill_count ds post → ds.length = 1 := by
  rintro ds post ⟨q, cs, rfl, _⟩
  rfl
theorem lp_fill_count {DD : DEnds} {q : D} : ∀ (cs : List Nat) (m : Nat) (x : Option D), Pos1 cs → (∀ x, DD.nx [some q, some (.int (m * prodN cs : Nat)), x] []) →
    forGo (dgName 2) (dSet 1 (dOp fMul (dVar 1) (dVar 2))) DD (nD cs) [some q, some (.int (m : Nat)), x] []
  | [], m, x, _, h => by
    have := h x
    simpa [prodN, nD, forGo] using this
  | c :: cs, m, x, hp, h => by
    refine ⟨MOk.right ?_, ?_⟩
    · have := hp c List.mem_cons_self
      omega
    · have ih := lp_fill_count (DD := DD) (q := q) cs (m * c) (some (.int (c : Int))) (fun y hy => hp y (List.mem_cons_of_mem _ hy)) (by simpa only [prodN, Nat.mul_assoc] using h)
      rw [show (((m * c : Nat) : Int)) = (m : Int) * (c : Int) from Int.natCast_mul m c] at ih
      exact ih
theorem vc_fill_count : ∀ ds post, sp_fill_count ds post → r_fill_count { nx := fun _ _ => post .non, rt := fun d _ => post d } (startD N_fill_count ds) [] := by
  rintro ds post ⟨q, cs, rfl, hq, hp, h⟩
  show items _ q []
  rw [items_of hq]
  refine lp_fill_count cs 1 none hp fun x => ?_
  show post _
  rw [Nat.one_mul]
  exact h
end K2
end DL
namespace DL
open PySem PySem.Spec L2 Gd
namespace K2
theorem ln_fillings_of : ∀ ds post, sp_fillings_of ds post → ds.length = 1 := by
  rintro ds post ⟨q, cs, rfl, _⟩
  rfl
theorem stepF_len (fs : List (List Nat)) (c : Nat) : (stepF fs c).length = fs.length * c := by
  unfold stepF
  induction fs with
  | nil => simp
  | cons f fs ih =>
    rw [List.flatMap_cons, List.length_append, ih, List.length_map, List.length_range, List.length_cons, Nat.succ_mul]
    omega
theorem stepF_each {fs : List (List Nat)} {c n : Nat} (h : ∀ f ∈ fs, f.length = n) : ∀ f ∈ stepF fs c, f.length = n + 1 := by
  intro f m
  unfold stepF at m
  obtain ⟨g, mg, m⟩ := List.mem_flatMap.mp m
  obtain ⟨k, _, rfl⟩ := List.mem_map.mp m
  rw [List.length_append, h g mg]
  rfl
theorem tD_add (f : List Nat) (x : Nat) : D.tup (nD f ++ [D.int (x : Int)]) = tD (f ++ [x]) := by
  unfold tD nD
  rw [List.map_append]
  rfl
theorem in_fillings {q F : Option D} {cnt : Option D} {f : List Nat} {k : List D → Sto → Prop} (hf : f.length ≤ 1000) : ∀ (xs : List Nat) (acc : List D), Fit (acc.length + xs.length) → k (acc ++ xs.map fun x => tD (f ++ [x])) [] →
    lc2In (dgName 4) dYes (dOp fAdd (dVar 3) (dTup (dCons (dVar 4) dNil))) [4] [q, F, cnt, some (tD f), none] k (nD xs) acc []
  | [], acc, _, h => by simpa [nD, lc2In] using h
  | x :: xs, acc, hs, h => by
    have e : acc.length + (x :: xs).length = (acc.length + 1) + xs.length := by rw [List.length_cons]; omega
    unfold Fit at hs
    refine ⟨by show 1 ≤ 16777216; decide, ⟨by show (nD f).length + 1 ≤ 16777216; rw [nD_len]; omega, ⟨by show acc.length + 1 ≤ 16777216; omega, ?_⟩⟩⟩
    have ih := in_fillings (q := q) (F := F) (cnt := cnt) (f := f) (k := k) hf xs (acc ++ [tD (f ++ [x])]) (by unfold Fit; rw [List.length_append, List.length_singleton]; omega) (by simpa [List.append_assoc] using h)
    rw [← tD_add] at ih
    exact ih
theorem go_fillings {q F : Option D} {c : Nat} {x3 x4 : Option D} {Q : D → Sto → Prop} {n : Nat} (hn : n ≤ 1000) (hc : c < 2 ^ 60) : ∀ (fs : List (List Nat)) (acc : List D), (∀ f ∈ fs, f.length = n) → Fit (acc.length + fs.length * c) → Q (.lst (acc ++ (stepF fs c).map tD)) [] →
    lc2Go (dgName 3) dYes (dRng1 (dCons (dVar 2) dNil)) (dgName 4) dYes (dOp fAdd (dVar 3) (dTup (dCons (dVar 4) dNil))) [3, 4] [4] [q, F, some (.int (c : Int)), x3, x4] Q (fs.map tD) acc []
  | [], acc, _, _, h => by simpa [stepF, lc2Go] using h
  | f :: fs, acc, hf, hs, h => by
    unfold Fit at hs
    rw [List.length_cons, Nat.succ_mul] at hs
    refine ⟨Rg.nat (by omega), ?_⟩
    show lc2In _ _ _ _ _ _ (rngD 0 1 (((c : Nat) : Int)).toNat) acc []
    rw [Int.toNat_natCast, rngD_nD]
    refine in_fillings (by rw [hf f List.mem_cons_self]; exact hn) (List.range c) acc (by unfold Fit; rw [List.length_range]; omega) ?_
    refine go_fillings hn hc fs _ (fun g m => hf g (List.mem_cons_of_mem _ m)) (by unfold Fit; rw [List.length_append, List.length_map, List.length_range]; omega) ?_
    have e : stepF (f :: fs) c = ((List.range c).map fun k => f ++ [k]) ++ stepF fs c := by
      unfold stepF
      rw [List.flatMap_cons]
    rw [e] at h
    simpa [List.append_assoc, List.map_append, Function.comp_def] using h
theorem lp_fillings {DD : DEnds} {q : Option D} : ∀ (cs : List Nat) (fs : List (List Nat)) (x2 x3 x4 : Option D) (n : Nat), Pos1 cs → (∀ f ∈ fs, f.length = n) → n + cs.length ≤ 1000 → fs.length * prodN cs ≤ 100000 →
    (∀ x2 x3 x4, DD.nx [q, some (.lst ((cs.foldl stepF fs).map tD)), x2, x3, x4] []) →
    forGo (dgName 2) (dSet 1 (dLc2 (dSeq (dVar 1)) (dgName 3) dYes (dRng1 (dCons (dVar 2) dNil)) (dgName 4) dYes (dOp fAdd (dVar 3) (dTup (dCons (dVar 4) dNil))) [3, 4] [4])) DD (nD cs) [q, some (.lst (fs.map tD)), x2, x3, x4] []
  | [], fs, x2, x3, x4, n, _, _, _, _, h => h x2 x3 x4
  | c :: cs, fs, x2, x3, x4, n, hp, hf, hn, hs, h => by
    have h1 := hp c List.mem_cons_self
    have hp' : Pos1 cs := fun y hy => hp y (List.mem_cons_of_mem _ hy)
    have pp := prodN_pos hp'
    rw [List.length_cons] at hn
    have hs' : fs.length * c * prodN cs ≤ 100000 := by rw [Nat.mul_assoc]; exact hs
    have hs2 : fs.length * c ≤ 100000 := Nat.le_trans (Nat.le_mul_of_pos_right _ pp) hs'
    show lc2Go _ _ _ _ _ _ _ _ _ _ (fs.map tD) [] []
    refine go_fillings (n := n) (by omega) h1.2 fs [] hf (by unfold Fit; simp only [List.length_nil]; omega) ?_
    rw [List.nil_append]
    exact lp_fillings cs (stepF fs c) _ _ _ (n + 1) hp' (stepF_each hf) (by omega) (by rw [stepF_len]; exact hs') h
theorem vc_fillings_of : ∀ ds post, sp_fillings_of ds post → r_fillings_of { nx := fun _ _ => post .non, rt := fun d _ => post d } (startD N_fillings_of ds) [] := by
  rintro ds post ⟨q, cs, rfl, hq, hp, h1, h2, h⟩
  refine ⟨by show 0 ≤ 16777216; decide, by show 1 ≤ 16777216; decide, ?_⟩
  show items _ q []
  rw [items_of hq]
  refine lp_fillings cs [[]] none none none 0 hp (by simp) (by omega) (by rw [List.length_singleton]; omega) fun x2 x3 x4 => ?_
  exact h
end K2
end DL
namespace DL
open PySem PySem.Spec L2 Gd
namespace K2
/-! ### filling_number -/
theorem ln_filling_number : ∀ ds post, sp_filling_number ds post → ds.length = 2 := by
  rintro ds post ⟨q, r, cs, f, rfl, _⟩
  rfl
theorem lp_number {DD : DEnds} {q r : Option D} : ∀ (cs f : List Nat) (a : Nat) (x3 x4 : Option D), Pos1 cs → (∀ x3 x4, DD.nx [q, r, some (.int (numG a cs f : Nat)), x3, x4] []) →
    forGo (dgTup 2 (dgCons (dgName 3) (dgCons (dgName 4) dgNil))) (dSet 2 (dOp fAdd (dOp fMul (dVar 2) (dVar 3)) (dVar 4))) DD (zipD (nD cs) (nD f)) [q, r, some (.int (a : Nat)), x3, x4] []
  | [], f, a, x3, x4, _, h => by
    have e : numG a [] f = a := by cases f <;> rfl
    rw [e] at h
    exact h x3 x4
  | c :: cs, [], a, x3, x4, _, h => h x3 x4
  | c :: cs, k :: f, a, x3, x4, hp, h => by
    refine ⟨rfl, MOk.right ?_, ?_⟩
    · have := hp c List.mem_cons_self
      omega
    · have ih := lp_number (DD := DD) (q := q) (r := r) cs f (a * c + k) (some (.int (c : Int))) (some (.int (k : Int))) (fun y hy => hp y (List.mem_cons_of_mem _ hy)) h
      rw [show (((a * c + k : Nat) : Int)) = (a : Int) * (c : Int) + (k : Int) by push_cast; rfl] at ih
      exact ih
theorem vc_filling_number : ∀ ds post, sp_filling_number ds post → r_filling_number { nx := fun _ _ => post .non, rt := fun d _ => post d } (startD N_filling_number ds) [] := by
  rintro ds post ⟨q, r, cs, f, rfl, hq, hr, hp, h⟩
  show items _ q []
  rw [items_of hq]
  show items _ r []
  rw [items_of hr]
  exact lp_number cs f 0 none none hp fun x3 x4 => h
/-! ### filling_at -/
theorem ln_filling_at : ∀ ds post, sp_filling_at ds post → ds.length = 2 := by
  rintro ds post ⟨q, cs, n, rfl, _⟩
  rfl
theorem lp_at {DD : DEnds} {q : Option D} {p : Addr} : ∀ (cs : List Nat) (n : Nat) (acc : List Nat) (x3 : Option D), Pos1 cs → acc.length + cs.length ≤ 1000 → (∀ n' x3, DD.nx [q, some (.int n'), some (.adr p), x3] [(p, nD (acc ++ digs cs n))]) →
    forGo (dgName 3) (dSeqS (dDrop (dML fAppend (dVar 2) (dCons (dOp fMod (dVar 1) (dVar 3)) dNil))) (dSet 1 (dOp fDiv (dVar 1) (dVar 3)))) DD (nD cs) [q, some (.int (n : Nat)), some (.adr p), x3] [(p, nD acc)]
  | [], n, acc, x3, _, _, h => by
    have := h (n : Int) x3
    unfold digs at this
    rw [List.append_nil] at this
    exact this
  | c :: cs, n, acc, x3, hp, hl, h => by
    have hc := hp c List.mem_cons_self
    rw [List.length_cons] at hl
    have h0 : (0 : Int) < (c : Int) := by omega
    refine ⟨?_, h0, opt_of getS_self ⟨?_, ?_⟩⟩
    · show (getS _ p).isSome = true
      rw [getS_self]
      rfl
    · rw [nD_len]
      unfold Fit
      omega
    · refine ⟨⟨h0, log60 hc.2⟩, ?_⟩
      rw [setS_one]
      have e1 : nD acc ++ [D.int ((n : Int) % (c : Int))] = nD (acc ++ [n % c]) := by
        unfold nD
        rw [List.map_append]
        rfl
      rw [e1]
      refine lp_at cs (n / c) (acc ++ [n % c]) _ (fun y hy => hp y (List.mem_cons_of_mem _ hy)) (by rw [List.length_append, List.length_singleton]; omega) fun n' x3 => ?_
      have := h n' x3
      unfold digs at this
      rw [List.append_assoc]
      exact this
theorem vc_filling_at : ∀ ds post, sp_filling_at ds post → r_filling_at { nx := fun _ _ => post .non, rt := fun d _ => post d } (startD N_filling_at ds) [] := by
  rintro ds post ⟨q, cs, n, rfl, hq, hp, hl, h⟩
  refine ⟨by show 0 ≤ 16777216; decide, fun p => ?_⟩
  show items _ q _
  rw [items_of hq]
  have e : (nD cs).reverse = nD cs.reverse := by unfold nD; rw [List.map_reverse]
  rw [e]
  refine lp_at cs.reverse n [] none (fun y hy => hp y (List.mem_reverse.mp hy)) (by rw [List.length_reverse, List.length_nil]; omega) fun n' x3 => ?_
  refine opt_of getS_self ?_
  have e2 : (nD ([] ++ digs cs.reverse n)).reverse = nD (atF cs n) := by unfold nD atF; rw [List.nil_append, List.map_reverse]
  show post (.tup (nD ([] ++ digs cs.reverse n)).reverse)
  rw [e2]
  exact h
/-! ### at_places -/
theorem ln_at_places : ∀ ds post, sp_at_places ds post → ds.length = 2 := by
  rintro ds post ⟨q, r, xs, ps, rfl, _⟩
  rfl
theorem go_places {q : D} {r x2 : Option D} {Q : D → Sto → Prop} {xs : List D} (hq : asSeq q = some xs) : ∀ (ps : List Nat) (acc : List D), (∀ p ∈ ps, p < xs.length) → acc.length + ps.length ≤ 1000 → Q (.lst (acc ++ ps.map fun p => xs.getD p .non)) [] →
    lcGo (dgName 2) dYes (dOp fIx (dVar 0) (dVar 2)) [2] [some q, r, x2] Q (nD ps) acc []
  | [], acc, _, _, h => by simpa [nD, lcGo] using h
  | p :: ps, acc, hp, hl, h => by
    rw [List.length_cons] at hl
    refine fIx_of hq (hp p List.mem_cons_self) ⟨by unfold Fit; omega, ?_⟩
    refine go_places hq ps _ (fun y m => hp y (List.mem_cons_of_mem _ m)) (by rw [List.length_append, List.length_singleton]; omega) ?_
    rw [List.append_assoc]
    exact h
theorem vc_at_places : ∀ ds post, sp_at_places ds post → r_at_places { nx := fun _ _ => post .non, rt := fun d _ => post d } (startD N_at_places ds) [] := by
  rintro ds post ⟨q, r, xs, ps, rfl, hq, hr, hp, hl, h⟩
  show items _ r []
  rw [items_of hr]
  refine go_places hq ps [] hp (by rw [List.length_nil]; omega) ?_
  exact h
theorem ln__law_pick : ∀ a ds post, sp__law_pick a ds post → ds.length = 2 := lnPick
theorem vc__law_pick (a : Addr) : ∀ ds post, sp__law_pick a ds post → r__law_pick a { nx := fun _ _ => post .non, rt := fun d _ => post d } (startD N__law_pick ds) [] := vcPick a
end K2
end DL
namespace DL
open PySem PySem.Spec L2 Gd
theorem fIxN {Q : D → Sto → Prop} {q : D} {cs : List Nat} {S : Sto} {i : Nat} (h : asSeq q = some (nD cs)) (hi : i < cs.length) (t : Q (.int (cs.getD i 0 : Nat)) S) : fIx q (.int (i : Int)) S Q := by
  refine fIx_of h (by rw [nD_len]; exact hi) ?_
  have e : (nD cs).getD i .non = .int (cs.getD i 0 : Nat) := by
    unfold nD
    rw [List.getD_eq_getElem?_getD, List.getElem?_map, List.getD_eq_getElem?_getD, List.getElem?_eq_getElem hi]
    rfl
  rw [e]
  exact t
theorem cutD_take {α : Type} (xs : List α) {p : Nat} (h : p ≤ xs.length) : cutD xs none (some (p : Int)) = xs.take p := by
  unfold cutD
  have e1 : HT.sIx xs.length 0 none = 0 := rfl
  have e2 : HT.sIx xs.length xs.length (some (p : Int)) = min p xs.length := by
    show (if (p : Int) < 0 then ((p : Int) + (xs.length : Int)).toNat else min (p : Int).toNat xs.length) = _
    rw [if_neg (by omega), Int.toNat_natCast]
  rw [e1, e2, List.drop_zero, Nat.sub_zero, Nat.min_eq_left h]
theorem rngD_down (j : Nat) : rngD ((j : Int) - 1) (-1) j = nD (List.range j).reverse := by
  apply List.ext_getElem?
  intro i
  by_cases h : i < j
  · rw [rngD_at h, nD, List.getElem?_map, List.getElem?_reverse (by simpa using h), List.length_range, List.getElem?_range (by omega)]
    show some (D.int _) = some (D.int _)
    congr 2
    omega
  · rw [List.getElem?_eq_none (by rw [rngD_len]; omega), List.getElem?_eq_none (by rw [nD_len, List.length_reverse, List.length_range]; omega)]
theorem nD_append (a b : List Nat) : nD (a ++ b) = nD a ++ nD b := List.map_append
theorem nD_take (a : List Nat) (p : Nat) : (nD a).take p = nD (a.take p) := List.map_take.symm
theorem nD_rep (k n : Nat) : nD (List.replicate k n) = List.replicate k (D.int (n : Int)) := List.map_replicate
theorem fSlT {Q : D → Sto → Prop} {q : D} {ds : List D} {lo hi : Option Int} {S : Sto} (h : q = .tup ds) (t : Q (.tup (cutD ds lo hi)) S) : fSl q lo hi S Q := by
  subst h
  exact t
namespace K2
theorem ln__law_next : ∀ ds post, sp__law_next ds post → ds.length = 2 := by
  rintro ds post ⟨q, cs, f, rfl, _⟩
  rfl
def loopN (cs f : List Nat) : Nat → Option (List Nat)
  | 0 => none
  | j + 1 => if f.getD j 0 + 1 < cs.getD j 0 then some (f.take j ++ [f.getD j 0 + 1] ++ List.replicate (cs.length - 1 - j) 0) else loopN cs f j
def nextEnd (DD : DEnds) (q : D) (f : List Nat) : Option (List Nat) → Prop
  | some g => DD.rt (tD g) []
  | none => ∀ x2, DD.nx [some q, some (tD f), x2] []
theorem lp_next {DD : DEnds} {q : D} {cs f : List Nat} (hq : asSeq q = some (nD cs)) (hf : f.length = cs.length) (hl : cs.length ≤ 1000) : ∀ (j : Nat) (x2 : Option D), j ≤ cs.length → nextEnd DD q f (loopN cs f j) →
    forGo (dgName 2) (dIfS (dTest (dOp fLt (dOp fAdd (dOp fIx (dVar 1) (dVar 2)) (dC (.int 1))) (dOp fIx (dVar 0) (dVar 2)))) (dRet (dOp fAdd (dOp fAdd (dSl (dVar 1) dNoPart (dPart (dVar 2))) (dTup (dCons (dOp fAdd (dOp fIx (dVar 1) (dVar 2)) (dC (.int 1))) dNil))) (dOp fMul (dTup (dCons (dC (.int 0)) dNil)) (dOp fSub (dOp fSub (dCB (one fLen) (dCons (dVar 0) dNil)) (dC (.int 1))) (dVar 2))))) dNext)
      DD (nD (List.range j).reverse) [some q, some (tD f), x2] []
  | 0, x2, _, h => h x2
  | j + 1, x2, hj, h => by
    have e : (List.range (j + 1)).reverse = j :: (List.range j).reverse := by rw [List.range_succ, List.reverse_append]; rfl
    rw [e]
    unfold loopN at h
    generalize hg : tD f = g at h ⊢
    have sg : asSeq g = some (nD f) := by rw [← hg]; rfl
    refine fIxN (i := j) (cs := f) sg (by rw [hf]; omega) ?_
    refine fIxN (i := j) (cs := cs) hq (by omega) ?_
    show (if decide (((f.getD j 0 : Nat) : Int) + 1 < (cs.getD j 0 : Nat)) = true then _ else _)
    by_cases hlt : f.getD j 0 + 1 < cs.getD j 0
    · rw [if_pos hlt] at h
      rw [if_pos (decide_eq_true (by omega))]
      refine fSlT hg.symm ?_
      refine fIxN (i := j) (cs := f) sg (by rw [hf]; omega) ⟨by show 1 ≤ 16777216; decide, ?_⟩
      rw [cutD_take _ (by rw [nD_len]; omega), nD_take]
      refine ⟨?_, ?_⟩
      · unfold Fit
        rw [nD_len, List.length_take, List.length_singleton]
        omega
      · refine ⟨by show 1 ≤ 16777216; decide, ?_⟩
        show fLen q [] _
        rw [fLen_of hq, nD_len]
        refine ⟨by simp, by omega, by omega, by simp, ?_⟩
        have e2 : ((cs.length : Int) - 1 - (j : Int)).toNat = cs.length - 1 - j := by omega
        show Fit ((nD (f.take j) ++ [D.int (((f.getD j 0 : Nat) : Int) + 1)]).length + (List.replicate ((cs.length : Int) - 1 - (j : Int)).toNat [D.int 0]).flatten.length) ∧ DD.rt (.tup (nD (f.take j) ++ [D.int (((f.getD j 0 : Nat) : Int) + 1)] ++ (List.replicate ((cs.length : Int) - 1 - (j : Int)).toNat [D.int 0]).flatten)) []
        rw [e2]
        refine ⟨?_, ?_⟩
        · unfold Fit
          rw [List.flatten_replicate_singleton]
          simp only [List.length_append, nD_len, List.length_take, List.length_singleton, List.length_replicate]
          omega
        · have e3 : nD (f.take j) ++ [D.int (((f.getD j 0 : Nat) : Int) + 1)] ++ (List.replicate (cs.length - 1 - j) [D.int 0]).flatten = nD (f.take j ++ [f.getD j 0 + 1] ++ List.replicate (cs.length - 1 - j) 0) := by
            rw [nD_append, nD_append, nD_rep, List.flatten_replicate_singleton]
            rfl
          rw [e3]
          exact h
    · rw [if_neg hlt] at h
      rw [if_neg (by simp only [decide_eq_true_eq]; omega)]
      subst hg
      exact lp_next hq hf hl j _ (by omega) h
theorem loopN_inc {cs f : List Nat} (hf : f.length = cs.length) : ∀ j, j ≤ cs.length → loopN cs f j = (inc (cs.take j).reverse (f.take j).reverse).map fun g => g.reverse ++ List.replicate (cs.length - j) 0
  | 0, _ => rfl
  | j + 1, hj => by
    have ec : (cs.take (j + 1)).reverse = cs.getD j 0 :: (cs.take j).reverse := by
      rw [List.take_add_one, List.getElem?_eq_getElem (by omega), List.reverse_append, List.getD_eq_getElem?_getD, List.getElem?_eq_getElem (by omega)]
      rfl
    have ef : (f.take (j + 1)).reverse = f.getD j 0 :: (f.take j).reverse := by
      rw [List.take_add_one, List.getElem?_eq_getElem (by omega), List.reverse_append, List.getD_eq_getElem?_getD, List.getElem?_eq_getElem (by omega)]
      rfl
    rw [ec, ef]
    unfold loopN inc
    by_cases hlt : f.getD j 0 + 1 < cs.getD j 0
    · rw [if_pos hlt, if_pos hlt, Option.map_some]
      simp only [List.reverse_cons, List.reverse_reverse]
      rw [show cs.length - 1 - j = cs.length - (j + 1) by omega]
    · rw [if_neg hlt, if_neg hlt, loopN_inc hf j (by omega), Option.map_map]
      congr 1
      funext g
      show g.reverse ++ List.replicate (cs.length - j) 0 = (0 :: g).reverse ++ List.replicate (cs.length - (j + 1)) 0
      rw [List.reverse_cons, List.append_assoc, show cs.length - j = cs.length - (j + 1) + 1 by omega, List.replicate_succ]
      rfl
theorem loopN_all {cs f : List Nat} (hf : f.length = cs.length) : loopN cs f cs.length = nextF cs f := by
  rw [loopN_inc hf cs.length (Nat.le_refl _), List.take_length, ← hf, List.take_length]
  unfold nextF
  congr 1
  funext g
  simp
theorem vc__law_next : ∀ ds post, sp__law_next ds post → r__law_next { nx := fun _ _ => post .non, rt := fun d _ => post d } (startD N__law_next ds) [] := by
  rintro ds post ⟨q, cs, f, rfl, hq, hf, hl, h⟩
  show fLen q [] _
  rw [fLen_of hq, nD_len]
  refine ⟨rfl, by unfold Rg; omega, by unfold Rg; omega, ?_⟩
  have e : ((cs.length : Int) - 1 - -1).toNat = cs.length := by omega
  show forGo _ _ _ (rngD ((cs.length : Int) - 1) (-1) ((cs.length : Int) - 1 - -1).toNat) _ _
  rw [e, rngD_down]
  refine lp_next hq hf hl cs.length none (Nat.le_refl _) ?_
  rw [loopN_all hf]
  cases en : nextF cs f with
  | none =>
    rw [en] at h
    exact fun x2 => h
  | some g =>
    rw [en] at h
    exact h
end K2
end DL
namespace DL
open PySem PySem.Spec L2 Gd
/-! ### texts of numbers -/
def Sm (f : List Nat) : Prop := ∀ x ∈ f, x < 2 ^ 60
theorem Pos1.sm {cs : List Nat} (h : Pos1 cs) : Sm cs := fun x m => (h x m).2
theorem nD_dn {n : Nat} (f : List Nat) : (nD f).all (dn n) = true := by
  rw [List.all_eq_true]
  intro x m
  obtain ⟨i, _, rfl⟩ := List.mem_map.mp m
  cases n <;> rfl
theorem nD_ish {f : List Nat} (h : Sm f) : ishAll (nD f) = true := by
  induction f with
  | nil => rfl
  | cons x f ih =>
    have h1 := h x List.mem_cons_self
    show (ish (.int (x : Int)) && ishAll (nD f)) = true
    rw [ih fun y m => h y (List.mem_cons_of_mem _ m), Bool.and_true]
    simp only [ish, decide_eq_true_eq, Int.natAbs_natCast]
    exact Nat.lt_trans h1 (Nat.pow_lt_pow_right (by decide) (by decide))
theorem nD_rsz (f : List Nat) : rszAll (nD f) = 1923 * f.length := by
  induction f with
  | nil => rfl
  | cons x f ih =>
    show rsz (.int (x : Int)) + 2 + rszAll (nD f) = _
    rw [ih, List.length_cons]
    show 1921 + 2 + _ = _
    omega
theorem Rp_tup {f : List Nat} (h : Sm f) (hl : f.length ≤ 1000) : Rp (.tup (nD f)) := by
  refine ⟨nD_dn f, nD_ish h, ?_⟩
  show rszAll (nD f) + 4 ≤ _
  rw [nD_rsz]
  omega
theorem Rp_lst {f : List Nat} (h : Sm f) (hl : f.length ≤ 1000) : Rp (.lst (nD f)) := by
  refine ⟨nD_dn f, nD_ish h, ?_⟩
  show rszAll (nD f) + 4 ≤ _
  rw [nD_rsz]
  omega
theorem Rp_nat {n : Nat} (h : n < 2 ^ 1900) : Rp (.int (n : Int)) := by
  refine ⟨rfl, ?_, by show 1921 ≤ 16777216; decide⟩
  simp only [ish, decide_eq_true_eq, Int.natAbs_natCast]
  exact h
theorem no {b : Bool} {A B : Prop} (hb : b = false) (h : B) : if b = true then A else B := by
  rw [hb, if_neg Bool.false_ne_true]
  exact h
theorem yes {b : Bool} {A B : Prop} (hb : b = true) (h : A) : if b = true then A else B := by
  rw [hb, if_pos rfl]
  exact h
theorem same_no {α : Type} [DecidableEq α] {x y : α} (h : x = y) : (!decide (x = y)) = false := by
  rw [decide_eq_true h]
  rfl
namespace K2
/-! ### the mathematics of fillings -/
theorem digs_len : ∀ (r : List Nat) (n : Nat), (digs r n).length = r.length
  | [], _ => rfl
  | c :: r, n => by
    unfold digs
    rw [List.length_cons, List.length_cons, digs_len r]
theorem atF_len (cs : List Nat) (n : Nat) : (atF cs n).length = cs.length := by
  unfold atF
  rw [List.length_reverse, digs_len, List.length_reverse]
theorem digs_lt : ∀ (r : List Nat) (n : Nat), Pos1 r → ∀ (i : Nat) (hi : i < r.length), (digs r n).getD i 0 < r.getD i 0
  | [], _, _, i, hi => by simp at hi
  | c :: r, n, h, 0, _ => by
    unfold digs
    exact Nat.mod_lt _ (h c List.mem_cons_self).1
  | c :: r, n, h, i + 1, hi => by
    unfold digs
    exact digs_lt r (n / c) (fun y m => h y (List.mem_cons_of_mem _ m)) i (by simpa using hi)
theorem digs_sm : ∀ (r : List Nat) (n : Nat), Pos1 r → Sm (digs r n)
  | [], _, _ => fun x m => nomatch m
  | c :: r, n, h => by
    intro x m
    unfold digs at m
    have hc := h c List.mem_cons_self
    rcases List.mem_cons.mp m with e | m
    · rw [e]
      exact Nat.lt_trans (Nat.mod_lt _ hc.1) hc.2
    · exact digs_sm r _ (fun y my => h y (List.mem_cons_of_mem _ my)) x m
theorem rev1 {cs : List Nat} (h : Pos1 cs) : Pos1 cs.reverse := fun x m => h x (List.mem_reverse.mp m)
theorem atF_sm {cs : List Nat} (h : Pos1 cs) (n : Nat) : Sm (atF cs n) := fun x m => digs_sm _ n (rev1 h) x (List.mem_reverse.mp m)
theorem inc_digs : ∀ (r : List Nat) (n : Nat), Pos1 r → n < prodN r → inc r (digs r n) = if n + 1 < prodN r then some (digs r (n + 1)) else none
  | [], n, _, hn => by
    have : n = 0 := by
      have hn : n < 1 := hn
      omega
    subst this
    rfl
  | c :: r, n, h, hn => by
    have hc := (h c List.mem_cons_self).1
    have hr : Pos1 r := fun y m => h y (List.mem_cons_of_mem _ m)
    have hn : n < c * prodN r := hn
    have dl : n / c < prodN r := Nat.div_lt_of_lt_mul hn
    have ih := inc_digs r (n / c) hr dl
    have em := Nat.div_add_mod n c
    have ml := Nat.mod_lt n hc
    show (if n % c + 1 < c then some ((n % c + 1) :: digs r (n / c)) else (inc r (digs r (n / c))).map (0 :: ·)) = if n + 1 < c * prodN r then some (((n + 1) % c) :: digs r ((n + 1) / c)) else none
    by_cases hlt : n % c + 1 < c
    · have e1 : (n + 1) / c = n / c := by
        rw [show n + 1 = (n % c + 1) + c * (n / c) by omega, Nat.add_mul_div_left _ _ hc, Nat.div_eq_of_lt hlt, Nat.zero_add]
      have e2 : (n + 1) % c = n % c + 1 := by
        have := Nat.div_add_mod (n + 1) c
        rw [e1] at this
        omega
      have l2 : n + 1 < c * prodN r := by
        have h1 : (n + 1) / c < prodN r := by rw [e1]; exact dl
        exact (Nat.div_lt_iff_lt_mul hc).mp h1 |> fun z => by rw [Nat.mul_comm]; exact z
      rw [if_pos hlt, if_pos l2, e1, e2]
    · have e0 : n % c + 1 = c := by omega
      have e1 : (n + 1) = c * (n / c + 1) := by
        rw [Nat.mul_add]
        omega
      have e2 : (n + 1) / c = n / c + 1 := by rw [e1, Nat.mul_div_cancel_left _ hc]
      have e3 : (n + 1) % c = 0 := by rw [e1, Nat.mul_mod_right]
      rw [if_neg hlt, ih, e2, e3]
      by_cases h1 : n / c + 1 < prodN r
      · have l2 : n + 1 < c * prodN r := by
          rw [e1]
          exact Nat.mul_lt_mul_of_pos_left h1 hc
        rw [if_pos h1, if_pos l2]
        rfl
      · have l2 : ¬ n + 1 < c * prodN r := by
          intro z
          rw [e1] at z
          exact h1 (Nat.lt_of_mul_lt_mul_left z)
        rw [if_neg h1, if_neg l2]
        rfl
/-- the filling behind n - 1 others, or none -/
def cur (cs : List Nat) (n : Nat) : Option (List Nat) := if n < prodN cs then some (atF cs n) else none
theorem next_cur {cs : List Nat} {n : Nat} (h : Pos1 cs) (hn : n < prodN cs) : nextF cs (atF cs n) = cur cs (n + 1) := by
  unfold nextF cur atF
  rw [List.reverse_reverse, inc_digs _ _ (rev1 h) (by rw [prodN_reverse]; exact hn), prodN_reverse]
  split <;> rfl
theorem digs_zero : ∀ r : List Nat, digs r 0 = List.replicate r.length 0
  | [] => rfl
  | c :: r => by
    unfold digs
    rw [Nat.zero_mod, Nat.zero_div, digs_zero r]
    rfl
theorem atF_zero (cs : List Nat) : atF cs 0 = List.replicate cs.length 0 := by
  unfold atF
  rw [digs_zero, List.length_reverse, List.reverse_replicate]
theorem numG_snoc : ∀ (cs f : List Nat) (a c k : Nat), f.length = cs.length → numG a (cs ++ [c]) (f ++ [k]) = numG a cs f * c + k
  | [], [], a, c, k, _ => rfl
  | c1 :: cs, k1 :: f, a, c, k, h => by
    show numG (a * c1 + k1) (cs ++ [c]) (f ++ [k]) = numG (a * c1 + k1) cs f * c + k
    exact numG_snoc cs f _ c k (by simpa using h)
  | [], _ :: _, _, _, _, h => by simp at h
  | _ :: _, [], _, _, _, h => by simp at h
theorem numG_digs : ∀ (r : List Nat) (n : Nat), n < prodN r → numG 0 r.reverse (digs r n).reverse = n
  | [], n, h => by
    have h : n < 1 := h
    have : n = 0 := by omega
    subst this
    rfl
  | c :: r, n, h => by
    have h : n < c * prodN r := h
    unfold digs
    rw [List.reverse_cons, List.reverse_cons, numG_snoc _ _ _ _ _ (by rw [List.length_reverse, List.length_reverse, digs_len]), numG_digs r (n / c) (Nat.div_lt_of_lt_mul h)]
    rw [Nat.mul_comm]
    exact Nat.div_add_mod n c
theorem numG_at {cs : List Nat} {n : Nat} (h : n < prodN cs) : numG 0 cs (atF cs n) = n := by
  have := numG_digs cs.reverse n (by rw [prodN_reverse]; exact h)
  rw [List.reverse_reverse] at this
  exact this
theorem atF_snoc (cs : List Nat) (c n : Nat) : atF (cs ++ [c]) n = atF cs (n / c) ++ [n % c] := by
  unfold atF
  rw [List.reverse_append, List.reverse_singleton, List.singleton_append]
  show (n % c :: digs cs.reverse (n / c)).reverse = _
  rw [List.reverse_cons]
theorem stepF_range (g : Nat → List Nat) (c : Nat) (hc : 1 ≤ c) : ∀ P : Nat, stepF ((List.range P).map g) c = (List.range (P * c)).map fun n => g (n / c) ++ [n % c]
  | 0 => by rw [Nat.zero_mul]; rfl
  | P + 1 => by
    have ih := stepF_range g c hc P
    unfold stepF at ih ⊢
    rw [List.range_succ, List.map_append, List.flatMap_append, ih, Nat.succ_mul, List.range_add, List.map_append]
    congr 1
    rw [List.map_singleton, List.flatMap_singleton, List.map_map]
    apply List.map_congr_left
    intro k hk
    have hk : k < c := List.mem_range.mp hk
    show g P ++ [k] = g ((P * c + k) / c) ++ [(P * c + k) % c]
    rw [Nat.mul_comm P c, Nat.mul_add_div (by omega), Nat.div_eq_of_lt hk, Nat.mul_add_mod, Nat.mod_eq_of_lt hk, Nat.add_zero]
theorem allF_at : ∀ (r : List Nat), Pos1 r → allF r.reverse = (List.range (prodN r)).map (atF r.reverse)
  | [], _ => rfl
  | c :: r, h => by
    have ih := allF_at r fun y m => h y (List.mem_cons_of_mem _ m)
    have e : allF (c :: r).reverse = stepF (allF r.reverse) c := by
      unfold allF
      rw [List.reverse_cons, List.foldl_append]
      rfl
    rw [e, ih, stepF_range _ _ (h c List.mem_cons_self).1]
    show (List.range (prodN r * c)).map _ = (List.range (c * prodN r)).map _
    rw [Nat.mul_comm]
    apply List.map_congr_left
    intro n _
    rw [List.reverse_cons, atF_snoc]
theorem allF_eq {cs : List Nat} (h : Pos1 cs) : allF cs = (List.range (prodN cs)).map (atF cs) := by
  have := allF_at cs.reverse (rev1 h)
  rw [List.reverse_reverse, prodN_reverse] at this
  exact this
end K2
end DL
namespace DL
open PySem PySem.Spec L2 Gd
theorem big {n : Nat} (h : n < 2 ^ 62) : n < 2 ^ 1900 := Nat.lt_trans h (Nat.pow_lt_pow_right (by decide) (by decide))
namespace K2
theorem ln__law_right : ∀ a ds post, sp__law_right a ds post → ds.length = 2 := by
  rintro a ds post ⟨cs, rfl, _⟩
  rfl
abbrev told (cs : List Nat) : D := .tup ((allF cs).map tD)
abbrev dr (a : Addr) (cs : List Nat) (x2 x3 x4 x5 x6 x7 x8 x9 x10 x11 : Option D) : Sl := [some (.adr a), some (.lst (nD cs)), x2, x3, x4, x5, x6, x7, x8, x9, x10, x11]
theorem lp_size {DD : DEnds} {a : Addr} {cs0 : List Nat} {x3 x4 x5 x6 x7 x9 x10 x11 : Option D} : ∀ (cs : List Nat) (m : Nat) (x2 : Option D), Pos1 cs → (∀ x2, DD.nx (dr a cs0 x2 x3 x4 x5 x6 x7 (some (.int (m * prodN cs : Nat))) x9 x10 x11) []) →
    forGo (dgName 2) b0__law_right DD (nD cs) (dr a cs0 x2 x3 x4 x5 x6 x7 (some (.int (m : Nat))) x9 x10 x11) []
  | [], m, x2, _, h => by
    have := h x2
    rw [show m * prodN [] = m from Nat.mul_one m] at this
    exact this
  | c :: cs, m, x2, hp, h => by
    refine ⟨MOk.right ?_, ?_⟩
    · have := hp c List.mem_cons_self
      omega
    · have ih := lp_size (DD := DD) (a := a) (cs0 := cs0) (x3 := x3) (x4 := x4) (x5 := x5) (x6 := x6) (x7 := x7) (x9 := x9) (x10 := x10) (x11 := x11) cs (m * c) (some (.int (c : Int))) (fun y hy => hp y (List.mem_cons_of_mem _ hy)) (by simpa only [prodN, Nat.mul_assoc] using h)
      rw [show (((m * c : Nat) : Int)) = (m : Int) * (c : Int) from Int.natCast_mul m c] at ih
      exact ih
theorem told_len {cs : List Nat} (h : Pos1 cs) : ((allF cs).map tD).length = prodN cs := by
  rw [List.length_map, allF_eq h, List.length_map, List.length_range]
theorem told_get {cs : List Nat} {n : Nat} (h : Pos1 cs) (hn : n < prodN cs) : ((allF cs).map tD).getD n .non = tD (atF cs n) := by
  rw [allF_eq h, List.map_map, List.getD_eq_getElem?_getD, List.getElem?_map, List.getElem?_range hn]
  rfl
theorem told_ix {Q : D → Sto → Prop} {cs : List Nat} {n : Nat} {S : Sto} {g : D} (hg : g = told cs) (h : Pos1 cs) (hn : n < prodN cs) (t : Q (tD (atF cs n)) S) : fIx g (.int (n : Int)) S Q := by
  refine fIx_of (xs := (allF cs).map tD) (by rw [hg]; rfl) (by rw [told_len h]; exact hn) ?_
  rw [told_get h hn]
  exact t
theorem lp_num {DD : DEnds} {a : Addr} {cs : List Nat} {g sz : D} {x2 x5 x6 x9 x10 x11 : Option D} (hg : g = told cs) (hp : Pos1 cs) (h720 : prodN cs ≤ 720) (h6 : cs.length ≤ 6) : ∀ (k i : Nat) (x4 : Option D), i + k = prodN cs →
    (∀ x4, DD.nx (dr a cs x2 (some .non) x4 x5 x6 (some g) (some sz) x9 x10 x11) []) →
    forGo (dgName 4) b1__law_right DD (nD (List.range' i k)) (dr a cs x2 (some (oD (cur cs i))) x4 x5 x6 (some g) (some sz) x9 x10 x11) []
  | 0, i, x4, e, h => by
    have : cur cs i = none := if_neg (by omega)
    rw [this]
    exact h x4
  | k + 1, i, x4, e, h => by
    have hi : i < prodN cs := by omega
    have ec : cur cs i = some (atF cs i) := if_pos hi
    have sm := atF_sm hp i
    have al := atF_len cs i
    have R1 : Rp (tD (atF cs i)) := Rp_tup sm (by omega)
    have R2 : Rp (.int (i : Int)) := Rp_nat (big (by omega))
    rw [ec]
    refine told_ix hg hp hi ⟨R1, R1, ?_⟩
    refine no (same_no rfl) ?_
    refine ⟨_, _, cs, atF cs i, rfl, rfl, rfl, hp, ?_⟩
    rw [numG_at hi]
    refine ⟨R2, R2, ?_⟩
    refine no (same_no rfl) ?_
    refine ⟨_, cs, i, rfl, rfl, hp, by omega, R1, R1, ?_⟩
    refine no (same_no rfl) ?_
    refine ⟨_, cs, atF cs i, rfl, rfl, al, by omega, ?_⟩
    rw [next_cur hp hi]
    exact lp_num hg hp h720 h6 k (i + 1) _ (by omega) h
theorem go_draws {a : Addr} {cs : List Nat} {x2 x3 x4 x5 x6 x7 x8 x9 x10 x11 : Option D} {Q : D → Sto → Prop} (h1 : 1 ≤ cs.length) (h6 : cs.length ≤ 6) : ∀ (xs : List D) (acc : List Nat), acc.length + xs.length ≤ 7 → (∀ p ∈ acc, p < cs.length) → (∀ ps : List Nat, ps.length ≤ 7 → (∀ p ∈ ps, p < cs.length) → Q (.lst (nD ps)) []) →
    lcGo (dgName 11) dYes (dCall (spDraw a) (dCons (dVar 0) (dCons (dCB (one fLen) (dCons (dVar 1) dNil)) dNil))) [11] (dr a cs x2 x3 x4 x5 x6 x7 x8 x9 x10 x11) Q xs (nD acc) []
  | [], acc, hl, ha, h => h acc (by simpa using hl) ha
  | x :: xs, acc, hl, ha, h => by
    rw [List.length_cons] at hl
    refine ⟨_, rfl, by rw [nD_len]; omega, by rw [nD_len]; omega, fun r r0 r1 => ?_⟩
    rw [nD_len] at r1
    obtain ⟨n, rfl⟩ := Int.eq_ofNat_of_zero_le r0
    refine ⟨by unfold Fit; rw [nD_len]; omega, ?_⟩
    have e : nD acc ++ [D.int ((n : Nat) : Int)] = nD (acc ++ [n]) := by rw [nD_append]; rfl
    show lcGo _ _ _ _ _ _ xs (nD acc ++ [D.int ((n : Nat) : Int)]) []
    rw [e]
    refine go_draws h1 h6 xs (acc ++ [n]) (by rw [List.length_append, List.length_singleton]; omega) ?_ h
    intro p m
    rcases List.mem_append.mp m with m | m
    · exact ha p m
    · rw [List.mem_singleton.mp m]
      omega
theorem lp_due {DD : DEnds} {a p : Addr} {cs : List Nat} {n : Nat} {g : D} {x2 x3 x5 x8 x10 x11 : Option D} (hg : g = told cs) (hp : Pos1 cs) (hn : n < prodN cs) : ∀ (ps acc : List Nat) (x6 : Option D), acc.length + ps.length ≤ 7 → (∀ p ∈ ps, p < cs.length) →
    (∀ x6, DD.nx (dr a cs x2 x3 (some (.int (n : Int))) x5 x6 (some g) x8 (some (.adr p)) x10 x11) [(p, nD (acc ++ ps.map fun i => (atF cs n).getD i 0))]) →
    forGo (dgName 6) b2__law_right DD (nD ps) (dr a cs x2 x3 (some (.int (n : Int))) x5 x6 (some g) x8 (some (.adr p)) x10 x11) [(p, nD acc)]
  | [], acc, x6, _, _, h => by
    have := h x6
    rw [List.map_nil, List.append_nil] at this
    exact this
  | i :: ps, acc, x6, hl, hi, h => by
    rw [List.length_cons] at hl
    refine ⟨?_, ?_⟩
    · show (getS [(p, nD acc)] p).isSome = true
      rw [getS_self]
      rfl
    · refine told_ix hg hp hn ?_
      have hi0 : i < (atF cs n).length := by rw [atF_len]; exact hi i List.mem_cons_self
      refine fIxN (i := i) (q := tD (atF cs n)) (cs := atF cs n) (S := [(p, nD acc)]) (Q := fun d S2 => fAppend (.adr p) [d] S2 fun _ S3 => forGo (dgName 6) b2__law_right DD (nD ps) (dr a cs x2 x3 (some (.int (n : Int))) x5 (some (.int (i : Int))) (some g) x8 (some (.adr p)) x10 x11) S3) rfl hi0 ?_
      refine opt_of getS_self ⟨by unfold Fit; rw [nD_len]; omega, ?_⟩
      rw [setS_one]
      have e : nD acc ++ [D.int (((atF cs n).getD i 0 : Nat) : Int)] = nD (acc ++ [(atF cs n).getD i 0]) := by rw [nD_append]; rfl
      rw [e]
      refine lp_due hg hp hn ps _ _ (by rw [List.length_append, List.length_singleton]; omega) (fun y m => hi y (List.mem_cons_of_mem _ m)) fun x6 => ?_
      have := h x6
      rw [List.append_assoc]
      exact this
theorem told_dn (cs : List Nat) : dn 40 (told cs) = true := by
  show ((allF cs).map tD).all (dn 39) = true
  rw [List.all_eq_true]
  intro x m
  obtain ⟨f, _, rfl⟩ := List.mem_map.mp m
  exact nD_dn f
theorem tD_dn (f : List Nat) : dn 40 (tD f) = true := nD_dn f
theorem deq_no {d : D} (h : dn 40 d = true) : (!deq d d) = false := by rw [deq_refl h]; rfl
theorem due_eq {cs : List Nat} {n : Nat} (ps : List Nat) (h : ∀ p ∈ ps, p < cs.length) : (ps.map fun p => (nD (atF cs n)).getD p .non) = nD (ps.map fun i => (atF cs n).getD i 0) := by
  unfold nD
  rw [List.map_map]
  apply List.map_congr_left
  intro i m
  have hi : i < (atF cs n).length := by rw [atF_len]; exact h i m
  show ((atF cs n).map fun c : Nat => D.int (c : Int)).getD i .non = _
  rw [List.getD_eq_getElem?_getD, List.getElem?_map, List.getElem?_eq_getElem hi]
  show D.int (((atF cs n)[i] : Nat) : Int) = D.int (((atF cs n).getD i 0 : Nat) : Int)
  rw [List.getD_eq_getElem?_getD, List.getElem?_eq_getElem hi]
  rfl
end K2
end DL
namespace DL
open PySem PySem.Spec L2 Gd
namespace K2
theorem vc__law_right (a : Addr) : ∀ ds post, sp__law_right a ds post → r__law_right a { nx := fun _ _ => post .non, rt := fun d _ => post d } (startD N__law_right ds) [] := by
  rintro ds post ⟨cs, rfl, hp, h720, h6, hpost⟩
  have pp := prodN_pos hp
  have sm := hp.sm
  -- told, size
  refine ⟨_, cs, rfl, rfl, hp, by omega, by omega, rfl, ?_⟩
  generalize hg : (D.tup ((allF cs).map tD)) = g
  have hg : g = told cs := hg.symm
  have e1 : ((1 : Nat) : Int) = 1 := rfl
  refine lp_size cs 1 none hp fun x2 => ?_
  rw [Nat.one_mul]
  -- the first test
  refine ⟨by rw [hg]; rfl, ?_⟩
  refine no (by rw [hg]; rfl) ?_
  have RP : Rp (.int ((prodN cs : Nat) : Int)) := Rp_nat (big (by omega))
  show fLen g [] _
  rw [fLen_of (q := g) (xs := (allF cs).map tD) (by rw [hg]; rfl), told_len hp]
  refine no (same_no rfl) ?_
  refine ⟨_, cs, rfl, rfl, hp, RP, RP, ?_⟩
  refine no (same_no rfl) ?_
  refine ⟨_, cs, rfl, rfl, hp, ?_⟩
  refine no (same_no rfl) ?_
  -- filling = (0,) * len(counts)
  refine ⟨by show 1 ≤ 16777216; decide, ?_⟩
  refine ⟨by simp, by omega, by rw [nD_len]; omega, by simp, ?_⟩
  have e0 : (List.replicate (((nD cs).length : Nat) : Int).toNat [D.int 0]).flatten = nD (atF cs 0) := by
    rw [atF_zero, nD_rep, List.flatten_replicate_singleton, Int.toNat_natCast, nD_len]
    rfl
  have c0 : cur cs 0 = some (atF cs 0) := if_pos (by omega)
  show dSeqS _ _ _ (put _ 3 (.tup (List.replicate (((nD cs).length : Nat) : Int).toNat [D.int 0]).flatten)) []
  rw [e0]
  -- all numbers
  refine ⟨Rg.nat (by omega), ?_⟩
  show forGo _ _ _ (rngD 0 1 (((prodN cs : Nat) : Int)).toNat) (dr a cs x2 (some (tD (atF cs 0))) none none none (some g) _ none none none) []
  rw [Int.toNat_natCast, rngD_nD, List.range_eq_range']
  have e3 : tD (atF cs 0) = oD (cur cs 0) := by rw [c0]; rfl
  rw [e3]
  refine lp_num hg hp h720 h6 (prodN cs) 0 none (by omega) fun x4 => ?_
  -- filling is not None, fillings_of(counts=counts) != told
  refine ⟨_, cs, rfl, rfl, hp, by omega, by omega, ?_⟩
  have dg : dn 40 g = true := by rw [hg]; exact told_dn cs
  have fg : frz [] g = g := frz_nil g
  have ne_told : ∀ {Q : D → Sto → Prop}, Q (.bl false) [] → fNe (told cs) g [] Q := by
    intro Q q
    rw [hg]
    refine ⟨told_dn cs, told_dn cs, ?_⟩
    rw [show (!deq (frz [] (told cs)) (frz [] (told cs))) = false from deq_no (told_dn cs)]
    exact q
  refine ne_told ?_
  -- number = draw(heap, size)
  refine ⟨_, rfl, by omega, by omega, fun r r0 r1 => ?_⟩
  obtain ⟨n, rfl⟩ := Int.eq_ofNat_of_zero_le r0
  have hn : n < prodN cs := by omega
  have al := atF_len cs n
  have R1 : Rp (tD (atF cs n)) := Rp_tup (atF_sm hp n) (by omega)
  refine told_ix hg hp hn ?_
  refine ⟨_, _, cs, atF cs n, rfl, rfl, rfl, hp, ?_⟩
  rw [numG_at hn]
  refine no (same_no rfl) ?_
  refine ⟨_, cs, n, rfl, rfl, hp, by omega, ?_⟩
  refine told_ix hg hp hn ?_
  refine ⟨tD_dn _, tD_dn _, ?_⟩
  refine no (deq_no (tD_dn _)) ?_
  -- places
  have key : ∀ ps : List Nat, ps.length ≤ 7 → (∀ p ∈ ps, p < cs.length) → (dSeqS (dPar [9, 10] (dCons (dNew dNil) (dCons (dCB (one fRepr) (dCons (dVar 1) dNil)) dNil))) (dSeqS (dFor (dSeq (dVar 5)) (dgName 6) b2__law_right) (dFrz 9 (dSeqS (dIfS (dOr (dTest (dOp fNe (dCB (one fRepr) (dCons (dCall sp_at_places (dCons (dOp fIx (dVar 7) (dVar 4)) (dCons (dCB (one fTuple) (dCons (dVar 5) dNil)) dNil))) dNil)) (dCB (one fRepr) (dCons (dCB (one fTuple) (dCons (dVar 9) dNil)) dNil)))) (dTest (dOp fNe (dCallK sp_at_places kb_at_places_0_places_filling_g dNil (dCons (dVar 5) (dCons (dOp fIx (dVar 7) (dVar 4)) dNil))) (dCB (one fTuple) (dCons (dVar 9) dNil))))) (dRet (dC (.bl false))) dNext) (dRet (dOp fEq (dCB (one fRepr) (dCons (dVar 1) dNil)) (dVar 10)))))))
      { nx := fun _ _ => post .non, rt := fun d _ => post d } (dr a cs x2 (some .non) (some (.int (n : Int))) (some (.lst (nD ps))) none (some g) (some (.int ((prodN cs : Nat) : Int))) none none none) [] := by
    intro ps hps hlt
    refine ⟨by show 0 ≤ 16777216; decide, fun p => ?_⟩
    have RC : Rp (.lst (nD cs)) := Rp_lst sm (by omega)
    refine ⟨RC, rfl, ?_⟩
    refine lp_due (p := p) hg hp hn ps [] none (by simpa using hps) hlt fun x6 => ?_
    refine opt_of getS_self ?_
    show dSeqS _ _ _ _ (delS [(p, _)] p)
    rw [delS_one, List.nil_append]
    have R2 : Rp (.tup (nD (ps.map fun i => (atF cs n).getD i 0))) := by
      refine Rp_tup ?_ (by rw [List.length_map]; omega)
      intro x m
      obtain ⟨i, mi, rfl⟩ := List.mem_map.mp m
      have hi : i < (atF cs n).length := by rw [al]; exact hlt i mi
      refine atF_sm hp n _ ?_
      rw [List.getD_eq_getElem?_getD, List.getElem?_eq_getElem hi]
      exact List.getElem_mem hi
    refine told_ix hg hp hn ?_
    refine ⟨_, _, nD (atF cs n), ps, rfl, rfl, rfl, by rw [nD_len, al]; exact hlt, by omega, ?_⟩
    rw [due_eq ps hlt]
    refine ⟨R2, R2, ?_⟩
    refine no (same_no rfl) ?_
    refine told_ix hg hp hn ?_
    refine ⟨_, _, nD (atF cs n), ps, rfl, rfl, rfl, by rw [nD_len, al]; exact hlt, by omega, ?_⟩
    rw [due_eq ps hlt]
    refine ⟨nD_dn _, nD_dn _, ?_⟩
    refine no (deq_no (nD_dn _)) ?_
    refine ⟨RC, ?_⟩
    show post (.bl (decide (shw (.lst (nD cs)) = shw (.lst (nD cs)))))
    rw [decide_eq_true rfl]
    exact hpost
  refine ⟨by show 0 ≤ 16777216; decide, nD_dn cs, rfl, ?_⟩
  by_cases hz : cs = []
  · refine no ?_ ?_
    · rw [hz]
      rfl
    · exact ⟨by show 0 ≤ 16777216; decide, key [] (by decide) (fun p m => nomatch m)⟩
  · have h1 : 1 ≤ cs.length := List.length_pos_iff.mpr hz
    refine yes ?_ ?_
    · obtain ⟨c, r, rfl⟩ := List.exists_cons_of_ne_nil hz
      show (!deq (.lst (nD (c :: r))) (.lst [])) = true
      simp [deq, py, pyAll, nD, PyData.eqv, PyData.eqvAll]
    · refine ⟨_, rfl, by decide, by decide, fun r r0 r1 => ?_⟩
      obtain ⟨k, rfl⟩ := Int.eq_ofNat_of_zero_le r0
      refine ⟨Rg.nat (by omega), ?_⟩
      refine go_draws h1 h6 _ [] ?_ (fun p m => nomatch m) fun ps hps hlt => key ps hps hlt
      show 0 + (rngD 0 1 (((k : Nat) : Int)).toNat).length ≤ 7
      rw [rngD_len]
      omega
end K2
end DL
namespace DL
open PySem PySem.Spec L2 Gd
namespace K2
abbrev dl (a : Addr) (ns : List Int) (x2 x3 x4 x5 x6 x7 x8 x9 x10 : Option D) : Sl := [some (.fls ns), some (.adr a), x2, x3, x4, x5, x6, x7, x8, x9, x10]
theorem ln__law_heap : ∀ ds post, sp__law_heap ds post → ds.length = 1 := lnHeap
theorem vc__law_heap : ∀ ds post, sp__law_heap ds post → r__law_heap { nx := fun _ _ => post .non, rt := fun d _ => post d } (startD N__law_heap ds) [] := vcHeapA 22031 (by decide)
theorem vc__law_draw : ∀ (a c : Addr) (cs : List Int) (z m : Int), a ≠ c → ROk cs z → 1 ≤ m → m < 2 ^ 62 → r__law_draw { nx := fun _ _ => False, rt := drawEnd a c m } (startD N__law_draw [.adr a, .int m]) [(a, [.adr c, .int z]), (c, cs.map D.int)] := vcDraw 48271 17 (by decide)
theorem lp_counts {DD : DEnds} {a p : Addr} {ns : List Int} {x2 x3 x4 x5 x10 : Option D} : ∀ (xs : List D) (cs : List Nat) (x6 x9 : Option D), cs.length + xs.length ≤ 6 → Pos1 cs → prodN cs ≤ 720 →
    (∀ (cs : List Nat) x6 x9, cs.length ≤ 6 → Pos1 cs → prodN cs ≤ 720 → DD.nx (dl a ns x2 x3 x4 x5 x6 (some (.adr p)) (some (.int ((prodN cs : Nat) : Int))) x9 x10) [(p, nD cs)]) →
    forGo (dgName 6) (b0_law a) DD xs (dl a ns x2 x3 x4 x5 x6 (some (.adr p)) (some (.int ((prodN cs : Nat) : Int))) x9 x10) [(p, nD cs)]
  | [], cs, x6, x9, hl, hp, hm, h => h cs x6 x9 (by simpa using hl) hp hm
  | x :: xs, cs, x6, x9, hl, hp, hm, h => by
    rw [List.length_cons] at hl
    have turn : ∀ c : Nat, 1 ≤ c → c ≤ 7 → (dSeqS (dSet 9 (dC (.int (c : Int)))) (dIfS (dTest (dOp fLe (dOp fMul (dVar 8) (dVar 9)) (dC (.int 720)))) (dSeqS (dDrop (dML fAppend (dVar 7) (dCons (dVar 9) dNil))) (dSet 8 (dOp fMul (dVar 8) (dVar 9)))) dNext))
        { DD with nx := forGo (dgName 6) (b0_law a) DD xs, ct := forGo (dgName 6) (b0_law a) DD xs, bk := DD.nx } (dl a ns x2 x3 x4 x5 (some x) (some (.adr p)) (some (.int ((prodN cs : Nat) : Int))) x9 x10) [(p, nD cs)] := by
      intro c h1 h7
      refine ⟨MOk.right (by omega), ?_⟩
      show (if decide (((prodN cs : Nat) : Int) * (c : Int) ≤ 720) = true then _ else _)
      by_cases hle : prodN cs * c ≤ 720
      · refine yes (decide_eq_true (by rw [← Int.natCast_mul]; exact_mod_cast hle)) ?_
        refine ⟨?_, ?_⟩
        · show (getS [(p, nD cs)] p).isSome = true
          rw [getS_self]
          rfl
        · refine opt_of getS_self ⟨by unfold Fit; rw [nD_len]; omega, ?_⟩
          rw [setS_one]
          refine ⟨MOk.right (by omega), ?_⟩
          have e : nD cs ++ [D.int (c : Int)] = nD (cs ++ [c]) := by rw [nD_append]; rfl
          have e2 : ((prodN cs : Nat) : Int) * (c : Int) = ((prodN (cs ++ [c]) : Nat) : Int) := by
            rw [prodN_append, ← Int.natCast_mul]
            simp [prodN]
          rw [e]
          show forGo _ _ _ xs (dl a ns x2 x3 x4 x5 (some x) (some (.adr p)) (some (.int (((prodN cs : Nat) : Int) * (c : Int)))) _ x10) _
          rw [e2]
          refine lp_counts xs (cs ++ [c]) _ _ (by rw [List.length_append, List.length_singleton]; omega) ?_ (by rw [prodN_append]; simpa [prodN] using hle) h
          intro y m
          rcases List.mem_append.mp m with m | m
          · exact hp y m
          · rw [List.mem_singleton.mp m]
            omega
      · refine no (decide_eq_false fun z => hle (by rw [← Int.natCast_mul] at z; exact_mod_cast z)) ?_
        exact lp_counts xs cs _ _ (by omega) hp hm h
    refine ⟨_, rfl, by decide, by decide, fun r r0 r1 => ?_⟩
    obtain ⟨k, rfl⟩ := Int.eq_ofNat_of_zero_le r0
    refine ⟨by show 6 ≤ 16777216; decide, ?_⟩
    refine ⟨_, rfl, by simp, by simp, fun y m => ?_⟩
    have e : (1 : Int) + (k : Int) = ((1 + k : Nat) : Int) := by omega
    simp only [List.mem_cons, List.not_mem_nil, or_false] at m
    rcases m with rfl | rfl | rfl | rfl | rfl | rfl
    · exact turn 2 (by decide) (by decide)
    · exact turn 3 (by decide) (by decide)
    · exact turn 2 (by decide) (by decide)
    · exact turn 1 (by decide) (by decide)
    · exact turn 4 (by decide) (by decide)
    · rw [e]
      exact turn (1 + k) (by omega) (by omega)
theorem lp_turns {DD : DEnds} {a : Addr} {ns : List Int} {x3 x4 x5 x10 : Option D} : ∀ (xs : List D) (x2 x6 x7 x8 x9 : Option D), (∀ x2 x6 x7 x8 x9, DD.nx (dl a ns x2 x3 x4 x5 x6 x7 x8 x9 x10) []) →
    forGo (dgName 2) (b1_law a) DD xs (dl a ns x2 x3 x4 x5 x6 x7 x8 x9 x10) []
  | [], x2, x6, x7, x8, x9, h => h x2 x6 x7 x8 x9
  | x :: xs, x2, x6, x7, x8, x9, h => by
    refine ⟨by show 0 ≤ 16777216; decide, fun p => ⟨rfl, ?_⟩⟩
    refine ⟨_, rfl, by decide, by decide, fun r r0 r1 => ?_⟩
    obtain ⟨k, rfl⟩ := Int.eq_ofNat_of_zero_le r0
    refine ⟨Rg.nat (by omega), ?_⟩
    refine lp_counts _ [] _ _ ?_ (fun x m => nomatch m) (by decide) fun cs x6 x9 h6 hp h720 => ?_
    · show 0 + (rngD 0 1 (((k : Nat) : Int)).toNat).length ≤ 6
      rw [rngD_len]
      omega
    · refine opt_of getS_self ?_
      show dIfS _ _ _ _ _ (delS [(p, _)] p)
      rw [delS_one]
      refine ⟨cs, rfl, hp, h720, h6, ?_⟩
      exact lp_turns xs _ _ _ _ _ h
end K2
end DL
namespace DL
open PySem PySem.Spec L2 Gd
theorem pos_of {cs : List Nat} (h : cs.all (fun c => decide (1 ≤ c) && decide (c < 2 ^ 60)) = true) : Pos1 cs := by
  intro x m
  have := List.all_eq_true.mp h x m
  simpa using this
namespace K2
def great (k : Nat) : List Nat := List.replicate 4 6 ++ [2, 1, 5] ++ List.replicate k 6
theorem prodN_rep (k n : Nat) : prodN (List.replicate k n) = n ^ k := by
  induction k with
  | zero => rfl
  | succ k ih =>
    rw [List.replicate_succ]
    show n * prodN _ = _
    rw [ih, Nat.pow_succ, Nat.mul_comm]
theorem great_prod {k : Nat} (h : k < 17) : prodN (great k) < 2 ^ 60 := by
  unfold great
  rw [prodN_append, prodN_append, prodN_rep, prodN_rep]
  have : 6 ^ k ≤ 6 ^ 16 := Nat.pow_le_pow_right (by decide) (by omega)
  have e : 6 ^ 4 * prodN [2, 1, 5] = 12960 := by decide
  rw [e]
  have e2 : (6 : Nat) ^ 16 = 2821109907456 := by decide
  omega
theorem great_pos (k : Nat) : Pos1 (great k) := by
  intro x m
  unfold great at m
  rcases List.mem_append.mp m with m | m
  · rcases List.mem_append.mp m with m | m
    · rw [(List.mem_replicate.mp m).2]
      decide
    · simp only [List.mem_cons, List.not_mem_nil, or_false] at m
      rcases m with rfl | rfl | rfl <;> decide
  · rw [(List.mem_replicate.mp m).2]
    decide
theorem great_len (k : Nat) : (great k).length = 7 + k := by
  unfold great
  simp only [List.length_append, List.length_replicate, List.length_cons, List.length_nil]
theorem atF_lt {cs : List Nat} (h : Pos1 cs) (n i : Nat) (hi : i < cs.length) : (atF cs n).getD i 0 < cs.getD i 0 := by
  have h1 := digs_lt cs.reverse n (rev1 h) (cs.length - 1 - i) (by rw [List.length_reverse]; omega)
  have e1 : (atF cs n).getD i 0 = (digs cs.reverse n).getD (cs.length - 1 - i) 0 := by
    unfold atF
    rw [List.getD_eq_getElem?_getD, List.getElem?_reverse (by rw [digs_len, List.length_reverse]; exact hi), digs_len, List.length_reverse, List.getD_eq_getElem?_getD]
  have e2 : cs.reverse.getD (cs.length - 1 - i) 0 = cs.getD i 0 := by
    rw [List.getD_eq_getElem?_getD, List.getElem?_reverse (by omega), List.getD_eq_getElem?_getD]
    congr 2
    omega
  rw [e1, ← e2]
  exact h1
theorem go_all {a : Addr} {ns : List Int} {x2 x3 x4 x5 x6 x7 x8 x9 x10 : Option D} {Q : D → Sto → Prop} : ∀ (f cs : List Nat) (acc : List Bool), f.length = cs.length → (∀ i, i < cs.length → f.getD i 0 < cs.getD i 0) → acc.length + cs.length ≤ 1000 → acc.all id = true →
    (∀ bs : List Bool, bs.all id = true → Q (.lst (bs.map D.bl)) []) →
    lcGo (dgTup 2 (dgCons (dgName 10) (dgCons (dgName 9) dgNil))) dYes (dChain fLe fLt (dC (.int 0)) (dVar 10) (dVar 9)) [10, 9] (dl a ns x2 x3 x4 x5 x6 x7 x8 x9 x10) Q (zipD (nD f) (nD cs)) (acc.map D.bl) []
  | [], [], acc, _, _, _, ha, h => h acc ha
  | k :: f, c :: cs, acc, hl, hlt, hs, ha, h => by
    rw [List.length_cons] at hs
    have h0 : k < c := hlt 0 (by simp)
    refine ⟨rfl, ?_⟩
    refine ⟨by unfold Fit; rw [List.length_map]; omega, ?_⟩
    have e : acc.map D.bl ++ [D.bl (decide ((k : Int) < (c : Int)))] = (acc ++ [true]).map D.bl := by
      rw [decide_eq_true (by omega), List.map_append]
      rfl
    show lcGo _ _ _ _ _ _ (zipD (nD f) (nD cs)) (acc.map D.bl ++ [D.bl (decide ((k : Int) < (c : Int)))]) []
    rw [e]
    refine go_all f cs (acc ++ [true]) (by simpa using hl) (fun i hi => hlt (i + 1) (by rw [List.length_cons]; omega)) (by rw [List.length_append, List.length_singleton]; omega) ?_ h
    rw [List.all_append, ha]
    rfl
  | [], _ :: _, _, hl, _, _, _, _ => by simp at hl
  | _ :: _, [], _, hl, _, _, _, _ => by simp at hl
theorem vc_law (a : Addr) : ∀ ns : List Int, ns.length ≤ 63 → r_law a { nx := fun _ _ => False, rt := fun d _ => d = .bl true } (put (startD N_law [.fls ns]) 1 (.adr a)) [] := by
  intro ns few
  refine ⟨MOk.left (by decide), ?_⟩
  have rg : Rg (2 + 2 * (if decide ((2 : Int) < (ns.length : Int)) = true then 1 else 0)) := by
    unfold Rg
    split <;> omega
  refine ⟨rg, ?_⟩
  refine lp_turns _ none none none none none fun x2 x6 x7 x8 x9 => ?_
  -- great
  refine ⟨by show 1 ≤ 16777216; decide, by simp, by decide, by decide, by simp, ?_⟩
  refine ⟨by show 3 ≤ 16777216; decide, by show 7 ≤ 16777216; decide, ?_⟩
  refine ⟨by show 1 ≤ 16777216; decide, ?_⟩
  refine ⟨_, rfl, by decide, by decide, fun r r0 r1 => ?_⟩
  obtain ⟨k, rfl⟩ := Int.eq_ofNat_of_zero_le r0
  have hk : k < 17 := by omega
  refine ⟨by simp, by omega, by omega, by simp, ?_⟩
  have eg : (List.replicate (4 : Int).toNat [D.int 6]).flatten ++ [D.int 2, D.int 1, D.int 5] ++ (List.replicate ((k : Nat) : Int).toNat [D.int 6]).flatten = nD (great k) := by
    simp only [Int.toNat_natCast, List.flatten_replicate_singleton]
    unfold great
    rw [nD_append, nD_append, nD_rep, nD_rep]
    rfl
  show Fit (((List.replicate (4 : Int).toNat [D.int 6]).flatten ++ [D.int 2, D.int 1, D.int 5]).length + ((List.replicate ((k : Nat) : Int).toNat [D.int 6]).flatten).length) ∧ dSeqS _ _ _ (put _ 3 (.tup ((List.replicate (4 : Int).toNat [D.int 6]).flatten ++ [D.int 2, D.int 1, D.int 5] ++ (List.replicate ((k : Nat) : Int).toNat [D.int 6]).flatten))) []
  rw [← List.length_append, eg]
  have gp := great_pos k
  have gl := great_len k
  have gP := great_prod hk
  have g1 := prodN_pos gp
  refine ⟨by unfold Fit; rw [nD_len]; omega, ?_⟩
  -- number, filling
  refine ⟨_, great k, rfl, rfl, gp, ?_⟩
  refine ⟨_, rfl, by omega, by omega, fun r r0 r1 => ?_⟩
  obtain ⟨n, rfl⟩ := Int.eq_ofNat_of_zero_le r0
  have hn : n < prodN (great k) := by omega
  refine ⟨_, great k, n, rfl, rfl, gp, by omega, ?_⟩
  have al := atF_len (great k) n
  refine no (same_no (by rw [nD_len, nD_len, al])) ?_
  refine go_all (atF (great k) n) (great k) [] al (fun i hi => atF_lt gp n i hi) (by rw [List.length_nil]; omega) rfl fun bs hbs => ?_
  refine opt_of (asB_map bs) ?_
  refine no (by rw [hbs]; rfl) ?_
  refine ⟨_, _, great k, atF (great k) n, rfl, rfl, rfl, gp, ?_⟩
  rw [numG_at hn]
  refine no (same_no rfl) ?_
  -- the small ones
  refine ⟨by show 0 ≤ 16777216; decide, ?_⟩
  refine ⟨_, [], rfl, rfl, (fun x m => nomatch m), by decide, by decide, ?_⟩
  refine ⟨by show 0 ≤ 16777216; decide, by show 1 ≤ 16777216; decide, rfl, rfl, ?_⟩
  refine ⟨by show 0 ≤ 16777216; decide, ?_⟩
  refine ⟨_, [], rfl, rfl, (fun x m => nomatch m), ?_⟩
  refine ⟨by show 0 ≤ 16777216; decide, by show 0 ≤ 16777216; decide, ?_⟩
  refine ⟨_, _, [], [], rfl, rfl, rfl, (fun x m => nomatch m), ?_⟩
  refine ⟨by show 0 ≤ 16777216; decide, ?_⟩
  refine ⟨_, [], 0, rfl, rfl, (fun x m => nomatch m), by decide, ?_⟩
  refine ⟨by show 0 ≤ 16777216; decide, rfl, rfl, ?_⟩
  -- what is handed back
  refine ⟨by show 3 ≤ 16777216; decide, ?_⟩
  refine ⟨_, [2, 1, 2], rfl, rfl, pos_of (by decide), by decide, by decide, ?_⟩
  refine ⟨by show 3 ≤ 16777216; decide, by show 3 ≤ 16777216; decide, by show 3 ≤ 16777216; decide, by show 3 ≤ 16777216; decide, by show 4 ≤ 16777216; decide, rfl, rfl, ?_⟩
  refine ⟨by show 2 ≤ 16777216; decide, by show 2 ≤ 16777216; decide, ?_⟩
  refine ⟨_, _, [2, 3], [1, 1], rfl, rfl, rfl, pos_of (by decide), ?_⟩
  refine ⟨by show 2 ≤ 16777216; decide, by show 3 ≤ 16777216; decide, ?_⟩
  refine ⟨_, _, [.int 7, .int 8], [1, 0, 1], rfl, rfl, rfl, by decide, by decide, ?_⟩
  refine ⟨by show 3 ≤ 16777216; decide, rfl, rfl, ?_⟩
  show D.bl (deq (.tup [.int 8, .int 7, .int 8]) (.tup [.int 8, .int 7, .int 8])) = .bl true
  rw [deq_refl (n := 40) rfl]
end K2
end DL

namespace DL
open PySem PySem.Spec L2 Gd
namespace K2
section
variable {P : Program} {w : World} {K : PySem.W.Frag} {mg : Str → Option Value} {base : Heap}
theorem ok_fill_count (T : Txt K mg) : FnG P w K mg base CX0 1 T.fill_count.f T.fill_count.fd ["counts"] (spP K sp_fill_count) := by
  have nd := sc_fill_count.nd
  refine fnD T.fill_count.F sc_fill_count ln_fill_count fun cdv A fr s H E room guard dx h1 h2 => ?_
  have hu := room.units
  exact ⟨_, r_fill_count, (dss_cons (ds_set nd rfl (by first | exact .inl rfl | exact .inr rfl) de_int) (dss_cons (ds_for PassesOwn.never rfl (di_seq_ K (dv 0)) (dg_name nd rfl (by first | exact .inl rfl | exact .inr rfl)) (dss_one (ds_set nd rfl (by first | exact .inl rfl | exact .inr rfl) (de_op (op_mulAll_ K) od_mul (dv 1) (dv 2))))) (dss_one (ds_ret (dv 1))))), vc_fill_count⟩
theorem ok_fillings_of (T : Txt K mg) : FnG P w K mg base CX0 1 T.fillings_of.f T.fillings_of.fd ["counts"] (spP K sp_fillings_of) := by
  have nd := sc_fillings_of.nd
  refine fnD T.fillings_of.F sc_fillings_of ln_fillings_of fun cdv A fr s H E room guard dx h1 h2 => ?_
  have hu := room.units
  exact ⟨_, r_fillings_of, (dss_cons (ds_set nd rfl (by first | exact .inl rfl | exact .inr rfl) (de_lst (da_cons (de_tup da_nil) da_nil))) (dss_cons (ds_for PassesOwn.never rfl (di_seq_ K (dv 0)) (dg_name nd rfl (by first | exact .inl rfl | exact .inr rfl)) (dss_one (ds_setLc2 (own := [("filling", 3), ("case", 4)]) (vs1 := [4]) rfl nd rfl rfl (by rfl) (di_seq_ K (dv 1)) (show BlkOk ["counts", "fillings", "count", "filling", "case"] (defScope s_fillings_of) _ [("filling", 3), ("case", 4)] from ⟨rfl, by decide +kernel, by decide +kernel, by decide +kernel, by decide +kernel⟩) (by decide) (by decide) (by decide) (fun m s0 H0 C cl fp => (dg_name nd rfl (by first | exact .inl rfl | exact .inr rfl))) (fun m s0 H0 C cl fp => dts_nil) (fun m s0 H0 C cl fp => (di_range1 rfl T.b_range (da_cons (dv 2) da_nil))) (fun m s0 H0 C cl fp => (dg_name nd rfl (by first | exact .inl rfl | exact .inr rfl))) (fun m s0 H0 C cl fp => dts_nil) (fun m s0 H0 C cl fp => (de_op (op_addAll_ K) od_add (dv 3) (de_tup (da_cons (dv 4) da_nil))))))) (dss_one (ds_ret (de_callTy_ (cr_tuple_ K) cd_tuple_ (da_cons (dv 1) da_nil) fun h1 => pe_callTy (cr_tuple_ K) rfl T.b_tuple rfl h1))))), vc_fillings_of⟩
theorem ok_filling_number (T : Txt K mg) : FnG P w K mg base CX0 1 T.filling_number.f T.filling_number.fd ["counts", "filling"] (spP K sp_filling_number) := by
  have nd := sc_filling_number.nd
  refine fnD T.filling_number.F sc_filling_number ln_filling_number fun cdv A fr s H E room guard dx h1 h2 => ?_
  have hu := room.units
  exact ⟨_, r_filling_number, (dss_cons (ds_set nd rfl (by first | exact .inl rfl | exact .inr rfl) de_int) (dss_cons (ds_for PassesOwn.never rfl (di_zip_ K (da_cons (dv 0) (da_cons (dv 1) da_nil)) fun h1 => pi_zipM rfl T.b_zip h1) (dg_tup_ K (dgs_cons' (dg_name nd rfl (by first | exact .inl rfl | exact .inr rfl)) (dgs_cons' (dg_name nd rfl (by first | exact .inl rfl | exact .inr rfl)) dgs_nil fun h1 h2 => pgs_cons h1 h2) fun h1 h2 => pgs_cons h1 h2) fun h1 => pg_tup rfl h1) (dss_one (ds_set nd rfl (by first | exact .inl rfl | exact .inr rfl) (de_op (op_addAll_ K) od_add (de_op (op_mulAll_ K) od_mul (dv 2) (dv 3)) (dv 4))))) (dss_one (ds_ret (dv 2))))), vc_filling_number⟩
theorem ok_filling_at (T : Txt K mg) : FnG P w K mg base CX0 1 T.filling_at.f T.filling_at.fd ["counts", "number"] (spP K sp_filling_at) := by
  have nd := sc_filling_at.nd
  refine fnD T.filling_at.F sc_filling_at ln_filling_at fun cdv A fr s H E room guard dx h1 h2 => ?_
  have hu := room.units
  exact ⟨_, r_filling_at, (dss_cons (ds_set nd rfl (by first | exact .inl rfl | exact .inr rfl) (de_new da_nil)) (dss_cons (ds_for PassesOwn.never rfl (di_rev_ K (dv 0) fun h1 => RT.pi_revA rfl T.b_reversed h1) (dg_name nd rfl (by first | exact .inl rfl | exact .inr rfl)) (dss_cons (ds_expr (de_met_ K md_append (dv 2) (da_cons (de_op op_mod od_onI (dv 1) (dv 3)) da_nil) fun h1 h2 => pe_bm PySem.F.plainAttrs_list PySem.F.slot_list_append PySem.F.type_list_append mt_append h1 h2)) (dss_one (ds_set nd rfl (by first | exact .inl rfl | exact .inr rfl) (de_op op_fdivW od_onI (dv 1) (dv 3)))))) (dss_frz 2 (dss_one (ds_ret (de_callTy_ (cr_tuple_ K) cd_tuple_ (da_cons (de_rev_ K (dv 2)) da_nil) fun h1 => pe_callTy (cr_tuple_ K) rfl T.b_tuple rfl h1)))))), vc_filling_at⟩
theorem ok_at_places (T : Txt K mg) : FnG P w K mg base CX0 1 T.at_places.f T.at_places.fd ["filling", "places"] (spP K sp_at_places) := by
  have nd := sc_at_places.nd
  refine fnD T.at_places.F sc_at_places ln_at_places fun cdv A fr s H E room guard dx h1 h2 => ?_
  have hu := room.units
  exact ⟨_, r_at_places, (dss_one (ds_ret (de_callTy_ (cr_tuple_ K) cd_tuple_ (da_cons (de_lc (own := [("place", 2)]) rfl nd (di_seq_ K (dv 1)) (show BlkOk ["filling", "places", "place"] (defScope s_at_places) _ [("place", 2)] from ⟨rfl, by decide +kernel, by decide +kernel, by decide +kernel, by decide +kernel⟩) (by decide) (fun m s0 H0 C cl fp => (dg_name nd rfl (by first | exact .inl rfl | exact .inr rfl))) (fun m s0 H0 C cl fp => dts_nil) (fun m s0 H0 C cl fp => (de_ix_ K (dv 0) (dv 2)))) da_nil) fun h1 => pe_callTy (cr_tuple_ K) rfl T.b_tuple rfl h1))), vc_at_places⟩
theorem ok__law_heap (T : Txt K mg) : FnG P w K mg base CX0 1 T._law_heap.f T._law_heap.fd ["_law_script"] (spP K sp__law_heap) := by
  have nd := sc__law_heap.nd
  refine fnD T._law_heap.F sc__law_heap ln__law_heap fun cdv A fr s H E room guard dx h1 h2 => ?_
  have hu := room.units
  exact ⟨_, r__law_heap, (dss_cons (ds_par_ (da_cons (de_lc (own := [("_law_cell", 1)]) rfl nd (di_seq_ K (de_slice_ K (dv 0) do_none (do_some de_int))) (show BlkOk ["_law_script", "_law_cell", "_law_cells", "_law_stir"] (defScope s__law_heap) _ [("_law_cell", 1)] from ⟨rfl, by decide +kernel, by decide +kernel, by decide +kernel, by decide +kernel⟩) (by decide) (fun m s0 H0 C cl fp => (dg_name nd rfl (by first | exact .inl rfl | exact .inr rfl))) (fun m s0 H0 C cl fp => dts_nil) (fun m s0 H0 C cl fp => (de_op (op_addAll_ K) od_add (de_op (op_mulAll_ K) od_mul de_int (de_callB_ call_abs cd_abs (da_cons (dv 1) da_nil) fun h1 => pe_callB call_abs rfl T.b_abs rfl h1)) (de_callTy_ call_int1 cd_int (da_cons (de_cmp op_lt od_onB (dv 1) de_int (nomark _)) da_nil) fun h1 => pe_callTy call_int1 rfl T.b_int rfl h1)))) (da_cons de_int da_nil)) fun h1 => ps_par (by rfl) nd rfl rfl (by decide) rfl rfl h1 (by rfl)) (dss_cons (ds_for PassesOwn.never rfl (di_seq_ K (dv 2)) (dg_name nd rfl (by first | exact .inl rfl | exact .inr rfl)) (dss_one (ds_set nd rfl (by first | exact .inl rfl | exact .inr rfl) (de_op op_mod od_onI (de_callTy_ call_int1 cd_int (da_cons (de_op (op_addAll_ K) od_add (de_op (op_addAll_ K) od_add (de_op (op_mulAll_ K) od_mul (dv 3) de_int) (de_op op_mod od_onI (de_callTy_ call_int1 cd_int (da_cons (dv 1) da_nil) fun h1 => pe_callTy call_int1 rfl T.b_int rfl h1) de_int)) de_int) da_nil) fun h1 => pe_callTy call_int1 rfl T.b_int rfl h1) de_int)))) (dss_one (ds_ret (de_lst (da_cons (de_rev_ K (de_lc (own := [("_law_cell", 1)]) rfl nd (di_seq_ K (dv 2)) (show BlkOk ["_law_script", "_law_cell", "_law_cells", "_law_stir"] (defScope s__law_heap) _ [("_law_cell", 1)] from ⟨rfl, by decide +kernel, by decide +kernel, by decide +kernel, by decide +kernel⟩) (by decide) (fun m s0 H0 C cl fp => (dg_name nd rfl (by first | exact .inl rfl | exact .inr rfl))) (fun m s0 H0 C cl fp => (dts_one (dt_cmp op_ge od_onB (dv 1) (de_op op_pow od_onI de_int de_int) (nomark _)))) (fun m s0 H0 C cl fp => (dv 1)))) (da_cons (dv 3) da_nil))))))), vc__law_heap⟩
theorem ok__law_draw (T : Txt K mg) : FnG P w K mg base CX0 1 T._law_draw.f T._law_draw.fd ["_law_heap_here", "_law_many"] (spR K spDraw) := by
  have nd := sc__law_draw.nd
  refine fnDraw T._law_draw.F sc__law_draw rfl fun cdv A fr s H E room guard dx => ?_
  have hu := room.units
  exact ⟨_, r__law_draw, (dss_cons (ds_while PassesOwn.never (DW.dt (dw_and (dt_cmp (op_neA_ K hu) od_ne (de_ix_ K (dv 0) de_int) (de_lst da_nil) (nomark _)) (dw_and1 (dt_cmp (op_eqA_ K hu) od_eq (de_ix_ K (de_ix_ K (dv 0) de_int) (de_un un_neg od_neg de_int)) de_int (nomark _))))) (dss_one (ds_expr (de_met0_ K md_pop (de_ix_ K (dv 0) de_int) fun h1 => pe_bm0 PySem.F.plainAttrs_list PySem.F.slot_list_pop PySem.F.type_list_pop mt_pop h1)))) (dss_cons (ds_if (dt_cmp (op_neA_ K hu) od_ne (de_ix_ K (dv 0) de_int) (de_lst da_nil) (nomark _)) (dss_cons (ds_set nd rfl (by first | exact .inl rfl | exact .inr rfl) (de_met0_ K md_pop (de_ix_ K (dv 0) de_int) fun h1 => pe_bm0 PySem.F.plainAttrs_list PySem.F.slot_list_pop PySem.F.type_list_pop mt_pop h1)) (dss_cons (ds_expr (de_met_ K md_append (de_ix_ K (dv 0) de_int) (da_cons (de_op op_fdivW od_onI (dv 2) (dv 1)) da_nil) fun h1 h2 => pe_bm PySem.F.plainAttrs_list PySem.F.slot_list_append PySem.F.type_list_append mt_append h1 h2)) (dss_one (ds_ret (de_op op_mod od_onI (de_callTy_ call_int1 cd_int (da_cons (dv 2) da_nil) fun h1 => pe_callTy call_int1 rfl T.b_int rfl h1) (dv 1)))))) dss_nil) (dss_cons (ds_setI_ (de_op op_mod od_onI (de_callTy_ call_int1 cd_int (da_cons (de_op (op_addAll_ K) od_add (de_op (op_mulAll_ K) od_mul (de_ix_ K (dv 0) de_int) de_int) de_int) da_nil) fun h1 => pe_callTy call_int1 rfl T.b_int rfl h1) de_int) (dv 0) de_int fun h1 h2 h3 => ps_asg h1 (pg_sub h2 h3 set_list)) (dss_one (ds_ret (de_op op_mod od_onI (de_callTy_ call_int1 cd_int (da_cons (de_op op_fdivW od_onI (de_ix_ K (dv 0) de_int) de_int) da_nil) fun h1 => pe_callTy call_int1 rfl T.b_int rfl h1) (dv 1))))))), vc__law_draw⟩
theorem ok__law_pick (T : Txt K mg) : FnG P w K mg base CX0 2 T._law_pick.f T._law_pick.fd ["_law_heap_here", "_law_some"] (spR K sp__law_pick) := by
  have nd := sc__law_pick.nd
  have G__law_draw := ok__law_draw (P := P) (w := w) (base := base) T
  refine fnR T._law_pick.F sc__law_pick ln__law_pick fun cdv A fr s H E room guard a c dx h1 h2 => ?_
  have hu := room.units
  exact ⟨_, r__law_pick a, (dss_one (ds_ret (de_ix_ K (dv 1) (de_callR_ K G__law_draw (room.mono (by decide)) guard rfl T._law_draw.m T._law_draw.F.2 T._law_draw.b h1 h2 (da_cons (dv 0) (da_cons (de_callB_ (cr_len_ K) cd_len (da_cons (dv 1) da_nil) fun h1 => pe_callB (cr_len_ K) rfl T.b_len rfl h1) da_nil)))))), vc__law_pick a⟩
theorem ok__law_next (T : Txt K mg) : FnG P w K mg base CX0 1 T._law_next.f T._law_next.fd ["_law_counts", "_law_filling"] (spP K sp__law_next) := by
  have nd := sc__law_next.nd
  refine fnD T._law_next.F sc__law_next ln__law_next fun cdv A fr s H E room guard dx h1 h2 => ?_
  have hu := room.units
  exact ⟨_, r__law_next, (dss_cons (ds_for PassesOwn.never rfl (di_range3' (fun h1 => pi_range3 rfl T.b_range h1) (da_cons (de_op op_sub od_onI0 (de_callB_ (cr_len_ K) cd_len (da_cons (dv 0) da_nil) fun h1 => pe_callB (cr_len_ K) rfl T.b_len rfl h1) de_int) (da_cons (de_un un_neg od_neg de_int) (da_cons (de_un un_neg od_neg de_int) da_nil)))) (dg_name nd rfl (by first | exact .inl rfl | exact .inr rfl)) (dss_one (ds_if (dt_cmp op_lt od_onB (de_op (op_addAll_ K) od_add (de_ix_ K (dv 1) (dv 2)) de_int) (de_ix_ K (dv 0) (dv 2)) (nomark _)) (dss_one (ds_ret (de_op (op_addAll_ K) od_add (de_op (op_addAll_ K) od_add (de_slice_ K (dv 1) do_none (do_some (dv 2))) (de_tup (da_cons (de_op (op_addAll_ K) od_add (de_ix_ K (dv 1) (dv 2)) de_int) da_nil))) (de_op (op_mulAll_ K) od_mul (de_tup (da_cons de_int da_nil)) (de_op op_sub od_onI0 (de_op op_sub od_onI0 (de_callB_ (cr_len_ K) cd_len (da_cons (dv 0) da_nil) fun h1 => pe_callB (cr_len_ K) rfl T.b_len rfl h1) de_int) (dv 2)))))) dss_nil))) (dss_one (ds_ret de_non))), vc__law_next⟩
theorem ok__law_right (T : Txt K mg) : FnG P w K mg base CX0 2 T._law_right.f T._law_right.fd ["_law_heap_here", "_law_counts"] (spR K sp__law_right) := by
  have nd := sc__law_right.nd
  have G__law_draw := ok__law_draw (P := P) (w := w) (base := base) T
  have G__law_next := ok__law_next (P := P) (w := w) (base := base) T
  have G_at_places := ok_at_places (P := P) (w := w) (base := base) T
  have G_fill_count := ok_fill_count (P := P) (w := w) (base := base) T
  have G_filling_at := ok_filling_at (P := P) (w := w) (base := base) T
  have G_filling_number := ok_filling_number (P := P) (w := w) (base := base) T
  have G_fillings_of := ok_fillings_of (P := P) (w := w) (base := base) T
  refine fnR T._law_right.F sc__law_right ln__law_right fun cdv A fr s H E room guard a c dx h1 h2 => ?_
  have hu := room.units
  exact ⟨_, r__law_right a, (dss_cons (ds_par_ (da_cons (de_call_ K G_fillings_of (room.mono (by decide)) guard rfl T.fillings_of.m T.fillings_of.F.2 T.fillings_of.b  (da_cons (de_callTy_ (cr_tuple_ K) cd_tuple_ (da_cons (dv 1) da_nil) fun h1 => pe_callTy (cr_tuple_ K) rfl T.b_tuple rfl h1) da_nil)) (da_cons de_int da_nil)) fun h1 => ps_par (by rfl) nd rfl rfl (by decide) rfl rfl h1 (by rfl)) (dss_cons (ds_for PassesOwn.never rfl (di_seq_ K (dv 1)) (dg_name nd rfl (by first | exact .inl rfl | exact .inr rfl)) (dss_one (ds_set nd rfl (by first | exact .inl rfl | exact .inr rfl) (de_op (op_mulAll_ K) od_mul (dv 8) (dv 2))))) (dss_cons (ds_if (DW.dt (dw_or (dt_not (dt_tru_ K (de_isi_ K (T := "tuple") (f := isi_tuple) (by decide) (dv 7) fun h1 => pe_callB (cr_isi_ K) rfl T.b_isinstance rfl (pa_cons h1 (pa_cons (pe_bltn (v := .ty "tuple") (u := .type "tuple") rfl T.b_tuple rfl rfl) pa_nil))))) (dw_or (dt_cmp (op_neA_ K hu) od_ne (de_callB_ (cr_len_ K) cd_len (da_cons (dv 7) da_nil) fun h1 => pe_callB (cr_len_ K) rfl T.b_len rfl h1) (dv 8) (nomark _)) (dw_or (dt_cmp (op_neA_ K hu) od_ne (de_callB_ (cr_repr_ K guard hu) cd_repr (da_cons (de_call_ K G_fill_count (room.mono (by decide)) guard rfl T.fill_count.m T.fill_count.F.2 T.fill_count.b  (da_cons (dv 1) da_nil)) da_nil) fun h1 => pe_callB (cr_repr_ K guard hu) rfl T.b_repr rfl h1) (de_callB_ (cr_repr_ K guard hu) cd_repr (da_cons (dv 8) da_nil) fun h1 => pe_callB (cr_repr_ K guard hu) rfl T.b_repr rfl h1) (nomark _)) (dw_or1 (dt_cmp (op_neA_ K hu) od_ne (de_callK0_ K G_fill_count (room.mono (by decide)) guard rfl T.fill_count.m T.fill_count.F.2 (kb_fill_count_0_counts T.fill_count.F) kb_fill_count_0_counts_ord  (dk_cons (de_callTy_ (cr_tuple_ K) cd_tuple_ (da_cons (dv 1) da_nil) fun h1 => pe_callTy (cr_tuple_ K) rfl T.b_tuple rfl h1) dk_nil)) (dv 8) (nomark _))))))) (dss_one (ds_ret de_bl)) dss_nil) (dss_cons (ds_set nd rfl (by first | exact .inl rfl | exact .inr rfl) (de_op (op_mulAll_ K) od_mul (de_tup (da_cons de_int da_nil)) (de_callB_ (cr_len_ K) cd_len (da_cons (dv 1) da_nil) fun h1 => pe_callB (cr_len_ K) rfl T.b_len rfl h1))) (dss_cons (ds_for PassesOwn.never rfl (di_range1 rfl T.b_range (da_cons (dv 8) da_nil)) (dg_name nd rfl (by first | exact .inl rfl | exact .inr rfl)) (dss_cons (ds_if (dt_cmp (op_neA_ K hu) od_ne (de_callB_ (cr_repr_ K guard hu) cd_repr (da_cons (de_ix_ K (dv 7) (dv 4)) da_nil) fun h1 => pe_callB (cr_repr_ K guard hu) rfl T.b_repr rfl h1) (de_callB_ (cr_repr_ K guard hu) cd_repr (da_cons (dv 3) da_nil) fun h1 => pe_callB (cr_repr_ K guard hu) rfl T.b_repr rfl h1) (nomark _)) (dss_one (ds_ret de_bl)) dss_nil) (dss_cons (ds_if (DW.dt (dw_or (dt_cmp (op_neA_ K hu) od_ne (de_callB_ (cr_repr_ K guard hu) cd_repr (da_cons (de_call_ K G_filling_number (room.mono (by decide)) guard rfl T.filling_number.m T.filling_number.F.2 T.filling_number.b  (da_cons (de_callTy_ (cr_tuple_ K) cd_tuple_ (da_cons (dv 1) da_nil) fun h1 => pe_callTy (cr_tuple_ K) rfl T.b_tuple rfl h1) (da_cons (dv 3) da_nil))) da_nil) fun h1 => pe_callB (cr_repr_ K guard hu) rfl T.b_repr rfl h1) (de_callB_ (cr_repr_ K guard hu) cd_repr (da_cons (dv 4) da_nil) fun h1 => pe_callB (cr_repr_ K guard hu) rfl T.b_repr rfl h1) (nomark _)) (dw_or1 (dt_cmp (op_neA_ K hu) od_ne (de_callB_ (cr_repr_ K guard hu) cd_repr (da_cons (de_call_ K G_filling_at (room.mono (by decide)) guard rfl T.filling_at.m T.filling_at.F.2 T.filling_at.b  (da_cons (dv 1) (da_cons (dv 4) da_nil))) da_nil) fun h1 => pe_callB (cr_repr_ K guard hu) rfl T.b_repr rfl h1) (de_callB_ (cr_repr_ K guard hu) cd_repr (da_cons (dv 3) da_nil) fun h1 => pe_callB (cr_repr_ K guard hu) rfl T.b_repr rfl h1) (nomark _))))) (dss_one (ds_ret de_bl)) dss_nil) (dss_one (ds_set nd rfl (by first | exact .inl rfl | exact .inr rfl) (de_call_ K G__law_next (room.mono (by decide)) guard rfl T._law_next.m T._law_next.F.2 T._law_next.b  (da_cons (dv 1) (da_cons (dv 3) da_nil)))))))) (dss_cons (ds_if (DW.dt (dw_or (dt_cmp op_notN od_notN (dv 3) de_non (nomark _)) (dw_or1 (dt_cmp (op_neA_ K hu) od_ne (de_callK0_ K G_fillings_of (room.mono (by decide)) guard rfl T.fillings_of.m T.fillings_of.F.2 (kb_fillings_of_0_counts T.fillings_of.F) kb_fillings_of_0_counts_ord  (dk_cons (dv 1) dk_nil)) (dv 7) (nomark _))))) (dss_one (ds_ret de_bl)) dss_nil) (dss_cons (ds_set nd rfl (by first | exact .inl rfl | exact .inr rfl) (de_callR_ K G__law_draw (room.mono (by decide)) guard rfl T._law_draw.m T._law_draw.F.2 T._law_draw.b h1 h2 (da_cons (dv 0) (da_cons (dv 8) da_nil)))) (dss_cons (ds_if (DW.dt (dw_or (dt_cmp (op_neA_ K hu) od_ne (de_callK0_ K G_filling_number (room.mono (by decide)) guard rfl T.filling_number.m T.filling_number.F.2 (kb_filling_number_0_filling_counts T.filling_number.F) kb_filling_number_0_filling_counts_ord  (dk_cons (de_ix_ K (dv 7) (dv 4)) (dk_cons (dv 1) dk_nil))) (dv 4) (nomark _)) (dw_or1 (dt_cmp (op_neA_ K hu) od_ne (de_callK0_ K G_filling_at (room.mono (by decide)) guard rfl T.filling_at.m T.filling_at.F.2 (kb_filling_at_0_number_counts T.filling_at.F) kb_filling_at_0_number_counts_ord  (dk_cons (dv 4) (dk_cons (de_callTy_ (cr_tuple_ K) cd_tuple_ (da_cons (dv 1) da_nil) fun h1 => pe_callTy (cr_tuple_ K) rfl T.b_tuple rfl h1) dk_nil))) (de_ix_ K (dv 7) (dv 4)) (nomark _))))) (dss_one (ds_ret de_bl)) dss_nil) (dss_cons (ds_set nd rfl (by first | exact .inl rfl | exact .inr rfl) (de_if (dt_cmp (op_neA_ K hu) od_ne (dv 1) (de_lst da_nil) (nomark _)) (de_lc (own := [("_law_turn", 11)]) rfl nd (di_range1 rfl T.b_range (da_cons (de_callR_ K G__law_draw (room.mono (by decide)) guard rfl T._law_draw.m T._law_draw.F.2 T._law_draw.b h1 h2 (da_cons (dv 0) (da_cons de_int da_nil))) da_nil)) (show BlkOk ["_law_heap_here", "_law_counts", "_law_count", "_law_filling", "_law_number", "_law_places", "_law_place", "_law_told", "_law_size", "_law_due", "_law_kept", "_law_turn"] (defScope s__law_right) _ [("_law_turn", 11)] from ⟨rfl, by decide +kernel, by decide +kernel, by decide +kernel, by decide +kernel⟩) (by decide) (fun m s0 H0 C cl fp => (dg_name nd rfl (by first | exact .inl rfl | exact .inr rfl))) (fun m s0 H0 C cl fp => dts_nil) (fun m s0 H0 C cl fp => (de_callR_ K G__law_draw (room.mono (by decide)) guard rfl T._law_draw.m T._law_draw.F.2 T._law_draw.b h1 h2 (da_cons (dv 0) (da_cons (de_callB_ (cr_len_ K) cd_len (da_cons (dv 1) da_nil) fun h1 => pe_callB (cr_len_ K) rfl T.b_len rfl h1) da_nil))))) (de_lst da_nil))) (dss_cons (ds_par_ (da_cons (de_new da_nil) (da_cons (de_callB_ (cr_repr_ K guard hu) cd_repr (da_cons (dv 1) da_nil) fun h1 => pe_callB (cr_repr_ K guard hu) rfl T.b_repr rfl h1) da_nil)) fun h1 => ps_par (by rfl) nd rfl rfl (by decide) rfl rfl h1 (by rfl)) (dss_cons (ds_for PassesOwn.never rfl (di_seq_ K (dv 5)) (dg_name nd rfl (by first | exact .inl rfl | exact .inr rfl)) (dss_one (ds_expr (de_met_ K md_append (dv 9) (da_cons (de_ix_ K (de_ix_ K (dv 7) (dv 4)) (dv 6)) da_nil) fun h1 h2 => pe_bm PySem.F.plainAttrs_list PySem.F.slot_list_append PySem.F.type_list_append mt_append h1 h2)))) (dss_frz 9 (dss_cons (ds_if (DW.dt (dw_or (dt_cmp (op_neA_ K hu) od_ne (de_callB_ (cr_repr_ K guard hu) cd_repr (da_cons (de_call_ K G_at_places (room.mono (by decide)) guard rfl T.at_places.m T.at_places.F.2 T.at_places.b  (da_cons (de_ix_ K (dv 7) (dv 4)) (da_cons (de_callTy_ (cr_tuple_ K) cd_tuple_ (da_cons (dv 5) da_nil) fun h1 => pe_callTy (cr_tuple_ K) rfl T.b_tuple rfl h1) da_nil))) da_nil) fun h1 => pe_callB (cr_repr_ K guard hu) rfl T.b_repr rfl h1) (de_callB_ (cr_repr_ K guard hu) cd_repr (da_cons (de_callTy_ (cr_tuple_ K) cd_tuple_ (da_cons (dv 9) da_nil) fun h1 => pe_callTy (cr_tuple_ K) rfl T.b_tuple rfl h1) da_nil) fun h1 => pe_callB (cr_repr_ K guard hu) rfl T.b_repr rfl h1) (nomark _)) (dw_or1 (dt_cmp (op_neA_ K hu) od_ne (de_callK0_ K G_at_places (room.mono (by decide)) guard rfl T.at_places.m T.at_places.F.2 (kb_at_places_0_places_filling T.at_places.F) kb_at_places_0_places_filling_ord  (dk_cons (dv 5) (dk_cons (de_ix_ K (dv 7) (dv 4)) dk_nil))) (de_callTy_ (cr_tuple_ K) cd_tuple_ (da_cons (dv 9) da_nil) fun h1 => pe_callTy (cr_tuple_ K) rfl T.b_tuple rfl h1) (nomark _))))) (dss_one (ds_ret de_bl)) dss_nil) (dss_one (ds_ret (de_cmp (op_eqA_ K hu) od_eq (de_callB_ (cr_repr_ K guard hu) cd_repr (da_cons (dv 1) da_nil) fun h1 => pe_callB (cr_repr_ K guard hu) rfl T.b_repr rfl h1) (dv 10) (nomark _))))))))))))))))), vc__law_right a⟩
theorem ok_law (T : Txt K mg) : FnG P w K mg base CX0 3 T.law.f T.law.fd ["_law_script"] (spL K) := by
  have nd := sc_law.nd
  have G__law_draw := ok__law_draw (P := P) (w := w) (base := base) T
  have G__law_heap := ok__law_heap (P := P) (w := w) (base := base) T
  have G__law_pick := ok__law_pick (P := P) (w := w) (base := base) T
  have G__law_right := ok__law_right (P := P) (w := w) (base := base) T
  have G_at_places := ok_at_places (P := P) (w := w) (base := base) T
  have G_fill_count := ok_fill_count (P := P) (w := w) (base := base) T
  have G_filling_at := ok_filling_at (P := P) (w := w) (base := base) T
  have G_filling_number := ok_filling_number (P := P) (w := w) (base := base) T
  have G_fillings_of := ok_fillings_of (P := P) (w := w) (base := base) T
  refine fnLaw T.law.F sc_law rfl rfl fun cdv A fr s H E room guard => ?_
  have hu := room.units
  exact ⟨_, _, fun dx => (de_call_ K G__law_heap (room.mono (by decide)) guard rfl T._law_heap.m T._law_heap.F.2 T._law_heap.b  (da_cons (dv 0) da_nil)), DS.pe (dx := ⟨fun _ => False, H, noHand, noJ⟩) (ds_set nd rfl (by first | exact .inl rfl | exact .inr rfl) (de_call_ K G__law_heap (room.mono (by decide)) guard rfl T._law_heap.m T._law_heap.F.2 T._law_heap.b  (da_cons (dv 0) da_nil))), fun a c dx h1 h2 => ⟨r_law a, (dss_cons (ds_for PassesOwn.never rfl (di_range1 rfl T.b_range (da_cons (de_op (op_addAll_ K) od_add de_int (de_op (op_mulAll_ K) od_mul de_int (de_callTy_ call_int1 cd_int (da_cons (de_cmp op_gt od_onB (de_callB_ (cr_len_ K) cd_len (da_cons (dv 0) da_nil) fun h1 => pe_callB (cr_len_ K) rfl T.b_len rfl h1) de_int (nomark _)) da_nil) fun h1 => pe_callTy call_int1 rfl T.b_int rfl h1))) da_nil)) (dg_name nd rfl (by first | exact .inl rfl | exact .inr rfl)) (dss_cons (ds_par_ (da_cons (de_new da_nil) (da_cons de_int da_nil)) fun h1 => ps_par (by rfl) nd rfl rfl (by decide) rfl rfl h1 (by rfl)) (dss_cons (ds_for PassesOwn.never rfl (di_range1 rfl T.b_range (da_cons (de_callR_ K G__law_draw (room.mono (by decide)) guard rfl T._law_draw.m T._law_draw.F.2 T._law_draw.b h1 h2 (da_cons (dv 1) (da_cons de_int da_nil))) da_nil)) (dg_name nd rfl (by first | exact .inl rfl | exact .inr rfl)) (dss_cons (ds_set nd rfl (by first | exact .inl rfl | exact .inr rfl) (de_callR_ K G__law_pick (room.mono (by decide)) guard rfl T._law_pick.m T._law_pick.F.2 T._law_pick.b h1 h2 (da_cons (dv 1) (da_cons (de_lst (da_cons de_int (da_cons de_int (da_cons de_int (da_cons de_int (da_cons de_int (da_cons (de_op (op_addAll_ K) od_add de_int (de_callR_ K G__law_draw (room.mono (by decide)) guard rfl T._law_draw.m T._law_draw.F.2 T._law_draw.b h1 h2 (da_cons (dv 1) (da_cons de_int da_nil)))) da_nil))))))) da_nil)))) (dss_one (ds_if (dt_cmp op_le od_onB (de_op (op_mulAll_ K) od_mul (dv 8) (dv 9)) de_int (nomark _)) (dss_cons (ds_expr (de_met_ K md_append (dv 7) (da_cons (dv 9) da_nil) fun h1 h2 => pe_bm PySem.F.plainAttrs_list PySem.F.slot_list_append PySem.F.type_list_append mt_append h1 h2)) (dss_one (ds_set nd rfl (by first | exact .inl rfl | exact .inr rfl) (de_op (op_mulAll_ K) od_mul (dv 8) (dv 9))))) dss_nil)))) (dss_frz 7 (dss_one (ds_if (dt_not (dt_tru_ K (de_callR_ K G__law_right (room.mono (by decide)) guard rfl T._law_right.m T._law_right.F.2 T._law_right.b h1 h2 (da_cons (dv 1) (da_cons (dv 7) da_nil))))) (dss_one (ds_ret de_bl)) dss_nil)))))) (dss_cons (ds_set nd rfl (by first | exact .inl rfl | exact .inr rfl) (de_op (op_addAll_ K) od_add (de_op (op_addAll_ K) od_add (de_op (op_mulAll_ K) od_mul (de_tup (da_cons de_int da_nil)) de_int) (de_tup (da_cons de_int (da_cons de_int (da_cons de_int da_nil))))) (de_op (op_mulAll_ K) od_mul (de_tup (da_cons de_int da_nil)) (de_callR_ K G__law_draw (room.mono (by decide)) guard rfl T._law_draw.m T._law_draw.F.2 T._law_draw.b h1 h2 (da_cons (dv 1) (da_cons de_int da_nil)))))) (dss_cons (ds_set nd rfl (by first | exact .inl rfl | exact .inr rfl) (de_callR_ K G__law_draw (room.mono (by decide)) guard rfl T._law_draw.m T._law_draw.F.2 T._law_draw.b h1 h2 (da_cons (dv 1) (da_cons (de_call_ K G_fill_count (room.mono (by decide)) guard rfl T.fill_count.m T.fill_count.F.2 T.fill_count.b  (da_cons (dv 3) da_nil)) da_nil)))) (dss_cons (ds_set nd rfl (by first | exact .inl rfl | exact .inr rfl) (de_call_ K G_filling_at (room.mono (by decide)) guard rfl T.filling_at.m T.filling_at.F.2 T.filling_at.b  (da_cons (dv 3) (da_cons (dv 4) da_nil)))) (dss_cons (ds_if (DW.dt (dw_or (dt_cmp (op_neA_ K hu) od_ne (de_callB_ (cr_len_ K) cd_len (da_cons (dv 5) da_nil) fun h1 => pe_callB (cr_len_ K) rfl T.b_len rfl h1) (de_callB_ (cr_len_ K) cd_len (da_cons (dv 3) da_nil) fun h1 => pe_callB (cr_len_ K) rfl T.b_len rfl h1) (nomark _)) (dw_or (dt_not (dt_tru_ K (de_callB_ (cr_all_ K rfl) cd_all (da_cons (de_lc (own := [("_law_case", 10), ("_law_count", 9)]) rfl nd (di_zip_ K (da_cons (dv 5) (da_cons (dv 3) da_nil)) fun h1 => pi_zipM rfl T.b_zip h1) (show BlkOk ["_law_script", "_law_heap_here", "_law_turn", "_law_great", "_law_number", "_law_filling", "_law_place", "_law_counts", "_law_size", "_law_count", "_law_case"] (defScope s_law) _ [("_law_case", 10), ("_law_count", 9)] from ⟨rfl, by decide +kernel, by decide +kernel, by decide +kernel, by decide +kernel⟩) (by decide) (fun m s0 H0 C cl fp => (dg_tup_ K (dgs_cons' (dg_name nd rfl (by first | exact .inl rfl | exact .inr rfl)) (dgs_cons' (dg_name nd rfl (by first | exact .inl rfl | exact .inr rfl)) dgs_nil fun h1 h2 => pgs_cons h1 h2) fun h1 h2 => pgs_cons h1 h2) fun h1 => pg_tup rfl h1)) (fun m s0 H0 C cl fp => dts_nil) (fun m s0 H0 C cl fp => (de_chain op_le od_onB op_lt od_onB de_int (dv 10) (dv 9)))) da_nil) fun h1 => pe_callB (cr_all_ K rfl) rfl T.b_all rfl h1))) (dw_or1 (dt_cmp (op_neA_ K hu) od_ne (de_call_ K G_filling_number (room.mono (by decide)) guard rfl T.filling_number.m T.filling_number.F.2 T.filling_number.b  (da_cons (dv 3) (da_cons (dv 5) da_nil))) (dv 4) (nomark _)))))) (dss_one (ds_ret de_bl)) dss_nil) (dss_cons (ds_if (DW.dt (dw_or (dt_cmp (op_neA_ K hu) od_ne (de_call_ K G_fillings_of (room.mono (by decide)) guard rfl T.fillings_of.m T.fillings_of.F.2 T.fillings_of.b  (da_cons (de_tup da_nil) da_nil)) (de_tup (da_cons (de_tup da_nil) da_nil)) (nomark _)) (dw_or (dt_cmp (op_neA_ K hu) od_ne (de_call_ K G_fill_count (room.mono (by decide)) guard rfl T.fill_count.m T.fill_count.F.2 T.fill_count.b  (da_cons (de_lst da_nil) da_nil)) de_int (nomark _)) (dw_or (dt_cmp (op_neA_ K hu) od_ne (de_call_ K G_filling_number (room.mono (by decide)) guard rfl T.filling_number.m T.filling_number.F.2 T.filling_number.b  (da_cons (de_tup da_nil) (da_cons (de_tup da_nil) da_nil))) de_int (nomark _)) (dw_or1 (dt_cmp (op_neA_ K hu) od_ne (de_call_ K G_filling_at (room.mono (by decide)) guard rfl T.filling_at.m T.filling_at.F.2 T.filling_at.b  (da_cons (de_tup da_nil) (da_cons de_int da_nil))) (de_tup da_nil) (nomark _))))))) (dss_one (ds_ret de_bl)) dss_nil) (dss_one (ds_ret (de_and (de_cmp (op_eqA_ K hu) od_eq (de_call_ K G_fillings_of (room.mono (by decide)) guard rfl T.fillings_of.m T.fillings_of.F.2 T.fillings_of.b  (da_cons (de_tup (da_cons de_int (da_cons de_int (da_cons de_int da_nil)))) da_nil)) (de_tup (da_cons (de_tup (da_cons de_int (da_cons de_int (da_cons de_int da_nil)))) (da_cons (de_tup (da_cons de_int (da_cons de_int (da_cons de_int da_nil)))) (da_cons (de_tup (da_cons de_int (da_cons de_int (da_cons de_int da_nil)))) (da_cons (de_tup (da_cons de_int (da_cons de_int (da_cons de_int da_nil)))) da_nil))))) (nomark _)) (de_and (de_cmp (op_eqA_ K hu) od_eq (de_call_ K G_filling_number (room.mono (by decide)) guard rfl T.filling_number.m T.filling_number.F.2 T.filling_number.b  (da_cons (de_tup (da_cons de_int (da_cons de_int da_nil))) (da_cons (de_tup (da_cons de_int (da_cons de_int da_nil))) da_nil))) de_int (nomark _)) (de_one (de_cmp (op_eqA_ K hu) od_eq (de_call_ K G_at_places (room.mono (by decide)) guard rfl T.at_places.m T.at_places.F.2 T.at_places.b  (da_cons (de_tup (da_cons de_int (da_cons de_int da_nil))) (da_cons (de_tup (da_cons de_int (da_cons de_int (da_cons de_int da_nil)))) da_nil))) (de_tup (da_cons de_int (da_cons de_int (da_cons de_int da_nil)))) (nomark _))))))))))))), vc_law a⟩⟩
end
end K2
end DL
namespace DL
open PySem PySem.Spec L2 Gd
namespace K2
theorem spL_hsp : ∀ (K : PySem.W.Frag) (H : Hp) (a : Addr) (ns : List Int), ns.length ≤ 63 → (∀ b u, H b = some u → ∃ o, u = .frz o (.lst (ns.map V.int))) → SqL K H a (ns.map V.int) → spL K [.ref a] H (fun v _ => v = .bl true) fun _ _ _ => False :=
  fun K H a ns hl only hS => ⟨a, ns, rfl, hl, only, hS, fun _ => rfl⟩
theorem all_mk {l : PySem.W.OpenLaw} {w : World} {K : PySem.W.Frag} {h : Heap} {mg : Str → Option Value} {fa f0 f1 f2 f3 f4 f5 f6 f7 f8 f9 f10 : Addr} (X : K.In h) (G : h.Ns mainGlobals mg) (hfa : mg "law" = some (.ref fa))
    {od0 an0 : Option Addr} {sl0 : Array (Option Value)} {oc0 kV0 dc0 pm0 cd0 ct0 : Value}
    (a0 : PySem.W.nsIn K mainGlobals "fill_count" = some (some (.ref f0))) (l0 : K.lookup f0 = some ⟨oc0, od0, .func (PySem.W.fnOf "fill_count" "fill_count" (defArgs s_fill_count) (defBody s_fill_count) (defScope s_fill_count) .none kV0 dc0 pm0 an0 cd0 ct0), sl0⟩) (c0 : PySem.W.codeIn K cd0 "fill_count" = true) (k0 : PySem.W.keepIn K (.ref f0) = true)
    {od1 an1 : Option Addr} {sl1 : Array (Option Value)} {oc1 kV1 dc1 pm1 cd1 ct1 : Value}
    (a1 : PySem.W.nsIn K mainGlobals "fillings_of" = some (some (.ref f1))) (l1 : K.lookup f1 = some ⟨oc1, od1, .func (PySem.W.fnOf "fillings_of" "fillings_of" (defArgs s_fillings_of) (defBody s_fillings_of) (defScope s_fillings_of) .none kV1 dc1 pm1 an1 cd1 ct1), sl1⟩) (c1 : PySem.W.codeIn K cd1 "fillings_of" = true) (k1 : PySem.W.keepIn K (.ref f1) = true)
    {od2 an2 : Option Addr} {sl2 : Array (Option Value)} {oc2 kV2 dc2 pm2 cd2 ct2 : Value}
    (a2 : PySem.W.nsIn K mainGlobals "filling_number" = some (some (.ref f2))) (l2 : K.lookup f2 = some ⟨oc2, od2, .func (PySem.W.fnOf "filling_number" "filling_number" (defArgs s_filling_number) (defBody s_filling_number) (defScope s_filling_number) .none kV2 dc2 pm2 an2 cd2 ct2), sl2⟩) (c2 : PySem.W.codeIn K cd2 "filling_number" = true) (k2 : PySem.W.keepIn K (.ref f2) = true)
    {od3 an3 : Option Addr} {sl3 : Array (Option Value)} {oc3 kV3 dc3 pm3 cd3 ct3 : Value}
    (a3 : PySem.W.nsIn K mainGlobals "filling_at" = some (some (.ref f3))) (l3 : K.lookup f3 = some ⟨oc3, od3, .func (PySem.W.fnOf "filling_at" "filling_at" (defArgs s_filling_at) (defBody s_filling_at) (defScope s_filling_at) .none kV3 dc3 pm3 an3 cd3 ct3), sl3⟩) (c3 : PySem.W.codeIn K cd3 "filling_at" = true) (k3 : PySem.W.keepIn K (.ref f3) = true)
    {od4 an4 : Option Addr} {sl4 : Array (Option Value)} {oc4 kV4 dc4 pm4 cd4 ct4 : Value}
    (a4 : PySem.W.nsIn K mainGlobals "at_places" = some (some (.ref f4))) (l4 : K.lookup f4 = some ⟨oc4, od4, .func (PySem.W.fnOf "at_places" "at_places" (defArgs s_at_places) (defBody s_at_places) (defScope s_at_places) .none kV4 dc4 pm4 an4 cd4 ct4), sl4⟩) (c4 : PySem.W.codeIn K cd4 "at_places" = true) (k4 : PySem.W.keepIn K (.ref f4) = true)
    {od5 an5 : Option Addr} {sl5 : Array (Option Value)} {oc5 kV5 dc5 pm5 cd5 ct5 : Value}
    (a5 : PySem.W.nsIn K mainGlobals "_law_heap" = some (some (.ref f5))) (l5 : K.lookup f5 = some ⟨oc5, od5, .func (PySem.W.fnOf "_law_heap" "_law_heap" (defArgs s__law_heap) (defBody s__law_heap) (defScope s__law_heap) .none kV5 dc5 pm5 an5 cd5 ct5), sl5⟩) (c5 : PySem.W.codeIn K cd5 "_law_heap" = true) (k5 : PySem.W.keepIn K (.ref f5) = true)
    {od6 an6 : Option Addr} {sl6 : Array (Option Value)} {oc6 kV6 dc6 pm6 cd6 ct6 : Value}
    (a6 : PySem.W.nsIn K mainGlobals "_law_draw" = some (some (.ref f6))) (l6 : K.lookup f6 = some ⟨oc6, od6, .func (PySem.W.fnOf "_law_draw" "_law_draw" (defArgs s__law_draw) (defBody s__law_draw) (defScope s__law_draw) .none kV6 dc6 pm6 an6 cd6 ct6), sl6⟩) (c6 : PySem.W.codeIn K cd6 "_law_draw" = true) (k6 : PySem.W.keepIn K (.ref f6) = true)
    {od7 an7 : Option Addr} {sl7 : Array (Option Value)} {oc7 kV7 dc7 pm7 cd7 ct7 : Value}
    (a7 : PySem.W.nsIn K mainGlobals "_law_pick" = some (some (.ref f7))) (l7 : K.lookup f7 = some ⟨oc7, od7, .func (PySem.W.fnOf "_law_pick" "_law_pick" (defArgs s__law_pick) (defBody s__law_pick) (defScope s__law_pick) .none kV7 dc7 pm7 an7 cd7 ct7), sl7⟩) (c7 : PySem.W.codeIn K cd7 "_law_pick" = true) (k7 : PySem.W.keepIn K (.ref f7) = true)
    {od8 an8 : Option Addr} {sl8 : Array (Option Value)} {oc8 kV8 dc8 pm8 cd8 ct8 : Value}
    (a8 : PySem.W.nsIn K mainGlobals "_law_next" = some (some (.ref f8))) (l8 : K.lookup f8 = some ⟨oc8, od8, .func (PySem.W.fnOf "_law_next" "_law_next" (defArgs s__law_next) (defBody s__law_next) (defScope s__law_next) .none kV8 dc8 pm8 an8 cd8 ct8), sl8⟩) (c8 : PySem.W.codeIn K cd8 "_law_next" = true) (k8 : PySem.W.keepIn K (.ref f8) = true)
    {od9 an9 : Option Addr} {sl9 : Array (Option Value)} {oc9 kV9 dc9 pm9 cd9 ct9 : Value}
    (a9 : PySem.W.nsIn K mainGlobals "_law_right" = some (some (.ref f9))) (l9 : K.lookup f9 = some ⟨oc9, od9, .func (PySem.W.fnOf "_law_right" "_law_right" (defArgs s__law_right) (defBody s__law_right) (defScope s__law_right) .none kV9 dc9 pm9 an9 cd9 ct9), sl9⟩) (c9 : PySem.W.codeIn K cd9 "_law_right" = true) (k9 : PySem.W.keepIn K (.ref f9) = true)
    {od10 an10 : Option Addr} {sl10 : Array (Option Value)} {oc10 kV10 dc10 pm10 cd10 ct10 : Value}
    (a10 : PySem.W.nsIn K mainGlobals "law" = some (some (.ref f10))) (l10 : K.lookup f10 = some ⟨oc10, od10, .func (PySem.W.fnOf "law" "law" (defArgs s_law) (defBody s_law) (defScope s_law) .none kV10 dc10 pm10 an10 cd10 ct10), sl10⟩) (c10 : PySem.W.codeIn K cd10 "law" = true) (k10 : PySem.W.keepIn K (.ref f10) = true)
    (z_abs : PySem.W.nsIn K mainGlobals "abs" = some none)
    (z_all : PySem.W.nsIn K mainGlobals "all" = some none)
    (z_int : PySem.W.nsIn K mainGlobals "int" = some none)
    (z_isinstance : PySem.W.nsIn K mainGlobals "isinstance" = some none)
    (z_len : PySem.W.nsIn K mainGlobals "len" = some none)
    (z_range : PySem.W.nsIn K mainGlobals "range" = some none)
    (z_repr : PySem.W.nsIn K mainGlobals "repr" = some none)
    (z_reversed : PySem.W.nsIn K mainGlobals "reversed" = some none)
    (z_tuple : PySem.W.nsIn K mainGlobals "tuple" = some none)
    (z_zip : PySem.W.nsIn K mainGlobals "zip" = some none)
    : ∃ fd : FuncData, (∀ (s : Shared) (v : Value), BindsTo s fd ⟨[v], []⟩ [("_law_script", v)]) ∧ ∀ base : Heap, K.In base → base.Ns mainGlobals mg → FnG l.prog w K mg base CX0 3 fa fd ["_law_script"] (spL K) := by
  have e := hfa.symm.trans (PySem.W.mg_of X G a10)
  cases e
  have F0 := fun_mk (st := s_fill_count) l0 c0 k0
  have b0 := F0.binds (ps := ["counts"]) fun _ _ _ _ _ _ us hl => match us, hl with | [_], _ => rfl
  have F1 := fun_mk (st := s_fillings_of) l1 c1 k1
  have b1 := F1.binds (ps := ["counts"]) fun _ _ _ _ _ _ us hl => match us, hl with | [_], _ => rfl
  have F2 := fun_mk (st := s_filling_number) l2 c2 k2
  have b2 := F2.binds (ps := ["counts", "filling"]) fun _ _ _ _ _ _ us hl => match us, hl with | [_, _], _ => rfl
  have F3 := fun_mk (st := s_filling_at) l3 c3 k3
  have b3 := F3.binds (ps := ["counts", "number"]) fun _ _ _ _ _ _ us hl => match us, hl with | [_, _], _ => rfl
  have F4 := fun_mk (st := s_at_places) l4 c4 k4
  have b4 := F4.binds (ps := ["filling", "places"]) fun _ _ _ _ _ _ us hl => match us, hl with | [_, _], _ => rfl
  have F5 := fun_mk (st := s__law_heap) l5 c5 k5
  have b5 := F5.binds (ps := ["_law_script"]) fun _ _ _ _ _ _ us hl => match us, hl with | [_], _ => rfl
  have F6 := fun_mk (st := s__law_draw) l6 c6 k6
  have b6 := F6.binds (ps := ["_law_heap_here", "_law_many"]) fun _ _ _ _ _ _ us hl => match us, hl with | [_, _], _ => rfl
  have F7 := fun_mk (st := s__law_pick) l7 c7 k7
  have b7 := F7.binds (ps := ["_law_heap_here", "_law_some"]) fun _ _ _ _ _ _ us hl => match us, hl with | [_, _], _ => rfl
  have F8 := fun_mk (st := s__law_next) l8 c8 k8
  have b8 := F8.binds (ps := ["_law_counts", "_law_filling"]) fun _ _ _ _ _ _ us hl => match us, hl with | [_, _], _ => rfl
  have F9 := fun_mk (st := s__law_right) l9 c9 k9
  have b9 := F9.binds (ps := ["_law_heap_here", "_law_counts"]) fun _ _ _ _ _ _ us hl => match us, hl with | [_, _], _ => rfl
  have F10 := fun_mk (st := s_law) l10 c10 k10
  have b10 := F10.binds (ps := ["_law_script"]) fun _ _ _ _ _ _ us hl => match us, hl with | [_], _ => rfl
  exact ⟨_, fun s v => .of_eq rfl, fun base _ _ => ok_law (P := l.prog) (w := w) (base := base) (⟨⟨f0, _, PySem.W.mg_of X G a0, F0, b0⟩, ⟨f1, _, PySem.W.mg_of X G a1, F1, b1⟩, ⟨f2, _, PySem.W.mg_of X G a2, F2, b2⟩, ⟨f3, _, PySem.W.mg_of X G a3, F3, b3⟩, ⟨f4, _, PySem.W.mg_of X G a4, F4, b4⟩, ⟨f5, _, PySem.W.mg_of X G a5, F5, b5⟩, ⟨f6, _, PySem.W.mg_of X G a6, F6, b6⟩, ⟨f7, _, PySem.W.mg_of X G a7, F7, b7⟩, ⟨f8, _, PySem.W.mg_of X G a8, F8, b8⟩, ⟨f9, _, PySem.W.mg_of X G a9, F9, b9⟩, ⟨fa, _, PySem.W.mg_of X G a10, F10, b10⟩, PySem.W.mg_none_of X G z_abs, PySem.W.mg_none_of X G z_all, PySem.W.mg_none_of X G z_int, PySem.W.mg_none_of X G z_isinstance, PySem.W.mg_none_of X G z_len, PySem.W.mg_none_of X G z_range, PySem.W.mg_none_of X G z_repr, PySem.W.mg_none_of X G z_reversed, PySem.W.mg_none_of X G z_tuple, PySem.W.mg_none_of X G z_zip⟩ : Txt K mg)⟩
end K2
end DL
open PySem PySem.W PyProof.Rows in
set_option maxRecDepth 100000 in
set_option maxHeartbeats 0 in
theorem PySem.Challenge.cw_allworlds_k02_whole_fillings_holds : PySem.Challenge.rw_allworlds_k02_whole_fillings.Holds := by
  w_on; o_law; k_head; (case hw => w_witness2)
  k_fill
  refine DL.walkG (l := PySem.Challenge.rw_allworlds_k02_whole_fillings) (n := 63) (k := 3) (x := "_law_script") (sp := DL.spL) rfl (by decide) rfl ⟨rfl, by decide, by decide⟩ (fun w h Y => PySem.W.kIn_of Y) ?F DL.K2.spL_hsp
  case F =>
    intro w mg fa h KX G hmg
    refine' DL.K2.all_mk KX G hmg ?a0 ?l0 ?c0 ?k0 ?a1 ?l1 ?c1 ?k1 ?a2 ?l2 ?c2 ?k2 ?a3 ?l3 ?c3 ?k3 ?a4 ?l4 ?c4 ?k4 ?a5 ?l5 ?c5 ?k5 ?a6 ?l6 ?c6 ?k6 ?a7 ?l7 ?c7 ?k7 ?a8 ?l8 ?c8 ?k8 ?a9 ?l9 ?c9 ?k9 ?a10 ?l10 ?c10 ?k10 ?z_abs ?z_all ?z_int ?z_isinstance ?z_len ?z_range ?z_repr ?z_reversed ?z_tuple ?z_zip
    (case a0 => k_is)
    (case l0 => k_is)
    (case c0 => k_is)
    (case k0 => k_is)
    (case a1 => k_is)
    (case l1 => k_is)
    (case c1 => k_is)
    (case k1 => k_is)
    (case a2 => k_is)
    (case l2 => k_is)
    (case c2 => k_is)
    (case k2 => k_is)
    (case a3 => k_is)
    (case l3 => k_is)
    (case c3 => k_is)
    (case k3 => k_is)
    (case a4 => k_is)
    (case l4 => k_is)
    (case c4 => k_is)
    (case k4 => k_is)
    (case a5 => k_is)
    (case l5 => k_is)
    (case c5 => k_is)
    (case k5 => k_is)
    (case a6 => k_is)
    (case l6 => k_is)
    (case c6 => k_is)
    (case k6 => k_is)
    (case a7 => k_is)
    (case l7 => k_is)
    (case c7 => k_is)
    (case k7 => k_is)
    (case a8 => k_is)
    (case l8 => k_is)
    (case c8 => k_is)
    (case k8 => k_is)
    (case a9 => k_is)
    (case l9 => k_is)
    (case c9 => k_is)
    (case k9 => k_is)
    (case a10 => k_is)
    (case l10 => k_is)
    (case c10 => k_is)
    (case k10 => k_is)
    (case z_abs => k_is)
    (case z_all => k_is)
    (case z_int => k_is)
    (case z_isinstance => k_is)
    (case z_len => k_is)
    (case z_range => k_is)
    (case z_repr => k_is)
    (case z_reversed => k_is)
    (case z_tuple => k_is)
    (case z_zip => k_is)
