import PyProof.Rows.All
import Wide.All
import OpenK.AllK
import Wide.FinOn
import HandS.ForMost
import HandS.ForExc
import HandS.IsInst
import HandS.TupMul
import HandS.TupAny
import HandS.Zip
import HandS.Rev
import HandS.RevRange
import HandS.Wide
import HandS.Style
import HandS.RaiseMore
import PyProof.ReprRoads
import HandS.Walk
import PyProof.StrLawsRepr
import PyProof.Rows.RegStrFacts
import KE.GoesMore
import PyProof.StrOps2
import HandS.Text
import HandS.Iter
import PyProof.StrLawsChain
import PyProof.StrLawsIn
import PySem.Challenge.RW_allworlds_k06_marks_cut_and_joined
set_option Elab.async false
set_option linter.all false
set_option maxRecDepth 100000
/-! Promises that are kept where no display of a container is under way (needed for repr of lists and tuples). -/
namespace Gd
open PySem PySem.Spec PyProof.Rows L2

structure FnG (P : Program) (w : World) (K : PySem.W.Frag) (mg : Str → Option Value) (base : Heap)
    (CX : CXT) (k : Nat) (f : Addr) (fd : FuncData) (ps : List Str) (sp : Sp) : Prop where
  many : ∀ vs H Q E, sp vs H Q E → vs.length = ps.length
  goes : ∀ (A : Around) (fr : List Env) (s : Shared) (H : Hp) (args : Args) (us : List Value) (vs : List V)
      (Q : VK) (E : XK), Room k A → A.guards = some [] → Env0 P w K mg base A fr s H →
      BindsTo s fd args (ps.zip us) → Vals vs us → sp vs H Q E →
      codeAny (model P w) A (.call (.ref f) args) (CR CX fr P w H s Q E) s

section
variable {P : Program} {w : World} {K : PySem.W.Frag} {mg : Str → Option Value} {base : Heap} {CX : CXT}

theorem FnG.up {j k : Nat} {f : Addr} {fd : FuncData} {ps : List Str} {sp : Sp}
    (F : FnG P w K mg base CX j f fd ps sp) (le : j ≤ k) : FnG P w K mg base CX k f fd ps sp where
  many := F.many
  goes := fun A fr s H args us vs Q E r => F.goes A fr s H args us vs Q E (r.mono le)

theorem FnG.weaker {k : Nat} {f : Addr} {fd : FuncData} {ps : List Str} {sp sq : Sp}
    (F : FnG P w K mg base CX k f fd ps sp) (le : ∀ vs H Q E, sq vs H Q E → sp vs H Q E) :
    FnG P w K mg base CX k f fd ps sq where
  many := fun vs H Q E q => F.many vs H Q E (le _ _ _ _ q)
  goes := fun A fr s H args us vs Q E r g e b v q => F.goes A fr s H args us vs Q E r g e b v (le _ _ _ _ q)

/-- a def by its body -/
theorem fnG_body {k : Nat} {x qual : Str} {st : Stmt} {f : Addr} {fd : FuncData} {N ps : List Str} {sp : Sp}
    (F : Fun K x qual st f fd) (S : FnScope N ps (defScope st))
    (many : ∀ vs H Q E, sp vs H Q E → vs.length = ps.length)
    (body : ∀ (cdv : Value) (A : Around) (fr : List Env) (s : Shared) (H : Hp) (vs : List V) (Q : VK) (E : XK),
      Room k (A.deeper (envOfC qual (defScope st) s.heap.objs.size f cdv)) → A.guards = some [] → sp vs H Q E →
      ∃ t, PSs (cxOf CX P w K mg base N qual (defScope st) f cdv A fr s H E) (defBody st) t ∧
        t { nx := fun _ H' => Q .non H', rt := Q } (start N vs) H) :
    FnG P w K mg base CX (k + 1) f fd ps sp := by
  obtain ⟨oc, od, kV, doc, pm, an, cdv, ct, osl, rfl, found, code⟩ := F.ex
  constructor
  · exact many
  intro A fr s H args us vs Q E room guard env bind rel want
  have n1 : vs.length = ps.length := many vs H Q E want
  have kin : K.In s.heap := env.mod.kin.keeps (fun b o h => (env.bs b o h).1)
  have calm : s.heap.NoLimit := env.mod.nolimit.keeps (fun b o h => (env.bs b o h).1)
  apply codeAny_call_function room.depth (kin f _ found) rfl S.co S.gen rfl (PySem.W.codeRec_of kin code)
  apply bind
  apply wpAny_newFunctionEnv_cells S.kind
  · rintro ⟨n, v⟩ hm
    cases S.par n (List.of_mem_zip hm).1 with
    | inl q => exact Or.inl q
    | inr q => exact Or.inr ⟨q, PySem.W.cellsFrom_some _ _ _ (Or.inl q)⟩
  intro e1 he s1 into
  subst he
  constructor
  · exact calm.keeps into.toInCall.keep
  apply codeAny_func
  obtain ⟨t, ht, go⟩ := body cdv A fr s H vs Q E (room.deeper _) guard want
  have I0 := inv_start (CX := CX) (P := P) (mg := mg) (E := E) S room.hd env n1 rel into
  apply wpAny_mono (ht.run [] s1 (start N vs) H _ I0 go)
  · intro fl s2 h2
    cases fl with
    | next =>
      obtain ⟨σ2, H2, J, q⟩ := h2
      exact ⟨.non, H2, J.os, J.bare, J.base, J.hok, rfl, q⟩
    | ret u =>
      obtain ⟨v, σ2, H2, J, r2, q⟩ := h2
      exact ⟨v, H2, J.os, J.bare, J.base, J.hok, r2, q⟩
    | brk =>
      obtain ⟨_, _, _, no⟩ := h2
      exact no.elim
    | cont =>
      obtain ⟨_, _, _, no⟩ := h2
      exact no.elim
  · intro e2 s2 h2
    exact h2
end

section
variable {X : Cx} {CX : CXT} {k : Nat} {f : Addr} {fd : FuncData} {ps ks : List Str} {sp : Sp} {E : XK} {x : Str}
  {p pos : Pos} {e : Expr} {es : List Expr} {kws : List Keyword} {ta tk : TA} {dvs : List V} {ds : List Value}

def Fin (X : Cx) (pins : List (Addr × Obj)) (σ : L2.St) (Q : VK) (r : Result) (s' : Shared) : Prop :=
  match r with
  | .ok (.ret u) => EP X pins σ Q u s'
  | .ok _ => False
  | .error err => X.xe err s'
theorem back {pins : List (Addr × Obj)} {σ : L2.St} {H : Hp} {s : Shared} {Q : VK} {r : Result} {s' : Shared}
    (I : Inv X pins σ H s) (out : Passes CX X E) (h : CR CX X.stack X.prog X.w H s Q E r s') :
    Fin X pins σ Q r s' := by
  cases r with
  | error err => exact out pins σ H s err s' I h
  | ok fl =>
    cases fl with
    | ret u => exact I.after h
    | next => exact h
    | brk => exact h
    | cont => exact h

theorem runG {pins : List (Addr × Obj)} {σ : L2.St} {H : Hp} {s : Shared} {Q : VK} {args : Args} {us : List Value} {vs : List V}
    (F : FnG X.prog X.w X.K X.mg X.base CX k f fd ps sp) (room : Room k X.A) (guard : X.A.guards = some [])
    (out : Passes CX X E) (I : Inv X pins σ H s) (bind : BindsTo s fd args (ps.zip us)) (rel : Vals vs us)
    (want : sp vs H Q E) :
    codeAny (model X.prog X.w) X.A (.call (.ref f) args) (Fin X pins σ Q) s :=
  codeAny_mono (F.goes X.A X.stack s H args us vs Q E room guard I.env0 bind rel want)
    fun r s' h => back I out h

/-- f(a, ..) -/
theorem pe_callG (F : FnG X.prog X.w X.K X.mg X.base CX k f fd ps sp) (room : Room k X.A) (guard : X.A.guards = some [])
    (hg : Gl X x) (hm : X.mg x = some (.ref f)) (kp : PySem.W.keepIn X.K (.ref f) = true) (hb : Binds X.K fd ps ds)
    (hd : Vals dvs ds) (out : Passes CX X E) (ha : PA X (e :: es) ta)
    (hdb : (x == ("__debug__" : Str)) = false := by decide)
    (he : starEach (e :: es) X.env = (false, eval e X.env) :: starEach es X.env := by rfl)
    (hpl : (backTo pos (starEach es X.env)).any (·.1) = false := by rfl) :
    PE X (.Call (.Name x p) (e :: es) [] pos) (tCall sp dvs E ta) := by
  constructor
  intro pins s σ H Q I want
  apply wpAny_Call_Name_kw
  apply ld_glob I hg hm _ hdb
  apply PySem.W.callWith_K (h₀ := X.base) I.ok.mod.kin kp _ he hpl
  apply thn (ha.run pos pins s σ H _ I want)
  rintro us s1 ⟨vs, H1, I1, r1, q1⟩
  refine ⟨I1.kIn, ?_⟩
  have r2 : Vals (vs ++ dvs) (us ++ ds) := r1.append hd
  have n2 : (us ++ ds).length = ps.length := r2.length.symm.trans (F.many _ _ _ _ q1)
  apply wpAny_call
  exact codeAny_mono (runG F room guard out I1 (hb s1 us I1.kIn n2) r2 q1)
    (fun r s' h => by cases r with | error _ => exact h | ok fl => cases fl <;> exact h)

/-- f() -/
theorem pe_callG0 (F : FnG X.prog X.w X.K X.mg X.base CX k f fd ps sp) (room : Room k X.A) (guard : X.A.guards = some [])
    (hg : Gl X x) (hm : X.mg x = some (.ref f)) (kp : PySem.W.keepIn X.K (.ref f) = true) (hb : Binds X.K fd ps ds)
    (hd : Vals dvs ds) (out : Passes CX X E) (hdb : (x == ("__debug__" : Str)) = false := by decide) :
    PE X (.Call (.Name x p) [] [] pos) (tCall sp dvs E tNil) := by
  constructor
  intro pins s σ H Q I want
  apply wpAny_Call_Name_kw
  apply ld_glob I hg hm _ hdb
  apply PySem.W.callWith_K0 I.kIn kp
  have r2 : Vals ([] ++ dvs) ([] ++ ds) := Vals.append .nil hd
  have n2 : (([] : List Value) ++ ds).length = ps.length := r2.length.symm.trans (F.many _ _ _ _ want)
  apply wpAny_call
  exact codeAny_mono (runG F room guard out I (hb s [] I.kIn n2) r2 want)
    (fun r s' h => by cases r with | error _ => exact h | ok fl => cases fl <;> exact h)

variable {g : List Value → List Value → List Value} {gV : List V → List V → List V}
/-- f(a, .., n = b, ..) -/
theorem pe_callGK (F : FnG X.prog X.w X.K X.mg X.base CX k f fd ps sp) (room : Room k X.A) (guard : X.A.guards = some [])
    (hg : Gl X x) (hm : X.mg x = some (.ref f)) (kp : PySem.W.keepIn X.K (.ref f) = true) (hb : KBinds X.K fd ps ks g gV)
    (out : Passes CX X E) (ha : PA X (e :: es) ta) (hk : PK X kws tk)
    (hall : (backToKw pos (keywordEach kws X.env)).all (·.1.isSome) = true := by rfl)
    (hks : (backToKw pos (keywordEach kws X.env)).filterMap (·.1) = ks := by rfl)
    (hdb : (x == ("__debug__" : Str)) = false := by decide)
    (he : starEach (e :: es) X.env = (false, eval e X.env) :: starEach es X.env := by rfl)
    (hpl : ((backTo pos (starEach (e :: es) X.env)).any (·.1) || (backToKw pos (keywordEach kws X.env)).any (·.1.isNone)) = false := by rfl) :
    PE X (.Call (.Name x p) (e :: es) kws pos) (tCallK sp gV E ta tk) := by
  constructor
  intro pins s σ H Q I want
  apply wpAny_Call_Name_kw
  apply ld_glob I hg hm _ hdb
  apply PySem.W.callWith_KW (h₀ := X.base) I.ok.mod.kin kp hall _ hpl he
  apply thn (ha.run pos pins s σ H _ I want)
  rintro us s1 ⟨vs, H1, I1, r1, q1⟩
  apply thn (hk.run pos pins s1 σ H1 _ I1 q1)
  rintro ws s2 ⟨zs, H2, I2, r2, q2⟩
  refine ⟨I2.kIn, ?_⟩
  rw [hks]
  have r3 := hb.rel r1 r2
  have n3 : (g us ws).length = ps.length := r3.length.symm.trans (F.many _ _ _ _ q2)
  apply wpAny_call
  exact codeAny_mono (runG F room guard out I2 (hb.to s2 us ws I2.kIn n3) r3 q2)
    (fun r s' h => by cases r with | error _ => exact h | ok fl => cases fl <;> exact h)

/-- f(n = b, ..) -/
theorem pe_callGK0 (F : FnG X.prog X.w X.K X.mg X.base CX k f fd ps sp) (room : Room k X.A) (guard : X.A.guards = some [])
    (hg : Gl X x) (hm : X.mg x = some (.ref f)) (kp : PySem.W.keepIn X.K (.ref f) = true) (hb : KBinds X.K fd ps ks g gV)
    (out : Passes CX X E) (hk : PK X kws tk)
    (hall : (backToKw pos (keywordEach kws X.env)).all (·.1.isSome) = true := by rfl)
    (hks : (backToKw pos (keywordEach kws X.env)).filterMap (·.1) = ks := by rfl)
    (hdb : (x == ("__debug__" : Str)) = false := by decide)
    (hpl : ((backTo pos (starEach [] X.env)).any (·.1) || (backToKw pos (keywordEach kws X.env)).any (·.1.isNone)) = false := by rfl) :
    PE X (.Call (.Name x p) [] kws pos) (tCallK sp gV E tNil tk) := by
  constructor
  intro pins s σ H Q I want
  apply wpAny_Call_Name_kw
  apply ld_glob I hg hm _ hdb
  apply PySem.W.callWith_KW0 (h₀ := X.base) I.ok.mod.kin kp hall _ hpl
  apply thn (hk.run pos pins s σ H _ I want)
  rintro ws s2 ⟨zs, H2, I2, r2, q2⟩
  refine ⟨I2.kIn, ?_⟩
  rw [hks]
  have r3 := hb.rel (vs := []) (us := []) .nil r2
  have n3 : (g [] ws).length = ps.length := r3.length.symm.trans (F.many _ _ _ _ q2)
  apply wpAny_call
  exact codeAny_mono (runG F room guard out I2 (hb.to s2 [] ws I2.kIn n3) r3 q2)
    (fun r s' h => by cases r with | error _ => exact h | ok fl => cases fl <;> exact h)
end

/-! ### repr -/
section
variable {X : Cx}
theorem kept_toks {pins : List (Addr × Obj)} {σ : L2.St} {H : Hp} {s : Shared} (I : Inv X pins σ H s) {h' : Heap} {t : Nat}
    (k : ∀ b o, s.heap.get? b = some o → h'.get? b = some o) : Inv X pins σ H { s with heap := h', toks := t } :=
  I.kept k

/-- repr of a list or a tuple of data -/
theorem repr_box (guard : X.A.guards = some []) (hu : X.A.units + 64 < cLine) :
    CallR X (.builtin "repr") (fun xs H Q => ∃ a d, xs = [.ref a] ∧ Dp X.K H (.ref a) d ∧ d.showable = true ∧ d.hasDict = false ∧ d.depth ≤ 60 ∧ d.shown.length ≤ sizeLine ∧ Q (.str d.shown) H) := by
  intro pins s σ H xs us Q I r h
  obtain ⟨a, d, rfl, dp, sh, nd, dd, sz, q⟩ := h
  obtain ⟨u, rfl, ru⟩ := vals1 r
  obtain rfl : u = .ref a := ru
  obtain ⟨as, rd⟩ := Dp.reads I d _ _ dp rfl
  refine repr_of_reads' rd sh (fun z => by rw [nd] at z; cases z) guard (by omega) (fun _ _ e => e) (fun h' u tk kp => ?_) sz
  exact ⟨.str d.shown, H, kept_toks I kp, ⟨_, rfl⟩, q⟩
end
end Gd
/-! Data: what a value stands for, whatever the heap holds besides. -/
namespace DL
open PySem PySem.Spec L2 Gd

inductive D where
  | non | bl (b : Bool) | int (i : Int) | str (x : Str) | tup (xs : List D) | lst (xs : List D)
  | fls (ns : List Int) | adr (a : Addr)

def KTup (K : PySem.W.Frag) (a : Addr) (xs : List V) : Prop :=
  ∃ (o : Obj) (its : Array Value) (n : Nat), K.lookup a = some o ∧ o.cls = .type "tuple" ∧ o.data = .seq its n ∧ its.size ≤ sizeLine ∧ Vals xs its.toList
def KLst (K : PySem.W.Frag) (a : Addr) (xs : List V) : Prop :=
  ∃ (o : Obj) (its : Array Value) (n : Nat), K.lookup a = some o ∧ o.cls = .type "list" ∧ o.dict = none ∧ o.data = .seq its n ∧ its.size ≤ sizeLine ∧ Vals xs its.toList

/-- what may change: elsewhere, and here -/
structure Mm where
  fo : Addr → Prop
  ch : Addr → Prop
def Mm.mu (M : Mm) (b : Addr) : Prop := M.fo b ∨ M.ch b
def Fo (m : Addr → Prop) : Mm := ⟨m, fun _ => False⟩
mutual
/-- the value stands for the data; M: what may change -/
inductive Dt (K : PySem.W.Frag) (M : Mm) (H : Hp) : V → D → Prop
  | non : Dt K M H .non .non
  | bl (b : Bool) : Dt K M H (.bl b) (.bl b)
  | int (i : Int) : Dt K M H (.int i) (.int i)
  | str (x : Str) : Dt K M H (.str x) (.str x)
  | tup {a : Addr} {xs : List V} {ds : List D} : ¬ M.mu a → Rd H a (.tup xs) → DtAll K M H xs ds → Dt K M H (.ref a) (.tup ds)
  | ktup {a : Addr} {xs : List V} {ds : List D} : KTup K a xs → DtAll K M H xs ds → Dt K M H (.ref a) (.tup ds)
  | lst {a : Addr} {xs : List V} {ds : List D} : ¬ M.mu a → H a = some (.lst xs) → DtAll K M H xs ds → Dt K M H (.ref a) (.lst ds)
  | fls {a : Addr} {ns : List Int} : ¬ M.mu a → Rd H a (.lst (ns.map V.int)) → Dt K M H (.ref a) (.fls ns)
  | kfls {a : Addr} {ns : List Int} : KLst K a (ns.map V.int) → Dt K M H (.ref a) (.fls ns)
  | adr (a : Addr) : Dt K M H (.ref a) (.adr a)
inductive DtAll (K : PySem.W.Frag) (M : Mm) (H : Hp) : List V → List D → Prop
  | nil : DtAll K M H [] []
  | cons {v : V} {vs : List V} {d : D} {ds : List D} : Dt K M H v d → DtAll K M H vs ds → DtAll K M H (v :: vs) (d :: ds)
end

/-- as far as data see it: all but what may change is kept, what may change anew is new -/
structure ExtD (M : Mm) (H : Hp) (M' : Mm) (H' : Hp) : Prop where
  keep : ∀ b o, ¬ M.mu b → H b = some o → H' b = some o
  fresh : ∀ b, M'.mu b → ¬ M.mu b → H b = none
/-- what happened to the heap: all is kept but what may change here -/
structure Ext (M : Mm) (H : Hp) (M' : Mm) (H' : Hp) : Prop where
  keep : ∀ b o, ¬ M.ch b → H b = some o → H' b = some o
  fresh : ∀ b, M'.mu b → ¬ M.mu b → H b = none
  freshC : ∀ b, M'.ch b → ¬ M.ch b → H b = none
theorem Ext.d {M M' : Mm} {H H' : Hp} (x : Ext M H M' H') : ExtD M H M' H' := ⟨fun b o n e => x.keep b o (fun z => n (.inr z)) e, x.fresh⟩

theorem Ext.refl {M : Mm} {H : Hp} : Ext M H M H := ⟨fun _ _ _ e => e, fun _ a b => absurd a b, fun _ a b => absurd a b⟩
theorem Ext.trans {M M1 M2 : Mm} {H H1 H2 : Hp} (a : Ext M H M1 H1) (b : Ext M1 H1 M2 H2) : Ext M H M2 H2 := by
  have keep : ∀ c o, ¬ M.ch c → H c = some o → H2 c = some o := by
    intro c o n e
    have e1 := a.keep c o n e
    by_cases m : M1.ch c
    · have := a.freshC c m n
      rw [this] at e
      cases e
    · exact b.keep c o m e1
  refine ⟨keep, ?_, ?_⟩
  · intro c m n
    by_cases m1 : M1.mu c
    · exact a.fresh c m1 n
    · have z := b.fresh c m m1
      cases e : H c with
      | none => rfl
      | some o =>
        have e1 := a.keep c o (fun z => n (.inr z)) e
        rw [z] at e1
        cases e1
  · intro c m n
    by_cases m1 : M1.ch c
    · exact a.freshC c m1 n
    · have z := b.freshC c m m1
      cases e : H c with
      | none => rfl
      | some o =>
        have e1 := a.keep c o n e
        rw [z] at e1
        cases e1
theorem ExtD.refl {M : Mm} {H : Hp} : ExtD M H M H := ⟨fun _ _ _ e => e, fun _ a b => absurd a b⟩
theorem ExtD.trans {M M1 M2 : Mm} {H H1 H2 : Hp} (a : ExtD M H M1 H1) (b : ExtD M1 H1 M2 H2) : ExtD M H M2 H2 := by
  constructor
  · intro c o n e
    have e1 := a.keep c o n e
    by_cases m : M1.mu c
    · have := a.fresh c m n
      rw [this] at e
      cases e
    · exact b.keep c o m e1
  · intro c m n
    by_cases m1 : M1.mu c
    · exact a.fresh c m1 n
    · have z := b.fresh c m m1
      cases e : H c with
      | none => rfl
      | some o =>
        have e1 := a.keep c o n e
        rw [z] at e1
        cases e1
theorem Ext.less {M M' : Mm} {H : Hp} (h : ∀ b, M'.mu b → M.mu b) (hc : ∀ b, M'.ch b → M.ch b) : Ext M H M' H :=
  ⟨fun _ _ _ e => e, fun b a n => absurd (h b a) n, fun b a n => absurd (hc b a) n⟩

section
variable {K : PySem.W.Frag} {M M' : Mm} {H H' : Hp}
theorem Rd.some {a : Addr} {u : HO} (h : Rd H a u) : ∃ o, H a = .some o := by
  rcases h with h | ⟨o, h⟩
  · exact ⟨_, h⟩
  · exact ⟨_, h⟩
theorem ExtD.rd (x : ExtD M H M' H') {a : Addr} {u : HO} (n : ¬ M.mu a) (h : Rd H a u) : Rd H' a u := by
  rcases h with h | ⟨o, h⟩
  · exact .inl (x.keep _ _ n h)
  · exact .inr ⟨o, x.keep _ _ n h⟩
theorem ExtD.out (x : ExtD M H M' H') {a : Addr} {o : HO} (n : ¬ M.mu a) (h : H a = some o) : ¬ M'.mu a := fun m => by
  have z := x.fresh a m n
  rw [z] at h
  cases h
theorem ExtD.outR (x : ExtD M H M' H') {a : Addr} {u : HO} (n : ¬ M.mu a) (h : Rd H a u) : ¬ M'.mu a := by
  obtain ⟨o, e⟩ := Rd.some h
  exact x.out n e
mutual
theorem Dt.extD (x : ExtD M H M' H') : ∀ {v : V} {d : D}, Dt K M H v d → Dt K M' H' v d
  | _, _, .non => .non
  | _, _, .bl b => .bl b
  | _, _, .int i => .int i
  | _, _, .str s => .str s
  | _, _, .tup n h a => .tup (x.outR n h) (x.rd n h) (DtAll.extD x a)
  | _, _, .ktup h a => .ktup h (DtAll.extD x a)
  | _, _, .lst n h a => .lst (x.out n h) (x.keep _ _ n h) (DtAll.extD x a)
  | _, _, .fls n h => .fls (x.outR n h) (x.rd n h)
  | _, _, .kfls h => .kfls h
  | _, _, .adr a => .adr a
theorem DtAll.extD (x : ExtD M H M' H') : ∀ {vs : List V} {ds : List D}, DtAll K M H vs ds → DtAll K M' H' vs ds
  | _, _, .nil => .nil
  | _, _, .cons h t => .cons (Dt.extD x h) (DtAll.extD x t)
end
theorem Dt.ext (x : Ext M H M' H') {v : V} {d : D} (h : Dt K M H v d) : Dt K M' H' v d := h.extD x.d
theorem DtAll.ext (x : Ext M H M' H') {vs : List V} {ds : List D} (h : DtAll K M H vs ds) : DtAll K M' H' vs ds := h.extD x.d
theorem Ext.rd (x : Ext M H M' H') {a : Addr} {u : HO} (n : ¬ M.mu a) (h : Rd H a u) : Rd H' a u := x.d.rd n h
theorem DtAll.length : ∀ {vs : List V} {ds : List D}, DtAll K M H vs ds → vs.length = ds.length
  | _, _, .nil => rfl
  | _, _, .cons _ t => by
    rw [List.length_cons, List.length_cons, DtAll.length t]
theorem DtAll.append : ∀ {vs ws : List V} {ds es : List D}, DtAll K M H vs ds → DtAll K M H ws es → DtAll K M H (vs ++ ws) (ds ++ es)
  | _, _, _, _, .nil, b => b
  | _, _, _, _, .cons h t, b => .cons h (DtAll.append t b)
theorem DtAll.get : ∀ {vs : List V} {ds : List D} {i : Nat} {d : D}, DtAll K M H vs ds → ds[i]? = some d → ∃ v, vs[i]? = some v ∧ Dt K M H v d
  | _, _, _, _, .nil, e => by simp at e
  | _, _, 0, _, .cons h _, e => by
    simp at e
    subst e
    exact ⟨_, rfl, h⟩
  | _, _, i + 1, _, .cons _ t, e => by
    obtain ⟨v, e1, e2⟩ := DtAll.get (i := i) t (by simpa using e)
    exact ⟨v, by simpa using e1, e2⟩
theorem DtAll.getV : ∀ {vs : List V} {ds : List D} {i : Nat} {v : V}, DtAll K M H vs ds → vs[i]? = some v → ∃ d, ds[i]? = some d ∧ Dt K M H v d
  | _, _, _, _, .nil, e => by simp at e
  | _, _, 0, _, .cons h _, e => by
    simp at e
    subst e
    exact ⟨_, rfl, h⟩
  | _, _, i + 1, _, .cons _ t, e => by
    obtain ⟨d, e1, e2⟩ := DtAll.getV (i := i) t (by simpa using e)
    exact ⟨d, by simpa using e1, e2⟩
theorem DtAll.take : ∀ {vs : List V} {ds : List D} (n : Nat), DtAll K M H vs ds → DtAll K M H (vs.take n) (ds.take n)
  | _, _, 0, _ => by simpa using DtAll.nil
  | _, _, _ + 1, .nil => .nil
  | _, _, n + 1, .cons h t => .cons h (DtAll.take n t)
theorem DtAll.drop : ∀ {vs : List V} {ds : List D} (n : Nat), DtAll K M H vs ds → DtAll K M H (vs.drop n) (ds.drop n)
  | _, _, 0, h => h
  | _, _, _ + 1, .nil => .nil
  | _, _, n + 1, .cons _ t => DtAll.drop n t
theorem DtAll.set {v : V} {d : D} (h : Dt K M H v d) : ∀ {vs : List V} {ds : List D} (n : Nat), DtAll K M H vs ds → DtAll K M H (vs.set n v) (ds.set n d)
  | _, _, _, .nil => .nil
  | _, _, 0, .cons _ t => .cons h t
  | _, _, n + 1, .cons a t => .cons a (DtAll.set h n t)
theorem DtAll.reverse {vs : List V} {ds : List D} (h : DtAll K M H vs ds) : DtAll K M H vs.reverse ds.reverse := by
  induction vs generalizing ds with
  | nil => cases h; exact .nil
  | cons v vs ih =>
    cases h with
    | cons h t =>
      rw [List.reverse_cons, List.reverse_cons]
      exact (ih t).append (.cons h .nil)
theorem DtAll.dropLast {vs : List V} {ds : List D} (h : DtAll K M H vs ds) : DtAll K M H vs.dropLast ds.dropLast := by
  rw [List.dropLast_eq_take, List.dropLast_eq_take, h.length]
  exact h.take _
theorem DtAll.rep {vs : List V} {ds : List D} (h : DtAll K M H vs ds) : ∀ k : Nat, DtAll K M H (List.replicate k vs).flatten (List.replicate k ds).flatten
  | 0 => .nil
  | k + 1 => by
    rw [List.replicate_succ, List.replicate_succ, List.flatten_cons, List.flatten_cons]
    exact h.append (DtAll.rep h k)
theorem DtAll.ints : ∀ (ns : List Int), DtAll K M H (ns.map V.int) (ns.map D.int)
  | [] => .nil
  | n :: ns => .cons (.int n) (DtAll.ints ns)
theorem Dt.ints_of : ∀ {ns : List Int} {vs : List V}, DtAll K M H vs (ns.map D.int) → vs = ns.map V.int
  | [], _, h => by cases h; rfl
  | n :: ns, _, h => by
    cases h with
    | cons h t =>
      cases h
      rw [Dt.ints_of t]
      rfl
theorem Dt.bls_of : ∀ {ns : List Bool} {vs : List V}, DtAll K M H vs (ns.map D.bl) → vs = ns.map V.bl
  | [], _, h => by cases h; rfl
  | n :: ns, _, h => by
    cases h with
    | cons h t =>
      cases h
      rw [Dt.bls_of t]
      rfl
theorem Dt.strs_of : ∀ {ns : List Str} {vs : List V}, DtAll K M H vs (ns.map D.str) → vs = ns.map V.str
  | [], _, h => by cases h; rfl
  | n :: ns, _, h => by
    cases h with
    | cons h t =>
      cases h
      rw [Dt.strs_of t]
      rfl
theorem Dt.sqT {v : V} {ds : List D} (h : Dt K M H v (.tup ds)) : ∃ a xs, v = .ref a ∧ SqT K H a xs ∧ DtAll K M H xs ds := by
  cases h with
  | tup n h a => exact ⟨_, _, rfl, .inl h, a⟩
  | ktup h a => exact ⟨_, _, rfl, .inr h, a⟩
theorem Dt.sqL {v : V} {ds : List D} (h : Dt K M H v (.lst ds)) : ∃ a xs, v = .ref a ∧ ¬ M.mu a ∧ H a = some (.lst xs) ∧ DtAll K M H xs ds := by
  cases h with
  | lst n h a => exact ⟨_, _, rfl, n, h, a⟩
theorem Dt.sqF {v : V} {ns : List Int} (h : Dt K M H v (.fls ns)) : ∃ a, v = .ref a ∧ SqL K H a (ns.map V.int) := by
  cases h with
  | fls n h => exact ⟨_, rfl, .inl h⟩
  | kfls h => exact ⟨_, rfl, .inr h⟩
end

/-! ### the frame of a def -/
abbrev Sl := List (Option D)
abbrev Sto := List (Addr × List D)
/-- M0: what may change elsewhere; H0: the heap at the entry; hand, J: what was handed over to be changed, and what is true of it -/
structure Dx where
  M0 : Addr → Prop
  H0 : Hp
  hand : Addr → Prop
  J : Hp → Prop
def Mu (dx : Dx) (S : Sto) : Mm := ⟨dx.M0, fun b => dx.hand b ∨ b ∈ S.map (·.1)⟩

structure HR (K : PySem.W.Frag) (dx : Dx) (H : Hp) (S : Sto) : Prop where
  sto : ∀ p xs, (p, xs) ∈ S → ∃ vs, H p = some (.lst vs) ∧ DtAll K (Mu dx S) H vs xs
  nd : (S.map (·.1)).Nodup
  live : ∀ b, dx.M0 b → H b ≠ none
  own : ∀ p, p ∈ S.map (·.1) → dx.H0 p = none ∧ ¬ dx.M0 p
  keep : ∀ b o, dx.H0 b = some o → ¬ dx.hand b → H b = some o
  j : dx.J H
  stab : ∀ H H' : Hp, (∀ b, dx.hand b → H' b = H b) → dx.J H → dx.J H'
  hm : ∀ b, dx.hand b → dx.M0 b

structure SR (K : PySem.W.Frag) (dx : Dx) (σ : L2.St) (H : Hp) (δ : Sl) (S : Sto) : Prop where
  len : δ.length = σ.length
  ix : ∀ (i : Nat) (d : D), δ[i]? = some (some d) → ∃ v : V, σ[i]? = some (some v) ∧ Dt K (Mu dx S) H v d

section
variable {K : PySem.W.Frag} {dx : Dx} {H H' : Hp} {S S' : Sto} {σ : L2.St} {δ : Sl}
theorem SR.extD {dy : Dx} (r : SR K dx σ H δ S) (x : ExtD (Mu dx S) H (Mu dy S') H') : SR K dy σ H' δ S' :=
  ⟨r.len, fun i d e => let ⟨v, e1, e2⟩ := r.ix i d e; ⟨v, e1, e2.extD x⟩⟩
theorem SR.ext (r : SR K dx σ H δ S) (x : Ext (Mu dx S) H (Mu dx S') H') : SR K dx σ H' δ S' :=
  ⟨r.len, fun i d e => let ⟨v, e1, e2⟩ := r.ix i d e; ⟨v, e1, e2.ext x⟩⟩
theorem SR.set (r : SR K dx σ H δ S) {v : V} {d : D} (i : Nat) (h : Dt K (Mu dx S) H v d) : SR K dx (σ.set i (some v)) H (δ.set i (some d)) S := by
  refine ⟨by rw [List.length_set, List.length_set]; exact r.len, fun j e he => ?_⟩
  by_cases q : j = i
  · subst q
    have lt : j < δ.length := by
      have := (List.getElem?_eq_some_iff.mp he).1
      rwa [List.length_set] at this
    rw [List.getElem?_set_self lt] at he
    cases he
    exact ⟨v, by rw [List.getElem?_set_self (by rw [← r.len]; exact lt)], h⟩
  · rw [List.getElem?_set_ne (Ne.symm q)] at he
    rw [List.getElem?_set_ne (Ne.symm q)]
    exact r.ix j e he
/-- slots forgotten -/
theorem SR.sub {δ' : Sl} (r : SR K dx σ H δ S) (l : δ'.length = δ.length) (h : ∀ (i : Nat) (d : D), δ'[i]? = some (some d) → δ[i]? = some (some d)) : SR K dx σ H δ' S :=
  ⟨l.trans r.len, fun i d e => r.ix i d (h i d e)⟩
theorem HR.hand_ne (r : HR K dx H S) {p : Addr} (n : H p = none) : ∀ b, dx.hand b → b ≠ p := fun b h e => by
  subst e
  exact r.live _ (r.hm _ h) n
theorem HR.mu_ne (r : HR K dx H S) {p : Addr} (n : H p = none) : ¬ (Mu dx S).mu p := by
  rintro (h | h | h)
  · exact r.live _ h n
  · exact r.live _ (r.hm _ h) n
  · obtain ⟨⟨q, xs⟩, hm, e⟩ := List.mem_map.mp h
    obtain ⟨vs, hp, _⟩ := r.sto q xs hm
    have e : q = p := e
    rw [e] at hp
    rw [hp] at n
    cases n
theorem ext_new {M : Mm} {p : Addr} {o : HO} (n : H p = none) : Ext M H M (upd H p o) :=
  ⟨fun b u _ e => by rw [upd_ne (ne_of_none e n)]; exact e, fun _ a b => absurd a b, fun _ a b => absurd a b⟩
theorem Ext.same {M : Mm} (h : Same H H') : Ext M H M H' := ⟨fun b o _ e => h b o e, fun _ a b => absurd a b, fun _ a b => absurd a b⟩
/-- all that was tracked is as it was -/
theorem HR.same (r : HR K dx H S) (h : Same H H') : HR K dx H' S where
  sto := fun p xs m => let ⟨vs, e, a⟩ := r.sto p xs m; ⟨vs, h _ _ e, a.ext (Ext.same h)⟩
  nd := r.nd
  live := fun b m z => by
    cases e : H b with
    | none => exact r.live b m e
    | some o => rw [h b o e] at z; cases z
  own := r.own
  keep := fun b o e n => h b o (r.keep b o e n)
  j := r.stab H H' (fun b hb => by
    cases e : H b with
    | none => exact absurd e (r.live b (r.hm b hb))
    | some o => exact h b o e) r.j
  stab := r.stab
  hm := r.hm
theorem same_new {p : Addr} {o : HO} (n : H p = none) : Same H (upd H p o) := fun b u e => by
  rw [upd_ne (ne_of_none e n)]; exact e
theorem HR.own_not (r : HR K dx H S) {p : Addr} (m : p ∈ S.map (·.1)) : ¬ dx.M0 p := (r.own p m).2
theorem HR.mu_live (r : HR K dx H S) : ∀ b, (Mu dx S).mu b → H b ≠ none := fun b m z => r.mu_ne z m
theorem HR.old (r : HR K dx H S) {p : Addr} (n : H p = none) : dx.H0 p = none := by
  cases e : dx.H0 p with
  | none => rfl
  | some o =>
    by_cases hb : dx.hand p
    · exact absurd n (r.live p (r.hm p hb))
    · have := r.keep p o e hb
      rw [n] at this
      cases this

/-- a new list of one's own -/
theorem ext_own {p : Addr} {o : HO} {xs : List D} (r : HR K dx H S) (n : H p = none) : Ext (Mu dx S) H (Mu dx ((p, xs) :: S)) (upd H p o) := by
  have key : ∀ b, (Mu dx ((p, xs) :: S)).ch b → ¬ (Mu dx S).ch b → H b = none := by
    intro b m z
    rcases m with m | m
    · exact absurd (.inl m) z
    · rcases List.mem_cons.mp m with e | m
      · have e : b = p := e
        rw [e]; exact n
      · exact absurd (.inr m) z
  refine ⟨fun b u _ e => by rw [upd_ne (ne_of_none e n)]; exact e, fun b m z => ?_, key⟩
  rcases m with m | m
  · exact absurd (.inl m) z
  · exact key b m fun y => z (.inr y)
theorem HR.grow (r : HR K dx H S) {p : Addr} {vs : List V} {xs : List D} (n : H p = none) (a : DtAll K (Mu dx S) H vs xs) : HR K dx (upd H p (.lst vs)) ((p, xs) :: S) := by
  have X := ext_own (o := .lst vs) (xs := xs) r n
  have R := r.same (same_new (o := .lst vs) n)
  refine ⟨fun q ys m => ?_, ?_, R.live, fun q m => ?_, R.keep, R.j, R.stab, R.hm⟩
  · rcases List.mem_cons.mp m with e | m
    · cases e
      exact ⟨vs, upd_same, a.ext X⟩
    · obtain ⟨ws, e, b⟩ := r.sto q ys m
      exact ⟨ws, by rw [upd_ne (ne_of_none e n)]; exact e, b.ext X⟩
  · rw [List.map_cons]
    refine List.nodup_cons.mpr ⟨fun m => r.mu_ne n (.inr (.inr m)), r.nd⟩
  · rw [List.map_cons] at m
    rcases List.mem_cons.mp m with e | m
    · have e : q = p := e
      rw [e]
      exact ⟨r.old n, fun z => r.live p z n⟩
    · exact r.own q m

/-- the store with other items at p -/
def setS (S : Sto) (p : Addr) (xs : List D) : Sto := S.map fun q => if q.1 = p then (p, xs) else q
theorem setS_keys (S : Sto) (p : Addr) (xs : List D) : (setS S p xs).map (·.1) = S.map (·.1) := by
  unfold setS
  rw [List.map_map]
  apply List.map_congr_left
  intro q _
  show (if q.1 = p then (p, xs) else q).1 = q.1
  split
  · rename_i h; exact h.symm
  · rfl
theorem setS_mem {S : Sto} {p q : Addr} {xs ys : List D} (h : (q, ys) ∈ setS S p xs) : (q = p ∧ ys = xs) ∨ (q ≠ p ∧ (q, ys) ∈ S) := by
  unfold setS at h
  obtain ⟨z, m, e⟩ := List.mem_map.mp h
  split at e
  · rename_i hz
    cases e
    exact .inl ⟨rfl, rfl⟩
  · rename_i hz
    subst e
    exact .inr ⟨hz, m⟩
def getS (S : Sto) (p : Addr) : Option (List D) := (S.find? fun q => q.1 = p).map (·.2)
theorem getS_mem {S : Sto} {p : Addr} {xs : List D} (h : getS S p = some xs) : (p, xs) ∈ S := by
  unfold getS at h
  obtain ⟨⟨q, ys⟩, e, rfl⟩ := Option.map_eq_some_iff.mp h
  have m := List.mem_of_find?_eq_some e
  have c := List.find?_some e
  have c : q = p := by simpa using c
  subst c
  exact m
theorem mu_set {dx : Dx} {S : Sto} {p : Addr} {xs : List D} : Mu dx (setS S p xs) = Mu dx S := by
  unfold Mu
  rw [setS_keys]
theorem ext_set {p : Addr} {o : HO} {xs : List D} (m : p ∈ S.map (·.1)) : Ext (Mu dx S) H (Mu dx (setS S p xs)) (upd H p o) := by
  rw [mu_set]
  refine ⟨fun b u n e => ?_, fun b a n => absurd a n, fun b a n => absurd a n⟩
  by_cases q : b = p
  · subst q; exact absurd (.inr m) n
  · rw [upd_ne q]; exact e
theorem HR.put (r : HR K dx H S) {p : Addr} {vs : List V} {xs : List D} (m : p ∈ S.map (·.1)) (a : DtAll K (Mu dx S) H vs xs) : HR K dx (upd H p (.lst vs)) (setS S p xs) := by
  have X := ext_set (dx := dx) (H := H) (o := .lst vs) (xs := xs) m
  have np : ¬ dx.M0 p := r.own_not m
  refine ⟨fun q ys mm => ?_, by rw [setS_keys]; exact r.nd, fun b hb => ?_, fun q hq => r.own q (by rw [← setS_keys S p xs]; exact hq), fun b o e n => ?_, ?_, r.stab, r.hm⟩
  · rcases setS_mem mm with ⟨rfl, rfl⟩ | ⟨ne, mm⟩
    · exact ⟨vs, upd_same, a.ext X⟩
    · obtain ⟨ws, e, b⟩ := r.sto q ys mm
      exact ⟨ws, by rw [upd_ne ne]; exact e, b.ext X⟩
  · have ne : b ≠ p := fun z => np (z ▸ hb)
    rw [upd_ne ne]
    exact r.live b hb
  · have ne : b ≠ p := fun z => by
      rw [z, (r.own p m).1] at e
      cases e
    rw [upd_ne ne]
    exact r.keep b o e n
  · refine r.stab H _ (fun b hb => ?_) r.j
    have ne : b ≠ p := fun z => np (z ▸ r.hm b hb)
    rw [upd_ne ne]
/-- a list is not changed any more -/
def delS (S : Sto) (p : Addr) : Sto := S.filter fun q => q.1 ≠ p
theorem delS_mem {S : Sto} {p b : Addr} (h : b ∈ (delS S p).map (·.1)) : b ∈ S.map (·.1) ∧ b ≠ p := by
  obtain ⟨q, m, rfl⟩ := List.mem_map.mp h
  obtain ⟨m1, m2⟩ := List.mem_filter.mp m
  exact ⟨List.mem_map.mpr ⟨q, m1, rfl⟩, by simpa using m2⟩
theorem ext_del {p : Addr} : Ext (Mu dx S) H (Mu dx (delS S p)) H := by
  have key : ∀ b, (Mu dx (delS S p)).ch b → (Mu dx S).ch b := fun b h => h.elim .inl fun h => .inr (delS_mem h).1
  exact Ext.less (fun b h => h.elim .inl fun h => .inr (key b h)) key
theorem HR.del (r : HR K dx H S) (p : Addr) : HR K dx H (delS S p) := by
  refine ⟨fun q ys m => ?_, ?_, r.live, fun q m => r.own q (delS_mem m).1, r.keep, r.j, r.stab, r.hm⟩
  · obtain ⟨ws, e, b⟩ := r.sto q ys (List.mem_filter.mp m).1
    exact ⟨ws, e, b.ext ext_del⟩
  · exact r.nd.sublist (List.Sublist.map _ List.filter_sublist)
theorem HR.frozen (r : HR K dx H S) {p : Addr} {xs : List D} (h : getS S p = some xs) : Dt K (Mu dx (delS S p)) H (.ref p) (.lst xs) := by
  have m := getS_mem h
  have mp : p ∈ S.map (·.1) := List.mem_map.mpr ⟨_, m, rfl⟩
  obtain ⟨vs, e, a⟩ := r.sto p xs m
  refine .lst ?_ e (a.ext ext_del)
  rintro (z | z | z)
  · exact r.own_not mp z
  · exact r.own_not mp (r.hm _ z)
  · exact (delS_mem z).2 rfl
theorem HR.get (r : HR K dx H S) {p : Addr} {xs : List D} (h : getS S p = some xs) : p ∈ S.map (·.1) ∧ ∃ vs, H p = some (.lst vs) ∧ DtAll K (Mu dx S) H vs xs :=
  ⟨List.mem_map.mpr ⟨_, getS_mem h, rfl⟩, r.sto p xs (getS_mem h)⟩
end
end DL
/-! Readings over data. -/
namespace DL
open PySem PySem.Spec L2 Gd

def gt : Sl → Nat → Option D
  | [], _ => none
  | a :: _, 0 => a
  | _ :: r, n + 1 => gt r n
def put : Sl → Nat → D → Sl
  | [], _, _ => []
  | _ :: r, 0, d => some d :: r
  | a :: r, n + 1, d => a :: put r n d
theorem gt_ix : ∀ {δ : Sl} {i : Nat} {d : D}, gt δ i = some d → δ[i]? = some (some d)
  | [], _, _, h => by cases h
  | a :: _, 0, _, h => by simpa [gt] using h
  | _ :: r, n + 1, _, h => by simpa [gt] using gt_ix (δ := r) (i := n) h
theorem put_set : ∀ {δ : Sl} {i : Nat} {d : D}, put δ i d = δ.set i (some d)
  | [], _, _ => rfl
  | _ :: _, 0, _ => rfl
  | a :: r, n + 1, d => by
    show a :: put r n d = a :: r.set n (some d)
    rw [put_set]

abbrev DTE := Sl → Sto → (D → Sto → Prop) → Prop
abbrev DTT := Sl → Sto → (Bool → Sto → Prop) → Prop
abbrev DTA := Sl → Sto → (List D → Sto → Prop) → Prop
structure DEnds where
  nx : Sl → Sto → Prop
  rt : D → Sto → Prop
  bk : Sl → Sto → Prop := fun _ _ => False
  ct : Sl → Sto → Prop := fun _ _ => False
abbrev DTS := DEnds → Sl → Sto → Prop

def ThE (K : PySem.W.Frag) (dx : Dx) (H : Hp) (S : Sto) (Q : D → Sto → Prop) (Qh : VK) : Prop :=
  ∀ v H' d S', HR K dx H' S' → Ext (Mu dx S) H (Mu dx S') H' → Dt K (Mu dx S') H' v d → Q d S' → Qh v H'
def ThT (K : PySem.W.Frag) (dx : Dx) (H : Hp) (S : Sto) (Q : Bool → Sto → Prop) (Qh : Bool → Hp → Prop) : Prop :=
  ∀ b H' S', HR K dx H' S' → Ext (Mu dx S) H (Mu dx S') H' → Q b S' → Qh b H'
def ThA (K : PySem.W.Frag) (dx : Dx) (H : Hp) (S : Sto) (Q : List D → Sto → Prop) (Qh : List V → Hp → Prop) : Prop :=
  ∀ vs H' ds S', HR K dx H' S' → Ext (Mu dx S) H (Mu dx S') H' → DtAll K (Mu dx S') H' vs ds → Q ds S' → Qh vs H'

structure DE (X : Cx) (dx : Dx) (e : Expr) (te : TE) (t : DTE) : Prop where
  pe : PE X e te
  go : ∀ σ H δ S Q Qh, HR X.K dx H S → SR X.K dx σ H δ S → t δ S Q → ThE X.K dx H S Q Qh → te σ H Qh
structure DT (X : Cx) (dx : Dx) (e : Expr) (te : TT) (t : DTT) : Prop where
  pe : PT X e te
  go : ∀ σ H δ S Q Qh, HR X.K dx H S → SR X.K dx σ H δ S → t δ S Q → ThT X.K dx H S Q Qh → te σ H Qh
structure DW (X : Cx) (dx : Dx) (e : Expr) (te : TT) (t : DTT) : Prop where
  pe : PW X e te
  go : ∀ σ H δ S Q Qh, HR X.K dx H S → SR X.K dx σ H δ S → t δ S Q → ThT X.K dx H S Q Qh → te σ H Qh
structure DA (X : Cx) (dx : Dx) (es : List Expr) (te : TA) (t : DTA) : Prop where
  pe : PA X es te
  go : ∀ σ H δ S Q Qh, HR X.K dx H S → SR X.K dx σ H δ S → t δ S Q → ThA X.K dx H S Q Qh → te σ H Qh
structure DK (X : Cx) (dx : Dx) (es : List Keyword) (te : TA) (t : DTA) : Prop where
  pe : PK X es te
  go : ∀ σ H δ S Q Qh, HR X.K dx H S → SR X.K dx σ H δ S → t δ S Q → ThA X.K dx H S Q Qh → te σ H Qh

structure ThS (K : PySem.W.Frag) (dx : Dx) (H : Hp) (S : Sto) (DD : DEnds) (E : Ends) : Prop where
  nx : ∀ σ' H' δ' S', HR K dx H' S' → Ext (Mu dx S) H (Mu dx S') H' → SR K dx σ' H' δ' S' → DD.nx δ' S' → E.nx σ' H'
  bk : ∀ σ' H' δ' S', HR K dx H' S' → Ext (Mu dx S) H (Mu dx S') H' → SR K dx σ' H' δ' S' → DD.bk δ' S' → E.bk σ' H'
  ct : ∀ σ' H' δ' S', HR K dx H' S' → Ext (Mu dx S) H (Mu dx S') H' → SR K dx σ' H' δ' S' → DD.ct δ' S' → E.ct σ' H'
  rt : ∀ v H' d S', HR K dx H' S' → Ext (Mu dx S) H (Mu dx S') H' → Dt K (Fo dx.M0) H' v d → DD.rt d S' → E.rt v H'
structure DS (X : Cx) (dx : Dx) (st : Stmt) (ts : TS) (t : DTS) : Prop where
  pe : PS X st ts
  go : ∀ σ H δ S DD E, HR X.K dx H S → SR X.K dx σ H δ S → t DD δ S → ThS X.K dx H S DD E → ts E σ H
structure DSs (X : Cx) (dx : Dx) (st : List Stmt) (ts : TS) (t : DTS) : Prop where
  pe : PSs X st ts
  go : ∀ σ H δ S DD E, HR X.K dx H S → SR X.K dx σ H δ S → t DD δ S → ThS X.K dx H S DD E → ts E σ H

section
variable {K : PySem.W.Frag} {dx : Dx} {H H1 : Hp} {S S1 : Sto}
theorem ThE.on {Q Qh} (h : ThE K dx H S Q Qh) (x : Ext (Mu dx S) H (Mu dx S1) H1) : ThE K dx H1 S1 Q Qh :=
  fun v H' d S' r y => h v H' d S' r (x.trans y)
theorem ThT.on {Q Qh} (h : ThT K dx H S Q Qh) (x : Ext (Mu dx S) H (Mu dx S1) H1) : ThT K dx H1 S1 Q Qh :=
  fun v H' S' r y => h v H' S' r (x.trans y)
theorem ThA.on {Q Qh} (h : ThA K dx H S Q Qh) (x : Ext (Mu dx S) H (Mu dx S1) H1) : ThA K dx H1 S1 Q Qh :=
  fun v H' d S' r y => h v H' d S' r (x.trans y)
theorem ThS.on {DD E} (h : ThS K dx H S DD E) (x : Ext (Mu dx S) H (Mu dx S1) H1) : ThS K dx H1 S1 DD E :=
  ⟨fun a b c d r y => h.nx a b c d r (x.trans y), fun a b c d r y => h.bk a b c d r (x.trans y), fun a b c d r y => h.ct a b c d r (x.trans y), fun a b c d r y => h.rt a b c d r (x.trans y)⟩
end

section
variable {X : Cx} {dx : Dx} {a b c e : Expr} {es rest : List Expr} {pos : Pos} {ta tb tc te : TE} {fa fb fc : DTE} {ua ub : TT} {ga gb : DTT} {tr : TA} {fr : DTA}

/-! ### names, constants -/
def dVar (i : Nat) : DTE := fun δ S Q => match gt δ i with
  | some d => Q d S
  | none => False
theorem de_var {i : Nat} (h : PE X e (tVar i)) : DE X dx e (tVar i) (dVar i) := by
  refine ⟨h, fun σ H δ S Q Qh r s t k => ?_⟩
  unfold dVar at t
  cases g : gt δ i with
  | none => rw [g] at t; exact t.elim
  | some d =>
    rw [g] at t
    obtain ⟨v, e1, e2⟩ := s.ix i d (gt_ix g)
    exact ⟨v, e1, k v H d S r Ext.refl e2 t⟩
/-- the name that stands in the i-th slot -/
theorem dv (i : Nat) {x : Str} {pos : Pos} (hN : X.N[i]? = some x := by rfl) (hv : Vis X.env.scope x := by first | exact Or.inl rfl | exact Or.inr (Or.inl rfl) | exact Or.inr (Or.inr rfl))
    (hd : (x == ("__debug__" : Str)) = false := by decide) (hcd : (x == ("__classdict__" : Str)) = false := by decide) : DE X dx (.Name x pos) (tVar i) (dVar i) :=
  de_var (pe_var hN hv hd hcd)
def dC (d : D) : DTE := fun _ S Q => Q d S
theorem de_c {v : V} {d : D} (h : PE X e (tC v)) (q : ∀ M H, Dt X.K M H v d) : DE X dx e (tC v) (dC d) :=
  ⟨h, fun σ H δ S Q Qh r s t k => k v H d S r Ext.refl (q _ _) t⟩
theorem de_int {i : Int} {j} : DE X dx (.Constant (.int i) j pos) (tC (.int i)) (dC (.int i)) := de_c pe_int fun _ _ => .int i
theorem de_bl {i : Bool} {j} : DE X dx (.Constant (.bool i) j pos) (tC (.bl i)) (dC (.bl i)) := de_c pe_bl fun _ _ => .bl i
theorem de_non {j} : DE X dx (.Constant .none j pos) (tC .non) (dC .non) := de_c pe_non fun _ _ => .non
theorem de_str {i : Str} {j} : DE X dx (.Constant (.str i) j pos) (tC (.str i)) (dC (.str i)) := de_c pe_str fun _ _ => .str i

/-! ### operators by values -/
abbrev F2 := D → D → Sto → (D → Sto → Prop) → Prop
def OpD (K : PySem.W.Frag) (dx : Dx) (r : R2) (f : F2) : Prop :=
  ∀ x y p q H S Q Qh, HR K dx H S → Dt K (Mu dx S) H x p → Dt K (Mu dx S) H y q → f p q S Q → ThE K dx H S Q Qh → r x y H Qh
def dOp (f : F2) (fa fb : DTE) : DTE := fun δ S Q => fa δ S fun p S1 => fb δ S1 fun q S2 => f p q S2 Q
theorem op_go {r : R2} {f : F2} (o : OpD X.K dx r f) (ha : DE X dx a ta fa) (hb : DE X dx b tb fb) :
    ∀ σ H δ S Q Qh, HR X.K dx H S → SR X.K dx σ H δ S → dOp f fa fb δ S Q → ThE X.K dx H S Q Qh → tOp r ta tb σ H Qh := by
  intro σ H δ S Q Qh r0 s0 t k
  refine ha.go σ H δ S _ _ r0 s0 t fun x H1 p S1 r1 x1 d1 t1 => ?_
  refine hb.go σ H1 δ S1 _ _ r1 (s0.ext x1) t1 fun y H2 q S2 r2 x2 d2 t2 => ?_
  exact o x y p q H2 S2 Q Qh r2 (d1.ext x2) d2 t2 (k.on (x1.trans x2))
theorem de_op {op : Operator} {r : R2} {f : F2} (h : OpR X (binaryOp op) r) (o : OpD X.K dx r f) (ha : DE X dx a ta fa) (hb : DE X dx b tb fb) : DE X dx (.BinOp a op b pos) (tOp r ta tb) (dOp f fa fb) :=
  ⟨pe_op h ha.pe hb.pe, op_go o ha hb⟩
theorem de_cmp {op : CmpOp} {r : R2} {f : F2} (h : OpR X (compareOp op) r) (o : OpD X.K dx r f) (ha : DE X dx a ta fa) (hb : DE X dx b tb fb) (hm : behindInMarks op b = false) : DE X dx (.Compare a [op] [b] pos) (tOp r ta tb) (dOp f fa fb) :=
  ⟨pe_cmpR h ha.pe hb.pe hm, op_go o ha hb⟩
def isB (Q : Bool → Sto → Prop) : D → Sto → Prop
  | .bl k, S => Q k S
  | _, _ => False
def dTest (t : DTE) : DTT := fun δ S Q => t δ S (isB Q)
theorem isB_run {K : PySem.W.Frag} {Q : Bool → Sto → Prop} {M : Mm} {H : Hp} {v : V} {d : D} {S : Sto} (h : Dt K M H v d) (q : isB Q d S) : ∃ k, v = .bl k ∧ d = .bl k ∧ Q k S := by
  cases h with
  | bl k => exact ⟨k, rfl, rfl, q⟩
  | _ => exact q.elim
theorem dt_cmp {op : CmpOp} {r : R2} {f : F2} (h : OpR X (compareOp op) r) (o : OpD X.K dx r f) (ha : DE X dx a ta fa) (hb : DE X dx b tb fb) (hm : behindInMarks op b = false) : DT X dx (.Compare a [op] [b] pos) (tTest (tOp r ta tb)) (dTest (dOp f fa fb)) := by
  refine ⟨pt_cmpR h ha.pe hb.pe hm, fun σ H δ S Q Qh r0 s0 t k => ?_⟩
  refine op_go o ha hb σ H δ S _ _ r0 s0 t fun v H1 d S1 r1 x1 d1 t1 => ?_
  obtain ⟨z, rfl, rfl, q⟩ := isB_run d1 t1
  exact ⟨z, rfl, k z H1 S1 r1 x1 q⟩
theorem dt_val (h : DE X dx e te fa) (he : ∀ whole, isTrue e X.env whole = (do let v ← whole; standAt e.pos; holding [v] (truthy v)) := by intro _; rfl) : DT X dx e (tB te) (dTest fa) := by
  refine ⟨pt_val h.pe he, fun σ H δ S Q Qh r0 s0 t k => ?_⟩
  refine h.go σ H δ S _ _ r0 s0 t fun v H1 d S1 r1 x1 d1 t1 => ?_
  obtain ⟨z, rfl, rfl, q⟩ := isB_run d1 t1
  exact ⟨z, rfl, k z H1 S1 r1 x1 q⟩
/-- a < b < c -/
def dChain (f g : F2) (fa fb fc : DTE) : DTE := fun δ S Q => fa δ S fun p S1 => fb δ S1 fun q S2 => f p q S2 fun z S3 =>
  isB (fun k S4 => if k = true then fc δ S4 fun w S5 => g q w S5 Q else Q (.bl false) S4) z S3
end
end DL
/-! Readings over data: tests, displays, items, slices, calls. -/
namespace DL
open PySem PySem.Spec L2 Gd

def opt {α : Type} (o : Option α) (Q : α → Prop) : Prop := match o with
  | some x => Q x
  | none => False
theorem opt_run {α : Type} {o : Option α} {Q : α → Prop} (h : opt o Q) : ∃ x, o = some x ∧ Q x := by
  cases o with
  | none => exact h.elim
  | some x => exact ⟨x, rfl, h⟩
section
variable {X : Cx} {dx : Dx} {a b c e : Expr} {es rest : List Expr} {pos : Pos} {ta tb tc te : TE} {fa fb fc : DTE} {ua ub : TT} {ga gb : DTT} {tr : TA} {fr : DTA}

theorem de_chain {op op' : CmpOp} {r r' : R2} {f g : F2} (h : OpR X (compareOp op) r) (o : OpD X.K dx r f) (h' : OpR X (compareOp op') r') (o' : OpD X.K dx r' g)
    (ha : DE X dx a ta fa) (hb : DE X dx b tb fb) (hc : DE X dx c tc fc)
    (hm : lastMarks [op, op'] [b, c] = false := by with_unfolding_all rfl) : DE X dx (.Compare a [op, op'] [b, c] pos) (tChain r r' ta tb tc) (dChain f g fa fb fc) := by
  refine ⟨pe_chain h h' ha.pe hb.pe hc.pe hm, fun σ H δ S Q Qh r0 s0 t k => ?_⟩
  refine ha.go σ H δ S _ _ r0 s0 t fun x H1 p S1 r1 x1 d1 t1 => ?_
  refine hb.go σ H1 δ S1 _ _ r1 (s0.ext x1) t1 fun y H2 q S2 r2 x2 d2 t2 => ?_
  refine o x y p q H2 S2 _ _ r2 (d1.ext x2) d2 t2 fun v H3 z S3 r3 x3 d3 t3 => ?_
  obtain ⟨w, rfl, rfl, t4⟩ := isB_run d3 t3
  refine ⟨w, rfl, ?_⟩
  cases w with
  | false =>
    rw [if_neg Bool.false_ne_true] at t4 ⊢
    exact k _ H3 _ S3 r3 ((x1.trans x2).trans x3) (.bl false) t4
  | true =>
    rw [if_pos rfl] at t4 ⊢
    refine hc.go σ H3 δ S3 _ _ r3 (s0.ext ((x1.trans x2).trans x3)) t4 fun u H4 z S4 r4 x4 d4 t5 => ?_
    exact o' y u q z H4 S4 Q Qh r4 (d2.ext (x3.trans x4)) d4 t5 (k.on (((x1.trans x2).trans x3).trans x4))
theorem dt_chain {op op' : CmpOp} {r r' : R2} {f g : F2} (h : OpR X (compareOp op) r) (o : OpD X.K dx r f) (h' : OpR X (compareOp op') r') (o' : OpD X.K dx r' g)
    (ha : DE X dx a ta fa) (hb : DE X dx b tb fb) (hc : DE X dx c tc fc)
    (hm : lastMarks [op, op'] [b, c] = false := by with_unfolding_all rfl) : DT X dx (.Compare a [op, op'] [b, c] pos) (tTest (tChain r r' ta tb tc)) (dTest (dChain f g fa fb fc)) := by
  refine ⟨pt_chain h h' ha.pe hb.pe hc.pe hm, fun σ H δ S Q Qh r0 s0 t k => ?_⟩
  refine (de_chain (pos := pos) h o h' o' ha hb hc hm).go σ H δ S _ _ r0 s0 t fun v H1 d S1 r1 x1 d1 t1 => ?_
  obtain ⟨z, rfl, rfl, q⟩ := isB_run d1 t1
  exact ⟨z, rfl, k z H1 S1 r1 x1 q⟩

/-! ### truth -/
def fTru : D → Sto → (Bool → Sto → Prop) → Prop
  | .non, S, Q => Q false S
  | .bl k, S, Q => Q k S
  | .int i, S, Q => Q (i != 0) S
  | .str x, S, Q => x.length ≤ sizeLine ∧ Q ((x.length : Int) != 0) S
  | .tup ds, S, Q => Q (!ds.isEmpty) S
  | .lst ds, S, Q => Q (!ds.isEmpty) S
  | .fls ds, S, Q => Q (!ds.isEmpty) S
  | .adr p, S, Q => opt (getS S p) fun ds => Q (!ds.isEmpty) S
theorem empty_all {K : PySem.W.Frag} {M : Mm} {H : Hp} {vs : List V} {ds : List D} (h : DtAll K M H vs ds) : vs.isEmpty = ds.isEmpty := by
  cases h <;> rfl
theorem tru_go {K : PySem.W.Frag} {v : V} {d : D} {H : Hp} {S : Sto} {Q : Bool → Sto → Prop} (r : HR K dx H S) (h : Dt K (Mu dx S) H v d) (q : fTru d S Q) : ∃ k, TruV K v H k ∧ Q k S := by
  cases h with
  | non => exact ⟨_, rfl, q⟩
  | bl k => exact ⟨_, rfl, q⟩
  | int i => exact ⟨_, rfl, q⟩
  | str x => exact ⟨_, ⟨q.1, rfl⟩, q.2⟩
  | tup n h a => exact ⟨_, .inr (.inl ⟨_, .inl h, rfl⟩), by rw [empty_all a]; exact q⟩
  | ktup h a => exact ⟨_, .inr (.inl ⟨_, .inr h, rfl⟩), by rw [empty_all a]; exact q⟩
  | lst n h a => exact ⟨_, .inl ⟨_, SqL.of h, rfl⟩, by rw [empty_all a]; exact q⟩
  | fls n h => exact ⟨_, .inl ⟨_, .inl h, rfl⟩, by rw [List.isEmpty_map]; exact q⟩
  | kfls h => exact ⟨_, .inl ⟨_, .inr h, rfl⟩, by rw [List.isEmpty_map]; exact q⟩
  | adr p =>
    obtain ⟨ds, g, q⟩ := opt_run q
    obtain ⟨_, vs, e, al⟩ := r.get g
    exact ⟨_, .inl ⟨_, SqL.of e, rfl⟩, by rw [empty_all al]; exact q⟩
def tTr (K : PySem.W.Frag) (te : TE) : TT := fun σ H Q => te σ H fun x H' => ∃ k, TruV K x H' k ∧ Q k H'
def dTr (t : DTE) : DTT := fun δ S Q => t δ S fun d S1 => fTru d S1 Q
theorem dt_tru (h : DE X dx e te fa) (he : ∀ whole, isTrue e X.env whole = (do let v ← whole; standAt e.pos; holding [v] (truthy v)) := by intro _; rfl) : DT X dx e (tTr X.K te) (dTr fa) := by
  refine ⟨pt_truth h.pe he, fun σ H δ S Q Qh r0 s0 t k => ?_⟩
  refine h.go σ H δ S _ _ r0 s0 t fun v H1 d S1 r1 x1 d1 t1 => ?_
  obtain ⟨z, tv, q⟩ := tru_go r1 d1 t1
  exact ⟨z, tv, k z H1 S1 r1 x1 q⟩

/-! ### and, or, not -/
def dNot (t : DTT) : DTT := fun δ S Q => t δ S fun k S1 => Q (!k) S1
def dAnd (t u : DTT) : DTT := fun δ S Q => t δ S fun k S1 => if k = true then u δ S1 Q else Q false S1
def dOr (t u : DTT) : DTT := fun δ S Q => t δ S fun k S1 => if k = true then Q true S1 else u δ S1 Q
theorem dt_not (h : DT X dx a ua ga) : DT X dx (.UnaryOp .Not a pos) (tNot ua) (dNot ga) :=
  ⟨pt_not h.pe, fun σ H δ S Q Qh r0 s0 t k => h.go σ H δ S _ _ r0 s0 t fun b H1 S1 r1 x1 q => k _ H1 S1 r1 x1 q⟩
theorem dw_and1 (h : DT X dx a ua ga) : DW X dx (.BoolOp .And [a] pos) ua ga := ⟨pw_and1 h.pe, h.go⟩
theorem dw_or1 (h : DT X dx a ua ga) : DW X dx (.BoolOp .Or [a] pos) ua ga := ⟨pw_or1 h.pe, h.go⟩
theorem dw_and (h : DT X dx a ua ga) (h2 : DW X dx (.BoolOp .And (b :: rest) pos) ub gb) : DW X dx (.BoolOp .And (a :: b :: rest) pos) (tAnd ua ub) (dAnd ga gb) := by
  refine ⟨pw_and h.pe h2.pe, fun σ H δ S Q Qh r0 s0 t k => ?_⟩
  refine h.go σ H δ S _ _ r0 s0 t fun z H1 S1 r1 x1 q => ?_
  cases z with
  | false =>
    rw [if_neg Bool.false_ne_true] at q ⊢
    exact k _ H1 S1 r1 x1 q
  | true =>
    rw [if_pos rfl] at q ⊢
    exact h2.go σ H1 δ S1 Q Qh r1 (s0.ext x1) q (k.on x1)
theorem dw_or (h : DT X dx a ua ga) (h2 : DW X dx (.BoolOp .Or (b :: rest) pos) ub gb) : DW X dx (.BoolOp .Or (a :: b :: rest) pos) (tOr ua ub) (dOr ga gb) := by
  refine ⟨pw_or h.pe h2.pe, fun σ H δ S Q Qh r0 s0 t k => ?_⟩
  refine h.go σ H δ S _ _ r0 s0 t fun z H1 S1 r1 x1 q => ?_
  cases z with
  | true =>
    rw [if_pos rfl] at q ⊢
    exact k _ H1 S1 r1 x1 q
  | false =>
    rw [if_neg Bool.false_ne_true] at q ⊢
    exact h2.go σ H1 δ S1 Q Qh r1 (s0.ext x1) q (k.on x1)
theorem DW.dt (h : DW X dx e ua ga) : DT X dx e ua ga := ⟨h.pe.pt, h.go⟩
/-- as values: all True or False but the last -/
def dAndV (t u : DTE) : DTE := fun δ S Q => t δ S (isB fun k S1 => if k = true then u δ S1 Q else Q (.bl false) S1)
def dOrV (t u : DTE) : DTE := fun δ S Q => t δ S (isB fun k S1 => if k = true then Q (.bl true) S1 else u δ S1 Q)
def dNotV (t : DTE) : DTE := fun δ S Q => t δ S (isB fun k S1 => Q (.bl (!k)) S1)
theorem de_one {op} (h : DE X dx a ta fa) : DE X dx (.BoolOp op [a] pos) ta fa := ⟨pe_one h.pe, h.go⟩
theorem de_and (h : DE X dx a ta fa) (h2 : DE X dx (.BoolOp .And (b :: rest) pos) tb fb) : DE X dx (.BoolOp .And (a :: b :: rest) pos) (tAndV ta tb) (dAndV fa fb) := by
  refine ⟨pe_and h.pe h2.pe, fun σ H δ S Q Qh r0 s0 t k => ?_⟩
  refine h.go σ H δ S _ _ r0 s0 t fun v H1 d S1 r1 x1 d1 t1 => ?_
  obtain ⟨z, rfl, rfl, q⟩ := isB_run d1 t1
  refine ⟨z, rfl, ?_⟩
  cases z with
  | false =>
    rw [if_neg Bool.false_ne_true] at q ⊢
    exact k _ H1 _ S1 r1 x1 (.bl false) q
  | true =>
    rw [if_pos rfl] at q ⊢
    exact h2.go σ H1 δ S1 Q Qh r1 (s0.ext x1) q (k.on x1)
theorem de_or (h : DE X dx a ta fa) (h2 : DE X dx (.BoolOp .Or (b :: rest) pos) tb fb) : DE X dx (.BoolOp .Or (a :: b :: rest) pos) (tOrV ta tb) (dOrV fa fb) := by
  refine ⟨pe_or h.pe h2.pe, fun σ H δ S Q Qh r0 s0 t k => ?_⟩
  refine h.go σ H δ S _ _ r0 s0 t fun v H1 d S1 r1 x1 d1 t1 => ?_
  obtain ⟨z, rfl, rfl, q⟩ := isB_run d1 t1
  refine ⟨z, rfl, ?_⟩
  cases z with
  | true =>
    rw [if_pos rfl] at q ⊢
    exact k _ H1 _ S1 r1 x1 (.bl true) q
  | false =>
    rw [if_neg Bool.false_ne_true] at q ⊢
    exact h2.go σ H1 δ S1 Q Qh r1 (s0.ext x1) q (k.on x1)
theorem de_not (h : DE X dx a ta fa) : DE X dx (.UnaryOp .Not a pos) (tNotV ta) (dNotV fa) := by
  refine ⟨pe_not h.pe, fun σ H δ S Q Qh r0 s0 t k => ?_⟩
  refine h.go σ H δ S _ _ r0 s0 t fun v H1 d S1 r1 x1 d1 t1 => ?_
  obtain ⟨z, rfl, rfl, q⟩ := isB_run d1 t1
  exact ⟨z, rfl, k _ H1 _ S1 r1 x1 (.bl _) q⟩
def dIfE (c : DTT) (t u : DTE) : DTE := fun δ S Q => c δ S fun k S1 => if k = true then t δ S1 Q else u δ S1 Q
theorem de_if (hc : DT X dx c ua ga) (ha : DE X dx a ta fa) (hb : DE X dx b tb fb) : DE X dx (.IfExp c a b pos) (tIf ua ta tb) (dIfE ga fa fb) := by
  refine ⟨pe_ifExp hc.pe ha.pe hb.pe, fun σ H δ S Q Qh r0 s0 t k => ?_⟩
  refine hc.go σ H δ S _ _ r0 s0 t fun z H1 S1 r1 x1 q => ?_
  cases z with
  | true =>
    rw [if_pos rfl] at q ⊢
    exact ha.go σ H1 δ S1 Q Qh r1 (s0.ext x1) q (k.on x1)
  | false =>
    rw [if_neg Bool.false_ne_true] at q ⊢
    exact hb.go σ H1 δ S1 Q Qh r1 (s0.ext x1) q (k.on x1)

/-! ### unary operators -/
def dUn (f : D → Sto → (D → Sto → Prop) → Prop) (t : DTE) : DTE := fun δ S Q => t δ S fun d S1 => f d S1 Q
def UnD (K : PySem.W.Frag) (dx : Dx) (r : V → Hp → VK → Prop) (f : D → Sto → (D → Sto → Prop) → Prop) : Prop :=
  ∀ x p H S Q Qh, HR K dx H S → Dt K (Mu dx S) H x p → f p S Q → ThE K dx H S Q Qh → r x H Qh
theorem de_un {op : UnaryOp} {r} {f} (h : UnR X (unaryOp op) r) (o : UnD X.K dx r f) (ha : DE X dx a ta fa) : DE X dx (.UnaryOp op a pos) (tUn r ta) (dUn f fa) :=
  ⟨pe_un h ha.pe, fun σ H δ S Q Qh r0 s0 t k => ha.go σ H δ S _ _ r0 s0 t fun v H1 d S1 r1 x1 d1 t1 => o v d H1 S1 Q Qh r1 d1 t1 (k.on x1)⟩
def fNeg : D → Sto → (D → Sto → Prop) → Prop
  | .int i, S, Q => Q (.int (-i)) S
  | _, _, _ => False
theorem od_neg {K} : UnD K dx (rU fun i => .int (-i)) fNeg := by
  intro x p H S Q Qh r0 h t k
  cases h with
  | int i => exact ⟨i, rfl, k _ H _ S r0 Ext.refl (.int _) t⟩
  | _ => exact t.elim

/-! ### arguments, displays -/
def dNil : DTA := fun _ S Q => Q [] S
def dCons (t : DTE) (u : DTA) : DTA := fun δ S Q => t δ S fun d S1 => u δ S1 fun ds S2 => Q (d :: ds) S2
theorem da_nil : DA X dx [] tNil dNil := ⟨pa_nil, fun σ H δ S Q Qh r s t k => k [] H [] S r Ext.refl .nil t⟩
theorem cons_go {t : TE} {u : TA} {f : DTE} {g : DTA} (h1 : ∀ σ H δ S Q Qh, HR X.K dx H S → SR X.K dx σ H δ S → f δ S Q → ThE X.K dx H S Q Qh → t σ H Qh)
    (h2 : ∀ σ H δ S Q Qh, HR X.K dx H S → SR X.K dx σ H δ S → g δ S Q → ThA X.K dx H S Q Qh → u σ H Qh) :
    ∀ σ H δ S Q Qh, HR X.K dx H S → SR X.K dx σ H δ S → dCons f g δ S Q → ThA X.K dx H S Q Qh → tCons t u σ H Qh := by
  intro σ H δ S Q Qh r0 s0 t k
  refine h1 σ H δ S _ _ r0 s0 t fun v H1 d S1 r1 x1 d1 t1 => ?_
  refine h2 σ H1 δ S1 _ _ r1 (s0.ext x1) t1 fun vs H2 ds S2 r2 x2 d2 t2 => ?_
  exact k _ H2 _ S2 r2 (x1.trans x2) (.cons (d1.ext x2) d2) t2
theorem da_cons (ha : DE X dx e te fa) (hr : DA X dx es tr fr) (hs : starEach (e :: es) X.env = (false, eval e X.env) :: starEach es X.env := by rfl) : DA X dx (e :: es) (tCons te tr) (dCons fa fr) :=
  ⟨pa_cons ha.pe hr.pe hs, cons_go ha.go hr.go⟩
theorem dk_nil : DK X dx [] tNil dNil := ⟨pk_nil, fun σ H δ S Q Qh r s t k => k [] H [] S r Ext.refl .nil t⟩
theorem dk_cons {kws : List Keyword} {nm : Option Str} {kpos : Pos} (ha : DE X dx e te fa) (hr : DK X dx kws tr fr) : DK X dx (⟨nm, e, kpos⟩ :: kws) (tCons te tr) (dCons fa fr) :=
  ⟨pk_cons ha.pe hr.pe, cons_go ha.go hr.go⟩

/-- no more than fits into one object -/
def Fit (n : Nat) : Prop := n ≤ 16777216
theorem Fit.line {n : Nat} (h : Fit n) : n ≤ sizeLine := by rw [sizeLine_eq]; exact h
def dTup (t : DTA) : DTE := fun δ S Q => t δ S fun ds S1 => Fit ds.length ∧ Q (.tup ds) S1
def dLst (t : DTA) : DTE := fun δ S Q => t δ S fun ds S1 => Fit ds.length ∧ Q (.lst ds) S1
theorem new_tup {K : PySem.W.Frag} {H : Hp} {S : Sto} {p : Addr} {vs : List V} {ds : List D} (r : HR K dx H S) (n : H p = none) (a : DtAll K (Mu dx S) H vs ds) :
    HR K dx (upd H p (.tup vs)) S ∧ Ext (Mu dx S) H (Mu dx S) (upd H p (.tup vs)) ∧ Dt K (Mu dx S) (upd H p (.tup vs)) (.ref p) (.tup ds) :=
  ⟨r.same (same_new n), ext_new n, .tup (r.mu_ne n) (.inl upd_same) (a.ext (ext_new n))⟩
theorem new_lst {K : PySem.W.Frag} {H : Hp} {S : Sto} {p : Addr} {vs : List V} {ds : List D} (r : HR K dx H S) (n : H p = none) (a : DtAll K (Mu dx S) H vs ds) :
    HR K dx (upd H p (.lst vs)) S ∧ Ext (Mu dx S) H (Mu dx S) (upd H p (.lst vs)) ∧ Dt K (Mu dx S) (upd H p (.lst vs)) (.ref p) (.lst ds) :=
  ⟨r.same (same_new n), ext_new n, .lst (r.mu_ne n) upd_same (a.ext (ext_new n))⟩
theorem de_tup {x1} (h : DA X dx es tr fr) : DE X dx (.Tuple es x1 pos) (tTup tr) (dTup fr) := by
  refine ⟨pe_tup h.pe, fun σ H δ S Q Qh r0 s0 t k => ?_⟩
  refine h.go σ H δ S _ _ r0 s0 t fun vs H1 ds S1 r1 x1 d1 t1 => ⟨by rw [d1.length]; exact t1.1.line, fun p n => ?_⟩
  obtain ⟨r2, x2, d2⟩ := new_tup r1 n d1
  exact k _ _ _ S1 r2 (x1.trans x2) d2 t1.2
theorem de_lst (h : DA X dx es tr fr) : DE X dx (.List es pos) (tLst tr) (dLst fr) := by
  refine ⟨pe_lst h.pe, fun σ H δ S Q Qh r0 s0 t k => ?_⟩
  refine h.go σ H δ S _ _ r0 s0 t fun vs H1 ds S1 r1 x1 d1 t1 => ⟨by rw [d1.length]; exact t1.1.line, fun p n => ?_⟩
  obtain ⟨r2, x2, d2⟩ := new_lst r1 n d1
  exact k _ _ _ S1 r2 (x1.trans x2) d2 t1.2
/-- a list that will be changed -/
def dNew (t : DTA) : DTE := fun δ S Q => t δ S fun ds S1 => Fit ds.length ∧ ∀ p, Q (.adr p) ((p, ds) :: S1)
theorem de_new (h : DA X dx es tr fr) : DE X dx (.List es pos) (tLst tr) (dNew fr) := by
  refine ⟨pe_lst h.pe, fun σ H δ S Q Qh r0 s0 t k => ?_⟩
  refine h.go σ H δ S _ _ r0 s0 t fun vs H1 ds S1 r1 x1 d1 t1 => ⟨by rw [d1.length]; exact t1.1.line, fun p n => ?_⟩
  exact k _ _ _ _ (r1.grow n d1) (x1.trans (ext_own r1 n)) (.adr p) (t1.2 p)

/-! ### items, slices -/
theorem atI_all {K : PySem.W.Frag} {M : Mm} {H : Hp} {vs : List V} {ds : List D} {i : Int} {d : D} (h : DtAll K M H vs ds) (e : atI ds i = some d) : ∃ v, atI vs i = some v ∧ Dt K M H v d := by
  unfold atI at e ⊢
  rw [h.length]
  cases q : ixN ds.length i with
  | none => rw [q] at e; cases e
  | some j =>
    rw [q] at e
    exact h.get (i := j) e
theorem atI_map {α β : Type} {f : α → β} {xs : List α} {i : Int} {x : α} (e : atI xs i = some x) : atI (xs.map f) i = some (f x) := by
  unfold atI at e ⊢
  rw [List.length_map]
  cases q : ixN xs.length i with
  | none => rw [q] at e; cases e
  | some j =>
    rw [q] at e
    have e : xs[j]? = some x := e
    show (xs.map f)[j]? = some (f x)
    rw [List.getElem?_map, e]
    rfl
def fIx : F2
  | .tup ds, .int i, S, Q => opt (atI ds i) fun d => Q d S
  | .lst ds, .int i, S, Q => opt (atI ds i) fun d => Q d S
  | .fls ns, .int i, S, Q => opt (atI ns i) fun n => Q (.int n) S
  | .adr p, .int i, S, Q => opt (getS S p) fun ds => opt (atI ds i) fun d => Q d S
  | .str z, .int i, S, Q => z.length ≤ sizeLine ∧ opt (atI z.cps.toList i) fun c => Q (.str ⟨#[c]⟩) S
  | _, _, _, _ => False
theorem od_ix {K : PySem.W.Frag} : OpD K dx (rIx K) fIx := by
  intro x y p q H S Q Qh r0 hx hy t k
  cases hy with
  | int i =>
    cases hx with
    | tup n h a =>
      obtain ⟨d, e, t⟩ := opt_run t
      obtain ⟨v, e1, d1⟩ := atI_all a e
      exact .inr (.inl ⟨_, _, i, v, rfl, rfl, .inl h, e1, k _ H _ S r0 Ext.refl d1 t⟩)
    | ktup h a =>
      obtain ⟨d, e, t⟩ := opt_run t
      obtain ⟨v, e1, d1⟩ := atI_all a e
      exact .inr (.inl ⟨_, _, i, v, rfl, rfl, .inr h, e1, k _ H _ S r0 Ext.refl d1 t⟩)
    | lst n h a =>
      obtain ⟨d, e, t⟩ := opt_run t
      obtain ⟨v, e1, d1⟩ := atI_all a e
      exact .inl ⟨_, _, i, v, rfl, rfl, SqL.of h, e1, k _ H _ S r0 Ext.refl d1 t⟩
    | fls n h =>
      obtain ⟨d, e, t⟩ := opt_run t
      exact .inl ⟨_, _, i, _, rfl, rfl, .inl h, atI_map e, k _ H _ S r0 Ext.refl (.int d) t⟩
    | kfls h =>
      obtain ⟨d, e, t⟩ := opt_run t
      exact .inl ⟨_, _, i, _, rfl, rfl, .inr h, atI_map e, k _ H _ S r0 Ext.refl (.int d) t⟩
    | adr p =>
      obtain ⟨ds, g, t⟩ := opt_run t
      obtain ⟨d, e, t⟩ := opt_run t
      obtain ⟨_, vs, eH, al⟩ := r0.get g
      obtain ⟨v, e1, d1⟩ := atI_all al e
      exact .inl ⟨_, _, i, v, rfl, rfl, SqL.of eH, e1, k _ H _ S r0 Ext.refl d1 t⟩
    | str z =>
      obtain ⟨l, t⟩ := t
      obtain ⟨c, e, t⟩ := opt_run t
      exact .inr (.inr ⟨z, i, c, rfl, rfl, l, e, k _ H _ S r0 Ext.refl (.str _) t⟩)
    | _ => exact t.elim
  | _ => cases hx <;> exact t.elim
theorem de_ix (ha : DE X dx a ta fa) (hb : DE X dx b tb fb) (hs : PlainIx b := by exact fun _ _ => rfl) : DE X dx (.Subscript a b pos) (tOp (rIx X.K) ta tb) (dOp fIx fa fb) :=
  ⟨pe_ix ix_seq ha.pe hb.pe hs, op_go od_ix ha hb⟩

/-- the part from lo to hi -/
def cutD {α : Type} (xs : List α) (lo hi : Option Int) : List α := (xs.drop (HT.sIx xs.length 0 lo)).take (HT.sIx xs.length xs.length hi - HT.sIx xs.length 0 lo)
theorem cut_all {K : PySem.W.Frag} {M : Mm} {H : Hp} {vs : List V} {ds : List D} (lo hi : Option Int) (h : DtAll K M H vs ds) : DtAll K M H (cutV vs lo hi) (cutD ds lo hi) := by
  unfold cutV cutD
  rw [h.length]
  exact (h.drop _).take _
theorem cut_map {α β : Type} (f : α → β) (xs : List α) (lo hi : Option Int) : cutD (xs.map f) lo hi = (cutD xs lo hi).map f := by
  unfold cutD
  rw [List.length_map, List.map_take, List.map_drop]
theorem cut_whole {α : Type} {xs : List α} {lo hi : Option Int} (h : HT.sIx xs.length 0 lo = 0 ∧ HT.sIx xs.length xs.length hi = xs.length) : cutD xs lo hi = xs := by
  unfold cutD
  rw [h.1, h.2]
  simp
abbrev DTO := Sl → Sto → (Option Int → Sto → Prop) → Prop
structure DO (X : Cx) (dx : Dx) (e : Option Expr) (te : TO) (t : DTO) : Prop where
  pe : PO X e te
  go : ∀ σ H δ S Q Qh, HR X.K dx H S → SR X.K dx σ H δ S → t δ S Q → (∀ o H' S', HR X.K dx H' S' → Ext (Mu dx S) H (Mu dx S') H' → Q o S' → Qh o H') → te σ H Qh
def dNoPart : DTO := fun _ S Q => Q none S
def isI (Q : Int → Sto → Prop) : D → Sto → Prop
  | .int i, S => Q i S
  | _, _ => False
def dPart (t : DTE) : DTO := fun δ S Q => t δ S (isI fun i S1 => Q (some i) S1)
theorem do_none : DO X dx none tNoPart dNoPart := ⟨po_none, fun σ H δ S Q Qh r s t k => k none H S r Ext.refl t⟩
theorem do_some (h : DE X dx e te fa) : DO X dx (some e) (tPart te) (dPart fa) := by
  refine ⟨po_some h.pe, fun σ H δ S Q Qh r0 s0 t k => ?_⟩
  refine h.go σ H δ S _ _ r0 s0 t fun v H1 d S1 r1 x1 d1 t1 => ?_
  cases d1 with
  | int i => exact ⟨i, rfl, k _ H1 S1 r1 x1 t1⟩
  | _ => exact t1.elim
def fSl : D → Option Int → Option Int → Sto → (D → Sto → Prop) → Prop
  | .tup ds, lo, hi, S, Q => Q (.tup (cutD ds lo hi)) S
  | .lst ds, lo, hi, S, Q => Q (.lst (cutD ds lo hi)) S
  | .fls ns, lo, hi, S, Q => Q (.lst ((cutD ns lo hi).map D.int)) S
  | .adr p, lo, hi, S, Q => opt (getS S p) fun ds => Q (.lst (cutD ds lo hi)) S
  | _, _, _, _, _ => False
def rSl (K : PySem.W.Frag) : V → Option Int → Option Int → Hp → VK → Prop := fun x lo hi H Q => rSlL K x lo hi H Q ∨ rSlA K x lo hi H Q
theorem sl_go {K : PySem.W.Frag} : ∀ x p lo hi H S Q Qh, HR K dx H S → Dt K (Mu dx S) H x p → fSl p lo hi S Q → ThE K dx H S Q Qh → rSl K x lo hi H Qh := by
  intro x p lo hi H S Q Qh r0 h t k
  have tp : ∀ {a : Addr} {xs : List V} {ds : List D}, SqT K H a xs → DtAll K (Mu dx S) H xs ds → Dt K (Mu dx S) H (.ref a) (.tup ds) → Q (.tup (cutD ds lo hi)) S → rSl K (.ref a) lo hi H Qh := by
    intro a xs ds h al d t
    refine .inr ⟨a, xs, rfl, h, fun e => ?_, fun _ p n => ?_⟩
    · rw [al.length] at e
      rw [cut_whole e] at t
      exact k _ H _ S r0 Ext.refl d t
    · obtain ⟨r2, x2, d2⟩ := new_tup r0 n (cut_all lo hi al)
      exact k _ _ _ S r2 x2 d2 t
  have lp : ∀ {a : Addr} {xs : List V} {ds : List D}, SqL K H a xs → DtAll K (Mu dx S) H xs ds → Q (.lst (cutD ds lo hi)) S → rSl K (.ref a) lo hi H Qh := by
    intro a xs ds h al t
    refine .inl ⟨a, xs, rfl, h, fun p n => ?_⟩
    obtain ⟨r2, x2, d2⟩ := new_lst r0 n (cut_all lo hi al)
    exact k _ _ _ S r2 x2 d2 t
  cases h with
  | tup n h al => exact tp (.inl h) al (.tup n h al) t
  | ktup h al => exact tp (.inr h) al (.ktup h al) t
  | lst n h al => exact lp (SqL.of h) al t
  | fls n h => exact lp (.inl h) (DtAll.ints _) (by rw [cut_map]; exact t)
  | kfls h => exact lp (.inr h) (DtAll.ints _) (by rw [cut_map]; exact t)
  | adr p =>
    obtain ⟨ds, g, t⟩ := opt_run t
    obtain ⟨_, vs, eH, al⟩ := r0.get g
    exact lp (SqL.of eH) al t
  | _ => exact t.elim
def dSl (t : DTE) (l h : DTO) : DTE := fun δ S Q => t δ S fun d S1 => l δ S1 fun lo S2 => h δ S2 fun hi S3 => fSl d lo hi S3 Q
theorem de_slice {lo hi : Option Expr} {tl th : TO} {fl fh : DTO} {p2 : Pos} (he : DE X dx e te fa) (hl : DO X dx lo tl fl) (hu : DO X dx hi th fh) : DE X dx (.Subscript e (.Slice lo hi none p2) pos) (tSl (rSl X.K) te tl th) (dSl fa fl fh) := by
  refine ⟨pe_slice (sl_list.or sl_tupA) he.pe hl.pe hu.pe, fun σ H δ S Q Qh r0 s0 t k => ?_⟩
  refine he.go σ H δ S _ _ r0 s0 t fun v H1 d S1 r1 x1 d1 t1 => ?_
  refine hl.go σ H1 δ S1 _ _ r1 (s0.ext x1) t1 fun o H2 S2 r2 x2 t2 => ?_
  refine hu.go σ H2 δ S2 _ _ r2 (s0.ext (x1.trans x2)) t2 fun o' H3 S3 r3 x3 t3 => ?_
  exact sl_go v d o o' H3 S3 Q Qh r3 (d1.ext (x2.trans x3)) t3 (k.on ((x1.trans x2).trans x3))
/-- xs[::-1] of a list -/
def fRev : D → Sto → (D → Sto → Prop) → Prop
  | .lst ds, S, Q => Q (.lst ds.reverse) S
  | .adr p, S, Q => opt (getS S p) fun ds => Q (.lst ds.reverse) S
  | _, _, _ => False
theorem de_rev {k' : Nat} {p1 p2 p3 : Pos} (he : DE X dx e te fa) : DE X dx (.Subscript e (.Slice none none (some (.UnaryOp .USub (.Constant (.int 1) k' p1) p2)) p3) pos) (tRevL X.K te) (dUn fRev fa) := by
  refine ⟨pe_revL he.pe, fun σ H δ S Q Qh r0 s0 t k => ?_⟩
  refine he.go σ H δ S _ _ r0 s0 t fun v H1 d S1 r1 x1 d1 t1 => ?_
  have lp : ∀ {a : Addr} {xs : List V} {ds : List D}, SqL X.K H1 a xs → DtAll X.K (Mu dx S1) H1 xs ds → Q (.lst ds.reverse) S1 →
      ∃ (a' : Addr) (ys : List V), V.ref a = V.ref a' ∧ SqL X.K H1 a' ys ∧ ∀ p, H1 p = none → Qh (.ref p) (upd H1 p (.lst ys.reverse)) := by
    intro a xs ds h al t
    refine ⟨a, xs, rfl, h, fun p n => ?_⟩
    obtain ⟨r2, x2, d2⟩ := new_lst r1 n al.reverse
    exact k _ _ _ S1 r2 (x1.trans x2) d2 t
  cases d1 with
  | lst n h al => exact lp (SqL.of h) al t1
  | adr p =>
    obtain ⟨ds, g, t1⟩ := opt_run t1
    obtain ⟨_, vs, eH, al⟩ := r1.get g
    exact lp (SqL.of eH) al t1
  | _ => exact t1.elim
end
end DL
/-! Readings over data: targets, what is walked, statements, loops, comprehensions. -/
namespace DL
open PySem PySem.Spec L2 Gd

abbrev DTG := D → Sl → (Sl → Prop) → Prop
abbrev DTGs := List D → Sl → (Sl → Prop) → Prop
structure DG (X : Cx) (dx : Dx) (tg : Expr) (g : TG) (t : DTG) (own : List Nat) : Prop where
  pe : PG X tg g
  go : ∀ v d σ H δ S Q Qh, HR X.K dx H S → SR X.K dx σ H δ S → Dt X.K (Mu dx S) H v d → t d δ Q →
    (∀ σ' δ', SR X.K dx σ' H δ' S → σ'.length = σ.length → (∀ j, j ∉ own → σ'[j]? = σ[j]?) → Q δ' → Qh σ' H) → g v σ H Qh
structure DGs (X : Cx) (dx : Dx) (tg : List Expr) (g : TGs) (t : DTGs) (own : List Nat) : Prop where
  pe : PGs X tg g
  go : ∀ vs ds σ H δ S Q Qh, HR X.K dx H S → SR X.K dx σ H δ S → DtAll X.K (Mu dx S) H vs ds → t ds δ Q →
    (∀ σ' δ', SR X.K dx σ' H δ' S → σ'.length = σ.length → (∀ j, j ∉ own → σ'[j]? = σ[j]?) → Q δ' → Qh σ' H) → g vs σ H Qh
section
variable {X : Cx} {dx : Dx} {pos : Pos} {tg e : Expr} {es : List Expr} {te : TE} {fa : DTE}
def dgName (i : Nat) : DTG := fun d δ Q => Q (put δ i d)
theorem dg_name {i : Nat} {x : Str} (hN : X.N.Nodup) (hi : X.N[i]? = some x) (hx : Loc X.env.scope x) (hf : X.fn x = true ∨ X.env.scope.names.lookup x = some .local := by first | exact .inl rfl | exact .inr rfl | assumption) :
    DG X dx (.Name x pos) (gName i) (dgName i) [i] := by
  refine ⟨pg_name hN hi hx hf, fun v d σ H δ S Q Qh r s h t k => ?_⟩
  have t : Q (put δ i d) := t
  rw [put_set] at t
  refine k _ _ (s.set i h) (by rw [List.length_set]) (fun j hj => ?_) t
  rw [List.getElem?_set_ne (fun z => hj (by simp [z]))]
def dgNil : DTGs := fun ds δ Q => match ds with
  | [] => Q δ
  | _ :: _ => False
def dgCons (t : DTG) (u : DTGs) : DTGs := fun ds δ Q => match ds with
  | [] => False
  | d :: r => t d δ fun δ' => u r δ' Q
theorem dgs_nil : DGs X dx [] gNil dgNil [] := by
  refine ⟨pgs_nil, fun vs ds σ H δ S Q Qh r s h t k => ?_⟩
  cases h with
  | nil => exact ⟨rfl, k σ δ s rfl (fun _ _ => rfl) t⟩
  | cons _ _ => exact t.elim
theorem dgs_cons {g : TG} {u : TGs} {f : DTG} {w : DTGs} {o1 o2 : List Nat} (h1 : DG X dx e g f o1) (h2 : DGs X dx es u w o2) (hl : PGs X (e :: es) (gCons g u) := by exact pgs_cons (by assumption) (by assumption)) : DGs X dx (e :: es) (gCons g u) (dgCons f w) (o1 ++ o2) := by
  refine ⟨hl, fun vs ds σ H δ S Q Qh r s h t k => ?_⟩
  cases h with
  | nil => exact t.elim
  | cons a b =>
    refine ⟨_, _, rfl, ?_⟩
    refine h1.go _ _ σ H δ S _ _ r s a t fun σ1 δ1 s1 l1 o1' t1 => ?_
    refine h2.go _ _ σ1 H δ1 S _ _ r s1 b t1 fun σ2 δ2 s2 l2 o2' t2 => ?_
    refine k σ2 δ2 s2 (l2.trans l1) (fun j hj => ?_) t2
    rw [o2' j fun z => hj (List.mem_append_right _ z), o1' j fun z => hj (List.mem_append_left _ z)]
def dgTup (n : Nat) (t : DTGs) : DTG := fun d δ Q => match d with
  | .tup ds => ds.length = n ∧ t ds δ Q
  | _ => False
theorem dg_tup {k : Nat} {g : TGs} {f : DTGs} {n : Nat} {o : List Nat} (h : DGs X dx es g f o) (hp : PG X (.Tuple es k pos) (gTup X.K n g)) : DG X dx (.Tuple es k pos) (gTup X.K n g) (dgTup n f) o := by
  refine ⟨hp, fun v d σ H δ S Q Qh r s hd t kk => ?_⟩
  cases d with
  | tup ds =>
    obtain ⟨a, xs, rfl, hs, al⟩ := hd.sqT
    exact ⟨a, xs, rfl, hs, al.length.trans t.1, h.go _ _ σ H δ S _ _ r s al t.2 kk⟩
  | _ => exact t.elim
end

/-! ### what is walked -/
def Walks (K : PySem.W.Frag) (dx : Dx) (J : It) (xs : List D) (S0 : Sto) (H0 : Hp) : Prop :=
  ∃ G Y, Walk J xs.length G Y ∧ ∀ M H, (∀ b, Mm.mu M b → H b ≠ none) → ExtD (Mu dx S0) H0 M H → G H ∧
    ∀ i x H', i < xs.length → Y i H x H' → Same H H' ∧ ∃ d, xs[i]? = some d ∧ Dt K M H' x d
structure DI (X : Cx) (dx : Dx) (tg iter : Expr) (wi : TI) (t : DTA) : Prop where
  pe : PI X tg iter wi
  go : ∀ σ H δ S Q R, HR X.K dx H S → SR X.K dx σ H δ S → t δ S Q →
    (∀ J H' xs S', HR X.K dx H' S' → Ext (Mu dx S) H (Mu dx S') H' → Walks X.K dx J xs S' H' → Q xs S' → R J H') → wi σ H R
section
variable {X : Cx} {dx : Dx} {pos : Pos} {tg e e2 : Expr} {te : TE} {fa : DTE} {ta : TA} {ga : DTA}
def iSeq (K : PySem.W.Frag) (tl : TE) : TI := fun σ H R => tl σ H fun x H1 => ∃ a, x = .ref a ∧
  ((∃ xs, SqL K H1 a xs ∧ R (Itl K a) H1) ∨ (∃ xs, SqT K H1 a xs ∧ R (Itt K a) H1))
theorem pi_seq (hl : PE X e te) : PI X tg e (iSeq X.K te) := by
  constructor
  intro pins s σ H R I want
  apply thn (hl.run pins s σ H _ I want)
  rintro v s1 ⟨x, H1, I1, r1, a, rfl, alt⟩
  obtain rfl : v = .ref a := r1
  have fresh : FpOk X pins H1 s1.heap.objs.size := I1.fpOk (Nat.le_refl _) (I1.hok.fresh (Nat.le_refl _))
  rcases alt with ⟨xs, sq, q⟩ | ⟨xs, sq, q⟩
  · obtain ⟨its, _, pl, _⟩ := I1.list sq
    apply wpAny_pyIter_list pl.isList
    exact ⟨_, [s1.heap.objs.size], _, _, H1, rfl, I1.kept (fun b o h => Heap.get?_push_of_some _ h), turn_list a _,
      ⟨_, Heap.get?_push_size _ rfl, rfl, rfl⟩, fun b hb => by rw [List.mem_singleton.mp hb]; exact fresh, q⟩
  · obtain ⟨its, _, pt, _⟩ := I1.tuple sq
    apply wpAny_pyIter_tuple (show s1.heap.IsTuple a its.toArray from pt)
    exact ⟨_, [s1.heap.objs.size], _, _, H1, rfl, I1.kept (fun b o h => Heap.get?_push_of_some _ h), turn_tuple a _,
      ⟨_, Heap.get?_push_size _ rfl, rfl, rfl⟩, fun b hb => by rw [List.mem_singleton.mp hb]; exact fresh, q⟩
theorem walks_lst {K : PySem.W.Frag} {S : Sto} {H : Hp} {a : Addr} {vs : List V} {ds : List D} (al : DtAll K (Mu dx S) H vs ds)
    (st : ∀ M H', ExtD (Mu dx S) H M H' → SqL K H' a vs) : Walks K dx (Itl K a) ds S H := by
  refine ⟨_, _, al.length ▸ walk_list (K := K) (a := a) (xs := vs), fun S1 H1 r1 x1 => ⟨st _ _ x1, fun i x H2 hi y => ?_⟩⟩
  obtain ⟨rfl, y⟩ := y
  obtain ⟨d, e1, d1⟩ := (al.extD x1).getV y
  exact ⟨Same.refl _, d, e1, d1⟩
theorem walks_tup {K : PySem.W.Frag} {S : Sto} {H : Hp} {a : Addr} {vs : List V} {ds : List D} (al : DtAll K (Mu dx S) H vs ds)
    (st : ∀ M H', ExtD (Mu dx S) H M H' → SqT K H' a vs) : Walks K dx (Itt K a) ds S H := by
  refine ⟨_, _, al.length ▸ walk_tup (K := K) (a := a) (xs := vs), fun S1 H1 r1 x1 => ⟨st _ _ x1, fun i x H2 hi y => ?_⟩⟩
  obtain ⟨rfl, y⟩ := y
  obtain ⟨d, e1, d1⟩ := (al.extD x1).getV y
  exact ⟨Same.refl _, d, e1, d1⟩
/-- the items of a list or a tuple -/
def items (Q : List D → Sto → Prop) : D → Sto → Prop
  | .tup ds, S => Q ds S
  | .lst ds, S => Q ds S
  | .fls ns, S => Q (ns.map D.int) S
  | _, _ => False
def dSeq (t : DTE) : DTA := fun δ S Q => t δ S (items Q)
theorem di_seq (h : DE X dx e te fa) : DI X dx tg e (iSeq X.K te) (dSeq fa) := by
  refine ⟨pi_seq h.pe, fun σ H δ S Q R r0 s0 t k => ?_⟩
  refine h.go σ H δ S _ _ r0 s0 t fun v H1 d S1 r1 x1 d1 t1 => ?_
  cases d1 with
  | tup n hr al => exact ⟨_, rfl, .inr ⟨_, .inl hr, k _ H1 _ S1 r1 x1 (walks_tup al fun S' H' x => .inl (x.rd n hr)) t1⟩⟩
  | ktup hr al => exact ⟨_, rfl, .inr ⟨_, .inr hr, k _ H1 _ S1 r1 x1 (walks_tup al fun S' H' x => .inr hr) t1⟩⟩
  | lst n hr al => exact ⟨_, rfl, .inl ⟨_, SqL.of hr, k _ H1 _ S1 r1 x1 (walks_lst al fun S' H' x => SqL.of (x.keep _ _ n hr)) t1⟩⟩
  | fls n hr => exact ⟨_, rfl, .inl ⟨_, .inl hr, k _ H1 _ S1 r1 x1 (walks_lst (DtAll.ints _) fun S' H' x => .inl (x.rd n hr)) t1⟩⟩
  | kfls hr => exact ⟨_, rfl, .inl ⟨_, .inr hr, k _ H1 _ S1 r1 x1 (walks_lst (DtAll.ints _) fun S' H' x => .inr hr) t1⟩⟩
  | _ => exact t1.elim
/-- lo, lo + c, .., n of them -/
def rngD (lo c : Int) (n : Nat) : List D := (List.range n).map fun (i : Nat) => D.int (lo + (i : Int) * c)
theorem rngD_len {lo c : Int} {n : Nat} : (rngD lo c n).length = n := by
  unfold rngD
  rw [List.length_map, List.length_range]
theorem rngD_at {lo c : Int} {n i : Nat} (h : i < n) : (rngD lo c n)[i]? = some (.int (lo + (i : Int) * c)) := by
  unfold rngD
  rw [List.getElem?_map, List.getElem?_range h]
  rfl
theorem walks_rng {K : PySem.W.Frag} {S : Sto} {H : Hp} {lo : Int} {n : Nat} : Walks K dx (Itr lo n) (rngD lo 1 n) S H := by
  have w := walk_range (lo := lo) (n := n)
  refine ⟨_, _, by rw [rngD_len]; exact w, fun S1 H1 r1 x1 => ⟨trivial, fun i x H2 hi y => ?_⟩⟩
  obtain ⟨rfl, rfl⟩ := y
  rw [rngD_len] at hi
  exact ⟨Same.refl _, _, rngD_at hi, by rw [Int.mul_one]; exact .int _⟩
theorem walks_rngC {K : PySem.W.Frag} {S : Sto} {H : Hp} {lo c : Int} {n : Nat} : Walks K dx (Itc lo c n) (rngD lo c n) S H := by
  have w := walk_rangeC (lo := lo) (c := c) (n := n)
  refine ⟨_, _, by rw [rngD_len]; exact w, fun S1 H1 r1 x1 => ⟨trivial, fun i x H2 hi y => ?_⟩⟩
  obtain ⟨rfl, rfl⟩ := y
  rw [rngD_len] at hi
  exact ⟨Same.refl _, _, rngD_at hi, .int _⟩
/-- small enough for a range -/
def Rg (i : Int) : Prop := -(2 ^ 62) ≤ i ∧ i < 2 ^ 62
def fRng1 (Q : List D → Sto → Prop) : List D → Sto → Prop
  | [.int j], S => Rg j ∧ Q (rngD 0 1 j.toNat) S
  | _, _ => False
def dRng1 (t : DTA) : DTA := fun δ S Q => t δ S (fRng1 Q)
theorem di_range1 {a : Expr} {p : Pos} (hg : Gl X "range") (hm : X.mg "range" = none) (ha : DA X dx [a] ta ga) (hs : starEach [a] X.env = [(false, eval a X.env)] := by rfl) :
    DI X dx tg (.Call (.Name "range" p) [a] [] pos) (iRng1 ta) (dRng1 ga) := by
  refine ⟨pi_range1 hg hm ha.pe hs, fun σ H δ S Q R r0 s0 t k => ?_⟩
  refine ha.go σ H δ S _ _ r0 s0 t fun vs H1 ds S1 r1 x1 d1 t1 => ?_
  cases d1 with
  | nil => exact t1.elim
  | cons h1 h2 =>
    cases h1 with
    | int j =>
      cases h2 with
      | nil => exact ⟨j, rfl, t1.1.1, t1.1.2, k _ H1 _ S1 r1 x1 walks_rng t1.2⟩
      | cons _ _ => exact t1.elim
    | _ => exact t1.elim
def fRng2 (Q : List D → Sto → Prop) : List D → Sto → Prop
  | [.int i, .int j], S => Rg i ∧ Rg j ∧ Q (rngD i 1 (j - i).toNat) S
  | _, _ => False
def dRng2 (t : DTA) : DTA := fun δ S Q => t δ S (fRng2 Q)
theorem di_range2 {a b : Expr} {p : Pos} (hg : Gl X "range") (hm : X.mg "range" = none) (ha : DA X dx [a, b] ta ga) (hs : starEach [a, b] X.env = [(false, eval a X.env), (false, eval b X.env)] := by rfl) (hs2 : starEach [b] X.env = [(false, eval b X.env)] := by rfl) :
    DI X dx tg (.Call (.Name "range" p) [a, b] [] pos) (iRng2 ta) (dRng2 ga) := by
  refine ⟨pi_range2 hg hm ha.pe hs hs2, fun σ H δ S Q R r0 s0 t k => ?_⟩
  refine ha.go σ H δ S _ _ r0 s0 t fun vs H1 ds S1 r1 x1 d1 t1 => ?_
  cases d1 with
  | nil => exact t1.elim
  | cons h1 h2 =>
    cases h1 with
    | int i =>
      cases h2 with
      | nil => exact t1.elim
      | cons h3 h4 =>
        cases h3 with
        | int j =>
          cases h4 with
          | nil => exact ⟨i, j, rfl, ⟨t1.1.1, t1.1.2, t1.2.1.1, t1.2.1.2⟩, k _ H1 _ S1 r1 x1 walks_rng t1.2.2⟩
          | cons _ _ => exact t1.elim
        | _ => exact t1.elim
    | _ => exact t1.elim
/-- range(i, j, -1) -/
def fRng3 (Q : List D → Sto → Prop) : List D → Sto → Prop
  | [.int i, .int j, .int c], S => c = -1 ∧ Rg i ∧ Rg j ∧ Q (rngD i (-1) (i - j).toNat) S
  | _, _ => False
def dRng3 (t : DTA) : DTA := fun δ S Q => t δ S (fRng3 Q)
theorem di_range3 {a b c : Expr} {p : Pos} (h : PI X tg (.Call (.Name "range" p) [a, b, c] [] pos) (iRng3 ta)) (ha : DA X dx [a, b, c] ta ga) :
    DI X dx tg (.Call (.Name "range" p) [a, b, c] [] pos) (iRng3 ta) (dRng3 ga) := by
  refine ⟨h, fun σ H δ S Q R r0 s0 t k => ?_⟩
  refine ha.go σ H δ S _ _ r0 s0 t fun vs H1 ds S1 r1 x1 d1 t1 => ?_
  match vs, ds, d1, t1 with
  | _, [.int i, .int j, .int c], .cons (.int _) (.cons (.int _) (.cons (.int _) .nil)), t1 =>
    obtain ⟨rfl, h1, h2, t2⟩ := t1
    exact ⟨i, j, -1, _, rfl, RgC.neg h1.1 h1.2 h2.1 h2.2, k _ H1 _ S1 r1 x1 walks_rngC t2⟩
end
end DL
/-! Readings over data: statements, loops, comprehensions, calls, a def by its body. -/
namespace DL
open PySem PySem.Spec L2 Gd

section
variable {X : Cx} {dx : Dx} {pos : Pos} {tg e : Expr} {es : List Expr} {te : TE} {fa : DTE} {st : Stmt} {sts : List Stmt} {ts us : TS} {t u : DTS} {uc : TT} {gc : DTT}

/-! ### statements -/
def dNext : DTS := fun DD δ S => DD.nx δ S
def dSeqS (t u : DTS) : DTS := fun DD δ S => t { DD with nx := u DD } δ S
theorem dss_nil : DSs X dx [] tNext dNext := ⟨pss_nil, fun σ H δ S DD E r s h k => k.nx σ H δ S r Ext.refl s h⟩
theorem dss_one (h : DS X dx st ts t) : DSs X dx [st] ts t := ⟨pss_one h.pe, h.go⟩
theorem dss_cons (h : DS X dx st ts t) (h2 : DSs X dx sts us u) : DSs X dx (st :: sts) (tSeq ts us) (dSeqS t u) := by
  refine ⟨pss_cons h.pe h2.pe, fun σ H δ S DD E r s q k => ?_⟩
  refine h.go σ H δ S { DD with nx := u DD } _ r s q ⟨fun σ1 H1 δ1 S1 r1 x1 s1 q1 => ?_, k.bk, k.ct, k.rt⟩
  exact h2.go σ1 H1 δ1 S1 DD E r1 s1 q1 (k.on x1)
/-- the list in slot i is not changed any more -/
def dFrz (i : Nat) (t : DTS) : DTS := fun DD δ S => match gt δ i with
  | some (.adr p) => opt (getS S p) fun ds => t DD (put δ i (.lst ds)) (delS S p)
  | _ => t DD δ S
theorem dss_frz (i : Nat) (h : DSs X dx sts ts t) : DSs X dx sts ts (dFrz i t) := by
  refine ⟨h.pe, fun σ H δ S DD E r s q k => ?_⟩
  unfold dFrz at q
  split at q
  · rename_i p g
    obtain ⟨ds, eg, q⟩ := opt_run q
    obtain ⟨v, e1, d1⟩ := s.ix i _ (gt_ix g)
    cases d1
    rw [put_set] at q
    have r2 := r.del p
    have s2 := (s.ext (ext_del (p := p))).set i (r.frozen eg)
    have e2 : σ.set i (some (.ref p)) = σ := by
      apply List.ext_getElem?
      intro j
      by_cases hj : i = j
      · subst hj
        rw [List.getElem?_set_self (List.getElem?_eq_some_iff.mp e1).1, e1]
      · rw [List.getElem?_set_ne hj]
    rw [e2] at s2
    exact h.go σ H _ _ DD E r2 s2 q (k.on ext_del)
  · exact h.go σ H δ S DD E r s q k
theorem ds_pass : DS X dx (.Pass pos) tNext dNext := ⟨ps_pass, fun σ H δ S DD E r s h k => k.nx σ H δ S r Ext.refl s h⟩
def dBreak : DTS := fun DD δ S => DD.bk δ S
def dCont : DTS := fun DD δ S => DD.ct δ S
theorem ds_break : DS X dx (.Break pos) tBreak dBreak := ⟨ps_break, fun σ H δ S DD E r s h k => k.bk σ H δ S r Ext.refl s h⟩
theorem ds_continue : DS X dx (.Continue pos) tCont dCont := ⟨ps_continue, fun σ H δ S DD E r s h k => k.ct σ H δ S r Ext.refl s h⟩
def dDrop (f : DTE) : DTS := fun DD δ S => f δ S fun _ S1 => DD.nx δ S1
theorem ds_expr (h : DE X dx e te fa) (hs : swapsWith e none pos.line X.env = pure false := by rfl) : DS X dx (.Expr e pos) (tDrop te) (dDrop fa) :=
  ⟨ps_expr h.pe hs, fun σ H δ S DD E r s q k => h.go σ H δ S _ _ r s q fun v H1 d S1 r1 x1 d1 t1 => k.nx σ H1 δ S1 r1 x1 (s.ext x1) t1⟩
/-- what is handed back: a list of one's own is not changed any more -/
def frzO (p : Addr) : Option (List D) → D
  | some ds => .lst ds
  | none => .adr p
def frz (S : Sto) : D → D
  | .adr p => frzO p (getS S p)
  | d => d
theorem frz_ok {K : PySem.W.Frag} {H : Hp} {S : Sto} {v : V} {d : D} (r : HR K dx H S) (h : Dt K (Mu dx S) H v d) : Dt K (Fo dx.M0) H v (frz S d) := by
  have le : Ext (Mu dx S) H (Fo dx.M0) H := Ext.less (fun b m => m.elim .inl False.elim) (fun b m => m.elim)
  cases h with
  | adr p =>
    show Dt K (Fo dx.M0) H (.ref p) (frzO p (getS S p))
    cases g : getS S p with
    | none => exact .adr p
    | some ds =>
      obtain ⟨m, vs, e, al⟩ := r.get g
      exact .lst (fun z => z.elim (r.own_not m) False.elim) e (al.ext le)
  | non => exact .non
  | bl k => exact .bl k
  | int i => exact .int i
  | str x => exact .str x
  | tup n h a => exact Dt.ext le (.tup n h a)
  | ktup h a => exact Dt.ext le (.ktup h a)
  | lst n h a => exact Dt.ext le (.lst n h a)
  | fls n h => exact Dt.ext le (.fls n h)
  | kfls h => exact Dt.ext le (.kfls h)
def dRet (f : DTE) : DTS := fun DD δ S => f δ S fun d S1 => DD.rt (frz S1 d) S1
theorem ds_ret (h : DE X dx e te fa) : DS X dx (.Return (some e) pos) (tRet te) (dRet fa) :=
  ⟨ps_ret h.pe, fun σ H δ S DD E r s q k => h.go σ H δ S _ _ r s q fun v H1 d S1 r1 x1 d1 t1 => k.rt v H1 _ S1 r1 x1 (frz_ok r1 d1) t1⟩
def dRetN : DTS := fun DD _ S => DD.rt .non S
theorem ds_retN : DS X dx (.Return none pos) tRetN dRetN := ⟨ps_retN, fun σ H δ S DD E r s q k => k.rt .non H .non S r Ext.refl .non q⟩
def dIfS (c : DTT) (t u : DTS) : DTS := fun DD δ S => c δ S fun b S1 => if b = true then t DD δ S1 else u DD δ S1
theorem ds_if {c : Expr} {p q : List Stmt} (hc : DT X dx c uc gc) (ha : DSs X dx p ts t) (hb : DSs X dx q us u) : DS X dx (.If c p q pos) (tIfS uc ts us) (dIfS gc t u) := by
  refine ⟨ps_if hc.pe ha.pe hb.pe, fun σ H δ S DD E r s w k => ?_⟩
  refine hc.go σ H δ S _ _ r s w fun b H1 S1 r1 x1 w1 => ?_
  cases b with
  | true =>
    rw [if_pos rfl] at w1 ⊢
    exact ha.go σ H1 δ S1 DD E r1 (s.ext x1) w1 (k.on x1)
  | false =>
    rw [if_neg Bool.false_ne_true] at w1 ⊢
    exact hb.go σ H1 δ S1 DD E r1 (s.ext x1) w1 (k.on x1)
def dAsg (f : DTE) (g : DTG) : DTS := fun DD δ S => f δ S fun d S1 => g d δ fun δ1 => DD.nx δ1 S1
theorem asg_go {g : TG} {f : DTG} {o : List Nat} (h : DE X dx e te fa) (hg : DG X dx tg g f o) :
    ∀ σ H δ S DD E, HR X.K dx H S → SR X.K dx σ H δ S → dAsg fa f DD δ S → ThS X.K dx H S DD E → tAsg te g E σ H := by
  intro σ H δ S DD E r s q k
  refine h.go σ H δ S _ _ r s q fun v H1 d S1 r1 x1 d1 t1 => ?_
  exact hg.go v d σ H1 δ S1 _ _ r1 (s.ext x1) d1 t1 fun σ2 δ2 s2 _ _ t2 => k.nx σ2 H1 δ2 S1 r1 x1 s2 t2
theorem ds_asg {g : TG} {f : DTG} {o : List Nat} (h : DE X dx e te fa) (hg : DG X dx tg g f o) (hp : PS X st (tAsg te g)) : DS X dx st (tAsg te g) (dAsg fa f) :=
  ⟨hp, asg_go h hg⟩
def dSet (i : Nat) (f : DTE) : DTS := fun DD δ S => f δ S fun d S1 => DD.nx (put δ i d) S1
theorem set_go {i : Nat} (h : ∀ σ H δ S Q Qh, HR X.K dx H S → SR X.K dx σ H δ S → fa δ S Q → ThE X.K dx H S Q Qh → te σ H Qh) :
    ∀ σ H δ S DD E, HR X.K dx H S → SR X.K dx σ H δ S → dSet i fa DD δ S → ThS X.K dx H S DD E → tAsg te (gName i) E σ H := by
  intro σ H δ S DD E r s q k
  refine h σ H δ S _ _ r s q fun v H1 d S1 r1 x1 d1 t1 => ?_
  have t1 : DD.nx (put δ i d) S1 := t1
  rw [put_set] at t1
  exact k.nx _ H1 _ S1 r1 x1 ((s.ext x1).set i d1) t1
theorem ds_set {i : Nat} {x : Str} {pos' : Pos} (hN : X.N.Nodup) (hi : X.N[i]? = some x) (hx : Loc X.env.scope x) (h : DE X dx e te fa) (hs : swapsWith e (some (.Name x pos')) pos.line X.env = pure false := by rfl)
    (hf : X.fn x = true ∨ X.env.scope.names.lookup x = some .local := by first | exact .inl rfl | exact .inr rfl | assumption) : DS X dx (.Assign [.Name x pos'] e pos) (tAsg te (gName i)) (dSet i fa) :=
  ⟨ps_set hN hi hx h.pe hs hf, set_go h.go⟩
/-- a, b = e1, e2 -/
def dPar (is : List Nat) (f : DTA) : DTS := fun DD δ S => f δ S fun ds S1 => ds.length = is.length ∧ DD.nx ((is.zip ds).foldl (fun δ p => put δ p.1 p.2) δ) S1
theorem ds_par {i j : Nat} {ta : TA} {fa : DTA} (h : DA X dx es ta fa) (hp : PS X st (tPar i j ta)) : DS X dx st (tPar i j ta) (dPar [i, j] fa) := by
  refine ⟨hp, fun σ H δ S DD E r s q k => ?_⟩
  refine h.go σ H δ S _ _ r s q fun vs H1 ds S1 r1 x1 d1 t1 => ?_
  match vs, ds, d1, t1 with
  | [v, w], [d, c], .cons h1 (.cons h2 .nil), t1 =>
    refine ⟨v, w, rfl, ?_⟩
    have t2 : DD.nx (put (put δ i d) j c) S1 := t1.2
    rw [put_set, put_set] at t2
    exact k.nx _ H1 _ S1 r1 x1 (((s.ext x1).set i h1).set j h2) t2
  | [], [], _, t1 => exact absurd t1.1 (by simp)
  | [_], [_], _, t1 => exact absurd t1.1 (by simp)
  | _ :: _ :: _ :: _, _ :: _ :: _ :: _, _, t1 => exact absurd t1.1 (by simp)
theorem ds_par3 {i j l : Nat} {ta : TA} {fa : DTA} (h : DA X dx es ta fa) (hp : PS X st (tPar3 i j l ta)) : DS X dx st (tPar3 i j l ta) (dPar [i, j, l] fa) := by
  refine ⟨hp, fun σ H δ S DD E r s q k => ?_⟩
  refine h.go σ H δ S _ _ r s q fun vs H1 ds S1 r1 x1 d1 t1 => ?_
  match vs, ds, d1, t1 with
  | [v, w, z], [d, c, b], .cons h1 (.cons h2 (.cons h3 .nil)), t1 =>
    refine ⟨v, w, z, rfl, ?_⟩
    have t2 : DD.nx (put (put (put δ i d) j c) l b) S1 := t1.2
    rw [put_set, put_set, put_set] at t2
    exact k.nx _ H1 _ S1 r1 x1 ((((s.ext x1).set i h1).set j h2).set l h3) t2
  | [], [], _, t1 => exact absurd t1.1 (by simp)
  | [_], [_], _, t1 => exact absurd t1.1 (by simp)
  | [_, _], [_, _], _, t1 => exact absurd t1.1 (by simp)
  | _ :: _ :: _ :: _ :: _, _ :: _ :: _ :: _ :: _, _, t1 => exact absurd t1.1 (by simp)
/-- x op= e of a name -/
def dAug (i : Nat) (f : F2) (fa : DTE) : DTS := fun DD δ S => match gt δ i with
  | some p => fa δ S fun q S1 => f p q S1 fun d S2 => DD.nx (put δ i d) S2
  | none => False
theorem ds_aug {i : Nat} {ti : TIp} {f : F2} (hp : PS X st (tAug i te ti)) (h : DE X dx e te fa) (o : OpD X.K dx ti f) : DS X dx st (tAug i te ti) (dAug i f fa) := by
  refine ⟨hp, fun σ H δ S DD E r s q k => ?_⟩
  unfold dAug at q
  cases g : gt δ i with
  | none => rw [g] at q; exact q.elim
  | some p =>
    rw [g] at q
    obtain ⟨x, e1, dp⟩ := s.ix i p (gt_ix g)
    refine ⟨x, e1, ?_⟩
    refine h.go σ H δ S _ _ r s q fun y H1 d S1 r1 x1 d1 t1 => ?_
    refine o x y p d H1 S1 _ _ r1 (dp.ext x1) d1 t1 fun z H2 c S2 r2 x2 d2 t2 => ?_
    have t2 : DD.nx (put δ i c) S2 := t2
    rw [put_set] at t2
    exact k.nx _ H2 _ S2 r2 (x1.trans x2) ((s.ext (x1.trans x2)).set i d2) t2

/-! ### loops -/
def forGo (g : DTG) (tb : DTS) (DD : DEnds) : List D → Sl → Sto → Prop
  | [], δ, S => DD.nx δ S
  | x :: xs, δ, S => g x δ fun δ1 => tb { DD with nx := forGo g tb DD xs, ct := forGo g tb DD xs, bk := DD.nx } δ1 S
def dFor (ti : DTA) (g : DTG) (tb : DTS) : DTS := fun DD δ S => ti δ S fun xs S1 => forGo g tb DD xs δ S1
theorem ds_for {iter : Expr} {wi : TI} {fi : DTA} {g : TG} {f : DTG} {o : List Nat} (hp : PassesOwn (model X.prog X.w) X.A X.env X.xe) (hc : X.calm = true) (hi : DI X dx tg iter wi fi) (hg : DG X dx tg g f o) (hb : DSs X dx sts ts t)
    (hs : ∀ x, foldedSetIterable iter X.env x = pure x := by intro _; rfl) : DS X dx (.For tg iter sts [] pos) (tFor wi g ts) (dFor fi f t) := by
  refine ⟨ps_for hp hc hi.pe hg.pe hb.pe hs, fun σ H δ S DD E r s q k => ?_⟩
  refine hi.go σ H δ S _ _ r s q fun J H0 xs S0 r0 x0 wk q0 => ?_
  obtain ⟨G, Y, wl, all⟩ := wk
  refine for_it wl (fun i σ' H' => ∃ δ' S', HR X.K dx H' S' ∧ SR X.K dx σ' H' δ' S' ∧ Ext (Mu dx S0) H0 (Mu dx S') H' ∧ forGo f t DD (xs.drop i) δ' S')
    ⟨δ, S0, r0, s.ext x0, Ext.refl, q0⟩ ?_ ?_ ?_
  · rintro i σ' H' _ ⟨δ', S', r', s', x', _⟩
    exact (all _ H' r'.mu_live x'.d).1
  · rintro i v σ' H1 H2 hi ⟨δ', S', r', s', x', q'⟩ y
    obtain ⟨sm, d, ed, dd⟩ := (all _ H1 r'.mu_live x'.d).2 i v H2 hi y
    have e1 : xs.drop i = d :: xs.drop (i + 1) := by
      rw [List.drop_eq_getElem_cons hi]
      have := List.getElem?_eq_getElem hi
      rw [this] at ed
      cases ed
      rfl
    rw [e1] at q'
    have xs2 : Ext (Mu dx S') H1 (Mu dx S') H2 := Ext.same sm
    refine hg.go v d σ' H2 δ' S' _ _ (r'.same sm) (s'.ext xs2) dd q' fun σ3 δ3 s3 _ _ q3 => ?_
    refine hb.go σ3 H2 δ3 S' _ _ (r'.same sm) s3 q3 ⟨?_, ?_, ?_, ?_⟩
    · intro σ4 H4 δ4 S4 r4 x4 s4 q4
      exact ⟨δ4, S4, r4, s4, (x'.trans xs2).trans x4, q4⟩
    · intro σ4 H4 δ4 S4 r4 x4 s4 q4
      exact k.nx σ4 H4 δ4 S4 r4 (((x0.trans x').trans xs2).trans x4) s4 q4
    · intro σ4 H4 δ4 S4 r4 x4 s4 q4
      exact ⟨δ4, S4, r4, s4, (x'.trans xs2).trans x4, q4⟩
    · intro v4 H4 d4 S4 r4 x4 h4 q4
      exact k.rt v4 H4 d4 S4 r4 (((x0.trans x').trans xs2).trans x4) h4 q4
  · rintro σ' H' ⟨δ', S', r', s', x', q'⟩
    rw [List.drop_length] at q'
    exact k.nx σ' H' δ' S' r' (x0.trans x') s' q'
def dWhile (c : DTT) (tb : DTS) : DTS := fun DD δ S => ∃ W : Nat → Sl → Sto → Prop, (∃ m, W m δ S) ∧ ∀ m δ S, W m δ S →
  c δ S fun b S1 => if b = true then tb { DD with nx := fun δ' S' => ∃ m', m' < m ∧ W m' δ' S', ct := fun δ' S' => ∃ m', m' < m ∧ W m' δ' S', bk := DD.nx } δ S1 else DD.nx δ S1
theorem ds_while {c : Expr} (hp : PassesOwn (model X.prog X.w) X.A X.env X.xe) (hc : DT X dx c uc gc) (hb : DSs X dx sts ts t) : DS X dx (.While c sts [] pos) (tWhile uc ts) (dWhile gc t) := by
  refine ⟨ps_while hp hc.pe hb.pe, fun σ H δ S DD E r s q k => ?_⟩
  obtain ⟨W, ⟨m0, w0⟩, turn⟩ := q
  refine ⟨fun m σ' H' => ∃ δ' S', HR X.K dx H' S' ∧ SR X.K dx σ' H' δ' S' ∧ Ext (Mu dx S) H (Mu dx S') H' ∧ W m δ' S', ⟨m0, δ, S, r, s, Ext.refl, w0⟩, ?_⟩
  rintro m σ' H' ⟨δ', S', r', s', x', w'⟩
  refine hc.go σ' H' δ' S' _ _ r' s' (turn m δ' S' w') fun b H1 S1 r1 x1 q1 => ?_
  cases b with
  | false =>
    rw [if_neg Bool.false_ne_true] at q1
    exact k.nx σ' H1 δ' S1 r1 (x'.trans x1) (s'.ext x1) q1
  | true =>
    rw [if_pos rfl] at q1
    refine ⟨fun σ2 H2 => ∃ m' δ2 S2, m' < m ∧ HR X.K dx H2 S2 ∧ SR X.K dx σ2 H2 δ2 S2 ∧ Ext (Mu dx S) H (Mu dx S2) H2 ∧ W m' δ2 S2, ?_, ?_⟩
    · rintro σ2 H2 ⟨m', δ2, S2, lt, a, b, c, d⟩
      exact ⟨m', lt, δ2, S2, a, b, c, d⟩
    · refine hb.go σ' H1 δ' S1 _ _ r1 (s'.ext x1) q1 ⟨?_, ?_, ?_, ?_⟩
      · rintro σ4 H4 δ4 S4 r4 x4 s4 ⟨m', lt, w4⟩
        exact ⟨m', δ4, S4, lt, r4, s4, (x'.trans x1).trans x4, w4⟩
      · intro σ4 H4 δ4 S4 r4 x4 s4 q4
        exact k.nx σ4 H4 δ4 S4 r4 ((x'.trans x1).trans x4) s4 q4
      · rintro σ4 H4 δ4 S4 r4 x4 s4 ⟨m', lt, w4⟩
        exact ⟨m', δ4, S4, lt, r4, s4, (x'.trans x1).trans x4, w4⟩
      · intro v4 H4 d4 S4 r4 x4 h4 q4
        exact k.rt v4 H4 d4 S4 r4 ((x'.trans x1).trans x4) h4 q4
end
end DL
/-! Readings over data: comprehensions, calls, a def by its body. -/
namespace DL
open PySem PySem.Spec L2 Gd

/-! ### slots forgotten -/
def clr : Sl → Nat → Sl
  | [], _ => []
  | _ :: r, 0 => none :: r
  | a :: r, n + 1 => a :: clr r n
theorem clr_set : ∀ {δ : Sl} {i : Nat}, clr δ i = δ.set i none
  | [], _ => rfl
  | _ :: _, 0 => rfl
  | a :: r, n + 1 => by
    show a :: clr r n = a :: r.set n none
    rw [clr_set]
def wipeD (δ : Sl) : List Nat → Sl
  | [] => δ
  | v :: vs => clr (wipeD δ vs) v
theorem wipeD_length (δ : Sl) : ∀ vs : List Nat, (wipeD δ vs).length = δ.length
  | [] => rfl
  | v :: vs => by
    unfold wipeD
    rw [clr_set, List.length_set, wipeD_length δ vs]
theorem wipeD_some {δ : Sl} {i : Nat} {d : D} : ∀ {vs : List Nat}, (wipeD δ vs)[i]? = some (some d) → δ[i]? = some (some d) ∧ i ∉ vs
  | [], h => ⟨h, by simp⟩
  | v :: vs, h => by
    unfold wipeD at h
    rw [clr_set] at h
    by_cases hi : v = i
    · subst hi
      by_cases hv : v < (wipeD δ vs).length
      · rw [List.getElem?_set_self hv] at h
        cases h
      · rw [List.getElem?_eq_none (by simpa using hv)] at h
        cases h
    · rw [List.getElem?_set_ne hi] at h
      obtain ⟨a, b⟩ := wipeD_some h
      exact ⟨a, by simp only [List.mem_cons, not_or]; exact ⟨fun e => hi e.symm, b⟩⟩
theorem wipe_in {σ : L2.St} {i : Nat} : ∀ {vs : List Nat}, i ∈ vs → (wipe σ vs)[i]? = if i < σ.length then some none else none
  | v :: vs, h => by
    unfold wipe
    by_cases hi : v = i
    · subst hi
      by_cases hv : v < σ.length
      · rw [List.getElem?_set_self (by rw [wipe_length]; exact hv), if_pos hv]
      · rw [if_neg hv, List.getElem?_eq_none (by rw [List.length_set, wipe_length]; omega)]
    · rw [List.getElem?_set_ne hi]
      exact wipe_in ((List.mem_cons.mp h).resolve_left fun e => hi e.symm)
theorem wipe_wipe {σ σ2 : L2.St} {vs o : List Nat} (l : σ2.length = (wipe σ vs).length) (sub : ∀ j ∈ o, j ∈ vs) (same : ∀ j, j ∉ o → σ2[j]? = (wipe σ vs)[j]?) : wipe σ2 vs = wipe σ vs := by
  apply List.ext_getElem?
  intro j
  by_cases h : j ∈ vs
  · rw [wipe_in h, wipe_in h, l, wipe_length]
  · rw [wipe_out h, same j fun z => h (sub j z)]
theorem SR.wipe {K : PySem.W.Frag} {dx : Dx} {σ : L2.St} {H : Hp} {δ : Sl} {S : Sto} (s : SR K dx σ H δ S) (vs : List Nat) : SR K dx (L2.wipe σ vs) H (wipeD δ vs) S := by
  refine ⟨by rw [wipeD_length, wipe_length]; exact s.len, fun i d h => ?_⟩
  obtain ⟨h1, h2⟩ := wipeD_some h
  obtain ⟨v, e1, e2⟩ := s.ix i d h1
  exact ⟨v, by rw [wipe_out h2]; exact e1, e2⟩

/-- a frame in which p may change elsewhere, too -/
def Dx.and (dx : Dx) (p : Addr) : Dx := { dx with M0 := fun b => dx.M0 b ∨ b = p }
section
variable {K : PySem.W.Frag} {dx : Dx} {H H' : Hp} {S S' : Sto} {σ : L2.St} {δ : Sl} {p : Addr}
theorem mu_and {b : Addr} : (Mu (dx.and p) S).mu b ↔ (Mu dx S).mu b ∨ b = p := by
  constructor
  · rintro ((h | h) | h)
    · exact .inl (.inl h)
    · exact .inr h
    · exact .inl (.inr h)
  · rintro ((h | h) | h)
    · exact .inl (.inl h)
    · exact .inr h
    · exact .inl (.inr h)
theorem ext_and {o : HO} (n : H p = none) : Ext (Mu dx S) H (Mu (dx.and p) S) (upd H p o) := by
  refine ⟨fun b u _ e => by rw [upd_ne (ne_of_none e n)]; exact e, fun b m z => ?_, fun b m z => absurd m z⟩
  rcases mu_and.mp m with m | m
  · exact absurd m z
  · rw [m]; exact n
theorem ext_back : Ext (Mu (dx.and p) S) H (Mu dx S) H := Ext.less (fun b m => mu_and.mpr (.inl m)) (fun b m => m)
theorem HR.and (r : HR K dx H S) (n : H p = none) (vs : List V) : HR K (dx.and p) (upd H p (.lst vs)) S := by
  have x := ext_and (dx := dx) (S := S) (o := .lst vs) n
  have q := r.same (same_new (o := .lst vs) n)
  refine ⟨fun b xs m => ?_, r.nd, fun b m => ?_, fun b m => ⟨(r.own b m).1, fun z => ?_⟩, q.keep, q.j, q.stab, fun b h => .inl (r.hm b h)⟩
  · obtain ⟨ws, e, a⟩ := r.sto b xs m
    exact ⟨ws, by rw [upd_ne (ne_of_none e n)]; exact e, a.ext x⟩
  · rcases m with m | m
    · exact q.live b m
    · have m : b = p := m
      rw [m, upd_same]
      exact fun z => nomatch z
  · rcases z with z | z
    · exact (r.own b m).2 z
    · have z : b = p := z
      obtain ⟨⟨b', xs⟩, mm, e⟩ := List.mem_map.mp m
      have e : b' = b := e
      obtain ⟨ws, eh, _⟩ := r.sto b' xs mm
      rw [e, z, n] at eh
      cases eh
theorem HR.unand (r : HR K (dx.and p) H S) (hp : ¬ dx.hand p) : HR K dx H S :=
  ⟨fun b xs m => let ⟨ws, e, a⟩ := r.sto b xs m; ⟨ws, e, a.ext ext_back⟩, r.nd, fun b m => r.live b (.inl m), fun b m => ⟨(r.own b m).1, fun z => (r.own b m).2 (.inl z)⟩, r.keep, r.j, r.stab,
    fun b h => (r.hm b h).resolve_right fun e => hp (by have e : b = p := e; rw [← e]; exact h)⟩
theorem extD_put {o : HO} : ExtD (Mu (dx.and p) S) H (Mu (dx.and p) S) (upd H p o) :=
  ⟨fun b u n e => by rw [upd_ne (fun z => n (mu_and.mpr (.inr z)))]; exact e, fun b m n => absurd m n⟩
theorem HR.and_put (r : HR K (dx.and p) H S) (h0 : dx.H0 p = none) (hp : ¬ dx.hand p) (vs : List V) : HR K (dx.and p) (upd H p (.lst vs)) S := by
  refine ⟨fun b xs m => ?_, r.nd, fun b m => ?_, r.own, fun b o e n => ?_, ?_, r.stab, r.hm⟩
  · obtain ⟨ws, e, a⟩ := r.sto b xs m
    have ne : b ≠ p := fun z => (r.own b (List.mem_map.mpr ⟨_, m, rfl⟩)).2 (.inr z)
    exact ⟨ws, by rw [upd_ne ne]; exact e, a.extD extD_put⟩
  · by_cases z : b = p
    · rw [z, upd_same]
      exact fun z => nomatch z
    · rw [upd_ne z]
      exact r.live b m
  · have ne : b ≠ p := fun z => by
      rw [z] at e
      have e : dx.H0 p = some o := e
      rw [h0] at e
      cases e
    rw [upd_ne ne]
    exact r.keep b o e n
  · refine r.stab H _ (fun b hb => ?_) r.j
    have ne : b ≠ p := fun z => hp (by rw [← z]; exact hb)
    rw [upd_ne ne]
/-- from a heap in which p was not there, p was changed once more -/
theorem ext_put {H1 : Hp} {S1 : Sto} {o : HO} (x : Ext (Mu dx S) H (Mu (dx.and p) S1) H1) (n : H p = none) : Ext (Mu dx S) H (Mu (dx.and p) S1) (upd H1 p o) :=
  ⟨fun b u z e => by rw [upd_ne (ne_of_none e n)]; exact x.keep b u z e, x.fresh, x.freshC⟩
end

section
variable {X : Cx} {dx : Dx} {pos : Pos} {tg e elt iter : Expr} {ifs : List Expr} {te : TE} {fa : DTE} {wi : TI} {fi : DTA} {g : TG} {f : DTG} {tt : TT} {ft : DTT} {o : List Nat} {scope : Scope} {own : List (Str × Nat)}
def lcGo (g : DTG) (tt : DTT) (te : DTE) (own : List Nat) (δ : Sl) (Q : D → Sto → Prop) : List D → List D → Sto → Prop
  | [], acc, S => Q (.lst acc) S
  | x :: xs, acc, S => g x (wipeD δ own) fun δ1 => tt δ1 S fun b S1 =>
      if b = true then te δ1 S1 fun d S2 => Fit (acc.length + 1) ∧ lcGo g tt te own δ Q xs (acc ++ [d]) S2 else lcGo g tt te own δ Q xs acc S1
def dLc (ti : DTA) (g : DTG) (tt : DTT) (te : DTE) (own : List Nat) : DTE := fun δ S Q => ti δ S fun xs S1 => lcGo g tt te own δ Q xs [] S1
/-- the tests of a clause -/
structure DTs (X : Cx) (dx : Dx) (ifs : List Expr) (tt : TT) (t : DTT) : Prop where
  pe : PTs X ifs tt
  go : ∀ σ H δ S Q Qh, HR X.K dx H S → SR X.K dx σ H δ S → t δ S Q → ThT X.K dx H S Q Qh → tt σ H Qh
def dYes : DTT := fun _ S Q => Q true S
theorem dts_nil : DTs X dx [] tYes dYes := ⟨pts_nil, fun σ H δ S Q Qh r s t k => k true H S r Ext.refl t⟩
theorem dts_one {c : Expr} (h : DT X dx c tt ft) : DTs X dx [c] tt ft := ⟨pts_one h.pe, h.go⟩
abbrev Blk (X : Cx) (scope : Scope) (s : Shared) (H : Hp) (C : Addr) (cl : List (Str × Addr)) (fp : List Addr) : Cx := X.blk s H scope (compEnvC scope cl C X.env) fp
theorem lc_go (hi : DI X dx tg iter wi fi) (sub : ∀ j ∈ o, j ∈ own.map (·.2))
    (hg : ∀ (m : Addr → Prop) (s : Shared) (H : Hp) (C : Addr) (cl : List (Str × Addr)) (fp : List Addr), DG (Blk X scope s H C cl fp) { dx with M0 := m } tg g f o)
    (ht : ∀ (m : Addr → Prop) (s : Shared) (H : Hp) (C : Addr) (cl : List (Str × Addr)) (fp : List Addr), DTs (Blk X scope s H C cl fp) { dx with M0 := m } ifs tt ft)
    (he : ∀ (m : Addr → Prop) (s : Shared) (H : Hp) (C : Addr) (cl : List (Str × Addr)) (fp : List Addr), DE (Blk X scope s H C cl fp) { dx with M0 := m } elt te fa) :
    ∀ σ H δ S Q Qh, HR X.K dx H S → SR X.K dx σ H δ S → dLc fi f ft fa (own.map (·.2)) δ S Q → ThE X.K dx H S Q Qh → tLc wi g tt te (own.map (·.2)) σ H Qh := by
  intro σ H δ S Q Qh r s q k
  refine hi.go σ H δ S _ _ r s q fun J H0 xs S0 r0 x0 wk q0 => ?_
  intro p n
  obtain ⟨G, Y, wl, all⟩ := wk
  have h0 : dx.H0 p = none := r0.old n
  have hp : ¬ dx.hand p := fun h => r0.live p (r0.hm p h) n
  have s0 := (s.ext x0)
  refine lc_it wl (fun i H' => ∃ S' acc vs, HR X.K (dx.and p) H' S' ∧ Ext (Mu dx S0) H0 (Mu (dx.and p) S') H' ∧ H' p = some (.lst vs) ∧ DtAll X.K (Mu (dx.and p) S') H' vs acc ∧ lcGo f ft fa (own.map (·.2)) δ Q (xs.drop i) acc S')
    ⟨S0, [], [], r0.and n [], ext_and n, upd_same, .nil, q0⟩ ?_ ?_ ?_
  · rintro i H' _ ⟨S', acc, vs, r', x', _⟩
    exact (all _ H' r'.mu_live x'.d).1
  · rintro i v H1 H2 hi' ⟨S', acc, vs, r', x', ep, al, q'⟩ y
    obtain ⟨sm, d, ed, dd⟩ := (all _ H1 r'.mu_live x'.d).2 i v H2 hi' y
    have e1 : xs.drop i = d :: xs.drop (i + 1) := by
      rw [List.drop_eq_getElem_cons hi']
      have := List.getElem?_eq_getElem hi'
      rw [this] at ed
      cases ed
      rfl
    rw [e1] at q'
    have xs2 : Ext (Mu (dx.and p) S') H1 (Mu (dx.and p) S') H2 := Ext.same sm
    have r2 := r'.same sm
    have sd : SR X.K (dx.and p) (L2.wipe σ (own.map (·.2))) H2 (wipeD δ (own.map (·.2))) S' :=
      ⟨(s0.wipe _).len, fun j c hc => let ⟨u, a, b⟩ := (s0.wipe (own.map (·.2))).ix j c hc; ⟨u, a, b.ext (x'.trans xs2)⟩⟩
    refine (hg (dx.and p).M0 X.s_0 X.H_0 0 [] []).go v d _ H2 _ S' _ _ r2 sd dd q' fun σ3 δ3 s3 l3 o3 q3 => ⟨wipe_wipe l3 sub o3, ?_⟩
    refine (ht (dx.and p).M0 X.s_0 X.H_0 0 [] []).go σ3 H2 δ3 S' _ _ r2 s3 q3 fun b H3 S3 r3 x3 q4 => ?_
    have np : ∀ {S'' : Sto} {H'' : Hp}, HR X.K (dx.and p) H'' S'' → ¬ (Mu (dx.and p) S'').ch p := fun r'' z => by
      rcases z with z | z
      · exact hp z
      · exact (r''.own p z).2 (.inr rfl)
    have ep3 : H3 p = some (.lst vs) := x3.keep p _ (np r2) (sm p _ ep)
    have xt3 := (x'.trans xs2).trans x3
    have al3 := al.ext (xs2.trans x3)
    cases b with
    | false =>
      rw [if_neg Bool.false_ne_true] at q4 ⊢
      exact ⟨S3, acc, vs, r3, xt3, ep3, al3, q4⟩
    | true =>
      rw [if_pos rfl] at q4 ⊢
      refine (he (dx.and p).M0 X.s_0 X.H_0 0 [] []).go σ3 H3 δ3 S3 _ _ r3 (s3.ext x3) q4 fun y H4 c S4 r4 x4 d4 q5 => ?_
      have ep4 : H4 p = some (.lst vs) := x4.keep p _ (np r3) ep3
      have al4 := (al3.ext x4).append (.cons d4 .nil)
      refine ⟨vs, ep4, ?_, S4, acc ++ [c], vs ++ [y], r4.and_put h0 hp _, ext_put (xt3.trans x4) n, upd_same, al4.extD extD_put, q5.2⟩
      have := q5.1.line
      rw [al3.length]
      omega
  · rintro H' ⟨S', acc, vs, r', x', ep, al, q'⟩
    rw [List.drop_length] at q'
    have r2 := r'.unand hp
    refine k (.ref p) H' _ S' r2 (x0.trans (x'.trans ext_back)) (.lst ?_ ep (al.ext ext_back)) q'
    rintro (z | z | z)
    · exact r0.live p z n
    · exact hp z
    · exact (r'.own p z).2 (.inr rfl)
/-- [elt for tg in iter if ..] -/
theorem de_lc (hc : X.calm = true) (hN : X.N.Nodup) (hi : DI X dx tg iter wi fi) (ok : BlkOk X.N X.env.scope scope own) (sub : ∀ j ∈ o, j ∈ own.map (·.2))
    (hg : ∀ (m : Addr → Prop) (s : Shared) (H : Hp) (C : Addr) (cl : List (Str × Addr)) (fp : List Addr), DG (Blk X scope s H C cl fp) { dx with M0 := m } tg g f o)
    (ht : ∀ (m : Addr → Prop) (s : Shared) (H : Hp) (C : Addr) (cl : List (Str × Addr)) (fp : List Addr), DTs (Blk X scope s H C cl fp) { dx with M0 := m } ifs tt ft)
    (he : ∀ (m : Addr → Prop) (s : Shared) (H : Hp) (C : Addr) (cl : List (Str × Addr)) (fp : List Addr), DE (Blk X scope s H C cl fp) { dx with M0 := m } elt te fa)
    (hs : ∀ x, foldedSetIterable iter X.env x = pure x := by intro _; rfl) : DE X dx (.ListComp elt [⟨tg, iter, ifs, 0⟩] scope pos) (tLc wi g tt te (own.map (·.2))) (dLc fi f ft fa (own.map (·.2))) :=
  ⟨pe_lc hc hN hi.pe ok (fun s H C cl fp => (hg dx.M0 s H C cl fp).pe) (fun s H C cl fp => (ht dx.M0 s H C cl fp).pe) (fun s H C cl fp => (he dx.M0 s H C cl fp).pe) hs, lc_go hi sub hg ht he⟩
/-- y = [elt for ..] -/
theorem ds_setLc {i : Nat} {y : Str} {py spos : Pos} (hc : X.calm = true) (hN : X.N.Nodup) (hy : X.N[i]? = some y) (hyl : X.env.scope.names.lookup y = some .local)
    (hsw : swapsWith (.ListComp elt [⟨tg, iter, ifs, 0⟩] scope pos) (some (.Name y py)) spos.line X.env = pure true) (hi : DI X dx tg iter wi fi) (ok : BlkOk X.N X.env.scope scope own) (sub : ∀ j ∈ o, j ∈ own.map (·.2))
    (hg : ∀ (m : Addr → Prop) (s : Shared) (H : Hp) (C : Addr) (cl : List (Str × Addr)) (fp : List Addr), DG (Blk X scope s H C cl fp) { dx with M0 := m } tg g f o)
    (ht : ∀ (m : Addr → Prop) (s : Shared) (H : Hp) (C : Addr) (cl : List (Str × Addr)) (fp : List Addr), DTs (Blk X scope s H C cl fp) { dx with M0 := m } ifs tt ft)
    (he : ∀ (m : Addr → Prop) (s : Shared) (H : Hp) (C : Addr) (cl : List (Str × Addr)) (fp : List Addr), DE (Blk X scope s H C cl fp) { dx with M0 := m } elt te fa)
    (hs : ∀ x, foldedSetIterable iter X.env x = pure x := by intro _; rfl) :
    DS X dx (.Assign [.Name y py] (.ListComp elt [⟨tg, iter, ifs, 0⟩] scope pos) spos) (tAsg (tLc wi g tt te (own.map (·.2))) (gName i)) (dSet i (dLc fi f ft fa (own.map (·.2)))) :=
  ⟨ps_setLc hc hN hy hyl hsw hi.pe ok (fun s H C cl fp => (hg dx.M0 s H C cl fp).pe) (fun s H C cl fp => (ht dx.M0 s H C cl fp).pe) (fun s H C cl fp => (he dx.M0 s H C cl fp).pe) hs, set_go (lc_go hi sub hg ht he)⟩
end
end DL
/-! Readings over data: comprehensions of two clauses. -/
namespace DL
open PySem PySem.Spec L2 Gd

section
variable {X : Cx} {dx : Dx} {pos : Pos} {tg e elt iter tg1 iter1 : Expr} {ifs ifs1 : List Expr} {te : TE} {fa : DTE} {wi wi1 : TI} {fi fi1 : DTA} {g g1 : TG} {f f1 : DTG} {tt tt1 : TT} {ft ft1 : DTT} {o o1 : List Nat} {scope : Scope} {own : List (Str × Nat)} {vs1 : List Nat}
def lc2In (g : DTG) (tt : DTT) (te : DTE) (own : List Nat) (δ : Sl) (k : List D → Sto → Prop) : List D → List D → Sto → Prop
  | [], acc, S => k acc S
  | x :: xs, acc, S => g x (wipeD δ own) fun δ1 => tt δ1 S fun b S1 =>
      if b = true then te δ1 S1 fun d S2 => Fit (acc.length + 1) ∧ lc2In g tt te own δ k xs (acc ++ [d]) S2 else lc2In g tt te own δ k xs acc S1
def lc2Go (g : DTG) (tt : DTT) (wi1 : DTA) (g1 : DTG) (tt1 : DTT) (te : DTE) (own own1 : List Nat) (δ : Sl) (Q : D → Sto → Prop) : List D → List D → Sto → Prop
  | [], acc, S => Q (.lst acc) S
  | x :: xs, acc, S => g x (wipeD δ own) fun δ1 => tt δ1 S fun b S1 =>
      if b = true then wi1 δ1 S1 fun ys S2 => lc2In g1 tt1 te own1 δ1 (lc2Go g tt wi1 g1 tt1 te own own1 δ Q xs) ys acc S2 else lc2Go g tt wi1 g1 tt1 te own own1 δ Q xs acc S1
def dLc2 (ti : DTA) (g : DTG) (tt : DTT) (wi1 : DTA) (g1 : DTG) (tt1 : DTT) (te : DTE) (own own1 : List Nat) : DTE := fun δ S Q => ti δ S fun xs S1 => lc2Go g tt wi1 g1 tt1 te own own1 δ Q xs [] S1
theorem lc2_go (hi : DI X dx tg iter wi fi) (sub : ∀ j ∈ o, j ∈ own.map (·.2)) (sub1 : ∀ j ∈ o1, j ∈ vs1)
    (hg : ∀ (m : Addr → Prop) (s : Shared) (H : Hp) (C : Addr) (cl : List (Str × Addr)) (fp : List Addr), DG (Blk X scope s H C cl fp) { dx with M0 := m } tg g f o)
    (ht : ∀ (m : Addr → Prop) (s : Shared) (H : Hp) (C : Addr) (cl : List (Str × Addr)) (fp : List Addr), DTs (Blk X scope s H C cl fp) { dx with M0 := m } ifs tt ft)
    (hi1 : ∀ (m : Addr → Prop) (s : Shared) (H : Hp) (C : Addr) (cl : List (Str × Addr)) (fp : List Addr), DI (Blk X scope s H C cl fp) { dx with M0 := m } tg1 iter1 wi1 fi1)
    (hg1 : ∀ (m : Addr → Prop) (s : Shared) (H : Hp) (C : Addr) (cl : List (Str × Addr)) (fp : List Addr), DG (Blk X scope s H C cl fp) { dx with M0 := m } tg1 g1 f1 o1)
    (ht1 : ∀ (m : Addr → Prop) (s : Shared) (H : Hp) (C : Addr) (cl : List (Str × Addr)) (fp : List Addr), DTs (Blk X scope s H C cl fp) { dx with M0 := m } ifs1 tt1 ft1)
    (he : ∀ (m : Addr → Prop) (s : Shared) (H : Hp) (C : Addr) (cl : List (Str × Addr)) (fp : List Addr), DE (Blk X scope s H C cl fp) { dx with M0 := m } elt te fa) :
    ∀ σ H δ S Q Qh, HR X.K dx H S → SR X.K dx σ H δ S → dLc2 fi f ft fi1 f1 ft1 fa (own.map (·.2)) vs1 δ S Q → ThE X.K dx H S Q Qh → tLc2 wi g tt wi1 g1 tt1 te (own.map (·.2)) vs1 σ H Qh := by
  intro σ H δ S Q Qh r s q k
  refine hi.go σ H δ S _ _ r s q fun J H0 xs S0 r0 x0 wk q0 => ?_
  intro p n
  obtain ⟨G, Y, wl, all⟩ := wk
  have h0 : dx.H0 p = none := r0.old n
  have hp : ¬ dx.hand p := fun h => r0.live p (r0.hm p h) n
  have s0 := (s.ext x0)
  have np : ∀ {S'' : Sto} {H'' : Hp}, HR X.K (dx.and p) H'' S'' → ¬ (Mu (dx.and p) S'').ch p := fun r'' z => by
    rcases z with z | z
    · exact hp z
    · exact (r''.own p z).2 (.inr rfl)
  -- what stands ahead of a turn, where what is left is told by R
  let Pw : (List D → Sto → Prop) → Hp → Prop := fun R H' => ∃ S' acc vs, HR X.K (dx.and p) H' S' ∧ Ext (Mu dx S0) H0 (Mu (dx.and p) S') H' ∧ H' p = some (.lst vs) ∧ DtAll X.K (Mu (dx.and p) S') H' vs acc ∧ R acc S'
  refine ⟨fun i m H' => m = xs.length - i ∧ i ≤ xs.length ∧ Pw (lc2Go f ft fi1 f1 ft1 fa (own.map (·.2)) vs1 δ Q (xs.drop i)) H', ⟨xs.length, by simp, Nat.zero_le _, S0, [], [], r0.and n [], ext_and n, upd_same, .nil, q0⟩, ?_⟩
  rintro i m H1 ⟨rfl, hi', S', acc, vs, r', x', ep, al, q'⟩
  have gs := (all _ H1 r'.mu_live x'.d)
  by_cases hlt : i < xs.length
  · refine .inr ⟨wl.goes i H1 hlt gs.1, Pw (lc2Go f ft fi1 f1 ft1 fa (own.map (·.2)) vs1 δ Q (xs.drop (i + 1))), fun H' w' => ⟨xs.length - (i + 1), by omega, rfl, hlt, w'⟩, fun v H2 y => ?_⟩
    obtain ⟨sm, d, ed, dd⟩ := gs.2 i v H2 hlt (wl.yields i H1 v H2 hlt gs.1 y)
    have e1 : xs.drop i = d :: xs.drop (i + 1) := by
      rw [List.drop_eq_getElem_cons hlt]
      have := List.getElem?_eq_getElem hlt
      rw [this] at ed
      cases ed
      rfl
    rw [e1] at q'
    have xs2 : Ext (Mu (dx.and p) S') H1 (Mu (dx.and p) S') H2 := Ext.same sm
    have r2 := r'.same sm
    have sd : SR X.K (dx.and p) (L2.wipe σ (own.map (·.2))) H2 (wipeD δ (own.map (·.2))) S' :=
      ⟨(s0.wipe _).len, fun j c hc => let ⟨u, a, b⟩ := (s0.wipe (own.map (·.2))).ix j c hc; ⟨u, a, b.ext (x'.trans xs2)⟩⟩
    refine (hg (dx.and p).M0 X.s_0 X.H_0 0 [] []).go v d _ H2 _ S' _ _ r2 sd dd q' fun σ3 δ3 s3 l3 o3 q3 => ⟨wipe_wipe l3 sub o3, ?_⟩
    refine (ht (dx.and p).M0 X.s_0 X.H_0 0 [] []).go σ3 H2 δ3 S' _ _ r2 s3 q3 fun b H3 S3 r3 x3 q4 => ?_
    have ep3 : H3 p = some (.lst vs) := x3.keep p _ (np r2) (sm p _ ep)
    have xt3 := (x'.trans xs2).trans x3
    have al3 := al.ext (xs2.trans x3)
    cases b with
    | false =>
      rw [if_neg Bool.false_ne_true] at q4 ⊢
      exact ⟨S3, acc, vs, r3, xt3, ep3, al3, q4⟩
    | true =>
      rw [if_pos rfl] at q4 ⊢
      have s3' := s3.ext x3
      refine (hi1 (dx.and p).M0 X.s_0 X.H_0 0 [] []).go σ3 H3 δ3 S3 _ _ r3 s3' q4 fun J1 H4 ys S4 r4 x4 wk1 q5 => ?_
      obtain ⟨G1, Y1, wl1, all1⟩ := wk1
      have s4 := s3'.ext x4
      have ep4 : H4 p = some (.lst vs) := x4.keep p _ (np r3) ep3
      have xt4 := xt3.trans x4
      let R := lc2Go f ft fi1 f1 ft1 fa (own.map (·.2)) vs1 δ Q (xs.drop (i + 1))
      let Pv : (List D → Sto → Prop) → Hp → Prop := fun R' H' => ∃ S'' acc vs, HR X.K (dx.and p) H' S'' ∧ Ext (Mu dx S0) H0 (Mu (dx.and p) S'') H' ∧ ExtD (Mu (dx.and p) S4) H4 (Mu (dx.and p) S'') H' ∧ H' p = some (.lst vs) ∧ DtAll X.K (Mu (dx.and p) S'') H' vs acc ∧ R' acc S''
      refine ⟨fun j m H' => m = ys.length - j ∧ j ≤ ys.length ∧ Pv (lc2In f1 ft1 fa vs1 δ3 R (ys.drop j)) H', ⟨ys.length, by simp, Nat.zero_le _, S4, acc, vs, r4, xt4, ExtD.refl, ep4, al3.ext x4, q5⟩, ?_⟩
      rintro j m H5 ⟨rfl, hj, S5, acc5, vs5, r5, xt5, xd5, ep5, al5, q6⟩
      have gs1 := (all1 _ H5 r5.mu_live xd5)
      by_cases hlt1 : j < ys.length
      · refine .inr ⟨wl1.goes j H5 hlt1 gs1.1, Pv (lc2In f1 ft1 fa vs1 δ3 R (ys.drop (j + 1))), fun H' w' => ⟨ys.length - (j + 1), by omega, rfl, hlt1, w'⟩, fun v1 H6 y1 => ?_⟩
        obtain ⟨sm1, d1, ed1, dd1⟩ := gs1.2 j v1 H6 hlt1 (wl1.yields j H5 v1 H6 hlt1 gs1.1 y1)
        have e2 : ys.drop j = d1 :: ys.drop (j + 1) := by
          rw [List.drop_eq_getElem_cons hlt1]
          have := List.getElem?_eq_getElem hlt1
          rw [this] at ed1
          cases ed1
          rfl
        rw [e2] at q6
        have xs6 : Ext (Mu (dx.and p) S5) H5 (Mu (dx.and p) S5) H6 := Ext.same sm1
        have r6 := r5.same sm1
        have s6 : SR X.K (dx.and p) (L2.wipe σ3 vs1) H6 (wipeD δ3 vs1) S5 := (s4.extD (xd5.trans xs6.d)).wipe vs1
        refine (hg1 (dx.and p).M0 X.s_0 X.H_0 0 [] []).go v1 d1 _ H6 _ S5 _ _ r6 s6 dd1 q6 fun σ7 δ7 s7 l7 o7 q7 => ⟨wipe_wipe l7 sub1 o7, ?_⟩
        refine (ht1 (dx.and p).M0 X.s_0 X.H_0 0 [] []).go σ7 H6 δ7 S5 _ _ r6 s7 q7 fun b H7 S7 r7 x7 q8 => ?_
        have ep7 : H7 p = some (.lst vs5) := x7.keep p _ (np r6) (sm1 p _ ep5)
        have xt7 := (xt5.trans xs6).trans x7
        have xd7 := (xd5.trans xs6.d).trans x7.d
        have al7 := al5.ext (xs6.trans x7)
        cases b with
        | false =>
          rw [if_neg Bool.false_ne_true] at q8 ⊢
          exact ⟨S7, acc5, vs5, r7, xt7, xd7, ep7, al7, q8⟩
        | true =>
          rw [if_pos rfl] at q8 ⊢
          refine (he (dx.and p).M0 X.s_0 X.H_0 0 [] []).go σ7 H7 δ7 S7 _ _ r7 (s7.ext x7) q8 fun y H8 c S8 r8 x8 d8 q9 => ?_
          have ep8 : H8 p = some (.lst vs5) := x8.keep p _ (np r7) ep7
          have al8 := (al7.ext x8).append (.cons d8 .nil)
          refine ⟨vs5, ep8, ?_, S8, acc5 ++ [c], vs5 ++ [y], r8.and_put h0 hp _, ext_put (xt7.trans x8) n, (xd7.trans x8.d).trans extD_put, upd_same, al8.extD extD_put, q9.2⟩
          have := q9.1.line
          rw [al7.length]
          omega
      · have e : j = ys.length := by omega
        subst e
        rw [List.drop_length] at q6
        exact .inl ⟨wl1.stops H5 gs1.1, S5, acc5, vs5, r5, xt5, ep5, al5, q6⟩
  · have e : i = xs.length := by omega
    subst e
    rw [List.drop_length] at q'
    refine .inl ⟨wl.stops H1 gs.1, ?_⟩
    have r2 := r'.unand hp
    refine k (.ref p) H1 _ S' r2 (x0.trans (x'.trans ext_back)) (.lst ?_ ep (al.ext ext_back)) q'
    rintro (z | z | z)
    · exact r0.live p z n
    · exact hp z
    · exact (r'.own p z).2 (.inr rfl)
theorem de_lc2 (hc : X.calm = true) (hN : X.N.Nodup) (hi : DI X dx tg iter wi fi) (ok : BlkOk X.N X.env.scope scope own) (hv : ∀ i ∈ vs1, i ∈ own.map (·.2)) (sub : ∀ j ∈ o, j ∈ own.map (·.2)) (sub1 : ∀ j ∈ o1, j ∈ vs1)
    (hg : ∀ (m : Addr → Prop) (s : Shared) (H : Hp) (C : Addr) (cl : List (Str × Addr)) (fp : List Addr), DG (Blk X scope s H C cl fp) { dx with M0 := m } tg g f o)
    (ht : ∀ (m : Addr → Prop) (s : Shared) (H : Hp) (C : Addr) (cl : List (Str × Addr)) (fp : List Addr), DTs (Blk X scope s H C cl fp) { dx with M0 := m } ifs tt ft)
    (hi1 : ∀ (m : Addr → Prop) (s : Shared) (H : Hp) (C : Addr) (cl : List (Str × Addr)) (fp : List Addr), DI (Blk X scope s H C cl fp) { dx with M0 := m } tg1 iter1 wi1 fi1)
    (hg1 : ∀ (m : Addr → Prop) (s : Shared) (H : Hp) (C : Addr) (cl : List (Str × Addr)) (fp : List Addr), DG (Blk X scope s H C cl fp) { dx with M0 := m } tg1 g1 f1 o1)
    (ht1 : ∀ (m : Addr → Prop) (s : Shared) (H : Hp) (C : Addr) (cl : List (Str × Addr)) (fp : List Addr), DTs (Blk X scope s H C cl fp) { dx with M0 := m } ifs1 tt1 ft1)
    (he : ∀ (m : Addr → Prop) (s : Shared) (H : Hp) (C : Addr) (cl : List (Str × Addr)) (fp : List Addr), DE (Blk X scope s H C cl fp) { dx with M0 := m } elt te fa)
    (hs : ∀ x, foldedSetIterable iter X.env x = pure x := by intro _; rfl) (hs1 : ∀ env x, foldedSetIterable iter1 env x = pure x := by intro _ _; rfl) :
    DE X dx (.ListComp elt [⟨tg, iter, ifs, 0⟩, ⟨tg1, iter1, ifs1, 0⟩] scope pos) (tLc2 wi g tt wi1 g1 tt1 te (own.map (·.2)) vs1) (dLc2 fi f ft fi1 f1 ft1 fa (own.map (·.2)) vs1) :=
  ⟨pe_lc2 hc hN hi.pe ok hv (fun s H C cl fp => (hg dx.M0 s H C cl fp).pe) (fun s H C cl fp => (ht dx.M0 s H C cl fp).pe) (fun s H C cl fp => (hi1 dx.M0 s H C cl fp).pe) (fun s H C cl fp => (hg1 dx.M0 s H C cl fp).pe) (fun s H C cl fp => (ht1 dx.M0 s H C cl fp).pe) (fun s H C cl fp => (he dx.M0 s H C cl fp).pe) hs hs1, lc2_go hi sub sub1 hg ht hi1 hg1 ht1 he⟩
theorem ds_setLc2 {i : Nat} {y : Str} {py spos : Pos} (hc : X.calm = true) (hN : X.N.Nodup) (hy : X.N[i]? = some y) (hyl : X.env.scope.names.lookup y = some .local)
    (hsw : swapsWith (.ListComp elt [⟨tg, iter, ifs, 0⟩, ⟨tg1, iter1, ifs1, 0⟩] scope pos) (some (.Name y py)) spos.line X.env = pure true) (hi : DI X dx tg iter wi fi) (ok : BlkOk X.N X.env.scope scope own) (hv : ∀ i ∈ vs1, i ∈ own.map (·.2)) (sub : ∀ j ∈ o, j ∈ own.map (·.2)) (sub1 : ∀ j ∈ o1, j ∈ vs1)
    (hg : ∀ (m : Addr → Prop) (s : Shared) (H : Hp) (C : Addr) (cl : List (Str × Addr)) (fp : List Addr), DG (Blk X scope s H C cl fp) { dx with M0 := m } tg g f o)
    (ht : ∀ (m : Addr → Prop) (s : Shared) (H : Hp) (C : Addr) (cl : List (Str × Addr)) (fp : List Addr), DTs (Blk X scope s H C cl fp) { dx with M0 := m } ifs tt ft)
    (hi1 : ∀ (m : Addr → Prop) (s : Shared) (H : Hp) (C : Addr) (cl : List (Str × Addr)) (fp : List Addr), DI (Blk X scope s H C cl fp) { dx with M0 := m } tg1 iter1 wi1 fi1)
    (hg1 : ∀ (m : Addr → Prop) (s : Shared) (H : Hp) (C : Addr) (cl : List (Str × Addr)) (fp : List Addr), DG (Blk X scope s H C cl fp) { dx with M0 := m } tg1 g1 f1 o1)
    (ht1 : ∀ (m : Addr → Prop) (s : Shared) (H : Hp) (C : Addr) (cl : List (Str × Addr)) (fp : List Addr), DTs (Blk X scope s H C cl fp) { dx with M0 := m } ifs1 tt1 ft1)
    (he : ∀ (m : Addr → Prop) (s : Shared) (H : Hp) (C : Addr) (cl : List (Str × Addr)) (fp : List Addr), DE (Blk X scope s H C cl fp) { dx with M0 := m } elt te fa)
    (hs : ∀ x, foldedSetIterable iter X.env x = pure x := by intro _; rfl) (hs1 : ∀ env x, foldedSetIterable iter1 env x = pure x := by intro _ _; rfl) :
    DS X dx (.Assign [.Name y py] (.ListComp elt [⟨tg, iter, ifs, 0⟩, ⟨tg1, iter1, ifs1, 0⟩] scope pos) spos) (tAsg (tLc2 wi g tt wi1 g1 tt1 te (own.map (·.2)) vs1) (gName i)) (dSet i (dLc2 fi f ft fi1 f1 ft1 fa (own.map (·.2)) vs1)) :=
  ⟨ps_setLc2 hc hN hy hyl hsw hi.pe ok hv (fun s H C cl fp => (hg dx.M0 s H C cl fp).pe) (fun s H C cl fp => (ht dx.M0 s H C cl fp).pe) (fun s H C cl fp => (hi1 dx.M0 s H C cl fp).pe) (fun s H C cl fp => (hg1 dx.M0 s H C cl fp).pe) (fun s H C cl fp => (ht1 dx.M0 s H C cl fp).pe) (fun s H C cl fp => (he dx.M0 s H C cl fp).pe) hs hs1, set_go (lc2_go hi sub sub1 hg ht hi1 hg1 ht1 he)⟩
end
end DL
/-! Readings over data: calls, a def by its body, operators. -/
namespace DL
open PySem PySem.Spec L2 Gd

/-! ### what a def promises, by data -/
abbrev DSpec := List D → (D → Prop) → Prop
def spD (K : PySem.W.Frag) (hand : Addr → Prop) (J : Hp → Prop) (spec : DSpec) : Sp := fun vs H Q _ => ∃ (m : Addr → Prop) (ds : List D) (post : D → Prop),
  (∀ b, m b → H b ≠ none) ∧ (∀ b, hand b → m b) ∧ (∀ H1 H2 : Hp, (∀ b, hand b → H2 b = H1 b) → J H1 → J H2) ∧ J H ∧ DtAll K (Fo m) H vs ds ∧ spec ds post ∧
  ∀ v H' d, (∀ b o, H b = some o → ¬ hand b → H' b = some o) → (∀ b, m b → H' b ≠ none) → J H' → Dt K (Fo m) H' v d → post d → Q v H'
def noHand : Addr → Prop := fun _ => False
def noJ : Hp → Prop := fun _ => True
abbrev spP (K : PySem.W.Frag) (spec : DSpec) : Sp := spD K noHand noJ spec
def startD (N : List Str) (ds : List D) : Sl := ds.map some ++ List.replicate (N.length - ds.length) none
theorem start_sr {K : PySem.W.Frag} {dx : Dx} {H : Hp} {S : Sto} {N : List Str} {vs : List V} {ds : List D} (a : DtAll K (Mu dx S) H vs ds) : SR K dx (L2.start N vs) H (startD N ds) S := by
  have l := a.length
  unfold L2.start startD
  refine ⟨by simp [l], fun i d h => ?_⟩
  by_cases hi : i < ds.length
  · rw [List.getElem?_append_left (by simpa using hi), List.getElem?_map] at h
    rw [List.getElem?_append_left (by simpa [l] using hi), List.getElem?_map]
    cases e : ds[i]? with
    | none => rw [e] at h; cases h
    | some c =>
      rw [e] at h
      have h : some c = some d := by simpa using h
      cases h
      obtain ⟨v, e1, d1⟩ := a.get e
      exact ⟨v, by rw [e1]; rfl, d1⟩
  · rw [List.getElem?_append_right (by simpa using Nat.le_of_not_lt hi), List.getElem?_replicate] at h
    split at h <;> cases h
section
variable {P : Program} {w : World} {K : PySem.W.Frag} {mg : Str → Option Value} {base : Heap}
abbrev Body (P : Program) (w : World) (K : PySem.W.Frag) (mg : Str → Option Value) (base : Heap) (N : List Str) (qual : Str) (st : Stmt) (f : Addr) (cdv : Value) (A : Around) (fr : List Env) (s : Shared) (H : Hp) (E : XK) : Cx :=
  (cxOf CX0 P w K mg base N qual (defScope st) f cdv A fr s H E).nox
/-- THE RULE for a def: its body as a term of rules over data -/
theorem fnD {k : Nat} {x qual : Str} {st : Stmt} {f : Addr} {fd : FuncData} {N ps : List Str} {hand : Addr → Prop} {J : Hp → Prop} {spec : DSpec}
    (F : Fun K x qual st f fd) (S : FnScope N ps (defScope st)) (len : ∀ ds post, spec ds post → ds.length = ps.length)
    (body : ∀ (cdv : Value) (A : Around) (fr : List Env) (s : Shared) (H : Hp) (E : XK), Room k (A.deeper (PyProof.Rows.envOfC qual (defScope st) s.heap.objs.size f cdv)) → A.guards = some [] →
      ∀ dx : Dx, dx.hand = hand → dx.J = J → ∃ ts t, DSs (Body P w K mg base N qual st f cdv A fr s H E) dx (defBody st) ts t ∧
        ∀ ds post, spec ds post → t { nx := fun _ _ => post .non, rt := fun d _ => post d } (startD N ds) []) :
    FnG P w K mg base CX0 (k + 1) f fd ps (spD K hand J spec) := by
  refine fnG_body F S ?_ ?_
  · rintro vs H Q E ⟨m, ds, post, _, _, _, _, a, sp, _⟩
    rw [a.length]
    exact len ds post sp
  · rintro cdv A fr s H vs Q E room guard ⟨m, ds, post, live, hm, stab, j, a, sp, k'⟩
    obtain ⟨ts, t, h, q⟩ := body cdv A fr s H E room guard ⟨m, H, hand, J⟩ rfl rfl
    refine ⟨ts, h.pe.nox, ?_⟩
    have le : ExtD (Fo m) H (Mu ⟨m, H, hand, J⟩ []) H := by
      refine ⟨fun _ _ _ e => e, fun b z n => ?_⟩
      rcases z with z | z | z
      · exact absurd (.inl z) n
      · exact absurd (.inl (hm b z)) n
      · cases z
    have r : HR K ⟨m, H, hand, J⟩ H [] := ⟨fun p xs z => (nomatch z), List.nodup_nil, live, fun p z => (nomatch z), fun b o e _ => e, j, stab, hm⟩
    refine h.go _ H (startD N ds) [] { nx := fun _ _ => post .non, rt := fun d _ => post d } _ r (start_sr (a.extD le)) (q ds post sp) ⟨?_, ?_, ?_, ?_⟩
    · intro σ' H' δ' S' r' x' s' p'
      exact k' .non H' .non r'.keep r'.live r'.j .non p'
    · intro σ' H' δ' S' r' x' s' p'
      exact p'.elim
    · intro σ' H' δ' S' r' x' s' p'
      exact p'.elim
    · intro v H' d S' r' x' hd p'
      exact k' v H' d r'.keep r'.live r'.j hd p'
end

/-! ### calls of defs of one's own -/
section
variable {X : Cx} {dx : Dx} {k : Nat} {f : Addr} {fd : FuncData} {ps ks : List Str} {x : Str} {p pos : Pos} {e : Expr} {es : List Expr} {kws : List Keyword} {ta tk : TA} {fa fk : DTA} {spec : DSpec}
def dCall (spec : DSpec) (fa : DTA) : DTE := fun δ S Q => fa δ S fun ds S1 => spec ds fun d => Q d S1
theorem spd_go {K : PySem.W.Frag} {hand : Addr → Prop} {J : Hp → Prop} {H : Hp} {S : Sto} {vs : List V} {ds : List D} {Q : D → Sto → Prop} {Qh : VK} {E : XK} (r : HR K dx H S) (a : DtAll K (Mu dx S) H vs ds)
    (h : (hand = noHand ∧ J = noJ) ∨ (hand = dx.hand ∧ J = dx.J)) (t : spec ds fun d => Q d S) (kk : ThE K dx H S Q Qh) : spD K hand J spec vs H Qh E := by
  have le : Ext (Mu dx S) H (Fo (Mu dx S).mu) H := Ext.less (fun b z => z.elim id False.elim) (fun b z => z.elim)
  have ge : ∀ H' : Hp, ExtD (Fo (Mu dx S).mu) H' (Mu dx S) H' := fun H' => ⟨fun _ _ _ e => e, fun b z n => absurd (.inl z) n⟩
  rcases h with ⟨rfl, rfl⟩ | ⟨rfl, rfl⟩
  · refine ⟨(Mu dx S).mu, ds, _, r.mu_live, fun b z => z.elim, fun _ _ _ _ => trivial, trivial, a.ext le, t, fun v H' d kp lv j hd q => ?_⟩
    have sm : Same H H' := fun b o e => kp b o e fun z => z
    exact kk v H' d S (r.same sm) (Ext.same sm) (hd.extD (ge H')) q
  · refine ⟨(Mu dx S).mu, ds, _, r.mu_live, fun b z => .inr (.inl z), r.stab, r.j, a.ext le, t, fun v H' d kp lv j hd q => ?_⟩
    have xx : Ext (Mu dx S) H (Mu dx S) H' := ⟨fun b o n e => kp b o e fun z => n (.inl z), fun b m n => absurd m n, fun b m n => absurd m n⟩
    refine kk v H' d S ⟨fun q xs m => ?_, r.nd, fun b m => lv b (.inl m), r.own, fun b o e n => kp b o (r.keep b o e n) n, j, r.stab, r.hm⟩ xx (hd.extD (ge H')) q
    obtain ⟨ws, e, al⟩ := r.sto q xs m
    have nh : ¬ dx.hand q := fun z => (r.own q (List.mem_map.mpr ⟨_, m, rfl⟩)).2 (r.hm q z)
    exact ⟨ws, kp q _ e nh, al.ext xx⟩
/-- f(a, ..) -/
theorem de_call {hand : Addr → Prop} {J : Hp → Prop} (F : FnG X.prog X.w X.K X.mg X.base CX0 k f fd ps (spD X.K hand J spec)) (room : Room k X.A) (guard : X.A.guards = some [])
    (hg : Gl X x) (hm : X.mg x = some (.ref f)) (kp : PySem.W.keepIn X.K (.ref f) = true) (hb : Binds X.K fd ps []) (hh : (hand = noHand ∧ J = noJ) ∨ (hand = dx.hand ∧ J = dx.J)) (ha : DA X dx (e :: es) ta fa)
    (hdb : (x == ("__debug__" : Str)) = false := by decide)
    (he : starEach (e :: es) X.env = (false, eval e X.env) :: starEach es X.env := by rfl)
    (hpl : (backTo pos (starEach es X.env)).any (·.1) = false := by rfl) :
    DE X dx (.Call (.Name x p) (e :: es) [] pos) (tCall (spD X.K hand J spec) [] (fun _ _ _ => False) ta) (dCall spec fa) := by
  refine ⟨pe_callG F room guard hg hm kp hb .nil pass0 ha.pe hdb he hpl, fun σ H δ S Q Qh r s t kk => ?_⟩
  refine ha.go σ H δ S _ _ r s t fun vs H1 ds S1 r1 x1 d1 t1 => ?_
  rw [List.append_nil]
  exact spd_go r1 d1 hh t1 (kk.on x1)
theorem de_call0 {hand : Addr → Prop} {J : Hp → Prop} (F : FnG X.prog X.w X.K X.mg X.base CX0 k f fd ps (spD X.K hand J spec)) (room : Room k X.A) (guard : X.A.guards = some [])
    (hg : Gl X x) (hm : X.mg x = some (.ref f)) (kp : PySem.W.keepIn X.K (.ref f) = true) (hb : Binds X.K fd ps []) (hh : (hand = noHand ∧ J = noJ) ∨ (hand = dx.hand ∧ J = dx.J))
    (hdb : (x == ("__debug__" : Str)) = false := by decide) :
    DE X dx (.Call (.Name x p) [] [] pos) (tCall (spD X.K hand J spec) [] (fun _ _ _ => False) tNil) (dCall spec dNil) := by
  refine ⟨pe_callG0 F room guard hg hm kp hb .nil pass0 hdb, fun σ H δ S Q Qh r s t kk => ?_⟩
  exact spd_go (vs := [] ++ []) (E := fun _ _ _ => False) r .nil hh t kk
/-- the values of keywords put into the parameters' order -/
structure KOrd (gV : List V → List V → List V) (gD : List D → List D → List D) : Prop where
  all : ∀ {K : PySem.W.Frag} {M : Mm} {H : Hp} {vs ws : List V} {ds es : List D}, DtAll K M H vs ds → DtAll K M H ws es → DtAll K M H (gV vs ws) (gD ds es)
def dCallK (spec : DSpec) (gD : List D → List D → List D) (fa fk : DTA) : DTE := fun δ S Q => fa δ S fun ds S1 => fk δ S1 fun es S2 => spec (gD ds es) fun d => Q d S2
variable {g : List Value → List Value → List Value} {gV : List V → List V → List V} {gD : List D → List D → List D}
/-- f(a, .., n = b, ..) -/
theorem de_callK {hand : Addr → Prop} {J : Hp → Prop} (F : FnG X.prog X.w X.K X.mg X.base CX0 k f fd ps (spD X.K hand J spec)) (room : Room k X.A) (guard : X.A.guards = some [])
    (hg : Gl X x) (hm : X.mg x = some (.ref f)) (kp : PySem.W.keepIn X.K (.ref f) = true) (hb : KBinds X.K fd ps ks g gV) (ho : KOrd gV gD) (hh : (hand = noHand ∧ J = noJ) ∨ (hand = dx.hand ∧ J = dx.J)) (ha : DA X dx (e :: es) ta fa) (hk : DK X dx kws tk fk)
    (hall : (backToKw pos (keywordEach kws X.env)).all (·.1.isSome) = true := by rfl)
    (hks : (backToKw pos (keywordEach kws X.env)).filterMap (·.1) = ks := by rfl)
    (hdb : (x == ("__debug__" : Str)) = false := by decide)
    (he : starEach (e :: es) X.env = (false, eval e X.env) :: starEach es X.env := by rfl)
    (hpl : ((backTo pos (starEach (e :: es) X.env)).any (·.1) || (backToKw pos (keywordEach kws X.env)).any (·.1.isNone)) = false := by rfl) :
    DE X dx (.Call (.Name x p) (e :: es) kws pos) (tCallK (spD X.K hand J spec) gV (fun _ _ _ => False) ta tk) (dCallK spec gD fa fk) := by
  refine ⟨pe_callGK F room guard hg hm kp hb pass0 ha.pe hk.pe hall hks hdb he hpl, fun σ H δ S Q Qh r s t kk => ?_⟩
  refine ha.go σ H δ S _ _ r s t fun vs H1 ds S1 r1 x1 d1 t1 => ?_
  refine hk.go σ H1 δ S1 _ _ r1 (s.ext x1) t1 fun ws H2 es S2 r2 x2 d2 t2 => ?_
  exact spd_go r2 (ho.all (d1.ext x2) d2) hh t2 (kk.on (x1.trans x2))
/-- f(n = b, ..) -/
theorem de_callK0 {hand : Addr → Prop} {J : Hp → Prop} (F : FnG X.prog X.w X.K X.mg X.base CX0 k f fd ps (spD X.K hand J spec)) (room : Room k X.A) (guard : X.A.guards = some [])
    (hg : Gl X x) (hm : X.mg x = some (.ref f)) (kp : PySem.W.keepIn X.K (.ref f) = true) (hb : KBinds X.K fd ps ks g gV) (ho : KOrd gV gD) (hh : (hand = noHand ∧ J = noJ) ∨ (hand = dx.hand ∧ J = dx.J)) (hk : DK X dx kws tk fk)
    (hall : (backToKw pos (keywordEach kws X.env)).all (·.1.isSome) = true := by rfl)
    (hks : (backToKw pos (keywordEach kws X.env)).filterMap (·.1) = ks := by rfl)
    (hdb : (x == ("__debug__" : Str)) = false := by decide)
    (hpl : ((backTo pos (starEach [] X.env)).any (·.1) || (backToKw pos (keywordEach kws X.env)).any (·.1.isNone)) = false := by rfl) :
    DE X dx (.Call (.Name x p) [] kws pos) (tCallK (spD X.K hand J spec) gV (fun _ _ _ => False) tNil tk) (dCallK spec gD dNil fk) := by
  refine ⟨pe_callGK0 F room guard hg hm kp hb pass0 hk.pe hall hks hdb hpl, fun σ H δ S Q Qh r s t kk => ?_⟩
  refine hk.go σ H δ S _ _ r s t fun ws H2 es S2 r2 x2 d2 t2 => ?_
  exact spd_go r2 (ho.all .nil d2) hh t2 (kk.on x2)

/-! ### built-ins -/
def CallD (K : PySem.W.Frag) (dx : Dx) (r : List V → Hp → VK → Prop) (f : List D → Sto → (D → Sto → Prop) → Prop) : Prop :=
  ∀ vs ds H S Q Qh, HR K dx H S → DtAll K (Mu dx S) H vs ds → f ds S Q → ThE K dx H S Q Qh → r vs H Qh
def dCB (f : List D → Sto → (D → Sto → Prop) → Prop) (fa : DTA) : DTE := fun δ S Q => fa δ S fun ds S1 => f ds S1 Q
theorem cb_go {r : List V → Hp → VK → Prop} {f} (o : CallD X.K dx r f) (ha : DA X dx es ta fa) :
    ∀ σ H δ S Q Qh, HR X.K dx H S → SR X.K dx σ H δ S → dCB f fa δ S Q → ThE X.K dx H S Q Qh → tCB r ta σ H Qh :=
  fun σ H δ S Q Qh r0 s0 t kk => ha.go σ H δ S _ _ r0 s0 t fun vs H1 ds S1 r1 x1 d1 t1 => o vs ds H1 S1 Q Qh r1 d1 t1 (kk.on x1)
theorem de_callB {id : String} {r : List V → Hp → VK → Prop} {f} (hc : CallR X (.builtin id) r) (o : CallD X.K dx r f) (hg : Gl X x) (hm : X.mg x = none) (hv : bootBuiltins x = some (.builtin id)) (ha : DA X dx (e :: es) ta fa)
    (h : PE X (.Call (.Name x p) (e :: es) [] pos) (tCB r ta) := by exact pe_callB (by assumption) (by assumption) (by assumption) (by assumption) (DA.pe (by assumption))) :
    DE X dx (.Call (.Name x p) (e :: es) [] pos) (tCB r ta) (dCB f fa) := ⟨h, cb_go o ha⟩
theorem de_callTy {id : String} {r : List V → Hp → VK → Prop} {f} (hc : CallR X (.type id) r) (o : CallD X.K dx r f) (hg : Gl X x) (hm : X.mg x = none) (hv : bootBuiltins x = some (.type id)) (ha : DA X dx (e :: es) ta fa)
    (h : PE X (.Call (.Name x p) (e :: es) [] pos) (tCB r ta) := by exact pe_callTy (by assumption) (by assumption) (by assumption) (by assumption) (DA.pe (by assumption))) :
    DE X dx (.Call (.Name x p) (e :: es) [] pos) (tCB r ta) (dCB f fa) := ⟨h, cb_go o ha⟩
end
end DL
/-! Readings over data: operators. -/
namespace DL
open PySem PySem.Spec L2 Gd

theorem tm_one (l : Addr) (items : Array Value) (n : Nat) (dd : Option Addr) (sl : Array (Option Value)) (u : Tok) :
    Meets (Builtin.«tuple.__mul__» ⟨[.ref l, .int 1 u], []⟩) (fun _ R s => s.heap.get? l = some { cls := .type "tuple", dict := dd, data := .seq items n, slots := sl } ∧
      R (.ok (.ret (Value.ref l))) s) :=
  .of_wp fun prog w A R s h => by
    obtain ⟨hp, g, d, tk, os⟩ := s
    obtain ⟨hl, h⟩ := h
    have f1 := AutoSeq1.idx_int
    wp_walk using wpAny_loadPart' hl
    exact ⟨_, rfl, h⟩
theorem tm_zero (l : Addr) (items : Array Value) (n : Nat) (dd : Option Addr) (sl : Array (Option Value)) (u : Tok) (he : items.isEmpty = false) :
    Meets (Builtin.«tuple.__mul__» ⟨[.ref l, .int 0 u], []⟩) (fun _ R s => s.heap.get? l = some { cls := .type "tuple", dict := dd, data := .seq items n, slots := sl } ∧
      R (.ok (.ret (Value.ref s.heap.objs.size))) { s with heap := s.heap.push { cls := Value.type "tuple", data := Data.seq #[] }, toks := s.toks }) :=
  .of_wp fun prog w A R s h => by
    obtain ⟨hp, g, d, tk, os⟩ := s
    obtain ⟨hl, h⟩ := h
    have f1 := AutoSeq1.idx_int
    have c1 : (items.isEmpty || (0 : Int) == 1) = false := by rw [he]; rfl
    wp_walk using wpAny_loadPart' hl
    repeat (first
      | (refine wpAny_ite_false (decide_eq_false (by rw [c1]; exact Bool.false_ne_true)) ?_; wp_walk using wpAny_loadPart' hl))
    exact ⟨_, rfl, h⟩
section
variable {X : Cx} {dx : Dx} {K : PySem.W.Frag}
/-- t * 0, t * 1 -/
def rRep01 (K : PySem.W.Frag) : R2 := fun x y H Q => ∃ l k xs, x = .ref l ∧ y = .int k ∧ SqT K H l xs ∧ xs ≠ [] ∧
  ((k = 1 ∧ Q (.ref l) H) ∨ (k = 0 ∧ ∀ p, H p = none → Q (.ref p) (upd H p (.tup []))))
theorem op_rep01 : OpR X (binaryOp .Mult) (rRep01 X.K) := by
  intro pins s σ H x y v u Q I rx ry h
  obtain ⟨l, k, xs, rfl, rfl, hT, hne, q⟩ := h
  cases rx
  obtain ⟨t, rfl⟩ := ry
  obtain ⟨its, r, ⟨⟨cls, dd, data, sl⟩, ho, hc, n, hd⟩, hs⟩ := I.tuple hT
  simp only at hc hd
  subst hc hd
  have hi : its.toArray.isEmpty = false := by
    cases r with
    | nil => exact absurd rfl hne
    | cons _ _ => rfl
  rcases q with ⟨rfl, q⟩ | ⟨rfl, q⟩
  · refine wpAny_binaryOp_repeat_ref (T := "tuple") (U := "int") (by decide) ⟨_, ho, rfl⟩ (fun s' => typeIs_int s' 1 t) noFill_tuple_mul F.fills_int_mul F.slot_int_rmul repeat_tuple F.slot_int_index.lookup
      (call_meets F.slot_int_rmul (typeIs_int s 1 t) F.entry_int_rmul (F.args_int_rmul_2 _ _) (int_rmul_tuple 1 t l its.toArray n dd sl)
        ⟨ho, rfl, ⟨_, ho, rfl⟩, call_meets F.slot_tuple_mul ⟨_, ho, rfl⟩ F.entry_tuple_mul (F.args_tuple_mul_2 _ _) (tm_one l its.toArray n dd sl t) ⟨ho, ?_⟩⟩)
    exact ⟨.ref l, H, I, rfl, q⟩
  · refine wpAny_binaryOp_repeat_ref (T := "tuple") (U := "int") (by decide) ⟨_, ho, rfl⟩ (fun s' => typeIs_int s' 0 t) noFill_tuple_mul F.fills_int_mul F.slot_int_rmul repeat_tuple F.slot_int_index.lookup
      (call_meets F.slot_int_rmul (typeIs_int s 0 t) F.entry_int_rmul (F.args_int_rmul_2 _ _) (int_rmul_tuple 0 t l its.toArray n dd sl)
        ⟨ho, rfl, ⟨_, ho, rfl⟩, call_meets F.slot_tuple_mul ⟨_, ho, rfl⟩ F.entry_tuple_mul (F.args_tuple_mul_2 _ _) (tm_zero l its.toArray n dd sl t hi) ⟨ho, ?_⟩⟩)
    refine ⟨.ref s.heap.objs.size, _, I.laid (t' := s.toks) (o := .tup []) (fun b ob e => Heap.get?_push_of_some _ e) (Nat.le_refl _) ?_, rfl, q _ (I.hok.fresh (Nat.le_refl _))⟩
    exact ⟨Nat.zero_le _, [], .nil, PyProof.Rows.IsTup.new _ _⟩

/-! ### + -/
/-- the items of a list -/
def asL (S : Sto) : D → Option (List D)
  | .lst ds => some ds
  | .adr p => getS S p
  | _ => none
theorem asL_at {H : Hp} {S : Sto} {x : V} {d : D} {ds : List D} (r : HR K dx H S) (h : Dt K (Mu dx S) H x d) (e : asL S d = some ds) : ∃ p vs, x = .ref p ∧ H p = some (.lst vs) ∧ DtAll K (Mu dx S) H vs ds := by
  cases h with
  | lst n h a =>
    have e : some _ = some ds := e
    cases e
    exact ⟨_, _, rfl, h, a⟩
  | adr p =>
    obtain ⟨_, vs, eh, al⟩ := r.get e
    exact ⟨p, vs, rfl, eh, al⟩
  | _ => cases e
def fAddL (p q : D) (S : Sto) (Q : D → Sto → Prop) : Prop := opt (asL S p) fun xs => opt (asL S q) fun ys => Fit (xs.length + ys.length) ∧ Q (.lst (xs ++ ys)) S
def fAdd : F2
  | .int i, .int j, S, Q => Q (.int (i + j)) S
  | .str x, .str y, S, Q => Fit (x.length + y.length) ∧ Q (.str (x ++ y)) S
  | .tup xs, .tup ys, S, Q => Fit (xs.length + ys.length) ∧ Q (.tup (xs ++ ys)) S
  | p, q, S, Q => fAddL p q S Q
def rAdd (K : PySem.W.Frag) : R2 := fun x y H Q => (∃ i j, x = .int i ∧ y = .int j ∧ Q (.int (i + j)) H) ∨ (∃ i j, x = .str i ∧ y = .str j ∧ i.length + j.length ≤ sizeLine ∧ Q (.str (i ++ j)) H) ∨ rCatA K x y H Q ∨ rCat x y H Q
theorem op_addAll : OpR X (binaryOp .Add) (DL.rAdd X.K) := op_add.or (op_add_str.or (op_catA.or op_cat))
theorem od_add : OpD K dx (DL.rAdd K) fAdd := by
  have lists : ∀ x y p q H S Q Qh, HR K dx H S → Dt K (Mu dx S) H x p → Dt K (Mu dx S) H y q → fAddL p q S Q → ThE K dx H S Q Qh → rCat x y H Qh := by
    intro x y p q H S Q Qh r hx hy t k
    obtain ⟨xs, e1, t⟩ := opt_run t
    obtain ⟨ys, e2, t⟩ := opt_run t
    obtain ⟨l, vs, rfl, h1, a1⟩ := asL_at r hx e1
    obtain ⟨b, ws, rfl, h2, a2⟩ := asL_at r hy e2
    refine ⟨l, b, vs, ws, rfl, rfl, h1, h2, by rw [a1.length, a2.length]; exact t.1.line, fun z n => ?_⟩
    obtain ⟨r2, x2, d2⟩ := new_lst r n (a1.append a2)
    exact k _ _ _ S r2 x2 d2 t.2
  have tups : ∀ x y xs ys H S Q Qh, HR K dx H S → Dt K (Mu dx S) H x (.tup xs) → Dt K (Mu dx S) H y (.tup ys) → Fit (xs.length + ys.length) ∧ Q (.tup (xs ++ ys)) S → ThE K dx H S Q Qh → rCatA K x y H Qh := by
    intro x y xs ys H S Q Qh r hx hy t k
    obtain ⟨a, vs, rfl, h1, a1⟩ := hx.sqT
    obtain ⟨b, ws, rfl, h2, a2⟩ := hy.sqT
    refine ⟨a, b, vs, ws, rfl, rfl, h1, h2, by rw [a1.length, a2.length]; exact t.1.line, fun e => ?_, fun _ e => ?_, fun _ _ z n => ?_⟩
    · subst e
      cases a1
      exact k _ H _ S r Ext.refl hy t.2
    · subst e
      cases a2
      have t2 := t.2
      rw [List.append_nil] at t2
      exact k _ H _ S r Ext.refl hx t2
    · obtain ⟨r2, x2, d2⟩ := new_tup r n (a1.append a2)
      exact k _ _ _ S r2 x2 d2 t.2
  intro x y p q H S Q Qh r hx hy t k
  cases p with
  | int i =>
    cases q with
    | int j =>
      cases hx
      cases hy
      exact .inl ⟨i, j, rfl, rfl, k _ H _ S r Ext.refl (.int _) t⟩
    | _ => exact .inr (.inr (.inr (lists _ _ _ _ H S Q Qh r hx hy t k)))
  | str i =>
    cases q with
    | str j =>
      cases hx
      cases hy
      exact .inr (.inl ⟨i, j, rfl, rfl, t.1.line, k _ H _ S r Ext.refl (.str _) t.2⟩)
    | _ => exact .inr (.inr (.inr (lists _ _ _ _ H S Q Qh r hx hy t k)))
  | tup xs =>
    cases q with
    | tup ys => exact .inr (.inr (.inl (tups _ _ _ _ H S Q Qh r hx hy t k)))
    | _ => exact .inr (.inr (.inr (lists _ _ _ _ H S Q Qh r hx hy t k)))
  | _ => cases q <;> exact .inr (.inr (.inr (lists _ _ _ _ H S Q Qh r hx hy t k)))

/-! ### numbers -/
def onI (C : Int → Int → Prop) (g : Int → Int → D) : F2
  | .int i, .int j, S, Q => C i j ∧ Q (g i j) S
  | _, _, _, _ => False
theorem od_onI {C : Int → Int → Prop} {g : Int → Int → Int} : OpD K dx (rI C fun i j => .int (g i j)) (onI C fun i j => .int (g i j)) := by
  intro x y p q H S Q Qh r hx hy t k
  cases hx with
  | int i =>
    cases hy with
    | int j => exact ⟨i, j, rfl, rfl, t.1, k _ H _ S r Ext.refl (.int _) t.2⟩
    | _ => exact t.elim
  | _ => cases hy <;> exact t.elim
def onI0 (g : Int → Int → D) : F2
  | .int i, .int j, S, Q => Q (g i j) S
  | _, _, _, _ => False
theorem od_onI0 {g : Int → Int → Int} : OpD K dx (rI0 fun i j => .int (g i j)) (onI0 fun i j => .int (g i j)) := by
  intro x y p q H S Q Qh r hx hy t k
  cases hx with
  | int i =>
    cases hy with
    | int j => exact ⟨i, j, rfl, rfl, k _ H _ S r Ext.refl (.int _) t⟩
    | _ => exact t.elim
  | _ => cases hy <;> exact t.elim
theorem od_onB {g : Int → Int → Bool} : OpD K dx (rI0 fun i j => .bl (g i j)) (onI0 fun i j => .bl (g i j)) := by
  intro x y p q H S Q Qh r hx hy t k
  cases hx with
  | int i =>
    cases hy with
    | int j => exact ⟨i, j, rfl, rfl, k _ H _ S r Ext.refl (.bl _) t⟩
    | _ => exact t.elim
  | _ => cases hy <;> exact t.elim
def fSub : F2 := onI0 fun i j => .int (i - j)
def fLt : F2 := onI0 fun i j => .bl (decide (i < j))
def fLe : F2 := onI0 fun i j => .bl (decide (i ≤ j))
def fGt : F2 := onI0 fun i j => .bl (decide (j < i))
def fGe : F2 := onI0 fun i j => .bl (decide (j ≤ i))
def MOk (i j : Int) : Prop := CMul i j ∨ CMulW i j
/-- a product of which one side is small -/
theorem MOk.left {i j : Int} (h : -(2 ^ 64) < i ∧ i < 2 ^ 64) : MOk i j := .inl (.inl h)
theorem MOk.right {i j : Int} (h : -(2 ^ 64) < j ∧ j < 2 ^ 64) : MOk i j := .inl (.inr h)
def fMul : F2
  | .int i, .int j, S, Q => MOk i j ∧ Q (.int (i * j)) S
  | .tup ds, .int k, S, Q => ds ≠ [] ∧ 0 ≤ k ∧ k ≤ 1000 ∧ ds.length ≤ 1000 ∧ Q (.tup (List.replicate k.toNat ds).flatten) S
  | .lst ds, .int k, S, Q => -(2 ^ 63) ≤ k ∧ k < 2 ^ 63 ∧ Fit (ds.length * k.toNat) ∧ Q (.lst (List.replicate k.toNat ds).flatten) S
  | _, _, _, _ => False
def rMul (K : PySem.W.Frag) : R2 := fun x y H Q => rI CMul (fun i j => .int (i * j)) x y H Q ∨ rI CMulW (fun i j => .int (i * j)) x y H Q ∨ rRep01 K x y H Q ∨ rRepT K x y H Q ∨ rRep x y H Q
theorem op_mulAll : OpR X (binaryOp .Mult) (rMul X.K) := op_mul.or (op_mulW.or (op_rep01.or (op_repT.or op_rep)))
theorem od_mul : OpD K dx (rMul K) fMul := by
  intro x y p q H S Q Qh r hx hy t k
  cases hy with
  | int j =>
    cases p with
    | int i =>
      cases hx
      rcases t with ⟨t | t, q⟩
      · exact .inl ⟨i, j, rfl, rfl, t, k _ H _ S r Ext.refl (.int _) q⟩
      · exact .inr (.inl ⟨i, j, rfl, rfl, t, k _ H _ S r Ext.refl (.int _) q⟩)
    | tup ds =>
      obtain ⟨ne, h0, h1, h2, q⟩ := t
      obtain ⟨a, vs, rfl, hT, al⟩ := hx.sqT
      have nv : vs ≠ [] := fun e => ne (by subst e; cases al; rfl)
      by_cases c0 : j = 0
      · subst c0
        refine .inr (.inr (.inl ⟨a, 0, vs, rfl, rfl, hT, nv, .inr ⟨rfl, fun z n => ?_⟩⟩))
        obtain ⟨r2, x2, d2⟩ := new_tup (ds := []) r n .nil
        exact k _ _ _ S r2 x2 d2 q
      · by_cases c1 : j = 1
        · subst c1
          have q : Q (.tup (List.replicate 1 ds).flatten) S := q
          rw [List.replicate_one, List.flatten_singleton] at q
          exact .inr (.inr (.inl ⟨a, 1, vs, rfl, rfl, hT, nv, .inl ⟨rfl, k _ H _ S r Ext.refl hx q⟩⟩))
        · refine .inr (.inr (.inr (.inl ⟨a, j, vs, rfl, rfl, hT, nv, by omega, h1, by rw [al.length]; exact h2, fun z n => ?_⟩)))
          obtain ⟨r2, x2, d2⟩ := new_tup r n (al.rep j.toNat)
          exact k _ _ _ S r2 x2 d2 q
    | lst ds =>
      obtain ⟨h0, h1, h2, q⟩ := t
      obtain ⟨a, vs, rfl, _, hl, al⟩ := hx.sqL
      refine .inr (.inr (.inr (.inr ⟨a, j, vs, rfl, rfl, hl, h0, h1, by rw [al.length]; exact h2.line, fun z n => ?_⟩)))
      obtain ⟨r2, x2, d2⟩ := new_lst r n (al.rep j.toNat)
      exact k _ _ _ S r2 x2 d2 q
    | _ => exact t.elim
  | _ => cases hx <;> exact t.elim
def fMod : F2 := onI (fun _ j => 0 < j) fun i j => .int (i % j)
def fDiv : F2 := onI CDivW fun i j => .int (i / j)
def fPow : F2 := onI CPow fun i j => .int (i ^ j.toNat)
def fAnd : F2 := onI0 fun i j => .int (Builtin.bitAnd i j)
def fOr : F2 := onI0 fun i j => .int (Builtin.bitOr i j)
def fXor : F2 := onI0 fun i j => .int (Builtin.bitXor i j)
def fShl : F2 := onI CPow fun i j => .int (i * 2 ^ j.toNat)
theorem ip_addI : OpD K dx (ipI fun i j => i + j) (onI0 fun i j => .int (i + j)) := by
  intro x y p q H S Q Qh r hx hy t k
  cases hx with
  | int i =>
    cases hy with
    | int j => exact ⟨i, j, rfl, rfl, k _ H _ S r Ext.refl (.int _) t⟩
    | _ => exact t.elim
  | _ => cases hy <;> exact t.elim
theorem ip_subI : OpD K dx (ipI fun i j => i - j) (onI0 fun i j => .int (i - j)) := by
  intro x y p q H S Q Qh r hx hy t k
  cases hx with
  | int i =>
    cases hy with
    | int j => exact ⟨i, j, rfl, rfl, k _ H _ S r Ext.refl (.int _) t⟩
    | _ => exact t.elim
  | _ => cases hy <;> exact t.elim

/-! ### is None -/
def fIsN : F2
  | p, .non, S, Q => Q (.bl (match p with | .non => true | _ => false)) S
  | _, _, _, _ => False
def fNotN : F2
  | p, .non, S, Q => Q (.bl (match p with | .non => false | _ => true)) S
  | _, _, _, _ => False
theorem od_isN : OpD K dx (fun x y H Q => y = .non ∧ Q (.bl (decide (x = .non))) H) fIsN := by
  intro x y p q H S Q Qh r hx hy t k
  cases hy with
  | non =>
    refine ⟨rfl, ?_⟩
    cases hx <;> exact k _ H _ S r Ext.refl (.bl _) t
  | _ => cases p <;> exact t.elim
theorem od_notN : OpD K dx (fun x y H Q => y = .non ∧ Q (.bl (!decide (x = .non))) H) fNotN := by
  intro x y p q H S Q Qh r hx hy t k
  cases hy with
  | non =>
    refine ⟨rfl, ?_⟩
    cases hx <;> exact k _ H _ S r Ext.refl (.bl _) t
  | _ => cases p <;> exact t.elim
end
end DL
/-! Readings over data: ==, repr, built-ins. -/
namespace DL
open PySem PySem.Spec L2 Gd

mutual
def py : D → PyData
  | .non => .none
  | .bl b => .bool b
  | .int i => .int i
  | .str x => .str x
  | .tup ds => .tuple (pyAll ds)
  | .lst ds => .list (pyAll ds)
  | .fls ns => .list (ns.map .int)
  | .adr _ => .none
def pyAll : List D → List PyData
  | [] => []
  | d :: ds => py d :: pyAll ds
end
/-- data without addresses, at most n deep -/
def dn : Nat → D → Bool
  | _, .non => true
  | _, .bl _ => true
  | _, .int _ => true
  | _, .str x => PyData.strOk x
  | n + 1, .tup ds => ds.all (dn n)
  | n + 1, .lst ds => ds.all (dn n)
  | _, _ => false
/-- .. and without True and False -/
def nb : Nat → D → Bool
  | _, .non => true
  | _, .int _ => true
  | _, .str x => PyData.strOk x
  | n + 1, .tup ds => ds.all (nb n)
  | n + 1, .lst ds => ds.all (nb n)
  | _, _ => false
theorem nb_dn : ∀ {n : Nat} {d : D}, nb n d = true → dn n d = true
  | _, .non, _ => by cases ‹Nat› <;> rfl
  | _, .int _, _ => by cases ‹Nat› <;> rfl
  | 0, .str _, h => h
  | _ + 1, .str _, h => h
  | n + 1, .tup ds, h => List.all_eq_true.mpr fun x m => nb_dn (List.all_eq_true.mp h x m)
  | n + 1, .lst ds, h => List.all_eq_true.mpr fun x m => nb_dn (List.all_eq_true.mp h x m)
  | 0, .tup _, h => by cases h
  | 0, .lst _, h => by cases h
  | 0, .bl _, h => by cases h
  | _ + 1, .bl _, h => by cases h
  | 0, .adr _, h => by cases h
  | _ + 1, .adr _, h => by cases h
  | 0, .fls _, h => by cases h
  | _ + 1, .fls _, h => by cases h
section
variable {K : PySem.W.Frag} {M : Mm} {H : Hp}
mutual
theorem dp_of : ∀ {n : Nat} {v : V} {d : D}, Dt K M H v d → dn n d = true → Dp K H v (py d)
  | _, _, _, .non, _ => .non
  | _, _, _, .bl b, _ => .bl b
  | _, _, _, .int i, _ => .int i
  | _, _, _, .str x, _ => .str x
  | n + 1, _, _, .tup _ h a, q => .tup (.inl h) (dpAll_of a (n := n) (List.all_eq_true.mp q))
  | n + 1, _, _, .ktup h a, q => .tup (.inr h) (dpAll_of a (n := n) (List.all_eq_true.mp q))
  | n + 1, _, _, .lst _ h a, q => .lst (SqL.of h) (dpAll_of a (n := n) (List.all_eq_true.mp q))
  | 0, _, _, .tup _ _ _, q => by cases q
  | 0, _, _, .ktup _ _, q => by cases q
  | 0, _, _, .lst _ _ _, q => by cases q
  | 0, _, _, .fls _ _, q => by cases q
  | _ + 1, _, _, .fls _ _, q => by cases q
  | 0, _, _, .kfls _, q => by cases q
  | _ + 1, _, _, .kfls _, q => by cases q
  | 0, _, _, .adr _, q => by cases q
  | _ + 1, _, _, .adr _, q => by cases q
theorem dpAll_of : ∀ {n : Nat} {vs : List V} {ds : List D}, DtAll K M H vs ds → (∀ x ∈ ds, dn n x = true) → DpAll K H vs (pyAll ds)
  | _, _, _, .nil, _ => .nil
  | _, _, _, .cons h t, q => .cons (dp_of h (q _ List.mem_cons_self)) (dpAll_of t fun x m => q x (List.mem_cons_of_mem _ m))
end
end
mutual
theorem py_can : ∀ {n : Nat} {d : D}, dn n d = true → (py d).canLay0 = true
  | _, .non, _ => by simp [py, PyData.canLay0]
  | _, .bl _, _ => by simp [py, PyData.canLay0]
  | _, .int _, _ => by simp [py, PyData.canLay0]
  | 0, .str x, h => by
    simp only [py, PyData.canLay0]
    exact h
  | _ + 1, .str x, h => by
    simp only [py, PyData.canLay0]
    exact h
  | n + 1, .tup ds, h => by
    simp only [py, PyData.canLay0]
    exact pyAll_can (n := n) (List.all_eq_true.mp h)
  | n + 1, .lst ds, h => by
    simp only [py, PyData.canLay0]
    exact pyAll_can (n := n) (List.all_eq_true.mp h)
  | 0, .tup _, h => by cases h
  | 0, .lst _, h => by cases h
  | 0, .adr _, h => by cases h
  | _ + 1, .adr _, h => by cases h
  | 0, .fls _, h => by cases h
  | _ + 1, .fls _, h => by cases h
theorem pyAll_can : ∀ {n : Nat} {ds : List D}, (∀ x ∈ ds, dn n x = true) → PyData.canLayAll0 (pyAll ds) = true
  | _, [], _ => by simp [pyAll, PyData.canLayAll0]
  | n, d :: ds, h => by
    simp only [pyAll, PyData.canLayAll0, Bool.and_eq_true]
    exact ⟨py_can (h _ List.mem_cons_self), pyAll_can fun x m => h x (List.mem_cons_of_mem _ m)⟩
end
mutual
theorem py_depth : ∀ {n : Nat} {d : D}, dn n d = true → (py d).depth ≤ n
  | _, .non, _ => by simp [py, PyData.depth]
  | _, .bl _, _ => by simp [py, PyData.depth]
  | _, .int _, _ => by simp [py, PyData.depth]
  | 0, .str x, h => by simp [py, PyData.depth]
  | _ + 1, .str x, h => by simp [py, PyData.depth]
  | n + 1, .tup ds, h => by
    simp only [py, PyData.depth]
    exact Nat.succ_le_succ (pyAll_depth (n := n) (List.all_eq_true.mp h))
  | n + 1, .lst ds, h => by
    simp only [py, PyData.depth]
    exact Nat.succ_le_succ (pyAll_depth (n := n) (List.all_eq_true.mp h))
  | 0, .tup _, h => by cases h
  | 0, .lst _, h => by cases h
  | 0, .adr _, h => by cases h
  | _ + 1, .adr _, h => by cases h
  | 0, .fls _, h => by cases h
  | _ + 1, .fls _, h => by cases h
theorem pyAll_depth : ∀ {n : Nat} {ds : List D}, (∀ x ∈ ds, dn n x = true) → PyData.depthAll (pyAll ds) ≤ n
  | _, [], _ => by simp [pyAll, PyData.depthAll]
  | n, d :: ds, h => by
    simp only [pyAll, PyData.depthAll]
    exact Nat.max_le.mpr ⟨py_depth (h _ List.mem_cons_self), pyAll_depth fun x m => h x (List.mem_cons_of_mem _ m)⟩
end
theorem py_shaped {d : D} (h : dn 40 d = true) : SeqAt.shaped (py d) = true := by
  unfold SeqAt.shaped
  rw [py_can h, Bool.true_and]
  have := py_depth h
  exact decide_eq_true (by omega)
def deq (a b : D) : Bool := PyData.eqv (py a) (py b)
theorem deq_refl {n : Nat} {d : D} (h : dn n d = true) : deq d d = true := SeqAt.eqv_refl _ (py_can h)
mutual
theorem eqv_eq : ∀ {n : Nat} {a b : D}, nb n a = true → nb n b = true → PyData.eqv (py a) (py b) = true → a = b
  | _, .non, .non, _, _, _ => rfl
  | _, .int i, .int j, _, _, h => by
    simp only [py, PyData.eqv, beq_iff_eq] at h
    rw [h]
  | _, .str x, .str y, _, _, h => by
    simp only [py, PyData.eqv, beq_iff_eq] at h
    rw [h]
  | n + 1, .tup xs, .tup ys, ha, hb, h => by
    simp only [py, PyData.eqv] at h
    rw [eqvAll_eq (n := n) (List.all_eq_true.mp ha) (List.all_eq_true.mp hb) h]
  | n + 1, .lst xs, .lst ys, ha, hb, h => by
    simp only [py, PyData.eqv] at h
    rw [eqvAll_eq (n := n) (List.all_eq_true.mp ha) (List.all_eq_true.mp hb) h]
  | 0, .bl _, _, h, _, _ => by cases h
  | _ + 1, .bl _, _, h, _, _ => by cases h
  | 0, .fls _, _, h, _, _ => by cases h
  | _ + 1, .fls _, _, h, _, _ => by cases h
  | 0, .adr _, _, h, _, _ => by cases h
  | _ + 1, .adr _, _, h, _, _ => by cases h
  | 0, .tup _, _, h, _, _ => by cases h
  | 0, .lst _, _, h, _, _ => by cases h
  | 0, _, .bl _, _, h, _ => by cases h
  | _ + 1, _, .bl _, _, h, _ => by cases h
  | 0, _, .fls _, _, h, _ => by cases h
  | _ + 1, _, .fls _, _, h, _ => by cases h
  | 0, _, .adr _, _, h, _ => by cases h
  | _ + 1, _, .adr _, _, h, _ => by cases h
  | 0, _, .tup _, _, h, _ => by cases h
  | 0, _, .lst _, _, h, _ => by cases h
  | _, .non, .int _, _, _, h => by simp [py, PyData.eqv] at h
  | _, .non, .str _, _, _, h => by simp [py, PyData.eqv] at h
  | _ + 1, .non, .tup _, _, _, h => by simp [py, PyData.eqv] at h
  | _ + 1, .non, .lst _, _, _, h => by simp [py, PyData.eqv] at h
  | _, .int _, .non, _, _, h => by simp [py, PyData.eqv] at h
  | _, .int _, .str _, _, _, h => by simp [py, PyData.eqv] at h
  | _ + 1, .int _, .tup _, _, _, h => by simp [py, PyData.eqv] at h
  | _ + 1, .int _, .lst _, _, _, h => by simp [py, PyData.eqv] at h
  | _, .str _, .non, _, _, h => by simp [py, PyData.eqv] at h
  | _, .str _, .int _, _, _, h => by simp [py, PyData.eqv] at h
  | _ + 1, .str _, .tup _, _, _, h => by simp [py, PyData.eqv] at h
  | _ + 1, .str _, .lst _, _, _, h => by simp [py, PyData.eqv] at h
  | _ + 1, .tup _, .non, _, _, h => by simp [py, PyData.eqv] at h
  | _ + 1, .tup _, .int _, _, _, h => by simp [py, PyData.eqv] at h
  | _ + 1, .tup _, .str _, _, _, h => by simp [py, PyData.eqv] at h
  | _ + 1, .tup _, .lst _, _, _, h => by simp [py, PyData.eqv] at h
  | _ + 1, .lst _, .non, _, _, h => by simp [py, PyData.eqv] at h
  | _ + 1, .lst _, .int _, _, _, h => by simp [py, PyData.eqv] at h
  | _ + 1, .lst _, .str _, _, _, h => by simp [py, PyData.eqv] at h
  | _ + 1, .lst _, .tup _, _, _, h => by simp [py, PyData.eqv] at h
theorem eqvAll_eq : ∀ {n : Nat} {xs ys : List D}, (∀ x ∈ xs, nb n x = true) → (∀ x ∈ ys, nb n x = true) → PyData.eqvAll (pyAll xs) (pyAll ys) = true → xs = ys
  | _, [], [], _, _, _ => rfl
  | _, x :: xs, y :: ys, ha, hb, h => by
    simp only [pyAll, PyData.eqvAll, Bool.and_eq_true] at h
    rw [eqv_eq (ha _ List.mem_cons_self) (hb _ List.mem_cons_self) h.1, eqvAll_eq (fun z m => ha z (List.mem_cons_of_mem _ m)) (fun z m => hb z (List.mem_cons_of_mem _ m)) h.2]
  | _, [], _ :: _, _, _, h => by simp [pyAll, PyData.eqvAll] at h
  | _, _ :: _, [], _, _, h => by simp [pyAll, PyData.eqvAll] at h
end
theorem deq_iff {n : Nat} {a b : D} (ha : nb n a = true) (hb : nb n b = true) : deq a b = true ↔ a = b :=
  ⟨eqv_eq ha hb, fun e => e ▸ deq_refl (nb_dn ha)⟩
open Classical in
theorem deq_dec {n : Nat} {a b : D} (ha : nb n a = true) (hb : nb n b = true) : deq a b = decide (a = b) := by
  by_cases h : a = b
  · rw [decide_eq_true h]
    exact (deq_iff ha hb).mpr h
  · rw [decide_eq_false h]
    exact Bool.eq_false_iff.mpr fun e => h ((deq_iff ha hb).mp e)

/-! ### == != -/
def fEqD : F2 := fun a b S Q => dn 40 (frz S a) = true ∧ dn 40 (frz S b) = true ∧ Q (.bl (deq (frz S a) (frz S b))) S
def fNeD : F2 := fun a b S Q => dn 40 (frz S a) = true ∧ dn 40 (frz S b) = true ∧ Q (.bl (!deq (frz S a) (frz S b))) S
def fEq : F2
  | .int i, .int j, S, Q => Q (.bl (decide (i = j))) S
  | .str i, .str j, S, Q => Q (.bl (decide (i = j))) S
  | a, b, S, Q => fEqD a b S Q
def fNe : F2
  | .int i, .int j, S, Q => Q (.bl (!decide (i = j))) S
  | .str i, .str j, S, Q => Q (.bl (!decide (i = j))) S
  | a, b, S, Q => fNeD a b S Q
section
variable {X : Cx} {dx : Dx} {K : PySem.W.Frag}
theorem dp_frz {H : Hp} {S : Sto} {v : V} {d : D} (r : HR K dx H S) (h : Dt K (Mu dx S) H v d) {n : Nat} (q : dn n (frz S d) = true) : Dp K H v (py (frz S d)) := dp_of (frz_ok r h) q
theorem od_eqD : OpD K dx (rEqD K) fEqD := by
  intro x y p q H S Q Qh r hx hy t k
  exact ⟨_, _, dp_frz r hx t.1, dp_frz r hy t.2.1, py_shaped t.1, py_shaped t.2.1, k _ H _ S r Ext.refl (.bl _) t.2.2⟩
theorem od_neD : OpD K dx (rNeD K) fNeD := by
  intro x y p q H S Q Qh r hx hy t k
  exact ⟨_, _, dp_frz r hx t.1, dp_frz r hy t.2.1, py_shaped t.1, py_shaped t.2.1, k _ H _ S r Ext.refl (.bl _) t.2.2⟩
def rEqA (K : PySem.W.Frag) : R2 := fun x y H Q => rEq x y H Q ∨ rEqD K x y H Q
def rNeA (K : PySem.W.Frag) : R2 := fun x y H Q => rNe x y H Q ∨ rNeD K x y H Q
theorem op_eqA (hu : X.A.units + 64 < cLine) : OpR X (compareOp .Eq) (rEqA X.K) := op_eq.or (op_eqD hu)
theorem op_neA (hu : X.A.units + 64 < cLine) : OpR X (compareOp .NotEq) (rNeA X.K) := op_ne.or (op_neD hu)
theorem od_eq : OpD K dx (rEqA K) fEq := by
  intro x y p q H S Q Qh r hx hy t k
  unfold fEq at t
  split at t
  · rename_i i j
    cases hx
    cases hy
    refine .inl ⟨rfl, ?_⟩
    have e : decide (V.int i = V.int j) = decide (i = j) := decide_eq_decide.mpr ⟨fun h => by cases h; rfl, fun h => by rw [h]⟩
    rw [e]
    exact k _ H _ S r Ext.refl (.bl _) t
  · rename_i i j
    cases hx
    cases hy
    refine .inl ⟨rfl, ?_⟩
    have e : decide (V.str i = V.str j) = decide (i = j) := decide_eq_decide.mpr ⟨fun h => by cases h; rfl, fun h => by rw [h]⟩
    rw [e]
    exact k _ H _ S r Ext.refl (.bl _) t
  · exact .inr (od_eqD x y p q H S Q Qh r hx hy t k)
theorem od_ne : OpD K dx (rNeA K) fNe := by
  intro x y p q H S Q Qh r hx hy t k
  unfold fNe at t
  split at t
  · rename_i i j
    cases hx
    cases hy
    refine .inl ⟨rfl, ?_⟩
    have e : decide (V.int i = V.int j) = decide (i = j) := decide_eq_decide.mpr ⟨fun h => by cases h; rfl, fun h => by rw [h]⟩
    rw [e]
    exact k _ H _ S r Ext.refl (.bl _) t
  · rename_i i j
    cases hx
    cases hy
    refine .inl ⟨rfl, ?_⟩
    have e : decide (V.str i = V.str j) = decide (i = j) := decide_eq_decide.mpr ⟨fun h => by cases h; rfl, fun h => by rw [h]⟩
    rw [e]
    exact k _ H _ S r Ext.refl (.bl _) t
  · exact .inr (od_neD x y p q H S Q Qh r hx hy t k)

/-! ### repr -/
mutual
/-- the text has at most so many signs -/
def rsz : D → Nat
  | .non => 4
  | .bl _ => 5
  | .int _ => 1921
  | .str x => 10 * x.length + 2
  | .tup ds => rszAll ds + 4
  | .lst ds => rszAll ds + 4
  | _ => 0
def rszAll : List D → Nat
  | [] => 0
  | d :: ds => rsz d + 2 + rszAll ds
end
mutual
/-- the ints are not too long -/
def ish : D → Bool
  | .int i => decide (i.natAbs < 2 ^ 1900)
  | .tup ds => ishAll ds
  | .lst ds => ishAll ds
  | _ => true
def ishAll : List D → Bool
  | [] => true
  | d :: ds => ish d && ishAll ds
end
end
end DL
/-! Readings over data: repr, built-ins, methods. -/
namespace DL
open PySem PySem.Spec L2 Gd

theorem log_of {i : Int} (h : i.natAbs < 2 ^ 1900) : i.natAbs.log2 < 1920 := by
  by_cases z : i.natAbs = 0
  · rw [z]
    decide
  · have := (Nat.log2_lt z).mpr h
    omega
mutual
theorem py_showable : ∀ {n : Nat} {d : D}, dn n d = true → ish d = true → (py d).showable = true
  | _, .non, _, _ => by simp [py, PyData.showable]
  | _, .bl _, _, _ => by simp [py, PyData.showable]
  | _, .int i, _, h => by
    simp only [py, PyData.showable]
    simp only [ish, decide_eq_true_eq] at h
    exact decide_eq_true (log_of h)
  | _, .str x, h, _ => by simp [py, PyData.showable]
  | n + 1, .tup ds, h, q => by
    simp only [py, PyData.showable]
    simp only [ish] at q
    exact pyAll_showable (n := n) (List.all_eq_true.mp h) q
  | n + 1, .lst ds, h, q => by
    simp only [py, PyData.showable]
    simp only [ish] at q
    exact pyAll_showable (n := n) (List.all_eq_true.mp h) q
  | 0, .tup _, h, _ => by cases h
  | 0, .lst _, h, _ => by cases h
  | 0, .adr _, h, _ => by cases h
  | _ + 1, .adr _, h, _ => by cases h
  | 0, .fls _, h, _ => by cases h
  | _ + 1, .fls _, h, _ => by cases h
theorem pyAll_showable : ∀ {n : Nat} {ds : List D}, (∀ x ∈ ds, dn n x = true) → ishAll ds = true → PyData.showableAll (pyAll ds) = true
  | _, [], _, _ => by simp [pyAll, PyData.showableAll]
  | n, d :: ds, h, q => by
    simp only [ishAll, Bool.and_eq_true] at q
    simp only [pyAll, PyData.showableAll, Bool.and_eq_true]
    exact ⟨py_showable (h _ List.mem_cons_self) q.1, pyAll_showable (fun x m => h x (List.mem_cons_of_mem _ m)) q.2⟩
end
theorem join_le (ts : List Str) : (Str.join ", " ts).length ≤ piled ts := by
  cases ts with
  | nil => exact Nat.zero_le _
  | cons a r =>
    have := join_length_add (a :: r) (by simp)
    omega
theorem str_wide {x : Str} (h : PyData.strOk x = true) : ∀ c ∈ x.cps.toList, c < 16 ^ 8 := by
  intro c m
  unfold PyData.strOk at h
  have := Array.all_eq_true_iff_forall_mem.mp h c (Array.mem_toList_iff.mp m)
  have : c < 1114112 := by simpa using this
  omega
mutual
theorem py_len : ∀ {n : Nat} {d : D}, dn n d = true → ish d = true → (py d).shown.length ≤ rsz d
  | _, .non, _, _ => by
    simp only [py, PyData.shown, rsz]
    decide
  | _, .bl b, _, _ => by
    simp only [py, PyData.shown, rsz]
    cases b <;> decide
  | _, .int i, _, h => by
    simp only [py, PyData.shown, rsz]
    simp only [ish, decide_eq_true_eq] at h
    exact PyProof.Rows.int_text_len_1921 (log_of h)
  | 0, .str x, h, _ => by
    simp only [py, PyData.shown, rsz]
    exact StrLaws.reprText_len x (str_wide h)
  | _ + 1, .str x, h, _ => by
    simp only [py, PyData.shown, rsz]
    exact StrLaws.reprText_len x (str_wide h)
  | n + 1, .tup ds, h, q => by
    simp only [ish] at q
    have ih := pyAll_len (n := n) (List.all_eq_true.mp h) q
    have j := join_le (PyData.shownAll (pyAll ds))
    simp only [py, PyData.shown, rsz]
    unfold tupleText
    rw [strLen_append, strLen_append]
    have e1 : ((("(" : String) : Str)).length = 1 := rfl
    have e3 : (((if (PyData.shownAll (pyAll ds)).length == 1 then ",)" else ")" : String) : Str)).length ≤ 2 := by split <;> decide
    omega
  | n + 1, .lst ds, h, q => by
    simp only [ish] at q
    have ih := pyAll_len (n := n) (List.all_eq_true.mp h) q
    have j := join_le (PyData.shownAll (pyAll ds))
    simp only [py, PyData.shown, rsz]
    rw [listText_eq_join, strLen_append, strLen_append]
    have e1 : ((("[" : String) : Str)).length = 1 := rfl
    have e3 : ((("]" : String) : Str)).length = 1 := rfl
    omega
  | 0, .tup _, h, _ => by cases h
  | 0, .lst _, h, _ => by cases h
  | 0, .adr _, h, _ => by cases h
  | _ + 1, .adr _, h, _ => by cases h
  | 0, .fls _, h, _ => by cases h
  | _ + 1, .fls _, h, _ => by cases h
theorem pyAll_len : ∀ {n : Nat} {ds : List D}, (∀ x ∈ ds, dn n x = true) → ishAll ds = true → piled (PyData.shownAll (pyAll ds)) ≤ rszAll ds
  | _, [], _, _ => by simp [pyAll, PyData.shownAll, piled]
  | n, d :: ds, h, q => by
    simp only [ishAll, Bool.and_eq_true] at q
    simp only [pyAll, PyData.shownAll, piled_cons, rszAll]
    have a := py_len (h _ List.mem_cons_self) q.1
    have b := pyAll_len (fun x m => h x (List.mem_cons_of_mem _ m)) q.2
    omega
end
def shw (d : D) : Str := (py d).shown
/-- repr(d) can be told -/
def Rp (d : D) : Prop := dn 40 d = true ∧ ish d = true ∧ rsz d ≤ 16777216
/-- a call with one argument -/
def one (f : D → Sto → (D → Sto → Prop) → Prop) : List D → Sto → (D → Sto → Prop) → Prop
  | [d], S, Q => f d S Q
  | _, _, _ => False
theorem cd_one {K : PySem.W.Frag} {dx : Dx} {r : List V → Hp → VK → Prop} {f : D → Sto → (D → Sto → Prop) → Prop}
    (o : ∀ v d H S Q Qh, HR K dx H S → Dt K (Mu dx S) H v d → f d S Q → ThE K dx H S Q Qh → r [v] H Qh) : CallD K dx r (one f) := by
  intro vs ds H S Q Qh r0 a t k
  cases a with
  | nil => exact t.elim
  | cons h a =>
    cases a with
    | nil => exact o _ _ H S Q Qh r0 h t k
    | cons _ _ => exact t.elim
def fRepr (d : D) (S : Sto) (Q : D → Sto → Prop) : Prop := Rp (frz S d) ∧ Q (.str (shw (frz S d))) S
section
variable {X : Cx} {dx : Dx} {K : PySem.W.Frag}
def rRepr (K : PySem.W.Frag) : List V → Hp → VK → Prop := fun xs H Q => ∃ x d, xs = [x] ∧ Dp K H x d ∧ d.showable = true ∧ d.hasDict = false ∧ d.depth ≤ 60 ∧ d.shown.length ≤ sizeLine ∧ Q (.str d.shown) H
theorem cr_repr (guard : X.A.guards = some []) (hu : X.A.units + 64 < cLine) : CallR X (.builtin "repr") (rRepr X.K) := by
  intro pins s σ H xs us Q I r h
  obtain ⟨x, d, rfl, dp, sh, nd, dd, sz, q⟩ := h
  cases dp with
  | non =>
    obtain ⟨u, rfl, ru⟩ := vals1 r
    cases ru
    refine PySem.P.repr_of_none ?_
    simp only [PyData.shown] at q
    exact ⟨.str _, H, I.tok _, ⟨_, rfl⟩, q⟩
  | bl b =>
    obtain ⟨u, rfl, ru⟩ := vals1 r
    cases ru
    refine PySem.P.repr_of_bool ?_
    simp only [PyData.shown] at q
    exact ⟨.str _, H, I.tok _, ⟨_, rfl⟩, q⟩
  | int i =>
    obtain ⟨u, rfl, t, rfl⟩ := vals1 r
    simp only [PyData.showable, decide_eq_true_eq] at sh
    refine PySem.P.repr_of_int sh ?_
    simp only [PyData.shown] at q
    exact ⟨.str _, H, I.tok _, ⟨_, rfl⟩, q⟩
  | str z =>
    obtain ⟨u, rfl, t, rfl⟩ := vals1 r
    simp only [PyData.shown] at q sz
    refine PySem.P.repr_of_str ?_ sz
    exact ⟨.str _, H, I.tok _, ⟨_, rfl⟩, q⟩
  | lst h1 h2 => exact repr_box guard hu pins s σ H _ us Q I r ⟨_, _, rfl, .lst h1 h2, sh, nd, dd, sz, q⟩
  | tup h1 h2 => exact repr_box guard hu pins s σ H _ us Q I r ⟨_, _, rfl, .tup h1 h2, sh, nd, dd, sz, q⟩
theorem py_nodict {n : Nat} {d : D} (h : dn n d = true) : (py d).hasDict = false := PyData.hasDict_of_canLay _ (py_can h)
theorem cd_repr : CallD K dx (rRepr K) (one fRepr) := by
  refine cd_one fun v d H S Q Qh r h t k => ?_
  obtain ⟨⟨h1, h2, h3⟩, q⟩ := t
  refine ⟨v, _, rfl, dp_frz r h h1, py_showable h1 h2, py_nodict h1, ?_, ?_, k _ H _ S r Ext.refl (.str _) q⟩
  · have := py_depth h1
    omega
  · have := py_len h1 h2
    rw [sizeLine_eq]
    omega

/-! ### len, tuple, list, all, any, sum, abs, int -/
def fLen : D → Sto → (D → Sto → Prop) → Prop
  | .tup ds, S, Q => Q (.int ds.length) S
  | .lst ds, S, Q => Q (.int ds.length) S
  | .fls ds, S, Q => Q (.int ds.length) S
  | .adr p, S, Q => opt (getS S p) fun ds => Q (.int ds.length) S
  | .str z, S, Q => Fit z.length ∧ Q (.int z.length) S
  | _, _, _ => False
def rLen (K : PySem.W.Frag) : List V → Hp → VK → Prop := fun xs H Q => (∃ p ys, xs = [.ref p] ∧ (SqL K H p ys ∨ SqT K H p ys) ∧ Q (.int ys.length) H) ∨ (∃ z, xs = [.str z] ∧ z.length ≤ sizeLine ∧ Q (.int z.length) H)
theorem cr_len : CallR X (.builtin "len") (rLen X.K) := call_len_seq.or call_len_str
theorem cd_len : CallD K dx (rLen K) (one fLen) := by
  refine cd_one fun v d H S Q Qh r h t k => ?_
  cases d with
  | tup ds =>
    obtain ⟨p, xs, rfl, hs, al⟩ := h.sqT
    exact .inl ⟨p, xs, rfl, .inr hs, by rw [al.length]; exact k _ H _ S r Ext.refl (.int _) t⟩
  | lst ds =>
    obtain ⟨p, xs, rfl, _, hs, al⟩ := h.sqL
    exact .inl ⟨p, xs, rfl, .inl (SqL.of hs), by rw [al.length]; exact k _ H _ S r Ext.refl (.int _) t⟩
  | fls ds =>
    obtain ⟨p, rfl, hs⟩ := h.sqF
    exact .inl ⟨p, _, rfl, .inl hs, by rw [List.length_map]; exact k _ H _ S r Ext.refl (.int _) t⟩
  | adr p =>
    cases h
    obtain ⟨ds, g, t⟩ := opt_run t
    obtain ⟨_, ws, eh, al⟩ := r.get g
    exact .inl ⟨p, ws, rfl, .inl (SqL.of eh), by rw [al.length]; exact k _ H _ S r Ext.refl (.int _) t⟩
  | str z =>
    cases h
    exact .inr ⟨z, rfl, t.1.line, k _ H _ S r Ext.refl (.int _) t.2⟩
  | _ => exact t.elim
/-- tuple(..) of a list or a tuple -/
def fTuple : D → Sto → (D → Sto → Prop) → Prop
  | .tup ds, S, Q => Q (.tup ds) S
  | .lst ds, S, Q => Q (.tup ds) S
  | .adr p, S, Q => opt (getS S p) fun ds => Q (.tup ds) S
  | _, _, _ => False
theorem cd_tuple : CallD K dx (fun xs H Q => ∃ p ys, xs = [.ref p] ∧ ((SqL K H p ys ∧ ∀ l, H l = none → Q (.ref l) (upd H l (.tup ys))) ∨ (SqT K H p ys ∧ Q (.ref p) H))) (one fTuple) := by
  refine cd_one fun v d H S Q Qh r h t k => ?_
  cases d with
  | tup ds =>
    obtain ⟨p, xs, rfl, hs, al⟩ := h.sqT
    exact ⟨p, xs, rfl, .inr ⟨hs, k _ H _ S r Ext.refl h t⟩⟩
  | lst ds =>
    obtain ⟨p, xs, rfl, _, hs, al⟩ := h.sqL
    refine ⟨p, xs, rfl, .inl ⟨SqL.of hs, fun l n => ?_⟩⟩
    obtain ⟨r2, x2, d2⟩ := new_tup r n al
    exact k _ _ _ S r2 x2 d2 t
  | adr p =>
    cases h
    obtain ⟨ds, g, t⟩ := opt_run t
    obtain ⟨_, ws, eh, al⟩ := r.get g
    refine ⟨p, ws, rfl, .inl ⟨SqL.of eh, fun l n => ?_⟩⟩
    obtain ⟨r2, x2, d2⟩ := new_tup r n al
    exact k _ _ _ S r2 x2 d2 t
  | _ => exact t.elim
def fList : D → Sto → (D → Sto → Prop) → Prop
  | .tup ds, S, Q => Q (.lst ds) S
  | .lst ds, S, Q => Q (.lst ds) S
  | .adr p, S, Q => opt (getS S p) fun ds => Q (.lst ds) S
  | _, _, _ => False
theorem cd_list : CallD K dx (fun xs H Q => ∃ p ys, xs = [.ref p] ∧ (SqL K H p ys ∨ SqT K H p ys) ∧ ∀ l, H l = none → Q (.ref l) (upd H l (.lst ys))) (one fList) := by
  refine cd_one fun v d H S Q Qh r h t k => ?_
  cases d with
  | tup ds =>
    obtain ⟨p, xs, rfl, hs, al⟩ := h.sqT
    refine ⟨p, xs, rfl, .inr hs, fun l n => ?_⟩
    obtain ⟨r2, x2, d2⟩ := new_lst r n al
    exact k _ _ _ S r2 x2 d2 t
  | lst ds =>
    obtain ⟨p, xs, rfl, _, hs, al⟩ := h.sqL
    refine ⟨p, xs, rfl, .inl (SqL.of hs), fun l n => ?_⟩
    obtain ⟨r2, x2, d2⟩ := new_lst r n al
    exact k _ _ _ S r2 x2 d2 t
  | adr p =>
    cases h
    obtain ⟨ds, g, t⟩ := opt_run t
    obtain ⟨_, ws, eh, al⟩ := r.get g
    refine ⟨p, ws, rfl, .inl (SqL.of eh), fun l n => ?_⟩
    obtain ⟨r2, x2, d2⟩ := new_lst r n al
    exact k _ _ _ S r2 x2 d2 t
  | _ => exact t.elim
/-- the truth values of data -/
def asB : List D → Option (List Bool)
  | [] => some []
  | .bl b :: r => (asB r).map (b :: ·)
  | _ :: _ => none
def asI : List D → Option (List Int)
  | [] => some []
  | .int i :: r => (asI r).map (i :: ·)
  | _ :: _ => none
theorem asB_at {ds : List D} : ∀ {bs : List Bool}, asB ds = some bs → ds = bs.map D.bl := by
  induction ds with
  | nil => intro bs h; cases h; rfl
  | cons d ds ih =>
    intro bs h
    cases d with
    | bl b =>
      have h : (asB ds).map (b :: ·) = some bs := h
      cases e : asB ds with
      | none => rw [e] at h; cases h
      | some cs => rw [e] at h; cases h; rw [ih e]; rfl
    | _ => cases h
theorem asI_at {ds : List D} : ∀ {bs : List Int}, asI ds = some bs → ds = bs.map D.int := by
  induction ds with
  | nil => intro bs h; cases h; rfl
  | cons d ds ih =>
    intro bs h
    cases d with
    | int b =>
      have h : (asI ds).map (b :: ·) = some bs := h
      cases e : asI ds with
      | none => rw [e] at h; cases h
      | some cs => rw [e] at h; cases h; rw [ih e]; rfl
    | _ => cases h
theorem asB_map (bs : List Bool) : asB (bs.map D.bl) = some bs := by
  induction bs with
  | nil => rfl
  | cons b bs ih => show (asB (bs.map D.bl)).map (b :: ·) = _; rw [ih]; rfl
theorem asI_map (bs : List Int) : asI (bs.map D.int) = some bs := by
  induction bs with
  | nil => rfl
  | cons b bs ih => show (asI (bs.map D.int)).map (b :: ·) = _; rw [ih]; rfl
def fAll : D → Sto → (D → Sto → Prop) → Prop
  | .lst ds, S, Q => opt (asB ds) fun bs => Q (.bl (bs.all id)) S
  | _, _, _ => False
def fAny : D → Sto → (D → Sto → Prop) → Prop
  | .lst ds, S, Q => opt (asB ds) fun bs => Q (.bl (bs.any id)) S
  | _, _, _ => False
def fSum : D → Sto → (D → Sto → Prop) → Prop
  | .lst ds, S, Q => opt (asI ds) fun bs => Q (.int bs.sum) S
  | _, _, _ => False
theorem cd_all : CallD K dx (rAll K) (one fAll) := by
  refine cd_one fun v d H S Q Qh r h t k => ?_
  cases d with
  | lst ds =>
    obtain ⟨bs, e, t⟩ := opt_run t
    obtain ⟨p, xs, rfl, _, hs, al⟩ := h.sqL
    rw [asB_at e] at al
    rw [Dt.bls_of al] at hs
    exact ⟨p, bs, rfl, SqL.of hs, k _ H _ S r Ext.refl (.bl _) t⟩
  | _ => exact t.elim
theorem cd_any : CallD K dx (rAny K) (one fAny) := by
  refine cd_one fun v d H S Q Qh r h t k => ?_
  cases d with
  | lst ds =>
    obtain ⟨bs, e, t⟩ := opt_run t
    obtain ⟨p, xs, rfl, _, hs, al⟩ := h.sqL
    rw [asB_at e] at al
    rw [Dt.bls_of al] at hs
    exact ⟨p, bs, rfl, SqL.of hs, k _ H _ S r Ext.refl (.bl _) t⟩
  | _ => exact t.elim
theorem cd_sum : CallD K dx (rSum K) (one fSum) := by
  refine cd_one fun v d H S Q Qh r h t k => ?_
  cases d with
  | lst ds =>
    obtain ⟨bs, e, t⟩ := opt_run t
    obtain ⟨p, xs, rfl, _, hs, al⟩ := h.sqL
    rw [asI_at e] at al
    rw [Dt.ints_of al] at hs
    exact ⟨p, bs, rfl, SqL.of hs, k _ H _ S r Ext.refl (.int _) t⟩
  | _ => exact t.elim
def fAbs : D → Sto → (D → Sto → Prop) → Prop
  | .int i, S, Q => Q (.int i.natAbs) S
  | _, _, _ => False
theorem cd_abs : CallD K dx (fun xs H Q => ∃ i, xs = [V.int i] ∧ Q (.int (if i < 0 then -i else i)) H) (one fAbs) := by
  refine cd_one fun v d H S Q Qh r h t k => ?_
  cases h with
  | int i =>
    refine ⟨i, rfl, ?_⟩
    have e : (if i < 0 then -i else i) = ((i.natAbs : Nat) : Int) := by split <;> omega
    rw [e]
    exact k _ H _ S r Ext.refl (.int _) t
  | _ => exact t.elim
def fInt : D → Sto → (D → Sto → Prop) → Prop
  | .int i, S, Q => Q (.int i) S
  | .bl b, S, Q => Q (.int (if b then 1 else 0)) S
  | _, _, _ => False
theorem cd_int : CallD K dx (fun xs H Q => (∃ i, xs = [V.int i] ∧ Q (.int i) H) ∨ ∃ k, xs = [V.bl k] ∧ Q (.int (if k then 1 else 0)) H) (one fInt) := by
  refine cd_one fun v d H S Q Qh r h t k => ?_
  cases h with
  | int i => exact .inl ⟨i, rfl, k _ H _ S r Ext.refl (.int _) t⟩
  | bl b => exact .inr ⟨b, rfl, k _ H _ S r Ext.refl (.int _) t⟩
  | _ => exact t.elim

/-! ### isinstance of built-in classes -/
def tyD : D → String
  | .non => "NoneType"
  | .bl _ => "bool"
  | .int _ => "int"
  | .str _ => "str"
  | .tup _ => "tuple"
  | _ => "list"
theorem ty_of {H : Hp} {v : V} {d : D} {M : Mm} (h : Dt K M H v d) (na : ∀ p, d ≠ .adr p) : TyX K H v (.type (tyD d)) := by
  cases h with
  | non => exact .base .non
  | bl b => exact .base (.bl b)
  | int i => exact .base (.int i)
  | str x => exact .base (.str x)
  | tup n h a =>
    rcases h with h | ⟨o, h⟩
    · exact .base (.tup h)
    · exact .fTuple h
  | ktup h a =>
    obtain ⟨o, _, _, e, c, _⟩ := h
    exact .kTuple e c
  | lst n h a => exact .base (.lst h)
  | fls n h =>
    rcases h with h | ⟨o, h⟩
    · exact .base (.lst h)
    · exact .base (.frz h)
  | kfls h =>
    obtain ⟨o, _, _, e, c, _⟩ := h
    exact .kList e c
  | adr p => exact absurd rfl (na p)

/-! ### methods of a list of one's own -/
def dM (f : D → List D → Sto → (D → Sto → Prop) → Prop) (fo : DTE) (fa : DTA) : DTE := fun δ S Q => fo δ S fun o S1 => fa δ S1 fun ds S2 => f o ds S2 Q
def fAppend : D → List D → Sto → (D → Sto → Prop) → Prop
  | .adr p, [d], S, Q => opt (getS S p) fun ds => Fit (ds.length + 1) ∧ Q .non (setS S p (ds ++ [d]))
  | _, _, _, _ => False
end
end DL
/-! Readings over data: methods of a list, isinstance, zip, reversed. -/
namespace DL
open PySem PySem.Spec L2 Gd

section
variable {X : Cx} {dx : Dx} {K : PySem.W.Frag} {a e : Expr} {es : List Expr} {to te : TE} {ta : TA} {fo fe : DTE} {fa : DTA} {st : Expr} {pos : Pos}
def isOwn (S : Sto) : D → Prop
  | .adr p => (getS S p).isSome = true
  | _ => False
def dML (f : D → List D → Sto → (D → Sto → Prop) → Prop) (fo : DTE) (fa : DTA) : DTE := fun δ S Q => fo δ S fun o S1 => isOwn S1 o ∧ fa δ S1 fun ds S2 => f o ds S2 Q
def MetD (K : PySem.W.Frag) (dx : Dx) (r : V → List V → Hp → VK → Prop) (f : D → List D → Sto → (D → Sto → Prop) → Prop) : Prop :=
  ∀ x vs p ds H S Q Qh, HR K dx H S → Dt K (Mu dx S) H x p → DtAll K (Mu dx S) H vs ds → f p ds S Q → ThE K dx H S Q Qh → r x vs H Qh
theorem own_ty {H : Hp} {S : Sto} {v : V} {d : D} (r : HR K dx H S) (h : Dt K (Mu dx S) H v d) (o : isOwn S d) : tyV K "list" v H := by
  cases h with
  | adr p =>
    obtain ⟨ds, g⟩ := Option.isSome_iff_exists.mp o
    obtain ⟨_, vs, e, _⟩ := r.get g
    exact .inl ⟨rfl, vs, SqL.of e⟩
  | _ => exact o.elim
theorem de_met {r : V → List V → Hp → VK → Prop} {f} (m : MetD X.K dx r f) (ho : DE X dx a to fo) (ha : DA X dx es ta fa) (hp : PE X st (tBM X.K "list" r to ta)) : DE X dx st (tBM X.K "list" r to ta) (dML f fo fa) := by
  refine ⟨hp, fun σ H δ S Q Qh r0 s t k => ?_⟩
  refine ho.go σ H δ S _ _ r0 s t fun v H1 d S1 r1 x1 d1 t1 => ⟨own_ty r1 d1 t1.1, ?_⟩
  refine ha.go σ H1 δ S1 _ _ r1 (s.ext x1) t1.2 fun vs H2 ds S2 r2 x2 d2 t2 => ?_
  exact m v vs d ds H2 S2 Q Qh r2 (d1.ext x2) d2 t2 (k.on (x1.trans x2))
def dML0 (f : D → List D → Sto → (D → Sto → Prop) → Prop) (fo : DTE) : DTE := fun δ S Q => fo δ S fun o S1 => isOwn S1 o ∧ f o [] S1 Q
theorem de_met0 {r : V → List V → Hp → VK → Prop} {f} (m : MetD X.K dx r f) (ho : DE X dx a to fo) (hp : PE X st (tBM0 X.K "list" r to)) : DE X dx st (tBM0 X.K "list" r to) (dML0 f fo) := by
  refine ⟨hp, fun σ H δ S Q Qh r0 s t k => ?_⟩
  refine ho.go σ H δ S _ _ r0 s t fun v H1 d S1 r1 x1 d1 t1 => ⟨own_ty r1 d1 t1.1, ?_⟩
  exact m v [] d [] H1 S1 Q Qh r1 d1 .nil t1.2 (k.on x1)
theorem md_append : MetD K dx rAppend fAppend := by
  intro x vs p ds H S Q Qh r hx al t k
  cases hx with
  | adr p =>
    cases al with
    | nil => exact t.elim
    | cons h al =>
      cases al with
      | cons _ _ => exact t.elim
      | nil =>
        obtain ⟨ds0, g, t⟩ := opt_run t
        obtain ⟨m, ws, eh, a0⟩ := r.get g
        refine ⟨p, ws, _, rfl, rfl, eh, ?_, k _ _ _ _ (r.put m (a0.append (.cons h .nil))) (ext_set m) .non t.2⟩
        have := t.1.line
        rw [a0.length]
        omega
  | _ => exact t.elim
def fPop : D → List D → Sto → (D → Sto → Prop) → Prop
  | .adr p, [], S, Q => opt (getS S p) fun ds => opt (ds[ds.length - 1]?) fun d => Q d (setS S p ds.dropLast)
  | _, _, _, _ => False
theorem md_pop : MetD K dx rPop fPop := by
  intro x vs p ds H S Q Qh r hx al t k
  cases hx with
  | adr p =>
    cases al with
    | cons _ _ => exact t.elim
    | nil =>
      obtain ⟨ds0, g, t⟩ := opt_run t
      obtain ⟨d, e, t⟩ := opt_run t
      obtain ⟨m, ws, eh, a0⟩ := r.get g
      obtain ⟨v, ev, dv⟩ := a0.get e
      have x1 : Ext (Mu dx S) H (Mu dx (setS S p ds0.dropLast)) (upd H p (.lst ws.dropLast)) := ext_set m
      exact ⟨p, ws, v, rfl, rfl, eh, by rw [a0.length]; exact ev, k _ _ _ _ (r.put m a0.dropLast) x1 (dv.ext x1) t⟩
  | _ => exact t.elim
def fExtend : D → List D → Sto → (D → Sto → Prop) → Prop
  | .adr p, [d], S, Q => opt (getS S p) fun ds => opt (asL S d) fun es => Fit (ds.length + es.length) ∧ Q .non (setS S p (ds ++ es))
  | _, _, _, _ => False
theorem md_extend : MetD K dx rExtend fExtend := by
  intro x vs p ds H S Q Qh r hx al t k
  cases hx with
  | adr p =>
    cases al with
    | nil => exact t.elim
    | cons h al =>
      cases al with
      | cons _ _ => exact t.elim
      | nil =>
        obtain ⟨ds0, g, t⟩ := opt_run t
        obtain ⟨es, e2, t⟩ := opt_run t
        obtain ⟨m, ws, eh, a0⟩ := r.get g
        obtain ⟨b, zs, rfl, hb, a1⟩ := asL_at r h e2
        exact ⟨p, b, ws, zs, rfl, rfl, eh, hb, by rw [a0.length, a1.length]; exact t.1.line, k _ _ _ _ (r.put m (a0.append a1)) (ext_set m) .non t.2⟩
  | _ => exact t.elim

/-! ### isinstance(x, T) -/
def noAdr : D → Bool
  | .adr _ => false
  | _ => true
def fIsi (T : String) (f : String → Bool) (d : D) (S : Sto) (Q : D → Sto → Prop) : Prop := noAdr d = true ∧ Q (.bl (f (tyD d))) S
def dIsi (f : String → Bool) (fe : DTE) : DTE := fun δ S Q => fe δ S fun d S1 => noAdr d = true ∧ Q (.bl (f (tyD d))) S1
def tIsi (K : PySem.W.Frag) (T : String) (te : TE) : TE := tCB (rIsi K) (tCons te (tCons (tC (.ty T)) tNil))
theorem de_isi {T : String} {f : String → Bool} (hf : ∀ t ∈ ["NoneType", "bool", "int", "str", "tuple", "list"], kitB t T = some (f t)) (he : DE X dx e te fe) (hp : PE X st (tIsi X.K T te)) : DE X dx st (tIsi X.K T te) (dIsi f fe) := by
  refine ⟨hp, fun σ H δ S Q Qh r0 s t k => ?_⟩
  refine he.go σ H δ S _ _ r0 s t fun v H1 d S1 r1 x1 d1 t1 => ?_
  refine ⟨v, .ty T, _, _, f (tyD d), rfl, .ty T, ty_of d1 (fun p e => by rw [e] at t1; cases t1.1), kit_ty (hf _ ?_), k _ H1 _ S1 r1 x1 (.bl _) t1.2⟩
  cases d <;> simp [tyD]

/-! ### reversed(xs) -/
def dRev (t : DTE) : DTA := fun δ S Q => t δ S (items fun ds S1 => Q ds.reverse S1)
theorem di_rev {tg : Expr} {p : Pos} (he : DE X dx e te fe) (hp : PI X tg st (RT.iRevA X.K te)) : DI X dx tg st (RT.iRevA X.K te) (dRev fe) := by
  refine ⟨hp, fun σ H δ S Q R r0 s t k => ?_⟩
  refine he.go σ H δ S _ _ r0 s t fun v H1 d S1 r1 x1 d1 t1 => ?_
  have revL : ∀ {a : Addr} {vs : List V} {ds : List D}, DtAll X.K (Mu dx S1) H1 vs ds → (∀ M H', ExtD (Mu dx S1) H1 M H' → SqL X.K H' a vs) → Walks X.K dx (Itv X.K a vs.length) ds.reverse S1 H1 := by
    intro a vs ds al stay
    have w := walk_rev (K := X.K) (a := a) (xs := vs)
    refine ⟨_, _, by rw [List.length_reverse, ← al.length]; exact w, fun M H2 lv x2 => ⟨stay _ _ x2, fun i y H3 hi z => ?_⟩⟩
    obtain ⟨rfl, z⟩ := z
    obtain ⟨c, e1, c1⟩ := (al.extD x2).getV z
    rw [List.length_reverse] at hi
    refine ⟨Same.refl _, c, ?_, c1⟩
    rw [List.getElem?_reverse hi, ← al.length]
    exact e1
  have revT : ∀ {a : Addr} {vs : List V} {ds : List D}, DtAll X.K (Mu dx S1) H1 vs ds → (∀ M H', ExtD (Mu dx S1) H1 M H' → SqT X.K H' a vs) → Walks X.K dx (RT.ItvT X.K a vs.length) ds.reverse S1 H1 := by
    intro a vs ds al stay
    have w : Walk (RT.ItvT X.K a vs.length) vs.length (fun H => SqT X.K H a vs) (fun i H x H' => H' = H ∧ vs[vs.length - 1 - i]? = some x) :=
      ⟨fun i _ hi q => ⟨hi, vs, vs[vs.length - 1 - i]'(by omega), q, by simp [show vs.length - 1 - i < vs.length by omega]⟩, fun _ _ => Nat.le_refl _, fun _ _ _ _ _ q y => ⟨y.1, y.2 vs q⟩⟩
    refine ⟨_, _, by rw [List.length_reverse, ← al.length]; exact w, fun M H2 lv x2 => ⟨stay _ _ x2, fun i y H3 hi z => ?_⟩⟩
    obtain ⟨rfl, z⟩ := z
    obtain ⟨c, e1, c1⟩ := (al.extD x2).getV z
    rw [List.length_reverse] at hi
    refine ⟨Same.refl _, c, ?_, c1⟩
    rw [List.getElem?_reverse hi, ← al.length]
    exact e1
  cases d1 with
  | tup n hr al => exact ⟨_, _, rfl, .inr ⟨.inl hr, k _ H1 _ S1 r1 x1 (revT al fun M H' x => .inl (x.rd n hr)) t1⟩⟩
  | ktup hr al => exact ⟨_, _, rfl, .inr ⟨.inr hr, k _ H1 _ S1 r1 x1 (revT al fun M H' x => .inr hr) t1⟩⟩
  | lst n hr al => exact ⟨_, _, rfl, .inl ⟨SqL.of hr, k _ H1 _ S1 r1 x1 (revL al fun M H' x => SqL.of (x.keep _ _ n hr)) t1⟩⟩
  | fls n hr => exact ⟨_, _, rfl, .inl ⟨.inl hr, k _ H1 _ S1 r1 x1 (revL (DtAll.ints _) fun M H' x => .inl (x.rd n hr)) t1⟩⟩
  | kfls hr => exact ⟨_, _, rfl, .inl ⟨.inr hr, k _ H1 _ S1 r1 x1 (revL (DtAll.ints _) fun M H' x => .inr hr) t1⟩⟩
  | _ => exact t1.elim
end
end DL
/-! zip of two sequences, lists or tuples. -/
namespace DL
open PySem PySem.Spec L2 Gd

def SqX (K : PySem.W.Frag) (c : Bool) (H : Hp) (a : Addr) (xs : List V) : Prop := match c with
  | true => SqT K H a xs
  | false => SqL K H a xs
def ItAt (c : Bool) (h : Heap) (it a : Addr) (i : Nat) : Prop := match c with
  | true => h.IsTupleIter it a i
  | false => h.IsListIter it a i
def HasX (c : Bool) (h : Heap) (a : Addr) (its : Array Value) : Prop := match c with
  | true => h.IsTuple a its
  | false => h.IsList a its
theorem drawsX {prog : Program} {w : World} {A : Around} (hh : A.handled = none) (c : Bool) (it l : Addr) (hne : l ≠ it) (items : Array Value) :
    Draws prog w A it [it, l] items.size (fun i v => items[i]? = some v) (fun i h => ItAt c h it l i ∧ HasX c h l items) := by
  cases c with
  | true => exact Draws.tuple hh it l hne items
  | false => exact Draws.list hh it l hne items
theorem ItAt.at {c : Bool} {h h' : Heap} {it a : Addr} {i : Nat} (x : ItAt c h it a i) (k : ∀ o, h.get? it = some o → h'.get? it = some o) : ItAt c h' it a i := by
  cases c with
  | true => exact Heap.IsTupleIter.at x k
  | false => exact Heap.IsListIter.at x k
theorem ItAt.obj {c : Bool} {h : Heap} {it a : Addr} {i : Nat} (x : ItAt c h it a i) : ∃ o, h.get? it = some o ∧ ∀ v, o.data ≠ .cell v := by
  cases c with
  | true =>
    obtain ⟨o, e, _, d⟩ := x
    exact ⟨o, e, fun v z => by rw [d] at z; cases z⟩
  | false =>
    obtain ⟨o, e, _, d⟩ := x
    exact ⟨o, e, fun v z => by rw [d] at z; cases z⟩
def ItZ (K : PySem.W.Frag) (c1 c2 : Bool) (a b : Addr) (xs ys : List V) : It where
  go := fun i H => SqX K c1 H a xs ∧ SqX K c2 H b ys ∧ i < xs.length ∧ i < ys.length
  yld := fun i H v H' => ∃ T x y, v = .ref T ∧ H T = none ∧ H' = upd H T (.tup [x, y]) ∧ xs[i]? = some x ∧ ys[i]? = some y
  stop := fun i H => SqX K c1 H a xs ∧ SqX K c2 H b ys ∧ i ≤ xs.length ∧ i ≤ ys.length ∧ (i = xs.length ∨ i = ys.length)
section
variable {X : Cx} {pins : List (Addr × Obj)} {σ : L2.St} {H : Hp} {s : Shared}
theorem seqX (I : Inv X pins σ H s) {c : Bool} {a : Addr} {xs : List V} (q : SqX X.K c H a xs) : ∃ its : List Value, Vals xs its ∧ HasX c s.heap a its.toArray ∧ a < s.heap.objs.size := by
  cases c with
  | true =>
    obtain ⟨its, r, p, _⟩ := I.tuple q
    obtain ⟨o, e, _⟩ := id p
    exact ⟨its, r, p, Heap.lt_size e⟩
  | false =>
    obtain ⟨its, r, p, _⟩ := I.list q
    exact ⟨its, r, p.isList, p.lt⟩
theorem turn_zipM {P : Program} {w : World} {K : PySem.W.Frag} {elts : List Expr} {kk : Nat} {tpos : Pos} {c1 c2 : Bool} {a b z TI TO i1 i2 : Addr} {xs ys : List V} (D : ZipSep2 z TI TO i1 i2 [i1, a] [i2, b]) (n1 : a ≠ i1) (n2 : b ≠ i2) :
    Turn P w K (.Tuple elts kk tpos) (ItZ K c1 c2 a b xs ys) [z, TI, TO, i1, i2] z (fun i h => IsZip h z TI TO .none ∧ IsTupOf2 h TI (.ref i1) (.ref i2) ∧ (∃ x y, IsTupOf2 h TO x y) ∧ ItAt c1 h i1 a i ∧ ItAt c2 h i2 b i) where
  mem := by simp
  obj := by
    rintro i h ⟨hz, hTI, ⟨x, y, hTO⟩, h1, h2⟩ c hc
    have cases5 : c = z ∨ c = TI ∨ c = TO ∨ c = i1 ∨ c = i2 := by simpa using hc
    rcases cases5 with rfl | rfl | rfl | rfl | rfl
    · exact ⟨_, hz, fun v q => nomatch q⟩
    · exact ⟨_, hTI, fun v q => nomatch q⟩
    · exact ⟨_, hTO, fun v q => nomatch q⟩
    · exact h1.obj
    · exact h2.obj
  keep := by
    rintro i h h' ⟨hz, hTI, ⟨x, y, hTO⟩, h1, h2⟩ k
    exact ⟨k z (by simp) _ hz, k TI (by simp) _ hTI, ⟨x, y, k TO (by simp) _ hTO⟩, h1.at fun o q => k i1 (by simp) o q, h2.at fun o q => k i2 (by simp) o q⟩
  item := by
    rintro X rfl rfl rfl hc i pins s σ H E I hf ⟨hz, hTI, ⟨x0, y0, hTO⟩, h1, h2⟩ ⟨qx, qy, lx, ly⟩
    obtain ⟨its1, rv1, p1, _⟩ := seqX I qx
    obtain ⟨its2, rv2, p2, _⟩ := seqX I qy
    have m1 := rv1.length
    have m2 := rv2.length
    have hzl : z < s.heap.objs.size := Heap.lt_size hz
    have hh : X.A.in1.handled = none := I.ok.hd hc
    refine wpAny_pyNext_zipD2_item D (drawsX hh c1 i1 a n1 its1.toArray) (drawsX hh c2 i2 b n2 its2.toArray) hz hTI hTO ⟨h1, p1⟩ ⟨h2, p2⟩ (by simpa [← m1] using lx) (by simpa [← m2] using ly) ?_
    intro u1 u2 h' tk e1 e2 z' TO' st1 st2 hT hsz hk
    refine ⟨_, rfl, wpAny_letOwnedTupleGo_zip (s := { s with heap := h', toks := tk }) z' fun h'' z'' sb => ?_⟩
    obtain ⟨x, ex⟩ : ∃ x, xs[i]? = some x := ⟨xs[i], by simp [lx]⟩
    obtain ⟨y, ey⟩ : ∃ y, ys[i]? = some y := ⟨ys[i], by simp [ly]⟩
    obtain ⟨v1, g1, r1⟩ := rv1.get ex
    obtain ⟨v2, g2, r2⟩ := rv2.get ey
    have w1 : v1 = u1 := by
      have : its1[i]? = some u1 := by simpa using e1
      rw [g1] at this
      exact Option.some.inj this
    have w2 : v2 = u2 := by
      have : its2[i]? = some u2 := by simpa using e2
      rw [g2] at this
      exact Option.some.inj this
    subst w1 w2
    have hT2 : h''.get? s.heap.objs.size = some { cls := .type "tuple", data := .seq #[v1, v2] } := (sb.2 _ (Nat.ne_of_gt hzl)).trans hT
    have new : ObjOk X.prog X.w (upd H s.heap.objs.size (.tup [x, y])) h'' s.heap.objs.size (.tup [x, y]) :=
      ⟨by show 2 ≤ sizeLine; decide, [v1, v2], .cons r1 (.cons r2 .nil), ⟨_, hT2, rfl, _, rfl⟩⟩
    have all : ∀ c o, c ∉ [z, TI, TO, i1, i2] → s.heap.get? c = some o → h''.get? c = some o := by
      intro c o hb q
      simp only [List.mem_cons, List.not_mem_nil, or_false, not_or] at hb
      exact (sb.2 c hb.1).trans (hk c o hb.1 hb.2.2.1 hb.2.2.2.1 hb.2.2.2.2 q)
    have I1 := I.turnedNew (t' := tk) (ch := [z, TI, TO, i1, i2]) all hf (Nat.le_refl _) new
    refine ⟨.ref s.heap.objs.size, _, I1, rfl, ⟨_, x, y, rfl, I.hok.fresh (Nat.le_refl _), rfl, ex, ey⟩, ⟨z'', ?_, ⟨v1, v2, ?_⟩, ?_, ?_⟩, fun c hcm => ?_⟩
    · exact (sb.2 _ D.TIz).trans (hk _ _ D.TIz D.TITO D.TIi1 D.TIi2 hTI)
    · exact (sb.2 _ D.TOz).trans TO'
    · exact st1.1.at fun o q => (sb.2 _ (fun e => D.zf1 (by simp [e]))).trans q
    · exact st2.1.at fun o q => (sb.2 _ (fun e => D.zf2 (by simp [e]))).trans q
    · have hlt : c < s.heap.objs.size := by
        have cases5 : c = z ∨ c = TI ∨ c = TO ∨ c = i1 ∨ c = i2 := by simpa using hcm
        rcases cases5 with rfl | rfl | rfl | rfl | rfl
        · exact hzl
        · exact Heap.lt_size hTI
        · exact Heap.lt_size hTO
        · obtain ⟨_, e, _⟩ := h1.obj; exact Heap.lt_size e
        · obtain ⟨_, e, _⟩ := h2.obj; exact Heap.lt_size e
      rw [upd_ne (Nat.ne_of_lt hlt)]
      exact (hf c hcm).1
  done := by
    rintro X rfl rfl rfl hc i pins s σ H E I hf ⟨hz, hTI, ⟨x0, y0, hTO⟩, h1, h2⟩ ⟨qx, qy, lx, ly, en⟩
    obtain ⟨its1, rv1, p1, _⟩ := seqX I qx
    obtain ⟨its2, rv2, p2, _⟩ := seqX I qy
    have m1 := rv1.length
    have m2 := rv2.length
    have hh : X.A.in1.handled = none := I.ok.hd hc
    refine wpAny_pyNext_zipD2_end D (drawsX hh c1 i1 a n1 its1.toArray) (drawsX hh c2 i2 b n2 its2.toArray) hz hTI hTO ⟨h1, p1⟩ ⟨h2, p2⟩ (by simpa [← m1] using lx) (by simpa [← m2] using ly) (by simpa [← m1, ← m2] using en) ?_
    intro h' tk hk
    refine ⟨rfl, I.turnedL (t' := tk) (ch := [z, TI, TO, i1, i2]) (fun c o hb q => ?_) hf⟩
    simp only [List.mem_cons, List.not_mem_nil, or_false, not_or] at hb
    exact hk c o hb.1 hb.2.2.1 hb.2.2.2.1 hb.2.2.2.2 q
  self := fun A i s Q E st h => wpAny_pyIter_zip st.1 h
end
theorem sep_zip (n a b : Nat) (ha : a < n) (hb : b < n) : ZipSep2 (n + 4) (n + 2) (n + 3) n (n + 1) [n, a] [n + 1, b] where
  TIz := by show n + 2 ≠ n + 4; omega
  TOz := by show n + 3 ≠ n + 4; omega
  TITO := by show n + 2 ≠ n + 3; omega
  TIi1 := by show n + 2 ≠ n; omega
  mem1 := by simp
  zf1 := by
    intro h
    have h : n + 4 = n ∨ n + 4 = a := by simpa using h
    omega
  Tf1 := by
    intro h
    have h : n + 3 = n ∨ n + 3 = a := by simpa using h
    omega
  TIi2 := by show n + 2 ≠ n + 1; omega
  mem2 := by simp
  zf2 := by
    intro h
    have h : n + 4 = n + 1 ∨ n + 4 = b := by simpa using h
    omega
  Tf2 := by
    intro h
    have h : n + 3 = n + 1 ∨ n + 3 = b := by simpa using h
    omega
  sep1_2 := by
    intro h
    have h : n = n + 1 ∨ n = b := by simpa using h
    omega
  sep2_1 := by
    intro h
    have h : n + 1 = n ∨ n + 1 = a := by simpa using h
    omega
def iZipM (K : PySem.W.Frag) (ta : TA) : TI := fun σ H R => ta σ H fun vs H1 => ∃ c1 c2 a b xs ys, vs = [.ref a, .ref b] ∧ SqX K c1 H1 a xs ∧ SqX K c2 H1 b ys ∧ R (ItZ K c1 c2 a b xs ys) H1
theorem pi_zipM {X : Cx} {e e2 : Expr} {ta : TA} {p pos tpos : Pos} {elts : List Expr} {kk : Nat} (hg : Gl X "zip") (hm : X.mg "zip" = none) (ha : PA X [e, e2] ta)
    (hs : starEach [e, e2] X.env = (false, eval e X.env) :: starEach [e2] X.env := by rfl) (hpl : (backTo pos (starEach [e2] X.env)).any (·.1) = false := by rfl) :
    PI X (.Tuple elts kk tpos) (.Call (.Name "zip" p) [e, e2] [] pos) (iZipM X.K ta) := by
  constructor
  intro pins s σ H R I want
  refine PyProof.Rows.Call_ (ld_blt I hg hm PyProof.Rows.boot_zip ?_)
  apply PyProof.Rows.callWith_type1 _ hs hpl
  apply thn (ha.run pos pins s σ H _ I want)
  rintro us s1 ⟨vs, H1, I1, r1, c1, c2, a, b, xs, ys, rfl, qx, qy, q⟩
  obtain ⟨u1, u2, rfl, ru1, ru2⟩ := vals2 r1
  obtain rfl : u1 = .ref a := ru1
  obtain rfl : u2 = .ref b := ru2
  obtain ⟨its1, rv1, p1, l1⟩ := seqX I1 qx
  obtain ⟨its2, rv2, p2, l2⟩ := seqX I1 qy
  have fresh : ∀ c, c ∈ [s1.heap.objs.size + 4, s1.heap.objs.size + 2, s1.heap.objs.size + 3, s1.heap.objs.size, s1.heap.objs.size + 1] → FpOk X pins H1 c := by
    intro c hcm
    have le : s1.heap.objs.size ≤ c := by
      simp only [List.mem_cons, List.not_mem_nil, or_false] at hcm
      omega
    exact I1.fpOk le (I1.hok.fresh le)
  have sep := sep_zip s1.heap.objs.size a b l1 l2
  have done : ∀ {o1 o2 : Obj} (h' : Heap), IsZip h' (s1.heap.objs.size + 4) (s1.heap.objs.size + 2) (s1.heap.objs.size + 3) .none →
      IsTupOf2 h' (s1.heap.objs.size + 2) (.ref s1.heap.objs.size) (.ref (s1.heap.objs.size + 1)) → IsTupOf2 h' (s1.heap.objs.size + 3) .none .none →
      ItAt c1 h' s1.heap.objs.size a 0 → ItAt c2 h' (s1.heap.objs.size + 1) b 0 → (∀ c o, s1.heap.get? c = some o → h'.get? c = some o) →
      wpAny (model X.prog X.w) X.A (pyIter (.ref (s1.heap.objs.size + 4))) (PIE X pins σ (.Tuple elts kk tpos) R) X.xe { s1 with heap := h' } := by
    intro o1 o2 h' hz hTI hTO h1 h2 hk
    apply wpAny_pyIter_zip hz
    have I2 : Inv X pins σ H1 { s1 with heap := h' } := I1.kept (t' := s1.toks) hk
    exact ⟨_, _, _, _, H1, rfl, I2, turn_zipM sep (Nat.ne_of_lt l1) (Nat.ne_of_lt (Nat.lt_succ_of_lt l2)), ⟨hz, hTI, ⟨_, _, hTO⟩, h1, h2⟩, fresh, q⟩
  cases c1 with
  | true =>
    cases c2 with
    | true => exact zip_begins2 (begins_tuple a its1.toArray) (begins_tuple b its2.toArray) p1 p2 fun h' hz hTI hTO g1 g2 _ hk => done (o1 := default) (o2 := default) h' hz hTI hTO ⟨_, g1, rfl, rfl⟩ ⟨_, g2, rfl, rfl⟩ hk
    | false => exact zip_begins2 (begins_tuple a its1.toArray) (begins_list b its2.toArray) p1 p2 fun h' hz hTI hTO g1 g2 _ hk => done (o1 := default) (o2 := default) h' hz hTI hTO ⟨_, g1, rfl, rfl⟩ ⟨_, g2, rfl, rfl⟩ hk
  | false =>
    cases c2 with
    | true => exact zip_begins2 (begins_list a its1.toArray) (begins_tuple b its2.toArray) p1 p2 fun h' hz hTI hTO g1 g2 _ hk => done (o1 := default) (o2 := default) h' hz hTI hTO ⟨_, g1, rfl, rfl⟩ ⟨_, g2, rfl, rfl⟩ hk
    | false => exact zip_begins2 (begins_list a its1.toArray) (begins_list b its2.toArray) p1 p2 fun h' hz hTI hTO g1 g2 _ hk => done (o1 := default) (o2 := default) h' hz hTI hTO ⟨_, g1, rfl, rfl⟩ ⟨_, g2, rfl, rfl⟩ hk

/-! ### over data -/
/-- pairs -/
def zipD (xs ys : List D) : List D := List.zipWith (fun x y => D.tup [x, y]) xs ys
theorem zipD_len (xs ys : List D) : (zipD xs ys).length = min xs.length ys.length := List.length_zipWith
def dZip (ta : DTA) : DTA := fun δ S Q => ta δ S fun ds S1 => match ds with
  | [p, q] => items (fun xs S2 => items (fun ys S3 => Q (zipD xs ys) S3) q S2) p S1
  | _ => False
section
variable {X : Cx} {dx : Dx} {K : PySem.W.Frag} {H : Hp} {S : Sto}
theorem seq_data {v : V} {d : D} {Q : List D → Sto → Prop} (h : Dt K (Mu dx S) H v d) (t : items Q d S) :
    ∃ c a vs ds, v = .ref a ∧ DtAll K (Mu dx S) H vs ds ∧ Q ds S ∧ SqX K c H a vs ∧ ∀ M H', ExtD (Mu dx S) H M H' → SqX K c H' a vs := by
  cases h with
  | tup n hr al => exact ⟨true, _, _, _, rfl, al, t, .inl hr, fun M H' x => .inl (x.rd n hr)⟩
  | ktup hr al => exact ⟨true, _, _, _, rfl, al, t, .inr hr, fun M H' x => .inr hr⟩
  | lst n hr al => exact ⟨false, _, _, _, rfl, al, t, SqL.of hr, fun M H' x => SqL.of (x.keep _ _ n hr)⟩
  | fls n hr => exact ⟨false, _, _, _, rfl, DtAll.ints _, t, .inl hr, fun M H' x => .inl (x.rd n hr)⟩
  | kfls hr => exact ⟨false, _, _, _, rfl, DtAll.ints _, t, .inr hr, fun M H' x => .inr hr⟩
  | _ => exact t.elim
theorem walks_zip {c1 c2 : Bool} {a b : Addr} {vs ws : List V} {xs ys : List D} (al : DtAll K (Mu dx S) H vs xs) (bl : DtAll K (Mu dx S) H ws ys)
    (sa : ∀ M H', ExtD (Mu dx S) H M H' → SqX K c1 H' a vs) (sb : ∀ M H', ExtD (Mu dx S) H M H' → SqX K c2 H' b ws) : Walks K dx (ItZ K c1 c2 a b vs ws) (zipD xs ys) S H := by
  have la := al.length
  have lb := bl.length
  refine ⟨fun H' => SqX K c1 H' a vs ∧ SqX K c2 H' b ws, fun i H v H' => ∃ T x y, v = .ref T ∧ H T = none ∧ H' = upd H T (.tup [x, y]) ∧ vs[i]? = some x ∧ ws[i]? = some y, ⟨?_, ?_, fun i H x H' _ _ y => y⟩, fun M H2 lv x2 => ⟨⟨sa _ _ x2, sb _ _ x2⟩, ?_⟩⟩
  · intro i H' hi g
    rw [zipD_len] at hi
    exact ⟨g.1, g.2, by omega, by omega⟩
  · intro H' g
    rw [zipD_len]
    exact ⟨g.1, g.2, by omega, by omega, by omega⟩
  · rintro i v H3 hi ⟨T, x, y, rfl, n, rfl, ex, ey⟩
    obtain ⟨d1, f1, g1⟩ := (al.extD x2).getV ex
    obtain ⟨d2, f2, g2⟩ := (bl.extD x2).getV ey
    refine ⟨same_new n, .tup [d1, d2], ?_, .tup (fun z => lv T z n) (.inl upd_same) (.cons (g1.ext (ext_new n)) (.cons (g2.ext (ext_new n)) .nil))⟩
    unfold zipD
    rw [List.getElem?_zipWith, f1, f2]
theorem di_zip {tg st : Expr} {ta : TA} {fa : DTA} {es : List Expr} (ha : DA X dx es ta fa) (hp : PI X tg st (iZipM X.K ta)) : DI X dx tg st (iZipM X.K ta) (dZip fa) := by
  refine ⟨hp, fun σ H δ S Q R r s t k => ?_⟩
  refine ha.go σ H δ S _ _ r s t fun vs H1 ds S1 r1 x1 d1 t1 => ?_
  cases d1 with
  | nil => exact t1.elim
  | cons h1 d1 =>
    cases d1 with
    | nil => exact t1.elim
    | cons h2 d1 =>
      cases d1 with
      | cons _ _ => exact t1.elim
      | nil =>
        obtain ⟨c1, a, vs1, xs, rfl, al, t2, q1, s1⟩ := seq_data h1 t1
        obtain ⟨c2, b, vs2, ys, rfl, bl, t3, q2, s2⟩ := seq_data h2 t2
        exact ⟨c1, c2, a, b, vs1, vs2, rfl, q1, q2, k _ H1 _ S1 r1 x1 (walks_zip al bl s1 s2) t3⟩
end
end DL
/-! The end of a law: its def's promise, at the heap behind the top. -/
namespace DL
open PySem PySem.Spec L2 Gd

section
variable {P : Program} {w : World} {K : PySem.W.Frag} {mg mb : Str → Option Value} {k : Nat} {fa a : Addr} {fd : FuncData} {x : Str} {sp : Sp} {s1 : Shared} {vs : List Value} {ns : List Int}

/-- the heap as it stands when the law is called: nothing is tracked but the script, by what holds of it -/
structure Entry (P : Program) (w : World) (K : PySem.W.Frag) (H : Hp) (h : Heap) (a : Addr) (ns : List Int) : Prop where
  ok : HOk P w H h
  only : ∀ b u, H b = some u → b = a ∧ K.lookup a = none ∧ ∃ o, h.get? b = some o ∧ u = .frz o (.lst (ns.map V.int))
  script : SqL K H a (ns.map V.int)
theorem entry_of (inK : K.In s1.heap) (at_ : s1.heap.get? a = some { cls := .type "list", data := .seq vs.toArray }) (its : PyProof.Rows.IntsAre vs ns) (few : ns.length ≤ sizeLine) :
    ∃ H, Entry P w K H s1.heap a ns := by
  have rel : Vals (ns.map V.int) vs := vals_of_ints its
  have len : vs.length = ns.length := by
    have := rel.length
    rw [List.length_map] at this
    exact this.symm
  cases known : K.lookup a with
  | some o =>
    have e := inK a o known
    rw [at_] at e
    cases e
    refine ⟨fun _ => none, fun b u e => (nomatch e), fun b u e => (nomatch e), .inr ⟨_, vs.toArray, _, known, rfl, rfl, rfl, ?_, by simpa using rel⟩⟩
    rw [List.size_toArray, len]
    exact few
  | none =>
    let ob : Obj := { cls := .type "list", data := .seq vs.toArray }
    refine ⟨fun b => if b = a then some (.frz ob (.lst (ns.map V.int))) else none, ?_, ?_, .inl (.inr ⟨ob, if_pos rfl⟩)⟩
    · intro b u e
      by_cases q : b = a
      · have e := (if_pos q).symm.trans e
        cases e
        subst q
        exact ⟨at_, by rw [List.length_map]; exact few, vs, _, rel, at_⟩
      · have e := (if_neg q).symm.trans e
        cases e
    · intro b u e
      by_cases q : b = a
      · have e := (if_pos q).symm.trans e
        cases e
        subst q
        exact ⟨rfl, known, ob, at_, rfl⟩
      · have e := (if_neg q).symm.trans e
        cases e
theorem law_run (inK : K.In s1.heap) (ng : s1.heap.Ns mainGlobals mg) (nbl : s1.heap.Ns builtinsNs mb) (same : ∀ y : Str, y ≠ "__name__" → mb y = bootBuiltins y) (calm : s1.heap.NoLimit) (gens : s1.gens = #[])
    (at_ : s1.heap.get? a = some { cls := .type "list", data := .seq vs.toArray }) (its : PyProof.Rows.IntsAre vs ns) (few : ns.length ≤ sizeLine) (room : Room k callerA)
    (F : ∀ base : Heap, K.In base → base.Ns mainGlobals mg → FnG P w K mg base CX0 k fa fd [x] sp) (bind : ∀ (s : Shared) (u : Value), BindsTo s fd ⟨[u], []⟩ [(x, u)])
    (hsp : ∀ H : Hp, (∀ b u, H b = some u → ∃ o, u = .frz o (.lst (ns.map V.int))) → SqL K H a (ns.map V.int) → sp [.ref a] H (fun v _ => v = .bl true) fun _ _ _ => False) :
    codeAny (model P w) callerA (.call (.ref fa) ⟨[.ref a], []⟩) (fun r s' => r = .ok (.ret (.bool true)) ∧ OldK s1.heap s'.heap ∧ s'.os = s1.os ∧ PyProof.Rows.AllBare s'.gens) s1 := by
  obtain ⟨H, E⟩ := entry_of (P := P) (w := w) inK at_ its few
  have free : ∀ {b : Addr} {o : Obj}, s1.heap.get? b = some o → (∀ xs n, o.data ≠ .seq xs n) → H b = none := by
    intro b o e d
    cases q : H b with
    | none => rfl
    | some u =>
      obtain ⟨rfl, _, _⟩ := E.only b u q
      rw [at_] at e
      cases e
      exact absurd rfl (d _ _)
  have ns_of : ∀ {b : Addr} {m : Str → Option Value}, s1.heap.Ns b m → (hidT s1.heap H).Ns b m := by
    rintro b m ⟨o, es, ep, e, d, q⟩
    exact ⟨o, es, ep, hidT_get e (free e fun xs n z => by rw [d] at z; cases z), d, q⟩
  have kin : K.In (hidT s1.heap H) := by
    intro b o e
    refine hidT_get (inK b o e) ?_
    cases q : H b with
    | none => rfl
    | some u =>
      obtain ⟨rfl, z, _⟩ := E.only b u q
      rw [z] at e
      cases e
  have modf : Mod K mg (hidT s1.heap H) := ⟨kin, ns_of ng, ⟨mb, ns_of nbl, same⟩, by obtain ⟨mc, z1, z2⟩ := calm; exact ⟨mc, ns_of z1, z2⟩⟩
  have none_ : ∀ {b : Addr}, b ∈ frs ([] : List Env) → False := fun h => by simp [frs] at h
  have env0 : Env0 P w K mg (hidT s1.heap H) callerA [] s1 H :=
    ⟨rfl, modf, fun b o e => of_hidT e, Nat.le_of_eq (hidT_size _ _), trivial, fun b hb => (none_ hb).elim, E.ok, .of_eq gens⟩
  apply codeAny_mono ((F _ kin (ns_of ng)).goes callerA [] s1 H ⟨[.ref a], []⟩ [.ref a] [.ref a] _ _ room rfl env0 (bind s1 (.ref a)) (.cons rfl .nil)
    (hsp H (fun b u q => by obtain ⟨_, _, o, _, z⟩ := E.only b u q; exact ⟨o, z⟩) E.script))
  intro r s2 h
  match r, h with
  | .error e, h => exact h.elim
  | .ok .next, h => exact h.elim
  | .ok .brk, h => exact h.elim
  | .ok .cont, h => exact h.elim
  | .ok (.ret u), ⟨v, H2, os, bare, un, hok, rv, q⟩ =>
    have q : v = .bl true := q
    subst q
    obtain rfl : u = .bool true := rv
    refine ⟨rfl, OldK.of_keep fun b o e => ?_, os, bare⟩
    cases z : H b with
    | none => exact un.keep b o e z (fun hb => none_ hb) (by simp)
    | some u =>
      obtain ⟨_, _, o2, e2, rfl⟩ := E.only b u z
      have z2 := un.frzs b o2 _ z
      obtain ⟨e3, _⟩ := hok b _ z2
      rw [e] at e2
      cases e2
      exact e3
/-- the goal that the head leaves -/
theorem walkG {l : PySem.W.OpenLaw} {n k : Nat} {q : Program} {loose : List Str} {XP : (Str → Option Value) → Heap → Prop} {YP : World → Heap → Prop} {d : DefRec} {K : Params → PySem.W.Frag} {sp : PySem.W.Frag → Sp} {x : Str}
    (most : l.most = some n) (few : n ≤ sizeLine) (plain : d.params.defaults = []) (room : Room k callerA)
    (hY : ∀ (w : World) (h : Heap), YP w h → (K w.params).In h)
    (F : ∀ (w : World) (mg : Str → Option Value) (fa : Addr) (h : Heap), (K w.params).In h → h.Ns mainGlobals mg → mg d.name = some (.ref fa) →
      ∃ fd : FuncData, (∀ (s : Shared) (u : Value), BindsTo s fd ⟨[u], []⟩ [(x, u)]) ∧
        ∀ base : Heap, (K w.params).In base → base.Ns mainGlobals mg → FnG l.prog w (K w.params) mg base CX0 k fa fd [x] (sp (K w.params)))
    (hsp : ∀ (K : PySem.W.Frag) (H : Hp) (a : Addr) (ns : List Int), ns.length ≤ n → (∀ b u, H b = some u → ∃ o, u = .frz o (.lst (ns.map V.int))) → SqL K H a (ns.map V.int) → sp K [.ref a] H (fun v _ => v = .bl true) fun _ _ _ => False) :
    PySem.W.WalkO q loose XP YP l.row.toRowW d [] (fun f vs => PySem.call f vs) := by
  apply Att.attach_call most plain
  intro w s0 s1 mg mb fa o pm cd doc a vs ns G Y ho hd hcd hmg hobj hints hlen hg
  have inK := hY w _ Y
  obtain ⟨fd, hb, hF⟩ := F w mg fa _ inK G.T.g hmg
  exact law_run inK G.T.g G.T.b G.T.builtins G.T.nolimit hg hobj hints (Nat.le_trans hlen few) room hF hb (fun H hO hS => hsp (K w.params) H a ns hlen hO hS)
end
end DL
/-! A source of draws, handed from def to def; the law itself. -/
namespace DL
open PySem PySem.Spec L2 Gd

def handR (a c : Addr) : Addr → Prop := fun b => b = a ∨ b = c
def ROk (cs : List Int) (z : Int) : Prop := (∀ x ∈ cs, 0 ≤ x) ∧ cs.length ≤ 63 ∧ 0 ≤ z ∧ z < 2 ^ 40
def RandOk (a c : Addr) : Hp → Prop := fun H => a ≠ c ∧ ∃ (cs : List Int) (z : Int), H a = some (.lst [.ref c, .int z]) ∧ H c = some (.lst (cs.map V.int)) ∧ ROk cs z
def spR (K : PySem.W.Frag) (spec : Addr → DSpec) : Sp := fun vs H Q E => ∃ a c, spD K (handR a c) (RandOk a c) (spec a) vs H Q E
section
variable {P : Program} {w : World} {K : PySem.W.Frag} {mg : Str → Option Value} {base : Heap}
theorem fnR {k : Nat} {x qual : Str} {st : Stmt} {f : Addr} {fd : FuncData} {N ps : List Str} {spec : Addr → DSpec}
    (F : Fun K x qual st f fd) (S : FnScope N ps (defScope st)) (len : ∀ a ds post, spec a ds post → ds.length = ps.length)
    (body : ∀ (cdv : Value) (A : Around) (fr : List Env) (s : Shared) (H : Hp) (E : XK), Room k (A.deeper (PyProof.Rows.envOfC qual (defScope st) s.heap.objs.size f cdv)) → A.guards = some [] →
      ∀ (a c : Addr) (dx : Dx), dx.hand = handR a c → dx.J = RandOk a c → ∃ ts t, DSs (Body P w K mg base N qual st f cdv A fr s H E) dx (defBody st) ts t ∧
        ∀ ds post, spec a ds post → t { nx := fun _ _ => post .non, rt := fun d _ => post d } (startD N ds) []) :
    FnG P w K mg base CX0 (k + 1) f fd ps (spR K spec) := by
  refine fnG_body F S ?_ ?_
  · rintro vs H Q E ⟨a, c, m, ds, post, _, _, _, _, al, sp, _⟩
    rw [al.length]
    exact len a ds post sp
  · rintro cdv A fr s H vs Q E room guard ⟨a, c, m, ds, post, live, hm, stab, j, al, sp, k'⟩
    obtain ⟨ts, t, h, q⟩ := body cdv A fr s H E room guard a c ⟨m, H, handR a c, RandOk a c⟩ rfl rfl
    refine ⟨ts, h.pe.nox, ?_⟩
    have le : ExtD (Fo m) H (Mu ⟨m, H, handR a c, RandOk a c⟩ []) H := by
      refine ⟨fun _ _ _ e => e, fun b z n => ?_⟩
      rcases z with z | z | z
      · exact absurd (.inl z) n
      · exact absurd (.inl (hm b z)) n
      · cases z
    have r : HR K ⟨m, H, handR a c, RandOk a c⟩ H [] := ⟨fun p xs z => (nomatch z), List.nodup_nil, live, fun p z => (nomatch z), fun b o e _ => e, j, stab, hm⟩
    refine h.go _ H (startD N ds) [] { nx := fun _ _ => post .non, rt := fun d _ => post d } _ r (start_sr (al.extD le)) (q ds post sp) ⟨?_, ?_, ?_, ?_⟩
    · intro σ' H' δ' S' r' x' s' p'
      exact k' .non H' .non r'.keep r'.live r'.j .non p'
    · intro σ' H' δ' S' r' x' s' p'
      exact p'.elim
    · intro σ' H' δ' S' r' x' s' p'
      exact p'.elim
    · intro v H' d S' r' x' hd p'
      exact k' v H' d r'.keep r'.live r'.j hd p'

/-- a number below another one -/
def spDraw : Addr → DSpec := fun a ds post => ∃ m : Int, ds = [.adr a, .int m] ∧ 1 ≤ m ∧ m < 2 ^ 62 ∧ ∀ r : Int, 0 ≤ r → r < m → post (.int r)
def drawEnd (a c : Addr) (m : Int) : D → Sto → Prop := fun d S => ∃ (r : Int) (cs : List Int) (z : Int), d = .int r ∧ 0 ≤ r ∧ r < m ∧ getS S a = some [.adr c, .int z] ∧ getS S c = some (cs.map D.int) ∧ ROk cs z
theorem fnDraw {k : Nat} {x qual : Str} {st : Stmt} {f : Addr} {fd : FuncData} {N ps : List Str}
    (F : Fun K x qual st f fd) (S : FnScope N ps (defScope st)) (len : ps.length = 2)
    (body : ∀ (cdv : Value) (A : Around) (fr : List Env) (s : Shared) (H : Hp) (E : XK), Room k (A.deeper (PyProof.Rows.envOfC qual (defScope st) s.heap.objs.size f cdv)) → A.guards = some [] →
      ∀ (dx : Dx), ∃ ts t, DSs (Body P w K mg base N qual st f cdv A fr s H E) dx (defBody st) ts t ∧
        ∀ (a c : Addr) (cs : List Int) (z m : Int), a ≠ c → ROk cs z → 1 ≤ m → m < 2 ^ 62 → t { nx := fun _ _ => False, rt := drawEnd a c m } (startD N [.adr a, .int m]) [(a, [.adr c, .int z]), (c, cs.map D.int)]) :
    FnG P w K mg base CX0 (k + 1) f fd ps (spR K spDraw) := by
  refine fnG_body F S ?_ ?_
  · rintro vs H Q E ⟨a, c, m, ds, post, _, _, _, _, al, ⟨_, rfl, _⟩, _⟩
    rw [al.length, len]
    rfl
  · rintro cdv A fr s H vs Q E room guard ⟨a, c, mm, ds, post, live, hm, stab, j, al, ⟨m, rfl, m1, m2, kp⟩, k'⟩
    obtain ⟨ne, cs, z, ha, hc, ok⟩ := j
    have hvs : vs = [.ref a, .int m] := by
      cases al with
      | cons h1 al =>
        cases h1
        cases al with
        | cons h2 al =>
          cases h2
          cases al
          rfl
    subst hvs
    let H0 : Hp := fun b => if b = a ∨ b = c then none else H b
    let dx : Dx := ⟨fun b => mm b ∧ ¬ (b = a ∨ b = c), H0, noHand, noJ⟩
    obtain ⟨ts, t, h, q⟩ := body cdv A fr s H E room guard dx
    refine ⟨ts, h.pe.nox, ?_⟩
    have h0 : ∀ b, (b = a ∨ b = c) → H0 b = none := fun b e => if_pos e
    have h1 : ∀ b, ¬ (b = a ∨ b = c) → H0 b = H b := fun b e => if_neg e
    have r : HR K dx H [(a, [.adr c, .int z]), (c, cs.map D.int)] := by
      refine ⟨fun p xs mm => ?_, ?_, fun b mb => live b mb.1, fun p mp => ?_, fun b o e _ => ?_, trivial, fun _ _ _ _ => trivial, fun b z => z.elim⟩
      · rcases List.mem_cons.mp mm with e | mm
        · cases e
          exact ⟨_, ha, .cons (.adr c) (.cons (.int z) .nil)⟩
        · rcases List.mem_cons.mp mm with e | mm
          · cases e
            exact ⟨_, hc, DtAll.ints cs⟩
          · cases mm
      · show [a, c].Nodup
        simpa using ne
      · have mp : p ∈ [a, c] := mp
        have e : p = a ∨ p = c := by simpa using mp
        exact ⟨h0 p e, fun z => z.2 e⟩
      · by_cases e2 : b = a ∨ b = c
        · have e : H0 b = some o := e
          rw [h0 b e2] at e
          cases e
        · have e : H0 b = some o := e
          rw [h1 b e2] at e
          exact e
    refine h.go _ H (startD N [.adr a, .int m]) _ _ _ r (start_sr (.cons (.adr a) (.cons (.int m) .nil))) (q a c cs z m ne ok m1 m2) ⟨?_, ?_, ?_, ?_⟩
    · intro σ' H' δ' S' r' x' s' p'
      exact p'.elim
    · intro σ' H' δ' S' r' x' s' p'
      exact p'.elim
    · intro σ' H' δ' S' r' x' s' p'
      exact p'.elim
    · rintro v H' d S' r' x' hd ⟨r, cs', z', rfl, r0, r1, ga, gc, ok'⟩
      obtain ⟨_, va, ea, da⟩ := r'.get ga
      obtain ⟨_, vc, ec, dc⟩ := r'.get gc
      have ja : H' a = some (.lst [.ref c, .int z']) := by
        cases da with
        | cons h1 da =>
          cases h1
          cases da with
          | cons h2 da =>
            cases h2
            cases da
            exact ea
      have jc : H' c = some (.lst (cs'.map V.int)) := by
        rw [Dt.ints_of dc] at ec
        exact ec
      have hd2 : Dt K (Fo mm) H' v (.int r) := by
        cases hd
        exact .int r
      refine k' v H' _ (fun b o e n => ?_) (fun b mb => ?_) ⟨ne, cs', z', ja, jc, ok'⟩ hd2 (kp r r0 r1)
      · have n : ¬ (b = a ∨ b = c) := n
        exact r'.keep b o ((h1 b n).trans e) fun z => z
      · by_cases e2 : b = a ∨ b = c
        · rcases e2 with rfl | rfl
          · rw [ja]; exact fun z => nomatch z
          · rw [jc]; exact fun z => nomatch z
        · exact r'.live b ⟨mb, e2⟩

/-- the script in, a source of draws out -/
def spHeap : DSpec := fun ds post => ∃ ns : List Int, ds = [.fls ns] ∧ ns.length ≤ 63 ∧ ∀ (cs : List Int) (z : Int), ROk cs z → post (.lst [.lst (cs.map D.int), .int z])
def spL (K : PySem.W.Frag) : Sp := fun vs H Q _ => ∃ (a : Addr) (ns : List Int), vs = [.ref a] ∧ ns.length ≤ 63 ∧ (∀ b u, H b = some u → ∃ o, u = .frz o (.lst (ns.map V.int))) ∧ SqL K H a (ns.map V.int) ∧ ∀ H', Q (.bl true) H'
theorem fnLaw {k : Nat} {x qual : Str} {st : Stmt} {f : Addr} {fd : FuncData} {N ps : List Str} {y : Str} {py ps1 : Pos} {rest : List Stmt} {e1 : Expr}
    (F : Fun K x qual st f fd) (S : FnScope N ps (defScope st)) (len : ps.length = 1) (hb : defBody st = .Assign [.Name y py] e1 ps1 :: rest)
    (body : ∀ (cdv : Value) (A : Around) (fr : List Env) (s : Shared) (H : Hp) (E : XK), Room k (A.deeper (PyProof.Rows.envOfC qual (defScope st) s.heap.objs.size f cdv)) → A.guards = some [] →
      ∃ te ts, (∀ dx, DE (Body P w K mg base N qual st f cdv A fr s H E) dx e1 te (dCall spHeap (dCons (dVar 0) dNil))) ∧ PS (Body P w K mg base N qual st f cdv A fr s H E) (.Assign [.Name y py] e1 ps1) (tAsg te (gName 1)) ∧
        ∀ (a c : Addr) (dx : Dx), dx.hand = handR a c → dx.J = RandOk a c → ∃ t, DSs (Body P w K mg base N qual st f cdv A fr s H E) dx rest ts t ∧
          ∀ ns : List Int, ns.length ≤ 63 → t { nx := fun _ _ => False, rt := fun d _ => d = .bl true } (put (startD N [.fls ns]) 1 (.adr a)) []) :
    FnG P w K mg base CX0 (k + 1) f fd ps (spL K) := by
  refine fnG_body F S ?_ ?_
  · rintro vs H Q E ⟨a, ns, rfl, _⟩
    rw [len]
    rfl
  · rintro cdv A fr s H vs Q E room guard ⟨a0, ns, rfl, few, only, hS, k'⟩
    obtain ⟨te, ts, he, hp, hr⟩ := body cdv A fr s H E room guard
    refine ⟨tSeq (tAsg te (gName 1)) ts, ?_, ?_⟩
    · rw [hb]
      refine (pss_cons hp ?_).nox
      obtain ⟨t, h, _⟩ := hr 0 0 ⟨fun _ => False, H, handR 0 0, RandOk 0 0⟩ rfl rfl
      exact h.pe
    · let dx0 : Dx := ⟨fun _ => False, H, noHand, noJ⟩
      have r0 : HR K dx0 H [] := ⟨fun p xs z => (nomatch z), List.nodup_nil, fun b z => z.elim, fun p z => (nomatch z), fun b o e _ => e, trivial, fun _ _ _ _ => trivial, fun b z => z.elim⟩
      have nm : ∀ b, ¬ (Mu dx0 []).mu b := fun b z => by
        rcases z with z | z | z
        · exact z
        · exact z
        · cases z
      have d0 : Dt K (Mu dx0 []) H (.ref a0) (.fls ns) := by
        rcases hS with h | h
        · exact .fls (nm _) h
        · exact .kfls h
      refine (he dx0).go (L2.start N [.ref a0]) H (startD N [.fls ns]) [] (fun d S => S = [] ∧ ∃ cs z, ROk cs z ∧ d = .lst [.lst (cs.map D.int), .int z]) _ r0 (start_sr (.cons d0 .nil)) ?_ ?_
      · exact ⟨ns, rfl, few, fun cs z ok => ⟨rfl, cs, z, ok, rfl⟩⟩
      · rintro v H' d S' r' x' hd ⟨rfl, cs, z, ok, rfl⟩
        obtain ⟨a, vs, rfl, _, ha, al⟩ := hd.sqL
        have key : ∃ c, vs = [.ref c, .int z] ∧ H' c = some (.lst (cs.map V.int)) := by
          cases al with
          | cons h1 al =>
            obtain ⟨c, ws, rfl, _, hc, bl⟩ := h1.sqL
            rw [Dt.ints_of bl] at hc
            cases al with
            | cons h2 al =>
              cases h2
              cases al
              exact ⟨c, rfl, hc⟩
        obtain ⟨c, rfl, hc⟩ := key
        have ne : a ≠ c := fun e => by
          subst e
          rw [ha] at hc
          cases cs with
          | nil => cases hc
          | cons i cs => injection hc with hc; injection hc with hc; injection hc with hc; cases hc
        let dx1 : Dx := ⟨handR a c, H', handR a c, RandOk a c⟩
        have r1 : HR K dx1 H' [] := by
          refine ⟨fun p xs z => (nomatch z), List.nodup_nil, fun b hb => ?_, fun p z => (nomatch z), fun b o e _ => e, ⟨ne, cs, z, ha, hc, ok⟩, fun H1 H2 same j => ?_, fun b z => z⟩
          · rcases hb with rfl | rfl
            · rw [ha]; exact fun z => nomatch z
            · rw [hc]; exact fun z => nomatch z
          · obtain ⟨ne, cs, z, e1, e2, ok⟩ := j
            exact ⟨ne, cs, z, (same a (.inl rfl)).trans e1, (same c (.inr rfl)).trans e2, ok⟩
        have d1 : Dt K (Mu dx1 []) H' (.ref a0) (.fls ns) := by
          rcases hS with h | h
          · obtain ⟨o, e⟩ := Rd.some h
            obtain ⟨o', e'⟩ := only a0 o e
            subst e'
            have e2 := r'.keep a0 _ e (fun z => z)
            refine .fls ?_ (.inr ⟨o', e2⟩)
            have na : a0 ≠ a := fun z => by rw [z, ha] at e2; cases e2
            have nc : a0 ≠ c := fun z => by rw [z, hc] at e2; cases e2
            rintro ((z | z) | z)
            · exact na z
            · exact nc z
            · rcases z with (z | z) | z
              · exact na z
              · exact nc z
              · cases z
          · exact .kfls h
        obtain ⟨t, h, q⟩ := hr a c dx1 rfl rfl
        have s1 : SR K dx1 ((L2.start N [.ref a0]).set 1 (some (.ref a))) H' (put (startD N [.fls ns]) 1 (.adr a)) [] := by
          rw [put_set]
          exact (start_sr (.cons d1 .nil)).set 1 (.adr a)
        show ts _ ((L2.start N [.ref a0]).set 1 (some (.ref a))) H'
        refine h.go _ H' _ [] { nx := fun _ _ => False, rt := fun d _ => d = .bl true } _ r1 s1 (q ns few) ⟨?_, ?_, ?_, ?_⟩
        · intro σ' H' δ' S' r' x' s' p'
          exact p'.elim
        · intro σ' H' δ' S' r' x' s' p'
          exact p'.elim
        · intro σ' H' δ' S' r' x' s' p'
          exact p'.elim
        · rintro v H2 d S' r' x' hd rfl
          cases hd
          exact k' H2
end

section
variable {X : Cx} {dx : Dx} {k : Nat} {f a c : Addr} {fd : FuncData} {ps : List Str} {x : Str} {p pos : Pos} {e : Expr} {es : List Expr} {ta : TA} {fa : DTA} {spec : Addr → DSpec}
/-- f(heap, ..) -/
theorem de_callR (F : FnG X.prog X.w X.K X.mg X.base CX0 k f fd ps (spR X.K spec)) (room : Room k X.A) (guard : X.A.guards = some [])
    (hg : Gl X x) (hm : X.mg x = some (.ref f)) (kp : PySem.W.keepIn X.K (.ref f) = true) (hb : Binds X.K fd ps []) (h1 : dx.hand = handR a c) (h2 : dx.J = RandOk a c) (ha : DA X dx (e :: es) ta fa)
    (hdb : (x == ("__debug__" : Str)) = false := by decide)
    (he : starEach (e :: es) X.env = (false, eval e X.env) :: starEach es X.env := by rfl)
    (hpl : (backTo pos (starEach es X.env)).any (·.1) = false := by rfl) :
    DE X dx (.Call (.Name x p) (e :: es) [] pos) (tCall (spR X.K spec) [] (fun _ _ _ => False) ta) (dCall (spec a) fa) := by
  refine ⟨pe_callG F room guard hg hm kp hb .nil pass0 ha.pe hdb he hpl, fun σ H δ S Q Qh r s t kk => ?_⟩
  refine ha.go σ H δ S _ _ r s t fun vs H1 ds S1 r1 x1 d1 t1 => ?_
  rw [List.append_nil]
  exact ⟨a, c, spd_go r1 d1 (.inr ⟨h1.symm, h2.symm⟩) t1 (kk.on x1)⟩
/-- o[i] = e, of a list of one's own -/
def fSetI (o i d : D) (S : Sto) (k : Sto → Prop) : Prop := match o, i with
  | .adr p, .int j => opt (getS S p) fun ds => opt (ixN ds.length j) fun n => k (setS S p (ds.set n d))
  | _, _ => False
def dSetI (fe fo fi : DTE) : DTS := fun DD δ S => fe δ S fun d S1 => fo δ S1 fun o S2 => fi δ S2 fun i S3 => fSetI o i d S3 fun S4 => DD.nx δ S4
theorem ds_setI {st o i : Expr} {st' : Stmt} {te to ti : TE} {fe fo fi : DTE} (hE : DE X dx e te fe) (hO : DE X dx o to fo) (hI : DE X dx i ti fi) (hp : PS X st' (tAsg te (gSub to ti rSetL))) : DS X dx st' (tAsg te (gSub to ti rSetL)) (dSetI fe fo fi) := by
  refine ⟨hp, fun σ H δ S DD E r s q k => ?_⟩
  refine hE.go σ H δ S _ _ r s q fun v H1 d S1 r1 x1 d1 t1 => ?_
  refine hO.go σ H1 δ S1 _ _ r1 (s.ext x1) t1 fun vo H2 o S2 r2 x2 d2 t2 => ?_
  refine hI.go σ H2 δ S2 _ _ r2 (s.ext (x1.trans x2)) t2 fun vi H3 i S3 r3 x3 d3 t3 => ?_
  unfold fSetI at t3
  split at t3
  · rename_i p j
    obtain ⟨ds, g, t3⟩ := opt_run t3
    obtain ⟨n, en, t3⟩ := opt_run t3
    cases d3
    have d2' := d2.ext x3
    cases d2'
    obtain ⟨m, ws, eh, al⟩ := r3.get g
    have x4 : Ext (Mu dx S3) H3 (Mu dx (setS S3 p (ds.set n d))) (upd H3 p (.lst (ws.set n v))) := ext_set m
    refine ⟨p, ws, j, n, rfl, rfl, eh, by rw [al.length]; exact en, k.nx _ _ _ _ (r3.put m (al.set (d1.ext (x2.trans x3)) n)) (((x1.trans x2).trans x3).trans x4) (s.ext (((x1.trans x2).trans x3).trans x4)) t3⟩
  · exact t3.elim
end
end DL
/-! The rules once more, with what they need of single values made from their own parts. -/
namespace DL
open PySem PySem.Spec L2 Gd

structure CalD (K : PySem.W.Frag) (mg : Str → Option Value) (x : Str) (st : Stmt) (ps : List Str) where
  f : Addr
  fd : FuncData
  m : mg x = some (.ref f)
  F : Fun K x x st f fd
  b : Binds K fd ps []
section
variable {X : Cx} {dx : Dx} {a e o i tg st : Expr} {es : List Expr} {to te ti : TE} {ta : TA} {fo fe fi : DTE} {fa : DTA} {s : Stmt} {pos p : Pos} {x : Str}
theorem de_met' {r : V → List V → Hp → VK → Prop} {f} (m : MetD X.K dx r f) (ho : DE X dx a to fo) (ha : DA X dx es ta fa) (hp : PE X a to → PA X es ta → PE X st (tBM X.K "list" r to ta)) : DE X dx st (tBM X.K "list" r to ta) (dML f fo fa) := de_met m ho ha (hp ho.pe ha.pe)
theorem de_met0' {r : V → List V → Hp → VK → Prop} {f} (m : MetD X.K dx r f) (ho : DE X dx a to fo) (hp : PE X a to → PE X st (tBM0 X.K "list" r to)) : DE X dx st (tBM0 X.K "list" r to) (dML0 f fo) := de_met0 m ho (hp ho.pe)
def isi_tuple (t : String) : Bool := t == "tuple"
def isi_int (t : String) : Bool := t == "int" || t == "bool"
def isi_bool (t : String) : Bool := t == "bool"
def isi_list (t : String) : Bool := t == "list"
def isi_str (t : String) : Bool := t == "str"
theorem de_isi' {T : String} {f : String → Bool} (hf : ∀ t ∈ ["NoneType", "bool", "int", "str", "tuple", "list"], kitB t T = some (f t)) (he : DE X dx e te fe) (hp : PE X e te → PE X st (tIsi X.K T te)) : DE X dx st (tIsi X.K T te) (dIsi f fe) := de_isi hf he (hp he.pe)
theorem de_callB' {id : String} {r : List V → Hp → VK → Prop} {f} (hc : CallR X (.builtin id) r) (o : CallD X.K dx r f) (ha : DA X dx es ta fa) (hp : PA X es ta → PE X st (tCB r ta)) : DE X dx st (tCB r ta) (dCB f fa) := ⟨hp ha.pe, cb_go o ha⟩
theorem de_callTy' {id : String} {r : List V → Hp → VK → Prop} {f} (hc : CallR X (.type id) r) (o : CallD X.K dx r f) (ha : DA X dx es ta fa) (hp : PA X es ta → PE X st (tCB r ta)) : DE X dx st (tCB r ta) (dCB f fa) := ⟨hp ha.pe, cb_go o ha⟩
theorem dgs_cons' {g : TG} {u : TGs} {f : DTG} {w : DTGs} {o1 o2 : List Nat} (h1 : DG X dx e g f o1) (h2 : DGs X dx es u w o2) (hl : PG X e g → PGs X es u → PGs X (e :: es) (gCons g u)) : DGs X dx (e :: es) (gCons g u) (dgCons f w) (o1 ++ o2) := dgs_cons h1 h2 (hl h1.pe h2.pe)
theorem dg_tup' {k : Nat} {g : TGs} {f : DTGs} {n : Nat} {o : List Nat} (h : DGs X dx es g f o) (hp : PGs X es g → PG X (.Tuple es k pos) (gTup X.K n g)) : DG X dx (.Tuple es k pos) (gTup X.K n g) (dgTup n f) o := dg_tup h (hp h.pe)
theorem di_range3' {b c : Expr} (h : PA X [a, b, c] ta → PI X tg (.Call (.Name "range" p) [a, b, c] [] pos) (iRng3 ta)) (ha : DA X dx [a, b, c] ta fa) : DI X dx tg (.Call (.Name "range" p) [a, b, c] [] pos) (iRng3 ta) (dRng3 fa) := di_range3 (h ha.pe) ha
theorem di_zip' (ha : DA X dx es ta fa) (hp : PA X es ta → PI X tg st (iZipM X.K ta)) : DI X dx tg st (iZipM X.K ta) (dZip fa) := di_zip ha (hp ha.pe)
theorem di_rev' (he : DE X dx e te fe) (hp : PE X e te → PI X tg st (RT.iRevA X.K te)) : DI X dx tg st (RT.iRevA X.K te) (dRev fe) := di_rev (p := ⟨0, 0, 0, 0⟩) he (hp he.pe)
theorem ds_par' {i j : Nat} (h : DA X dx es ta fa) (hp : PA X es ta → PS X s (tPar i j ta)) : DS X dx s (tPar i j ta) (dPar [i, j] fa) := ds_par h (hp h.pe)
theorem ds_par3' {i j l : Nat} (h : DA X dx es ta fa) (hp : PA X es ta → PS X s (tPar3 i j l ta)) : DS X dx s (tPar3 i j l ta) (dPar [i, j, l] fa) := ds_par3 h (hp h.pe)
theorem ds_asg' {g : TG} {f : DTG} {o : List Nat} (h : DE X dx e te fe) (hg : DG X dx tg g f o) (hp : PE X e te → PG X tg g → PS X s (tAsg te g)) : DS X dx s (tAsg te g) (dAsg fe f) := ds_asg h hg (hp h.pe hg.pe)
theorem ds_setI' (hE : DE X dx e te fe) (hO : DE X dx o to fo) (hI : DE X dx i ti fi) (hp : PE X e te → PE X o to → PE X i ti → PS X s (tAsg te (gSub to ti rSetL))) : DS X dx s (tAsg te (gSub to ti rSetL)) (dSetI fe fo fi) := ds_setI (st := e) hE hO hI (hp hE.pe hO.pe hI.pe)
theorem ds_aug' {i : Nat} {tp : TIp} {f : F2} (h : DE X dx e te fe) (o : OpD X.K dx tp f) (hp : PE X e te → PS X s (tAug i te tp)) : DS X dx s (tAug i te tp) (dAug i f fe) := ds_aug (hp h.pe) h o
end
end DL
/-! The rules with what is known named outright, so that they can stand in a comprehension, too. -/
namespace DL
open PySem PySem.Spec L2 Gd

section
variable {X : Cx} {dx : Dx} {a b e o i tg st : Expr} {es : List Expr} {kws : List Keyword} {ta' tb' te to ti : TE} {ta tk : TA} {fo fe fi ga gb : DTE} {fa fk : DTA} {s : Stmt} {pos p : Pos} {x : Str}
theorem op_addAll_ (K : PySem.W.Frag) (hK : X.K = K := by rfl) : OpR X (binaryOp .Add) (DL.rAdd K) := by subst hK; exact op_addAll
theorem op_mulAll_ (K : PySem.W.Frag) (hK : X.K = K := by rfl) : OpR X (binaryOp .Mult) (DL.rMul K) := by subst hK; exact op_mulAll
theorem op_eqA_ (K : PySem.W.Frag) (hu : X.A.units + 64 < cLine) (hK : X.K = K := by rfl) : OpR X (compareOp .Eq) (rEqA K) := by subst hK; exact op_eqA hu
theorem op_neA_ (K : PySem.W.Frag) (hu : X.A.units + 64 < cLine) (hK : X.K = K := by rfl) : OpR X (compareOp .NotEq) (rNeA K) := by subst hK; exact op_neA hu
theorem de_ix_ (K : PySem.W.Frag) (ha : DE X dx a ta' ga) (hb : DE X dx b tb' gb) (hs : PlainIx b := by exact fun _ _ => rfl) (hK : X.K = K := by rfl) : DE X dx (.Subscript a b pos) (tOp (rIx K) ta' tb') (dOp fIx ga gb) := by subst hK; exact de_ix ha hb hs
theorem de_slice_ (K : PySem.W.Frag) {lo hi : Option Expr} {tl th : TO} {fl fh : DTO} {p2 : Pos} (he : DE X dx e te fe) (hl : DO X dx lo tl fl) (hu : DO X dx hi th fh) (hK : X.K = K := by rfl) : DE X dx (.Subscript e (.Slice lo hi none p2) pos) (tSl (rSl K) te tl th) (dSl fe fl fh) := by subst hK; exact de_slice he hl hu
theorem de_rev_ (K : PySem.W.Frag) {k' : Nat} {p1 p2 p3 : Pos} (he : DE X dx e te fe) (hK : X.K = K := by rfl) : DE X dx (.Subscript e (.Slice none none (some (.UnaryOp .USub (.Constant (.int 1) k' p1) p2)) p3) pos) (tRevL K te) (dUn fRev fe) := by subst hK; exact de_rev he
theorem dt_tru_ (K : PySem.W.Frag) (h : DE X dx e te fe) (he : ∀ whole, isTrue e X.env whole = (do let v ← whole; standAt e.pos; holding [v] (truthy v)) := by intro _; rfl) (hK : X.K = K := by rfl) : DT X dx e (tTr K te) (dTr fe) := by subst hK; exact dt_tru h he
theorem di_seq_ (K : PySem.W.Frag) (h : DE X dx e te fe) (hK : X.K = K := by rfl) : DI X dx tg e (iSeq K te) (dSeq fe) := by subst hK; exact di_seq h
theorem di_zip_ (K : PySem.W.Frag) (ha : DA X dx es ta fa) (hp : PA X es ta → PI X tg (.Call (.Name x p) es [] pos) (iZipM K ta)) (hK : X.K = K := by rfl) : DI X dx tg (.Call (.Name x p) es [] pos) (iZipM K ta) (dZip fa) := by subst hK; exact di_zip' ha hp
theorem di_rev_ (K : PySem.W.Frag) (he : DE X dx e te fe) (hp : PE X e te → PI X tg (.Call (.Name x p) [e] [] pos) (RT.iRevA K te)) (hK : X.K = K := by rfl) : DI X dx tg (.Call (.Name x p) [e] [] pos) (RT.iRevA K te) (dRev fe) := by subst hK; exact di_rev' he hp
theorem dg_tup_ (K : PySem.W.Frag) {k : Nat} {g : TGs} {f : DTGs} {n : Nat} {ow : List Nat} (h : DGs X dx es g f ow) (hp : PGs X es g → PG X (.Tuple es k pos) (gTup K n g)) (hK : X.K = K := by rfl) : DG X dx (.Tuple es k pos) (gTup K n g) (dgTup n f) ow := by subst hK; exact dg_tup' h hp
theorem de_met_ (K : PySem.W.Frag) {nm : Str} {apos : Pos} {r : V → List V → Hp → VK → Prop} {f} (m : MetD X.K dx r f) (ho : DE X dx a to fo) (ha : DA X dx es ta fa) (hp : PE X a to → PA X es ta → PE X (.Call (.Attribute a nm apos) es [] pos) (tBM K "list" r to ta)) (hK : X.K = K := by rfl) : DE X dx (.Call (.Attribute a nm apos) es [] pos) (tBM K "list" r to ta) (dML f fo fa) := by subst hK; exact de_met' m ho ha hp
theorem de_met0_ (K : PySem.W.Frag) {nm : Str} {apos : Pos} {r : V → List V → Hp → VK → Prop} {f} (m : MetD X.K dx r f) (ho : DE X dx a to fo) (hp : PE X a to → PE X (.Call (.Attribute a nm apos) [] [] pos) (tBM0 K "list" r to)) (hK : X.K = K := by rfl) : DE X dx (.Call (.Attribute a nm apos) [] [] pos) (tBM0 K "list" r to) (dML0 f fo) := by subst hK; exact de_met0' m ho hp
theorem de_isi_ (K : PySem.W.Frag) {T : String} {f : String → Bool} (hf : ∀ t ∈ ["NoneType", "bool", "int", "str", "tuple", "list"], kitB t T = some (f t)) (he : DE X dx e te fe) (hp : PE X e te → PE X (.Call (.Name x p) [e, b] [] pos) (tIsi K T te)) (hK : X.K = K := by rfl) : DE X dx (.Call (.Name x p) [e, b] [] pos) (tIsi K T te) (dIsi f fe) := by subst hK; exact de_isi' hf he hp
def rTuple (K : PySem.W.Frag) : List V → Hp → VK → Prop := fun xs H Q => ∃ p ys, xs = [.ref p] ∧ ((SqL K H p ys ∧ ∀ l, H l = none → Q (.ref l) (upd H l (.tup ys))) ∨ (SqT K H p ys ∧ Q (.ref p) H))
def rList (K : PySem.W.Frag) : List V → Hp → VK → Prop := fun xs H Q => ∃ p ys, xs = [.ref p] ∧ (SqL K H p ys ∨ SqT K H p ys) ∧ ∀ l, H l = none → Q (.ref l) (upd H l (.lst ys))
theorem cr_tuple_ (K : PySem.W.Frag) (hK : X.K = K := by rfl) : CallR X (.type "tuple") (rTuple K) := by subst hK; exact call_tuple_of
theorem cr_list_ (K : PySem.W.Frag) (hK : X.K = K := by rfl) : CallR X (.type "list") (rList K) := by subst hK; exact call_list_of
theorem cd_tuple_ {K : PySem.W.Frag} : CallD K dx (rTuple K) (one fTuple) := cd_tuple
theorem cd_list_ {K : PySem.W.Frag} : CallD K dx (rList K) (one fList) := cd_list
theorem cr_len_ (K : PySem.W.Frag) (hK : X.K = K := by rfl) : CallR X (.builtin "len") (rLen K) := by subst hK; exact cr_len
theorem cr_repr_ (K : PySem.W.Frag) (guard : X.A.guards = some []) (hu : X.A.units + 64 < cLine) (hK : X.K = K := by rfl) : CallR X (.builtin "repr") (rRepr K) := by subst hK; exact cr_repr guard hu
theorem cr_all_ (K : PySem.W.Frag) (hc : X.calm = true) (hK : X.K = K := by rfl) : CallR X (.builtin "all") (rAll K) := by subst hK; exact cr_all hc
theorem cr_any_ (K : PySem.W.Frag) (hc : X.calm = true) (hK : X.K = K := by rfl) : CallR X (.builtin "any") (rAny K) := by subst hK; exact cr_any hc
theorem cr_sum_ (K : PySem.W.Frag) (hc : X.calm = true) (hK : X.K = K := by rfl) : CallR X (.builtin "sum") (rSum K) := by subst hK; exact cr_sum hc
theorem cr_isi_ (K : PySem.W.Frag) (hK : X.K = K := by rfl) : CallR X (.builtin "isinstance") (rIsi K) := by subst hK; exact call_isi
theorem de_callB_ {id : String} {r : List V → Hp → VK → Prop} {f} (hc : CallR X (.builtin id) r) (o : CallD X.K dx r f) (ha : DA X dx es ta fa) (hp : PA X es ta → PE X (.Call (.Name x p) es [] pos) (tCB r ta)) : DE X dx (.Call (.Name x p) es [] pos) (tCB r ta) (dCB f fa) := ⟨hp ha.pe, cb_go o ha⟩
theorem de_callTy_ {id : String} {r : List V → Hp → VK → Prop} {f} (hc : CallR X (.type id) r) (o : CallD X.K dx r f) (ha : DA X dx es ta fa) (hp : PA X es ta → PE X (.Call (.Name x p) es [] pos) (tCB r ta)) : DE X dx (.Call (.Name x p) es [] pos) (tCB r ta) (dCB f fa) := ⟨hp ha.pe, cb_go o ha⟩
theorem ds_par_ {i j : Nat} {tgs : List Expr} {kt k2 : Nat} {pt pt2 : Pos} (h : DA X dx es ta fa) (hp : PA X es ta → PS X (.Assign [.Tuple tgs kt pt] (.Tuple es k2 pt2) pos) (tPar i j ta)) : DS X dx (.Assign [.Tuple tgs kt pt] (.Tuple es k2 pt2) pos) (tPar i j ta) (dPar [i, j] fa) := ds_par h (hp h.pe)
theorem ds_par3_ {i j l : Nat} {tgs : List Expr} {kt k2 : Nat} {pt pt2 : Pos} (h : DA X dx es ta fa) (hp : PA X es ta → PS X (.Assign [.Tuple tgs kt pt] (.Tuple es k2 pt2) pos) (tPar3 i j l ta)) : DS X dx (.Assign [.Tuple tgs kt pt] (.Tuple es k2 pt2) pos) (tPar3 i j l ta) (dPar [i, j, l] fa) := ds_par3 h (hp h.pe)
theorem ds_asg_ {g : TG} {f : DTG} {ow : List Nat} (h : DE X dx e te fe) (hg : DG X dx tg g f ow) (hp : PE X e te → PG X tg g → PS X (.Assign [tg] e pos) (tAsg te g)) : DS X dx (.Assign [tg] e pos) (tAsg te g) (dAsg fe f) := ds_asg h hg (hp h.pe hg.pe)
theorem ds_setI_ {p2 : Pos} (hE : DE X dx e te fe) (hO : DE X dx o to fo) (hI : DE X dx i ti fi) (hp : PE X e te → PE X o to → PE X i ti → PS X (.Assign [.Subscript o i p2] e pos) (tAsg te (gSub to ti rSetL))) : DS X dx (.Assign [.Subscript o i p2] e pos) (tAsg te (gSub to ti rSetL)) (dSetI fe fo fi) := ds_setI (st := e) hE hO hI (hp hE.pe hO.pe hI.pe)
theorem ds_aug_ {i : Nat} {tp : TIp} {f : F2} {op : Operator} (h : DE X dx e te fe) (o : OpD X.K dx tp f) (hp : PE X e te → PS X (.AugAssign tg op e pos) (tAug i te tp)) : DS X dx (.AugAssign tg op e pos) (tAug i te tp) (dAug i f fe) := ds_aug (hp h.pe) h o
variable {k : Nat} {f c d : Addr} {fd : FuncData} {ps ks : List Str} {spec : DSpec} {specR : Addr → DSpec} {g : List Value → List Value → List Value} {gV : List V → List V → List V} {gD : List D → List D → List D}
theorem de_call_ (K : PySem.W.Frag) (F : FnG X.prog X.w K X.mg X.base CX0 k f fd ps (spP K spec)) (room : Room k X.A) (guard : X.A.guards = some [])
    (hg : Gl X x) (hm : X.mg x = some (.ref f)) (kp : PySem.W.keepIn K (.ref f) = true) (hb : Binds K fd ps []) (ha : DA X dx (e :: es) ta fa)
    (hdb : (x == ("__debug__" : Str)) = false := by decide)
    (he : starEach (e :: es) X.env = (false, eval e X.env) :: starEach es X.env := by rfl)
    (hpl : (backTo pos (starEach es X.env)).any (·.1) = false := by rfl) (hK : X.K = K := by rfl) :
    DE X dx (.Call (.Name x p) (e :: es) [] pos) (tCall (spP K spec) [] (fun _ _ _ => False) ta) (dCall spec fa) := by subst hK; exact de_call F room guard hg hm kp hb (.inl ⟨rfl, rfl⟩) ha hdb he hpl
theorem de_callR_ (K : PySem.W.Frag) (F : FnG X.prog X.w K X.mg X.base CX0 k f fd ps (spR K specR)) (room : Room k X.A) (guard : X.A.guards = some [])
    (hg : Gl X x) (hm : X.mg x = some (.ref f)) (kp : PySem.W.keepIn K (.ref f) = true) (hb : Binds K fd ps []) (h1 : dx.hand = handR c d) (h2 : dx.J = RandOk c d) (ha : DA X dx (e :: es) ta fa)
    (hdb : (x == ("__debug__" : Str)) = false := by decide)
    (he : starEach (e :: es) X.env = (false, eval e X.env) :: starEach es X.env := by rfl)
    (hpl : (backTo pos (starEach es X.env)).any (·.1) = false := by rfl) (hK : X.K = K := by rfl) :
    DE X dx (.Call (.Name x p) (e :: es) [] pos) (tCall (spR K specR) [] (fun _ _ _ => False) ta) (dCall (specR c) fa) := by subst hK; exact de_callR F room guard hg hm kp hb h1 h2 ha hdb he hpl
theorem de_callK_ (K : PySem.W.Frag) (F : FnG X.prog X.w K X.mg X.base CX0 k f fd ps (spP K spec)) (room : Room k X.A) (guard : X.A.guards = some [])
    (hg : Gl X x) (hm : X.mg x = some (.ref f)) (kp : PySem.W.keepIn K (.ref f) = true) (hb : KBinds K fd ps ks g gV) (ho : KOrd gV gD) (ha : DA X dx (e :: es) ta fa) (hk : DK X dx kws tk fk)
    (hall : (backToKw pos (keywordEach kws X.env)).all (·.1.isSome) = true := by rfl)
    (hks : (backToKw pos (keywordEach kws X.env)).filterMap (·.1) = ks := by rfl)
    (hdb : (x == ("__debug__" : Str)) = false := by decide)
    (he : starEach (e :: es) X.env = (false, eval e X.env) :: starEach es X.env := by rfl)
    (hpl : ((backTo pos (starEach (e :: es) X.env)).any (·.1) || (backToKw pos (keywordEach kws X.env)).any (·.1.isNone)) = false := by rfl) (hK : X.K = K := by rfl) :
    DE X dx (.Call (.Name x p) (e :: es) kws pos) (tCallK (spP K spec) gV (fun _ _ _ => False) ta tk) (dCallK spec gD fa fk) := by subst hK; exact de_callK F room guard hg hm kp hb ho (.inl ⟨rfl, rfl⟩) ha hk hall hks hdb he hpl
theorem de_callK0_ (K : PySem.W.Frag) (F : FnG X.prog X.w K X.mg X.base CX0 k f fd ps (spP K spec)) (room : Room k X.A) (guard : X.A.guards = some [])
    (hg : Gl X x) (hm : X.mg x = some (.ref f)) (kp : PySem.W.keepIn K (.ref f) = true) (hb : KBinds K fd ps ks g gV) (ho : KOrd gV gD) (hk : DK X dx kws tk fk)
    (hall : (backToKw pos (keywordEach kws X.env)).all (·.1.isSome) = true := by rfl)
    (hks : (backToKw pos (keywordEach kws X.env)).filterMap (·.1) = ks := by rfl)
    (hdb : (x == ("__debug__" : Str)) = false := by decide)
    (hpl : ((backTo pos (starEach [] X.env)).any (·.1) || (backToKw pos (keywordEach kws X.env)).any (·.1.isNone)) = false := by rfl) (hK : X.K = K := by rfl) :
    DE X dx (.Call (.Name x p) [] kws pos) (tCallK (spP K spec) gV (fun _ _ _ => False) tNil tk) (dCallK spec gD dNil fk) := by subst hK; exact de_callK0 F room guard hg hm kp hb ho (.inl ⟨rfl, rfl⟩) hk hall hks hdb hpl
end
end DL
/-! Numbers as data; the helpers that draw. -/
namespace DL
open PySem PySem.Spec L2 Gd

/-! ### numbers as data -/
def nD (cs : List Nat) : List D := cs.map fun c : Nat => D.int (c : Int)
def asSeq : D → Option (List D)
  | .tup ds => some ds
  | .lst ds => some ds
  | _ => none
theorem items_of {Q : List D → Sto → Prop} {q : D} {xs : List D} {S : Sto} (h : asSeq q = some xs) : items Q q S = Q xs S := by
  cases q with
  | tup ds => cases h; rfl
  | lst ds => cases h; rfl
  | _ => cases h
theorem fLen_of {Q : D → Sto → Prop} {q : D} {xs : List D} {S : Sto} (h : asSeq q = some xs) : fLen q S Q = Q (.int xs.length) S := by
  cases q with
  | tup ds => cases h; rfl
  | lst ds => cases h; rfl
  | _ => cases h
theorem nD_len (cs : List Nat) : (nD cs).length = cs.length := List.length_map _
theorem nD_get {cs : List Nat} {i : Nat} {c : Nat} (h : cs[i]? = some c) : (nD cs)[i]? = some (.int (c : Int)) := by
  unfold nD
  rw [List.getElem?_map, h]
  rfl
def prodN : List Nat → Nat
  | [] => 1
  | c :: cs => c * prodN cs
theorem prodN_append (a b : List Nat) : prodN (a ++ b) = prodN a * prodN b := by
  induction a with
  | nil => simp [prodN]
  | cons c a ih => simp only [List.cons_append, prodN, ih, Nat.mul_assoc]
theorem prodN_reverse (a : List Nat) : prodN a.reverse = prodN a := by
  induction a with
  | nil => rfl
  | cons c a ih => simp only [List.reverse_cons, prodN_append, prodN, ih, Nat.mul_one, Nat.mul_comm]
/-- none is 0 or great -/
def Pos1 (cs : List Nat) : Prop := ∀ c ∈ cs, 1 ≤ c ∧ c < 2 ^ 60
theorem prodN_pos {cs : List Nat} (h : Pos1 cs) : 1 ≤ prodN cs := by
  induction cs with
  | nil => exact Nat.le_refl _
  | cons c cs ih =>
    have h1 := (h c List.mem_cons_self).1
    have h2 := ih fun x m => h x (List.mem_cons_of_mem _ m)
    exact Nat.mul_le_mul h1 h2
theorem rngD_nD (n : Nat) : rngD 0 1 n = nD (List.range n) := by
  unfold rngD nD
  apply List.map_congr_left
  intro i _
  simp
theorem Rg.nat {n : Nat} (h : n < 2 ^ 62) : Rg (n : Int) := by
  unfold Rg
  omega
theorem getS_self {p : Addr} {xs : List D} {S : Sto} : getS ((p, xs) :: S) p = some xs := by
  unfold getS
  rw [List.find?_cons_of_pos (by simp)]
  rfl
theorem getS_other {p q : Addr} {xs : List D} {S : Sto} (h : p ≠ q) : getS ((p, xs) :: S) q = getS S q := by
  unfold getS
  rw [List.find?_cons_of_neg (by simpa using h)]
theorem setS_one {p : Addr} {xs ys : List D} : setS [(p, xs)] p ys = [(p, ys)] := by
  unfold setS
  simp
theorem delS_one {p : Addr} {xs : List D} : delS [(p, xs)] p = [] := by
  unfold delS
  simp
theorem opt_of {α : Type} {o : Option α} {x : α} {Q : α → Prop} (e : o = some x) (h : Q x) : opt o Q := by
  rw [e]
  exact h
theorem log60 {c : Nat} (h : c < 2 ^ 60) : ((c : Nat) : Int).natAbs.log2 < 9000 := by
  rw [Int.natAbs_natCast]
  by_cases z : c = 0
  · rw [z]; decide
  · have := (Nat.log2_lt z).mpr h
    omega
theorem fIx_of {Q : D → Sto → Prop} {q : D} {xs : List D} {S : Sto} {i : Nat} (h : asSeq q = some xs) (hi : i < xs.length) (t : Q (xs.getD i .non) S) : fIx q (.int (i : Int)) S Q := by
  have e : atI xs (i : Int) = some (xs.getD i .non) := by
    refine atI_nat ?_
    rw [List.getD_eq_getElem?_getD, List.getElem?_eq_getElem hi]
    rfl
  cases q with
  | tup ds => cases h; exact opt_of e t
  | lst ds => cases h; exact opt_of e t
  | _ => cases h

/-! ### _law_pick -/
def spPick (a : Addr) : DSpec := fun ds post => ∃ xs, ds = [.adr a, .lst xs] ∧ xs ≠ [] ∧ xs.length ≤ 1000 ∧ ∀ x ∈ xs, post x
def rPick (a : Addr) : DTS := (dRet (dOp fIx (dVar 1) (dCall (spDraw a) (dCons (dVar 0) (dCons (dCB (one fLen) (dCons (dVar 1) dNil)) dNil)))))
theorem frz_nil (d : D) : frz [] d = d := by cases d <;> rfl
theorem lnPick : ∀ a ds post, spPick a ds post → ds.length = 2 := by
  rintro a ds post ⟨xs, rfl, _⟩
  rfl
theorem vcPick (a : Addr) : ∀ ds post, spPick a ds post → rPick a { nx := fun _ _ => post .non, rt := fun d _ => post d } (ds.map some ++ List.replicate (2 - ds.length) none) [] := by
  rintro ds post ⟨xs, rfl, hn, hl, h⟩
  have h1 : 1 ≤ xs.length := List.length_pos_iff.mpr hn
  refine ⟨(xs.length : Int), rfl, by omega, by omega, fun r r0 r1 => ?_⟩
  obtain ⟨n, rfl⟩ := Int.eq_ofNat_of_zero_le r0
  have hi : n < xs.length := by omega
  refine fIx_of rfl hi ?_
  have m : xs.getD n .non ∈ xs := by
    rw [List.getD_eq_getElem?_getD, List.getElem?_eq_getElem hi]
    exact List.getElem_mem hi
  have e := h _ m
  show post (frz [] (xs.getD n .non))
  rw [frz_nil]
  exact e

/-! ### _law_draw -/
def rDraw (k1 k2 : Int) : DTS := (dSeqS (dWhile (dAnd (dTest (dOp fNe (dOp fIx (dVar 0) (dC (.int 0))) (dLst dNil))) (dTest (dOp fEq (dOp fIx (dOp fIx (dVar 0) (dC (.int 0))) (dUn fNeg (dC (.int 1)))) (dC (.int 0))))) (dDrop (dML0 fPop (dOp fIx (dVar 0) (dC (.int 0)))))) (dSeqS (dIfS (dTest (dOp fNe (dOp fIx (dVar 0) (dC (.int 0))) (dLst dNil))) (dSeqS (dSet 2 (dML0 fPop (dOp fIx (dVar 0) (dC (.int 0))))) (dSeqS (dDrop (dML fAppend (dOp fIx (dVar 0) (dC (.int 0))) (dCons (dOp fDiv (dVar 2) (dVar 1)) dNil))) (dRet (dOp fMod (dCB (one fInt) (dCons (dVar 2) dNil)) (dVar 1))))) dNext) (dSeqS (dSetI (dOp fMod (dCB (one fInt) (dCons (dOp fAdd (dOp fMul (dOp fIx (dVar 0) (dC (.int 1))) (dC (.int k1))) (dC (.int k2))) dNil)) (dC (.int 2147483647))) (dVar 0) (dC (.int 1))) (dRet (dOp fMod (dCB (one fInt) (dCons (dOp fDiv (dOp fIx (dVar 0) (dC (.int 1))) (dC (.int 32))) dNil)) (dVar 1))))))
def St (a c : Addr) (z : Int) (cs : List Int) : Sto := [(a, [.adr c, .int z]), (c, cs.map D.int)]
section
variable {a c : Addr} {z : Int} {cs : List Int}
theorem St_a : getS (St a c z cs) a = some [.adr c, .int z] := getS_self
theorem St_c (h : a ≠ c) : getS (St a c z cs) c = some (cs.map D.int) := (getS_other h).trans getS_self
theorem St_setC (h : a ≠ c) (ds : List Int) : setS (St a c z cs) c (ds.map D.int) = St a c z ds := by
  unfold setS St
  simp [h]
theorem St_setA (h : a ≠ c) (y : Int) : setS (St a c z cs) a [.adr c, .int y] = St a c y cs := by
  unfold setS St
  simp [h, Ne.symm h]
theorem fIx_list {Q : D → Sto → Prop} (h : Q (.adr c) (St a c z cs)) : fIx (.adr a) (.int 0) (St a c z cs) Q := opt_of St_a (opt_of (x := D.adr c) rfl h)
theorem fIx_num {Q : D → Sto → Prop} (h : Q (.int z) (St a c z cs)) : fIx (.adr a) (.int 1) (St a c z cs) Q := opt_of St_a (opt_of (x := D.int z) rfl h)
theorem ne_nil {Q : D → Sto → Prop} (h : a ≠ c) (q : Q (.bl (!cs.isEmpty)) (St a c z cs)) : fNe (.adr c) (.lst []) (St a c z cs) Q := by
  have e : frz (St a c z cs) (.adr c) = .lst (cs.map D.int) := by
    show frzO c (getS (St a c z cs) c) = _
    rw [St_c h]
    rfl
  have hd : dn 40 (.lst (cs.map D.int)) = true := by
    show (cs.map D.int).all (dn 39) = true
    rw [List.all_eq_true]
    intro x m
    obtain ⟨i, _, rfl⟩ := List.mem_map.mp m
    rfl
  refine ⟨by rw [e]; exact hd, rfl, ?_⟩
  rw [e]
  have e2 : deq (.lst (cs.map D.int)) (frz (St a c z cs) (.lst [])) = cs.isEmpty := by
    show deq (.lst (cs.map D.int)) (.lst []) = cs.isEmpty
    cases cs with
    | nil => simp [deq, py, pyAll, PyData.eqv, PyData.eqvAll]
    | cons i cs => simp [deq, py, pyAll, PyData.eqv, PyData.eqvAll]
  rw [e2]
  exact q
theorem getLast_map {cs : List Int} {x : Int} : ((cs ++ [x]).map D.int)[((cs ++ [x]).map D.int).length - 1]? = some (.int x) := by
  rw [List.map_append, List.length_append]
  simp
theorem pop_map {cs : List Int} {x : Int} : ((cs ++ [x]).map D.int).dropLast = cs.map D.int := by
  rw [List.map_append]
  simp
theorem ROk.pop {x : Int} (h : ROk (cs ++ [x]) z) : ROk cs z ∧ 0 ≤ x ∧ cs.length ≤ 62 := by
  refine ⟨⟨fun y m => h.1 y (List.mem_append_left _ m), ?_, h.2.2⟩, h.1 x (by simp), ?_⟩
  · have := h.2.1
    rw [List.length_append, List.length_singleton] at this
    omega
  · have := h.2.1
    rw [List.length_append, List.length_singleton] at this
    omega
theorem vcDraw (k1 k2 : Int) (hk1 : -(2 ^ 64) < k1 ∧ k1 < 2 ^ 64) : ∀ (a c : Addr) (cs : List Int) (z m : Int), a ≠ c → ROk cs z → 1 ≤ m → m < 2 ^ 62 → rDraw k1 k2 { nx := fun _ _ => False, rt := drawEnd a c m } [some (.adr a), some (.int m), none] [(a, [.adr c, .int z]), (c, cs.map D.int)] := by
  intro a c cs z m ne ok m1 m2
  show rDraw k1 k2 _ _ (St a c z cs)
  have mlog : m.natAbs.log2 < 9000 := by
    have h : m.natAbs < 2 ^ 62 := by omega
    have := (Nat.log2_lt (by omega)).mpr h
    omega
  -- the while
  refine ⟨fun n δ S => δ = [some (.adr a), some (.int m), none] ∧ ∃ cs, S = St a c z cs ∧ ROk cs z ∧ cs.length = n, ⟨cs.length, rfl, cs, rfl, ok, rfl⟩, ?_⟩
  rintro n δ S ⟨rfl, cs, rfl, ok, rfl⟩
  have behind : ∀ cs, ROk cs z → (dSeqS (dIfS (dTest (dOp fNe (dOp fIx (dVar 0) (dC (.int 0))) (dLst dNil))) (dSeqS (dSet 2 (dML0 fPop (dOp fIx (dVar 0) (dC (.int 0))))) (dSeqS (dDrop (dML fAppend (dOp fIx (dVar 0) (dC (.int 0))) (dCons (dOp fDiv (dVar 2) (dVar 1)) dNil))) (dRet (dOp fMod (dCB (one fInt) (dCons (dVar 2) dNil)) (dVar 1))))) dNext) (dSeqS (dSetI (dOp fMod (dCB (one fInt) (dCons (dOp fAdd (dOp fMul (dOp fIx (dVar 0) (dC (.int 1))) (dC (.int k1))) (dC (.int k2))) dNil)) (dC (.int 2147483647))) (dVar 0) (dC (.int 1))) (dRet (dOp fMod (dCB (one fInt) (dCons (dOp fDiv (dOp fIx (dVar 0) (dC (.int 1))) (dC (.int 32))) dNil)) (dVar 1)))))
      { nx := fun _ _ => False, rt := drawEnd a c m } [some (.adr a), some (.int m), none] (St a c z cs) := by
    intro cs ok
    refine opt_of St_a (opt_of (x := D.adr c) rfl ?_)
    refine ⟨by show 0 ≤ 16777216; decide, ne_nil ne ?_⟩
    rcases List.eq_nil_or_concat cs with rfl | ⟨cs, x, rfl⟩
    · -- no great numbers left
      refine opt_of St_a (opt_of (x := D.int _) rfl ?_)
      refine ⟨MOk.right hk1, ?_⟩
      refine ⟨by show (0 : Int) < 2147483647; decide, opt_of St_a (opt_of (x := 1) rfl ?_)⟩
      show dRet (dOp fMod (dCB (one fInt) (dCons (dOp fDiv (dOp fIx (dVar 0) (dC (.int 1))) (dC (.int 32))) dNil)) (dVar 1)) { nx := fun _ _ => False, rt := drawEnd a c m } [some (.adr a), some (.int m), none] (setS (St a c z []) a [D.adr c, D.int ((z * k1 + k2) % 2147483647)])
      rw [St_setA ne]
      refine opt_of St_a (opt_of (x := D.int _) rfl ?_)
      refine ⟨⟨by decide, by decide⟩, ⟨by omega, ?_⟩⟩
      have b0 : 0 ≤ (z * k1 + k2) % 2147483647 := Int.emod_nonneg _ (by decide)
      have b1 : (z * k1 + k2) % 2147483647 < 2147483647 := Int.emod_lt_of_pos _ (by decide)
      exact ⟨_, [], _, rfl, Int.emod_nonneg _ (by omega), Int.emod_lt_of_pos _ (by omega), St_a, St_c ne, fun x m => (nomatch m), by decide, b0, by omega⟩
    · rw [List.concat_eq_append] at ok ⊢
      obtain ⟨ok2, x0, l62⟩ := ok.pop
      have e : (!(cs ++ [x]).isEmpty) = true := by cases cs <;> rfl
      rw [e]
      refine opt_of St_a (opt_of (x := D.adr c) rfl ?_)
      refine ⟨?_, opt_of (St_c ne) (opt_of getLast_map ?_)⟩
      · show (getS _ c).isSome = true
        rw [St_c ne]
        rfl
      · rw [pop_map, St_setC ne]
        refine opt_of St_a (opt_of (x := D.adr c) rfl ?_)
        refine ⟨?_, ⟨by omega, mlog⟩, ?_⟩
        · show (getS _ c).isSome = true
          rw [St_c ne]
          rfl
        · refine opt_of (St_c ne) ⟨by unfold Fit; rw [List.length_map]; omega, ?_⟩
          have e3 : cs.map D.int ++ [D.int (x / m)] = (cs ++ [x / m]).map D.int := by rw [List.map_append]; rfl
          rw [e3, St_setC ne]
          refine ⟨by omega, ?_⟩
          refine ⟨_, cs ++ [x / m], z, rfl, Int.emod_nonneg _ (by omega), Int.emod_lt_of_pos _ (by omega), St_a, St_c ne, ?_, ?_, ok2.2.2⟩
          · intro y my
            rcases List.mem_append.mp my with my | my
            · exact ok2.1 y my
            · rw [List.mem_singleton.mp my]
              exact Int.ediv_nonneg x0 (by omega)
          · rw [List.length_append, List.length_singleton]
            omega
  refine opt_of St_a (opt_of (x := D.adr c) rfl ?_)
  refine ⟨by show 0 ≤ 16777216; decide, ne_nil ne ?_⟩
  rcases List.eq_nil_or_concat cs with rfl | ⟨cs, x, rfl⟩
  · exact behind [] ok
  · rw [List.concat_eq_append] at ok ⊢
    obtain ⟨ok2, x0, l62⟩ := ok.pop
    have e : (!(cs ++ [x]).isEmpty) = true := by cases cs <;> rfl
    rw [e]
    refine opt_of St_a (opt_of (x := D.adr c) rfl ?_)
    refine (opt_of (St_c ne) (opt_of (x := D.int x) ?_ ?_))
    · rw [List.map_append]
      exact atI_last _ _
    show (if decide (x = 0) = true then _ else _)
    by_cases hx : x = 0
    · rw [if_pos (decide_eq_true hx)]
      refine opt_of St_a (opt_of (x := D.adr c) rfl ?_)
      refine ⟨?_, opt_of (St_c ne) (opt_of getLast_map ?_)⟩
      · show (getS _ c).isSome = true
        rw [St_c ne]
        rfl
      · rw [pop_map, St_setC ne]
        exact ⟨cs.length, by rw [List.length_append, List.length_singleton]; omega, rfl, cs, rfl, ok2, rfl⟩
    · rw [if_neg (by simpa using hx)]
      exact behind _ ok
end

/-! ### _law_heap -/
def cellF (x : Int) : Int := 2 * x.natAbs + (if decide (x < 0) = true then 1 else 0)
def rHeapA (k0 : Int) : DTS := (dSeqS (dPar [2, 3] (dCons (dLc (dSeq (dSl (dVar 0) dNoPart (dPart (dC (.int 60))))) (dgName 1) dYes (dOp fAdd (dOp fMul (dC (.int 2)) (dCB (one fAbs) (dCons (dVar 1) dNil))) (dCB (one fInt) (dCons (dOp fLt (dVar 1) (dC (.int 0))) dNil))) [1]) (dCons (dC (.int k0)) dNil))) (dSeqS (dFor (dSeq (dVar 2)) (dgName 1) (dSet 3 (dOp fMod (dCB (one fInt) (dCons (dOp fAdd (dOp fAdd (dOp fMul (dVar 3) (dC (.int 69621))) (dOp fMod (dCB (one fInt) (dCons (dVar 1) dNil)) (dC (.int 2147483563)))) (dC (.int 29))) dNil)) (dC (.int 2147483647))))) (dRet (dLst (dCons (dUn fRev (dLc (dSeq (dVar 2)) (dgName 1) (dTest (dOp fGe (dVar 1) (dOp fPow (dC (.int 10)) (dC (.int 18))))) (dVar 1) [1])) (dCons (dVar 3) dNil))))))
theorem go_cells {q : Option D} {x1 x2 x3 : Option D} {Q : D → Sto → Prop} : ∀ (ns : List Int) (acc : List D), acc.length + ns.length ≤ 1000 → Q (.lst (acc ++ (ns.map cellF).map D.int)) [] →
    lcGo (dgName 1) dYes (dOp fAdd (dOp fMul (dC (.int 2)) (dCB (one fAbs) (dCons (dVar 1) dNil))) (dCB (one fInt) (dCons (dOp fLt (dVar 1) (dC (.int 0))) dNil))) [1] [q, x1, x2, x3] Q (ns.map D.int) acc []
  | [], acc, _, h => by simpa [lcGo] using h
  | n :: ns, acc, hl, h => by
    rw [List.length_cons] at hl
    refine ⟨MOk.left (by decide), by unfold Fit; omega, ?_⟩
    refine go_cells ns _ (by rw [List.length_append, List.length_singleton]; omega) ?_
    rw [List.append_assoc]
    exact h
theorem cellF_nn (x : Int) : 0 ≤ cellF x := by
  unfold cellF
  split <;> omega
theorem lp_stir {DD : DEnds} {q x2 : Option D} : ∀ (ns : List Int) (z : Int) (x1 : Option D), 0 ≤ z ∧ z < 2 ^ 40 → (∀ (z : Int) x1, 0 ≤ z ∧ z < 2 ^ 40 → DD.nx [q, x1, x2, some (.int z)] []) →
    forGo (dgName 1) (dSet 3 (dOp fMod (dCB (one fInt) (dCons (dOp fAdd (dOp fAdd (dOp fMul (dVar 3) (dC (.int 69621))) (dOp fMod (dCB (one fInt) (dCons (dVar 1) dNil)) (dC (.int 2147483563)))) (dC (.int 29))) dNil)) (dC (.int 2147483647)))) DD (ns.map D.int) [q, x1, x2, some (.int z)] []
  | [], z, x1, hz, h => h z x1 hz
  | n :: ns, z, x1, hz, h => by
    refine ⟨MOk.right (by decide), (by show (0 : Int) < 2147483563; decide), (by show (0 : Int) < 2147483647; decide), ?_⟩
    refine lp_stir ns _ _ ⟨Int.emod_nonneg _ (by decide), ?_⟩ h
    exact Int.lt_trans (Int.emod_lt_of_pos _ (by decide)) (by decide)
theorem go_great {q : Option D} {x1 x2 x3 : Option D} {Q : D → Sto → Prop} : ∀ (ns : List Int) (acc : List Int), acc.length + ns.length ≤ 63 → (∀ x ∈ ns, 0 ≤ x) → (∀ x ∈ acc, 0 ≤ x) → (∀ cs : List Int, cs.length ≤ 63 → (∀ x ∈ cs, 0 ≤ x) → Q (.lst (cs.map D.int)) []) →
    lcGo (dgName 1) (dTest (dOp fGe (dVar 1) (dOp fPow (dC (.int 10)) (dC (.int 18))))) (dVar 1) [1] [q, x1, x2, x3] Q (ns.map D.int) (acc.map D.int) []
  | [], acc, hl, _, ha, h => h acc (by simpa using hl) ha
  | n :: ns, acc, hl, hn, ha, h => by
    rw [List.length_cons] at hl
    refine ⟨⟨by decide, by decide, by decide⟩, ?_⟩
    have hn' : ∀ x ∈ ns, 0 ≤ x := fun y m => hn y (List.mem_cons_of_mem _ m)
    show (if decide (10 ^ (18 : Int).toNat ≤ n) = true then _ else _)
    split
    · refine ⟨by unfold Fit; rw [List.length_map]; omega, ?_⟩
      have e : acc.map D.int ++ [D.int n] = (acc ++ [n]).map D.int := by rw [List.map_append]; rfl
      rw [e]
      refine go_great ns (acc ++ [n]) (by rw [List.length_append, List.length_singleton]; omega) hn' ?_ h
      intro x m
      rcases List.mem_append.mp m with m | m
      · exact ha x m
      · rw [List.mem_singleton.mp m]
        exact hn n List.mem_cons_self
    · exact go_great ns acc (by omega) hn' ha h
theorem lnHeap : ∀ ds post, spHeap ds post → ds.length = 1 := by
  rintro ds post ⟨ns, rfl, _⟩
  rfl
theorem cutD_len {α : Type} (xs : List α) (lo hi : Option Int) : (cutD xs lo hi).length ≤ xs.length := by
  unfold cutD
  rw [List.length_take, List.length_drop]
  omega
theorem vcHeapA (k0 : Int) (hk : 0 ≤ k0 ∧ k0 < 2 ^ 40) : ∀ ds post, spHeap ds post → rHeapA k0 { nx := fun _ _ => post .non, rt := fun d _ => post d } (ds.map some ++ List.replicate (4 - ds.length) none) [] := by
  rintro ds post ⟨ns, rfl, hl, h⟩
  have hc := cutD_len ns none (some 60)
  refine go_cells (cutD ns none (some 60)) [] (by rw [List.length_nil]; omega) ⟨rfl, ?_⟩
  rw [List.nil_append]
  refine lp_stir _ _ _ hk fun z x1 hz => ?_
  refine go_great _ [] (by simp only [List.length_nil, List.length_map]; omega) ?_ (fun x m => (nomatch m)) fun cs l nn => ?_
  · intro x m
    obtain ⟨y, _, rfl⟩ := List.mem_map.mp m
    exact cellF_nn y
  · refine ⟨by show 2 ≤ 16777216; decide, ?_⟩
    have := h cs.reverse z ⟨fun x m => nn x (List.mem_reverse.mp m), by rw [List.length_reverse]; exact l, hz.1, hz.2⟩
    rw [List.map_reverse] at this
    exact this
end DL
/-! Readings over data: texts. -/
namespace DL
open PySem PySem.Spec L2 Gd

/-- a text by its signs -/
def sT (l : List Nat) : Str := ⟨l.toArray⟩
theorem sT_list (l : List Nat) : (sT l).cps.toList = l := rfl
theorem sT_len (l : List Nat) : (sT l).length = l.length := rfl
theorem sT_of (z : Str) : sT z.cps.toList = z := rfl
section
variable {X : Cx} {dx : Dx} {K : PySem.W.Frag} {e o tg : Expr} {te to : TE} {fe fo : DTE} {pos : Pos}
/-! ### z[lo:hi] -/
def fSlS : D → Option Int → Option Int → Sto → (D → Sto → Prop) → Prop
  | .str z, lo, hi, S, Q => Fit z.length ∧ Q (.str (cutS z lo hi)) S
  | _, _, _, _, _ => False
def dSlS (t : DTE) (l h : DTO) : DTE := fun δ S Q => t δ S fun d S1 => l δ S1 fun lo S2 => h δ S2 fun hi S3 => fSlS d lo hi S3 Q
theorem de_sliceS {lo hi : Option Expr} {tl th : TO} {fl fh : DTO} {p2 : Pos} (he : DE X dx e te fe) (hl : DO X dx lo tl fl) (hu : DO X dx hi th fh) : DE X dx (.Subscript e (.Slice lo hi none p2) pos) (tSl rSlS te tl th) (dSlS fe fl fh) := by
  refine ⟨pe_slice sl_str he.pe hl.pe hu.pe, fun σ H δ S Q Qh r0 s0 t k => ?_⟩
  refine he.go σ H δ S _ _ r0 s0 t fun v H1 d S1 r1 x1 d1 t1 => ?_
  refine hl.go σ H1 δ S1 _ _ r1 (s0.ext x1) t1 fun o H2 S2 r2 x2 t2 => ?_
  refine hu.go σ H2 δ S2 _ _ r2 (s0.ext (x1.trans x2)) t2 fun o' H3 S3 r3 x3 t3 => ?_
  cases d1 with
  | str z => exact ⟨z, rfl, t3.1.line, k _ _ _ _ r3 ((x1.trans x2).trans x3) (.str _) t3.2⟩
  | _ => exact t3.elim
/-! ### for sign in z -/
def signs (z : Str) : List D := z.cps.toList.map fun c => D.str ⟨#[c]⟩
def isS (Q : Str → Sto → Prop) : D → Sto → Prop
  | .str z, S => Q z S
  | _, _ => False
def dStrI (t : DTE) : DTA := fun δ S Q => t δ S (isS fun z S1 => Q (signs z) S1)
theorem di_str (h : DE X dx e te fe) : DI X dx tg e (iStr te) (dStrI fe) := by
  refine ⟨pi_str h.pe, fun σ H δ S Q R r0 s0 t k => ?_⟩
  refine h.go σ H δ S _ _ r0 s0 t fun v H1 d S1 r1 x1 d1 t1 => ?_
  cases d1 with
  | str z =>
    refine ⟨z, rfl, k _ H1 _ S1 r1 x1 ?_ t1⟩
    have l : (signs z).length = z.cps.size := by unfold signs; rw [List.length_map, Array.length_toList]
    refine ⟨_, _, by rw [l]; exact walk_str, fun M H2 lv x2 => ⟨trivial, fun i x H3 hi y => ?_⟩⟩
    obtain ⟨rfl, c, e1, rfl⟩ := y
    refine ⟨Same.refl _, .str ⟨#[c]⟩, ?_, .str _⟩
    unfold signs
    rw [List.getElem?_map, Array.getElem?_toList, e1]
    rfl
  | _ => exact t1.elim
/-! ### z * k -/
def repS (k : Nat) (z : Str) : Str := ⟨(List.replicate k z.cps).foldl (· ++ ·) #[]⟩
def rMulS : R2 := fun x y H Q => ∃ z k, x = .str z ∧ y = .int k ∧ 1 ≤ k ∧ k ≤ 1000 ∧ 1 ≤ z.length ∧ z.length ≤ 1000 ∧ Q (.str (repS k.toNat z)) H
theorem foldl_size (z : Array Nat) : ∀ (k : Nat) (acc : Array Nat), ((List.replicate k z).foldl (· ++ ·) acc).size = acc.size + k * z.size
  | 0, acc => by simp
  | k + 1, acc => by
    rw [List.replicate_succ, List.foldl_cons, foldl_size z k, Array.size_append, Nat.succ_mul]
    omega
theorem repS_len (k : Nat) (z : Str) : (repS k z).length = k * z.length := by
  show ((List.replicate k z.cps).foldl (· ++ ·) #[]).size = _
  rw [foldl_size]
  show 0 + k * z.cps.size = k * z.cps.size
  omega
theorem foldl_list (z : Array Nat) : ∀ (k : Nat) (acc : Array Nat), ((List.replicate k z).foldl (· ++ ·) acc).toList = acc.toList ++ (List.replicate k z.toList).flatten
  | 0, acc => by simp
  | k + 1, acc => by
    rw [List.replicate_succ, List.foldl_cons, foldl_list z k, Array.toList_append, List.replicate_succ, List.flatten_cons, List.append_assoc]
theorem repS_list (k : Nat) (z : Str) : (repS k z).cps.toList = (List.replicate k z.cps.toList).flatten := by
  show ((List.replicate k z.cps).foldl (· ++ ·) #[]).toList = _
  rw [foldl_list]
  simp
theorem repS_one (z : Str) : repS 1 z = z := by
  have : (repS 1 z).cps.toList = z.cps.toList := by rw [repS_list]; simp
  rw [← sT_of (repS 1 z), this, sT_of]
theorem op_mulS : OpR X (binaryOp .Mult) rMulS := by
  intro pins s σ H x y v u Q I rx ry h
  obtain ⟨z, k, rfl, rfl, h2, h1000, l1, l2, q⟩ := h
  obtain ⟨t, rfl⟩ := rx
  obtain ⟨t', rfl⟩ := ry
  have fit : z.length * k.toNat ≤ 1000 * 1000 := Nat.mul_le_mul l2 (by omega)
  refine PySem.P.mul_str ?_ (fun _ _ => ?_) (fun _ _ => ?_) ?_
  · rw [decide_eq_false (by omega), decide_eq_false (by omega)]
    rfl
  · have : (1000 : Int) ≤ (2 ^ 63 - 1) / k := Int.le_ediv_of_mul_le (by omega) (by omega)
    omega
  · show decide (z.length * k.toNat > sizeLine) = false
    rw [sizeLine_eq]
    exact decide_eq_false (by omega)
  · rw [if_neg (by omega)]
    by_cases k1 : k = 1
    · subst k1
      have e : repS (1 : Int).toNat z = z := repS_one z
      rw [e] at q
      rw [if_pos (by rfl)]
      exact ⟨.str z, H, I, ⟨_, rfl⟩, q⟩
    · have e : (k == 1 || z.length == 0) = false := by
        have a : (k == 1) = false := by simpa using k1
        have b : (z.length == 0) = false := by simpa using (show z.length ≠ 0 by omega)
        rw [a, b]
        rfl
      rw [e, if_neg Bool.false_ne_true]
      have l := repS_len k.toNat z
      refine ⟨?_, .str (repS k.toNat z), H, I.tok _, ⟨_, rfl⟩, q⟩
      show (repS k.toNat z).length ≤ sizeLine
      rw [l, sizeLine_eq, Nat.mul_comm]
      omega
def fMulS : F2
  | .str z, .int k, S, Q => 1 ≤ k ∧ k ≤ 1000 ∧ 1 ≤ z.length ∧ z.length ≤ 1000 ∧ Q (.str (repS k.toNat z)) S
  | _, _, _, _ => False
theorem od_mulS : OpD K dx rMulS fMulS := by
  intro x y p q H S Q Qh r hx hy t k
  cases hx with
  | str z =>
    cases hy with
    | int j => exact ⟨z, j, rfl, rfl, t.1, t.2.1, t.2.2.1, t.2.2.2.1, k _ H _ S r Ext.refl (.str _) t.2.2.2.2⟩
    | _ => exact t.elim
  | _ => cases hy <;> exact t.elim
/-! ### <= of texts -/
def fLeS : F2
  | .str i, .str j, S, Q => Q (.bl (!decide (j.cps.toList < i.cps.toList))) S
  | _, _, _, _ => False
def rLeS : R2 := fun x y H Q => ∃ i j, x = .str i ∧ y = .str j ∧ Q (.bl (!decide (j.cps.toList < i.cps.toList))) H
theorem op_leS : OpR X (compareOp .LtE) rLeS := op_le_str
theorem od_leS : OpD K dx rLeS fLeS := by
  intro x y p q H S Q Qh r hx hy t k
  cases hx with
  | str z =>
    cases hy with
    | str j => exact ⟨z, j, rfl, rfl, k _ H _ S r Ext.refl (.bl _) t⟩
    | _ => exact t.elim
  | _ => cases hy <;> exact t.elim
/-! ### split, join -/
def fSplit : D → D → Sto → (D → Sto → Prop) → Prop
  | .str a, .str b, S, Q => b.length ≠ 0 ∧ a.length ≤ 1000000 ∧ Q (.lst ((Txt.split a b).map D.str)) S
  | _, _, _, _ => False
def rSplit : V → List V → Hp → VK → Prop := fun x xs H Q => ∃ a b, x = .str a ∧ xs = [.str b] ∧ (b.length == 0) = false ∧ a.length + 2 ≤ sizeLine ∧ rNewStrs (Txt.split a b) H Q
def isSt : D → Prop
  | .str _ => True
  | _ => False
def dM1 (f : D → D → Sto → (D → Sto → Prop) → Prop) (fo fe : DTE) : DTE := fun δ S Q => fo δ S fun o S1 => isSt o ∧ fe δ S1 fun d S2 => f o d S2 Q
theorem st_v {M : Mm} {H : Hp} {v : V} {d : D} (h : Dt K M H v d) (i : isSt d) : ∃ a, v = .str a := by
  cases h with
  | str a => exact ⟨a, rfl⟩
  | _ => exact i.elim
theorem strs_all {M : Mm} {H : Hp} (ys : List Str) : DtAll K M H (ys.map V.str) (ys.map D.str) := by
  induction ys with
  | nil => exact .nil
  | cons y ys ih => exact .cons (.str y) ih
theorem de_split {apos : Pos} (ho : DE X dx o to fo) (he : DE X dx e te fe) (hp : PE X o to → PE X e te → PE X (.Call (.Attribute o "split" apos) [e] [] pos) (tM1 rSplit to te)) : DE X dx (.Call (.Attribute o "split" apos) [e] [] pos) (tM1 rSplit to te) (dM1 fSplit fo fe) := by
  refine ⟨hp ho.pe he.pe, fun σ H δ S Q Qh r s t k => ?_⟩
  refine ho.go σ H δ S _ _ r s t fun v H1 d S1 r1 x1 d1 t1 => ⟨st_v d1 t1.1, ?_⟩
  refine he.go σ H1 δ S1 _ _ r1 (s.ext x1) t1.2 fun u H2 c S2 r2 x2 d2 t2 => ?_
  have d1' := d1.ext x2
  cases d1' with
  | str a =>
    cases d2 with
    | str b =>
      refine ⟨a, b, rfl, rfl, by simpa using t2.1, ?_, fun p n => ?_⟩
      · have := t2.2.1
        rw [sizeLine_eq]
        omega
      · obtain ⟨r3, x3, d3⟩ := new_lst r2 n (strs_all (K := X.K) (Txt.split a b))
        exact k _ _ _ S2 r3 ((x1.trans x2).trans x3) d3 t2.2.2
    | _ => exact t2.elim
  | _ => exact t1.1.elim
def asS : List D → Option (List Str)
  | [] => some []
  | .str b :: r => (asS r).map (b :: ·)
  | _ :: _ => none
theorem asS_at {ds : List D} : ∀ {bs : List Str}, asS ds = some bs → ds = bs.map D.str := by
  induction ds with
  | nil => intro bs h; cases h; rfl
  | cons d ds ih =>
    intro bs h
    cases d with
    | str b =>
      have h : (asS ds).map (b :: ·) = some bs := h
      cases e : asS ds with
      | none => rw [e] at h; cases h
      | some cs => rw [e] at h; cases h; rw [ih e]; rfl
    | _ => cases h
theorem asS_map (bs : List Str) : asS (bs.map D.str) = some bs := by
  induction bs with
  | nil => rfl
  | cons b bs ih => show (asS (bs.map D.str)).map (b :: ·) = _; rw [ih]; rfl
def fJoin : D → D → Sto → (D → Sto → Prop) → Prop
  | .str a, .lst ds, S, Q => opt (asS ds) fun ys => (ys.map (·.length)).sum + ys.length * a.length ≤ 16777216 ∧ Q (.str (Txt.join a ys)) S
  | _, _, _, _ => False
def rJoin (K : PySem.W.Frag) : V → List V → Hp → VK → Prop := fun x xs H Q => ∃ a p, ∃ ys : List Str, x = .str a ∧ xs = [.ref p] ∧ (SqL K H p (ys.map V.str) ∨ SqT K H p (ys.map V.str)) ∧ (ys.map (·.length)).sum + ys.length * a.length ≤ 16777216 ∧ Q (.str (Txt.join a ys)) H
theorem de_join (K : PySem.W.Frag) {apos : Pos} (ho : DE X dx o to fo) (he : DE X dx e te fe) (hp : PE X o to → PE X e te → PE X (.Call (.Attribute o "join" apos) [e] [] pos) (tM1 (rJoin K) to te)) (hK : X.K = K := by rfl) : DE X dx (.Call (.Attribute o "join" apos) [e] [] pos) (tM1 (rJoin K) to te) (dM1 fJoin fo fe) := by
  subst hK
  refine ⟨hp ho.pe he.pe, fun σ H δ S Q Qh r s t k => ?_⟩
  refine ho.go σ H δ S _ _ r s t fun v H1 d S1 r1 x1 d1 t1 => ⟨st_v d1 t1.1, ?_⟩
  refine he.go σ H1 δ S1 _ _ r1 (s.ext x1) t1.2 fun u H2 c S2 r2 x2 d2 t2 => ?_
  have d1' := d1.ext x2
  cases d1' with
  | str a =>
    cases c with
    | lst ds =>
      obtain ⟨ys, e, t3⟩ := opt_run t2
      obtain ⟨p, xs, rfl, _, hl, al⟩ := d2.sqL
      rw [asS_at e] at al
      rw [Dt.strs_of al] at hl
      exact ⟨a, p, ys, rfl, rfl, .inl (SqL.of hl), t3.1, k _ _ _ S2 r2 (x1.trans x2) (.str _) t3.2⟩
    | _ => exact t2.elim
  | _ => exact t1.1.elim
/-! ### enumerate of a list -/
def enD (xs : List D) : List D := (List.range xs.length).map fun i => D.tup [.int (i : Nat), xs.getD i .non]
def fEnum (Q : List D → Sto → Prop) : List D → Sto → Prop
  | [.lst xs], S => Q (enD xs) S
  | _, _ => False
theorem fEnum_one {Q : List D → Sto → Prop} {ds : List D} {S : Sto} (t : fEnum Q ds S) : ∃ xs, ds = [.lst xs] ∧ Q (enD xs) S := by
  unfold fEnum at t
  split at t
  · exact ⟨_, rfl, t⟩
  · exact t.elim
def dEnum (ta : DTA) : DTA := fun δ S Q => ta δ S (fEnum Q)
theorem di_enum (K : PySem.W.Frag) {x : Str} {p : Pos} {es : List Expr} {ta : TA} {fa : DTA} (ha : DA X dx es ta fa) (hp : PA X es ta → PI X tg (.Call (.Name x p) es [] pos) (iEnum K ta)) (hK : X.K = K := by rfl) : DI X dx tg (.Call (.Name x p) es [] pos) (iEnum K ta) (dEnum fa) := by
  subst hK
  refine ⟨hp ha.pe, fun σ H δ S Q R r s t k => ?_⟩
  refine ha.go σ H δ S _ _ r s t fun vs H1 ds S1 r1 x1 d1 t1 => ?_
  obtain ⟨xs, rfl, t2⟩ := fEnum_one t1
  cases d1 with
  | cons h1 d1 =>
    cases d1
    obtain ⟨a, ws, rfl, nm, hl, al⟩ := h1.sqL
    refine ⟨a, ws, rfl, SqL.of hl, k _ H1 _ S1 r1 x1 ?_ t2⟩
    have e : (enD xs).length = ws.length := by unfold enD; rw [List.length_map, List.length_range, al.length]
    refine ⟨_, _, by rw [e]; exact walk_enum (K := X.K) (a := a) (xs := ws), fun M H2 lv x2 => ⟨SqL.of (x2.keep _ _ nm hl), fun i v H3 hi y => ?_⟩⟩
    obtain ⟨T, x, y, rfl, n, rfl, ex, ey⟩ := y
    cases ex
    obtain ⟨d, e1, dd⟩ := (al.extD x2).getV ey
    refine ⟨same_new n, .tup [.int (i : Nat), d], ?_, .tup (fun z => lv T z n) (.inl upd_same) (.cons (.int _) (.cons (dd.ext (ext_new n)) .nil))⟩
    rw [e] at hi
    unfold enD
    rw [List.getElem?_map, List.getElem?_range (by rw [← al.length]; exact hi)]
    show some (D.tup [.int (i : Nat), xs.getD i .non]) = _
    rw [List.getD_eq_getElem?_getD, e1]
    rfl
end
end DL
/-! Small steps of readings over data. -/
namespace DL
open PySem PySem.Spec L2 Gd
theorem cutD_take {α : Type} (xs : List α) {p : Nat} (h : p ≤ xs.length) : cutD xs none (some (p : Int)) = xs.take p := by
  unfold cutD
  have e1 : HT.sIx xs.length 0 none = 0 := rfl
  have e2 : HT.sIx xs.length xs.length (some (p : Int)) = min p xs.length := by
    show (if (p : Int) < 0 then ((p : Int) + (xs.length : Int)).toNat else min (p : Int).toNat xs.length) = _
    rw [if_neg (by omega), Int.toNat_natCast]
  rw [e1, e2, List.drop_zero, Nat.sub_zero, Nat.min_eq_left h]
theorem fSlT {Q : D → Sto → Prop} {q : D} {ds : List D} {lo hi : Option Int} {S : Sto} (h : q = .tup ds) (t : Q (.tup (cutD ds lo hi)) S) : fSl q lo hi S Q := by
  subst h
  exact t
theorem no {b : Bool} {A B : Prop} (hb : b = false) (h : B) : if b = true then A else B := by
  rw [hb, if_neg Bool.false_ne_true]
  exact h
theorem yes {b : Bool} {A B : Prop} (hb : b = true) (h : A) : if b = true then A else B := by
  rw [hb, if_pos rfl]
  exact h
theorem same_no {α : Type} [DecidableEq α] {x y : α} (h : x = y) : (!decide (x = y)) = false := by
  rw [decide_eq_true h]
  rfl

theorem fAdd_str {Q : D → Sto → Prop} {x y : Str} {S : Sto} (h : Fit (x.length + y.length)) (t : Q (.str (x ++ y)) S) : fAdd (.str x) (.str y) S Q := ⟨h, t⟩
end DL
namespace DL
open PySem PySem.Spec L2 Gd
namespace K6
abbrev prog : Program := PySem.Challenge.pw_allworlds_k06_marks_cut_and_joined
def top (i : Nat) : Stmt := prog.main.body.getD i (.Pass ⟨0, 0, 0, 0⟩)
abbrev s_run_kind : Stmt := top 4
abbrev s_mark_end : Stmt := top 3
abbrev s_marks_in : Stmt := top 2
abbrev s_marks_of : Stmt := top 1
abbrev s__law_heap : Stmt := top 6
abbrev s__law_draw : Stmt := top 7
abbrev s__law_pick : Stmt := top 8
abbrev s__law_kind : Stmt := top 9
abbrev s__law_marks : Stmt := top 10
abbrev s__law_piece : Stmt := top 11
abbrev s_law : Stmt := top 12
structure Txt (K : PySem.W.Frag) (mg : Str → Option Value) where
  run_kind : CalD K mg "run_kind" s_run_kind ["sign"]
  mark_end : CalD K mg "mark_end" s_mark_end ["row", "at"]
  marks_in : CalD K mg "marks_in" s_marks_in ["row", "line"]
  marks_of : CalD K mg "marks_of" s_marks_of ["text"]
  _law_heap : CalD K mg "_law_heap" s__law_heap ["_law_script"]
  _law_draw : CalD K mg "_law_draw" s__law_draw ["_law_heap_here", "_law_many"]
  _law_pick : CalD K mg "_law_pick" s__law_pick ["_law_heap_here", "_law_some"]
  _law_kind : CalD K mg "_law_kind" s__law_kind ["_law_sign"]
  _law_marks : CalD K mg "_law_marks" s__law_marks ["_law_text"]
  _law_piece : CalD K mg "_law_piece" s__law_piece ["_law_heap_here"]
  law : CalD K mg "law" s_law ["_law_script"]
  b_abs : mg "abs" = none
  b_enumerate : mg "enumerate" = none
  b_int : mg "int" = none
  b_len : mg "len" = none
  b_range : mg "range" = none
  b_repr : mg "repr" = none
  b_tuple : mg "tuple" = none
def kb_marks_of_0_text_g {α : Type} (us ws : List α) : List α := match us, ws with
  | [], [w0] => [w0]
  | _, _ => []
theorem kb_marks_of_0_text {K : PySem.W.Frag} {f : Addr} {fd : FuncData} (F : Fun K "marks_of" "marks_of" s_marks_of f fd) : KBinds K fd ["text"] ["text"] kb_marks_of_0_text_g kb_marks_of_0_text_g := by
  obtain ⟨oc, od, kV, doc, pm, an, cdv, ct, osl, rfl, lk, hcd⟩ := F.ex
  constructor
  · intro s us ws _ hl
    unfold kb_marks_of_0_text_g at hl ⊢
    split at hl
    · exact .of_eq rfl
    · cases hl
  · intro vs us zs ws r1 r2
    cases r1 with
    | cons _ _ => exact .nil
    | nil =>
      cases r2 with
      | nil => exact .nil
      | cons cw0 r2 =>
        cases r2 with
        | cons _ _ => exact .nil
        | nil =>
          exact (.cons cw0 .nil)
theorem kb_marks_of_0_text_ord : KOrd kb_marks_of_0_text_g kb_marks_of_0_text_g := by
  constructor
  · intro K M H vs ws ds es r1 r2
    cases r1 with
    | cons _ _ => exact .nil
    | nil =>
      cases r2 with
      | nil => exact .nil
      | cons cw0 r2 =>
        cases r2 with
        | cons _ _ => exact .nil
        | nil =>
          exact (.cons cw0 .nil)
theorem sc_run_kind : FnScope ["sign"] ["sign"] (defScope s_run_kind) := ⟨rfl, rfl, rfl, by decide +kernel, rfl, by decide +kernel, by decide +kernel⟩
theorem sc_mark_end : FnScope ["row", "at", "kind", "end"] ["row", "at"] (defScope s_mark_end) := ⟨rfl, rfl, rfl, by decide +kernel, rfl, by decide +kernel, by decide +kernel⟩
theorem sc_marks_in : FnScope ["row", "line", "marks", "at", "end"] ["row", "line"] (defScope s_marks_in) := ⟨rfl, rfl, rfl, by decide +kernel, rfl, by decide +kernel, by decide +kernel⟩
theorem sc_marks_of : FnScope ["text", "marks", "lines", "line", "row"] ["text"] (defScope s_marks_of) := ⟨rfl, rfl, rfl, by decide +kernel, rfl, by decide +kernel, by decide +kernel⟩
theorem sc__law_heap : FnScope ["_law_script", "_law_cell", "_law_cells", "_law_stir"] ["_law_script"] (defScope s__law_heap) := ⟨rfl, rfl, rfl, by decide +kernel, rfl, by decide +kernel, by decide +kernel⟩
theorem sc__law_draw : FnScope ["_law_heap_here", "_law_many", "_law_rest"] ["_law_heap_here", "_law_many"] (defScope s__law_draw) := ⟨rfl, rfl, rfl, by decide +kernel, rfl, by decide +kernel, by decide +kernel⟩
theorem sc__law_pick : FnScope ["_law_heap_here", "_law_some"] ["_law_heap_here", "_law_some"] (defScope s__law_pick) := ⟨rfl, rfl, rfl, by decide +kernel, rfl, by decide +kernel, by decide +kernel⟩
theorem sc__law_kind : FnScope ["_law_sign"] ["_law_sign"] (defScope s__law_kind) := ⟨rfl, rfl, rfl, by decide +kernel, rfl, by decide +kernel, by decide +kernel⟩
theorem sc__law_marks : FnScope ["_law_text", "_law_sign", "_law_found", "_law_line", "_law_at", "_law_kind_here", "_law_mark"] ["_law_text"] (defScope s__law_marks) := ⟨rfl, rfl, rfl, by decide +kernel, rfl, by decide +kernel, by decide +kernel⟩
theorem sc__law_piece : FnScope ["_law_heap_here", "_law_kind_here", "_law_some", "_law_turn"] ["_law_heap_here"] (defScope s__law_piece) := ⟨rfl, rfl, rfl, by decide +kernel, rfl, by decide +kernel, by decide +kernel⟩
theorem sc_law : FnScope ["_law_script", "_law_heap_here", "_law_turn", "_law_text", "_law_due", "_law_told", "_law_joined", "_law_again", "_law_line", "_law_at", "_law_mark"] ["_law_script"] (defScope s_law) := ⟨rfl, rfl, rfl, by decide +kernel, rfl, by decide +kernel, by decide +kernel⟩
end K6
end DL
namespace DL
open PySem PySem.Spec L2 Gd
namespace K6
/-! ### marks, by one look at one sign after another -/
structure M where
  l : Nat
  a : Nat
  s : List Nat
  k : Nat
  deriving DecidableEq
def kd (c : Nat) : Nat := if 97 ≤ c ∧ c ≤ 122 then 1 else if 48 ≤ c ∧ c ≤ 57 then 2 else 0
def fits (m : M) (l a c : Nat) : Prop := 0 < kd c ∧ m.k = kd c ∧ m.l = l ∧ m.a + m.s.length = a
instance (m : M) (l a c : Nat) : Decidable (fits m l a c) := by unfold fits; infer_instance
def addM (f : List M) (l a c : Nat) : List M := if c = 32 then f else f ++ [⟨l, a, [c], kd c⟩]
def step (f : List M) (l a c : Nat) : List M := match f.getLast? with
  | some m => if fits m l a c then f.dropLast ++ [⟨m.l, m.a, m.s ++ [c], kd c⟩] else addM f l a c
  | none => addM f l a c
def walkM : List M → Nat → Nat → List Nat → List M
  | f, _, _, [] => f
  | f, l, a, c :: r => walkM (step f l a c) (if c = 10 then l + 1 else l) (if c = 10 then 0 else a + 1) r
def marksT (t : List Nat) : List M := walkM [] 0 0 t
def m3D (m : M) : D := .tup [.int (m.l : Int), .int (m.a : Int), .str (sT m.s)]
def m4D (m : M) : D := .tup [.int (m.l : Int), .int (m.a : Int), .str (sT m.s), .int (m.k : Int)]
def kS (c : Nat) : Str := if kd c = 1 then "letters" else if kd c = 2 then "digits" else ""
def Asc (t : List Nat) : Prop := ∀ c ∈ t, c < 128
/-- where the mark that begins at a ends -/
def runL (r : List Nat) (a : Nat) : List Nat := match r[a]? with
  | some c => if kd c = 0 then [] else (r.drop (a + 1)).takeWhile fun d => decide (kd d = kd c)
  | none => []
def endF (r : List Nat) (a : Nat) : Nat := a + 1 + (runL r a).length

def sp_run_kind : DSpec := fun ds post => ∃ c : Nat, ds = [.str (sT [c])] ∧ post (.str (kS c))
def sp_mark_end : DSpec := fun ds post => ∃ (r : List Nat) (a : Nat), ds = [.str (sT r), .int (a : Int)] ∧ a < r.length ∧ r.length ≤ 100000 ∧ post (.int (endF r a : Nat))
def sp_marks_in : DSpec := fun ds post => ∃ (r : List Nat) (l : Nat), ds = [.str (sT r), .int (l : Int)] ∧ 10 ∉ r ∧ r.length ≤ 100000 ∧ post (.lst ((walkM [] l 0 r).map m3D))
def sp_marks_of : DSpec := fun ds post => ∃ t : List Nat, ds = [.str (sT t)] ∧ t.length ≤ 100000 ∧ post (.tup ((marksT t).map m3D))
abbrev sp__law_heap := spHeap
abbrev sp__law_pick := spPick
def sp__law_kind : DSpec := fun ds post => ∃ c : Nat, ds = [.str (sT [c])] ∧ post (.int (kd c : Nat))
def sp__law_marks : DSpec := fun ds post => ∃ t : List Nat, ds = [.str (sT t)] ∧ t.length ≤ 100000 ∧ Asc t ∧ post (.lst ((marksT t).map m3D))
def sp__law_piece (a : Addr) : DSpec := fun ds post => ds = [.adr a] ∧ ∀ s : List Nat, s.length ≤ 30 → Asc s → post (.str (sT s))
end K6
end DL
namespace DL
open PySem PySem.Spec L2 Gd
namespace K6
def r_run_kind : DTS := (dSeqS (dIfS (dTest (dChain fLeS fLeS (dC (.str "a")) (dVar 0) (dC (.str "z")))) (dRet (dC (.str "letters"))) dNext) (dRet (dIfE (dTest (dChain fLeS fLeS (dC (.str "0")) (dVar 0) (dC (.str "9")))) (dC (.str "digits")) (dC (.str "")))))
abbrev N_run_kind : List Str := ["sign"]
def r_mark_end : DTS := (dSeqS (dSet 2 (dCall sp_run_kind (dCons (dOp fIx (dVar 0) (dVar 1)) dNil))) (dSeqS (dSet 3 (dOp fAdd (dVar 1) (dC (.int 1)))) (dSeqS (dWhile (dAnd (dTest (dOp fNe (dVar 2) (dC (.str "")))) (dAnd (dTest (dOp fLt (dVar 3) (dCB (one fLen) (dCons (dVar 0) dNil)))) (dTest (dOp fEq (dCall sp_run_kind (dCons (dOp fIx (dVar 0) (dVar 3)) dNil)) (dVar 2))))) (dAug 3 (onI0 fun i j => .int (i + j)) (dC (.int 1)))) (dRet (dVar 3)))))
abbrev N_mark_end : List Str := ["row", "at", "kind", "end"]
def r_marks_in : DTS := (dSeqS (dSet 2 (dNew dNil)) (dSeqS (dSet 3 (dC (.int 0))) (dSeqS (dWhile (dTest (dOp fLt (dVar 3) (dCB (one fLen) (dCons (dVar 0) dNil)))) (dSeqS (dSet 4 (dCall sp_mark_end (dCons (dVar 0) (dCons (dVar 3) dNil)))) (dSeqS (dIfS (dTest (dOp fNe (dOp fIx (dVar 0) (dVar 3)) (dC (.str " ")))) (dDrop (dML fAppend (dVar 2) (dCons (dTup (dCons (dVar 1) (dCons (dVar 3) (dCons (dSlS (dVar 0) (dPart (dVar 3)) (dPart (dVar 4))) dNil)))) dNil))) dNext) (dSet 3 (dVar 4))))) (dFrz 2 (dRet (dVar 2))))))
abbrev N_marks_in : List Str := ["row", "line", "marks", "at", "end"]
def b0_marks_of : DTS := (dSeqS (dDrop (dML fExtend (dVar 1) (dCons (dCall sp_marks_in (dCons (dVar 4) (dCons (dVar 3) dNil))) dNil))) (dIfS (dTest (dOp fLt (dVar 3) (dOp fSub (dCB (one fLen) (dCons (dVar 2) dNil)) (dC (.int 1))))) (dDrop (dML fAppend (dVar 1) (dCons (dTup (dCons (dVar 3) (dCons (dCB (one fLen) (dCons (dVar 4) dNil)) (dCons (dC (.str "\n")) dNil)))) dNil))) dNext))
def r_marks_of : DTS := (dSeqS (dSet 1 (dNew dNil)) (dSeqS (dSet 2 (dM1 fSplit (dVar 0) (dC (.str "\n")))) (dSeqS (dFor (dEnum (dCons (dVar 2) dNil)) (dgTup 2 (dgCons (dgName 3) (dgCons (dgName 4) dgNil))) b0_marks_of) (dFrz 1 (dRet (dCB (one fTuple) (dCons (dVar 1) dNil)))))))
abbrev N_marks_of : List Str := ["text", "marks", "lines", "line", "row"]
def b0__law_heap : DTS := (dSet 3 (dOp fMod (dCB (one fInt) (dCons (dOp fAdd (dOp fAdd (dOp fMul (dVar 3) (dC (.int 69621))) (dOp fMod (dCB (one fInt) (dCons (dVar 1) dNil)) (dC (.int 2147483563)))) (dC (.int 29))) dNil)) (dC (.int 2147483647))))
def r__law_heap : DTS := (dSeqS (dPar [2, 3] (dCons (dLc (dSeq (dSl (dVar 0) dNoPart (dPart (dC (.int 60))))) (dgName 1) dYes (dOp fAdd (dOp fMul (dC (.int 2)) (dCB (one fAbs) (dCons (dVar 1) dNil))) (dCB (one fInt) (dCons (dOp fLt (dVar 1) (dC (.int 0))) dNil))) [1]) (dCons (dC (.int 60013)) dNil))) (dSeqS (dFor (dSeq (dVar 2)) (dgName 1) b0__law_heap) (dRet (dLst (dCons (dUn fRev (dLc (dSeq (dVar 2)) (dgName 1) (dTest (dOp fGe (dVar 1) (dOp fPow (dC (.int 10)) (dC (.int 18))))) (dVar 1) [1])) (dCons (dVar 3) dNil))))))
abbrev N__law_heap : List Str := ["_law_script", "_law_cell", "_law_cells", "_law_stir"]
def r__law_draw : DTS := (dSeqS (dWhile (dAnd (dTest (dOp fNe (dOp fIx (dVar 0) (dC (.int 0))) (dLst dNil))) (dTest (dOp fEq (dOp fIx (dOp fIx (dVar 0) (dC (.int 0))) (dUn fNeg (dC (.int 1)))) (dC (.int 0))))) (dDrop (dML0 fPop (dOp fIx (dVar 0) (dC (.int 0)))))) (dSeqS (dIfS (dTest (dOp fNe (dOp fIx (dVar 0) (dC (.int 0))) (dLst dNil))) (dSeqS (dSet 2 (dML0 fPop (dOp fIx (dVar 0) (dC (.int 0))))) (dSeqS (dDrop (dML fAppend (dOp fIx (dVar 0) (dC (.int 0))) (dCons (dOp fDiv (dVar 2) (dVar 1)) dNil))) (dRet (dOp fMod (dCB (one fInt) (dCons (dVar 2) dNil)) (dVar 1))))) dNext) (dSeqS (dSetI (dOp fMod (dCB (one fInt) (dCons (dOp fAdd (dOp fMul (dOp fIx (dVar 0) (dC (.int 1))) (dC (.int 48271))) (dC (.int 17))) dNil)) (dC (.int 2147483647))) (dVar 0) (dC (.int 1))) (dRet (dOp fMod (dCB (one fInt) (dCons (dOp fDiv (dOp fIx (dVar 0) (dC (.int 1))) (dC (.int 32))) dNil)) (dVar 1))))))
abbrev N__law_draw : List Str := ["_law_heap_here", "_law_many", "_law_rest"]
def r__law_pick (a : Addr) : DTS := (dRet (dOp fIx (dVar 1) (dCall (spDraw a) (dCons (dVar 0) (dCons (dCB (one fLen) (dCons (dVar 1) dNil)) dNil)))))
abbrev N__law_pick : List Str := ["_law_heap_here", "_law_some"]
def r__law_kind : DTS := (dSeqS (dIfS (dTest (dChain fLeS fLeS (dC (.str "a")) (dVar 0) (dC (.str "z")))) (dRet (dC (.int 1))) dNext) (dRet (dIfE (dTest (dChain fLeS fLeS (dC (.str "0")) (dVar 0) (dC (.str "9")))) (dC (.int 2)) (dC (.int 0)))))
abbrev N__law_kind : List Str := ["_law_sign"]
def b0__law_marks : DTS := (dSeqS (dSet 5 (dCall sp__law_kind (dCons (dVar 1) dNil))) (dSeqS (dIfS (dAnd (dTest (dOp fGt (dVar 5) (dC (.int 0)))) (dAnd (dTest (dOp fNe (dVar 2) (dLst dNil))) (dAnd (dTest (dOp fEq (dOp fIx (dOp fIx (dVar 2) (dUn fNeg (dC (.int 1)))) (dC (.int 3))) (dVar 5))) (dTest (dOp fEq (dSl (dOp fIx (dVar 2) (dUn fNeg (dC (.int 1)))) dNoPart (dPart (dC (.int 2)))) (dTup (dCons (dVar 3) (dCons (dOp fSub (dVar 4) (dCB (one fLen) (dCons (dOp fIx (dOp fIx (dVar 2) (dUn fNeg (dC (.int 1)))) (dC (.int 2))) dNil))) dNil)))))))) (dSetI (dOp fAdd (dSl (dOp fIx (dVar 2) (dUn fNeg (dC (.int 1)))) dNoPart (dPart (dC (.int 2)))) (dTup (dCons (dOp fAdd (dOp fIx (dOp fIx (dVar 2) (dUn fNeg (dC (.int 1)))) (dC (.int 2))) (dVar 1)) (dCons (dVar 5) dNil)))) (dVar 2) (dUn fNeg (dC (.int 1)))) (dIfS (dTest (dOp fNe (dVar 1) (dC (.str " ")))) (dDrop (dML fAppend (dVar 2) (dCons (dTup (dCons (dVar 3) (dCons (dVar 4) (dCons (dVar 1) (dCons (dVar 5) dNil))))) dNil))) dNext)) (dAsg (dIfE (dTest (dOp fEq (dVar 1) (dC (.str "\n")))) (dTup (dCons (dOp fAdd (dVar 3) (dC (.int 1))) (dCons (dC (.int 0)) dNil))) (dTup (dCons (dVar 3) (dCons (dOp fAdd (dVar 4) (dC (.int 1))) dNil)))) (dgTup 2 (dgCons (dgName 3) (dgCons (dgName 4) dgNil))))))
def r__law_marks : DTS := (dSeqS (dPar [2, 3, 4] (dCons (dNew dNil) (dCons (dC (.int 0)) (dCons (dC (.int 0)) dNil)))) (dSeqS (dFor (dStrI (dVar 0)) (dgName 1) b0__law_marks) (dFrz 2 (dRet (dLc (dSeq (dVar 2)) (dgName 6) dYes (dSl (dVar 6) dNoPart (dPart (dC (.int 3)))) [6])))))
abbrev N__law_marks : List Str := ["_law_text", "_law_sign", "_law_found", "_law_line", "_law_at", "_law_kind_here", "_law_mark"]
def r__law_piece (a : Addr) : DTS := (dSeqS (dSet 1 (dCall (spDraw a) (dCons (dVar 0) (dCons (dC (.int 9)) dNil)))) (dSeqS (dIfS (dTest (dOp fLt (dVar 1) (dC (.int 2)))) (dRet (dM1 fJoin (dC (.str "")) (dLc (dRng1 (dCons (dOp fAdd (dC (.int 1)) (dCall (spDraw a) (dCons (dVar 0) (dCons (dCall (sp__law_pick a) (dCons (dVar 0) (dCons (dLst (dCons (dC (.int 3)) (dCons (dC (.int 7)) (dCons (dC (.int 30)) dNil)))) dNil))) dNil)))) dNil)) (dgName 3) dYes (dOp fIx (dC (.str "abcxyzisof")) (dCall (spDraw a) (dCons (dVar 0) (dCons (dC (.int 10)) dNil)))) [3]))) dNext) (dSeqS (dIfS (dTest (dOp fLt (dVar 1) (dC (.int 4)))) (dRet (dM1 fJoin (dC (.str "")) (dLc (dRng1 (dCons (dOp fAdd (dC (.int 1)) (dCall (spDraw a) (dCons (dVar 0) (dCons (dCall (sp__law_pick a) (dCons (dVar 0) (dCons (dLst (dCons (dC (.int 2)) (dCons (dC (.int 4)) (dCons (dC (.int 6)) dNil)))) dNil))) dNil)))) dNil)) (dgName 3) dYes (dOp fIx (dC (.str "0123456789")) (dCall (spDraw a) (dCons (dVar 0) (dCons (dC (.int 10)) dNil)))) [3]))) dNext) (dSeqS (dIfS (dTest (dOp fEq (dVar 1) (dC (.int 4)))) (dRet (dOp fMulS (dC (.str " ")) (dOp fAdd (dC (.int 1)) (dCall (spDraw a) (dCons (dVar 0) (dCons (dC (.int 3)) dNil)))))) dNext) (dSeqS (dSet 2 (dLst (dCons (dC (.str "\n")) (dCons (dC (.str ":")) (dCons (dC (.str ",")) (dCons (dC (.str ";")) (dCons (dC (.str "/")) (dCons (dC (.str "!")) (dCons (dC (.str "&")) (dCons (dC (.str "|")) (dCons (dC (.str "(")) (dCons (dC (.str ")")) (dCons (dC (.str "A")) (dCons (dC (.str "Z")) (dCons (dC (.str "-")) (dCons (dC (.str "~")) (dCons (dC (.str "_")) (dCons (dC (.str "@")) (dCons (dC (.str "{")) (dCons (dC (.str "[")) (dCons (dC (.str "?")) (dCons (dC (.str "\n")) (dCons (dC (.str ".")) (dCons (dC (.str "$")) dNil)))))))))))))))))))))))) (dRet (dCall (sp__law_pick a) (dCons (dVar 0) (dCons (dOp fAdd (dVar 2) (dLst (dCons (dC (.str "\\")) (dCons (dC (.str "#")) (dCons (dC (.str "*")) dNil))))) dNil)))))))))
abbrev N__law_piece : List Str := ["_law_heap_here", "_law_kind_here", "_law_some", "_law_turn"]
def b0_law (a : Addr) : DTS := (dSeqS (dSet 3 (dM1 fJoin (dC (.str "")) (dLc (dRng1 (dCons (dCall (sp__law_pick a) (dCons (dVar 1) (dCons (dLst (dCons (dC (.int 5)) (dCons (dC (.int 20)) (dCons (dC (.int 1)) (dCons (dC (.int 60)) (dCons (dC (.int 0)) dNil)))))) dNil))) dNil)) (dgName 7) dYes (dCall (sp__law_piece a) (dCons (dVar 1) dNil)) [7]))) (dSeqS (dSet 3 (dIfE (dTest (dOp fEq (dCall (spDraw a) (dCons (dVar 1) (dCons (dC (.int 5)) dNil))) (dC (.int 0)))) (dOp fAdd (dOp fAdd (dOp fAdd (dOp fAdd (dOp fMulS (dC (.str "7")) (dC (.int 390))) (dC (.str " "))) (dVar 3)) (dC (.str ":"))) (dOp fMulS (dC (.str "12")) (dC (.int 190)))) (dVar 3))) (dSeqS (dSet 4 (dCB (one fTuple) (dCons (dCall sp__law_marks (dCons (dVar 3) dNil)) dNil))) (dSeqS (dSet 5 (dCall sp_marks_of (dCons (dVar 3) dNil))) (dSeqS (dIfS (dOr (dTest (dOp fNe (dCB (one fRepr) (dCons (dVar 5) dNil)) (dCB (one fRepr) (dCons (dVar 4) dNil)))) (dTest (dOp fNe (dCallK sp_marks_of kb_marks_of_0_text_g dNil (dCons (dVar 3) dNil)) (dVar 5)))) (dRet (dC (.bl false))) dNext) (dSeqS (dSet 6 (dM1 fJoin (dC (.str " ")) (dLc (dSeq (dVar 4)) (dgTup 3 (dgCons (dgName 8) (dgCons (dgName 9) (dgCons (dgName 10) dgNil)))) dYes (dVar 10) [8, 9, 10]))) (dIfS (dTest (dOp fNe (dLc (dSeq (dCall sp_marks_of (dCons (dVar 6) dNil))) (dgTup 3 (dgCons (dgName 8) (dgCons (dgName 9) (dgCons (dgName 10) dgNil)))) dYes (dVar 10) [8, 9, 10]) (dLc (dSeq (dVar 4)) (dgTup 3 (dgCons (dgName 8) (dgCons (dgName 9) (dgCons (dgName 10) dgNil)))) dYes (dVar 10) [8, 9, 10]))) (dRet (dC (.bl false))) dNext)))))))
def r_law (a : Addr) : DTS := (dSeqS (dFor (dRng1 (dCons (dOp fAdd (dC (.int 3)) (dOp fMul (dC (.int 3)) (dCB (one fInt) (dCons (dOp fGt (dCB (one fLen) (dCons (dVar 0) dNil)) (dC (.int 2))) dNil)))) dNil)) (dgName 2) (b0_law a)) (dSeqS (dIfS (dOr (dTest (dOp fNe (dCall sp_marks_of (dCons (dC (.str "")) dNil)) (dTup dNil))) (dOr (dTest (dOp fNe (dCall sp_marks_of (dCons (dC (.str "  ")) dNil)) (dTup dNil))) (dTest (dOp fNe (dCall sp_marks_of (dCons (dC (.str " \n")) dNil)) (dTup (dCons (dTup (dCons (dC (.int 0)) (dCons (dC (.int 1)) (dCons (dC (.str "\n")) dNil)))) dNil)))))) (dRet (dC (.bl false))) dNext) (dRet (dOp fEq (dCall sp_marks_of (dCons (dC (.str "wet 2of\n12/0 is3")) dNil)) (dTup (dCons (dTup (dCons (dC (.int 0)) (dCons (dC (.int 0)) (dCons (dC (.str "wet")) dNil)))) (dCons (dTup (dCons (dC (.int 0)) (dCons (dC (.int 4)) (dCons (dC (.str "2")) dNil)))) (dCons (dTup (dCons (dC (.int 0)) (dCons (dC (.int 5)) (dCons (dC (.str "of")) dNil)))) (dCons (dTup (dCons (dC (.int 0)) (dCons (dC (.int 7)) (dCons (dC (.str "\n")) dNil)))) (dCons (dTup (dCons (dC (.int 1)) (dCons (dC (.int 0)) (dCons (dC (.str "12")) dNil)))) (dCons (dTup (dCons (dC (.int 1)) (dCons (dC (.int 2)) (dCons (dC (.str "/")) dNil)))) (dCons (dTup (dCons (dC (.int 1)) (dCons (dC (.int 3)) (dCons (dC (.str "0")) dNil)))) (dCons (dTup (dCons (dC (.int 1)) (dCons (dC (.int 5)) (dCons (dC (.str "is")) dNil)))) (dCons (dTup (dCons (dC (.int 1)) (dCons (dC (.int 7)) (dCons (dC (.str "3")) dNil)))) dNil))))))))))))))
abbrev N_law : List Str := ["_law_script", "_law_heap_here", "_law_turn", "_law_text", "_law_due", "_law_told", "_law_joined", "_law_again", "_law_line", "_law_at", "_law_mark"]
end K6
end DL
namespace DL
open PySem PySem.Spec L2 Gd
namespace K6
/-! ### the walk over a line -/
theorem walkM_snoc : ∀ (p q : List Nat) (f : List M) (l a : Nat), 10 ∉ p → walkM f l a (p ++ q) = walkM (walkM f l a p) l (a + p.length) q
  | [], q, f, l, a, _ => rfl
  | c :: p, q, f, l, a, h => by
    have hc : c ≠ 10 := fun e => h (by simp [e])
    have hp : 10 ∉ p := fun m => h (List.mem_cons_of_mem _ m)
    show walkM (step f l a c) (if c = 10 then l + 1 else l) (if c = 10 then 0 else a + 1) (p ++ q) = walkM (walkM (step f l a c) (if c = 10 then l + 1 else l) (if c = 10 then 0 else a + 1) p) l (a + (c :: p).length) q
    rw [if_neg hc, if_neg hc, walkM_snoc p q _ l (a + 1) hp, List.length_cons]
    congr 1
    omega
theorem step_append {f g : List M} {l a c : Nat} (h : ∀ m ∈ f, m.l ≠ l) : step (f ++ g) l a c = f ++ step g l a c := by
  unfold step
  rcases List.eq_nil_or_concat g with rfl | ⟨g, m, rfl⟩
  · rw [List.append_nil]
    have e : (match f.getLast? with
      | some m => if fits m l a c then f.dropLast ++ [⟨m.l, m.a, m.s ++ [c], kd c⟩] else addM f l a c
      | none => addM f l a c) = addM f l a c := by
      cases e : f.getLast? with
      | none => rfl
      | some m =>
        have hm := h m (List.mem_of_getLast? e)
        show (if fits m l a c then _ else _) = _
        rw [if_neg fun z => hm z.2.2.1]
    refine Eq.trans e ?_
    show addM f l a c = f ++ addM [] l a c
    unfold addM
    split
    · rw [List.append_nil]
    · rfl
  · rw [List.concat_eq_append]
    simp only [List.getLast?_append, List.getLast?_singleton, Option.some_or]
    have e2 : (f ++ (g ++ [m])).dropLast = f ++ g := by rw [← List.append_assoc, List.dropLast_concat]
    rw [e2, List.dropLast_concat]
    split
    · rw [List.append_assoc]
    · unfold addM
      split
      · rfl
      · simp only [List.append_assoc]
theorem step_l {f : List M} {l a c : Nat} {P : Nat → Prop} (h : ∀ m ∈ f, P m.l) (hl : P l) : ∀ m ∈ step f l a c, P m.l := by
  have add : ∀ m ∈ addM f l a c, P m.l := by
    intro m mm
    unfold addM at mm
    split at mm
    · exact h m mm
    · rcases List.mem_append.mp mm with mm | mm
      · exact h m mm
      · rw [List.mem_singleton.mp mm]
        exact hl
  intro m mm
  unfold step at mm
  split at mm
  · rename_i n e
    split at mm
    · rcases List.mem_append.mp mm with mm | mm
      · exact h m (List.dropLast_subset _ mm)
      · rw [List.mem_singleton.mp mm]
        exact h n (List.mem_of_getLast? e)
    · exact add m mm
  · exact add m mm
theorem walkM_append {f : List M} {l : Nat} (h : ∀ m ∈ f, m.l ≠ l) : ∀ (r : List Nat) (g : List M) (a : Nat), 10 ∉ r → walkM (f ++ g) l a r = f ++ walkM g l a r
  | [], g, a, _ => rfl
  | c :: r, g, a, hr => by
    have hc : c ≠ 10 := fun e => hr (by simp [e])
    show walkM (step (f ++ g) l a c) (if c = 10 then l + 1 else l) (if c = 10 then 0 else a + 1) r = f ++ walkM (step g l a c) (if c = 10 then l + 1 else l) (if c = 10 then 0 else a + 1) r
    rw [if_neg hc, if_neg hc, step_append h, walkM_append h r _ _ fun m => hr (List.mem_cons_of_mem _ m)]
theorem walkM_l {l : Nat} : ∀ (r : List Nat) (g : List M) (a : Nat), 10 ∉ r → (∀ m ∈ g, m.l = l) → ∀ m ∈ walkM g l a r, m.l = l
  | [], g, a, _, h => h
  | c :: r, g, a, hr, h => by
    have hc : c ≠ 10 := fun e => hr (by simp [e])
    show ∀ m ∈ walkM (step g l a c) (if c = 10 then l + 1 else l) (if c = 10 then 0 else a + 1) r, m.l = l
    rw [if_neg hc, if_neg hc]
    exact walkM_l r _ _ (fun m => hr (List.mem_cons_of_mem _ m)) (step_l (P := fun x => x = l) h rfl)
/-! ### lines -/
def joinN : List (List Nat) → List Nat
  | [] => []
  | [r] => r
  | r :: s :: rs => r ++ 10 :: joinN (s :: rs)
def rowsM : Nat → List (List Nat) → List M
  | _, [] => []
  | l, [r] => walkM [] l 0 r
  | l, r :: s :: rs => walkM [] l 0 r ++ ⟨l, r.length, [10], 0⟩ :: rowsM (l + 1) (s :: rs)
theorem kd10 : kd 10 = 0 := rfl
theorem step10 (f : List M) (l a : Nat) : step f l a 10 = f ++ [⟨l, a, [10], 0⟩] := by
  have e : addM f l a 10 = f ++ [⟨l, a, [10], 0⟩] := by
    unfold addM
    rw [if_neg (by decide)]
    rfl
  unfold step
  split
  · rw [if_neg fun z => absurd z.1 (by decide)]
    exact e
  · exact e
theorem rows_walk : ∀ (rs : List (List Nat)) (f : List M) (l : Nat), rs ≠ [] → (∀ r ∈ rs, 10 ∉ r) → (∀ m ∈ f, m.l < l) → walkM f l 0 (joinN rs) = f ++ rowsM l rs
  | [], _, _, h, _, _ => absurd rfl h
  | [r], f, l, _, hr, hf => by
    have := walkM_append (f := f) (l := l) (fun m mm => Nat.ne_of_lt (hf m mm)) r [] 0 (hr r (by simp))
    rw [List.append_nil] at this
    exact this
  | r :: s :: rs, f, l, _, hr, hf => by
    have h1 := walkM_append (f := f) (l := l) (fun m mm => Nat.ne_of_lt (hf m mm)) r [] 0 (hr r (by simp))
    rw [List.append_nil] at h1
    show walkM f l 0 (r ++ 10 :: joinN (s :: rs)) = f ++ (walkM [] l 0 r ++ ⟨l, r.length, [10], 0⟩ :: rowsM (l + 1) (s :: rs))
    rw [walkM_snoc r _ f l 0 (hr r (by simp)), h1]
    show walkM (step (f ++ walkM [] l 0 r) l (0 + r.length) 10) (l + 1) 0 (joinN (s :: rs)) = _
    rw [step10, rows_walk (s :: rs) _ (l + 1) (by simp) (fun x m => hr x (List.mem_cons_of_mem _ m)) ?_]
    · simp [List.append_assoc]
    · intro m mm
      rcases List.mem_append.mp mm with mm | mm
      · rcases List.mem_append.mp mm with mm | mm
        · exact Nat.lt_succ_of_lt (hf m mm)
        · rw [walkM_l r [] 0 (hr r (by simp)) (fun m mm => nomatch mm) m mm]
          exact Nat.lt_succ_self l
      · rw [List.mem_singleton.mp mm]
        exact Nat.lt_succ_self l
/-! ### a mark after another within a line -/
theorem run_step (l k : Nat) (hk : 0 < k) : ∀ (run : List Nat) (F : List M) (a0 : Nat) (s : List Nat), (∀ d ∈ run, kd d = k) → walkM (F ++ [⟨l, a0, s, k⟩]) l (a0 + s.length) run = F ++ [⟨l, a0, s ++ run, k⟩]
  | [], F, a0, s, _ => by
    rw [List.append_nil]
    rfl
  | d :: run, F, a0, s, h => by
    have hd := h d List.mem_cons_self
    have d10 : d ≠ 10 := fun e => by
      rw [e, kd10] at hd
      omega
    have st : step (F ++ [⟨l, a0, s, k⟩]) l (a0 + s.length) d = F ++ [⟨l, a0, s ++ [d], k⟩] := by
      unfold step
      simp only [List.getLast?_append, List.getLast?_singleton, Option.some_or]
      rw [if_pos ⟨by omega, hd.symm, rfl, rfl⟩, List.dropLast_concat, hd]
    show walkM (step (F ++ [⟨l, a0, s, k⟩]) l (a0 + s.length) d) (if d = 10 then l + 1 else l) (if d = 10 then 0 else a0 + s.length + 1) run = _
    rw [st, if_neg d10, if_neg d10]
    have ih := run_step l k hk run F a0 (s ++ [d]) fun x m => h x (List.mem_cons_of_mem _ m)
    rw [List.length_append, List.length_singleton, List.append_assoc] at ih
    exact ih
/-- no sign at a belongs to the last mark -/
def Free (F : List M) (l a : Nat) (c : Nat) : Prop := ∀ m, F.getLast? = some m → ¬ fits m l a c
theorem step_free {F : List M} {l a c : Nat} (h : Free F l a c) : step F l a c = addM F l a c := by
  unfold step
  cases e : F.getLast? with
  | none => rfl
  | some m =>
    show (if fits m l a c then _ else _) = _
    rw [if_neg (h m e)]
/-- one mark more -/
theorem mark_step {F : List M} {l a c : Nat} {run : List Nat} (hc : c ≠ 10) (h : Free F l a c) (hr : ∀ d ∈ run, kd d = kd c) (h0 : kd c = 0 → run = []) :
    walkM F l a (c :: run) = if c = 32 then F else F ++ [⟨l, a, c :: run, kd c⟩] := by
  show walkM (step F l a c) (if c = 10 then l + 1 else l) (if c = 10 then 0 else a + 1) run = _
  rw [step_free h, if_neg hc, if_neg hc]
  unfold addM
  by_cases hs : c = 32
  · rw [if_pos hs, if_pos hs, h0 (by rw [hs]; rfl)]
    rfl
  · rw [if_neg hs, if_neg hs]
    by_cases hk : kd c = 0
    · rw [h0 hk]
      rfl
    · exact run_step l (kd c) (by omega) run F a [c] hr
end K6
end DL
namespace DL
open PySem PySem.Spec L2 Gd
open PySem.Builtin.Str PySem.StrLaws
namespace K6
theorem nlT : ("\n" : Str) = sT [10] := by decide +kernel
theorem occ_all (x : Str) (c limit : Nat) : ∀ (k a : Nat) (st : Array Nat × Nat), st.snd ≤ a → st.fst.size + k ≤ limit →
    (forIn (List.range' a k) st (occBody x ⟨#[c]⟩ x.length limit)).run.fst.toList = st.fst.toList ++ (List.range' a k).filter fun i => decide (x.cps.toList[i]? = some c)
  | 0, a, st, _, _ => by simp
  | k + 1, a, st, h1, h2 => by
    rw [List.range'_succ, List.forIn_cons]
    have one := subAt_one x c a
    by_cases hc : x.cps.toList[a]? = some c
    · have cond : ((st.fst.size < limit ∧ st.snd ≤ a) ∧ a + (⟨#[c]⟩ : Str).length ≤ x.length) ∧ subAt x ⟨#[c]⟩ a = true := ⟨⟨⟨by omega, h1⟩, (one.mpr hc).1⟩, (one.mpr hc).2⟩
      have e : occBody x ⟨#[c]⟩ x.length limit a st = pure (ForInStep.yield (st.fst.push a, a + (⟨#[c]⟩ : Str).length)) := by
        unfold occBody
        rw [if_pos cond]
      rw [e]
      show (forIn (List.range' (a + 1) k) (st.fst.push a, a + 1) (occBody x ⟨#[c]⟩ x.length limit)).run.fst.toList = _
      rw [occ_all x c limit k (a + 1) _ (Nat.le_refl _) (by rw [Array.size_push]; omega), List.filter_cons_of_pos (by simpa using hc), Array.toList_push, List.append_assoc]
      rfl
    · have cond : ¬ (((st.fst.size < limit ∧ st.snd ≤ a) ∧ a + (⟨#[c]⟩ : Str).length ≤ x.length) ∧ subAt x ⟨#[c]⟩ a = true) := fun z => hc (one.mp ⟨z.1.2, z.2⟩)
      have e : occBody x ⟨#[c]⟩ x.length limit a st = pure (ForInStep.yield (st.fst, st.snd)) := by
        unfold occBody
        rw [if_neg cond]
      rw [e]
      show (forIn (List.range' (a + 1) k) (st.fst, st.snd) (occBody x ⟨#[c]⟩ x.length limit)).run.fst.toList = _
      rw [occ_all x c limit k (a + 1) _ (by show st.snd ≤ a + 1; omega) (by show st.fst.size + k ≤ limit; omega), List.filter_cons_of_neg (by simpa using hc)]
theorem occ_filter (x : Str) (c : Nat) : occurrences x ⟨#[c]⟩ 0 x.length (x.length + 1) = (List.range' 0 (x.length + 1)).filter fun i => decide (x.cps.toList[i]? = some c) := by
  rw [occ_eq, Nat.sub_zero]
  have := occ_all x c (x.length + 1) (x.length + 1) 0 (#[], 0) (Nat.le_refl _) (by simp)
  simpa using this
theorem sub_no {x : Str} {c i j : Nat} (h : ∀ k, i ≤ k → k < j → x.cps.toList[k]? ≠ some c) : c ∉ (strSub x i j).cps.toList := by
  intro m
  have m : c ∈ (x.cps.extract i j).toList := m
  rw [Array.toList_extract] at m
  obtain ⟨k, hk⟩ := List.mem_iff_getElem?.mp m
  rw [List.extract_eq_drop_take, List.getElem?_take] at hk
  split at hk
  · rename_i hlt
    rw [List.getElem?_drop] at hk
    exact h (i + k) (by omega) (by omega) hk
  · cases hk
theorem parts_no (x : Str) (c : Nat) : ∀ (k a b : Nat), a + k = x.length + 1 → b ≤ a → (∀ i, b ≤ i → i < a → x.cps.toList[i]? ≠ some c) →
    ∀ p ∈ partsFrom x 1 b ((List.range' a k).filter fun i => decide (x.cps.toList[i]? = some c)), c ∉ p.cps.toList
  | 0, a, b, e, hb, h, p, m => by
    have m : p ∈ [strSub x b x.length] := m
    rw [List.mem_singleton.mp m]
    exact sub_no fun i h1 h2 => h i h1 (by omega)
  | k + 1, a, b, e, hb, h, p, m => by
    rw [List.range'_succ] at m
    by_cases hc : x.cps.toList[a]? = some c
    · rw [List.filter_cons_of_pos (by simpa using hc)] at m
      rcases List.mem_cons.mp m with rfl | m
      · exact sub_no h
      · exact parts_no x c k (a + 1) (a + 1) (by omega) (Nat.le_refl _) (fun i h1 h2 => absurd h1 (by omega)) p m
    · rw [List.filter_cons_of_neg (by simpa using hc)] at m
      refine parts_no x c k (a + 1) b (by omega) (by omega) (fun i h1 h2 => ?_) p m
      by_cases hi : i = a
      · rw [hi]; exact hc
      · exact h i h1 (by omega)
theorem join_joinN : ∀ ps : List Str, (Str.join (sT [10]) ps).cps.toList = joinN (ps.map fun p => p.cps.toList)
  | [] => rfl
  | [p] => rfl
  | p :: q :: r => by
    have ih := join_joinN (q :: r)
    show (p ++ sT [10] ++ Str.join (sT [10]) (q :: r)).cps.toList = p.cps.toList ++ 10 :: joinN ((q :: r).map fun p => p.cps.toList)
    rw [← ih]
    show ((p.cps ++ #[10]) ++ (Str.join (sT [10]) (q :: r)).cps).toList = _
    simp
theorem split_nl (t : List Nat) : ∃ rs : List (List Nat), Txt.split (sT t) "\n" = rs.map sT ∧ joinN rs = t ∧ (∀ r ∈ rs, 10 ∉ r) ∧ rs ≠ [] := by
  have hj := join_split (sT t) (sT [10])
  have hp := PyProof.Rows.split_pos (sT t) (sT [10])
  rw [nlT]
  refine ⟨(Txt.split (sT t) (sT [10])).map fun p => p.cps.toList, ?_, ?_, ?_, ?_⟩
  · rw [List.map_map]
    have : (sT ∘ fun p : Str => p.cps.toList) = id := by
      funext p
      exact sT_of p
    rw [this, List.map_id]
  · rw [← join_joinN, hj]
    rfl
  · intro r m
    obtain ⟨p, mp, rfl⟩ := List.mem_map.mp m
    have whole : (10 ∉ t) → ∀ p ∈ [sT t], 10 ∉ p.cps.toList := fun h p m => by
      rw [List.mem_singleton.mp m]
      exact h
    unfold Txt.split at mp
    split at mp
    · rename_i hh
      refine whole ?_ p mp
      have h2 : decide (Builtin.Str.strKind (sT t) < Builtin.Str.strKind (sT [10])) = false := by
        refine decide_eq_false ?_
        have : Builtin.Str.strKind (sT [10]) = 1 := by decide +kernel
        rw [this]
        unfold Builtin.Str.strKind
        split
        · omega
        · split <;> omega
      rw [h2, Bool.or_false] at hh
      have h3 : (sT t).length < (sT [10]).length := of_decide_eq_true hh
      have h4 : t.length < 1 := h3
      intro z
      have := List.length_pos_of_mem z
      omega
    · split at mp
      · rename_i hh
        refine whole ?_ p mp
        intro z
        have f := found_one (sT t) 10
        have : (!(occurrences (sT t) ⟨#[10]⟩ 0 (sT t).length 1).isEmpty) = true := by
          rw [f]
          exact decide_eq_true z
        -- an occurrence among all
        have g := occ_filter (sT t) 10
        have hh : (occurrences (sT t) ⟨#[10]⟩ 0 (sT t).length ((sT t).length + 1)).isEmpty = true := hh
        rw [g, List.isEmpty_iff, List.filter_eq_nil_iff] at hh
        obtain ⟨i, hi⟩ := List.mem_iff_getElem?.mp z
        have li : i < t.length := (List.getElem?_eq_some_iff.mp hi).1
        exact hh i (by rw [List.mem_range'_1]; exact ⟨Nat.zero_le _, by show i < 0 + (t.length + 1); omega⟩) (decide_eq_true (show (sT t).cps.toList[i]? = some 10 from hi))
      · have mp : p ∈ partsBetween (sT t) (occurrences (sT t) ⟨#[10]⟩ 0 (sT t).length ((sT t).length + 1)) 1 := mp
        rw [partsBetween_eq, occ_filter] at mp
        exact parts_no (sT t) 10 ((sT t).length + 1) 0 0 (by omega) (Nat.le_refl _) (fun i h1 h2 => absurd h2 (by omega)) p mp
  · intro z
    rw [List.map_eq_nil_iff] at z
    rw [z] at hp
    simp at hp
end K6
end DL
namespace DL
open PySem PySem.Spec L2 Gd
namespace K6
theorem sT_inj {a b : List Nat} : sT a = sT b ↔ a = b := by
  constructor
  · intro h
    have := congrArg (fun z : Str => z.cps.toList) h
    exact this
  · intro h
    rw [h]
theorem lt1 (c d : Nat) : (!decide ([c] < [d])) = decide (d ≤ c) := by
  have : ([c] < [d]) ↔ c < d := by
    rw [List.cons_lt_cons_iff]
    constructor
    · rintro (h | ⟨_, h⟩)
      · exact h
      · exact absurd h (List.not_lt_nil _)
    · exact .inl
  by_cases h : c < d
  · rw [decide_eq_true (this.mpr h), decide_eq_false (by omega)]
    rfl
  · rw [decide_eq_false (fun z => h (this.mp z)), decide_eq_true (by omega)]
    rfl
theorem chain_in {lo hi : Str} {d e c : Nat} {rest : Sl} {Q : Bool → Sto → Prop} (hlo : lo = sT [d]) (hhi : hi = sT [e]) (h : Q (decide (d ≤ c) && decide (c ≤ e)) []) :
    dTest (dChain fLeS fLeS (dC (.str lo)) (dVar 0) (dC (.str hi))) (some (.str (sT [c])) :: rest) [] Q := by
  subst hlo hhi
  show (if (!decide ([c] < [d])) = true then _ else _)
  rw [lt1]
  by_cases h1 : d ≤ c
  · rw [decide_eq_true h1] at h
    refine yes (decide_eq_true h1) ?_
    show Q (!decide ([e] < [c])) []
    rw [lt1]
    exact h
  · rw [decide_eq_false h1] at h
    refine no (decide_eq_false h1) ?_
    exact h
theorem tA : ("a" : Str) = sT [97] := by decide +kernel
theorem tZ : ("z" : Str) = sT [122] := by decide +kernel
theorem t0 : ("0" : Str) = sT [48] := by decide +kernel
theorem t9 : ("9" : Str) = sT [57] := by decide +kernel
theorem tB : (" " : Str) = sT [32] := by decide +kernel
theorem tE : ("" : Str) = sT [] := by decide +kernel
theorem inLo (c : Nat) : (decide (97 ≤ c) && decide (c ≤ 122)) = decide (97 ≤ c ∧ c ≤ 122) := by rw [Bool.decide_and]
theorem inDi (c : Nat) : (decide (48 ≤ c) && decide (c ≤ 57)) = decide (48 ≤ c ∧ c ≤ 57) := by rw [Bool.decide_and]
theorem ln_run_kind : ∀ ds post, sp_run_kind ds post → ds.length = 1 := by
  rintro ds post ⟨c, rfl, _⟩
  rfl
theorem vc_run_kind : ∀ ds post, sp_run_kind ds post → r_run_kind { nx := fun _ _ => post .non, rt := fun d _ => post d } (startD N_run_kind ds) [] := by
  rintro ds post ⟨c, rfl, h⟩
  unfold kS kd at h
  refine chain_in (c := c) (rest := []) tA tZ ?_
  rw [inLo]
  by_cases h1 : 97 ≤ c ∧ c ≤ 122
  · refine yes (decide_eq_true h1) ?_
    rw [if_pos (by rw [if_pos h1])] at h
    exact h
  · refine no (decide_eq_false h1) ?_
    rw [if_neg h1] at h
    refine chain_in (c := c) (rest := []) t0 t9 ?_
    rw [inDi]
    by_cases h2 : 48 ≤ c ∧ c ≤ 57
    · refine yes (decide_eq_true h2) ?_
      rw [if_pos h2, if_neg (by decide), if_pos rfl] at h
      exact h
    · refine no (decide_eq_false h2) ?_
      rw [if_neg h2, if_neg (by decide), if_neg (by decide)] at h
      exact h
theorem ln__law_kind : ∀ ds post, sp__law_kind ds post → ds.length = 1 := by
  rintro ds post ⟨c, rfl, _⟩
  rfl
theorem vc__law_kind : ∀ ds post, sp__law_kind ds post → r__law_kind { nx := fun _ _ => post .non, rt := fun d _ => post d } (startD N__law_kind ds) [] := by
  rintro ds post ⟨c, rfl, h⟩
  unfold kd at h
  refine chain_in (c := c) (rest := []) tA tZ ?_
  rw [inLo]
  by_cases h1 : 97 ≤ c ∧ c ≤ 122
  · refine yes (decide_eq_true h1) ?_
    rw [if_pos h1] at h
    exact h
  · refine no (decide_eq_false h1) ?_
    rw [if_neg h1] at h
    refine chain_in (c := c) (rest := []) t0 t9 ?_
    rw [inDi]
    by_cases h2 : 48 ≤ c ∧ c ≤ 57
    · refine yes (decide_eq_true h2) ?_
      rw [if_pos h2] at h
      exact h
    · refine no (decide_eq_false h2) ?_
      rw [if_neg h2] at h
      exact h
theorem kd3 (c : Nat) : kd c = 0 ∨ kd c = 1 ∨ kd c = 2 := by
  unfold kd
  split
  · exact .inr (.inl rfl)
  · split
    · exact .inr (.inr rfl)
    · exact .inl rfl
theorem kS_eq (c d : Nat) : kS c = kS d ↔ kd c = kd d := by
  unfold kS
  rcases kd3 c with h | h | h <;> rcases kd3 d with g | g | g <;> rw [h, g] <;> decide +kernel
theorem kS_empty (c : Nat) : kS c = "" ↔ kd c = 0 := by
  unfold kS
  rcases kd3 c with h | h | h <;> rw [h] <;> decide +kernel
theorem tw_at {p : Nat → Bool} : ∀ (L : List Nat) (j : Nat), j < (L.takeWhile p).length → ∃ d, L[j]? = some d ∧ p d = true
  | [], j, h => by simp at h
  | c :: L, j, h => by
    by_cases hc : p c = true
    · rw [List.takeWhile_cons_of_pos hc] at h
      cases j with
      | zero => exact ⟨c, rfl, hc⟩
      | succ j => exact tw_at L j (by simpa using h)
    · rw [List.takeWhile_cons_of_neg hc] at h
      simp at h
theorem tw_end {p : Nat → Bool} : ∀ (L : List Nat) (d : Nat), L[(L.takeWhile p).length]? = some d → p d = false
  | [], d, h => by simp at h
  | c :: L, d, h => by
    by_cases hc : p c = true
    · rw [List.takeWhile_cons_of_pos hc, List.length_cons, List.getElem?_cons_succ] at h
      exact tw_end L d h
    · rw [List.takeWhile_cons_of_neg hc] at h
      have h : some c = some d := h
      cases h
      simpa using hc
theorem tw_take {p : Nat → Bool} (L : List Nat) : L.take (L.takeWhile p).length = L.takeWhile p := by
  induction L with
  | nil => rfl
  | cons c L ih =>
    by_cases hc : p c = true
    · rw [List.takeWhile_cons_of_pos hc, List.length_cons, List.take_succ_cons, ih]
    · rw [List.takeWhile_cons_of_neg hc]
      rfl
theorem tw_len {p : Nat → Bool} (L : List Nat) : (L.takeWhile p).length ≤ L.length := by
  have := congrArg List.length (tw_take (p := p) L)
  rw [List.length_take] at this
  omega
theorem runL_len (r : List Nat) (a : Nat) : (runL r a).length ≤ r.length - (a + 1) := by
  unfold runL
  split
  · rename_i c _
    split
    · exact Nat.zero_le _
    · have := tw_len (p := fun d => decide (kd d = kd c)) (r.drop (a + 1))
      rw [List.length_drop] at this
      exact this
  · exact Nat.zero_le _
theorem sz_ok {r : List Nat} (hl : r.length ≤ 100000) : (sT r).length ≤ sizeLine := by
  rw [sizeLine_eq, sT_len]
  omega
theorem ln_mark_end : ∀ ds post, sp_mark_end ds post → ds.length = 2 := by
  rintro ds post ⟨r, a, rfl, _⟩
  rfl
theorem vc_mark_end : ∀ ds post, sp_mark_end ds post → r_mark_end { nx := fun _ _ => post .non, rt := fun d _ => post d } (startD N_mark_end ds) [] := by
  rintro ds post ⟨r, a, rfl, ha, hl, h⟩
  obtain ⟨c, hc⟩ : ∃ c, r[a]? = some c := ⟨r[a], List.getElem?_eq_getElem ha⟩
  refine ⟨sz_ok hl, opt_of (atI_nat hc) ?_⟩
  refine ⟨c, rfl, ?_⟩
  have e0 : (a : Int) + 1 = ((a + 1 + 0 : Nat) : Int) := by omega
  refine ⟨fun m δ S => S = [] ∧ ∃ j : Nat, δ = [some (.str (sT r)), some (.int (a : Int)), some (.str (kS c)), some (.int ((a + 1 + j : Nat) : Int))] ∧ j ≤ (runL r a).length ∧ m = (runL r a).length - j, ⟨_, rfl, 0, by rw [← e0]; rfl, Nat.zero_le _, rfl⟩, ?_⟩
  rintro m δ S ⟨rfl, j, rfl, hj, rfl⟩
  have fin : j = (runL r a).length → dRet (dVar 3) { nx := fun _ _ => post .non, rt := fun d _ => post d } [some (.str (sT r)), some (.int (a : Int)), some (.str (kS c)), some (.int ((a + 1 + j : Nat) : Int))] [] := by
    intro e
    rw [e]
    exact h
  have er : runL r a = if kd c = 0 then [] else (r.drop (a + 1)).takeWhile fun d => decide (kd d = kd c) := by
    unfold runL
    rw [hc]
  show (if (!decide (kS c = "")) = true then _ else _)
  by_cases hk : kd c = 0
  · refine no (by rw [decide_eq_true ((kS_empty c).mpr hk)]; rfl) ?_
    refine fin ?_
    rw [er, if_pos hk] at hj ⊢
    simpa using hj
  · rw [if_neg hk] at er
    refine yes (by rw [decide_eq_false fun z => hk ((kS_empty c).mp z)]; rfl) ?_
    refine ⟨by unfold Fit; rw [sT_len]; omega, ?_⟩
    show (if decide (((a + 1 + j : Nat) : Int) < ((sT r).length : Int)) = true then _ else _)
    rw [sT_len]
    by_cases hlt : a + 1 + j < r.length
    · refine yes (decide_eq_true (by omega)) ?_
      obtain ⟨d, hd⟩ : ∃ d, r[a + 1 + j]? = some d := ⟨r[a + 1 + j], List.getElem?_eq_getElem hlt⟩
      have hd2 : (r.drop (a + 1))[j]? = some d := by rw [List.getElem?_drop]; exact hd
      refine ⟨sz_ok hl, opt_of (atI_nat hd) ?_⟩
      refine ⟨d, rfl, ?_⟩
      show (if decide (kS d = kS c) = true then _ else _)
      by_cases hj2 : j < (runL r a).length
      · obtain ⟨d', e1, e2⟩ := tw_at (p := fun d => decide (kd d = kd c)) (r.drop (a + 1)) j (by rw [← er]; exact hj2)
        rw [hd2] at e1
        cases e1
        refine yes (decide_eq_true ((kS_eq _ _).mpr (of_decide_eq_true e2))) ?_
        refine ⟨(runL r a).length - (j + 1), by omega, rfl, j + 1, ?_, by omega, rfl⟩
        have e3 : ((a + 1 + j : Nat) : Int) + 1 = ((a + 1 + (j + 1) : Nat) : Int) := by omega
        rw [← e3]
        rfl
      · have je : j = (runL r a).length := by omega
        have e2 := tw_end (p := fun d => decide (kd d = kd c)) (r.drop (a + 1)) d (by rw [← er, ← je]; exact hd2)
        refine no (decide_eq_false fun z => ?_) (fin je)
        exact absurd ((kS_eq _ _).mp z) (of_decide_eq_false e2)
    · refine no (decide_eq_false (by omega)) (fin ?_)
      have := runL_len r a
      omega
end K6
end DL
namespace DL
open PySem PySem.Spec L2 Gd
namespace K6
theorem walkM_len : ∀ (r : List Nat) (f : List M) (l a : Nat), (walkM f l a r).length ≤ f.length + r.length
  | [], f, l, a => Nat.le_refl _
  | c :: r, f, l, a => by
    have ih := walkM_len r (step f l a c) (if c = 10 then l + 1 else l) (if c = 10 then 0 else a + 1)
    have hs : (step f l a c).length ≤ f.length + 1 := by
      have ha : (addM f l a c).length ≤ f.length + 1 := by
        unfold addM
        split
        · omega
        · rw [List.length_append, List.length_singleton]
          exact Nat.le_refl _
      unfold step
      split
      · rename_i m e
        split
        · rw [List.length_append, List.length_dropLast, List.length_singleton]
          omega
        · exact ha
      · exact ha
    show (walkM (step f l a c) _ _ r).length ≤ _
    rw [List.length_cons]
    omega
theorem runL_all {r : List Nat} {a c : Nat} (h : r[a]? = some c) : (∀ d ∈ runL r a, kd d = kd c) ∧ (kd c = 0 → runL r a = []) ∧ runL r a = (r.drop (a + 1)).take (runL r a).length ∧ (kd c ≠ 0 → ∀ d, r[endF r a]? = some d → kd d ≠ kd c) := by
  have er : runL r a = if kd c = 0 then [] else (r.drop (a + 1)).takeWhile fun d => decide (kd d = kd c) := by
    unfold runL
    rw [h]
  by_cases hk : kd c = 0
  · rw [if_pos hk] at er
    rw [er]
    refine ⟨fun d m => (nomatch m), fun _ => rfl, by simp, fun z => absurd hk z⟩
  · rw [if_neg hk] at er
    refine ⟨fun d m => ?_, fun z => absurd z hk, ?_, fun _ d hd => ?_⟩
    · rw [er] at m
      obtain ⟨j, hj⟩ := List.mem_iff_getElem?.mp m
      obtain ⟨lj, ej⟩ := List.getElem?_eq_some_iff.mp hj
      obtain ⟨d', e1, e2⟩ := tw_at (p := fun d => decide (kd d = kd c)) (r.drop (a + 1)) j lj
      have e3 : ((r.drop (a + 1)).take ((r.drop (a + 1)).takeWhile fun d => decide (kd d = kd c)).length)[j]? = some d := by rw [tw_take]; exact hj
      rw [List.getElem?_take, if_pos lj, e1] at e3
      cases e3
      exact of_decide_eq_true e2
    · have := tw_take (p := fun d => decide (kd d = kd c)) (r.drop (a + 1))
      rw [← er] at this
      exact this.symm
    · have := tw_end (p := fun d => decide (kd d = kd c)) (r.drop (a + 1)) d (by rw [← er, List.getElem?_drop]; exact hd)
      exact of_decide_eq_false this
theorem cut_row {r : List Nat} {a c : Nat} (h : r[a]? = some c) : r.drop a = c :: r.drop (a + 1) := by
  have ha := (List.getElem?_eq_some_iff.mp h).1
  rw [List.drop_eq_getElem_cons ha]
  have := (List.getElem?_eq_some_iff.mp h).2
  rw [this]
theorem endF_le {r : List Nat} {a c : Nat} (h : r[a]? = some c) : endF r a ≤ r.length := by
  have ha := (List.getElem?_eq_some_iff.mp h).1
  have := runL_len r a
  unfold endF
  omega
theorem take_end {r : List Nat} {a c : Nat} (h : r[a]? = some c) : r.take (endF r a) = r.take a ++ c :: runL r a := by
  have hr := (runL_all h).2.2.1
  unfold endF
  rw [show a + 1 + (runL r a).length = a + ((runL r a).length + 1) by omega, List.take_add, cut_row h, List.take_succ_cons, ← hr]
theorem slice_end {r : List Nat} {a c : Nat} (h : r[a]? = some c) : cutS (sT r) (some (a : Int)) (some ((endF r a : Nat) : Int)) = sT (c :: runL r a) := by
  have ha := (List.getElem?_eq_some_iff.mp h).1
  have he := endF_le h
  have hr := (runL_all h).2.2.1
  unfold cutS
  have e1 : HT.sIx (sT r).length 0 (some (a : Int)) = a := by
    show (if (a : Int) < 0 then ((a : Int) + ((sT r).length : Int)).toNat else min (a : Int).toNat (sT r).length) = a
    rw [if_neg (by omega), Int.toNat_natCast, sT_len]
    omega
  have e2 : HT.sIx (sT r).length (sT r).length (some ((endF r a : Nat) : Int)) = endF r a := by
    show (if ((endF r a : Nat) : Int) < 0 then (((endF r a : Nat) : Int) + ((sT r).length : Int)).toNat else min ((endF r a : Nat) : Int).toNat (sT r).length) = endF r a
    rw [if_neg (by omega), Int.toNat_natCast, sT_len]
    omega
  rw [e1, e2, sT_list, cut_row h]
  have e3 : endF r a - a = (runL r a).length + 1 := by unfold endF; omega
  rw [e3, List.take_succ_cons, ← hr]
  rfl
theorem ln_marks_in : ∀ ds post, sp_marks_in ds post → ds.length = 2 := by
  rintro ds post ⟨r, l, rfl, _⟩
  rfl
theorem vc_marks_in : ∀ ds post, sp_marks_in ds post → r_marks_in { nx := fun _ _ => post .non, rt := fun d _ => post d } (startD N_marks_in ds) [] := by
  rintro ds post ⟨r, l, rfl, h10, hl, h⟩
  refine ⟨by show 0 ≤ 16777216; decide, fun p => ?_⟩
  refine ⟨fun m δ S => ∃ (a : Nat) (x4 : Option D), a ≤ r.length ∧ m = r.length - a ∧ δ = [some (.str (sT r)), some (.int (l : Int)), some (.adr p), some (.int (a : Int)), x4] ∧
      S = [(p, (walkM [] l 0 (r.take a)).map m3D)] ∧ (∀ m, (walkM [] l 0 (r.take a)).getLast? = some m → m.a + m.s.length ≤ a) ∧ (∀ c, r[a]? = some c → Free (walkM [] l 0 (r.take a)) l a c),
    ⟨_, 0, none, Nat.zero_le _, rfl, rfl, rfl, fun m e => (by cases e), fun c _ m e => (by cases e)⟩, ?_⟩
  rintro m δ S ⟨a, x4, ha, rfl, rfl, rfl, hb, hf⟩
  refine ⟨by unfold Fit; rw [sT_len]; omega, ?_⟩
  show (if decide ((a : Int) < ((sT r).length : Int)) = true then _ else _)
  rw [sT_len]
  by_cases hlt : a < r.length
  · refine yes (decide_eq_true (by omega)) ?_
    obtain ⟨c, hc⟩ : ∃ c, r[a]? = some c := ⟨r[a], List.getElem?_eq_getElem hlt⟩
    have he := endF_le hc
    obtain ⟨r1, r2, r3, r4⟩ := runL_all hc
    have c10 : c ≠ 10 := fun z => h10 (by rw [← z]; exact List.mem_of_getElem? hc)
    have t10 : 10 ∉ r.take a := fun m => h10 (List.mem_of_mem_take m)
    have next : walkM [] l 0 (r.take (endF r a)) = if c = 32 then walkM [] l 0 (r.take a) else walkM [] l 0 (r.take a) ++ [⟨l, a, c :: runL r a, kd c⟩] := by
      rw [take_end hc, walkM_snoc _ _ _ _ _ t10, List.length_take, Nat.min_eq_left ha, Nat.zero_add]
      exact mark_step c10 (hf c hc) r1 r2
    refine ⟨r, a, rfl, hlt, hl, ?_⟩
    have ea : a < endF r a := by unfold endF; omega
    refine ⟨sz_ok hl, opt_of (atI_nat hc) ?_⟩
    show (if (!decide ((⟨#[c]⟩ : Str) = " ")) = true then _ else _)
    rw [tB]
    by_cases hs : c = 32
    · rw [if_pos hs] at next
      refine no (by rw [decide_eq_true (by rw [hs]; rfl)]; rfl) ?_
      refine ⟨r.length - endF r a, by omega, endF r a, _, he, rfl, rfl, by rw [next], ?_, ?_⟩
      · intro m e
        rw [next] at e
        have := hb m e
        omega
      · intro c' hc' m e z
        rw [next] at e
        have := hb m e
        have := z.2.2.2
        omega
    · rw [if_neg hs] at next
      have ne : ¬ (⟨#[c]⟩ : Str) = sT [32] := fun z => hs (by
        have := sT_inj.mp (show sT [c] = sT [32] from z)
        simpa using this)
      refine yes (by rw [decide_eq_false ne]; rfl) ?_
      refine ⟨?_, ?_⟩
      · show (getS [(p, _)] p).isSome = true
        rw [getS_self]
        rfl
      · refine ⟨by unfold Fit; rw [sT_len]; omega, ?_⟩
        rw [slice_end hc]
        refine ⟨by show 3 ≤ 16777216; decide, opt_of getS_self ⟨?_, ?_⟩⟩
        · unfold Fit
          rw [List.length_map]
          have := walkM_len (r.take a) [] l 0
          rw [List.length_take, List.length_nil] at this
          omega
        · rw [setS_one]
          refine ⟨r.length - endF r a, by omega, endF r a, _, he, rfl, rfl, ?_, ?_, ?_⟩
          · rw [next, List.map_append]
            rfl
          · intro m e
            rw [next, List.getLast?_append, List.getLast?_singleton, Option.some_or] at e
            cases e
            show a + (c :: runL r a).length ≤ endF r a
            unfold endF
            rw [List.length_cons]
            omega
          · intro c' hc' m e z
            rw [next, List.getLast?_append, List.getLast?_singleton, Option.some_or] at e
            cases e
            have z1 : 0 < kd c' := z.1
            have z2 : kd c = kd c' := z.2.1
            exact r4 (by omega) c' hc' z2.symm
  · refine no (decide_eq_false (by omega)) ?_
    have e : a = r.length := by omega
    rw [e, List.take_length]
    refine opt_of getS_self ?_
    exact h
/-! ### all lines -/
def enF : Nat → List D → List D
  | _, [] => []
  | i, x :: xs => .tup [.int (i : Int), x] :: enF (i + 1) xs
theorem enF_len : ∀ (i : Nat) (xs : List D), (enF i xs).length = xs.length
  | _, [] => rfl
  | i, x :: xs => by
    show (enF (i + 1) xs).length + 1 = _
    rw [enF_len (i + 1) xs]
    rfl
theorem enF_at : ∀ (i j : Nat) (xs : List D), j < xs.length → (enF i xs)[j]? = some (.tup [.int ((i + j : Nat) : Int), xs.getD j .non])
  | i, j, [], h => by simp at h
  | i, 0, x :: xs, _ => rfl
  | i, j + 1, x :: xs, h => by
    show (enF (i + 1) xs)[j]? = _
    rw [enF_at (i + 1) j xs (by simpa using h)]
    congr 3
    congr 1
    omega
theorem enD_enF (xs : List D) : enD xs = enF 0 xs := by
  apply List.ext_getElem?
  intro j
  by_cases h : j < xs.length
  · rw [enF_at 0 j xs h]
    unfold enD
    rw [List.getElem?_map, List.getElem?_range h, Nat.zero_add]
    rfl
  · rw [List.getElem?_eq_none (by unfold enD; rw [List.length_map, List.length_range]; omega), List.getElem?_eq_none (by rw [enF_len]; omega)]
def rD (r : List Nat) : D := .str (sT r)
theorem tN : ("\n" : Str) = sT [10] := nlT
theorem lp_lines {DD : DEnds} {t : D} {n : Nat} {p : Addr} {L : List D} (hL : L.length = n) : ∀ (rs : List (List Nat)) (i : Nat) (F : List M) (x3 x4 : Option D), i + rs.length = n → (∀ r ∈ rs, 10 ∉ r) → F.length + (joinN rs).length ≤ 100000 →
    (∀ x3 x4, DD.nx [some t, some (.adr p), some (.lst L), x3, x4] [(p, (F ++ rowsM i rs).map m3D)]) →
    forGo (dgTup 2 (dgCons (dgName 3) (dgCons (dgName 4) dgNil))) b0_marks_of DD (enF i (rs.map rD)) [some t, some (.adr p), some (.lst L), x3, x4] [(p, F.map m3D)]
  | [], i, F, x3, x4, _, _, _, h => by
    have := h x3 x4
    rw [show rowsM i [] = [] from rfl, List.append_nil] at this
    exact this
  | r :: rs, i, F, x3, x4, hi, hr, hs, h => by
    have hr0 := hr r (by simp)
    have jl : r.length ≤ (joinN (r :: rs)).length := by
      cases rs with
      | nil => exact Nat.le_refl _
      | cons s rs =>
        show r.length ≤ (r ++ 10 :: joinN (s :: rs)).length
        rw [List.length_append]
        omega
    refine ⟨rfl, ?_, ?_⟩
    · show (getS [(p, _)] p).isSome = true
      rw [getS_self]
      rfl
    · refine ⟨r, i, rfl, hr0, by omega, ?_⟩
      have wl := walkM_len r [] i 0
      rw [List.length_nil] at wl
      refine opt_of getS_self (opt_of (x := (walkM [] i 0 r).map m3D) rfl ?_)
      refine ⟨by unfold Fit; rw [List.length_map, List.length_map]; omega, ?_⟩
      rw [setS_one, ← List.map_append]
      show (if decide ((i : Int) < (L.length : Int) - 1) = true then _ else _)
      rw [hL]
      cases rs with
      | nil =>
        refine no (decide_eq_false (by rw [List.length_singleton] at hi; omega)) ?_
        exact lp_lines hL [] (i + 1) _ _ _ (by rw [List.length_singleton] at hi; simpa using hi) (fun r m => nomatch m) (by show _ + 0 ≤ _; rw [List.length_append]; omega) (by
          intro x3 x4
          have := h x3 x4
          rw [show rowsM i [r] = walkM [] i 0 r from rfl] at this
          rw [show rowsM (i + 1) [] = [] from rfl, List.append_nil]
          exact this)
      | cons s rs =>
        have jn : (joinN (r :: s :: rs)).length = r.length + 1 + (joinN (s :: rs)).length := by
          show (r ++ 10 :: joinN (s :: rs)).length = _
          rw [List.length_append, List.length_cons]
          omega
        refine yes (decide_eq_true (by simp only [List.length_cons] at hi; omega)) ?_
        refine ⟨?_, ?_⟩
        · show (getS [(p, _)] p).isSome = true
          rw [getS_self]
          rfl
        · refine ⟨by unfold Fit; rw [sT_len]; omega, ?_⟩
          refine ⟨by show 3 ≤ 16777216; decide, opt_of getS_self ?_⟩
          refine ⟨by unfold Fit; rw [List.length_map, List.length_append]; omega, ?_⟩
          rw [setS_one]
          have e : (F ++ walkM [] i 0 r).map m3D ++ [D.tup [.int (i : Int), .int ((sT r).length : Int), .str "\n"]] = (F ++ walkM [] i 0 r ++ ([⟨i, r.length, [10], 0⟩] : List M)).map m3D := by
            rw [List.map_append (l₂ := [_]), tN]
            rfl
          rw [e]
          refine lp_lines hL (s :: rs) (i + 1) _ _ _ (by simp only [List.length_cons] at hi ⊢; omega) (fun x m => hr x (List.mem_cons_of_mem _ m)) (by simp only [List.length_append, List.length_singleton]; omega) fun x3 x4 => ?_
          have := h x3 x4
          rw [show rowsM i (r :: s :: rs) = walkM [] i 0 r ++ ⟨i, r.length, [10], 0⟩ :: rowsM (i + 1) (s :: rs) from rfl] at this
          simpa [List.append_assoc] using this
theorem ln_marks_of : ∀ ds post, sp_marks_of ds post → ds.length = 1 := by
  rintro ds post ⟨t, rfl, _⟩
  rfl
theorem vc_marks_of : ∀ ds post, sp_marks_of ds post → r_marks_of { nx := fun _ _ => post .non, rt := fun d _ => post d } (startD N_marks_of ds) [] := by
  rintro ds post ⟨t, rfl, hl, h⟩
  refine ⟨by show 0 ≤ 16777216; decide, fun p => ?_⟩
  refine ⟨trivial, by decide +kernel, by rw [sT_len]; omega, ?_⟩
  obtain ⟨rs, e1, e2, e3, e4⟩ := split_nl t
  have eL : (Txt.split (sT t) "\n").map D.str = rs.map rD := by
    rw [e1, List.map_map]
    rfl
  rw [eL]
  show forGo _ _ _ (enD (rs.map rD)) _ _
  rw [enD_enF]
  refine lp_lines (n := rs.length) (by rw [List.length_map]) rs 0 [] none none (by omega) e3 (by rw [e2, List.length_nil]; omega) fun x3 x4 => ?_
  refine opt_of getS_self ?_
  have w := rows_walk rs [] 0 e4 e3 (fun m mm => nomatch mm)
  rw [e2] at w
  rw [List.nil_append] at w ⊢
  rw [← w]
  exact h
end K6
end DL
namespace DL
open PySem PySem.Spec L2 Gd
namespace K6
def AscF (F : List M) : Prop := ∀ m ∈ F, Asc m.s
theorem strOk_sT {s : List Nat} (h : Asc s) : PyData.strOk (sT s) = true := by
  show (s.toArray).all (fun c => decide (c < 0x110000)) = true
  rw [Array.all_eq_true_iff_forall_mem]
  intro c m
  have := h c (by simpa using m)
  exact decide_eq_true (by omega)
theorem m4_dn {n : Nat} {F : List M} (h : AscF F) : (F.map m4D).all (dn (n + 2)) = true := by
  rw [List.all_eq_true]
  intro x m
  obtain ⟨y, my, rfl⟩ := List.mem_map.mp m
  show ([D.int (y.l : Int), .int (y.a : Int), .str (sT y.s), .int (y.k : Int)]).all (dn (n + 1)) = true
  simp only [List.all_cons, List.all_nil, Bool.and_true]
  show (true && (true && (PyData.strOk (sT y.s) && true))) = true
  rw [strOk_sT (h y my)]
  rfl
theorem step_asc {F : List M} {l a c : Nat} (h : AscF F) (hc : c < 128) : AscF (step F l a c) := by
  have one : Asc [c] := fun x m => by
    rw [List.mem_singleton.mp m]
    exact hc
  have add : AscF (addM F l a c) := by
    unfold addM
    split
    · exact h
    · intro m mm
      rcases List.mem_append.mp mm with mm | mm
      · exact h m mm
      · rw [List.mem_singleton.mp mm]
        exact one
  unfold step
  split
  · rename_i n e
    split
    · intro m mm
      rcases List.mem_append.mp mm with mm | mm
      · exact h m (List.dropLast_subset _ mm)
      · rw [List.mem_singleton.mp mm]
        intro x mx
        rcases List.mem_append.mp mx with mx | mx
        · exact h n (List.mem_of_getLast? e) x mx
        · exact one x mx
    · exact add
  · exact add
theorem deq_two (x y z w : Int) : deq (.tup [.int x, .int y]) (.tup [.int z, .int w]) = decide (x = z ∧ y = w) := by
  simp only [deq, py, pyAll, PyData.eqv, PyData.eqvAll, Bool.decide_and, Bool.and_true]
  rfl
theorem app_last {α β : Type} (f : α → β) (G : List α) (m : α) : (G ++ [m]).map f = G.map f ++ [f m] := by
  rw [List.map_append]
  rfl
theorem sT_add (a b : List Nat) : sT a ++ sT b = sT (a ++ b) := by
  show (⟨a.toArray ++ b.toArray⟩ : Str) = ⟨(a ++ b).toArray⟩
  simp
theorem tNL (c : Nat) : ((⟨#[c]⟩ : Str) = "\n") ↔ c = 10 := by
  rw [tN]
  exact (sT_inj (a := [c]) (b := [10])).trans (by simp)
theorem tSP (c : Nat) : ((⟨#[c]⟩ : Str) = " ") ↔ c = 32 := by
  rw [tB]
  exact (sT_inj (a := [c]) (b := [32])).trans (by simp)
def sD (c : Nat) : D := .str ⟨#[c]⟩
end K6
end DL
namespace DL
open PySem PySem.Spec L2 Gd
namespace K6
theorem step_size {F : List M} {l a c n : Nat} (h : ∀ m ∈ F, m.s.length ≤ n) (h1 : 1 ≤ n + 1) : ∀ m ∈ step F l a c, m.s.length ≤ n + 1 := by
  have add : ∀ m ∈ addM F l a c, m.s.length ≤ n + 1 := by
    unfold addM
    split
    · exact fun m mm => Nat.le_succ_of_le (h m mm)
    · intro m mm
      rcases List.mem_append.mp mm with mm | mm
      · exact Nat.le_succ_of_le (h m mm)
      · rw [List.mem_singleton.mp mm]
        exact h1
  unfold step
  split
  · rename_i n' e
    split
    · intro m mm
      rcases List.mem_append.mp mm with mm | mm
      · exact Nat.le_succ_of_le (h m (List.dropLast_subset _ mm))
      · rw [List.mem_singleton.mp mm]
        show (n'.s ++ [c]).length ≤ n + 1
        rw [List.length_append, List.length_singleton]
        have := h n' (List.mem_of_getLast? e)
        omega
    · exact add
  · exact add
theorem step_len (F : List M) (l a c : Nat) : (step F l a c).length ≤ F.length + 1 := by
  have := walkM_len [c] F l a
  exact this
theorem lp_look {DD : DEnds} {t : Option D} {p : Addr} {x6 : Option D} : ∀ (r : List Nat) (F : List M) (l a n : Nat) (x1 x5 : Option D), Asc r → AscF F → F.length + r.length ≤ 100000 → n + r.length ≤ 100000 → (∀ m ∈ F, m.s.length ≤ n) →
    (∀ l' a' x1 x5, DD.nx [t, x1, some (.adr p), l', a', x5, x6] [(p, (walkM F l a r).map m4D)]) →
    forGo (dgName 1) b0__law_marks DD (r.map sD) [t, x1, some (.adr p), some (.int (l : Int)), some (.int (a : Int)), x5, x6] [(p, F.map m4D)]
  | [], F, l, a, n, x1, x5, _, _, _, _, _, h => h _ _ _ _
  | c :: r, F, l, a, n, x1, x5, hr, hF, hs, hn, hm, h => by
    rw [List.length_cons] at hs hn
    have hc := hr c List.mem_cons_self
    have sa := step_asc (l := l) (a := a) hF hc
    have sz := step_size (l := l) (a := a) (c := c) hm (by omega)
    have sl := step_len F l a c
    -- behind the mark is put: line and place
    have tail : ∀ S : Sto, S = [(p, (step F l a c).map m4D)] → (dAsg (dIfE (dTest (dOp fEq (dVar 1) (dC (.str "\n")))) (dTup (dCons (dOp fAdd (dVar 3) (dC (.int 1))) (dCons (dC (.int 0)) dNil))) (dTup (dCons (dVar 3) (dCons (dOp fAdd (dVar 4) (dC (.int 1))) dNil)))) (dgTup 2 (dgCons (dgName 3) (dgCons (dgName 4) dgNil))))
        { DD with nx := forGo (dgName 1) b0__law_marks DD (r.map sD), ct := forGo (dgName 1) b0__law_marks DD (r.map sD), bk := DD.nx } [t, some (sD c), some (.adr p), some (.int (l : Int)), some (.int (a : Int)), some (.int (kd c : Int)), x6] S := by
      rintro S rfl
      have go := lp_look (DD := DD) (t := t) (p := p) (x6 := x6) r (step F l a c) (if c = 10 then l + 1 else l) (if c = 10 then 0 else a + 1) (n + 1) (some (sD c)) (some (.int (kd c : Int))) (fun x m => hr x (List.mem_cons_of_mem _ m)) sa (by omega) (by omega) sz h
      show (if decide ((⟨#[c]⟩ : Str) = "\n") = true then _ else _)
      by_cases h10 : c = 10
      · rw [if_pos h10, if_pos h10] at go
        refine yes (decide_eq_true ((tNL c).mpr h10)) ⟨by show 2 ≤ 16777216; decide, rfl, ?_⟩
        exact go
      · rw [if_neg h10, if_neg h10] at go
        refine no (decide_eq_false fun z => h10 ((tNL c).mp z)) ⟨by show 2 ≤ 16777216; decide, rfl, ?_⟩
        exact go
    -- a mark of its own
    have put_ : step F l a c = addM F l a c → (dSeqS (dIfS (dTest (dOp fNe (dVar 1) (dC (.str " ")))) (dDrop (dML fAppend (dVar 2) (dCons (dTup (dCons (dVar 3) (dCons (dVar 4) (dCons (dVar 1) (dCons (dVar 5) dNil))))) dNil))) dNext) (dAsg (dIfE (dTest (dOp fEq (dVar 1) (dC (.str "\n")))) (dTup (dCons (dOp fAdd (dVar 3) (dC (.int 1))) (dCons (dC (.int 0)) dNil))) (dTup (dCons (dVar 3) (dCons (dOp fAdd (dVar 4) (dC (.int 1))) dNil)))) (dgTup 2 (dgCons (dgName 3) (dgCons (dgName 4) dgNil)))))
        { DD with nx := forGo (dgName 1) b0__law_marks DD (r.map sD), ct := forGo (dgName 1) b0__law_marks DD (r.map sD), bk := DD.nx } [t, some (sD c), some (.adr p), some (.int (l : Int)), some (.int (a : Int)), some (.int (kd c : Int)), x6] [(p, F.map m4D)] := by
      intro e
      unfold addM at e
      show (if (!decide ((⟨#[c]⟩ : Str) = " ")) = true then _ else _)
      by_cases h32 : c = 32
      · rw [if_pos h32] at e
        refine no (by rw [decide_eq_true ((tSP c).mpr h32)]; rfl) ?_
        exact tail _ (by rw [e])
      · rw [if_neg h32] at e
        refine yes (by rw [decide_eq_false fun z => h32 ((tSP c).mp z)]; rfl) ?_
        refine ⟨?_, ?_⟩
        · show (getS [(p, _)] p).isSome = true
          rw [getS_self]
          rfl
        · refine ⟨by show 4 ≤ 16777216; decide, opt_of getS_self ?_⟩
          refine ⟨by unfold Fit; rw [List.length_map]; omega, ?_⟩
          rw [setS_one]
          refine tail _ ?_
          rw [e, app_last]
          rfl
    refine ⟨c, rfl, ?_⟩
    show (if decide ((0 : Int) < (kd c : Int)) = true then _ else _)
    have plain : (∀ m, F.getLast? = some m → ¬ fits m l a c) → step F l a c = addM F l a c := fun hh => step_free hh
    by_cases hk : 0 < kd c
    · refine yes (decide_eq_true (by omega)) ?_
      refine ⟨by show 0 ≤ 16777216; decide, ?_⟩
      have fz : frz [(p, F.map m4D)] (.adr p) = .lst (F.map m4D) := by
        show frzO p (getS [(p, F.map m4D)] p) = _
        rw [getS_self]
        rfl
      refine ⟨by rw [fz]; exact m4_dn hF, rfl, ?_⟩
      rw [fz]
      show (if (!deq (.lst (F.map m4D)) (.lst [])) = true then _ else _)
      rcases List.eq_nil_or_concat F with rfl | ⟨G, m, rfl⟩
      · refine no (by simp [deq, py, pyAll, PyData.eqv, PyData.eqvAll]) ?_
        exact put_ (plain fun m e => by cases e)
      · rw [List.concat_eq_append] at *
        have last : (G ++ [m]).getLast? = some m := by simp
        have lm : ∀ {Q : D → Sto → Prop}, Q (m4D m) [(p, (G ++ [m]).map m4D)] → fIx (.adr p) (.int (-1)) [(p, (G ++ [m]).map m4D)] Q := fun q => opt_of getS_self (opt_of (x := m4D m) (by rw [app_last]; exact atI_last _ _) q)
        have hmm := hm m (by simp)
        refine yes ?_ ?_
        · rw [app_last]
          cases G with
          | nil => simp [deq, py, pyAll, PyData.eqv, PyData.eqvAll]
          | cons g G => simp [deq, py, pyAll, PyData.eqv, PyData.eqvAll]
        · refine opt_of getS_self (opt_of (x := m4D m) (by rw [app_last]; exact atI_last _ _) ?_)
          show (if decide ((m.k : Int) = (kd c : Int)) = true then _ else _)
          by_cases h1 : m.k = kd c
          · refine yes (decide_eq_true (by rw [h1])) ?_
            refine opt_of getS_self (opt_of (x := m4D m) (by rw [app_last]; exact atI_last _ _) ?_)
            refine opt_of getS_self (opt_of (x := m4D m) (by rw [app_last]; exact atI_last _ _) ?_)
            refine ⟨by unfold Fit; rw [sT_len]; omega, by show 2 ≤ 16777216; decide, rfl, rfl, ?_⟩
            show (if deq (.tup [.int (m.l : Int), .int (m.a : Int)]) (.tup [.int (l : Int), .int ((a : Int) - ((sT m.s).length : Int))]) = true then _ else _)
            rw [deq_two, sT_len]
            by_cases h2 : m.l = l ∧ m.a + m.s.length = a
            · refine yes (decide_eq_true (by omega)) ?_
              have fit : fits m l a c := ⟨hk, h1, h2⟩
              have e : step (G ++ [m]) l a c = G ++ [⟨m.l, m.a, m.s ++ [c], kd c⟩] := by
                unfold step
                simp only [last]
                rw [if_pos fit, List.dropLast_concat]
              refine opt_of getS_self (opt_of (x := m4D m) (by rw [app_last]; exact atI_last _ _) ?_)
              refine opt_of getS_self (opt_of (x := m4D m) (by rw [app_last]; exact atI_last _ _) ?_)
              refine ⟨by unfold Fit; rw [sT_len]; show m.s.length + 1 ≤ 16777216; omega, ?_⟩
              refine ⟨by show 2 ≤ 16777216; decide, by show 4 ≤ 16777216; decide, ?_⟩
              refine opt_of getS_self (opt_of (x := G.length) ?_ ?_)
              · rw [List.length_map, List.length_append, List.length_singleton]
                show (if (0 : Int) ≤ -1 then _ else if -((G.length + 1 : Nat) : Int) ≤ -1 then some ((-1 : Int) + ((G.length + 1 : Nat) : Int)).toNat else none) = some G.length
                rw [if_neg (by decide), if_pos (by omega)]
                congr 1
                omega
              · rw [setS_one]
                refine tail _ ?_
                rw [e, app_last, app_last, List.set_append_right _ _ (by rw [List.length_map]; exact Nat.le_refl _), List.length_map, Nat.sub_self]
                show [(p, G.map m4D ++ [D.tup [.int (m.l : Int), .int (m.a : Int), .str (sT m.s ++ sT [c]), .int (kd c : Int)]])] = _
                rw [sT_add]
                rfl
            · refine no (decide_eq_false (by omega)) ?_
              refine put_ (plain fun m' e z => ?_)
              rw [last] at e
              cases e
              exact h2 z.2.2
          · refine no (decide_eq_false (by omega)) ?_
            refine put_ (plain fun m' e z => ?_)
            rw [last] at e
            cases e
            exact h1 z.2.1
    · refine no (decide_eq_false (by omega)) ?_
      exact put_ (plain fun m e z => hk z.1)
end K6
end DL
namespace DL
open PySem PySem.Spec L2 Gd
namespace K6
/-! ### texts joined by a blank are cut into the same marks -/
def GoodS (s : List Nat) : Prop := ∃ c run, s = c :: run ∧ c ≠ 32 ∧ (∀ d ∈ run, kd d = kd c) ∧ (kd c = 0 → run = [])
theorem step_good {F : List M} {l a c : Nat} (h : ∀ m ∈ F, GoodS m.s ∧ ∀ d ∈ m.s, kd d = m.k) : ∀ m ∈ step F l a c, GoodS m.s ∧ ∀ d ∈ m.s, kd d = m.k := by
  have add : ∀ m ∈ addM F l a c, GoodS m.s ∧ ∀ d ∈ m.s, kd d = m.k := by
    unfold addM
    split
    · exact h
    · rename_i h32
      intro m mm
      rcases List.mem_append.mp mm with mm | mm
      · exact h m mm
      · rw [List.mem_singleton.mp mm]
        exact ⟨⟨c, [], rfl, h32, fun d m => (nomatch m), fun _ => rfl⟩, fun d m => by rw [List.mem_singleton.mp m]⟩
  unfold step
  split
  · rename_i n e
    split
    · rename_i fit
      intro m mm
      rcases List.mem_append.mp mm with mm | mm
      · exact h m (List.dropLast_subset _ mm)
      · rw [List.mem_singleton.mp mm]
        obtain ⟨⟨c0, run, e0, h32, h1, h2⟩, h3⟩ := h n (List.mem_of_getLast? e)
        have all : ∀ d ∈ n.s ++ [c], kd d = kd c := by
          intro d md
          rcases List.mem_append.mp md with md | md
          · rw [h3 d md, fit.2.1]
          · rw [List.mem_singleton.mp md]
        have k0 : kd c0 = kd c := all c0 (by rw [e0]; simp)
        refine ⟨⟨c0, run ++ [c], by show n.s ++ [c] = _; rw [e0]; rfl, h32, fun d md => ?_, fun z => ?_⟩, all⟩
        · rw [k0]
          refine all d ?_
          rw [e0]
          rcases List.mem_append.mp md with md | md
          · simp [md]
          · simp [List.mem_singleton.mp md]
        · have := fit.1
          omega
    · exact add
  · exact add
theorem walk_good : ∀ (r : List Nat) (F : List M) (l a : Nat), (∀ m ∈ F, GoodS m.s ∧ ∀ d ∈ m.s, kd d = m.k) → ∀ m ∈ walkM F l a r, GoodS m.s ∧ ∀ d ∈ m.s, kd d = m.k
  | [], F, l, a, h => h
  | c :: r, F, l, a, h => walk_good r _ _ _ (step_good h)
theorem walk_asc : ∀ (r : List Nat) (F : List M) (l a : Nat), Asc r → AscF F → AscF (walkM F l a r)
  | [], F, l, a, _, h => h
  | c :: r, F, l, a, hr, h => walk_asc r _ _ _ (fun x m => hr x (List.mem_cons_of_mem _ m)) (step_asc h (hr c List.mem_cons_self))
def tx (F : List M) : List (List Nat) := F.map fun m => m.s
/-- nothing of the last mark lies behind a -/
def Behind (F : List M) (l a : Nat) : Prop := ∀ m, F.getLast? = some m → m.l = l → m.a + m.s.length ≤ a
theorem one_mark {F : List M} {l a : Nat} {s q : List Nat} (hs : GoodS s) (hf : ∀ c, Free F l a c) : ∃ F' l' a', walkM F l a (s ++ q) = walkM F' l' a' q ∧ tx F' = tx F ++ [s] ∧ Behind F' l' a' := by
  obtain ⟨c, run, rfl, h32, h1, h2⟩ := hs
  by_cases h10 : c = 10
  · subst h10
    rw [h2 rfl]
    refine ⟨F ++ [⟨l, a, [10], 0⟩], l + 1, 0, ?_, ?_, ?_⟩
    · show walkM (step F l a 10) (l + 1) 0 q = _
      rw [step10]
    · unfold tx
      rw [List.map_append]
      rfl
    · intro m e hl
      rw [List.getLast?_append, List.getLast?_singleton, Option.some_or] at e
      cases e
      have hl : l = l + 1 := hl
      omega
  · have n10 : 10 ∉ c :: run := by
      intro m
      rcases List.mem_cons.mp m with e | m
      · exact h10 e.symm
      · have := h1 10 m
        rw [kd10] at this
        rw [h2 this.symm] at m
        cases m
    have ms := mark_step (l := l) (a := a) (F := F) h10 (hf c) h1 h2
    rw [if_neg h32] at ms
    refine ⟨F ++ [⟨l, a, c :: run, kd c⟩], l, a + (c :: run).length, ?_, ?_, ?_⟩
    · rw [walkM_snoc _ _ _ _ _ n10, ms]
    · unfold tx
      rw [List.map_append]
      rfl
    · intro m e hl
      rw [List.getLast?_append, List.getLast?_singleton, Option.some_or] at e
      cases e
      exact Nat.le_refl _
theorem rest_marks : ∀ (ms : List (List Nat)) (F : List M) (l a : Nat), (∀ s ∈ ms, GoodS s) → Behind F l a → tx (walkM F l a ((ms.map fun s => 32 :: s).flatten)) = tx F ++ ms
  | [], F, l, a, _, _ => by
    rw [List.append_nil]
    rfl
  | s :: ms, F, l, a, h, hb => by
    have st : step F l a 32 = F := by
      have fr : Free F l a 32 := fun m e z => absurd z.1 (by decide)
      rw [step_free fr]
      rfl
    have fr : ∀ c, Free F l (a + 1) c := fun c m e z => by
      have := hb m e z.2.2.1
      have := z.2.2.2
      omega
    obtain ⟨F', l', a', e1, e2, e3⟩ := one_mark (q := (ms.map fun s => 32 :: s).flatten) (h s List.mem_cons_self) fr
    show tx (walkM (step F l a 32) l (a + 1) (s ++ (ms.map fun s => 32 :: s).flatten)) = _
    rw [st, e1, rest_marks ms F' l' a' (fun x m => h x (List.mem_cons_of_mem _ m)) e3, e2, List.append_assoc]
    rfl
def joinL (sep : List Nat) : List (List Nat) → List Nat
  | [] => []
  | r :: rs => r ++ (rs.map fun s => sep ++ s).flatten
theorem join_marks (ms : List (List Nat)) (h : ∀ s ∈ ms, GoodS s) : tx (marksT (joinL [32] ms)) = ms := by
  cases ms with
  | nil => rfl
  | cons s ms =>
    obtain ⟨F', l', a', e1, e2, e3⟩ := one_mark (F := []) (l := 0) (a := 0) (q := (ms.map fun s => 32 :: s).flatten) (h s List.mem_cons_self) (fun c m e => by cases e)
    show tx (walkM [] 0 0 (s ++ (ms.map fun s => 32 :: s).flatten)) = _
    rw [e1, rest_marks ms F' l' a' (fun x m => h x (List.mem_cons_of_mem _ m)) e3, e2]
    rfl
theorem marks_again (t : List Nat) : tx (marksT (joinL [32] (tx (marksT t)))) = tx (marksT t) := by
  refine join_marks _ fun s m => ?_
  obtain ⟨x, mx, rfl⟩ := List.mem_map.mp m
  exact (walk_good t [] 0 0 (fun m mm => nomatch mm) x mx).1
/-! ### sizes -/
def tl (F : List M) : Nat := (F.map fun m => m.s.length).sum
theorem tl_append (a b : List M) : tl (a ++ b) = tl a + tl b := by
  unfold tl
  rw [List.map_append, List.sum_append]
theorem step_tl (F : List M) (l a c : Nat) : tl (step F l a c) ≤ tl F + 1 := by
  have add : tl (addM F l a c) ≤ tl F + 1 := by
    unfold addM
    split
    · omega
    · rw [tl_append]
      exact Nat.le_refl _
  unfold step
  split
  · rename_i n e
    split
    · obtain ⟨G, rfl⟩ : ∃ G, F = G ++ [n] := by
        rcases List.eq_nil_or_concat F with rfl | ⟨G, m, rfl⟩
        · cases e
        · rw [List.concat_eq_append] at e ⊢
          rw [List.getLast?_append, List.getLast?_singleton, Option.some_or] at e
          cases e
          exact ⟨G, rfl⟩
      rw [List.dropLast_concat, tl_append, tl_append]
      show tl G + ((n.s ++ [c]).length + 0) ≤ tl G + (n.s.length + 0) + 1
      rw [List.length_append, List.length_singleton]
      omega
    · exact add
  · exact add
theorem walk_tl : ∀ (r : List Nat) (F : List M) (l a : Nat), tl (walkM F l a r) ≤ tl F + r.length
  | [], F, l, a => Nat.le_refl _
  | c :: r, F, l, a => by
    have ih := walk_tl r (step F l a c) (if c = 10 then l + 1 else l) (if c = 10 then 0 else a + 1)
    have := step_tl F l a c
    show tl (walkM (step F l a c) _ _ r) ≤ _
    rw [List.length_cons]
    omega
theorem walk_la : ∀ (r : List Nat) (F : List M) (l a n : Nat), (∀ m ∈ F, m.l ≤ n ∧ m.a ≤ n) → l ≤ n → a ≤ n → ∀ m ∈ walkM F l a r, m.l ≤ n + r.length ∧ m.a ≤ n + r.length
  | [], F, l, a, n, h, _, _ => h
  | c :: r, F, l, a, n, h, hl, ha => by
    have st : ∀ m ∈ step F l a c, m.l ≤ n + 1 ∧ m.a ≤ n + 1 := by
      have add : ∀ m ∈ addM F l a c, m.l ≤ n + 1 ∧ m.a ≤ n + 1 := by
        unfold addM
        split
        · exact fun m mm => ⟨Nat.le_succ_of_le (h m mm).1, Nat.le_succ_of_le (h m mm).2⟩
        · intro m mm
          rcases List.mem_append.mp mm with mm | mm
          · exact ⟨Nat.le_succ_of_le (h m mm).1, Nat.le_succ_of_le (h m mm).2⟩
          · rw [List.mem_singleton.mp mm]
            exact ⟨Nat.le_succ_of_le hl, Nat.le_succ_of_le ha⟩
      unfold step
      split
      · rename_i x e
        split
        · intro m mm
          rcases List.mem_append.mp mm with mm | mm
          · have := h m (List.dropLast_subset _ mm)
            exact ⟨Nat.le_succ_of_le this.1, Nat.le_succ_of_le this.2⟩
          · rw [List.mem_singleton.mp mm]
            have := h x (List.mem_of_getLast? e)
            exact ⟨Nat.le_succ_of_le this.1, Nat.le_succ_of_le this.2⟩
        · exact add
      · exact add
    have ih := walk_la r (step F l a c) (if c = 10 then l + 1 else l) (if c = 10 then 0 else a + 1) (n + 1) st (by split <;> omega) (by split <;> omega)
    intro m mm
    have := ih m mm
    rw [List.length_cons]
    omega
theorem marks_ascF {t : List Nat} (h : Asc t) : AscF (marksT t) := walk_asc t [] 0 0 h fun m mm => nomatch mm
end K6
end DL
namespace DL
open PySem PySem.Spec L2 Gd
namespace K6
theorem ln__law_heap : ∀ ds post, sp__law_heap ds post → ds.length = 1 := lnHeap
theorem vc__law_heap : ∀ ds post, sp__law_heap ds post → r__law_heap { nx := fun _ _ => post .non, rt := fun d _ => post d } (startD N__law_heap ds) [] := vcHeapA 60013 (by decide)
theorem vc__law_draw : ∀ (a c : Addr) (cs : List Int) (z m : Int), a ≠ c → ROk cs z → 1 ≤ m → m < 2 ^ 62 → r__law_draw { nx := fun _ _ => False, rt := drawEnd a c m } (startD N__law_draw [.adr a, .int m]) [(a, [.adr c, .int z]), (c, cs.map D.int)] := vcDraw 48271 17 (by decide)
theorem ln__law_pick : ∀ a ds post, sp__law_pick a ds post → ds.length = 2 := lnPick
theorem vc__law_pick (a : Addr) : ∀ ds post, sp__law_pick a ds post → r__law_pick a { nx := fun _ _ => post .non, rt := fun d _ => post d } (startD N__law_pick ds) [] := vcPick a
theorem ln__law_marks : ∀ ds post, sp__law_marks ds post → ds.length = 1 := by
  rintro ds post ⟨t, rfl, _⟩
  rfl
theorem go_cut {x0 x1 x2 x3 x4 x5 x6 : Option D} {Q : D → Sto → Prop} : ∀ (F : List M) (acc : List D), acc.length + F.length ≤ 100000 → Q (.lst (acc ++ F.map m3D)) [] →
    lcGo (dgName 6) dYes (dSl (dVar 6) dNoPart (dPart (dC (.int 3)))) [6] [x0, x1, x2, x3, x4, x5, x6] Q (F.map m4D) acc []
  | [], acc, _, h => by simpa [lcGo] using h
  | m :: F, acc, hl, h => by
    rw [List.length_cons] at hl
    refine ⟨by unfold Fit; omega, ?_⟩
    refine go_cut F _ (by rw [List.length_append, List.length_singleton]; omega) ?_
    rw [List.append_assoc]
    exact h
theorem vc__law_marks : ∀ ds post, sp__law_marks ds post → r__law_marks { nx := fun _ _ => post .non, rt := fun d _ => post d } (startD N__law_marks ds) [] := by
  rintro ds post ⟨t, rfl, hl, ha, h⟩
  refine ⟨by show 0 ≤ 16777216; decide, fun p => ⟨rfl, ?_⟩⟩
  refine lp_look t [] 0 0 0 none none ha (fun m mm => nomatch mm) (by rw [List.length_nil]; omega) (by omega) (fun m mm => nomatch mm) fun l' a' x1 x5 => ?_
  refine opt_of getS_self ?_
  show dRet _ _ _ (delS [(p, _)] p)
  rw [delS_one]
  have wl := walkM_len t [] 0 0
  rw [List.length_nil] at wl
  refine go_cut (walkM [] 0 0 t) [] (by rw [List.length_nil]; omega) ?_
  exact h
/-! ### pieces -/
theorem ln__law_piece : ∀ a ds post, sp__law_piece a ds post → ds.length = 1 := by
  rintro a ds post ⟨rfl, _⟩
  rfl
theorem glued_list (sep : List Nat) : ∀ (rs : List (List Nat)) (acc : Array Nat), ((rs.map sT).foldl (fun acc p => acc ++ (sT sep).cps ++ p.cps) acc).toList = acc.toList ++ (rs.map fun s => sep ++ s).flatten
  | [], acc => by simp
  | r :: rs, acc => by
    rw [List.map_cons, List.foldl_cons, glued_list sep rs]
    simp [sT]
theorem join_sT (sep : List Nat) (rs : List (List Nat)) : Txt.join (sT sep) (rs.map sT) = sT (joinL sep rs) := by
  have key : (Txt.join (sT sep) (rs.map sT)).cps.toList = joinL sep rs := by
    cases rs with
    | nil => rfl
    | cons r rs =>
      show ((rs.map sT).foldl (fun acc p => acc ++ (sT sep).cps ++ p.cps) (sT r).cps).toList = _
      rw [glued_list]
      rfl
  rw [← key, sT_of]
theorem sum_one (acc : List Nat) : (((acc.map fun c => [c]).map sT).map fun z : Str => z.length).sum = acc.length := by
  induction acc with
  | nil => rfl
  | cons c acc ih =>
    show 1 + (((acc.map fun c => [c]).map sT).map fun z : Str => z.length).sum = _
    rw [ih, List.length_cons]
    omega
theorem joinL_one (acc : List Nat) : joinL [] (acc.map fun c => [c]) = acc := by
  cases acc with
  | nil => rfl
  | cons c acc =>
    show [c] ++ ((acc.map fun c => [c]).map fun s => [] ++ s).flatten = _
    rw [List.map_map]
    have : ((acc.map ((fun s : List Nat => [] ++ s) ∘ fun c => [c]))).flatten = acc := by
      induction acc with
      | nil => rfl
      | cons d acc ih =>
        show [d] ++ ((acc.map ((fun s : List Nat => [] ++ s) ∘ fun c => [c]))).flatten = _
        rw [ih]
        rfl
    rw [this]
    rfl
theorem go_signs {a : Addr} {z : Str} {x1 x2 x3 : Option D} {Q : D → Sto → Prop} (hz : z.cps.toList.length = 10) (ha : Asc z.cps.toList) : ∀ (xs : List D) (acc : List Nat), acc.length + xs.length ≤ 30 → Asc acc → (∀ acc : List Nat, acc.length ≤ 30 → Asc acc → Q (.lst (acc.map sD)) []) →
    lcGo (dgName 3) dYes (dOp fIx (dC (.str z)) (dCall (spDraw a) (dCons (dVar 0) (dCons (dC (.int 10)) dNil)))) [3] [some (.adr a), x1, x2, x3] Q xs (acc.map sD) []
  | [], acc, hl, hac, h => h acc (by simpa using hl) hac
  | x :: xs, acc, hl, hac, h => by
    rw [List.length_cons] at hl
    refine ⟨_, rfl, by decide, by decide, fun r r0 r1 => ?_⟩
    obtain ⟨k, rfl⟩ := Int.eq_ofNat_of_zero_le r0
    have hk : k < z.cps.toList.length := by omega
    refine ⟨?_, opt_of (atI_nat (List.getElem?_eq_getElem hk)) ?_⟩
    · show z.cps.size ≤ sizeLine
      rw [← Array.length_toList, hz, sizeLine_eq]
      decide
    · refine ⟨by unfold Fit; rw [List.length_map]; omega, ?_⟩
      have e : acc.map sD ++ [D.str ⟨#[z.cps.toList[k]]⟩] = (acc ++ [z.cps.toList[k]]).map sD := by rw [List.map_append]; rfl
      rw [e]
      refine go_signs hz ha xs _ (by rw [List.length_append, List.length_singleton]; omega) ?_ h
      intro y m
      rcases List.mem_append.mp m with m | m
      · exact hac y m
      · rw [List.mem_singleton.mp m]
        exact ha _ (List.getElem_mem hk)
def isSign : D → Bool
  | .str z => z.cps.toList.length == 1 && z.cps.toList.all fun c => decide (c < 128)
  | _ => false
theorem sign_of {d : D} (h : isSign d = true) : ∃ c, d = .str (sT [c]) ∧ c < 128 := by
  cases d with
  | str z =>
    have h : (z.cps.toList.length == 1 && z.cps.toList.all fun c => decide (c < 128)) = true := h
    rw [Bool.and_eq_true] at h
    obtain ⟨h1, h2⟩ := h
    have h1 : z.cps.toList.length = 1 := by simpa using h1
    obtain ⟨c, e⟩ : ∃ c, z.cps.toList = [c] := by
      match hz : z.cps.toList, h1 with
      | [c], _ => exact ⟨c, rfl⟩
    refine ⟨c, ?_, ?_⟩
    · rw [← e, sT_of]
    · have := List.all_eq_true.mp h2 c (by rw [e]; simp)
      exact of_decide_eq_true this
  | _ => cases h
theorem vc__law_piece (a : Addr) : ∀ ds post, sp__law_piece a ds post → r__law_piece a { nx := fun _ _ => post .non, rt := fun d _ => post d } (startD N__law_piece ds) [] := by
  rintro ds post ⟨rfl, h⟩
  have joined : ∀ acc : List Nat, acc.length ≤ 30 → Asc acc → fJoin (.str "") (.lst (acc.map sD)) [] fun d S1 => post (frz S1 d) := by
    intro acc hl ha
    have e : acc.map sD = ((acc.map fun c => [c]).map sT).map D.str := by
      rw [List.map_map, List.map_map]
      rfl
    rw [e]
    refine opt_of (asS_map _) ⟨?_, ?_⟩
    · rw [sum_one, tE]
      show _ + _ * 0 ≤ _
      omega
    · rw [tE, join_sT, joinL_one]
      exact h acc hl ha
  refine ⟨_, rfl, by decide, by decide, fun k k0 k1 => ?_⟩
  show (if decide (k < 2) = true then _ else _)
  by_cases h2 : k < 2
  · refine yes (decide_eq_true h2) ⟨trivial, by show 3 ≤ 16777216; decide, ?_⟩
    refine ⟨_, rfl, by simp, by simp, fun y m => ?_⟩
    simp only [List.mem_cons, List.not_mem_nil, or_false] at m
    rcases m with rfl | rfl | rfl
    all_goals
      refine ⟨_, rfl, by decide, by decide, fun r r0 r1 => ?_⟩
      refine ⟨by unfold Rg; omega, ?_⟩
      exact go_signs (z := "abcxyzisof") (by decide +kernel) (by unfold Asc; decide +kernel) (rngD 0 1 (1 + r).toNat) [] (by rw [List.length_nil, rngD_len]; omega) (fun x m => nomatch m) joined
  · refine no (decide_eq_false h2) ?_
    show (if decide (k < 4) = true then _ else _)
    by_cases h4 : k < 4
    · refine yes (decide_eq_true h4) ⟨trivial, by show 3 ≤ 16777216; decide, ?_⟩
      refine ⟨_, rfl, by simp, by simp, fun y m => ?_⟩
      simp only [List.mem_cons, List.not_mem_nil, or_false] at m
      rcases m with rfl | rfl | rfl
      all_goals
        refine ⟨_, rfl, by decide, by decide, fun r r0 r1 => ?_⟩
        refine ⟨by unfold Rg; omega, ?_⟩
        exact go_signs (z := "0123456789") (by decide +kernel) (by unfold Asc; decide +kernel) (rngD 0 1 (1 + r).toNat) [] (by rw [List.length_nil, rngD_len]; omega) (fun x m => nomatch m) joined
    · refine no (decide_eq_false h4) ?_
      show (if decide (k = 4) = true then _ else _)
      by_cases e4 : k = 4
      · refine yes (decide_eq_true e4) ?_
        refine ⟨_, rfl, by decide, by decide, fun r r0 r1 => ?_⟩
        have e : repS (1 + r).toNat " " = sT (List.replicate (1 + r).toNat 32) := by
          have : (repS (1 + r).toNat " ").cps.toList = List.replicate (1 + r).toNat 32 := by
            rw [repS_list, tB]
            show (List.replicate _ [32]).flatten = _
            rw [List.flatten_replicate_singleton]
          rw [← this, sT_of]
        refine ⟨by omega, by omega, by decide +kernel, by decide +kernel, ?_⟩
        show post (.str (repS (1 + r).toNat " "))
        rw [e]
        refine h _ (by rw [List.length_replicate]; omega) fun c m => ?_
        rw [(List.mem_replicate.mp m).2]
        decide
      · refine no (decide_eq_false e4) ?_
        refine ⟨by show 22 ≤ 16777216; decide, ?_⟩
        refine ⟨by show 3 ≤ 16777216; decide, by show 25 ≤ 16777216; decide, ?_⟩
        refine ⟨_, rfl, by simp, by decide, fun x m => ?_⟩
        obtain ⟨c, rfl, hc⟩ := sign_of (List.all_eq_true.mp (show List.all _ isSign = true from by decide +kernel) x m)
        refine h [c] (by show 1 ≤ 30; decide) fun d md => ?_
        rw [List.mem_singleton.mp md]
        exact hc
end K6
end DL
namespace DL
open PySem PySem.Spec L2 Gd
namespace K6
abbrev dl (a : Addr) (ns : List Int) (x2 x3 x4 x5 x6 x7 x8 x9 x10 : Option D) : Sl := [some (.fls ns), some (.adr a), x2, x3, x4, x5, x6, x7, x8, x9, x10]
/-! ### texts that are drawn -/
def Ok (z : Str) (n : Nat) : Prop := z.cps.toList.length ≤ n ∧ Asc z.cps.toList
theorem app_list (x y : Str) : (x ++ y).cps.toList = x.cps.toList ++ y.cps.toList := by
  show (x.cps ++ y.cps).toList = _
  rw [Array.toList_append]
theorem Ok.add {x y : Str} {m n : Nat} (h : Ok x m) (g : Ok y n) : Ok (x ++ y) (m + n) := by
  unfold Ok
  rw [app_list, List.length_append]
  refine ⟨by have := h.1; have := g.1; omega, fun c m => ?_⟩
  rcases List.mem_append.mp m with m | m
  · exact h.2 c m
  · exact g.2 c m
theorem Ok.len {z : Str} {n : Nat} (h : Ok z n) : z.length ≤ n := by
  have := h.1
  rw [Array.length_toList] at this
  exact this
theorem Ok.rep {z : Str} {n : Nat} (h : Ok z n) (k : Nat) : Ok (repS k z) (k * n) := by
  unfold Ok
  rw [repS_list]
  refine ⟨?_, fun c m => ?_⟩
  · have := repS_len k z
    have e : ((List.replicate k z.cps.toList).flatten).length = (repS k z).length := by
      rw [← repS_list, Array.length_toList]
      rfl
    rw [e, this]
    exact Nat.mul_le_mul_left k h.len
  · obtain ⟨l, ml, mc⟩ := List.mem_flatten.mp m
    rw [(List.mem_replicate.mp ml).2] at mc
    exact h.2 c mc
theorem joinL_mem {sep : List Nat} {rs : List (List Nat)} {P : Nat → Prop} (hs : ∀ c ∈ sep, P c) (h : ∀ r ∈ rs, ∀ c ∈ r, P c) : ∀ c ∈ joinL sep rs, P c := by
  cases rs with
  | nil => exact fun c m => nomatch m
  | cons r rs =>
    intro c m
    rcases List.mem_append.mp m with m | m
    · exact h r List.mem_cons_self c m
    · obtain ⟨l, ml, mc⟩ := List.mem_flatten.mp m
      obtain ⟨s, ms, rfl⟩ := List.mem_map.mp ml
      rcases List.mem_append.mp mc with mc | mc
      · exact hs c mc
      · exact h s (List.mem_cons_of_mem _ ms) c mc
theorem flat_len (sep : List Nat) : ∀ rs : List (List Nat), ((rs.map fun s => sep ++ s).flatten).length = (rs.map List.length).sum + rs.length * sep.length
  | [] => by simp
  | r :: rs => by
    rw [List.map_cons, List.flatten_cons, List.length_append, flat_len sep rs, List.length_append, List.map_cons, List.sum_cons, List.length_cons, Nat.succ_mul]
    omega
theorem joinL_len (sep : List Nat) (rs : List (List Nat)) : (joinL sep rs).length ≤ (rs.map List.length).sum + rs.length * sep.length := by
  cases rs with
  | nil => exact Nat.zero_le _
  | cons r rs =>
    show (r ++ (rs.map fun s => sep ++ s).flatten).length ≤ _
    rw [List.length_append, flat_len, List.map_cons, List.sum_cons, List.length_cons, Nat.succ_mul]
    omega
theorem sum_sT (rs : List (List Nat)) : ((rs.map sT).map fun z : Str => z.length).sum = (rs.map List.length).sum := by
  rw [List.map_map]
  rfl
theorem sum_le {rs : List (List Nat)} {n : Nat} (h : ∀ r ∈ rs, r.length ≤ n) : (rs.map List.length).sum ≤ rs.length * n := by
  induction rs with
  | nil => simp
  | cons r rs ih =>
    rw [List.map_cons, List.sum_cons, List.length_cons, Nat.succ_mul]
    have := h r List.mem_cons_self
    have := ih fun x m => h x (List.mem_cons_of_mem _ m)
    omega
theorem go_pieces {a : Addr} {ns : List Int} {x2 x3 x4 x5 x6 x7 x8 x9 x10 : Option D} {Q : D → Sto → Prop} : ∀ (xs : List D) (rs : List (List Nat)), rs.length + xs.length ≤ 60 → (∀ r ∈ rs, r.length ≤ 30 ∧ Asc r) → (∀ rs : List (List Nat), rs.length ≤ 60 → (∀ r ∈ rs, r.length ≤ 30 ∧ Asc r) → Q (.lst (rs.map rD)) []) →
    lcGo (dgName 7) dYes (dCall (sp__law_piece a) (dCons (dVar 1) dNil)) [7] (dl a ns x2 x3 x4 x5 x6 x7 x8 x9 x10) Q xs (rs.map rD) []
  | [], rs, hl, hr, h => h rs (by simpa using hl) hr
  | x :: xs, rs, hl, hr, h => by
    rw [List.length_cons] at hl
    refine ⟨rfl, fun s hs ha => ⟨by unfold Fit; rw [List.length_map]; omega, ?_⟩⟩
    have e : rs.map rD ++ [D.str (sT s)] = (rs ++ [s]).map rD := by rw [List.map_append]; rfl
    rw [e]
    refine go_pieces xs _ (by rw [List.length_append, List.length_singleton]; omega) ?_ h
    intro r m
    rcases List.mem_append.mp m with m | m
    · exact hr r m
    · rw [List.mem_singleton.mp m]
      exact ⟨hs, ha⟩
theorem go_tx {a : Addr} {ns : List Int} {x2 x3 x4 x5 x6 x7 x8 x9 x10 : Option D} {Q : D → Sto → Prop} : ∀ (F : List M) (acc : List D), acc.length + F.length ≤ 100000 → Q (.lst (acc ++ (tx F).map rD)) [] →
    lcGo (dgTup 3 (dgCons (dgName 8) (dgCons (dgName 9) (dgCons (dgName 10) dgNil)))) dYes (dVar 10) [8, 9, 10] (dl a ns x2 x3 x4 x5 x6 x7 x8 x9 x10) Q (F.map m3D) acc []
  | [], acc, _, h => by simpa [tx, lcGo] using h
  | m :: F, acc, hl, h => by
    rw [List.length_cons] at hl
    refine ⟨rfl, by unfold Fit; omega, ?_⟩
    refine go_tx F _ (by rw [List.length_append, List.length_singleton]; omega) ?_
    rw [List.append_assoc]
    exact h
theorem m3_dn {n : Nat} {F : List M} (h : AscF F) : (F.map m3D).all (dn (n + 2)) = true := by
  rw [List.all_eq_true]
  intro x m
  obtain ⟨y, my, rfl⟩ := List.mem_map.mp m
  show (true && (true && (PyData.strOk (sT y.s) && true))) = true
  rw [strOk_sT (h y my)]
  rfl
theorem rs_dn {n : Nat} {rs : List (List Nat)} (h : ∀ r ∈ rs, Asc r) : (rs.map rD).all (dn (n + 1)) = true := by
  rw [List.all_eq_true]
  intro x m
  obtain ⟨y, my, rfl⟩ := List.mem_map.mp m
  exact strOk_sT (h y my)
theorem m3_ish {F : List M} (h : ∀ m ∈ F, m.l < 2 ^ 60 ∧ m.a < 2 ^ 60) : ishAll (F.map m3D) = true := by
  have big : ∀ x : Nat, x < 2 ^ 60 → ish (.int (x : Int)) = true := by
    intro x hx
    simp only [ish, decide_eq_true_eq, Int.natAbs_natCast]
    exact Nat.lt_trans hx (Nat.pow_lt_pow_right (by decide) (by decide))
  induction F with
  | nil => rfl
  | cons m F ih =>
    have hm := h m List.mem_cons_self
    show (ish (m3D m) && ishAll (F.map m3D)) = true
    rw [ih fun x mx => h x (List.mem_cons_of_mem _ mx), Bool.and_true]
    show (ish (.int (m.l : Int)) && (ish (.int (m.a : Int)) && (true && true))) = true
    rw [big _ hm.1, big _ hm.2]
    rfl
theorem m3_rsz (F : List M) : rszAll (F.map m3D) = 3856 * F.length + 10 * tl F := by
  induction F with
  | nil => rfl
  | cons m F ih =>
    have e : tl (m :: F) = m.s.length + tl F := rfl
    show (1921 + 2 + (1921 + 2 + (10 * (sT m.s).length + 2 + 2 + 0)) + 4) + 2 + rszAll (F.map m3D) = _
    rw [ih, e, sT_len, List.length_cons]
    omega
theorem marks_Rp {t : List Nat} (hl : t.length ≤ 2600) (ha : Asc t) : Rp (.tup ((marksT t).map m3D)) := by
  have w1 := walkM_len t [] 0 0
  have w2 := walk_tl t [] 0 0
  have w3 := walk_la t [] 0 0 0 (fun m mm => nomatch mm) (Nat.le_refl _) (Nat.le_refl _)
  rw [List.length_nil] at w1
  have e0 : tl ([] : List M) = 0 := rfl
  rw [e0] at w2
  refine ⟨m3_dn (marks_ascF ha), m3_ish (F := marksT t) fun m mm => ?_, ?_⟩
  · have := w3 m mm
    omega
  · show rszAll ((marksT t).map m3D) + 4 ≤ _
    rw [m3_rsz]
    unfold marksT
    omega
theorem deq_no {d : D} (h : dn 40 d = true) : (!deq d d) = false := by rw [deq_refl h]; rfl
theorem lp_turns {DD : DEnds} {a : Addr} {ns : List Int} : ∀ (xs : List D) (x2 x3 x4 x5 x6 x7 x8 x9 x10 : Option D), (∀ x2 x3 x4 x5 x6 x7 x8 x9 x10, DD.nx (dl a ns x2 x3 x4 x5 x6 x7 x8 x9 x10) []) →
    forGo (dgName 2) (b0_law a) DD xs (dl a ns x2 x3 x4 x5 x6 x7 x8 x9 x10) []
  | [], x2, x3, x4, x5, x6, x7, x8, x9, x10, h => h _ _ _ _ _ _ _ _ _
  | x :: xs, x2, x3, x4, x5, x6, x7, x8, x9, x10, h => by
    -- a text, and all that is asked of it
    have asked : ∀ t : List Nat, t.length ≤ 2600 → Asc t → (dSeqS (dSet 4 (dCB (one fTuple) (dCons (dCall sp__law_marks (dCons (dVar 3) dNil)) dNil))) (dSeqS (dSet 5 (dCall sp_marks_of (dCons (dVar 3) dNil))) (dSeqS (dIfS (dOr (dTest (dOp fNe (dCB (one fRepr) (dCons (dVar 5) dNil)) (dCB (one fRepr) (dCons (dVar 4) dNil)))) (dTest (dOp fNe (dCallK sp_marks_of kb_marks_of_0_text_g dNil (dCons (dVar 3) dNil)) (dVar 5)))) (dRet (dC (.bl false))) dNext) (dSeqS (dSet 6 (dM1 fJoin (dC (.str " ")) (dLc (dSeq (dVar 4)) (dgTup 3 (dgCons (dgName 8) (dgCons (dgName 9) (dgCons (dgName 10) dgNil)))) dYes (dVar 10) [8, 9, 10]))) (dIfS (dTest (dOp fNe (dLc (dSeq (dCall sp_marks_of (dCons (dVar 6) dNil))) (dgTup 3 (dgCons (dgName 8) (dgCons (dgName 9) (dgCons (dgName 10) dgNil)))) dYes (dVar 10) [8, 9, 10]) (dLc (dSeq (dVar 4)) (dgTup 3 (dgCons (dgName 8) (dgCons (dgName 9) (dgCons (dgName 10) dgNil)))) dYes (dVar 10) [8, 9, 10]))) (dRet (dC (.bl false))) dNext)))))
        { DD with nx := forGo (dgName 2) (b0_law a) DD xs, ct := forGo (dgName 2) (b0_law a) DD xs, bk := DD.nx } (dl a ns (some x) (some (.str (sT t))) x4 x5 x6 x7 x8 x9 x10) [] := by
      intro t hl ha
      have R := marks_Rp hl ha
      have w1 := walkM_len t [] 0 0
      have w2 := walk_tl t [] 0 0
      rw [List.length_nil] at w1
      have e0 : tl ([] : List M) = 0 := rfl
      rw [e0] at w2
      have lF : (marksT t).length ≤ 2600 := by unfold marksT; omega
      have tF : tl (marksT t) ≤ 2600 := by unfold marksT; omega
      have ascF := marks_ascF ha
      refine ⟨t, rfl, by omega, ha, ?_⟩
      refine ⟨t, rfl, by omega, ?_⟩
      refine ⟨R, R, ?_⟩
      refine no (same_no rfl) ?_
      refine ⟨t, rfl, by omega, ?_⟩
      refine ⟨R.1, R.1, ?_⟩
      refine no (deq_no R.1) ?_
      refine ⟨trivial, ?_⟩
      refine go_tx (marksT t) [] (by rw [List.length_nil]; omega) ?_
      rw [List.nil_append]
      have e1 : (tx (marksT t)).map rD = ((tx (marksT t)).map sT).map D.str := by rw [List.map_map]; rfl
      have sm : ((tx (marksT t)).map List.length).sum = tl (marksT t) := by
        unfold tx tl
        rw [List.map_map]
        rfl
      have ln : (tx (marksT t)).length = (marksT t).length := by unfold tx; rw [List.length_map]
      have jl := joinL_len [32] (tx (marksT t))
      rw [sm, ln] at jl
      rw [e1]
      refine opt_of (asS_map _) ⟨?_, ?_⟩
      · rw [sum_sT, sm, List.length_map, ln, tB]
        show tl (marksT t) + (marksT t).length * 1 ≤ 16777216
        omega
      · rw [tB, join_sT]
        have jl2 : (joinL [32] (tx (marksT t))).length ≤ 100000 := by
          have : ([32] : List Nat).length = 1 := rfl
          rw [this] at jl
          omega
        refine ⟨joinL [32] (tx (marksT t)), rfl, jl2, ?_⟩
        have w3 := walkM_len (joinL [32] (tx (marksT t))) [] 0 0
        rw [List.length_nil] at w3
        have w4 : (marksT (joinL [32] (tx (marksT t)))).length ≤ 100000 := by
          show (walkM [] 0 0 (joinL [32] (tx (marksT t)))).length ≤ 100000
          omega
        refine go_tx (marksT (joinL [32] (tx (marksT t)))) [] (by rw [List.length_nil]; omega) ?_
        rw [List.nil_append, marks_again]
        refine go_tx (marksT t) [] (by rw [List.length_nil]; omega) ?_
        rw [List.nil_append]
        have D1 : dn 40 (.lst ((tx (marksT t)).map rD)) = true := rs_dn fun r m => by
          obtain ⟨y, my, rfl⟩ := List.mem_map.mp m
          exact ascF y my
        refine ⟨D1, D1, ?_⟩
        refine no (deq_no D1) ?_
        exact lp_turns xs _ _ _ _ _ _ _ _ _ h
    -- how it is drawn
    have drawn : ∀ t : List Nat, t.length ≤ 1800 → Asc t → (dSeqS (dSet 3 (dIfE (dTest (dOp fEq (dCall (spDraw a) (dCons (dVar 1) (dCons (dC (.int 5)) dNil))) (dC (.int 0)))) (dOp fAdd (dOp fAdd (dOp fAdd (dOp fAdd (dOp fMulS (dC (.str "7")) (dC (.int 390))) (dC (.str " "))) (dVar 3)) (dC (.str ":"))) (dOp fMulS (dC (.str "12")) (dC (.int 190)))) (dVar 3))) (dSeqS (dSet 4 (dCB (one fTuple) (dCons (dCall sp__law_marks (dCons (dVar 3) dNil)) dNil))) (dSeqS (dSet 5 (dCall sp_marks_of (dCons (dVar 3) dNil))) (dSeqS (dIfS (dOr (dTest (dOp fNe (dCB (one fRepr) (dCons (dVar 5) dNil)) (dCB (one fRepr) (dCons (dVar 4) dNil)))) (dTest (dOp fNe (dCallK sp_marks_of kb_marks_of_0_text_g dNil (dCons (dVar 3) dNil)) (dVar 5)))) (dRet (dC (.bl false))) dNext) (dSeqS (dSet 6 (dM1 fJoin (dC (.str " ")) (dLc (dSeq (dVar 4)) (dgTup 3 (dgCons (dgName 8) (dgCons (dgName 9) (dgCons (dgName 10) dgNil)))) dYes (dVar 10) [8, 9, 10]))) (dIfS (dTest (dOp fNe (dLc (dSeq (dCall sp_marks_of (dCons (dVar 6) dNil))) (dgTup 3 (dgCons (dgName 8) (dgCons (dgName 9) (dgCons (dgName 10) dgNil)))) dYes (dVar 10) [8, 9, 10]) (dLc (dSeq (dVar 4)) (dgTup 3 (dgCons (dgName 8) (dgCons (dgName 9) (dgCons (dgName 10) dgNil)))) dYes (dVar 10) [8, 9, 10]))) (dRet (dC (.bl false))) dNext))))))
        { DD with nx := forGo (dgName 2) (b0_law a) DD xs, ct := forGo (dgName 2) (b0_law a) DD xs, bk := DD.nx } (dl a ns (some x) (some (.str (sT t))) x4 x5 x6 x7 x8 x9 x10) [] := by
      intro t hl ha
      refine ⟨_, rfl, by decide, by decide, fun r r0 r1 => ?_⟩
      show (if decide (r = 0) = true then _ else _)
      by_cases e : r = 0
      · refine yes (decide_eq_true e) ?_
        have o7 : Ok "7" 1 := ⟨by decide +kernel, by unfold Asc; decide +kernel⟩
        have oB : Ok " " 1 := ⟨by decide +kernel, by unfold Asc; decide +kernel⟩
        have oC : Ok ":" 1 := ⟨by decide +kernel, by unfold Asc; decide +kernel⟩
        have o12 : Ok "12" 2 := ⟨by decide +kernel, by unfold Asc; decide +kernel⟩
        have oT : Ok (sT t) 1800 := ⟨hl, ha⟩
        have a1 := o7.rep (390 : Int).toNat
        have a2 := a1.add oB
        have a3 := a2.add oT
        have a4 := a3.add oC
        have b1 := o12.rep (190 : Int).toNat
        have a5 := a4.add b1
        have n1 : (390 : Int).toNat = 390 := rfl
        have n2 : (190 : Int).toNat = 190 := rfl
        have l1 := a1.len
        have l2 := a2.len
        have l3 := a3.len
        have l4 := a4.len
        have lb := oB.len
        have lc := oC.len
        have lt := oT.len
        have l6 := b1.len
        rw [n1] at l1 l2 l3 l4
        rw [n2] at l6
        refine ⟨by decide, by decide, by decide +kernel, by decide +kernel, ?_⟩
        refine ⟨by unfold Fit; rw [n1]; omega, by unfold Fit; rw [n1]; omega, by unfold Fit; rw [n1]; omega, ?_⟩
        refine ⟨by decide, by decide, by decide +kernel, by decide +kernel, ?_⟩
        refine ⟨by unfold Fit; rw [n1, n2]; omega, ?_⟩
        have go := asked _ (by have := a5.1; rw [n1, n2] at this ⊢; omega) a5.2
        rw [sT_of] at go
        exact go
      · refine no (decide_eq_false e) ?_
        exact asked t (by omega) ha
    refine ⟨trivial, by show 5 ≤ 16777216; decide, ?_⟩
    have pieces : ∀ rs : List (List Nat), rs.length ≤ 60 → (∀ r ∈ rs, r.length ≤ 30 ∧ Asc r) → ((((rs.map sT).map fun z : Str => z.length).sum + (rs.map sT).length * ("" : Str).length ≤ 16777216) ∧ (joinL [] rs).length ≤ 1800 ∧ Asc (joinL [] rs)) := by
      intro rs h60 hr
      have s1 := sum_le fun r m => (hr r m).1
      have j1 := joinL_len [] rs
      have e : ("" : Str).length = 0 := by decide +kernel
      rw [List.length_nil, Nat.mul_zero] at j1
      refine ⟨?_, by omega, joinL_mem (fun c m => nomatch m) fun r m => (hr r m).2⟩
      rw [sum_sT, e]
      omega
    refine ⟨_, rfl, by simp, by simp, fun y m => ?_⟩
    simp only [List.mem_cons, List.not_mem_nil, or_false] at m
    rcases m with rfl | rfl | rfl | rfl | rfl
    all_goals
      refine ⟨by unfold Rg; decide, ?_⟩
      refine go_pieces _ [] (by rw [List.length_nil, rngD_len]; decide) (fun r m => nomatch m) fun rs h60 hr => ?_
      obtain ⟨p1, p2, p3⟩ := pieces rs h60 hr
      have e1 : rs.map rD = (rs.map sT).map D.str := by rw [List.map_map]; rfl
      rw [e1]
      refine opt_of (asS_map _) ⟨p1, ?_⟩
      rw [tE, join_sT]
      exact drawn _ p2 p3
end K6
end DL
namespace DL
open PySem PySem.Spec L2 Gd
namespace K6
def wetT : List Nat := [119, 101, 116, 32, 50, 111, 102, 10, 49, 50, 47, 48, 32, 105, 115, 51]
def wetM : List M := [⟨0, 0, [119, 101, 116], 1⟩, ⟨0, 4, [50], 2⟩, ⟨0, 5, [111, 102], 1⟩, ⟨0, 7, [10], 0⟩, ⟨1, 0, [49, 50], 2⟩, ⟨1, 2, [47], 0⟩, ⟨1, 3, [48], 2⟩, ⟨1, 5, [105, 115], 1⟩, ⟨1, 7, [51], 2⟩]
theorem wet_is : marksT wetT = wetM := by decide +kernel
theorem wet_str : ("wet 2of\n12/0 is3" : Str) = sT wetT := by decide +kernel
abbrev wetD : D := .tup [.tup [.int 0, .int 0, .str "wet"], .tup [.int 0, .int 4, .str "2"], .tup [.int 0, .int 5, .str "of"], .tup [.int 0, .int 7, .str "\n"], .tup [.int 1, .int 0, .str "12"], .tup [.int 1, .int 2, .str "/"], .tup [.int 1, .int 3, .str "0"], .tup [.int 1, .int 5, .str "is"], .tup [.int 1, .int 7, .str "3"]]
theorem wet_data : D.tup (wetM.map m3D) = wetD := by
  have w1 : ("wet" : Str) = sT [119, 101, 116] := by decide +kernel
  have w2 : ("2" : Str) = sT [50] := by decide +kernel
  have w3 : ("of" : Str) = sT [111, 102] := by decide +kernel
  have w4 : ("12" : Str) = sT [49, 50] := by decide +kernel
  have w5 : ("/" : Str) = sT [47] := by decide +kernel
  have w6 : ("is" : Str) = sT [105, 115] := by decide +kernel
  have w7 : ("3" : Str) = sT [51] := by decide +kernel
  unfold wetD
  rw [w1, w2, w3, w4, w5, w6, w7, t0, tN]
  rfl
theorem vc_law (a : Addr) : ∀ ns : List Int, ns.length ≤ 63 → r_law a { nx := fun _ _ => False, rt := fun d _ => d = .bl true } (put (startD N_law [.fls ns]) 1 (.adr a)) [] := by
  intro ns few
  refine ⟨MOk.left (by decide), ?_⟩
  have rg : Rg (3 + 3 * (if decide ((2 : Int) < (ns.length : Int)) = true then 1 else 0)) := by
    unfold Rg
    split <;> omega
  refine ⟨rg, ?_⟩
  refine lp_turns _ none none none none none none none none none fun x2 x3 x4 x5 x6 x7 x8 x9 x10 => ?_
  have m1 : marksT [32, 32] = [] := by decide +kernel
  have m2 : marksT [32, 10] = [⟨0, 1, [10], 0⟩] := by decide +kernel
  have s1 : ("  " : Str) = sT [32, 32] := by decide +kernel
  have s2 : (" \n" : Str) = sT [32, 10] := by decide +kernel
  refine ⟨[], by rw [tE], by decide, ?_⟩
  refine ⟨by show 0 ≤ 16777216; decide, rfl, rfl, ?_⟩
  refine ⟨[32, 32], by rw [s1], by decide, ?_⟩
  rw [m1]
  refine ⟨by show 0 ≤ 16777216; decide, rfl, rfl, ?_⟩
  refine ⟨[32, 10], by rw [s2], by decide, ?_⟩
  rw [m2]
  refine ⟨by show 3 ≤ 16777216; decide, by show 1 ≤ 16777216; decide, ?_⟩
  have eD : D.tup ([⟨0, 1, [10], 0⟩].map m3D) = D.tup [.tup [.int 0, .int 1, .str "\n"]] := by
    rw [tN]
    rfl
  have D1 : dn 40 (D.tup [.tup [.int 0, .int 1, .str "\n"]]) = true := by decide +kernel
  rw [eD]
  refine ⟨D1, D1, ?_⟩
  rw [show (!deq (frz [] (D.tup [.tup [.int 0, .int 1, .str "\n"]])) (frz [] (D.tup [.tup [.int 0, .int 1, .str "\n"]]))) = false from deq_no D1]
  have DW : dn 40 wetD = true := by
    rw [← wet_data]
    decide +kernel
  refine ⟨wetT, by rw [wet_str], by decide, ?_⟩
  rw [wet_is, wet_data]
  refine ⟨by show 3 ≤ 16777216; decide, by show 3 ≤ 16777216; decide, by show 3 ≤ 16777216; decide, by show 3 ≤ 16777216; decide, by show 3 ≤ 16777216; decide, by show 3 ≤ 16777216; decide, by show 3 ≤ 16777216; decide, by show 3 ≤ 16777216; decide, by show 3 ≤ 16777216; decide, by show 9 ≤ 16777216; decide, DW, DW, ?_⟩
  show D.bl (deq wetD wetD) = .bl true
  rw [deq_refl DW]
end K6
end DL

namespace DL
open PySem PySem.Spec L2 Gd
namespace K6
section
variable {P : Program} {w : World} {K : PySem.W.Frag} {mg : Str → Option Value} {base : Heap}
theorem ok_run_kind (T : Txt K mg) : FnG P w K mg base CX0 1 T.run_kind.f T.run_kind.fd ["sign"] (spP K sp_run_kind) := by
  have nd := sc_run_kind.nd
  refine fnD T.run_kind.F sc_run_kind ln_run_kind fun cdv A fr s H E room guard dx h1 h2 => ?_
  have hu := room.units
  exact ⟨_, r_run_kind, (dss_cons (ds_if (dt_chain op_leS od_leS op_leS od_leS de_str (dv 0) de_str) (dss_one (ds_ret de_str)) dss_nil) (dss_one (ds_ret (de_if (dt_chain op_leS od_leS op_leS od_leS de_str (dv 0) de_str) de_str de_str)))), vc_run_kind⟩
theorem ok_mark_end (T : Txt K mg) : FnG P w K mg base CX0 2 T.mark_end.f T.mark_end.fd ["row", "at"] (spP K sp_mark_end) := by
  have nd := sc_mark_end.nd
  have G_run_kind := ok_run_kind (P := P) (w := w) (base := base) T
  refine fnD T.mark_end.F sc_mark_end ln_mark_end fun cdv A fr s H E room guard dx h1 h2 => ?_
  have hu := room.units
  exact ⟨_, r_mark_end, (dss_cons (ds_set nd rfl (by first | exact .inl rfl | exact .inr rfl) (de_call_ K G_run_kind (room.mono (by decide)) guard rfl T.run_kind.m T.run_kind.F.2 T.run_kind.b  (da_cons (de_ix_ K (dv 0) (dv 1)) da_nil))) (dss_cons (ds_set nd rfl (by first | exact .inl rfl | exact .inr rfl) (de_op (op_addAll_ K) od_add (dv 1) de_int)) (dss_cons (ds_while PassesOwn.never (DW.dt (dw_and (dt_cmp (op_neA_ K hu) od_ne (dv 2) de_str (nomark _)) (dw_and (dt_cmp op_lt od_onB (dv 3) (de_callB_ (cr_len_ K) cd_len (da_cons (dv 0) da_nil) fun h1 => pe_callB (cr_len_ K) rfl T.b_len rfl h1) (nomark _)) (dw_and1 (dt_cmp (op_eqA_ K hu) od_eq (de_call_ K G_run_kind (room.mono (by decide)) guard rfl T.run_kind.m T.run_kind.F.2 T.run_kind.b  (da_cons (de_ix_ K (dv 0) (dv 3)) da_nil)) (dv 2) (nomark _)))))) (dss_one (ds_aug_ de_int ip_addI fun h1 => ps_aug nd rfl (by first | exact .inl rfl | exact .inr rfl) h1 ip_add))) (dss_one (ds_ret (dv 3)))))), vc_mark_end⟩
theorem ok_marks_in (T : Txt K mg) : FnG P w K mg base CX0 3 T.marks_in.f T.marks_in.fd ["row", "line"] (spP K sp_marks_in) := by
  have nd := sc_marks_in.nd
  have G_mark_end := ok_mark_end (P := P) (w := w) (base := base) T
  refine fnD T.marks_in.F sc_marks_in ln_marks_in fun cdv A fr s H E room guard dx h1 h2 => ?_
  have hu := room.units
  exact ⟨_, r_marks_in, (dss_cons (ds_set nd rfl (by first | exact .inl rfl | exact .inr rfl) (de_new da_nil)) (dss_cons (ds_set nd rfl (by first | exact .inl rfl | exact .inr rfl) de_int) (dss_cons (ds_while PassesOwn.never (dt_cmp op_lt od_onB (dv 3) (de_callB_ (cr_len_ K) cd_len (da_cons (dv 0) da_nil) fun h1 => pe_callB (cr_len_ K) rfl T.b_len rfl h1) (nomark _)) (dss_cons (ds_set nd rfl (by first | exact .inl rfl | exact .inr rfl) (de_call_ K G_mark_end (room.mono (by decide)) guard rfl T.mark_end.m T.mark_end.F.2 T.mark_end.b  (da_cons (dv 0) (da_cons (dv 3) da_nil)))) (dss_cons (ds_if (dt_cmp (op_neA_ K hu) od_ne (de_ix_ K (dv 0) (dv 3)) de_str (nomark _)) (dss_one (ds_expr (de_met_ K md_append (dv 2) (da_cons (de_tup (da_cons (dv 1) (da_cons (dv 3) (da_cons (de_sliceS (dv 0) (do_some (dv 3)) (do_some (dv 4))) da_nil)))) da_nil) fun h1 h2 => pe_bm PySem.F.plainAttrs_list PySem.F.slot_list_append PySem.F.type_list_append mt_append h1 h2))) dss_nil) (dss_one (ds_set nd rfl (by first | exact .inl rfl | exact .inr rfl) (dv 4)))))) (dss_frz 2 (dss_one (ds_ret (dv 2))))))), vc_marks_in⟩
theorem ok_marks_of (T : Txt K mg) : FnG P w K mg base CX0 4 T.marks_of.f T.marks_of.fd ["text"] (spP K sp_marks_of) := by
  have nd := sc_marks_of.nd
  have G_marks_in := ok_marks_in (P := P) (w := w) (base := base) T
  refine fnD T.marks_of.F sc_marks_of ln_marks_of fun cdv A fr s H E room guard dx h1 h2 => ?_
  have hu := room.units
  exact ⟨_, r_marks_of, (dss_cons (ds_set nd rfl (by first | exact .inl rfl | exact .inr rfl) (de_new da_nil)) (dss_cons (ds_set nd rfl (by first | exact .inl rfl | exact .inr rfl) (de_split (dv 0) de_str fun h1 h2 => pe_split h1 h2)) (dss_cons (ds_for PassesOwn.never rfl (di_enum K (da_cons (dv 2) da_nil) fun h1 => pi_enum rfl T.b_enumerate h1) (dg_tup_ K (dgs_cons' (dg_name nd rfl (by first | exact .inl rfl | exact .inr rfl)) (dgs_cons' (dg_name nd rfl (by first | exact .inl rfl | exact .inr rfl)) dgs_nil fun h1 h2 => pgs_cons h1 h2) fun h1 h2 => pgs_cons h1 h2) fun h1 => pg_tup rfl h1) (dss_cons (ds_expr (de_met_ K md_extend (dv 1) (da_cons (de_call_ K G_marks_in (room.mono (by decide)) guard rfl T.marks_in.m T.marks_in.F.2 T.marks_in.b  (da_cons (dv 4) (da_cons (dv 3) da_nil))) da_nil) fun h1 h2 => pe_bm PySem.F.plainAttrs_list PySem.F.slot_list_extend PySem.F.type_list_extend mt_extend h1 h2)) (dss_one (ds_if (dt_cmp op_lt od_onB (dv 3) (de_op op_sub od_onI0 (de_callB_ (cr_len_ K) cd_len (da_cons (dv 2) da_nil) fun h1 => pe_callB (cr_len_ K) rfl T.b_len rfl h1) de_int) (nomark _)) (dss_one (ds_expr (de_met_ K md_append (dv 1) (da_cons (de_tup (da_cons (dv 3) (da_cons (de_callB_ (cr_len_ K) cd_len (da_cons (dv 4) da_nil) fun h1 => pe_callB (cr_len_ K) rfl T.b_len rfl h1) (da_cons de_str da_nil)))) da_nil) fun h1 h2 => pe_bm PySem.F.plainAttrs_list PySem.F.slot_list_append PySem.F.type_list_append mt_append h1 h2))) dss_nil)))) (dss_frz 1 (dss_one (ds_ret (de_callTy_ (cr_tuple_ K) cd_tuple_ (da_cons (dv 1) da_nil) fun h1 => pe_callTy (cr_tuple_ K) rfl T.b_tuple rfl h1))))))), vc_marks_of⟩
theorem ok__law_heap (T : Txt K mg) : FnG P w K mg base CX0 1 T._law_heap.f T._law_heap.fd ["_law_script"] (spP K sp__law_heap) := by
  have nd := sc__law_heap.nd
  refine fnD T._law_heap.F sc__law_heap ln__law_heap fun cdv A fr s H E room guard dx h1 h2 => ?_
  have hu := room.units
  exact ⟨_, r__law_heap, (dss_cons (ds_par_ (da_cons (de_lc (own := [("_law_cell", 1)]) rfl nd (di_seq_ K (de_slice_ K (dv 0) do_none (do_some de_int))) (show BlkOk ["_law_script", "_law_cell", "_law_cells", "_law_stir"] (defScope s__law_heap) _ [("_law_cell", 1)] from ⟨rfl, by decide +kernel, by decide +kernel, by decide +kernel, by decide +kernel⟩) (by decide) (fun m s0 H0 C cl fp => (dg_name nd rfl (by first | exact .inl rfl | exact .inr rfl))) (fun m s0 H0 C cl fp => dts_nil) (fun m s0 H0 C cl fp => (de_op (op_addAll_ K) od_add (de_op (op_mulAll_ K) od_mul de_int (de_callB_ call_abs cd_abs (da_cons (dv 1) da_nil) fun h1 => pe_callB call_abs rfl T.b_abs rfl h1)) (de_callTy_ call_int1 cd_int (da_cons (de_cmp op_lt od_onB (dv 1) de_int (nomark _)) da_nil) fun h1 => pe_callTy call_int1 rfl T.b_int rfl h1)))) (da_cons de_int da_nil)) fun h1 => ps_par (by rfl) nd rfl rfl (by decide) rfl rfl h1 (by rfl)) (dss_cons (ds_for PassesOwn.never rfl (di_seq_ K (dv 2)) (dg_name nd rfl (by first | exact .inl rfl | exact .inr rfl)) (dss_one (ds_set nd rfl (by first | exact .inl rfl | exact .inr rfl) (de_op op_mod od_onI (de_callTy_ call_int1 cd_int (da_cons (de_op (op_addAll_ K) od_add (de_op (op_addAll_ K) od_add (de_op (op_mulAll_ K) od_mul (dv 3) de_int) (de_op op_mod od_onI (de_callTy_ call_int1 cd_int (da_cons (dv 1) da_nil) fun h1 => pe_callTy call_int1 rfl T.b_int rfl h1) de_int)) de_int) da_nil) fun h1 => pe_callTy call_int1 rfl T.b_int rfl h1) de_int)))) (dss_one (ds_ret (de_lst (da_cons (de_rev_ K (de_lc (own := [("_law_cell", 1)]) rfl nd (di_seq_ K (dv 2)) (show BlkOk ["_law_script", "_law_cell", "_law_cells", "_law_stir"] (defScope s__law_heap) _ [("_law_cell", 1)] from ⟨rfl, by decide +kernel, by decide +kernel, by decide +kernel, by decide +kernel⟩) (by decide) (fun m s0 H0 C cl fp => (dg_name nd rfl (by first | exact .inl rfl | exact .inr rfl))) (fun m s0 H0 C cl fp => (dts_one (dt_cmp op_ge od_onB (dv 1) (de_op op_pow od_onI de_int de_int) (nomark _)))) (fun m s0 H0 C cl fp => (dv 1)))) (da_cons (dv 3) da_nil))))))), vc__law_heap⟩
theorem ok__law_draw (T : Txt K mg) : FnG P w K mg base CX0 1 T._law_draw.f T._law_draw.fd ["_law_heap_here", "_law_many"] (spR K spDraw) := by
  have nd := sc__law_draw.nd
  refine fnDraw T._law_draw.F sc__law_draw rfl fun cdv A fr s H E room guard dx => ?_
  have hu := room.units
  exact ⟨_, r__law_draw, (dss_cons (ds_while PassesOwn.never (DW.dt (dw_and (dt_cmp (op_neA_ K hu) od_ne (de_ix_ K (dv 0) de_int) (de_lst da_nil) (nomark _)) (dw_and1 (dt_cmp (op_eqA_ K hu) od_eq (de_ix_ K (de_ix_ K (dv 0) de_int) (de_un un_neg od_neg de_int)) de_int (nomark _))))) (dss_one (ds_expr (de_met0_ K md_pop (de_ix_ K (dv 0) de_int) fun h1 => pe_bm0 PySem.F.plainAttrs_list PySem.F.slot_list_pop PySem.F.type_list_pop mt_pop h1)))) (dss_cons (ds_if (dt_cmp (op_neA_ K hu) od_ne (de_ix_ K (dv 0) de_int) (de_lst da_nil) (nomark _)) (dss_cons (ds_set nd rfl (by first | exact .inl rfl | exact .inr rfl) (de_met0_ K md_pop (de_ix_ K (dv 0) de_int) fun h1 => pe_bm0 PySem.F.plainAttrs_list PySem.F.slot_list_pop PySem.F.type_list_pop mt_pop h1)) (dss_cons (ds_expr (de_met_ K md_append (de_ix_ K (dv 0) de_int) (da_cons (de_op op_fdivW od_onI (dv 2) (dv 1)) da_nil) fun h1 h2 => pe_bm PySem.F.plainAttrs_list PySem.F.slot_list_append PySem.F.type_list_append mt_append h1 h2)) (dss_one (ds_ret (de_op op_mod od_onI (de_callTy_ call_int1 cd_int (da_cons (dv 2) da_nil) fun h1 => pe_callTy call_int1 rfl T.b_int rfl h1) (dv 1)))))) dss_nil) (dss_cons (ds_setI_ (de_op op_mod od_onI (de_callTy_ call_int1 cd_int (da_cons (de_op (op_addAll_ K) od_add (de_op (op_mulAll_ K) od_mul (de_ix_ K (dv 0) de_int) de_int) de_int) da_nil) fun h1 => pe_callTy call_int1 rfl T.b_int rfl h1) de_int) (dv 0) de_int fun h1 h2 h3 => ps_asg h1 (pg_sub h2 h3 set_list)) (dss_one (ds_ret (de_op op_mod od_onI (de_callTy_ call_int1 cd_int (da_cons (de_op op_fdivW od_onI (de_ix_ K (dv 0) de_int) de_int) da_nil) fun h1 => pe_callTy call_int1 rfl T.b_int rfl h1) (dv 1))))))), vc__law_draw⟩
theorem ok__law_pick (T : Txt K mg) : FnG P w K mg base CX0 2 T._law_pick.f T._law_pick.fd ["_law_heap_here", "_law_some"] (spR K sp__law_pick) := by
  have nd := sc__law_pick.nd
  have G__law_draw := ok__law_draw (P := P) (w := w) (base := base) T
  refine fnR T._law_pick.F sc__law_pick ln__law_pick fun cdv A fr s H E room guard a c dx h1 h2 => ?_
  have hu := room.units
  exact ⟨_, r__law_pick a, (dss_one (ds_ret (de_ix_ K (dv 1) (de_callR_ K G__law_draw (room.mono (by decide)) guard rfl T._law_draw.m T._law_draw.F.2 T._law_draw.b h1 h2 (da_cons (dv 0) (da_cons (de_callB_ (cr_len_ K) cd_len (da_cons (dv 1) da_nil) fun h1 => pe_callB (cr_len_ K) rfl T.b_len rfl h1) da_nil)))))), vc__law_pick a⟩
theorem ok__law_kind (T : Txt K mg) : FnG P w K mg base CX0 1 T._law_kind.f T._law_kind.fd ["_law_sign"] (spP K sp__law_kind) := by
  have nd := sc__law_kind.nd
  refine fnD T._law_kind.F sc__law_kind ln__law_kind fun cdv A fr s H E room guard dx h1 h2 => ?_
  have hu := room.units
  exact ⟨_, r__law_kind, (dss_cons (ds_if (dt_chain op_leS od_leS op_leS od_leS de_str (dv 0) de_str) (dss_one (ds_ret de_int)) dss_nil) (dss_one (ds_ret (de_if (dt_chain op_leS od_leS op_leS od_leS de_str (dv 0) de_str) de_int de_int)))), vc__law_kind⟩
theorem ok__law_marks (T : Txt K mg) : FnG P w K mg base CX0 2 T._law_marks.f T._law_marks.fd ["_law_text"] (spP K sp__law_marks) := by
  have nd := sc__law_marks.nd
  have G__law_kind := ok__law_kind (P := P) (w := w) (base := base) T
  refine fnD T._law_marks.F sc__law_marks ln__law_marks fun cdv A fr s H E room guard dx h1 h2 => ?_
  have hu := room.units
  exact ⟨_, r__law_marks, (dss_cons (ds_par3_ (da_cons (de_new da_nil) (da_cons de_int (da_cons de_int da_nil))) fun h1 => ps_par3 (by rfl) nd rfl rfl rfl (by decide) (by decide) (by decide) rfl rfl rfl h1 (by rfl)) (dss_cons (ds_for PassesOwn.never rfl (di_str (dv 0)) (dg_name nd rfl (by first | exact .inl rfl | exact .inr rfl)) (dss_cons (ds_set nd rfl (by first | exact .inl rfl | exact .inr rfl) (de_call_ K G__law_kind (room.mono (by decide)) guard rfl T._law_kind.m T._law_kind.F.2 T._law_kind.b  (da_cons (dv 1) da_nil))) (dss_cons (ds_if (DW.dt (dw_and (dt_cmp op_gt od_onB (dv 5) de_int (nomark _)) (dw_and (dt_cmp (op_neA_ K hu) od_ne (dv 2) (de_lst da_nil) (nomark _)) (dw_and (dt_cmp (op_eqA_ K hu) od_eq (de_ix_ K (de_ix_ K (dv 2) (de_un un_neg od_neg de_int)) de_int) (dv 5) (nomark _)) (dw_and1 (dt_cmp (op_eqA_ K hu) od_eq (de_slice_ K (de_ix_ K (dv 2) (de_un un_neg od_neg de_int)) do_none (do_some de_int)) (de_tup (da_cons (dv 3) (da_cons (de_op op_sub od_onI0 (dv 4) (de_callB_ (cr_len_ K) cd_len (da_cons (de_ix_ K (de_ix_ K (dv 2) (de_un un_neg od_neg de_int)) de_int) da_nil) fun h1 => pe_callB (cr_len_ K) rfl T.b_len rfl h1)) da_nil))) (nomark _))))))) (dss_one (ds_setI_ (de_op (op_addAll_ K) od_add (de_slice_ K (de_ix_ K (dv 2) (de_un un_neg od_neg de_int)) do_none (do_some de_int)) (de_tup (da_cons (de_op (op_addAll_ K) od_add (de_ix_ K (de_ix_ K (dv 2) (de_un un_neg od_neg de_int)) de_int) (dv 1)) (da_cons (dv 5) da_nil)))) (dv 2) (de_un un_neg od_neg de_int) fun h1 h2 h3 => ps_asg h1 (pg_sub h2 h3 set_list))) (dss_one (ds_if (dt_cmp (op_neA_ K hu) od_ne (dv 1) de_str (nomark _)) (dss_one (ds_expr (de_met_ K md_append (dv 2) (da_cons (de_tup (da_cons (dv 3) (da_cons (dv 4) (da_cons (dv 1) (da_cons (dv 5) da_nil))))) da_nil) fun h1 h2 => pe_bm PySem.F.plainAttrs_list PySem.F.slot_list_append PySem.F.type_list_append mt_append h1 h2))) dss_nil))) (dss_one (ds_asg_ (de_if (dt_cmp (op_eqA_ K hu) od_eq (dv 1) de_str (nomark _)) (de_tup (da_cons (de_op (op_addAll_ K) od_add (dv 3) de_int) (da_cons de_int da_nil))) (de_tup (da_cons (dv 3) (da_cons (de_op (op_addAll_ K) od_add (dv 4) de_int) da_nil)))) (dg_tup_ K (dgs_cons' (dg_name nd rfl (by first | exact .inl rfl | exact .inr rfl)) (dgs_cons' (dg_name nd rfl (by first | exact .inl rfl | exact .inr rfl)) dgs_nil fun h1 h2 => pgs_cons h1 h2) fun h1 h2 => pgs_cons h1 h2) fun h1 => pg_tup rfl h1) fun h1 h2 => ps_asg h1 h2))))) (dss_frz 2 (dss_one (ds_ret (de_lc (own := [("_law_mark", 6)]) rfl nd (di_seq_ K (dv 2)) (show BlkOk ["_law_text", "_law_sign", "_law_found", "_law_line", "_law_at", "_law_kind_here", "_law_mark"] (defScope s__law_marks) _ [("_law_mark", 6)] from ⟨rfl, by decide +kernel, by decide +kernel, by decide +kernel, by decide +kernel⟩) (by decide) (fun m s0 H0 C cl fp => (dg_name nd rfl (by first | exact .inl rfl | exact .inr rfl))) (fun m s0 H0 C cl fp => dts_nil) (fun m s0 H0 C cl fp => (de_slice_ K (dv 6) do_none (do_some de_int))))))))), vc__law_marks⟩
theorem ok__law_piece (T : Txt K mg) : FnG P w K mg base CX0 3 T._law_piece.f T._law_piece.fd ["_law_heap_here"] (spR K sp__law_piece) := by
  have nd := sc__law_piece.nd
  have G__law_draw := ok__law_draw (P := P) (w := w) (base := base) T
  have G__law_pick := ok__law_pick (P := P) (w := w) (base := base) T
  refine fnR T._law_piece.F sc__law_piece ln__law_piece fun cdv A fr s H E room guard a c dx h1 h2 => ?_
  have hu := room.units
  exact ⟨_, r__law_piece a, (dss_cons (ds_set nd rfl (by first | exact .inl rfl | exact .inr rfl) (de_callR_ K G__law_draw (room.mono (by decide)) guard rfl T._law_draw.m T._law_draw.F.2 T._law_draw.b h1 h2 (da_cons (dv 0) (da_cons de_int da_nil)))) (dss_cons (ds_if (dt_cmp op_lt od_onB (dv 1) de_int (nomark _)) (dss_one (ds_ret (de_join K de_str (de_lc (own := [("_law_turn", 3)]) rfl nd (di_range1 rfl T.b_range (da_cons (de_op (op_addAll_ K) od_add de_int (de_callR_ K G__law_draw (room.mono (by decide)) guard rfl T._law_draw.m T._law_draw.F.2 T._law_draw.b h1 h2 (da_cons (dv 0) (da_cons (de_callR_ K G__law_pick (room.mono (by decide)) guard rfl T._law_pick.m T._law_pick.F.2 T._law_pick.b h1 h2 (da_cons (dv 0) (da_cons (de_lst (da_cons de_int (da_cons de_int (da_cons de_int da_nil)))) da_nil))) da_nil)))) da_nil)) (show BlkOk ["_law_heap_here", "_law_kind_here", "_law_some", "_law_turn"] (defScope s__law_piece) _ [("_law_turn", 3)] from ⟨rfl, by decide +kernel, by decide +kernel, by decide +kernel, by decide +kernel⟩) (by decide) (fun m s0 H0 C cl fp => (dg_name nd rfl (by first | exact .inl rfl | exact .inr rfl))) (fun m s0 H0 C cl fp => dts_nil) (fun m s0 H0 C cl fp => (de_ix_ K de_str (de_callR_ K G__law_draw (room.mono (by decide)) guard rfl T._law_draw.m T._law_draw.F.2 T._law_draw.b h1 h2 (da_cons (dv 0) (da_cons de_int da_nil)))))) fun h1 h2 => pe_join h1 h2))) dss_nil) (dss_cons (ds_if (dt_cmp op_lt od_onB (dv 1) de_int (nomark _)) (dss_one (ds_ret (de_join K de_str (de_lc (own := [("_law_turn", 3)]) rfl nd (di_range1 rfl T.b_range (da_cons (de_op (op_addAll_ K) od_add de_int (de_callR_ K G__law_draw (room.mono (by decide)) guard rfl T._law_draw.m T._law_draw.F.2 T._law_draw.b h1 h2 (da_cons (dv 0) (da_cons (de_callR_ K G__law_pick (room.mono (by decide)) guard rfl T._law_pick.m T._law_pick.F.2 T._law_pick.b h1 h2 (da_cons (dv 0) (da_cons (de_lst (da_cons de_int (da_cons de_int (da_cons de_int da_nil)))) da_nil))) da_nil)))) da_nil)) (show BlkOk ["_law_heap_here", "_law_kind_here", "_law_some", "_law_turn"] (defScope s__law_piece) _ [("_law_turn", 3)] from ⟨rfl, by decide +kernel, by decide +kernel, by decide +kernel, by decide +kernel⟩) (by decide) (fun m s0 H0 C cl fp => (dg_name nd rfl (by first | exact .inl rfl | exact .inr rfl))) (fun m s0 H0 C cl fp => dts_nil) (fun m s0 H0 C cl fp => (de_ix_ K de_str (de_callR_ K G__law_draw (room.mono (by decide)) guard rfl T._law_draw.m T._law_draw.F.2 T._law_draw.b h1 h2 (da_cons (dv 0) (da_cons de_int da_nil)))))) fun h1 h2 => pe_join h1 h2))) dss_nil) (dss_cons (ds_if (dt_cmp (op_eqA_ K hu) od_eq (dv 1) de_int (nomark _)) (dss_one (ds_ret (de_op op_mulS od_mulS de_str (de_op (op_addAll_ K) od_add de_int (de_callR_ K G__law_draw (room.mono (by decide)) guard rfl T._law_draw.m T._law_draw.F.2 T._law_draw.b h1 h2 (da_cons (dv 0) (da_cons de_int da_nil))))))) dss_nil) (dss_cons (ds_set nd rfl (by first | exact .inl rfl | exact .inr rfl) (de_lst (da_cons de_str (da_cons de_str (da_cons de_str (da_cons de_str (da_cons de_str (da_cons de_str (da_cons de_str (da_cons de_str (da_cons de_str (da_cons de_str (da_cons de_str (da_cons de_str (da_cons de_str (da_cons de_str (da_cons de_str (da_cons de_str (da_cons de_str (da_cons de_str (da_cons de_str (da_cons de_str (da_cons de_str (da_cons de_str da_nil)))))))))))))))))))))))) (dss_one (ds_ret (de_callR_ K G__law_pick (room.mono (by decide)) guard rfl T._law_pick.m T._law_pick.F.2 T._law_pick.b h1 h2 (da_cons (dv 0) (da_cons (de_op (op_addAll_ K) od_add (dv 2) (de_lst (da_cons de_str (da_cons de_str (da_cons de_str da_nil))))) da_nil)))))))))), vc__law_piece a⟩
theorem ok_law (T : Txt K mg) : FnG P w K mg base CX0 5 T.law.f T.law.fd ["_law_script"] (spL K) := by
  have nd := sc_law.nd
  have G__law_draw := ok__law_draw (P := P) (w := w) (base := base) T
  have G__law_heap := ok__law_heap (P := P) (w := w) (base := base) T
  have G__law_marks := ok__law_marks (P := P) (w := w) (base := base) T
  have G__law_pick := ok__law_pick (P := P) (w := w) (base := base) T
  have G__law_piece := ok__law_piece (P := P) (w := w) (base := base) T
  have G_marks_of := ok_marks_of (P := P) (w := w) (base := base) T
  refine fnLaw T.law.F sc_law rfl rfl fun cdv A fr s H E room guard => ?_
  have hu := room.units
  exact ⟨_, _, fun dx => (de_call_ K G__law_heap (room.mono (by decide)) guard rfl T._law_heap.m T._law_heap.F.2 T._law_heap.b  (da_cons (dv 0) da_nil)), DS.pe (dx := ⟨fun _ => False, H, noHand, noJ⟩) (ds_set nd rfl (by first | exact .inl rfl | exact .inr rfl) (de_call_ K G__law_heap (room.mono (by decide)) guard rfl T._law_heap.m T._law_heap.F.2 T._law_heap.b  (da_cons (dv 0) da_nil))), fun a c dx h1 h2 => ⟨r_law a, (dss_cons (ds_for PassesOwn.never rfl (di_range1 rfl T.b_range (da_cons (de_op (op_addAll_ K) od_add de_int (de_op (op_mulAll_ K) od_mul de_int (de_callTy_ call_int1 cd_int (da_cons (de_cmp op_gt od_onB (de_callB_ (cr_len_ K) cd_len (da_cons (dv 0) da_nil) fun h1 => pe_callB (cr_len_ K) rfl T.b_len rfl h1) de_int (nomark _)) da_nil) fun h1 => pe_callTy call_int1 rfl T.b_int rfl h1))) da_nil)) (dg_name nd rfl (by first | exact .inl rfl | exact .inr rfl)) (dss_cons (ds_set nd rfl (by first | exact .inl rfl | exact .inr rfl) (de_join K de_str (de_lc (own := [("_law_again", 7)]) rfl nd (di_range1 rfl T.b_range (da_cons (de_callR_ K G__law_pick (room.mono (by decide)) guard rfl T._law_pick.m T._law_pick.F.2 T._law_pick.b h1 h2 (da_cons (dv 1) (da_cons (de_lst (da_cons de_int (da_cons de_int (da_cons de_int (da_cons de_int (da_cons de_int da_nil)))))) da_nil))) da_nil)) (show BlkOk ["_law_script", "_law_heap_here", "_law_turn", "_law_text", "_law_due", "_law_told", "_law_joined", "_law_again", "_law_line", "_law_at", "_law_mark"] (defScope s_law) _ [("_law_again", 7)] from ⟨rfl, by decide +kernel, by decide +kernel, by decide +kernel, by decide +kernel⟩) (by decide) (fun m s0 H0 C cl fp => (dg_name nd rfl (by first | exact .inl rfl | exact .inr rfl))) (fun m s0 H0 C cl fp => dts_nil) (fun m s0 H0 C cl fp => (de_callR_ K G__law_piece (room.mono (by decide)) guard rfl T._law_piece.m T._law_piece.F.2 T._law_piece.b h1 h2 (da_cons (dv 1) da_nil)))) fun h1 h2 => pe_join h1 h2)) (dss_cons (ds_set nd rfl (by first | exact .inl rfl | exact .inr rfl) (de_if (dt_cmp (op_eqA_ K hu) od_eq (de_callR_ K G__law_draw (room.mono (by decide)) guard rfl T._law_draw.m T._law_draw.F.2 T._law_draw.b h1 h2 (da_cons (dv 1) (da_cons de_int da_nil))) de_int (nomark _)) (de_op (op_addAll_ K) od_add (de_op (op_addAll_ K) od_add (de_op (op_addAll_ K) od_add (de_op (op_addAll_ K) od_add (de_op op_mulS od_mulS de_str de_int) de_str) (dv 3)) de_str) (de_op op_mulS od_mulS de_str de_int)) (dv 3))) (dss_cons (ds_set nd rfl (by first | exact .inl rfl | exact .inr rfl) (de_callTy_ (cr_tuple_ K) cd_tuple_ (da_cons (de_call_ K G__law_marks (room.mono (by decide)) guard rfl T._law_marks.m T._law_marks.F.2 T._law_marks.b  (da_cons (dv 3) da_nil)) da_nil) fun h1 => pe_callTy (cr_tuple_ K) rfl T.b_tuple rfl h1)) (dss_cons (ds_set nd rfl (by first | exact .inl rfl | exact .inr rfl) (de_call_ K G_marks_of (room.mono (by decide)) guard rfl T.marks_of.m T.marks_of.F.2 T.marks_of.b  (da_cons (dv 3) da_nil))) (dss_cons (ds_if (DW.dt (dw_or (dt_cmp (op_neA_ K hu) od_ne (de_callB_ (cr_repr_ K guard hu) cd_repr (da_cons (dv 5) da_nil) fun h1 => pe_callB (cr_repr_ K guard hu) rfl T.b_repr rfl h1) (de_callB_ (cr_repr_ K guard hu) cd_repr (da_cons (dv 4) da_nil) fun h1 => pe_callB (cr_repr_ K guard hu) rfl T.b_repr rfl h1) (nomark _)) (dw_or1 (dt_cmp (op_neA_ K hu) od_ne (de_callK0_ K G_marks_of (room.mono (by decide)) guard rfl T.marks_of.m T.marks_of.F.2 (kb_marks_of_0_text T.marks_of.F) kb_marks_of_0_text_ord  (dk_cons (dv 3) dk_nil)) (dv 5) (nomark _))))) (dss_one (ds_ret de_bl)) dss_nil) (dss_cons (ds_set nd rfl (by first | exact .inl rfl | exact .inr rfl) (de_join K de_str (de_lc (own := [("_law_line", 8), ("_law_at", 9), ("_law_mark", 10)]) rfl nd (di_seq_ K (dv 4)) (show BlkOk ["_law_script", "_law_heap_here", "_law_turn", "_law_text", "_law_due", "_law_told", "_law_joined", "_law_again", "_law_line", "_law_at", "_law_mark"] (defScope s_law) _ [("_law_line", 8), ("_law_at", 9), ("_law_mark", 10)] from ⟨rfl, by decide +kernel, by decide +kernel, by decide +kernel, by decide +kernel⟩) (by decide) (fun m s0 H0 C cl fp => (dg_tup_ K (dgs_cons' (dg_name nd rfl (by first | exact .inl rfl | exact .inr rfl)) (dgs_cons' (dg_name nd rfl (by first | exact .inl rfl | exact .inr rfl)) (dgs_cons' (dg_name nd rfl (by first | exact .inl rfl | exact .inr rfl)) dgs_nil fun h1 h2 => pgs_cons h1 h2) fun h1 h2 => pgs_cons h1 h2) fun h1 h2 => pgs_cons h1 h2) fun h1 => pg_tup rfl h1)) (fun m s0 H0 C cl fp => dts_nil) (fun m s0 H0 C cl fp => (dv 10))) fun h1 h2 => pe_join h1 h2)) (dss_one (ds_if (dt_cmp (op_neA_ K hu) od_ne (de_lc (own := [("_law_line", 8), ("_law_at", 9), ("_law_mark", 10)]) rfl nd (di_seq_ K (de_call_ K G_marks_of (room.mono (by decide)) guard rfl T.marks_of.m T.marks_of.F.2 T.marks_of.b  (da_cons (dv 6) da_nil))) (show BlkOk ["_law_script", "_law_heap_here", "_law_turn", "_law_text", "_law_due", "_law_told", "_law_joined", "_law_again", "_law_line", "_law_at", "_law_mark"] (defScope s_law) _ [("_law_line", 8), ("_law_at", 9), ("_law_mark", 10)] from ⟨rfl, by decide +kernel, by decide +kernel, by decide +kernel, by decide +kernel⟩) (by decide) (fun m s0 H0 C cl fp => (dg_tup_ K (dgs_cons' (dg_name nd rfl (by first | exact .inl rfl | exact .inr rfl)) (dgs_cons' (dg_name nd rfl (by first | exact .inl rfl | exact .inr rfl)) (dgs_cons' (dg_name nd rfl (by first | exact .inl rfl | exact .inr rfl)) dgs_nil fun h1 h2 => pgs_cons h1 h2) fun h1 h2 => pgs_cons h1 h2) fun h1 h2 => pgs_cons h1 h2) fun h1 => pg_tup rfl h1)) (fun m s0 H0 C cl fp => dts_nil) (fun m s0 H0 C cl fp => (dv 10))) (de_lc (own := [("_law_line", 8), ("_law_at", 9), ("_law_mark", 10)]) rfl nd (di_seq_ K (dv 4)) (show BlkOk ["_law_script", "_law_heap_here", "_law_turn", "_law_text", "_law_due", "_law_told", "_law_joined", "_law_again", "_law_line", "_law_at", "_law_mark"] (defScope s_law) _ [("_law_line", 8), ("_law_at", 9), ("_law_mark", 10)] from ⟨rfl, by decide +kernel, by decide +kernel, by decide +kernel, by decide +kernel⟩) (by decide) (fun m s0 H0 C cl fp => (dg_tup_ K (dgs_cons' (dg_name nd rfl (by first | exact .inl rfl | exact .inr rfl)) (dgs_cons' (dg_name nd rfl (by first | exact .inl rfl | exact .inr rfl)) (dgs_cons' (dg_name nd rfl (by first | exact .inl rfl | exact .inr rfl)) dgs_nil fun h1 h2 => pgs_cons h1 h2) fun h1 h2 => pgs_cons h1 h2) fun h1 h2 => pgs_cons h1 h2) fun h1 => pg_tup rfl h1)) (fun m s0 H0 C cl fp => dts_nil) (fun m s0 H0 C cl fp => (dv 10))) (nomark _)) (dss_one (ds_ret de_bl)) dss_nil))))))))) (dss_cons (ds_if (DW.dt (dw_or (dt_cmp (op_neA_ K hu) od_ne (de_call_ K G_marks_of (room.mono (by decide)) guard rfl T.marks_of.m T.marks_of.F.2 T.marks_of.b  (da_cons de_str da_nil)) (de_tup da_nil) (nomark _)) (dw_or (dt_cmp (op_neA_ K hu) od_ne (de_call_ K G_marks_of (room.mono (by decide)) guard rfl T.marks_of.m T.marks_of.F.2 T.marks_of.b  (da_cons de_str da_nil)) (de_tup da_nil) (nomark _)) (dw_or1 (dt_cmp (op_neA_ K hu) od_ne (de_call_ K G_marks_of (room.mono (by decide)) guard rfl T.marks_of.m T.marks_of.F.2 T.marks_of.b  (da_cons de_str da_nil)) (de_tup (da_cons (de_tup (da_cons de_int (da_cons de_int (da_cons de_str da_nil)))) da_nil)) (nomark _)))))) (dss_one (ds_ret de_bl)) dss_nil) (dss_one (ds_ret (de_cmp (op_eqA_ K hu) od_eq (de_call_ K G_marks_of (room.mono (by decide)) guard rfl T.marks_of.m T.marks_of.F.2 T.marks_of.b  (da_cons de_str da_nil)) (de_tup (da_cons (de_tup (da_cons de_int (da_cons de_int (da_cons de_str da_nil)))) (da_cons (de_tup (da_cons de_int (da_cons de_int (da_cons de_str da_nil)))) (da_cons (de_tup (da_cons de_int (da_cons de_int (da_cons de_str da_nil)))) (da_cons (de_tup (da_cons de_int (da_cons de_int (da_cons de_str da_nil)))) (da_cons (de_tup (da_cons de_int (da_cons de_int (da_cons de_str da_nil)))) (da_cons (de_tup (da_cons de_int (da_cons de_int (da_cons de_str da_nil)))) (da_cons (de_tup (da_cons de_int (da_cons de_int (da_cons de_str da_nil)))) (da_cons (de_tup (da_cons de_int (da_cons de_int (da_cons de_str da_nil)))) (da_cons (de_tup (da_cons de_int (da_cons de_int (da_cons de_str da_nil)))) da_nil)))))))))) (nomark _)))))), vc_law a⟩⟩
end
end K6
end DL
namespace DL
open PySem PySem.Spec L2 Gd
namespace K6
theorem spL_hsp : ∀ (K : PySem.W.Frag) (H : Hp) (a : Addr) (ns : List Int), ns.length ≤ 63 → (∀ b u, H b = some u → ∃ o, u = .frz o (.lst (ns.map V.int))) → SqL K H a (ns.map V.int) → spL K [.ref a] H (fun v _ => v = .bl true) fun _ _ _ => False :=
  fun K H a ns hl only hS => ⟨a, ns, rfl, hl, only, hS, fun _ => rfl⟩
theorem all_mk {l : PySem.W.OpenLaw} {w : World} {K : PySem.W.Frag} {h : Heap} {mg : Str → Option Value} {fa f0 f1 f2 f3 f4 f5 f6 f7 f8 f9 f10 : Addr} (X : K.In h) (G : h.Ns mainGlobals mg) (hfa : mg "law" = some (.ref fa))
    {od0 an0 : Option Addr} {sl0 : Array (Option Value)} {oc0 kV0 dc0 pm0 cd0 ct0 : Value}
    (a0 : PySem.W.nsIn K mainGlobals "run_kind" = some (some (.ref f0))) (l0 : K.lookup f0 = some ⟨oc0, od0, .func (PySem.W.fnOf "run_kind" "run_kind" (defArgs s_run_kind) (defBody s_run_kind) (defScope s_run_kind) .none kV0 dc0 pm0 an0 cd0 ct0), sl0⟩) (c0 : PySem.W.codeIn K cd0 "run_kind" = true) (k0 : PySem.W.keepIn K (.ref f0) = true)
    {od1 an1 : Option Addr} {sl1 : Array (Option Value)} {oc1 kV1 dc1 pm1 cd1 ct1 : Value}
    (a1 : PySem.W.nsIn K mainGlobals "mark_end" = some (some (.ref f1))) (l1 : K.lookup f1 = some ⟨oc1, od1, .func (PySem.W.fnOf "mark_end" "mark_end" (defArgs s_mark_end) (defBody s_mark_end) (defScope s_mark_end) .none kV1 dc1 pm1 an1 cd1 ct1), sl1⟩) (c1 : PySem.W.codeIn K cd1 "mark_end" = true) (k1 : PySem.W.keepIn K (.ref f1) = true)
    {od2 an2 : Option Addr} {sl2 : Array (Option Value)} {oc2 kV2 dc2 pm2 cd2 ct2 : Value}
    (a2 : PySem.W.nsIn K mainGlobals "marks_in" = some (some (.ref f2))) (l2 : K.lookup f2 = some ⟨oc2, od2, .func (PySem.W.fnOf "marks_in" "marks_in" (defArgs s_marks_in) (defBody s_marks_in) (defScope s_marks_in) .none kV2 dc2 pm2 an2 cd2 ct2), sl2⟩) (c2 : PySem.W.codeIn K cd2 "marks_in" = true) (k2 : PySem.W.keepIn K (.ref f2) = true)
    {od3 an3 : Option Addr} {sl3 : Array (Option Value)} {oc3 kV3 dc3 pm3 cd3 ct3 : Value}
    (a3 : PySem.W.nsIn K mainGlobals "marks_of" = some (some (.ref f3))) (l3 : K.lookup f3 = some ⟨oc3, od3, .func (PySem.W.fnOf "marks_of" "marks_of" (defArgs s_marks_of) (defBody s_marks_of) (defScope s_marks_of) .none kV3 dc3 pm3 an3 cd3 ct3), sl3⟩) (c3 : PySem.W.codeIn K cd3 "marks_of" = true) (k3 : PySem.W.keepIn K (.ref f3) = true)
    {od4 an4 : Option Addr} {sl4 : Array (Option Value)} {oc4 kV4 dc4 pm4 cd4 ct4 : Value}
    (a4 : PySem.W.nsIn K mainGlobals "_law_heap" = some (some (.ref f4))) (l4 : K.lookup f4 = some ⟨oc4, od4, .func (PySem.W.fnOf "_law_heap" "_law_heap" (defArgs s__law_heap) (defBody s__law_heap) (defScope s__law_heap) .none kV4 dc4 pm4 an4 cd4 ct4), sl4⟩) (c4 : PySem.W.codeIn K cd4 "_law_heap" = true) (k4 : PySem.W.keepIn K (.ref f4) = true)
    {od5 an5 : Option Addr} {sl5 : Array (Option Value)} {oc5 kV5 dc5 pm5 cd5 ct5 : Value}
    (a5 : PySem.W.nsIn K mainGlobals "_law_draw" = some (some (.ref f5))) (l5 : K.lookup f5 = some ⟨oc5, od5, .func (PySem.W.fnOf "_law_draw" "_law_draw" (defArgs s__law_draw) (defBody s__law_draw) (defScope s__law_draw) .none kV5 dc5 pm5 an5 cd5 ct5), sl5⟩) (c5 : PySem.W.codeIn K cd5 "_law_draw" = true) (k5 : PySem.W.keepIn K (.ref f5) = true)
    {od6 an6 : Option Addr} {sl6 : Array (Option Value)} {oc6 kV6 dc6 pm6 cd6 ct6 : Value}
    (a6 : PySem.W.nsIn K mainGlobals "_law_pick" = some (some (.ref f6))) (l6 : K.lookup f6 = some ⟨oc6, od6, .func (PySem.W.fnOf "_law_pick" "_law_pick" (defArgs s__law_pick) (defBody s__law_pick) (defScope s__law_pick) .none kV6 dc6 pm6 an6 cd6 ct6), sl6⟩) (c6 : PySem.W.codeIn K cd6 "_law_pick" = true) (k6 : PySem.W.keepIn K (.ref f6) = true)
    {od7 an7 : Option Addr} {sl7 : Array (Option Value)} {oc7 kV7 dc7 pm7 cd7 ct7 : Value}
    (a7 : PySem.W.nsIn K mainGlobals "_law_kind" = some (some (.ref f7))) (l7 : K.lookup f7 = some ⟨oc7, od7, .func (PySem.W.fnOf "_law_kind" "_law_kind" (defArgs s__law_kind) (defBody s__law_kind) (defScope s__law_kind) .none kV7 dc7 pm7 an7 cd7 ct7), sl7⟩) (c7 : PySem.W.codeIn K cd7 "_law_kind" = true) (k7 : PySem.W.keepIn K (.ref f7) = true)
    {od8 an8 : Option Addr} {sl8 : Array (Option Value)} {oc8 kV8 dc8 pm8 cd8 ct8 : Value}
    (a8 : PySem.W.nsIn K mainGlobals "_law_marks" = some (some (.ref f8))) (l8 : K.lookup f8 = some ⟨oc8, od8, .func (PySem.W.fnOf "_law_marks" "_law_marks" (defArgs s__law_marks) (defBody s__law_marks) (defScope s__law_marks) .none kV8 dc8 pm8 an8 cd8 ct8), sl8⟩) (c8 : PySem.W.codeIn K cd8 "_law_marks" = true) (k8 : PySem.W.keepIn K (.ref f8) = true)
    {od9 an9 : Option Addr} {sl9 : Array (Option Value)} {oc9 kV9 dc9 pm9 cd9 ct9 : Value}
    (a9 : PySem.W.nsIn K mainGlobals "_law_piece" = some (some (.ref f9))) (l9 : K.lookup f9 = some ⟨oc9, od9, .func (PySem.W.fnOf "_law_piece" "_law_piece" (defArgs s__law_piece) (defBody s__law_piece) (defScope s__law_piece) .none kV9 dc9 pm9 an9 cd9 ct9), sl9⟩) (c9 : PySem.W.codeIn K cd9 "_law_piece" = true) (k9 : PySem.W.keepIn K (.ref f9) = true)
    {od10 an10 : Option Addr} {sl10 : Array (Option Value)} {oc10 kV10 dc10 pm10 cd10 ct10 : Value}
    (a10 : PySem.W.nsIn K mainGlobals "law" = some (some (.ref f10))) (l10 : K.lookup f10 = some ⟨oc10, od10, .func (PySem.W.fnOf "law" "law" (defArgs s_law) (defBody s_law) (defScope s_law) .none kV10 dc10 pm10 an10 cd10 ct10), sl10⟩) (c10 : PySem.W.codeIn K cd10 "law" = true) (k10 : PySem.W.keepIn K (.ref f10) = true)
    (z_abs : PySem.W.nsIn K mainGlobals "abs" = some none)
    (z_enumerate : PySem.W.nsIn K mainGlobals "enumerate" = some none)
    (z_int : PySem.W.nsIn K mainGlobals "int" = some none)
    (z_len : PySem.W.nsIn K mainGlobals "len" = some none)
    (z_range : PySem.W.nsIn K mainGlobals "range" = some none)
    (z_repr : PySem.W.nsIn K mainGlobals "repr" = some none)
    (z_tuple : PySem.W.nsIn K mainGlobals "tuple" = some none)
    : ∃ fd : FuncData, (∀ (s : Shared) (v : Value), BindsTo s fd ⟨[v], []⟩ [("_law_script", v)]) ∧ ∀ base : Heap, K.In base → base.Ns mainGlobals mg → FnG l.prog w K mg base CX0 5 fa fd ["_law_script"] (spL K) := by
  have e := hfa.symm.trans (PySem.W.mg_of X G a10)
  cases e
  have F0 := fun_mk (st := s_run_kind) l0 c0 k0
  have b0 := F0.binds (ps := ["sign"]) fun _ _ _ _ _ _ us hl => match us, hl with | [_], _ => rfl
  have F1 := fun_mk (st := s_mark_end) l1 c1 k1
  have b1 := F1.binds (ps := ["row", "at"]) fun _ _ _ _ _ _ us hl => match us, hl with | [_, _], _ => rfl
  have F2 := fun_mk (st := s_marks_in) l2 c2 k2
  have b2 := F2.binds (ps := ["row", "line"]) fun _ _ _ _ _ _ us hl => match us, hl with | [_, _], _ => rfl
  have F3 := fun_mk (st := s_marks_of) l3 c3 k3
  have b3 := F3.binds (ps := ["text"]) fun _ _ _ _ _ _ us hl => match us, hl with | [_], _ => rfl
  have F4 := fun_mk (st := s__law_heap) l4 c4 k4
  have b4 := F4.binds (ps := ["_law_script"]) fun _ _ _ _ _ _ us hl => match us, hl with | [_], _ => rfl
  have F5 := fun_mk (st := s__law_draw) l5 c5 k5
  have b5 := F5.binds (ps := ["_law_heap_here", "_law_many"]) fun _ _ _ _ _ _ us hl => match us, hl with | [_, _], _ => rfl
  have F6 := fun_mk (st := s__law_pick) l6 c6 k6
  have b6 := F6.binds (ps := ["_law_heap_here", "_law_some"]) fun _ _ _ _ _ _ us hl => match us, hl with | [_, _], _ => rfl
  have F7 := fun_mk (st := s__law_kind) l7 c7 k7
  have b7 := F7.binds (ps := ["_law_sign"]) fun _ _ _ _ _ _ us hl => match us, hl with | [_], _ => rfl
  have F8 := fun_mk (st := s__law_marks) l8 c8 k8
  have b8 := F8.binds (ps := ["_law_text"]) fun _ _ _ _ _ _ us hl => match us, hl with | [_], _ => rfl
  have F9 := fun_mk (st := s__law_piece) l9 c9 k9
  have b9 := F9.binds (ps := ["_law_heap_here"]) fun _ _ _ _ _ _ us hl => match us, hl with | [_], _ => rfl
  have F10 := fun_mk (st := s_law) l10 c10 k10
  have b10 := F10.binds (ps := ["_law_script"]) fun _ _ _ _ _ _ us hl => match us, hl with | [_], _ => rfl
  exact ⟨_, fun s v => .of_eq rfl, fun base _ _ => ok_law (P := l.prog) (w := w) (base := base) (⟨⟨f0, _, PySem.W.mg_of X G a0, F0, b0⟩, ⟨f1, _, PySem.W.mg_of X G a1, F1, b1⟩, ⟨f2, _, PySem.W.mg_of X G a2, F2, b2⟩, ⟨f3, _, PySem.W.mg_of X G a3, F3, b3⟩, ⟨f4, _, PySem.W.mg_of X G a4, F4, b4⟩, ⟨f5, _, PySem.W.mg_of X G a5, F5, b5⟩, ⟨f6, _, PySem.W.mg_of X G a6, F6, b6⟩, ⟨f7, _, PySem.W.mg_of X G a7, F7, b7⟩, ⟨f8, _, PySem.W.mg_of X G a8, F8, b8⟩, ⟨f9, _, PySem.W.mg_of X G a9, F9, b9⟩, ⟨fa, _, PySem.W.mg_of X G a10, F10, b10⟩, PySem.W.mg_none_of X G z_abs, PySem.W.mg_none_of X G z_enumerate, PySem.W.mg_none_of X G z_int, PySem.W.mg_none_of X G z_len, PySem.W.mg_none_of X G z_range, PySem.W.mg_none_of X G z_repr, PySem.W.mg_none_of X G z_tuple⟩ : Txt K mg)⟩
end K6
end DL
open PySem PySem.W PyProof.Rows in
set_option maxRecDepth 100000 in
set_option maxHeartbeats 0 in
theorem PySem.Challenge.cw_allworlds_k06_marks_cut_and_joined_holds : PySem.Challenge.rw_allworlds_k06_marks_cut_and_joined.Holds := by
  w_on; o_law; k_head; (case hw => w_witness2)
  k_fill
  refine DL.walkG (l := PySem.Challenge.rw_allworlds_k06_marks_cut_and_joined) (n := 63) (k := 5) (x := "_law_script") (sp := DL.spL) rfl (by decide) rfl ⟨rfl, by decide, by decide⟩ (fun w h Y => PySem.W.kIn_of Y) ?F DL.K6.spL_hsp
  case F =>
    intro w mg fa h KX G hmg
    refine' DL.K6.all_mk KX G hmg ?a0 ?l0 ?c0 ?k0 ?a1 ?l1 ?c1 ?k1 ?a2 ?l2 ?c2 ?k2 ?a3 ?l3 ?c3 ?k3 ?a4 ?l4 ?c4 ?k4 ?a5 ?l5 ?c5 ?k5 ?a6 ?l6 ?c6 ?k6 ?a7 ?l7 ?c7 ?k7 ?a8 ?l8 ?c8 ?k8 ?a9 ?l9 ?c9 ?k9 ?a10 ?l10 ?c10 ?k10 ?z_abs ?z_enumerate ?z_int ?z_len ?z_range ?z_repr ?z_tuple
    (case a0 => k_is)
    (case l0 => k_is)
    (case c0 => k_is)
    (case k0 => k_is)
    (case a1 => k_is)
    (case l1 => k_is)
    (case c1 => k_is)
    (case k1 => k_is)
    (case a2 => k_is)
    (case l2 => k_is)
    (case c2 => k_is)
    (case k2 => k_is)
    (case a3 => k_is)
    (case l3 => k_is)
    (case c3 => k_is)
    (case k3 => k_is)
    (case a4 => k_is)
    (case l4 => k_is)
    (case c4 => k_is)
    (case k4 => k_is)
    (case a5 => k_is)
    (case l5 => k_is)
    (case c5 => k_is)
    (case k5 => k_is)
    (case a6 => k_is)
    (case l6 => k_is)
    (case c6 => k_is)
    (case k6 => k_is)
    (case a7 => k_is)
    (case l7 => k_is)
    (case c7 => k_is)
    (case k7 => k_is)
    (case a8 => k_is)
    (case l8 => k_is)
    (case c8 => k_is)
    (case k8 => k_is)
    (case a9 => k_is)
    (case l9 => k_is)
    (case c9 => k_is)
    (case k9 => k_is)
    (case a10 => k_is)
    (case l10 => k_is)
    (case c10 => k_is)
    (case k10 => k_is)
    (case z_abs => k_is)
    (case z_enumerate => k_is)
    (case z_int => k_is)
    (case z_len => k_is)
    (case z_range => k_is)
    (case z_repr => k_is)
    (case z_tuple => k_is)
