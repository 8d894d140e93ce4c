import PyProof.Rows.All
import Wide.All
import OpenK.AllK
import Wide.FinOn
import HandS.Base
import HandS.Call
import HandS.List
import HandS.Comp
import HandS.Ends
import HandS.Dict
import HandS.Iter
import HandS.Text
import HandS.Words
import HandS.WordsList
import HandS.IsInst
import HandS.StrMore
import HandS.Defaults
import HandS.Codes
import HandS.EndBits
import KE.KExcIs
import HandS.Exc
import HandS.ExcInit
import HandS.Lambda
import HandS.EndTab
import HandS.WordsExc
import HandS.ExcOwn
import HandS.SortInts
import PyProof.TupleOfSeq
import HandS.Walk
import HandS.Gcd
import HandS.Wide
import HandS.DictComp
import KE.GoesMore
import HandS.Small
import PyProof.ReprLen
import HandS.Style
import KE.KDflt
import KE.KNestM
import PySem.Challenge.RW_duetickers_k05_free_names
set_option Elab.async false
set_option linter.all false
set_option maxRecDepth 100000
set_option maxHeartbeats 4000000
/-! Rules of our own: repr of data, identity with a truth, a text times a number, calls where nothing guards. -/
namespace Own
open PySem PySem.Spec PyProof.Rows L2

/-! ### repr(x), x data of any depth -/
def rRepr (K : PySem.W.Frag) : List V → Hp → VK → Prop := fun xs H Q =>
  ∃ x d, xs = [x] ∧ Dp K H x d ∧ d.showable = true ∧ d.hasDict = false ∧ d.depth ≤ 60 ∧ d.shown.length ≤ sizeLine ∧ Q (.str d.shown) H
theorem call_repr {X : Cx} (hg : X.A.guards = some []) (hu : X.A.units + 64 < cLine) : CallR X (.builtin "repr") (rRepr X.K) := by
  intro pins s σ H xs us Q I r h
  obtain ⟨x, d, rfl, hd, hs, hn, hdep, hsz, q⟩ := h
  cases r with
  | cons rx rn =>
    rename_i v us'
    cases rn
    cases hd with
    | non =>
      cases (show v = Value.none from rx)
      exact P.repr_of_none ⟨.str _, H, I.tok _, ⟨_, rfl⟩, q⟩
    | bl b =>
      cases (show v = Value.bool b from rx)
      exact P.repr_of_bool ⟨.str _, H, I.tok _, ⟨_, by cases b <;> rfl⟩, q⟩
    | int i =>
      obtain ⟨t, rfl⟩ := (show ∃ t, v = Value.int i t from rx)
      exact P.repr_of_int (of_decide_eq_true (by simpa only [PyData.showable] using hs)) ⟨.str _, H, I.tok _, ⟨_, rfl⟩, q⟩
    | str z =>
      obtain ⟨t, rfl⟩ := (show ∃ t, v = Value.str z t from rx)
      exact P.repr_of_str ⟨.str _, H, I.tok _, ⟨_, rfl⟩, q⟩ hsz
    | @lst a ys ds hl ha =>
      cases (show v = Value.ref a from rx)
      obtain ⟨as, rd⟩ := Dp.reads I (.list ds) (.ref a) _ (.lst hl ha) rfl
      exact repr_of_reads' rd hs (fun z => by rw [hn] at z; cases z) hg (by omega) (fun _ _ e => e) (fun h' u tk k => ⟨.str _, H, I.kept k, ⟨_, rfl⟩, q⟩) hsz
    | @tup a ys ds hl ha =>
      cases (show v = Value.ref a from rx)
      obtain ⟨as, rd⟩ := Dp.reads I (.tuple ds) (.ref a) _ (.tup hl ha) rfl
      exact repr_of_reads' rd hs (fun z => by rw [hn] at z; cases z) hg (by omega) (fun _ _ e => e) (fun h' u tk k => ⟨.str _, H, I.kept k, ⟨_, rfl⟩, q⟩) hsz

/-! ### x is not True -/
theorem op_notTrue {X : Cx} : OpR X (compareOp .IsNot) (fun x y H Q => ∃ b : Bool, y = .bl b ∧ Q (.bl (!decide (x = .bl b))) H) := by
  intro pins s σ H x y v u Q I rx ry h
  obtain ⟨b, rfl, q⟩ := h
  cases (show u = Value.bool b from ry)
  by_cases e : x = V.bl b
  · subst e
    cases (show v = Value.bool b from rx)
    exact wpAny_isNot_self rfl ⟨.bl false, H, I, rfl, by simpa using q⟩
  · refine wpAny_isNot_other ?_ ?_ ⟨.bl true, H, I, rfl, by simpa [e] using q⟩
    · cases x <;> first
        | (cases rx; rfl)
        | (obtain ⟨t, rfl⟩ := rx; rfl)
    · rintro rfl
      cases x <;> first
        | (cases rx; done)
        | (obtain ⟨t, z⟩ := rx; cases z; done)
        | (cases rx; exact e rfl)

/-! ### a text times a number -/
theorem op_mulS {X : Cx} : OpR X (binaryOp .Mult) (fun x y H Q => ∃ z i, x = .str z ∧ y = .int i ∧ z.length ≤ 1 ∧ 0 ≤ i ∧ i ≤ 100000 ∧ Q (.str (Txt.mul z i)) H) := by
  intro pins s σ H x y v u Q I rx ry h
  obtain ⟨z, i, rfl, rfl, hz, h0, h1, q⟩ := h
  obtain ⟨t, rfl⟩ := rx
  obtain ⟨t2, rfl⟩ := ry
  refine SB.mul ⟨?_, ?_, ?_⟩ fun t' k => ⟨.str _, H, I.tok _, ⟨_, rfl⟩, q⟩
  · have a : ¬ i < -(2 ^ 63 : Int) := by omega
    have b : ¬ i ≥ 2 ^ 63 := by omega
    simp [a, b]
    omega
  · intro h2 _
    have : (2 : Int) ^ 63 - 1 = 9223372036854775807 := by decide
    rw [this]
    have c : (1 : Int) ≤ 9223372036854775807 / i := by
      apply Int.le_ediv_of_mul_le (by omega); omega
    omega
  · intro h2 _
    unfold Builtin.Str.tooLong
    have e := sizeLine_eq
    have : z.length * i.toNat ≤ 1 * i.toNat := Nat.mul_le_mul_right _ hz
    first
      | (simp only [decide_eq_false_iff_not]; omega)
      | (simp; omega)

/-! ### a def that is called where no walk over data is under way (no guard) -/
structure FnG (P : Program) (w : World) (K : PySem.W.Frag) (mg : Str → Option Value) (base : Heap) (CX : CXT) (k : Nat) (f : Addr) (fd : FuncData) (ps : List Str) (sp : Sp) : Prop where
  len : ∀ vs H Q E, sp vs H Q E → vs.length = ps.length
  run : ∀ (A : Around) (outer : List Env) (s : Shared) (H : Hp) (args : Args) (us : List Value) (vs : List V) (Q : VK) (E : XK),
    Room k A → A.guards = some [] → Env0 P w K mg base A outer s H → BindsTo s fd args (ps.zip us) → Vals vs us → sp vs H Q E →
    codeAny (model P w) A (.call (.ref f) args) (CR CX outer P w H s Q E) s

section
variable {P : Program} {w : World} {K : PySem.W.Frag} {mg : Str → Option Value} {base : Heap} {CX : CXT} {k : Nat} {f : Addr} {fd : FuncData} {ps : List Str} {sp : Sp}
theorem FnG.of (F : FnOk P w K mg base CX k f fd ps sp) : FnG P w K mg base CX k f fd ps sp :=
  ⟨F.len, fun A outer s H args us vs Q E hr _ => F.run A outer s H args us vs Q E hr⟩
/-- a def by its body, which knows that nothing guards -/
theorem Fun.okG {x qual : Str} {st : Stmt} {N : List Str} (F : Fun K x qual st f fd) (S : FnScope N ps (defScope st)) (len : ∀ vs H Q E, sp vs H Q E → vs.length = ps.length)
    (body : ∀ (cdv : Value) (A : Around) (outer : List Env) (s : Shared) (H : Hp) (vs : List V) (Q : VK) (E : XK), Room k (A.deeper (envOfC qual (defScope st) s.heap.objs.size f cdv)) →
      A.guards = some [] → sp vs H Q E → ∃ t, PSs (cxOf CX0 P w K mg base N qual (defScope st) f cdv A outer s H E).nox (defBody st) t ∧ t { nx := fun _ H' => Q .non H', rt := Q } (start N vs) H) :
    FnG P w K mg base CX0 (k + 1) f fd ps sp := by
  obtain ⟨oc, od, kV, doc, pm, an, cdv, ct, osl, rfl, lk, hcd⟩ := F.ex
  refine ⟨len, ?_⟩
  intro A outer s H args us vs Q E room gd e0 bnd rel want
  have size := len vs H Q E want
  have inK : K.In s.heap := e0.mod.kin.keeps fun b o z => And.left (e0.bs b o z)
  have room0 : s.heap.NoLimit := e0.mod.nolimit.keeps fun b o z => And.left (e0.bs b o z)
  have slots : ∀ y ∈ ps.zip us, (defScope st).names.lookup y.1 = some .local ∨ ((defScope st).names.lookup y.1 = some .cell ∧
      ((cellsFrom (s.heap.objs.size + 1) (defScope st).names []).lookup y.1).isSome = true) := by
    rintro ⟨n, v⟩ z
    refine (S.par n (List.of_mem_zip z).1).imp id fun c => ⟨c, ?_⟩
    exact PySem.W.cellsFrom_some _ _ _ (.inl c)
  refine codeAny_call_function room.depth (inK _ _ lk) rfl S.co S.gen rfl (PySem.W.codeRec_of inK hcd) (bnd _ _ _ _ ?_)
  refine wpAny_newFunctionEnv_cells S.kind slots ?_
  rintro env rfl s1 x
  refine ⟨room0.keeps x.toInCall.keep, codeAny_func ?_⟩
  obtain ⟨t, walk, say⟩ := body cdv A outer s H vs Q E (room.deeper _) gd want
  have I := inv_start (CX := CX0) (E := E) S room.hd e0 size rel x
  refine wpAny_mono (walk.nox.run [] s1 (start N vs) H _ I say) (fun r s' z => ?_) (fun _ _ z => z)
  have last : ∀ {τ : L2.St} {G : Hp} {v : V} {u : Value}, Inv (cxOf CX0 P w K mg base N qual (defScope st) f cdv A outer s H E) [] τ G s' →
      RelV v u → Q v G → CE outer P w H s Q u s' := fun J r q => ⟨_, _, J.os, J.bare, J.base, J.hok, r, q⟩
  match r, z with
  | .ret u, z =>
    obtain ⟨v, τ, G, J, r1, q⟩ := z
    exact last J r1 q
  | .next, z =>
    obtain ⟨τ, G, J, q⟩ := z
    exact last (v := .non) (u := .none) J rfl q
  | .brk, z =>
    obtain ⟨τ, G, J, q⟩ := z
    exact q.elim
  | .cont, z =>
    obtain ⟨τ, G, J, q⟩ := z
    exact q.elim
end
section
variable {X : Cx} {CX : CXT} {k : Nat} {f : Addr} {fd : FuncData} {ps : List Str} {sp : Sp} {dvs : List V} {ds : List Value} {E : XK} {x : Str} {p pos : Pos} {e : Expr} {es : List Expr} {t : TA}
theorem run_fnG {pins : List (Addr × Obj)} {σ : L2.St} {H : Hp} {s : Shared} {Q : VK} {us : List Value} {vs : List V} (F : FnG X.prog X.w X.K X.mg X.base CX k f fd ps sp) (room : Room k X.A) (gd : X.A.guards = some [])
    (hb : Binds X.K fd ps ds) (hd : Vals dvs ds) (hx : Passes CX X E) (I : Inv X pins σ H s) (r : Vals vs us) (h : sp (vs ++ dvs) H Q E) : wpAny (model X.prog X.w) X.A (call (.ref f) us) (EP X pins σ Q) X.xe s := by
  have rel := r.append hd
  have size : (us ++ ds).length = ps.length := rel.length.symm.trans (F.len _ _ _ _ h)
  refine wpAny_call (codeAny_mono (F.run X.A X.stack s H ⟨us, []⟩ _ _ Q E room gd I.env0 (hb s us I.kIn size) rel h) ?_)
  intro r s' z
  match r, z with
  | .error e, z => exact hx pins σ H s e s' I z
  | .ok (.ret u), z => exact I.after z
  | .ok .next, z => exact z.elim
  | .ok .brk, z => exact z.elim
  | .ok .cont, z => exact z.elim
theorem pe_callG (F : FnG X.prog X.w X.K X.mg X.base CX k f fd ps sp) (room : Room k X.A) (gd : X.A.guards = some []) (hg : Gl X x) (hm : X.mg x = some (.ref f)) (hk : PySem.W.keepIn X.K (.ref f) = true)
    (hb : Binds X.K fd ps ds) (hd : Vals dvs ds) (hx : Passes CX X E) (ha : PA X (e :: es) t) (hdb : (x == ("__debug__" : Str)) = false := by decide)
    (he : starEach (e :: es) X.env = (false, eval e X.env) :: starEach es X.env := by rfl) (hpl : (backTo pos (starEach es X.env)).any (·.1) = false := by rfl) :
    PE X (.Call (.Name x p) (e :: es) [] pos) (tCall sp dvs E t) := by
  constructor
  intro pins s σ H Q I h
  refine wpAny_Call_Name_kw (ld_glob I hg hm ?_ hdb)
  refine PySem.W.callWith_K (h₀ := X.base) I.ok.mod.kin hk (thn (ha.run pos pins s σ H _ I h) ?_) he hpl
  rintro us s1 ⟨vs, H1, I1, r, q⟩
  exact ⟨I1.kIn, run_fnG F room gd hb hd hx I1 r q⟩
end
end Own
namespace Own
open PySem PySem.Spec PyProof.Rows L2
/-! ### a def of the top, with all that its callers want -/
structure Cal (P : Program) (w : World) (K : PySem.W.Frag) (mg : Str → Option Value) (base : Heap) (k : Nat) (x : Str) (ps : List Str) (sp : Sp) : Prop where
  ex : ∃ f fd, FnOk P w K mg base CX0 k f fd ps sp ∧ mg x = some (.ref f) ∧ PySem.W.keepIn K (.ref f) = true ∧ Binds K fd ps []
structure CalG (P : Program) (w : World) (K : PySem.W.Frag) (mg : Str → Option Value) (base : Heap) (k : Nat) (x : Str) (ps : List Str) (sp : Sp) : Prop where
  ex : ∃ f fd, FnG P w K mg base CX0 k f fd ps sp ∧ mg x = some (.ref f) ∧ PySem.W.keepIn K (.ref f) = true ∧ Binds K fd ps []
/-- the same, called by keywords alone -/
structure CalK (P : Program) (w : World) (K : PySem.W.Frag) (mg : Str → Option Value) (base : Heap) (k : Nat) (x : Str) (ps ks : List Str) (gV : List V → List V) (sp : Sp) : Prop where
  ex : ∃ f fd g, FnOk P w K mg base CX0 k f fd ps sp ∧ mg x = some (.ref f) ∧ PySem.W.keepIn K (.ref f) = true ∧ KBn K fd ps 0 ks g (fun _ zs => gV zs)
section
variable {X : Cx} {k : Nat} {x : Str} {ps ks : List Str} {sp : Sp} {p pos : Pos} {e : Expr} {es : List Expr} {kws : List Keyword} {t tk : TA} {gV : List V → List V}
theorem pe_cal (C : Cal X.prog X.w X.K X.mg X.base k x ps sp) (room : Room k X.A) (ha : PA X (e :: es) t) (hg : Gl X x := by rfl) (hdb : (x == ("__debug__" : Str)) = false := by decide)
    (he : starEach (e :: es) X.env = (false, eval e X.env) :: starEach es X.env := by rfl) (hpl : (backTo pos (starEach es X.env)).any (·.1) = false := by rfl) :
    PE X (.Call (.Name x p) (e :: es) [] pos) (tCall sp [] E0 t) := by
  obtain ⟨f, fd, F, m, kp, b⟩ := C.ex
  exact pe_call F room hg m kp b .nil pass0 ha hdb he hpl
theorem pe_cal0 (C : Cal X.prog X.w X.K X.mg X.base k x ps sp) (room : Room k X.A) (hg : Gl X x := by rfl) (hdb : (x == ("__debug__" : Str)) = false := by decide) :
    PE X (.Call (.Name x p) [] [] pos) (tCall sp [] E0 tNil) := by
  obtain ⟨f, fd, F, m, kp, b⟩ := C.ex
  exact pe_call0 F room hg m kp b .nil pass0 hdb
theorem pe_calG (C : CalG X.prog X.w X.K X.mg X.base k x ps sp) (room : Room k X.A) (gd : X.A.guards = some []) (ha : PA X (e :: es) t) (hg : Gl X x := by rfl) (hdb : (x == ("__debug__" : Str)) = false := by decide)
    (he : starEach (e :: es) X.env = (false, eval e X.env) :: starEach es X.env := by rfl) (hpl : (backTo pos (starEach es X.env)).any (·.1) = false := by rfl) :
    PE X (.Call (.Name x p) (e :: es) [] pos) (tCall sp [] E0 t) := by
  obtain ⟨f, fd, F, m, kp, b⟩ := C.ex
  exact pe_callG F room gd hg m kp b .nil pass0 ha hdb he hpl
/-- f(k = v, ..) -/
def tKw (m : Nat) (sp : Sp) (gV : List V → List V) (tk : TA) : TE := fun σ H Q => tk σ H fun zs H2 => zs.length = m ∧ sp (gV zs) H2 Q E0
theorem pe_calK (C : CalK X.prog X.w X.K X.mg X.base k x ps ks gV sp) (room : Room k X.A) (hkw : PK X kws tk) (hg : Gl X x := by rfl) (hall : (backToKw pos (keywordEach kws X.env)).all (·.1.isSome) = true := by rfl)
    (hks : (backToKw pos (keywordEach kws X.env)).filterMap (·.1) = ks := by rfl) (hdb : (x == ("__debug__" : Str)) = false := by decide)
    (hpl : ((backTo pos (starEach [] X.env)).any (·.1) || (backToKw pos (keywordEach kws X.env)).any (·.1.isNone)) = false := by rfl) :
    PE X (.Call (.Name x p) [] kws pos) (tKw ks.length sp gV tk) := by
  obtain ⟨f, fd, g, F, m, kp, b⟩ := C.ex
  constructor
  intro pins s σ H Q I h
  refine wpAny_Call_Name_kw (ld_glob I hg m ?_ hdb)
  refine PySem.W.callWith_KW0 (h₀ := X.base) I.ok.mod.kin kp hall (thn (hkw.run pos pins s σ H _ I h) ?_) hpl
  rintro ws s2 ⟨zs, H2, I2, rz, l, q⟩
  refine ⟨I2.kIn, ?_⟩
  rw [hks]
  exact run_fnN (vs := []) (us := []) F room b pass0 I2 .nil rz rfl l q
end
theorem Fun.kb {K : PySem.W.Frag} {x qual : Str} {st : Stmt} {f : Addr} {fd : FuncData} {ps ks : List Str} (F : Fun K x qual st f fd) (g : {α : Type} → List α → List α)
    (rel : ∀ {zs : List V} {ws : List Value}, Vals zs ws → Vals (g zs) (g ws))
    (h : ∀ (kV doc pm : Value) (an : Option Addr) (cdv ct : Value) (ws : List Value), ws.length = ks.length → bindArgs (PySem.W.fnOf x qual (defArgs st) (defBody st) (defScope st) .none kV doc pm an cdv ct) ⟨[], ks.zip ws⟩ = pure (ps.zip (g ws))) :
    KBn K fd ps 0 ks (fun _ ws => g ws) (fun _ zs => g zs) := by
  obtain ⟨oc, od, kV, doc, pm, an, cdv, ct, osl, rfl, lk, hcd⟩ := F.ex
  refine ⟨fun s us ws _ l1 l2 => ?_, fun _ r => rel r⟩
  cases List.length_eq_zero_iff.mp l1
  exact .of_eq (h kV doc pm an cdv ct ws l2)
/-- a number that stands at the top -/
theorem pe_gi {X : Cx} {x : Str} {i : Int} {pos : Pos} (h : ∃ t, X.mg x = some (.int i t)) (hg : Gl X x := by rfl) (hd : (x == ("__debug__" : Str)) = false := by decide) : PE X (.Name x pos) (tC (.int i)) := by
  obtain ⟨t, e⟩ := h
  exact pe_glob hg e ⟨t, rfl⟩ hd
/-- a built-in class as a value -/
theorem pe_ty {X : Cx} {x : Str} {n : String} {pos : Pos} (hm : X.mg x = none) (hv : bootBuiltins x = some (.type n)) (hg : Gl X x := by rfl) (hn : x ≠ "__name__" := by decide) (hd : (x == ("__debug__" : Str)) = false := by decide) : PE X (.Name x pos) (tC (.ty n)) :=
  pe_bltn hg hm hv rfl hn hd
/-! ### heaps -/
theorem same_new {H : Hp} {p : Addr} {o : HO} (h : H p = none) : Same H (upd H p o) := fun b u e => by
  rw [upd_ne (ne_of_none e h)]
  exact e
theorem same_mut {H H' : Hp} {p : Addr} {o : HO} (s : Same H H') (h : H p = none) : Same H (upd H' p o) := fun b u e => by
  rw [upd_ne (ne_of_none e h)]
  exact s b u e
theorem take_map_succ {α β : Type} {xs : List α} {i : Nat} {x : α} (f : α → β) (h : xs[i]? = some x) : (xs.take (i + 1)).map f = (xs.take i).map f ++ [f x] := by
  rw [List.take_succ, h, List.map_append]
  rfl
/-! ### the drawing list [cells, turn, rest] -/
/-- all but p stays -/
def But (p : Addr) (H H' : Hp) : Prop := ∀ b o, b ≠ p → H b = some o → H' b = some o
theorem But.refl (p : Addr) (H : Hp) : But p H H := fun _ _ _ h => h
theorem But.trans {p : Addr} {H H1 H2 : Hp} (a : But p H H1) (b : But p H1 H2) : But p H H2 := fun c o n h => b c o n (a c o n h)
theorem Same.but {p : Addr} {H H' : Hp} (s : Same H H') : But p H H' := fun b o _ h => s b o h
theorem But.upd {p : Addr} {H H' : Hp} {o : HO} (b : But p H H') : But p H (upd H' p o) := fun c u n h => by
  rw [upd_ne n]
  exact b c u n h
theorem But.new {p q : Addr} {H H' : Hp} {o : HO} (b : But p H H') (h : H' q = none) : But p H (L2.upd H' q o) := fun c u n e => by
  have z := b c u n e
  rw [upd_ne (ne_of_none z h)]
  exact z
/-- the list at p: the cells at q, how often was drawn (n at most), what is left of a great cell -/
def Sv (p q : Addr) (cs : List Int) (n : Nat) (H : Hp) : Prop :=
  ∃ at_ rest : Int, H p = some (.lst [.ref q, .int at_, .int rest]) ∧ H q = some (.lst (cs.map V.int)) ∧ p ≠ q ∧ 0 ≤ at_ ∧ at_ ≤ n ∧ 0 ≤ rest
theorem Sv.mono {p q : Addr} {cs : List Int} {n m : Nat} {H : Hp} (h : Sv p q cs n H) (le : n ≤ m) : Sv p q cs m H := by
  obtain ⟨a, r, h1, h2, h3, h4, h5, h6⟩ := h
  exact ⟨a, r, h1, h2, h3, h4, by omega, h6⟩
theorem Sv.same {p q : Addr} {cs : List Int} {n : Nat} {H H' : Hp} (h : Sv p q cs n H) (s : Same H H') : Sv p q cs n H' := by
  obtain ⟨a, r, h1, h2, h3⟩ := h
  exact ⟨a, r, s _ _ h1, s _ _ h2, h3⟩
theorem dp_ints {K : PySem.W.Frag} {H : Hp} : ∀ cs : List Int, DpAll K H (cs.map V.int) (cs.map PyData.int)
  | [] => .nil
  | c :: cs => .cons (.int c) (dp_ints cs)
theorem lay_ints : ∀ cs : List Int, PyData.canLayAll0 (cs.map PyData.int) = true
  | [] => by simp [PyData.canLayAll0]
  | c :: cs => by simp [PyData.canLayAll0, PyData.canLay0, lay_ints cs]
theorem dep_ints : ∀ cs : List Int, PyData.depthAll (cs.map PyData.int) = 0
  | [] => by simp [PyData.depthAll]
  | c :: cs => by simp [PyData.depthAll, PyData.depth, dep_ints cs]
theorem shaped_ints (cs : List Int) : SeqAt.shaped (.list (cs.map PyData.int)) = true := by
  simp [SeqAt.shaped, PyData.canLay0, PyData.depth, lay_ints, dep_ints]
theorem shaped_nil : SeqAt.shaped (.list []) = true := by
  simp [SeqAt.shaped, PyData.canLay0, PyData.depth, PyData.canLayAll0, PyData.depthAll]
theorem eqv_nil (ds : List PyData) : PyData.eqv (.list ds) (.list []) = ds.isEmpty := by
  cases ds <;> simp [PyData.eqv, PyData.eqvAll]
theorem hu1 {k : Nat} {A : Around} (hr : Room k A) : A.units < cLine := by
  have := hr.un
  omega
theorem hu64 {k : Nat} {A : Around} (hr : Room k A) : A.units + 64 < cLine := by
  have := hr.un
  omega
def spSift : Sp := fun vs H Q _ => ∃ (p q : Addr) (cs : List Int) (n : Nat) (m : Int), vs = [.ref p, .int m] ∧ 0 < m ∧ m < 1073741824 ∧ n ≤ 100000 ∧ cs.length ≤ 1000 ∧ Sv p q cs n H ∧
  ∀ r H', 0 ≤ r → r < m → But p H H' → Sv p q cs (n + 1) H' → Q (.int r) H'
theorem mulb {x y a b : Int} (x0 : 0 ≤ x) (xa : x ≤ a) (y0 : 0 ≤ y) (yb : y ≤ b) : 0 ≤ x * y ∧ x * y ≤ a * b :=
  ⟨Int.mul_nonneg x0 y0, Int.mul_le_mul xa yb y0 (Int.le_trans x0 xa)⟩
theorem cpow_of {i j : Int} (h0 : 0 ≤ j) (h1 : j ≤ 1000000) (a : -(2 ^ 64) < i) (b : i < 2 ^ 64) : CPow i j := ⟨h0, h1, by omega⟩
/-- some[draw], some a list that stands apart -/
def spOne : Sp := fun vs H Q _ => ∃ (p q : Addr) (cs : List Int) (n : Nat) (s : Addr) (xs : List V), vs = [.ref p, .ref s] ∧ H s = some (.lst xs) ∧ s ≠ p ∧ 0 < xs.length ∧ xs.length ≤ 1000 ∧ n ≤ 100000 ∧ cs.length ≤ 1000 ∧ Sv p q cs n H ∧
  ∀ x H', x ∈ xs → But p H H' → Sv p q cs (n + 1) H' → Q x H'
def spSieve (K : PySem.W.Frag) : Sp := fun vs H Q _ => ∃ (a : Addr) (ns : List Int), vs = [.ref a] ∧ SqL K H a (ns.map V.int) ∧
  ∀ p q cs H', H p = none → Same H H' → cs.length ≤ 63 → Sv p q cs 0 H' → Q (.ref p) H'
theorem map_mem_cut {ns : List Int} {lo hi : Option Int} : ∃ cs : List Int, cutV (ns.map V.int) lo hi = cs.map V.int ∧ cs.length ≤ ns.length := by
  refine ⟨(ns.drop (HT.sIx (ns.map V.int).length 0 lo)).take (HT.sIx (ns.map V.int).length (ns.map V.int).length hi - HT.sIx (ns.map V.int).length 0 lo), ?_, ?_⟩
  · unfold cutV
    rw [← List.map_drop, ← List.map_take]
  · rw [List.length_take, List.length_drop]
    omega
theorem cut_len {ns : List Int} {k : Nat} : (cutV (ns.map V.int) none (some (k : Int))).length ≤ k := by
  unfold cutV
  rw [List.length_take]
  have : HT.sIx (ns.map V.int).length (ns.map V.int).length (some (k : Int)) ≤ k := by
    unfold HT.sIx
    simp only []
    split <;> omega
  omega
/-! ### what is drawn by an expression: from any heap in which n was drawn at most, a value of which R holds, m drawn at most -/
def Dr (p q : Addr) (cs : List Int) (te : TE) (σ : L2.St) (n m : Nat) (H : Hp) (R : Hp → V → Prop) : Prop :=
  ∀ H1, But p H H1 → Sv p q cs n H1 → ∀ Q : VK, (∀ v H2, But p H1 H2 → Sv p q cs m H2 → R H2 v → Q v H2) → te σ H1 Q
def DrA (p q : Addr) (cs : List Int) (ta : TA) (σ : L2.St) (n m : Nat) (H : Hp) (k : Nat) (R : Hp → V → Prop) : Prop :=
  ∀ H1, But p H H1 → Sv p q cs n H1 → ∀ Q : List V → Hp → Prop, (∀ vs H2, But p H1 H2 → Sv p q cs m H2 → vs.length = k → (∀ v ∈ vs, R H2 v) → Q vs H2) → ta σ H1 Q
def Stb (p : Addr) (R : Hp → V → Prop) : Prop := ∀ H H' v, But p H H' → R H v → R H' v
section
variable {p q : Addr} {cs : List Int} {te tr ta tb : TE} {ts : TA} {σ : L2.St} {n m l : Nat} {H : Hp} {k : Nat} {R Ra Rb : Hp → V → Prop}
theorem Dr.imp (h : Dr p q cs te σ n m H Ra) (f : ∀ H v, Ra H v → R H v) : Dr p q cs te σ n m H R := fun H1 b s Q q => h H1 b s Q fun v H2 b2 s2 r => q v H2 b2 s2 (f _ _ r)
theorem DrA.nil : DrA p q cs tNil σ n n H 0 R := fun H1 b s Q q => q [] H1 (But.refl _ _) s rfl (fun v hv => by cases hv)
theorem DrA.cons (st : Stb p R) (h : Dr p q cs te σ n m H R) (t : DrA p q cs ts σ m l H k R) : DrA p q cs (tCons te ts) σ n l H (k + 1) R := fun H1 b s Q q =>
  h H1 b s _ fun v H2 b2 s2 r => t H2 (b.trans b2) s2 _ fun vs H3 b3 s3 lv rs => q (v :: vs) H3 (b2.trans b3) s3 (by rw [List.length_cons, lv]) fun u hu => by
    rcases List.mem_cons.mp hu with e | e
    · subst e
      exact st _ _ _ b3 r
    · exact rs u e
theorem dr_c {v : V} (h : ∀ H1, But p H H1 → R H1 v) : Dr p q cs (tC v) σ n n H R := fun H1 b s Q q => q v H1 (But.refl _ _) s (h H1 b)
theorem dr_v {i : Nat} {v : V} (e : σ[i]? = some (some v)) (h : ∀ H1, But p H H1 → R H1 v) : Dr p q cs (tVar i) σ n n H R := fun H1 b s Q q => ⟨v, e, q v H1 (But.refl _ _) s (h H1 b)⟩
theorem sv_ne {H1 : Hp} {a : Addr} (s : Sv p q cs n H1) (h : H1 a = none) : a ≠ p := by
  obtain ⟨_, _, h1, _⟩ := s
  exact (ne_of_none h1 h).symm
theorem dr_lst (h : DrA p q cs ts σ n m H k Ra) (st : Stb p Ra) (hk : k ≤ 1000) (f : ∀ a xs H1, H1 a = some (.lst xs) → a ≠ p → xs.length = k → (∀ x ∈ xs, Ra H1 x) → R H1 (.ref a)) : Dr p q cs (tLst ts) σ n m H R := fun H1 b s Q q =>
  h H1 b s _ fun vs H2 b2 s2 lv rs => ⟨by rw [lv]; exact Nat.le_trans hk (by decide), fun a ha => q _ _ (b2.new ha) (s2.same (same_new ha)) (f a vs _ upd_same (sv_ne s2 ha) lv fun x hx => st _ _ _ (Same.but (same_new ha)) (rs x hx))⟩
theorem dr_tup (h : DrA p q cs ts σ n m H k Ra) (st : Stb p Ra) (hk : k ≤ 1000) (f : ∀ a xs H1, H1 a = some (.tup xs) → a ≠ p → xs.length = k → (∀ x ∈ xs, Ra H1 x) → R H1 (.ref a)) : Dr p q cs (tTup ts) σ n m H R := fun H1 b s Q q =>
  h H1 b s _ fun vs H2 b2 s2 lv rs => ⟨by rw [lv]; exact Nat.le_trans hk (by decide), fun a ha => q _ _ (b2.new ha) (s2.same (same_new ha)) (f a vs _ upd_same (sv_ne s2 ha) lv fun x hx => st _ _ _ (Same.but (same_new ha)) (rs x hx))⟩
theorem dr_op {r : R2} (st : Stb p Ra) (ha : Dr p q cs ta σ n m H Ra) (hb : Dr p q cs tb σ m l H Rb) (hr : ∀ x y H1, Ra H1 x → Rb H1 y → ∀ Q : VK, (∀ v, R H1 v → Q v H1) → r x y H1 Q) : Dr p q cs (tOp r ta tb) σ n l H R := fun H1 b s Q q =>
  ha H1 b s _ fun x H2 b2 s2 r1 => hb H2 (b.trans b2) s2 _ fun y H3 b3 s3 r2 => hr x y H3 (st _ _ _ b3 r1) r2 Q fun v rv => q v H3 (b2.trans b3) s3 rv
theorem dr_un {r : V → Hp → VK → Prop} (ha : Dr p q cs ta σ n m H Ra) (hr : ∀ x H1, Ra H1 x → ∀ Q : VK, (∀ v, R H1 v → Q v H1) → r x H1 Q) : Dr p q cs (tUn r ta) σ n m H R := fun H1 b s Q q =>
  ha H1 b s _ fun x H2 b2 s2 r1 => hr x H2 r1 Q fun v rv => q v H2 b2 s2 rv
theorem dr_cb {r : List V → Hp → VK → Prop} (ha : Dr p q cs ta σ n m H Ra) (hr : ∀ x H1, Ra H1 x → ∀ Q : VK, (∀ v, R H1 v → Q v H1) → r [x] H1 Q) : Dr p q cs (tCB r (tCons ta tNil)) σ n m H R := fun H1 b s Q q =>
  ha H1 b s _ fun x H2 b2 s2 r1 => hr x H2 r1 Q fun v rv => q v H2 b2 s2 rv
theorem dr_sift {tm : TE} {z : Int} {j : Nat} (e : σ[j]? = some (some (.ref p))) (hm : Dr p q cs tm σ n n H fun _ v => v = .int z) (h0 : 0 < z) (h1 : z < 1073741824) (hn : n ≤ 100000) (hc : cs.length ≤ 1000) :
    Dr p q cs (tCall spSift [] E0 (tCons (tVar j) (tCons tm tNil))) σ n (n + 1) H fun _ v => ∃ r, v = .int r ∧ 0 ≤ r ∧ r < z := fun H1 b s Q k =>
  ⟨_, e, hm H1 b s _ fun v H2 b2 s2 ev => by
    subst ev
    exact ⟨p, q, cs, n, z, rfl, h0, h1, hn, hc, s2, fun r H3 r0 r1 b3 s3 => k _ _ (b2.trans b3) s3 ⟨r, rfl, r0, r1⟩⟩⟩
theorem dr_one {tl : TE} {j : Nat} (e : σ[j]? = some (some (.ref p))) (hl : Dr p q cs tl σ n m H fun H1 v => ∃ a xs, v = .ref a ∧ H1 a = some (.lst xs) ∧ a ≠ p ∧ xs.length = k ∧ ∀ x ∈ xs, R H1 x) (st : Stb p R) (h0 : 0 < k) (h1 : k ≤ 1000) (hn : m ≤ 100000) (hc : cs.length ≤ 1000) :
    Dr p q cs (tCall spOne [] E0 (tCons (tVar j) (tCons tl tNil))) σ n (m + 1) H R := fun H1 b s Q f =>
  ⟨_, e, hl H1 b s _ fun v H2 b2 s2 ev => by
    obtain ⟨a, xs, rfl, ha, hap, hx, hr⟩ := ev
    exact ⟨p, q, cs, m, a, xs, rfl, ha, hap, by omega, by omega, hn, hc, s2, fun x H3 hx b3 s3 => f _ _ (b2.trans b3) s3 (st _ _ _ b3 (hr x hx))⟩⟩
/-- a list of such, as a value -/
theorem dr_lstR (h : DrA p q cs ts σ n m H k R) (st : Stb p R) (hk : k ≤ 1000) : Dr p q cs (tLst ts) σ n m H fun H1 v => ∃ a xs, v = .ref a ∧ H1 a = some (.lst xs) ∧ a ≠ p ∧ xs.length = k ∧ ∀ x ∈ xs, R H1 x :=
  dr_lst h st hk fun a xs H1 e n l r => ⟨a, xs, rfl, e, n, l, r⟩
theorem dr_set {u : TS} {D : Ends} {i : Nat} (h : Dr p q cs te σ n m H R) (s : Sv p q cs n H) (f : ∀ v H2, But p H H2 → Sv p q cs m H2 → R H2 v → u D (σ.set i (some v)) H2) : tSeq (tAsg te (gName i)) u D σ H :=
  h H (But.refl _ _) s _ f
theorem dr_ret {D : Ends} (h : Dr p q cs te σ n m H R) (s : Sv p q cs n H) (f : ∀ v H2, But p H H2 → Sv p q cs m H2 → R H2 v → D.rt v H2) : tRet te D σ H :=
  h H (But.refl _ _) s _ f
end
/-! ### a list against the empty one; what is walked, of one or another kind; the signs of a text -/
theorem op_eqNil {X : Cx} (hu : X.A.units < cLine) : OpR X (compareOp .Eq) (fun x y H Q => ∃ a b xs, x = .ref a ∧ y = .ref b ∧ H a = some (.lst xs) ∧ H b = some (.lst []) ∧ Q (.bl xs.isEmpty) H) := by
  intro pins s σ H x y v u Q I rx ry h
  obtain ⟨a, b, xs, rfl, rfl, ha, hb, q⟩ := h
  cases (show v = Value.ref a from rx)
  cases (show u = Value.ref b from ry)
  obtain ⟨its, rv, pa, _⟩ := I.list (SqL.of ha)
  obtain ⟨jts, rw_, pb, _⟩ := I.list (SqL.of hb)
  cases rw_
  have e := rv.length
  cases xs with
  | nil =>
    have e2 : its.toArray.size = ([] : List Value).toArray.size := by simpa using e.symm
    refine SeqAt.eq_listAt (e := fun _ => true) pa.isList pb.isList e2 hu (fun j h1 h2 => absurd h2 (by simp)) ?_
    refine ⟨.bl true, H, I, ?_, q⟩
    show Value.bool _ = Value.bool true
    congr 1
    simp
  | cons x xs =>
    refine SeqAt.eq_list_lengthsAt pa.isList pb.isList ?_ hu ⟨.bl false, H, I, rfl, q⟩
    have : its.length = xs.length + 1 := by rw [← e, List.length_cons]
    simp [this]
theorem pi_alt {X : Cx} {tg e : Expr} {w1 w2 : TI} (h1 : PI X tg e w1) (h2 : PI X tg e w2) : PI X tg e (fun σ H R => w1 σ H R ∨ w2 σ H R) :=
  ⟨fun pins s σ H R I h => h.elim (h1.run pins s σ H R I) (h2.run pins s σ H R I)⟩
theorem lc_str {z : Str} {g : TG} {tt : TT} {te : TE} {vs : List Nat} {σ : L2.St} {H1 : Hp} {D : Addr} {Qd : Hp → Prop} (Pv : Nat → Hp → Prop) (h0 : Pv 0 (upd H1 D (.lst [])))
    (hs : ∀ i c H, z.cps[i]? = some c → Pv i H → g (.str ⟨#[c]⟩) (wipe σ vs) H fun σ2 H2 => wipe σ2 vs = wipe σ vs ∧ tt σ2 H2 fun b H3 =>
      if b = true then te σ2 H3 fun y H4 => ∃ acc, H4 D = some (.lst acc) ∧ acc.length < sizeLine ∧ Pv (i + 1) (upd H4 D (.lst (acc ++ [y]))) else Pv (i + 1) H3) (hd : ∀ H, Pv z.cps.size H → Qd H) :
    ∃ W : Nat → Nat → Hp → Prop, (∃ m, W 0 m (upd H1 D (.lst []))) ∧ ∀ i m H, W i m H →
      ((Its z).stop i H ∧ Qd H) ∨ ((Its z).go i H ∧ ∃ Nx : Hp → Prop, (∀ H', Nx H' → ∃ m', m' < m ∧ W (i + 1) m' H') ∧ ∀ x H', (Its z).yld i H x H' → g x (wipe σ vs) H' fun σ2 H2 => wipe σ2 vs = wipe σ vs ∧ tt σ2 H2 fun b H3 =>
        if b = true then te σ2 H3 fun y H4 => ∃ acc, H4 D = some (.lst acc) ∧ acc.length < sizeLine ∧ Nx (upd H4 D (.lst (acc ++ [y]))) else Nx H3) := by
  refine ⟨fun i m H => m = z.cps.size - i ∧ i ≤ z.cps.size ∧ Pv i H, ⟨_, rfl, Nat.zero_le _, h0⟩, ?_⟩
  rintro i m H ⟨em, hi, pv_⟩
  subst em
  rcases Nat.lt_or_ge i z.cps.size with lt | ge
  · refine .inr ⟨lt, Pv (i + 1), fun H' pn => ⟨z.cps.size - (i + 1), by omega, rfl, lt, pn⟩, ?_⟩
    rintro x H' ⟨eH, c, hc, ex⟩
    subst eH
    subst ex
    exact hs i c _ hc pv_
  · have : i = z.cps.size := Nat.le_antisymm hi ge
    subst this
    exact .inl ⟨ge, hd _ pv_⟩
/-! ### a text of some signs alone -/
theorem str_empty {z : Str} : z = Str.ofString "" ↔ z.length = 0 := by
  constructor
  · intro h
    subst h
    decide
  · intro h
    obtain ⟨c⟩ := z
    have : c.size = 0 := h
    have e : c = #[] := Array.eq_empty_of_size_eq_zero this
    subst e
    rfl
theorem strip_none (goes : Nat → Bool) (z : Str) : decide (Txt.stripBy goes true true z = Str.ofString "") = z.cps.toList.all goes := by
  obtain ⟨l1, l2, l3⟩ := PyProof.Rows.lo_facts goes z
  obtain ⟨h1, h2, h3, h4⟩ := PyProof.Rows.hi_facts goes z _ l1
  rw [PyProof.Rows.stripBy_eq]
  generalize e1 : PySem.stripLo goes true z = lo at *
  generalize e2 : PySem.stripHi goes true z lo = hi at *
  have len : (Builtin.Str.strSub z lo hi).length = hi - lo := by
    simp only [Builtin.Str.strSub, Str.length, Array.size_extract]
    have : hi ≤ z.cps.size := h2
    omega
  have at_ : ∀ k, k < z.length → z.cps.getD k 0 ∈ z.cps.toList := fun k hk => by
    have hk' : k < z.cps.size := hk
    rw [Array.getD, dif_pos hk']
    exact Array.getElem_mem_toList hk'
  rw [Bool.eq_iff_iff, decide_eq_true_iff, str_empty, len, List.all_eq_true]
  constructor
  · intro e c hc
    obtain ⟨k, hk, rfl⟩ := List.getElem_of_mem hc
    have hk' : k < z.length := by simpa [Str.length] using hk
    have g : goes (z.cps.getD k 0) = true := by
      rcases Nat.lt_or_ge k lo with h | h
      · exact l2 k h
      · exact h3 k (by omega) hk'
    rw [← PyProof.Rows.getD_list] at g
    have e3 : z.cps.toList.getD k 0 = z.cps.toList[k] := by
      rw [List.getD, List.getElem?_eq_getElem hk]
      rfl
    rw [e3] at g
    exact g
  · intro all
    rcases l3 with e | e
    · omega
    · rcases Nat.lt_or_ge lo z.length with h | h
      · rw [all _ (at_ lo h)] at e
        cases e
      · omega
/-- an expression's reading, said in other words -/
theorem pe_imp {X : Cx} {e : Expr} {t t' : TE} (h : PE X e t) (i : ∀ σ H Q, t' σ H Q → t σ H Q) : PE X e t' := ⟨fun pins s σ H Q I q => h.run pins s σ H Q I (i _ _ _ q)⟩
theorem sign0 (c : Nat) : decide (V.str ⟨#[c]⟩ = V.str (Str.ofString "0")) = decide (c = 48) := by
  have : Str.ofString "0" = ⟨#[48]⟩ := by decide
  rw [this]
  simp
theorem sign1 (c : Nat) : decide (V.str ⟨#[c]⟩ = V.str (Str.ofString "1")) = decide (c = 49) := by
  have : Str.ofString "1" = ⟨#[49]⟩ := by decide
  rw [this]
  simp
def badC (c : Nat) : Bool := !decide (c = 48) && !decide (c = 49)
theorem all_signs (l : List Nat) : (l.filter badC).isEmpty = l.all (Str.ofString "01").cps.contains := by
  have e : (Str.ofString "01").cps = #[48, 49] := by decide
  rw [e]
  induction l with
  | nil => rfl
  | cons c l ih =>
    rw [List.all_cons, ← ih, List.filter_cons]
    by_cases h1 : c = 48
    · subst h1; simp [badC]
    · by_cases h2 : c = 49
      · subst h2; simp [badC]
      · simp [badC, h1, h2]
theorem signs_all (z : Str) : decide (Txt.stripChars z (Str.ofString "01") = Str.ofString "") = (z.cps.toList.filter badC).isEmpty := by
  unfold Txt.stripChars
  rw [strip_none, all_signs]
theorem take_filter_no {α β : Type} {xs : List α} {i : Nat} {x : α} {b : α → Bool} (f : α → β) (h : xs[i]? = some x) (hb : b x = false) : ((xs.take (i + 1)).filter b).map f = ((xs.take i).filter b).map f := by
  rw [List.take_succ, h, List.filter_append]
  simp [hb]
theorem take_filter_yes {α β : Type} {xs : List α} {i : Nat} {x : α} {b : α → Bool} (f : α → β) (h : xs[i]? = some x) (hb : b x = true) : ((xs.take (i + 1)).filter b).map f = ((xs.take i).filter b).map f ++ [f x] := by
  rw [List.take_succ, h, List.filter_append]
  simp [hb]
theorem filter_not_empty {α : Type} (xs : List α) (b : α → Bool) : (xs.filter fun x => !b x).isEmpty = xs.all b := by
  induction xs with
  | nil => rfl
  | cons x xs ih =>
    rw [List.all_cons, List.filter_cons, ← ih]
    cases b x <;> simp
theorem seq_set {te : TE} {u : TS} {D : Ends} {i : Nat} {σ : L2.St} {H : Hp} (h : te σ H fun v H1 => u D (σ.set i (some v)) H1) : tSeq (tAsg te (gName i)) u D σ H := h
theorem dr_par {p q : Addr} {cs : List Int} {ts : TA} {σ : L2.St} {n m : Nat} {H : Hp} {R : Hp → V → Prop} {u : TS} {D : Ends} {i j : Nat} (h : DrA p q cs ts σ n m H 2 R) (s : Sv p q cs n H)
    (f : ∀ v w H2, But p H H2 → Sv p q cs m H2 → R H2 v → R H2 w → u D ((σ.set i (some v)).set j (some w)) H2) : tSeq (tPar i j ts) u D σ H := by
  refine h H (But.refl _ _) s _ ?_
  intro vs H2 b sv len r
  match vs, len with
  | [v, w], _ => exact ⟨v, w, rfl, f v w H2 b sv (r v (by simp)) (r w (by simp))⟩
/-- four truths as data -/
def D4 (a b c d : Bool) : PyData := .list [.bool a, .bool b, .bool c, .bool d]
theorem d4_dp {K : PySem.W.Frag} {H : Hp} {p : Addr} {a b c d : Bool} (h : H p = some (.lst [.bl a, .bl b, .bl c, .bl d])) : Dp K H (.ref p) (D4 a b c d) :=
  .lst (SqL.of h) (.cons (.bl a) (.cons (.bl b) (.cons (.bl c) (.cons (.bl d) .nil))))
theorem d4_show : ∀ a b c d : Bool, (D4 a b c d).showable = true ∧ (D4 a b c d).hasDict = false ∧ (D4 a b c d).depth ≤ 60 ∧ (D4 a b c d).shown.length ≤ sizeLine ∧ SeqAt.shaped (D4 a b c d) = true ∧ PyData.eqv (D4 a b c d) (D4 a b c d) = true := by decide +kernel
theorem vals_rev : ∀ {zs : List V} {ws : List Value}, Vals zs ws → Vals zs.reverse ws.reverse
  | _, _, .nil => .nil
  | _, _, .cons r t => by
    rw [List.reverse_cons, List.reverse_cons]
    exact (vals_rev t).append (.cons r .nil)
theorem yes_if {σ : L2.St} {H : Hp} {A B : Hp → Prop} (h : A H) : tYes σ H fun b H3 => if b = true then A H3 else B H3 := by
  show if true = true then A H else B H
  rw [if_pos rfl]
  exact h
theorem But.mut {p D : Addr} {H H' : Hp} {o : HO} (b : But p H H') (h : H D = none) : But p H (L2.upd H' D o) := fun c u n e => by
  rw [upd_ne (ne_of_none e h)]
  exact b c u n e
theorem Sv.but_upd {p q D : Addr} {cs : List Int} {n m : Nat} {H H0 : Hp} {o : HO} (s : Sv p q cs n H) (hD : D ≠ p) (h0 : H0 D = none) (s0 : Sv p q cs m H0) : Sv p q cs n (L2.upd H D o) := by
  obtain ⟨a, r, h1, h2, h3⟩ := s
  obtain ⟨_, _, _, q0, _⟩ := s0
  have hq : q ≠ D := fun e => by
    rw [e, h0] at q0
    cases q0
  exact ⟨a, r, by rw [upd_ne hD.symm]; exact h1, by rw [upd_ne hq]; exact h2, h3⟩
def IsV (u : V) : Hp → V → Prop := fun _ v => v = u
theorem IsV.stb {u : V} {p : Addr} : Stb p (IsV u) := fun _ _ _ _ h => h
section
variable {p q : Addr} {cs : List Int} {σ : L2.St} {n m l : Nat} {H : Hp}
theorem dr_pow {a b : Int} (h : CPow a b) : Dr p q cs (tOp (rI CPow fun i j => .int (i ^ j.toNat)) (tC (.int a)) (tC (.int b))) σ n n H (IsV (.int (a ^ b.toNat))) :=
  dr_op IsV.stb (dr_c (R := IsV (.int a)) fun _ _ => rfl) (dr_c (R := IsV (.int b)) fun _ _ => rfl) fun x y H1 rx ry Q q => ⟨a, b, rx, ry, h, q _ rfl⟩
theorem dr_neg {a : Int} : Dr p q cs (tUn (rU fun i => .int (-i)) (tC (.int a))) σ n n H (IsV (.int (-a))) :=
  dr_un (dr_c (R := IsV (.int a)) fun _ _ => rfl) fun x H1 rx Q q => ⟨a, rx, q _ rfl⟩
theorem dr_addI {ta tb : TE} {a b : Int} (ha : Dr p q cs ta σ n m H (IsV (.int a))) (hb : Dr p q cs tb σ m l H (IsV (.int b))) : Dr p q cs (tOp (rI0 fun i j => .int (i + j)) ta tb) σ n l H (IsV (.int (a + b))) :=
  dr_op IsV.stb ha hb fun x y H1 rx ry Q q => ⟨a, b, rx, ry, q _ rfl⟩
end
end Own
set_option Elab.async false
set_option linter.all false
set_option maxRecDepth 100000
set_option maxHeartbeats 4000000
namespace Own
open PySem PySem.Spec PyProof.Rows L2
theorem law_callG {P : Program} {w : World} {K : PySem.W.Frag} {mg mb : Str → Option Value} {k : Nat} {fa a : Addr} {fd : FuncData} {x : Str} {sp : Sp} {s₁ : Shared} {vs : List Value} {ns : List Int}
    (inK : K.In s₁.heap) (top : s₁.heap.Ns mainGlobals mg) (bi : s₁.heap.Ns builtinsNs mb) (bt : ∀ x : Str, x ≠ "__name__" → mb x = bootBuiltins x) (lim : s₁.heap.NoLimit) (bare : s₁.gens = #[])
    (at_ : s₁.heap.get? a = some { cls := .type "list", data := .seq vs.toArray }) (iv : IntsAre vs ns) (small : ns.length ≤ sizeLine) (room : Room k callerA)
    (F : ∀ base : Heap, K.In base → base.Ns mainGlobals mg → FnG P w K mg base CX0 k fa fd [x] sp) (bnd : ∀ (s : Shared) (u : Value), BindsTo s fd ⟨[u], []⟩ [(x, u)])
    (say : ∀ H : Hp, Only H → SqL K H a (ns.map V.int) → sp [.ref a] H (fun v _ => v = .bl true) fun _ _ _ => False) :
    codeAny (model P w) callerA (.call (.ref fa) ⟨[.ref a], []⟩) (fun r s' => r = .ok (.ret (.bool true)) ∧ OldK s₁.heap s'.heap ∧ s'.os = s₁.os ∧ AllBare s'.gens) s₁ := by
  have rv := vals_ints iv
  have lenV := iv.length
  have main : ∀ H : Hp, Only H → SqL K H a (ns.map V.int) → HOk P w H s₁.heap → (∀ b, H b ≠ none → b = a) → (H a ≠ none → K.lookup a = none) →
      codeAny (model P w) callerA (.call (.ref fa) ⟨[.ref a], []⟩) (fun r s' => r = .ok (.ret (.bool true)) ∧ OldK s₁.heap s'.heap ∧ s'.os = s₁.os ∧ AllBare s'.gens) s₁ := by
    intro H only sq hok just free
    have notA : ∀ {b : Addr} {o : Obj} {es : Array DictEntry} {ep : Nat}, s₁.heap.get? b = some o → o.data = .dict es ep → H b = none := by
      intro b o es ep e d
      by_cases q : H b = none
      · exact q
      · cases just b q
        rw [at_] at e
        cases e
        cases (show Data.seq vs.toArray _ = Data.dict es ep from d)
    have ns_ : ∀ {b : Addr} {m : Str → Option Value}, s₁.heap.Ns b m → (hidT s₁.heap H).Ns b m := by
      rintro b m ⟨o, es, ep, e, d, r⟩
      exact ⟨o, es, ep, hidT_get e (notA e d), d, r⟩
    have k_ : K.In (hidT s₁.heap H) := by
      intro b o e
      refine hidT_get (inK b o e) ?_
      by_cases q : H b = none
      · exact q
      · cases just b q
        rw [free q] at e
        cases e
    obtain ⟨mc, l1, l2⟩ := lim
    have M : Mod K mg (hidT s₁.heap H) := ⟨k_, ns_ top, ⟨mb, ns_ bi, bt⟩, ⟨mc, ns_ l1, l2⟩⟩
    have E0 : Env0 P w K mg (hidT s₁.heap H) callerA [] s₁ H :=
      ⟨rfl, M, fun b o e => of_hidT e, Nat.le_of_eq (hidT_size _ _), trivial, fun b hb => (List.not_mem_nil (show b ∈ ([] : List Addr) from hb)).elim, hok, .of_eq bare⟩
    refine codeAny_mono ((F _ k_ (ns_ top)).run callerA [] s₁ H ⟨[.ref a], []⟩ [.ref a] [.ref a] _ _ room rfl E0 (bnd s₁ (.ref a)) (.cons rfl .nil) (say H only sq)) ?_
    intro r s' h
    match r, h with
    | .error e, h => exact h.elim
    | .ok .next, h => exact h.elim
    | .ok .brk, h => exact h.elim
    | .ok .cont, h => exact h.elim
    | .ok (.ret u), h =>
      obtain ⟨v, G, os, br, un, hk2, r1, q⟩ := h
      cases (show v = V.bl true from q)
      cases (show u = Value.bool true from r1)
      refine ⟨rfl, OldK.of_keep ?_, os, br⟩
      intro b o e
      by_cases q : H b = none
      · exact un.keep b o e q (fun z => (List.not_mem_nil (show b ∈ ([] : List Addr) from z)).elim) (by simp)
      · rcases only b with z | ⟨ob, xs, z⟩
        · exact (q z).elim
        · have y1 := (hok b _ z).1
          have y2 := (hk2 b _ (un.frzs b ob _ z)).1
          rw [e] at y1
          cases y1
          exact y2
  have sz : (ns.map V.int).length ≤ sizeLine := by rw [List.length_map]; exact small
  by_cases hk : K.lookup a = none
  · have T : ∀ b u, (fun b => if b = a then some (HO.frz { cls := .type "list", data := .seq vs.toArray } (.lst (ns.map V.int))) else none) b = some u →
        b = a ∧ u = .frz { cls := .type "list", data := .seq vs.toArray } (.lst (ns.map V.int)) := by
      intro b u z
      by_cases hb : b = a
      · exact ⟨hb, (Option.some.inj ((if_pos hb).symm.trans z)).symm⟩
      · cases (if_neg hb).symm.trans z
    refine main (fun b => if b = a then some (HO.frz { cls := .type "list", data := .seq vs.toArray } (.lst (ns.map V.int))) else none) (fun b => ?_) (.inl (.inr ⟨_, if_pos rfl⟩)) (fun b u z => ?_) (fun b z => ?_) fun _ => hk
    · by_cases hb : b = a
      · exact .inr ⟨_, _, if_pos hb⟩
      · exact .inl (if_neg hb)
    · obtain ⟨rfl, rfl⟩ := T b u z
      exact ⟨at_, sz, vs, _, rv, at_⟩
    · by_cases hb : b = a
      · exact hb
      · exact (z (if_neg hb)).elim
  · obtain ⟨o, ho⟩ := Option.ne_none_iff_exists'.mp hk
    have e := inK a o ho
    rw [at_] at e
    cases e
    exact main (fun _ => none) (fun _ => .inl rfl) (.inr ⟨_, vs.toArray, _, ho, rfl, rfl, rfl, by rw [List.size_toArray, lenV]; exact small, by simpa using rv⟩)
      (fun b u z => by cases (show (none : Option HO) = some u from z)) (fun b z => (z rfl).elim) (fun z => (z rfl).elim)
theorem walk_ofG {l : PySem.W.OpenLaw} {n k : Nat} {q : Program} {loose : List Str} {XP : (Str → Option Value) → Heap → Prop} {YP : World → Heap → Prop} {d : DefRec} {K : Params → PySem.W.Frag} {sp : PySem.W.Frag → Sp} {x : Str}
    (hn : l.most = some n) (hn2 : n ≤ sizeLine) (hdf : d.params.defaults = []) (room : Room k callerA) (hY : ∀ (w : World) (h : Heap), YP w h → (K w.params).In h)
    (F : ∀ (w : World) (mg : Str → Option Value) (fa : Addr) (h : Heap), (K w.params).In h → h.Ns mainGlobals mg → mg d.name = some (.ref fa) →
      ∃ fd : FuncData, (∀ (s : Shared) (u : Value), BindsTo s fd ⟨[u], []⟩ [(x, u)]) ∧
        ∀ base : Heap, (K w.params).In base → base.Ns mainGlobals mg → FnG l.prog w (K w.params) mg base CX0 k fa fd [x] (sp (K w.params)))
    (say : ∀ (K : PySem.W.Frag) (H : Hp) (a : Addr) (ns : List Int), ns.length ≤ n → (∀ z ∈ ns, Builtin.Int.intBits z ≤ 1048576) → Only H → SqL K H a (ns.map V.int) → sp K [.ref a] H (fun v _ => v = .bl true) fun _ _ _ => False) :
    PySem.W.WalkO q loose XP YP l.row.toRowW d [] (fun f vs => PySem.call f vs) := by
  refine Att.attach_callB hn hdf ?_
  intro w s₀ s₁ mg mb fa o pm cd doc a vs ns G Y ho hd hcd hmg hobj iv hlen hbits hg
  have inK := hY w _ Y
  obtain ⟨fd, hb, hF⟩ := F w mg fa _ inK G.T.g hmg
  exact law_callG inK G.T.g G.T.b G.T.builtins G.T.nolimit hg hobj iv (Nat.le_trans hlen hn2) room hF hb (fun H only sq => say _ H a ns hlen hbits only sq)
end Own
set_option Elab.async false
set_option linter.all false
set_option maxRecDepth 100000
set_option maxHeartbeats 4000000
/-! Exceptions of own classes as values: made by place and by name, their fields, what they are. -/
namespace PySem
namespace HandSPX
open PySem.W PySem.Calls PyProof.Rows
section
variable {prog : Program} {w : World} {A : Around} {E : Value → Shared → Prop} {R : Result → Shared → Prop} {h : Heap} {g : Array GenState} {d : Drawn} {t : Nat} {os : OsState} {M : Model}
variable {nm q : Str} {C N : Addr} {bs bm bmB : List Value} {hdct : Bool} {sn : List Str} {sub : List Value} {ab : Bool} {col : Option Bool} {dd : Option Addr} {k0 k1 k2 k3 k5 : Option Value} {B newId initId : String}
theorem own_check_new_kw (F : ExcBaseFacts B newId initId bmB) (hT : ∀ X : String, bm.contains (.type X) = bmB.contains (.type X)) {rest : List Value} {kw : List (Str × Value)} {Q : Unit → Shared → Prop}
    (oC : h.get? C = some (excClassObj nm q C N bs bm hdct sn sub ab col dd k0 k1 k2 k3 k5 newId)) (fin : Q () ⟨h, g, d, t, os⟩) : wpAny M A (checkBuiltinCall newId ⟨.ref C :: rest, kw⟩) Q E ⟨h, g, d, t, os⟩ := by
  have inB : (Value.ref C :: bm).contains (.type B) = true := by
    rw [List.contains_cons, hT, F.hasB]
    exact Bool.or_true _
  have st := F.noStar
  simp only [checkBuiltinCall, F.newKind, F.newSplit, F.newRow]
  repeat (first
    | refine wpAny_loadPart_at oC ?_
    | (refine wpAny_isSubtype_exc oC ?_; rw [inB])
    | refine wpAny_staticBase_exc oC ?_
    | refine wpAny_madeBy_exc oC ?_
    | simp only [bne_self_eq_false, Bool.false_eq_true, if_false]
    | wp_step)
  exact fin
theorem own_new_kw (F : ExcBaseFacts B newId initId bmB) (hT : ∀ X : String, bm.contains (.type X) = bmB.contains (.type X)) {rest : List Value} {kw : List (Str × Value)}
    (oC : h.get? C = some (excClassObj nm q C N bs bm hdct sn sub ab col dd k0 k1 k2 k3 k5 newId))
    (fin : R (.ok (.ret (.ref (h.objs.size + 1)))) ⟨(h.push (W.kdv_tup rest)).push (excO C h.objs.size), g, d, t, os⟩) (few : rest.length ≤ sizeLine) :
    codeAny (model prog w) A (.builtin newId ⟨.ref C :: rest, kw⟩) R ⟨h, g, d, t, os⟩ := by
  have e0 := F.ends
  have inB : (Value.ref C :: bm).contains (.type B) = true := by
    rw [List.contains_cons, hT, F.hasB]
    exact Bool.or_true _
  have inA : (Value.ref C :: bm).contains (.type "AttributeError") = false := by
    rw [List.contains_cons, hT, F.noAttr]
    rfl
  have inN : (Value.ref C :: bm).contains (.type "NameError") = false := by
    rw [List.contains_cons, hT, F.noName]
    rfl
  refine codeAny_builtinAt F.entry ?_
  unfold Builtin.«BaseException.__new__»
  refine wpAt_bind ?_
  show wpAt _ _ _ (stack >>= _) _ _ _
  refine wpAt_bind (wpAt_stack fun p below => wpAt_of_wpAny ?_)
  wp_walk
  refine wpAt_of_wpAny ?_
  rw [F.owner]
  repeat (first
    | with_reducible refine wpAny_madeHere_exc F.canon oC ?_
    | with_reducible refine wpAny_loadPart_at oC ?_
    | (with_reducible refine wpAny_isSubtype_exc oC ?_; first | rw [inB] | rw [inA] | rw [inN])
    | wp_step)
  show R _ _
  rw [Heap.size_push]
  exact fin
theorem own_type_call_kw (F : ExcBaseFacts B newId initId bmB) (hT : ∀ X : String, bm.contains (.type X) = bmB.contains (.type X)) {rest : List Value} {kw : List (Str × Value)} {fI : Addr} {Q : Fin → Shared → Prop}
    (oC : h.get? C = some (excClassObj nm q C N bs bm hdct sn sub ab col dd k0 k1 k2 k3 k5 newId))
    (li : W.Looks (model prog w) h (typeLookup (.ref C) "__init__") (some (.ref fI))) (lb : ∀ self, W.Looks (model prog w) h (bindSpecial (.ref fI) self) (.ref fI, [self])) (few : rest.length ≤ sizeLine)
    (run : codeAny (model prog w) A (.call (.ref fI) ⟨.ref (h.objs.size + 1) :: rest, kw⟩)
      (fun r s' => match r with | .ok (.ret v) => v = .none ∧ Q (.done (.ret (.ref (h.objs.size + 1)))) s' | .ok _ => False | .error e => E e s')
      ⟨(h.push (W.kdv_tup rest)).push (excO C h.objs.size), g, d, t, os⟩) :
    wpAny (model prog w) A (Builtin.«type.__call__» ⟨.ref C :: rest, kw⟩) Q E ⟨h, g, d, t, os⟩ := by
  repeat (first
    | with_reducible refine wpAny_loadPart_at oC ?_
    | with_reducible refine wpAny_madeBy_exc oC ?_
    | wp_step)
  refine codeAny_call_builtin_code (Code.quiet_builtin _ F.quiet) (own_check_new_kw F hT oC ?_)
  refine own_new_kw F hT oC ?_ few
  show wpAny _ _ _ _ _ _
  have kp : ∀ b o, h.get? b = some o → ((h.push (W.kdv_tup rest)).push (excO C h.objs.size)).get? b = some o := fun b o e => Heap.get?_push_of_some _ (Heap.get?_push_of_some _ e)
  have oC1 := kp _ _ oC
  have oE : ((h.push (W.kdv_tup rest)).push (excO C h.objs.size)).get? (h.objs.size + 1) = some (excO C h.objs.size) := by heap_get
  have inC : (Value.ref C :: bm).contains (.ref C) = true := by simp
  have l1 := li.keeps kp
  have l2 := (lb (.ref (h.objs.size + 1))).keeps kp
  unfold isInstance
  repeat (first
    | with_reducible refine wpAny_loadPart_at oE ?_
    | (with_reducible refine wpAny_isSubtype_exc oC1 ?_; rw [inC])
    | wp_step)
  show wpAny _ _ (typeLookup (.ref C) _) _ _ _
  refine l1.at ?_
  refine wpAny_holding (wpAny_bind (l2.at ?_))
  refine wpAny_bind (wpAny_call (codeAny_mono run fun r s' z => ?_))
  rcases r with e | (v | _ | _ | _) <;> first | exact z | exact z.elim | skip
  obtain ⟨rfl, z⟩ := z
  first
    | exact wpAny_pure (wpAny_pure z)
    | (wp_walk; exact z)
theorem own_call_kw (F : ExcBaseFacts B newId initId bmB) (hT : ∀ X : String, bm.contains (.type X) = bmB.contains (.type X)) {rest : List Value} {kw : List (Str × Value)} {fI : Addr}
    (oC : h.get? C = some (excClassObj nm q C N bs bm hdct sn sub ab col dd k0 k1 k2 k3 k5 newId))
    (li : W.Looks (model prog w) h (typeLookup (.ref C) "__init__") (some (.ref fI))) (lb : ∀ self, W.Looks (model prog w) h (bindSpecial (.ref fI) self) (.ref fI, [self])) (few : rest.length ≤ sizeLine)
    (run : codeAny (model prog w) (A.under (.builtin "type.__call__" ⟨.ref C :: rest, kw⟩)) (.call (.ref fI) ⟨.ref (h.objs.size + 1) :: rest, kw⟩) (W.InitBack (h.objs.size + 1) R)
      ⟨(h.push (W.kdv_tup rest)).push (excO C h.objs.size), g, d, t, os⟩) :
    codeAny (model prog w) A (.call (.ref C) ⟨rest, kw⟩) R ⟨h, g, d, t, os⟩ := by
  have f1 := tc_lookup
  have f2 := tc_bind (.ref C)
  have ty : (⟨h, g, d, t, os⟩ : Shared).TypeIs (.ref C) "type" := ⟨_, oC, rfl⟩
  refine codeAny_of_tree ?_
  show wpAny _ _ (callAny (.ref C) _) _ _ _
  repeat (any_goals (first | assumption | with_reducible refine wpAny_loadPart_at oC ?_ | wp_step))
  refine ⟨rfl, ?_⟩
  refine codeAny_call_builtin_at (Code.quiet_builtin _ (by decide +kernel)) entry_typeCall (wpAny_check_type_call_sub oC (own_type_call_kw F hT oC li lb few ?_))
  refine codeAny_mono run fun r s' z => ?_
  rcases r with e | (v | _ | _ | _) <;> exact z
end
end HandSPX
end PySem

set_option Elab.async false
set_option linter.all false
set_option maxRecDepth 100000
set_option maxHeartbeats 4000000

namespace Own
open PySem PySem.Spec PyProof.Rows L2
/-- what the written part says of an exception class of the program's own -/
structure ExC (K : PySem.W.Frag) (C : Addr) : Prop where
  o : OexC K C
  ga : PySem.W.findIn K (.ref C) "__getattribute__" = some (some (.builtin "BaseException.__getattribute__"))
  gg : PySem.W.findIn K (.ref C) "__getattr__" = some none
  hd : PySem.W.hasDictIn K C = true
  cA : PySem.W.findIn K (.ref C) "__class__" = some (some (.builtin "object.__class__"))
  cg : PySem.W.specialIn K (.builtin "object.__class__") "__get__" = some (some (.builtin "getset_descriptor.__get__"))
  ct : PySem.W.takesIn K (.builtin "object.__class__") = some true
  cm : PySem.W.mroIn K C (.type "object") = some true
/-- an exception that was caught and is held, of the class cls, its own dict at d -/
def exv (cls : Value) (d : Option Addr) (a : Addr) : HO := .ext fun h => ∃ (oe : Obj) (vs : Array Value), h.get? a = some oe ∧ Zc cls d oe ∧ oe.data = .fields vs
/-- at a an exception of the class at C, its fields fs (in the dict at d) -/
def ExAt (H : Hp) (a C d : Addr) (fs : List (Str × V)) : Prop := (H a = some (exo a C (some d)) ∨ H a = some (exv (.ref C) (some d) a)) ∧ (H d = some (exd d fs) ∨ H d = some (.xd fs))
theorem ExAt.mono {H H' : Hp} {a C d : Addr} {fs : List (Str × V)} (s : Same H H') (h : ExAt H a C d fs) : ExAt H' a C d fs :=
  ⟨h.1.imp (s _ _) (s _ _), h.2.imp (s _ _) (s _ _)⟩
section
variable {X : Cx} {pins : List (Addr × Obj)} {σ : L2.St} {H : Hp} {s : Shared}
theorem ExAt.inst {a C d : Addr} {fs : List (Str × V)} (I : Inv X pins σ H s) (h : ExAt H a C d fs) :
    ∃ (oe od : Obj), PySem.W.InstAt s.heap a oe C (some od) ∧ ∃ mA : Str → Option Value, (∀ name, PySem.W.lookIn name od = some (mA name)) ∧ ∀ f, RelO (fs.lookup f) (mA f) := by
  obtain ⟨h1, h2⟩ := h
  obtain ⟨mA, hn, rel⟩ : ∃ mA, s.heap.Ns1 d mA ∧ ∀ f, RelO (fs.lookup f) (mA f) := by
    rcases h2 with h2 | h2
    · exact exd_at I.hok h2
    · exact I.hok d _ h2
  obtain ⟨od, ho, hl⟩ := lookIn_ns hn
  obtain ⟨oe, vs, he, hz, hdt⟩ : ∃ (oe : Obj) (vs : Array Value), s.heap.get? a = some oe ∧ Zc (.ref C) (some d) oe ∧ oe.data = .fields vs := by
    rcases h1 with h1 | h1
    · obtain ⟨t1, e⟩ := exo_at I.hok h1
      exact ⟨_, _, e, ⟨rfl, rfl⟩, rfl⟩
    · obtain ⟨q, _, _⟩ := (show ObjOk X.prog X.w H s.heap a (exv (.ref C) (some d) a) from I.hok a _ h1)
      exact q
  refine ⟨oe, od, ⟨he, hz.1, ?_, ?_⟩, mA, hl, rel⟩
  · unfold PySem.W.notCls
    rw [hdt]
  · rw [hz.2]
    exact ho
end
/-- isinstance(e, c) -/
def rIsX (K : PySem.W.Frag) : List V → Hp → VK → Prop := fun xs H Q => ∃ (a C d : Addr) (fs : List (Str × V)) (c : V) (cv : Value) (b : Bool), xs = [.ref a, c] ∧ ExC K C ∧ ExAt H a C d fs ∧ ClsV c cv ∧ PySem.W.kitOne K (.ref C) cv = some b ∧ Q (.bl b) H
theorem call_isX {X : Cx} : CallR X (.builtin "isinstance") (rIsX X.K) := by
  intro pins s σ H xs us Q I r h
  obtain ⟨a, C, d, fs, c, cv, b, rfl, T, he, hc, hk, q⟩ := h
  match us, r with
  | [u1, u2], .cons r1 (.cons r2 .nil) =>
    cases (show u1 = Value.ref a from r1)
    cases hc.eq r2
    obtain ⟨oe, od, J, _⟩ := he.inst I
    have cl : (PySem.W.clsIn X.K C).isSome = true := by
      obtain ⟨cd, z, _⟩ := PySem.W.any_some T.hd
      rw [z]
      rfl
    exact PySem.W.kia_one (PySem.W.kitx_exc (od := some od) cl T.ga T.gg T.o.exC T.cA T.cg T.ct T.cm) I.kIn J hk (fun z => nomatch z) fun tk => ⟨.bl b, H, I.kept (t' := tk) fun _ _ z => z, rfl, q⟩
/-- e.f -/
def tExF (K : PySem.W.Frag) (f : Str) (te : TE) : TE := fun σ H Q => te σ H fun x H1 => ∃ (a C d : Addr) (fs : List (Str × V)) (v : V), x = .ref a ∧ ExC K C ∧ PySem.W.findIn K (.ref C) f = some none ∧ ExAt H1 a C d fs ∧ fs.lookup f = some v ∧ Q v H1
theorem pe_exf {X : Cx} {e : Expr} {f : Str} {te : TE} {pos : Pos} (he : PE X e te) (hb : attributeBase e f X.env (eval e X.env) = eval e X.env := by rfl) : PE X (.Attribute e f pos) (tExF X.K f te) := by
  constructor
  intro pins s σ H Q I h
  refine attr_of hb (thn (he.run pins s σ H _ I h) ?_)
  rintro u s1 ⟨x, H1, I1, rx, a, C, d, fs, v, rfl, T, no, ea, l, q⟩
  cases (show u = Value.ref a from rx)
  obtain ⟨oe, od, J, mA, hl, rel⟩ := ea.inst I1
  obtain ⟨y, hy, ry⟩ := RelO.some_of (v := v) (o := mA f) (by rw [← l]; exact rel f)
  exact HandSPX.exc_get I1.kIn J T.ga T.gg T.o.exC (PySem.W.findObj_own T.hd no rfl (by rw [hl, hy])) (handed_of ry) ⟨v, H1, I1.tok _, ry, q⟩
section
variable {X : Cx} {CX : CXT} {k n : Nat} {fI C : Addr} {fd : FuncData} {ps ks : List Str} {sp : Sp} {x : Str} {p pos : Pos} {e : Expr} {es : List Expr} {kws : List Keyword} {t tk : TA} {g : List Value → List Value → List Value} {gV : List V → List V → List V}
theorem run_exn {pins : List (Addr × Obj)} {σ : L2.St} {H : Hp} {s : Shared} {Q : VK} {us ws : List Value} {vs zs : List V} (T : OexC X.K C) (iC : PySem.W.findIn X.K (.ref C) "__init__" = some (some (.ref fI)))
    (tI : PySem.W.typeIn X.K (.ref fI) = some (.type "function")) (G0 : FnOk X.prog X.w X.K X.mg X.base CX k fI fd ps sp) (room : Room (k + 1) X.A) (hb : KBn X.K fd ps (n + 1) ks g gV) (hx : Passes CX X (fun _ _ _ => False))
    (I : Inv X pins σ H s) (r : Vals vs us) (rz : Vals zs ws) (l1 : vs.length = n) (l2 : zs.length = ks.length) (few : n ≤ 1000)
    (h : ∀ a, H a = none → sp (gV (.ref a :: vs) zs) (upd H a (exo a C none)) (fun v H2 => v = .non ∧ Q (.ref a) H2) (fun _ _ _ => False)) :
    wpAny (model X.prog X.w) X.A (call (.ref C) us (ks.zip ws)) (EP X pins σ Q) X.xe s := by
  obtain ⟨nm, q, N, bs, bm, sn, sub, ab, col, dd, k0, k1, k2, k3, k5, hC, hbm⟩ := T.cls
  obtain ⟨hp, gs, dr, tk, os⟩ := s
  have le : hp.objs.size ≤ hp.objs.size + 1 := Nat.le_succ _
  have want := h (hp.objs.size + 1) (I.hok.fresh le)
  have kp : ∀ b o, hp.get? b = some o → ((hp.push (PySem.W.kdv_tup us)).push (PySem.HandSPX.excO C hp.objs.size)).get? b = some o := fun b o z => Heap.get?_push_of_some _ (Heap.get?_push_of_some _ z)
  have at_ : ((hp.push (PySem.W.kdv_tup us)).push (PySem.HandSPX.excO C hp.objs.size)).get? (hp.objs.size + 1) = some (PySem.HandSPX.excO C hp.objs.size) := by heap_get
  have J : Inv X pins σ (upd H (hp.objs.size + 1) (exo (hp.objs.size + 1) C none)) ⟨(hp.push (PySem.W.kdv_tup us)).push (PySem.HandSPX.excO C hp.objs.size), gs, dr, tk, os⟩ :=
    I.laid (t' := tk) (h' := (hp.push (PySem.W.kdv_tup us)).push (PySem.HandSPX.excO C hp.objs.size)) kp le (exo_ok at_)
  have r1 : Vals (V.ref (hp.objs.size + 1) :: vs) (Value.ref (hp.objs.size + 1) :: us) := .cons rfl r
  have r2 := hb.rel r1 rz
  have n1 : (Value.ref (hp.objs.size + 1) :: us).length = n + 1 := r1.length.symm.trans (congrArg Nat.succ l1)
  have n2 : ws.length = ks.length := rz.length.symm.trans l2
  have fewU : us.length ≤ sizeLine := by
    rw [← Paired.length r, l1, sizeLine_eq]
    omega
  refine wpAny_call (PySem.HandSPX.own_call_kw PySem.F.excBase_ValueError (fun Y => PySem.HandSPX.refsVE_contains Y bm hbm) (I.kIn _ _ hC) (PySem.W.looks_findIn I.kIn iC) (fun self => PySem.W.bind_fn I.kIn self tI) fewU ?_)
  refine codeAny_mono (G0.run _ X.stack _ _ ⟨Value.ref (hp.objs.size + 1) :: us, ks.zip ws⟩ _ _ _ (fun _ _ _ => False) (room.make C us (ks.zip ws)) (J.env0.make C us (ks.zip ws)) (hb.to _ _ ws J.kIn n1 n2) r2 want) ?_
  intro r s' z
  match r, z with
  | .error e, z => exact hx pins σ _ _ e s' J z
  | .ok .next, z => exact z.elim
  | .ok .brk, z => exact z.elim
  | .ok .cont, z => exact z.elim
  | .ok (.ret u), z =>
    obtain ⟨v, H2, J2, rv, ev, q3⟩ := J.after z
    subst ev
    exact ⟨rv, .ref _, H2, J2, rfl, q3⟩
/-- C(e, ..) -/
def tExn (C : Addr) (n : Nat) (sp : Sp) (gV : List V → List V → List V) (t tk : TA) (m : Nat) : TE := fun σ H Q => t σ H fun vs H1 => tk σ H1 fun zs H2 => vs.length = n ∧ zs.length = m ∧ n ≤ 1000 ∧
  ∀ a, H2 a = none → sp (gV (.ref a :: vs) zs) (upd H2 a (exo a C none)) (fun v H3 => v = .non ∧ Q (.ref a) H3) (fun _ _ _ => False)
theorem pe_exn (T : OexC X.K C) (iC : PySem.W.findIn X.K (.ref C) "__init__" = some (some (.ref fI))) (tI : PySem.W.typeIn X.K (.ref fI) = some (.type "function")) (G0 : FnOk X.prog X.w X.K X.mg X.base CX k fI fd ps sp) (room : Room (k + 1) X.A)
    (hb : KBn X.K fd ps (n + 1) [] g gV) (hx : Passes CX X (fun _ _ _ => False)) (hm : X.mg x = some (.ref C)) (ha : PA X (e :: es) t) (hg : Gl X x := by rfl)
    (hdb : (x == ("__debug__" : Str)) = false := by decide) (he : starEach (e :: es) X.env = (false, eval e X.env) :: starEach es X.env := by rfl) (hpl : (backTo pos (starEach es X.env)).any (·.1) = false := by rfl) :
    PE X (.Call (.Name x p) (e :: es) [] pos) (tExn C n sp gV t tNil 0) := by
  constructor
  intro pins s σ H Q I h
  refine wpAny_Call_Name_kw (ld_glob I hg hm ?_ hdb)
  refine PySem.W.callWith_K (h₀ := X.base) I.ok.mod.kin T.kC (thn (ha.run pos pins s σ H _ I h) ?_) he hpl
  rintro us s1 ⟨vs, H1, I1, r, l1, l2, few, q⟩
  exact ⟨I1.kIn, run_exn (ws := []) (zs := []) T iC tI G0 room hb hx I1 r .nil l1 rfl few q⟩
theorem pe_exnK (T : OexC X.K C) (iC : PySem.W.findIn X.K (.ref C) "__init__" = some (some (.ref fI))) (tI : PySem.W.typeIn X.K (.ref fI) = some (.type "function")) (G0 : FnOk X.prog X.w X.K X.mg X.base CX k fI fd ps sp) (room : Room (k + 1) X.A)
    (hb : KBn X.K fd ps 1 ks g gV) (hx : Passes CX X (fun _ _ _ => False)) (hm : X.mg x = some (.ref C)) (hkw : PK X kws tk) (hg : Gl X x := by rfl) (hall : (backToKw pos (keywordEach kws X.env)).all (·.1.isSome) = true := by rfl)
    (hks : (backToKw pos (keywordEach kws X.env)).filterMap (·.1) = ks := by rfl) (hdb : (x == ("__debug__" : Str)) = false := by decide)
    (hpl : ((backTo pos (starEach [] X.env)).any (·.1) || (backToKw pos (keywordEach kws X.env)).any (·.1.isNone)) = false := by rfl) :
    PE X (.Call (.Name x p) [] kws pos) (tExn C 0 sp gV tNil tk ks.length) := by
  constructor
  intro pins s σ H Q I h
  refine wpAny_Call_Name_kw (ld_glob I hg hm ?_ hdb)
  refine PySem.W.callWith_KW0 (h₀ := X.base) I.ok.mod.kin T.kC hall (thn (hkw.run pos pins s σ H _ I h) ?_) hpl
  rintro ws s2 ⟨zs, H2, I2, rz, l1, l2, few, q⟩
  refine ⟨I2.kIn, ?_⟩
  rw [hks]
  exact run_exn (vs := []) (us := []) T iC tI G0 room hb hx I2 .nil rz rfl l2 few q
end
/-- a class of exceptions, with all that making one wants: n fields, by place and by the names ks -/
structure Xcl (P : Program) (w : World) (K : PySem.W.Frag) (mg : Str → Option Value) (base : Heap) (x : Str) (C : Addr) (n : Nat) (ks : List Str) (gV : List V → List V → List V) (sp : Sp) : Prop where
  t : ExC K C
  at_ : mg x = some (.ref C)
  ex : ∃ fI fd ps g gK, PySem.W.findIn K (.ref C) "__init__" = some (some (.ref fI)) ∧ PySem.W.typeIn K (.ref fI) = some (.type "function") ∧ FnOk P w K mg base CX0 1 fI fd ps sp ∧
    KBn K fd ps (n + 1) [] g (fun vs _ => vs) ∧ KBn K fd ps 1 ks gK gV
theorem pe_xcl {X : Cx} {x : Str} {C : Addr} {n : Nat} {ks : List Str} {gV : List V → List V → List V} {sp : Sp} {p pos : Pos} {e : Expr} {es : List Expr} {t : TA} (T : Xcl X.prog X.w X.K X.mg X.base x C n ks gV sp) (room : Room 2 X.A) (ha : PA X (e :: es) t) (hg : Gl X x := by rfl)
    (hdb : (x == ("__debug__" : Str)) = false := by decide) (he : starEach (e :: es) X.env = (false, eval e X.env) :: starEach es X.env := by rfl) (hpl : (backTo pos (starEach es X.env)).any (·.1) = false := by rfl) :
    PE X (.Call (.Name x p) (e :: es) [] pos) (tExn C n sp (fun vs _ => vs) t tNil 0) := by
  obtain ⟨fI, fd, ps, g, gK, iC, tI, F, b1, b2⟩ := T.ex
  exact pe_exn T.t.o iC tI F room b1 pass0 T.at_ ha hg hdb he hpl
theorem pe_xclK {X : Cx} {x : Str} {C : Addr} {n : Nat} {ks : List Str} {gV : List V → List V → List V} {sp : Sp} {p pos : Pos} {kws : List Keyword} {tk : TA} (T : Xcl X.prog X.w X.K X.mg X.base x C n ks gV sp) (room : Room 2 X.A) (hkw : PK X kws tk) (hg : Gl X x := by rfl)
    (hall : (backToKw pos (keywordEach kws X.env)).all (·.1.isSome) = true := by rfl)
    (hks : (backToKw pos (keywordEach kws X.env)).filterMap (·.1) = ks := by rfl) (hdb : (x == ("__debug__" : Str)) = false := by decide)
    (hpl : ((backTo pos (starEach [] X.env)).any (·.1) || (backToKw pos (keywordEach kws X.env)).any (·.1.isNone)) = false := by rfl) :
    PE X (.Call (.Name x p) [] kws pos) (tExn C 0 sp gV tNil tk ks.length) := by
  obtain ⟨fI, fd, ps, g, gK, iC, tI, F, b1, b2⟩ := T.ex
  exact pe_exnK T.t.o iC tI F room b2 pass0 T.at_ hkw hg hall hks hdb hpl
/-- __init__ of one field, of two -/
def spI1 (K : PySem.W.Frag) (f : Str) : Sp := fun vs H Q _ => ∃ (a C : Addr) (y : V), vs = [.ref a, y] ∧ OexC K C ∧ PySem.W.findIn K (.ref C) f = some none ∧ H a = some (exo a C none) ∧
  ∀ dx, H dx = none → dx ≠ a → Q .non (upd (upd H dx (exd dx [(f, y)])) a (exo a C (some dx)))
def spI2 (K : PySem.W.Frag) (f g : Str) : Sp := fun vs H Q _ => ∃ (a C : Addr) (y z : V), vs = [.ref a, y, z] ∧ OexC K C ∧ PySem.W.findIn K (.ref C) f = some none ∧ PySem.W.findIn K (.ref C) g = some none ∧ H a = some (exo a C none) ∧
  ∀ dx, H dx = none → dx ≠ a → Q .non (upd (upd (upd H dx (exd dx [(f, y)])) a (exo a C (some dx))) dx (exd dx [(g, z), (f, y)]))
/-- a class or a def of the top as a value -/
theorem pe_gr {X : Cx} {x : Str} {a : Addr} {pos : Pos} (h : X.mg x = some (.ref a)) (hg : Gl X x := by rfl) (hd : (x == ("__debug__" : Str)) = false := by decide) : PE X (.Name x pos) (tC (.ref a)) := pe_glob hg h rfl hd
end Own
set_option Elab.async false
set_option linter.all false
set_option maxRecDepth 100000
set_option maxHeartbeats 4000000
namespace Own
open PySem PySem.Spec PyProof.Rows L2
section
variable {X : Cx}
/-- behind the suite: the exception at a, that was caught, is known from now on -/
theorem lay_exc {pins pinsI : List (Addr × Obj)} {σ σI : L2.St} {H HI : Hp} {s sI : Shared} {a : Addr} {oe : Obj} {cls : Value} {d : Option Addr} {vs : Array Value}
    (S : Inv (X.suite a ((a, oe) :: (X.pn ++ pins))) [] σ H s) (ok : X.Ok) (hz : Zc cls d oe) (hd : oe.data = .fields vs) (hex : X.ex = []) (I : Inv X pinsI σI HI sI) (hI : ∀ p ∈ X.pn ++ pins, ∃ o, sI.heap.get? p.1 = some o) (no : sI.heap.get? a = none) :
    Inv X pins σ (upd H a (exv cls d a)) s := by
  have J := S.unsuite ok
  obtain ⟨ha, na, nL, nF, _⟩ := S.pin (a, oe) (List.mem_append_left _ List.mem_cons_self)
  have ne0 : ∀ b o, X.s_0.heap.get? b = some o → b ≠ a := by
    intro b o e q
    obtain ⟨o2, e2⟩ := I.base.there b o e (by rw [hex]; exact List.not_mem_nil)
    rw [q, no] at e2
    cases e2
  have stays : ∀ b u, H b = some u → upd H a (exv cls d a) b = some u := fun b u e => (upd_ne (ne_of_none e na)).trans e
  have gone : ∀ b, b ≠ a → H b = none → upd H a (exv cls d a) b = none := fun b nb e => (upd_ne nb).trans e
  refine ⟨ok, J.os, J.bare, ?base, J.loc, J.cell, gone _ (Ne.symm nL) J.free, ?cells, ?pins, ?hok, J.len⟩
  case base =>
    obtain ⟨k1, k2, k3, k4, k5, k6, k7⟩ := J.base
    refine ⟨k1, k2, fun b o e n x => gone b (ne0 b o e) (k3 b o e n x), k4, fun b xs e => stays _ _ (k5 b xs e), fun b o u e => stays _ _ (k6 b o u e), fun b ps e => ?_⟩
    obtain ⟨more, em⟩ := k7 b ps e
    exact ⟨more, stays _ _ em⟩
  case cells =>
    intro y c e
    refine gone c (fun q => ?_) (J.freeC y c e)
    obtain ⟨v, o, ho, _⟩ := I.cell y c e
    rw [q, no] at ho
    cases ho
  case pins =>
    intro p hp
    obtain ⟨p1, p2, p3, p4, p5⟩ := J.pin p hp
    refine ⟨p1, gone _ (fun q => ?_) p2, p3, p4, p5⟩
    obtain ⟨o, ho⟩ := hI p hp
    rw [q, no] at ho
    cases ho
  case hok =>
    intro b u e
    by_cases hb : b = a
    · subst hb
      rw [upd_same] at e
      cases e
      exact ⟨⟨oe, vs, ha, hz, hd⟩, ⟨oe, ha⟩, fun h1 h2 ⟨o, ws, e1, e2, e3⟩ st => ⟨o, ws, st _ e1, e2, e3⟩⟩
    · rw [upd_ne hb] at e
      exact (J.hok b u e).stay (fun _ _ _ q => q) (fun c q => stays _ _ q) fun c xs q => stays _ _ q
end
/-- what 'except x as n: suite' wishes of an exception: behind the suite it is known where it lies -/
def wKeep (K : PySem.W.Frag) (c : Value) (i : Nat) (ts : Addr → Value → Option Addr → TS) (Wo : WX) (D : Ends) : WX := fun cls d σ H => ∃ b, PySem.W.exmOne K cls c = some b ∧ (b = false → Wo cls d σ H) ∧
  (b = true → ∀ a, H a = none → ts a cls d { nx := fun σ2 H2 => D.nx (σ2.set i none) (upd H2 a (exv cls d a)), rt := fun _ _ => False, bk := fun _ _ => False, ct := fun _ _ => False } (σ.set i (some (.ref a))) H)
section
variable {X : Cx} {x n : Str} {c : Value} {i : Nat} {body suite : List Stmt} {b0 : Stmt} {np pos pos' : Pos} {tb : WX → TS} {ts : Addr → Value → Option Addr → TS} {Wo : WX}
theorem ps_try_keep (hs : X.stack = X.env :: X.outer) (hf : X.env.frame = some X.env.locals) (hN : X.N.Nodup) (hi : X.N[i]? = some n) (hln : X.env.kindOf n = some .local) (hc : Names X x c) (tk : Takes X Wo) (hex : X.ex = [])
    (hb : ∀ (W : WX) (pn : List (Addr × Obj)) (xe : Value → Shared → Prop), Takes (X.tr pn xe) W → PassesOwn (model X.prog X.w) X.A X.env xe → PSs (X.tr pn xe) body (tb W))
    (hsu : ∀ (a : Addr) (oe : Obj) (cls : Value) (d : Option Addr) (pn : List (Addr × Obj)), Zc cls d oe → (∃ vs, oe.data = .fields vs) → PSs (X.suite a ((a, oe) :: pn)) (b0 :: suite) (ts a cls d)) :
    PS X (.Try body [.ExceptHandler (some (.Name x np)) (some n) (b0 :: suite) pos'] [] [] pos) (fun D σ H => tb (wKeep X.K c i ts Wo D) D σ H) := by
  constructor
  intro pins s σ H D I h
  have ok := I.ok
  have frames : X.A.frames = some (X.env :: X.outer) := ok.frames.trans (by rw [hs])
  refine wpAny_Try_except ?_
  have run := (hb (wKeep X.K c i ts Wo D) (X.pn ++ pins)
    (fun e s1 => wpAny (model X.prog X.w) X.A (noteFrame e X.env)
      (fun _ s2 => wpAny (model X.prog X.w) X.A (setFlight e none)
        (fun _ s3 => wpAny (model X.prog X.w) X.A (handleBy e X.env [.ExceptHandler (some (.Name x np)) (some n) (b0 :: suite) pos']) (SP X pins D) X.xe s3) X.xe s2) X.xe s1)
    ?takes PassesOwn.looking).run [] s σ H D (I.toTry _) h
  case takes =>
    rintro u sE ⟨a, B, sI, pinsI, σI, HI, cls, d, rfl, JI, nb, up, sky, na, os, ag, b, hb1, hno, hyes⟩
    have J : Inv X pins σI HI sI := JI.ofTry ok
    rw [hs] at sky
    show wpAny (model X.prog X.w) X.A (noteFrame (.ref a) X.env) _ _ _
    refine Sky.land Zc.steady frames hf sky fun hA flA upA => ?_
    have upA' := up.trans upA
    have JA : Inv X pins σI HI { sE with heap := hA } := J.landed nb flA.1 upA' os ag
    obtain ⟨oA, vA, getA, zA, dA⟩ := flA.there
    have offFrames : a ∉ frs (X.env :: X.outer) := by
      intro hm
      obtain ⟨_, o2, e2, nofld⟩ := flA.2.2.1.mem hm
      rw [getA] at e2
      cases e2
      exact nofld _ dA
    have nL : a ≠ X.env.locals := fun q => offFrames (List.mem_filterMap.mpr ⟨X.env, List.mem_cons_self, hf.trans (by rw [q])⟩)
    have nF : a ∉ X.fs := fun hm => by
      obtain ⟨ev, hev, q⟩ := List.mem_filterMap.mp hm
      exact offFrames (List.mem_filterMap.mpr ⟨ev, List.mem_cons_of_mem _ hev, q⟩)
    have notI : sI.heap.get? a = none := by
      cases q : sI.heap.get? a with
      | none => rfl
      | some o =>
        have := nb a o q (by rw [hs]; exact offFrames)
        rw [flA.2.1] at this
        cases this
    have SA := JA.suite getA dA na nL nF
    have ty : PySem.W.Looks (model X.prog X.w) hA (typeOf (.ref a)) cls := fun A' Q' E' s' k q => wpAny_typeOf_ref (k _ _ getA) (by rw [zA.1]; exact q)
    have match_ := PySem.W.exm_one (M := model X.prog X.w) JA.kIn ty hb1
    have cls_ : ∀ {Q' : Value → Shared → Prop} {E' : Value → Shared → Prop}, Q' c { sE with heap := hA } → wpAny (model X.prog X.w) (X.A.mark (some (.ref a))) (eval (.Name x np) X.env) Q' E' { sE with heap := hA } := by
      intro Q' E' q
      obtain ⟨hg, hdbg, hm | ⟨hm, hv, hnn⟩⟩ := hc
      · exact ld_glob (X := X.suite a ((a, oA) :: (X.pn ++ pins))) SA hg hm q hdbg
      · exact ld_blt (X := X.suite a ((a, oA) :: (X.pn ++ pins))) SA hg hm hv q hnn hdbg
    refine wpAny_handleBy_cons (codeAny_handlers_test (cls_ (match_.here ?_))) (fun q => by cases q)
    cases b with
    | false =>
      show wpAny _ X.A (handleBy (.ref a) X.env []) _ _ _
      refine wpAny_handleBy_nil ?_
      have on : wpAny (model X.prog X.w) X.A (setFlight (.ref a) X.env.frame) (fun _ s4 => wpAny (model X.prog X.w) X.A (throw (.ref a) : Sem Flow) (SP X pins D) X.xe s4) X.xe { sE with heap := hA } := by
        rw [hf]
        refine HandSPX.setFlight_upZ flA fun hB heldB upB => wpAny_throw (tk _ _ ?_)
        exact ⟨a, B, sI, pins, σI, HI, cls, d, rfl, J, nb, upA'.trans upB, .inr (.inr (by rw [hs]; exact heldB)), na, os, ag, hno rfl⟩
      obtain ⟨_, _, _, o5, v5, T5, _, _, e5, _, d5, n5, _⟩ := id flA
      unfold PySem.passOn
      refine wpAny_bind (wpAny_field e5 d5 n5 ?_)
      rw [if_neg (by simp : ¬ ((Value.ref T5 == Value.none) = true))]
      first
        | exact wpAny_bind on
        | exact wpAny_bind (wpAny_pure (wpAny_bind on))
    | true =>
      refine codeAny_handlers_suite_as ?_
      refine HandSPX.lands_againZ flA fun hB flB upB => ?_
      have JB : Inv X pins σI HI { sE with heap := hB } := J.landed nb flB.1 (upA'.trans upB) os ag
      obtain ⟨oB, vB, getB, zB, dB⟩ := flB.there
      refine store_ok (X := X.suite a ((a, oB) :: (X.pn ++ pins))) (v := .ref a) (JB.suite getB dB na nL nF) hN hi (.inl hln) rfl (fun sC SC => ?_) (.inr hln)
      refine wpAny_mono ((hsu a oB cls d (X.pn ++ pins) zB ⟨_, dB⟩).run [] sC _ HI _ SC (hyes rfl a na)) (fun f sD out => ?_) (fun _ _ z => z.elim)
      cases f with
      | brk =>
        obtain ⟨_, _, _, q⟩ := out
        exact q.elim
      | cont =>
        obtain ⟨_, _, _, q⟩ := out
        exact q.elim
      | ret u =>
        obtain ⟨_, _, _, _, _, q⟩ := out
        exact q.elim
      | next =>
        obtain ⟨σD, HD, SD, qD⟩ := out
        refine gone_ok (X := X.suite a ((a, oB) :: (X.pn ++ pins))) SD hN hi hln fun sF SF => ?_
        exact ⟨_, _, lay_exc SF ok zB dB hex J (fun p hp => ⟨_, (J.pin p hp).1⟩) notI, qD⟩
  refine wpAny_mono run (fun f s1 out => ?_) fun _ _ z => z
  cases f with
  | next =>
    obtain ⟨σ2, H2, J2, q⟩ := out
    exact wpAny_execs_nil ⟨σ2, H2, J2.ofTry ok, q⟩
  | ret u =>
    obtain ⟨v, σ2, H2, J2, r, q⟩ := out
    exact ⟨v, σ2, H2, J2.ofTry ok, r, q⟩
  | brk =>
    obtain ⟨σ2, H2, J2, q⟩ := out
    exact ⟨σ2, H2, J2.ofTry ok, q⟩
  | cont =>
    obtain ⟨σ2, H2, J2, q⟩ := out
    exact ⟨σ2, H2, J2.ofTry ok, q⟩
end
end Own
set_option Elab.async false
set_option linter.all false
set_option maxRecDepth 100000
set_option maxHeartbeats 4000000
namespace Own
open PySem PySem.Spec PyProof.Rows L2 LamX
/-- the exceptions that leave a state of so many slots -/
theorem takes_len {X : Cx} {W : WX} (tk : Takes X W) : Takes X fun cls d σ H => σ.length = X.N.length → W cls d σ H := by
  rintro u s' ⟨a, B, sI, pins, σ, H, cls, d, e, I, nb, up, sky, na, os, ag, w⟩
  exact tk u s' ⟨a, B, sI, pins, σ, H, cls, d, e, I, nb, up, sky, na, os, ag, w I.len⟩
/-- what a def makes of the lambda that it calls within try: Rer is its reading behind an error that was caught, Rok that behind none -/
def TTh (K : PySem.W.Frag) (CS : Addr) (Rok : Hp → VK → Prop) (Rer : Value → Option Addr → Addr → Hp → VK → Prop) : (XK → Hp → VK → Prop) → Hp → VK → Prop := fun tl H Q =>
  tl (fun cls d H' => PySem.W.exmOne K cls (.ref CS) = some true ∧ ∀ a, H' a = none → Rer cls d a (upd H' a (exv cls d a)) Q) H fun _ H' => Rok H' Q
theorem pe_mono {X : Cx} {e : Expr} {te : TE} (h : PE X e te) : PE X e (fun σ H Q => ∃ Qa : VK, (∀ v H', Qa v H' → Q v H') ∧ te σ H Qa) := by
  constructor
  rintro pins s σ H Q I ⟨Qa, m, t⟩
  exact thn (h.run pins s σ H Qa I t) fun v s1 ⟨y, H1, I1, r, z⟩ => ⟨y, H1, I1, r, m _ _ z⟩
section
variable {X : Cx}
theorem heard_gives {Ng : List Str} {x a e q caught err : Str} {sg : Scope} {g CS : Addr} {cdg : Value} {i j : Nat} {pk p0 p1 p2 p3 p4 p5 p6 p7 p8 p9 pa : Pos} {rest : List Stmt} {tr : TS} {Rok : Hp → VK → Prop} {Rer : Value → Option Addr → Addr → Hp → VK → Prop}
    (hge : sg.names.lookup e = some .globalImplicit) (hme : X.mg e = some (.ref CS)) (hde : (e == ("__debug__" : Str)) = false) (h0 : ∀ f : Addr, (L2.start Ng [V.ref f])[0]? = some (some (V.ref f))) (j0 : j ≠ 0) (ij : i ≠ j) (lj : j < Ng.length) (li : i < Ng.length)
    (hN : Ng.Nodup) (hi : Ng[i]? = some err) (hj : Ng[j]? = some caught) (kj : sg.names.lookup caught = some .local) (ki : sg.names.lookup err = some .local) (sz : ∀ f : Addr, (L2.start Ng [V.ref f]).length = Ng.length)
    (hde2 : (err == ("__debug__" : Str)) = false) (hcd2 : (err == ("__classdict__" : Str)) = false)
    (hrest : ∀ (s : Shared) (H : Hp), PSs (cxOf C8.CX0 X.prog X.w X.K X.mg X.base Ng x sg g cdg X.A X.stack s H C8.E0).nox rest tr)
    (hok : ∀ (σ : L2.St) (H : Hp) (Q : VK), σ.length = Ng.length → σ[j]? = some (some .non) → Rok H Q → tr { nx := fun _ H' => Q .non H', rt := Q } σ H)
    (her : ∀ (σ : L2.St) (H : Hp) (Q : VK) (cls : Value) (d : Option Addr) (b : Addr), σ.length = Ng.length → σ[j]? = some (some (.ref b)) → H b = some (exv cls d b) → Rer cls d b H Q → tr { nx := fun _ H' => Q .non H', rt := Q } σ H) :
    GivesTo X Ng x sg g cdg (.Assign [.Name caught p0] (.Constant .none 0 pk) p1 :: .Try [.Expr (.Call (.Name a p2) [] [] p3) p4] [.ExceptHandler (some (.Name e p5)) (some err) [.Assign [.Name caught p6] (.Name err p7) p8] p9] [] [] pa :: rest) a q (TTh X.K CS Rok Rer) := by
  intro f c' s H Q tl act hc h
  have hgl : Gl (cxOf C8.CX0 X.prog X.w X.K X.mg X.base Ng x sg g cdg X.A X.stack s H C8.E0).nox e := hge
  refine ⟨_, pss_cons (ps_set (X := (cxOf C8.CX0 X.prog X.w X.K X.mg X.base Ng x sg g cdg X.A X.stack s H C8.E0).nox) (i := j) hN hj (Or.inl kj) pe_non)
    (pss_cons (ps_try_keep (X := (cxOf C8.CX0 X.prog X.w X.K X.mg X.base Ng x sg g cdg X.A X.stack s H C8.E0).nox) (c := .ref CS) (i := i)
      (tb := fun W D σ H => ∃ (Ex : XK) (Qa : VK), (∀ cls d σ' H', Ex cls d H' → σ'.length = Ng.length → W cls d σ' H') ∧ (∀ v H', Qa v H' → D.nx σ H') ∧ σ[0]? = some (some (.ref f)) ∧ H c' = some (CodeO c' q) ∧ tl Ex H Qa)
      (ts := fun b cls d => tAsg (tVar i) (gName j)) rfl rfl hN hi ki ⟨hgl, hde, .inl hme⟩ LamX.takes0 rfl (fun W pn xe tk _ => ?body) (fun b oe cls d pn _ _ => ?suite)) (hrest s H)), ?say⟩
  case body =>
    constructor
    rintro pins s' σ H' D I ⟨Ex, Qa, hW, hQ, h1, h2, h3⟩
    have hp := act _ pn xe Ex p2 p3 (takes_len tk) hW
    exact (pss_one (ps_expr (pos := p4) (pe_mono hp))).run pins s' σ H' D I ⟨Qa, fun v H1 z => hQ v H1 z, h1, h2, h3⟩
  case suite => exact pss_one (ps_set (i := j) hN hj (Or.inl kj) (pe_var (i := i) hi (Or.inl ki) hde2 hcd2))
  case say =>
    have n0 : j < (L2.start Ng [V.ref f]).length := by
      rw [sz]
      exact lj
    refine ⟨_, _, fun cls d σ' H' hE len => ⟨true, hE.1, fun z => (nomatch z), fun _ b hb => ?_⟩, fun v H' hv => ?_, ?_, hc, h⟩
    · refine ⟨.ref b, by rw [List.getElem?_set_self (by omega)], ?_⟩
      refine her _ _ Q cls d b (by simp [len]) ?_ upd_same (hE.2 b hb)
      rw [List.getElem?_set_ne ij, List.getElem?_set_self (by rw [List.length_set]; omega)]
    · exact hok _ H' Q (by rw [List.length_set, sz]) (by rw [List.getElem?_set_self n0]) hv
    · rw [List.getElem?_set_ne j0]
      exact h0 f
end
end Own
set_option Elab.async false
set_option linter.all false
set_option maxRecDepth 100000
set_option maxHeartbeats 4000000
namespace Own
open PySem PySem.Spec PyProof.Rows L2 LamX
abbrev emptyTab : Obj := { cls := .none, data := .fields #[] }
/-- b is one of the tables -/
def IsTab (cs : List (Addr × Addr)) (b : Addr) : Prop := b ∈ cs.map Prod.snd
instance (cs : List (Addr × Addr)) (b : Addr) : Decidable (IsTab cs b) := inferInstanceAs (Decidable (b ∈ cs.map Prod.snd))
theorem IsTab.ex {cs : List (Addr × Addr)} {b : Addr} (h : IsTab cs b) : ∃ p ∈ cs, p.2 = b := List.mem_map.mp h
theorem IsTab.of {cs : List (Addr × Addr)} {p : Addr × Addr} (h : p ∈ cs) : IsTab cs p.2 := List.mem_map.mpr ⟨p, h, rfl⟩
theorem law_callTG {P : Program} {w : World} {K : PySem.W.Frag} {mg mb : Str → Option Value} {k : Nat} {fa a : Addr} {cs : List (Addr × Addr)} {fd : FuncData} {x : Str} {sp : Sp} {s₁ : Shared} {vs : List Value} {ns : List Int}
    (inK : K.In s₁.heap) (top : s₁.heap.Ns mainGlobals mg) (bi : s₁.heap.Ns builtinsNs mb) (bt : ∀ x : Str, x ≠ "__name__" → mb x = bootBuiltins x) (lim : s₁.heap.NoLimit) (bare : s₁.gens = #[])
    (tabs : ∀ p ∈ cs, s₁.heap.get? p.2 = some emptyTab) (noK : ∀ p ∈ cs, K.lookup p.2 = none) (heads : ∀ p ∈ cs, PySem.W.CodeHd s₁.heap p.1 p.2)
    (bmod : ∃ (bm : Addr) (ob : Obj), mg "__builtins__" = some (.ref bm) ∧ bm ≠ builtinsNs ∧ s₁.heap.get? bm = some ob ∧ ob.cls = .type "module" ∧ ob.dict = some builtinsNs ∧ ob.data = .plain)
    (at_ : s₁.heap.get? a = some { cls := .type "list", data := .seq vs.toArray }) (iv : IntsAre vs ns) (small : ns.length ≤ sizeLine) (room : Room k callerA)
    (F : ∀ base : Heap, K.In base → base.Ns mainGlobals mg → (∀ p ∈ cs, TabB base mg p.1 p.2) → FnG P w K mg base CX0 k fa fd [x] sp) (bnd : ∀ (s : Shared) (u : Value), BindsTo s fd ⟨[u], []⟩ [(x, u)])
    (say : ∀ H : Hp, (∀ p ∈ cs, H p.2 = some (.tbl #[])) → SqL K H a (ns.map V.int) → sp [.ref a] H (fun v _ => v = .bl true) fun _ _ _ => False) :
    codeAny (model P w) callerA (.call (.ref fa) ⟨[.ref a], []⟩) (fun r s' => r = .ok (.ret (.bool true)) ∧ OldK s₁.heap s'.heap ∧ s'.os = s₁.os ∧ AllBare s'.gens) s₁ := by
  have rv := vals_ints iv
  have lenV := iv.length
  have tabAt : ∀ b, IsTab cs b → s₁.heap.get? b = some emptyTab := by
    intro b hb
    obtain ⟨p, hp, rfl⟩ := hb.ex
    exact tabs p hp
  have aNot : ¬ IsTab cs a := by
    intro z
    have e := at_.symm.trans (tabAt a z)
    cases Option.some.inj e
  have main : ∀ H : Hp, (∀ p ∈ cs, H p.2 = some (.tbl #[])) → (∀ b, H b = none ∨ IsTab cs b ∨ ∃ o xs, H b = some (.frz o (.lst xs))) → SqL K H a (ns.map V.int) → HOk P w H s₁.heap → (∀ b, H b ≠ none → b = a ∨ IsTab cs b) → (H a ≠ none → K.lookup a = none) →
      codeAny (model P w) callerA (.call (.ref fa) ⟨[.ref a], []⟩) (fun r s' => r = .ok (.ret (.bool true)) ∧ OldK s₁.heap s'.heap ∧ s'.os = s₁.os ∧ AllBare s'.gens) s₁ := by
    intro H hT shape sq hok just free
    -- what is neither a list nor an empty record is not told
    have not_ : ∀ {b : Addr} {o : Obj}, s₁.heap.get? b = some o → (∀ us m, o.data ≠ .seq us m) → o.data ≠ .fields #[] → H b = none := by
      intro b o e n1 n2
      by_cases q : H b = none
      · exact q
      · rcases just b q with rfl | q
        · rw [at_] at e
          cases e
          exact (n1 _ _ rfl).elim
        · rw [tabAt b q] at e
          cases e
          exact (n2 rfl).elim
    have notD : ∀ {b : Addr} {o : Obj} {es : Array DictEntry} {ep : Nat}, s₁.heap.get? b = some o → o.data = .dict es ep → H b = none := by
      intro b o es ep e d
      refine not_ e (fun us m z => ?_) fun z => ?_ <;> · rw [d] at z; cases z
    have ns_ : ∀ {b : Addr} {m : Str → Option Value}, s₁.heap.Ns b m → (hidT s₁.heap H).Ns b m := by
      rintro b m ⟨o, es, ep, e, d, r⟩
      exact ⟨o, es, ep, hidT_get e (notD e d), d, r⟩
    have k_ : K.In (hidT s₁.heap H) := by
      intro b o e
      refine hidT_get (inK b o e) ?_
      by_cases q : H b = none
      · exact q
      · rcases just b q with rfl | z
        · rw [free q] at e
          cases e
        · obtain ⟨p, hp, rfl⟩ := z.ex
          rw [noK p hp] at e
          cases e
    obtain ⟨mc, l1, l2⟩ := lim
    have M : Mod K mg (hidT s₁.heap H) := ⟨k_, ns_ top, ⟨mb, ns_ bi, bt⟩, ⟨mc, ns_ l1, l2⟩⟩
    have TB : ∀ p ∈ cs, TabB (hidT s₁.heap H) mg p.1 p.2 := by
      intro p hp
      have pT := tabs p hp
      obtain ⟨oG, esG, epG, eG, dG, _⟩ := id top
      refine ⟨?code, ?mod, fun z => ?_⟩
      case code =>
        obtain ⟨o, us, file, tf, flags, tg, inF, text, tt, e1, r1, r2, r3, more⟩ := heads p hp
        refine ⟨o, us, file, tf, flags, tg, inF, text, tt, hidT_get e1 (not_ e1 (fun vs m z => ?_) fun z => ?_), r1, r2, r3, more⟩
        · exact Data.noConfusion (r2.symm.trans z)
        · have z2 := r2.symm.trans z
          cases z2
          simp at r3
      case mod =>
        obtain ⟨bm, ob, b1, b2, b3, b4, b5, b6⟩ := bmod
        refine ⟨bm, ob, b1, b2, ?_, ?_, hidT_get b3 (not_ b3 (fun vs m z => Data.noConfusion (b6.symm.trans z)) fun z => Data.noConfusion (b6.symm.trans z)), b4, b5, b6⟩
        · rintro rfl
          rw [eG] at b3
          cases b3
          exact Data.noConfusion (dG.symm.trans b6)
        · rintro rfl
          rw [pT] at b3
          cases b3
          cases b6
      · rw [z, pT] at eG
        cases eG
        cases dG
    have E0 : Env0 P w K mg (hidT s₁.heap H) callerA [] s₁ H :=
      ⟨rfl, M, fun b o e => of_hidT e, Nat.le_of_eq (hidT_size _ _), trivial, fun b hb => (List.not_mem_nil (show b ∈ ([] : List Addr) from hb)).elim, hok, .of_eq bare⟩
    refine codeAny_mono ((F _ k_ (ns_ top) TB).run callerA [] s₁ H ⟨[.ref a], []⟩ [.ref a] [.ref a] _ _ room rfl E0 (bnd s₁ (.ref a)) (.cons rfl .nil) (say H hT sq)) ?_
    intro r s' h
    match r, h with
    | .error e, h => exact h.elim
    | .ok .next, h => exact h.elim
    | .ok .brk, h => exact h.elim
    | .ok .cont, h => exact h.elim
    | .ok (.ret u), h =>
      obtain ⟨v, G, os, br, un, hk2, r1, q⟩ := h
      cases (show v = V.bl true from q)
      cases (show u = Value.bool true from r1)
      have kept : ∀ b o, ¬ IsTab cs b → s₁.heap.get? b = some o → s'.heap.get? b = some o := by
        intro b o nb e
        by_cases q : H b = none
        · exact un.keep b o e q (fun z => (List.not_mem_nil (show b ∈ ([] : List Addr) from z)).elim) (by simp)
        · rcases shape b with z | z | ⟨ob, xs, z⟩
          · exact (q z).elim
          · exact (nb z).elim
          · have y1 := (hok b _ z).1
            have y2 := (hk2 b _ (un.frzs b ob _ z)).1
            rw [e] at y1
            cases y1
            exact y2
      have grown : ∀ p ∈ cs, ∃ more : Array Value, s'.heap.get? p.2 = some { cls := .none, data := .fields more } := by
        intro p hp
        obtain ⟨more, z⟩ := un.tbls p.2 #[] (hT p hp)
        exact ⟨_, hk2 p.2 _ z⟩
      refine ⟨rfl, ⟨fun b o e => ?_, fun b o e => ?_⟩, os, br⟩
      · by_cases hb : IsTab cs b
        · obtain ⟨p, hp, rfl⟩ := hb.ex
          obtain ⟨more, hm⟩ := grown p hp
          have e' := (tabs p hp).symm.trans e
          cases Option.some.inj e'
          refine .inr (.inl ⟨((heads p hp).tab (tabs p hp)).isCodeTable, rfl, #[], more, rfl, ?_⟩)
          rw [Array.empty_append]
          exact hm
        · exact .inl (kept b o hb e)
      · by_cases hb : IsTab cs b
        · obtain ⟨p, hp, rfl⟩ := hb.ex
          obtain ⟨more, hm⟩ := grown p hp
          exact ⟨_, hm⟩
        · exact ⟨o, kept b o hb e⟩
  have lenOk : (ns.map V.int).length ≤ sizeLine := by rw [List.length_map]; exact small
  by_cases hk : K.lookup a = none
  · refine main (fun b => if b = a then some (HO.frz { cls := .type "list", data := .seq vs.toArray } (.lst (ns.map V.int))) else if IsTab cs b then some (.tbl #[]) else none) (fun p hp => ?_) (fun b => ?_) (.inl (.inr ⟨_, if_pos rfl⟩)) (fun b u z => ?_) (fun b z => ?_) fun _ => hk
    · show (if p.2 = a then _ else _) = _
      rw [if_neg (fun z => aNot (by rw [← z]; exact IsTab.of hp)), if_pos (IsTab.of hp)]
    · show (if b = a then _ else _) = none ∨ _ ∨ ∃ o xs, (if b = a then _ else _) = _
      by_cases hb : b = a
      · exact .inr (.inr ⟨_, _, if_pos hb⟩)
      · by_cases hb2 : IsTab cs b
        · exact .inr (.inl hb2)
        · exact .inl (by rw [if_neg hb, if_neg hb2])
    · have z' : (if b = a then some (HO.frz { cls := .type "list", data := .seq vs.toArray } (.lst (ns.map V.int))) else if IsTab cs b then some (.tbl #[]) else none) = some u := z
      by_cases hb : b = a
      · subst hb
        rw [if_pos rfl] at z'
        cases z'
        exact ⟨at_, lenOk, vs, _, rv, at_⟩
      · rw [if_neg hb] at z'
        by_cases hb2 : IsTab cs b
        · rw [if_pos hb2] at z'
          cases z'
          exact tabAt b hb2
        · rw [if_neg hb2] at z'
          cases z'
    · by_cases hb : b = a
      · exact .inl hb
      · by_cases hb2 : IsTab cs b
        · exact .inr hb2
        · exact (z (show (if b = a then _ else _) = none by rw [if_neg hb, if_neg hb2])).elim
  · obtain ⟨o, ho⟩ := Option.ne_none_iff_exists'.mp hk
    have e := inK a o ho
    rw [at_] at e
    cases e
    refine main (fun b => if IsTab cs b then some (.tbl #[]) else none) (fun p hp => if_pos (IsTab.of hp)) (fun b => ?_) (.inr ⟨_, vs.toArray, _, ho, rfl, rfl, rfl, by rw [List.size_toArray, lenV]; exact small, by simpa using rv⟩) (fun b u z => ?_) (fun b z => ?_)
      (fun z => (z (if_neg aNot)).elim)
    · by_cases hb : IsTab cs b
      · exact .inr (.inl hb)
      · exact .inl (if_neg hb)
    · have z' : (if IsTab cs b then some (HO.tbl #[]) else none) = some u := z
      by_cases hb : IsTab cs b
      · rw [if_pos hb] at z'
        cases z'
        exact tabAt b hb
      · rw [if_neg hb] at z'
        cases z'
    · by_cases hb : IsTab cs b
      · exact .inr hb
      · exact (z (if_neg hb)).elim
/-- what is known of the law's own def where it is called, tables told -/
def LawTG (l : PySem.W.OpenLaw) (w : World) (K : PySem.W.Frag) (k n : Nat) (x : Str) (mg : Str → Option Value) (fa : Addr) (h : Heap) : Prop :=
  ∃ (fd : FuncData) (cs : List (Addr × Addr)) (sp : Sp), (∀ p ∈ cs, h.get? p.2 = some emptyTab) ∧ (∀ p ∈ cs, K.lookup p.2 = none) ∧ (∀ p ∈ cs, PySem.W.CodeHd h p.1 p.2) ∧ (∀ (s : Shared) (u : Value), BindsTo s fd ⟨[u], []⟩ [(x, u)]) ∧
    (∀ (H : Hp) (a : Addr) (ns : List Int), ns.length ≤ n → (∀ z ∈ ns, Builtin.Int.intBits z ≤ 1048576) → (∀ p ∈ cs, H p.2 = some (.tbl #[])) → SqL K H a (ns.map V.int) → sp [.ref a] H (fun v _ => v = .bl true) fun _ _ _ => False) ∧
    ∀ base : Heap, K.In base → base.Ns mainGlobals mg → (∀ p ∈ cs, TabB base mg p.1 p.2) → FnG l.prog w K mg base CX0 k fa fd [x] sp
theorem walk_ofTG {l : PySem.W.OpenLaw} {n k : Nat} {q : Program} {loose : List Str} {XP : (Str → Option Value) → Heap → Prop} {YP : World → Heap → Prop} {d : DefRec} {K : Params → PySem.W.Frag} {x : Str}
    (hn : l.most = some n) (hn2 : n ≤ sizeLine) (hdf : d.params.defaults = []) (room : Room k callerA) (hY : ∀ (w : World) (h : Heap), YP w h → (K w.params).In h)
    (F : ∀ (w : World) (mg : Str → Option Value) (fa : Addr) (h : Heap), YP w h → (K w.params).In h → h.Ns mainGlobals mg → mg d.name = some (.ref fa) → LawTG l w (K w.params) k n x mg fa h) :
    PySem.W.WalkO q loose XP YP l.row.toRowW d [] (fun f vs => PySem.call f vs) := by
  refine Att.attach_callB hn hdf ?_
  intro w s₀ s₁ mg mb fa o pm cd doc a vs ns G Y ho hd hcd hmg hobj iv hlen hbits hg
  have inK := hY w _ Y
  obtain ⟨fd, cs, sp, hT, nT, C, hb, hsp, hF⟩ := F w mg fa _ Y inK G.T.g hmg
  exact law_callTG inK G.T.g G.T.b G.T.builtins G.T.nolimit hg hT nT C G.T.bmain hobj iv (Nat.le_trans hlen hn2) room hF hb fun H hH hS => hsp H a ns hlen hbits hH hS
end Own
set_option Elab.async false
set_option linter.all false
set_option maxRecDepth 100000
set_option maxHeartbeats 4000000
/-! calls of defs that may raise -/
namespace Own
open PySem PySem.Spec PyProof.Rows L2
/-- a def of the top that may raise, with all that a call wants -/
structure CalX (P : Program) (w : World) (K : PySem.W.Frag) (mg : Str → Option Value) (base : Heap) (k : Nat) (x : Str) (ps : List Str) (sp : Sp) : Prop where
  ex : ∃ f fd, FnOk P w K mg base (L2.CX P w) k f fd ps sp ∧ mg x = some (.ref f) ∧ PySem.W.keepIn K (.ref f) = true ∧ Binds K fd ps []
/-- .. called by keyword only -/
structure CalXK (P : Program) (w : World) (K : PySem.W.Frag) (mg : Str → Option Value) (base : Heap) (k : Nat) (x : Str) (ps ks : List Str) (gV : List V → List V) (sp : Sp) : Prop where
  ex : ∃ f fd g, FnOk P w K mg base (L2.CX P w) k f fd ps sp ∧ mg x = some (.ref f) ∧ PySem.W.keepIn K (.ref f) = true ∧ KBn K fd ps 0 ks g (fun _ zs => gV zs)
theorem pass_no {X : Cx} (σ : L2.St) : PassesAt (L2.CX X.prog X.w) X σ (fun _ _ _ => False) := by
  intro pins H s e s' I c
  obtain ⟨_, _, _, _, _, _, _, _, _, _, _, _, z⟩ := c
  exact z.elim
section
variable {X : Cx} {k : Nat} {x : Str} {ps ks : List Str} {sp : Sp} {p pos : Pos} {e : Expr} {es : List Expr} {kws : List Keyword} {t tk : TA} {W : WX} {gV : List V → List V}
/-- f(e, ..) where it is known that nothing is raised -/
theorem pe_calX (C : CalX X.prog X.w X.K X.mg X.base k x ps sp) (room : Room k X.A) (ha : PA X (e :: es) t) (hg : Gl X x := by rfl) (hdb : (x == ("__debug__" : Str)) = false := by decide)
    (he : starEach (e :: es) X.env = (false, eval e X.env) :: starEach es X.env := by rfl) (hpl : (backTo pos (starEach es X.env)).any (·.1) = false := by rfl) :
    PE X (.Call (.Name x p) (e :: es) [] pos) (tCallS sp (fun _ _ _ _ => False) t) := by
  obtain ⟨f, fd, F, m, kp, b⟩ := C.ex
  exact pe_callS F room hg m kp b (fun σ => pass_no σ) ha hdb he hpl
/-- f(e, ..) where the context takes what is raised -/
theorem pe_calE (C : CalX X.prog X.w X.K X.mg X.base k x ps sp) (tk : Takes X W) (room : Room k X.A) (ha : PA X (e :: es) t) (hg : Gl X x := by rfl) (hdb : (x == ("__debug__" : Str)) = false := by decide)
    (he : starEach (e :: es) X.env = (false, eval e X.env) :: starEach es X.env := by rfl) (hpl : (backTo pos (starEach es X.env)).any (·.1) = false := by rfl) :
    PE X (.Call (.Name x p) (e :: es) [] pos) (tCallS sp (fun σ => WE W σ) t) := by
  obtain ⟨f, fd, F, m, kp, b⟩ := C.ex
  exact pe_callS F room hg m kp b (fun σ => passAt tk σ) ha hdb he hpl
end
theorem passes_no {X : Cx} : Passes (L2.CX X.prog X.w) X (fun _ _ _ => False) := by
  intro pins σ H s e s' I c
  obtain ⟨_, _, _, _, _, _, _, _, _, _, _, _, z⟩ := c
  exact z.elim
section
variable {X : Cx} {k : Nat} {x : Str} {ps ks : List Str} {sp : Sp} {p pos : Pos} {kws : List Keyword} {tk : TA} {gV : List V → List V}
/-- f(k = v, ..) where it is known that nothing is raised -/
theorem pe_calXK (C : CalXK X.prog X.w X.K X.mg X.base k x ps ks gV sp) (room : Room k X.A) (hkw : PK X kws tk) (hg : Gl X x := by rfl) (hall : (backToKw pos (keywordEach kws X.env)).all (·.1.isSome) = true := by rfl)
    (hks : (backToKw pos (keywordEach kws X.env)).filterMap (·.1) = ks := by rfl) (hdb : (x == ("__debug__" : Str)) = false := by decide)
    (hpl : ((backTo pos (starEach [] X.env)).any (·.1) || (backToKw pos (keywordEach kws X.env)).any (·.1.isNone)) = false := by rfl) :
    PE X (.Call (.Name x p) [] kws pos) (tKw ks.length sp gV tk) := by
  obtain ⟨f, fd, g, F, m, kp, b⟩ := C.ex
  constructor
  intro pins s σ H Q I h
  refine wpAny_Call_Name_kw (ld_glob I hg m ?_ hdb)
  refine PySem.W.callWith_KW0 (h₀ := X.base) I.ok.mod.kin kp hall (thn (hkw.run pos pins s σ H _ I h) ?_) hpl
  rintro ws s2 ⟨zs, H2, I2, rz, l, q⟩
  refine ⟨I2.kIn, ?_⟩
  rw [hks]
  exact run_fnN (vs := []) (us := []) F room b passes_no I2 .nil rz rfl l q
end
/-- an exception class of one field, as a raise wants it -/
structure Rcl (P : Program) (w : World) (K : PySem.W.Frag) (mg : Str → Option Value) (base : Heap) (x : Str) (C : Addr) (fld : Str) : Prop where
  o : OexC K C
  at_ : mg x = some (.ref C)
  no : PySem.W.findIn K (.ref C) fld = some none
  ex : ∃ fI fd ps, PySem.W.findIn K (.ref C) "__init__" = some (some (.ref fI)) ∧ PySem.W.typeIn K (.ref fI) = some (.type "function") ∧ FnOk P w K mg base CX0 1 fI fd ps (spI1 K fld) ∧ Binds K fd ps []
theorem upd_del {H : Hp} {a d : Addr} {o1 o2 o3 u : HO} (ha : H a = none) (hd : d ≠ a) : L2.upd (L2.del (L2.upd (L2.upd (L2.upd H a o1) d o2) a o3) a) d u = L2.upd H d u := by
  funext b
  by_cases hb : b = d
  · subst hb
    rw [upd_same, upd_same]
  · rw [upd_ne hb, upd_ne hb]
    by_cases h : b = a
    · subst h
      rw [del_same, ha]
    · rw [del_ne h, upd_ne h, upd_ne hb, upd_ne h]
section
variable {X : Cx} {x fld : Str} {C : Addr} {p pos pos2 : Pos} {e : Expr} {te : TE} {W : WX}
/-- raise C(e) -/
theorem ps_raise1 (R : Rcl X.prog X.w X.K X.mg X.base x C fld) (hc : X.calm = true) (tk : Takes X W) (room : Room 2 X.A) (he : PE X e te) (hg : Gl X x := by rfl) (hdb : (x == ("__debug__" : Str)) = false := by decide)
    (hst : starEach [e] X.env = (false, eval e X.env) :: starEach [] X.env := by rfl) (hpl : (backTo pos (starEach [] X.env)).any (·.1) = false := by rfl) :
    PS X (.Raise (some (.Call (.Name x p) [e] [] pos)) none pos2) (fun _ σ H => te σ H fun y H1 => ∀ d, H1 d = none → W (.ref C) (some d) σ (upd H1 d (.xd [(fld, y)]))) := by
  obtain ⟨fI, fd, ps, iC, tI, F1, hb⟩ := R.ex
  have mk := pmk_oex (p := p) (pos := pos) R.o iC tI F1 room hb .nil pass0 hg R.at_ (pa_cons (pe_mono he) pa_nil hst) hdb hst hpl
  constructor
  intro pins s σ H D I h
  refine (ps_raise (pos := pos2) hc tk mk).run pins s σ H D I ⟨_, fun y H1 q => ?_, h⟩
  refine ⟨by show 1 ≤ 1000; decide, fun a ha => ?_⟩
  refine ⟨a, C, y, rfl, R.o, R.no, upd_same, fun dx hdx ne => ⟨rfl, dx, [(fld, y)], upd_same, Eq.trans (upd_ne ne) upd_same, ?_, ?_⟩⟩
  · rw [upd_ne ne] at hdx
    exact hdx
  · rw [upd_ne ne] at hdx
    rw [upd_del ha ne]
    exact q dx hdx
end
/-! rules whose reading names the written part, for another context than the def's own -/
theorem call_isXK {X : Cx} {K : PySem.W.Frag} (hK : X.K = K) : CallR X (.builtin "isinstance") (rIsX K) := hK ▸ call_isX
theorem call_isiK {X : Cx} {K : PySem.W.Frag} (hK : X.K = K) : CallR X (.builtin "isinstance") (rIsi K) := hK ▸ call_isi
theorem pe_exfL {X : Cx} {K : PySem.W.Frag} {e : Expr} {f : Str} {te : TE} {pos : Pos} (hK : X.K = K) (he : PE X e te) (hb : attributeBase e f X.env (eval e X.env) = eval e X.env := by rfl) : PE X (.Attribute e f pos) (tExF K f te) := hK ▸ pe_exf he hb
end Own
set_option Elab.async false
set_option linter.all false
set_option maxRecDepth 100000
set_option maxHeartbeats 4000000
/-! values of any kind, and what the checks tell of them -/
namespace Own
open PySem PySem.Spec PyProof.Rows L2
inductive An (H : Hp) : V → Prop
  | non : An H .non
  | bl (b : Bool) : An H (.bl b)
  | int (i : Int) : An H (.int i)
  | str {s : Str} (h : s.length ≤ 100000) : An H (.str s)
  | lst {a : Addr} {xs : List V} (h : H a = some (.lst xs)) : An H (.ref a)
  | tup {a : Addr} {xs : List V} (h : H a = some (.tup xs)) : An H (.ref a)
  | dK {a : Addr} {kvs : List (Key × V)} (h : H a = some (.dK kvs)) : An H (.ref a)
def tn (H : Hp) : V → String
  | .non => "NoneType"
  | .bl _ => "bool"
  | .int _ => "int"
  | .str _ => "str"
  | .ref a => match H a with
    | some (.lst _) => "list"
    | some (.tup _) => "tuple"
    | some (.dK _) => "dict"
    | _ => "?"
  | _ => "?"
def isT (n : String) (H : Hp) (v : V) : Bool := (tn H v == n) || ((n == "int") && (tn H v == "bool"))
theorem An.tyx {K : PySem.W.Frag} {H : Hp} {v : V} (h : An H v) : TyX K H v (.type (tn H v)) := by
  cases h with
  | non => exact .base .non
  | bl b => exact .base (.bl b)
  | int i => exact .base (.int i)
  | str h => exact .base (.str _)
  | @lst a xs h =>
    have e : tn H (.ref a) = "list" := by simp only [tn, h]
    rw [e]; exact .base (.lst h)
  | @tup a xs h =>
    have e : tn H (.ref a) = "tuple" := by simp only [tn, h]
    rw [e]; exact .base (.tup h)
  | @dK a kvs h =>
    have e : tn H (.ref a) = "dict" := by simp only [tn, h]
    rw [e]; exact .base (.dK h)
theorem tn_in {H : Hp} {v : V} (h : An H v) : tn H v ∈ ["NoneType", "bool", "int", "str", "list", "tuple", "dict"] := by
  cases h with
  | non => simp [tn]
  | bl b => simp [tn]
  | int i => simp [tn]
  | str h => simp [tn]
  | lst h => simp [tn, h]
  | tup h => simp [tn, h]
  | dK h => simp [tn, h]
theorem kits : ∀ a ∈ ["NoneType", "bool", "int", "str", "list", "tuple", "dict"], ∀ n ∈ ["int", "bool", "str", "list", "tuple"], kitB a n = some ((a == n) || ((n == "int") && (a == "bool"))) := by decide +kernel
theorem An.kit {K : PySem.W.Frag} {H : Hp} {v : V} {n : String} (h : An H v) (hn : n ∈ ["int", "bool", "str", "list", "tuple"]) : PySem.W.kitOne K (.type (tn H v)) (.type n) = some (isT n H v) := kit_ty (kits _ (tn_in h) _ hn)
def isI : V → Bool
  | .int _ => true
  | _ => false
theorem isI_an {H : Hp} {v : V} (h : An H v) : isI v = (isT "int" H v && !isT "bool" H v) := by
  cases h with
  | non => simp [isI, isT, tn]
  | bl b => simp [isI, isT, tn]
  | int i => simp [isI, isT, tn]
  | str h => simp [isI, isT, tn]
  | lst h => simp [isI, isT, tn, h]
  | tup h => simp [isI, isT, tn, h]
  | dK h => simp [isI, isT, tn, h]
theorem An.mono {H H' : Hp} {v : V} (s : Same H H') (h : An H v) : An H' v := by
  cases h with
  | non => exact .non
  | bl b => exact .bl b
  | int i => exact .int i
  | str h => exact .str h
  | lst h => exact .lst (s _ _ h)
  | tup h => exact .tup (s _ _ h)
  | dK h => exact .dK (s _ _ h)
theorem tn_mono {H H' : Hp} {v : V} (s : Same H H') (h : An H v) : tn H' v = tn H v := by
  cases h with
  | non => rfl
  | bl b => rfl
  | int i => rfl
  | str h => rfl
  | lst h => simp only [tn, h, s _ _ h]
  | tup h => simp only [tn, h, s _ _ h]
  | dK h => simp only [tn, h, s _ _ h]
def leB : V → V → Bool
  | .int i, .int j => decide (i ≤ j)
  | _, _ => true
def inB (v lo hi : V) : Bool := isI v && (leB lo v && leB v hi)
def Bd (v : V) : Prop := v = .non ∨ ∃ i, v = .int i
theorem ite_and {c : Bool} {A : Prop} {Q : VK} {b : Bool} {H : Hp} (q : Q (.bl (c && b)) H) (h : c = true → Q (.bl b) H → A) : if c = true then A else Q (.bl false) H := by
  cases c with
  | false => exact q
  | true => exact h rfl q
theorem isI_or {v : V} : (∃ i, v = .int i) ∨ isI v = false := by
  cases v <;> first | exact .inl ⟨_, rfl⟩ | exact .inr rfl
def rowB (H : Hp) (v : V) (a b : Int) : Bool := match v with
  | .ref p => match H p with
    | some (.lst xs) => decide (a ≤ xs.length) && decide ((xs.length : Int) ≤ b)
    | some (.tup xs) => decide (a ≤ xs.length) && decide ((xs.length : Int) ≤ b)
    | _ => false
  | _ => false
def sigB : V → Int → Int → Bool
  | .str s, a, b => decide (a ≤ s.length) && (decide ((s.length : Int) ≤ b) && decide (Txt.stripChars s "01" = ""))
  | _, _, _ => false
theorem isT_str {H : Hp} {v : V} (ha : An H v) : (∃ s : Str, v = .str s ∧ s.length ≤ 100000 ∧ isT "str" H v = true) ∨ (isT "str" H v = false ∧ ∀ a b, sigB v a b = false) := by
  cases ha with
  | str h => exact .inl ⟨_, rfl, h, rfl⟩
  | non => exact .inr ⟨rfl, fun _ _ => rfl⟩
  | bl b => exact .inr ⟨rfl, fun _ _ => rfl⟩
  | int i => exact .inr ⟨rfl, fun _ _ => rfl⟩
  | lst h => exact .inr ⟨by simp [isT, tn, h], fun _ _ => rfl⟩
  | tup h => exact .inr ⟨by simp [isT, tn, h], fun _ _ => rfl⟩
  | dK h => exact .inr ⟨by simp [isT, tn, h], fun _ _ => rfl⟩
def nameB (v : V) : Bool := sigB v 1 60
def items (H : Hp) : V → List V
  | .ref p => match H p with
    | some (.lst xs) => xs
    | some (.tup xs) => xs
    | _ => []
  | _ => []
structure An2 (H : Hp) (v : V) : Prop where
  an : An H v
  it : ∀ x ∈ items H v, An H x
theorem items_mono {H H' : Hp} {v : V} (s : Same H H') (h : An H v) : items H' v = items H v := by
  cases h with
  | non => rfl
  | bl b => rfl
  | int i => rfl
  | str h => rfl
  | lst h => simp only [items, h, s _ _ h]
  | tup h => simp only [items, h, s _ _ h]
  | dK h => simp only [items, h, s _ _ h]
theorem An2.mono {H H' : Hp} {v : V} (s : Same H H') (h : An2 H v) : An2 H' v :=
  ⟨h.an.mono s, fun x hx => (h.it x (by rw [items_mono s h.an] at hx; exact hx)).mono s⟩
def partB (x : V) : Bool := inB x (.int 1) (.int 1000000)
def pairB (H : Hp) (v : V) : Bool := rowB H v 2 2 && (items H v).all partB
def spIsInt : Sp := fun vs H Q _ => ∃ v, vs = [v] ∧ An H v ∧ Q (.bl (isI v)) H
def spWithin : Sp := fun vs H Q _ => ∃ v lo hi, vs = [v, lo, hi] ∧ An H v ∧ Bd lo ∧ Bd hi ∧ Q (.bl (inB v lo hi)) H
def spRow : Sp := fun vs H Q _ => ∃ v a b, vs = [v, .int a, .int b] ∧ An H v ∧ ∀ H', Same H H' → Q (.bl (rowB H v a b)) H'

def spSig : Sp := fun vs H Q _ => ∃ v a b, vs = [v, .int a, .int b] ∧ An H v ∧ Q (.bl (sigB v a b)) H
def spAny1 (r : Hp → V → Bool) : Sp := fun vs H Q _ => ∃ v, vs = [v] ∧ An H v ∧ Q (.bl (r H v)) H
def spPair : Sp := fun vs H Q _ => ∃ v, vs = [v] ∧ An2 H v ∧ ∀ H', Same H H' → Q (.bl (pairB H v)) H'
end Own
set_option Elab.async false
set_option linter.all false
set_option maxRecDepth 100000
set_option maxHeartbeats 4000000
/-! sorted of texts, any number of them -/
namespace Own
open PySem PySem.Spec PyProof.Rows L2
def txV : Value → Str
  | .str z _ => z
  | _ => ""
def ltV (v u : Value) : Bool := decide ((txV v).cps.toList < (txV u).cps.toList)
theorem swo_txt : SrtO.Swo ltV := by
  constructor
  · intro v u h
    have h1 := of_decide_eq_true h
    exact decide_eq_false (List.lt_asymm h1)
  · intro x y z h1 h2
    have a := of_decide_eq_false h1
    have b := of_decide_eq_false h2
    refine decide_eq_false ?_
    rw [List.not_lt] at a b ⊢
    exact List.le_trans a b
theorem strs_all : ∀ {vs : List Value} {zs : List Str}, StrsAre vs zs → ∀ v ∈ vs, ∃ z t, v = Value.str z t
  | _, _, .nil, _, h => nomatch h
  | _, _, .cons z t r, v, h => by
    cases h with
    | head => exact ⟨z, t, rfl⟩
    | tail _ h => exact strs_all r v h
theorem strs_of : ∀ {vs : List Value}, (∀ v ∈ vs, ∃ z t, v = Value.str z t) → StrsAre vs (vs.map txV)
  | [], _ => .nil
  | v :: vs, h => by
    obtain ⟨z, t, rfl⟩ := h v (.head _)
    exact .cons z t (strs_of fun u hu => h u (.tail _ hu))
theorem strs_txV : ∀ {vs : List Value} {zs : List Str}, StrsAre vs zs → vs.map txV = zs
  | _, _, .nil => rfl
  | _, _, .cons z t r => congrArg (z :: ·) (strs_txV r)
/-- sorted(xs), texts, any number of them -/
def rSortedL (K : PySem.W.Frag) : List V → Hp → VK → Prop := fun vs H Q => ∃ (a : Addr) (xs : List Str), vs = [V.ref a] ∧ SqL K H a (xs.map V.str) ∧
  ∀ (ys : List Str) (p : Addr), ys.Perm xs → ys.Pairwise (fun x y => ¬ y.cps.toList < x.cps.toList) → H p = none → Q (.ref p) (upd H p (.lst (ys.map V.str)))
theorem cr_sortedL {X : Cx} : CallR X (.builtin "sorted") (rSortedL X.K) := by
  intro pins s σ H vs us Q I r h
  obtain ⟨a, xs, rfl, hs, q⟩ := h
  obtain ⟨its, rv, hl, hz⟩ := I.list hs
  rw [Vals.ref1 r]
  have hS := rv.strs
  refine SrtO.sorted_ord swo_txt hl.isList (by rw [← rv.length]; exact hz) (fun h2 h₁ a' _ _ => ?_) fun out h1 h2 => ?_
  · intro h' _
    refine ⟨oneType', fun Q E hq => ?_, fun p q hp hq => ?_⟩
    · match its, hS, h2 with
      | v1 :: v2 :: rest, hS, _ =>
        rw [keyKind_strs hS]
        exact wpAny_pure hq
      | [v], _, h => exact absurd h (by simp)
      | [], _, h => exact absurd h (by simp)
    · obtain ⟨z, t, e⟩ := strs_all hS _ hp
      obtain ⟨z', t', e'⟩ := strs_all hS _ hq
      show wpAny _ _ (keyLt' oneType' p.1 q.1) (fun r s' => s' = _ ∧ r = ltV p.1 q.1) _ _
      rw [e, e', keyLt'_oneType]
      exact oneLt_str ⟨rfl, rfl⟩
  · have all := strs_all hS
    have k1 : StrsAre out (out.map txV) := strs_of fun v hv => all v (h2.perm.mem_iff.mp hv)
    have k2 : (out.map txV).Perm xs := by
      have e := h2.perm.map txV
      rw [strs_txV hS] at e
      exact e
    have k3 : (out.map txV).Pairwise (fun x y => ¬ y.cps.toList < x.cps.toList) := List.pairwise_map.mpr (h1.imp fun {x y} h => of_decide_eq_false (p := (txV y).cps.toList < (txV x).cps.toList) h)
    obtain ⟨ep, at_⟩ := PyProof.Rows.sortedAll_at s.heap its out.toArray
    have few : ((out.map txV).map V.str).length ≤ sizeLine := by
      rw [List.length_map] at hz ⊢
      rw [k2.length_eq]
      exact hz
    exact ⟨.ref _, upd H (s.heap.objs.size + 1) (.lst ((out.map txV).map V.str)), I.laid (t' := s.toks) (fun _ _ => PyProof.Rows.sortedAll_old) (Nat.le_succ _) ⟨few, out, ep, vals_of_strs k1, at_⟩, rfl, q _ _ k2 k3 (I.hok.fresh (Nat.le_succ _))⟩
/-- what sorted answers of the texts at a -/
def SortsTo (xs : List Str) (H : Hp) (Q : VK) : Prop := ∀ (ys : List Str) (p : Addr), ys.Perm xs → ys.Pairwise (fun x y => ¬ y.cps.toList < x.cps.toList) → H p = none → Q (.ref p) (upd H p (.lst (ys.map V.str)))
theorem txt_sortable {prog : Program} {w : World} {A : Around} {s : Shared} {a : Addr} {its : List Value} {zs : List Str} (hS : StrsAre its zs) (h2 : 2 ≤ its.length) : SrtO.SortableO prog w A s a its ltV := by
  intro h' _
  refine ⟨oneType', fun Q E hq => ?_, fun p q hp hq => ?_⟩
  · match its, hS, h2 with
    | v1 :: v2 :: rest, hS, _ =>
      rw [keyKind_strs hS]
      exact wpAny_pure hq
    | [v], _, h => exact absurd h (by simp)
    | [], _, h => exact absurd h (by simp)
  · obtain ⟨z, t, e⟩ := strs_all hS _ hp
    obtain ⟨z', t', e'⟩ := strs_all hS _ hq
    show wpAny _ _ (keyLt' oneType' p.1 q.1) (fun r s' => s' = _ ∧ r = ltV p.1 q.1) _ _
    rw [e, e', keyLt'_oneType]
    exact oneLt_str ⟨rfl, rfl⟩
theorem txt_out {its out : List Value} {xs : List Str} (hS : StrsAre its xs) (h1 : SrtO.Srtd ltV out) (h2 : SrtO.Stb ltV out its) :
    StrsAre out (out.map txV) ∧ (out.map txV).Perm xs ∧ (out.map txV).Pairwise (fun x y => ¬ y.cps.toList < x.cps.toList) := by
  have all := strs_all hS
  refine ⟨strs_of fun v hv => all v (h2.perm.mem_iff.mp hv), ?_, ?_⟩
  · have e := h2.perm.map txV
    rw [strs_txV hS] at e
    exact e
  · exact List.pairwise_map.mpr (h1.imp fun {x y} h => of_decide_eq_false (p := (txV y).cps.toList < (txV x).cps.toList) h)
/-- the items of a list or a tuple, gathered: the heap behind it -/
theorem gather {prog : Program} {w : World} {A : Around} {E : Value → Shared → Prop} {s : Shared} {Q : List Value → Shared → Prop} (it : Addr) {T : String} {o : Obj} {items : Array Value} {n : Nat} (hT : T = "list" ∨ T = "tuple")
    (ho : s.heap.get? it = some o) (hc : o.cls = .type T) (hd : o.data = .seq items n) (hsz : items.size ≤ sizeLine)
    (hQ : ∀ h', s.heap.objs.size ≤ h'.objs.size → (∀ b u, s.heap.get? b = some u → h'.get? b = some u) → Q items.toList { s with heap := h' }) : wpAny (model prog w) A (collect (.ref it)) Q E s := by
  let new : Obj := { cls := .type "list", data := .seq ([] : List Value).toArray }
  let h2 : Heap := (s.heap.push new).update s.heap.objs.size (Obj.mapSeq (· ++ items))
  have at0 : (s.heap.push new).get? s.heap.objs.size = some { cls := .type "list", data := .seq #[] 0 } := Heap.get?_push_size _ rfl
  have at2 := Heap.get?_update_self (Obj.mapSeq (· ++ items)) at0 rfl
  have sz2 : s.heap.objs.size ≤ h2.objs.size := by
    show s.heap.objs.size ≤ ((s.heap.push new).update s.heap.objs.size (Obj.mapSeq (· ++ items))).objs.size
    rw [Heap.size_update, Heap.size_push]
    exact Nat.le_succ _
  have keep2 : ∀ b u, s.heap.get? b = some u → h2.get? b = some u := fun b u e =>
    (Heap.get?_update_other _ _ (Nat.ne_of_gt (Heap.lt_size e))).trans (Heap.get?_push_of_some _ e)
  unfold collect
  refine wpAny_bind (wpAny_runValue (codeAny_builtin F.entry_proto_collect ?_))
  rw [Around.under_plainId (A := A) F.plain_proto_collect _]
  show wpAny _ A.in1 (newList [] >>= fun l => again (.builtin "list.__iadd__" ⟨[l, .ref it], []⟩)) _ _ s
  refine wpAny_bind (wpAny_newObj_type (wpAny_pure ⟨plainId_quiet F.plain_list_iadd _, codeAny_builtin F.entry_list_iadd ?_⟩))
  rw [Around.under_plainId (A := A) F.plain_list_iadd _]
  show wpAny _ A.in1 (Builtin.List.listExtendWith (.ref s.heap.objs.size) (.ref it) (.ref s.heap.objs.size)) _ _ { s with heap := s.heap.push new }
  have last : wpAny (model prog w) A (do
      match (← load s.heap.objs.size).data with
      | .seq xs _ => pure xs.toList
      | _ => unsupported "internal:collect") Q E { s with heap := h2 } := by
    refine wpAny_bind (wpAny_load at2 (wpAny_pure ?_))
    have e : ((#[] : Array Value) ++ items).toList = items.toList := by simp
    show Q ((#[] : Array Value) ++ items).toList _
    rw [e]
    exact hQ _ sz2 keep2
  refine wpAny_mono (wpAny_extend_seq (hsz := hsz) (A := A) (R := fun r s' => r = .ok (.ret (.ref s.heap.objs.size)) ∧ s' = { s with heap := h2 }) (s := { s with heap := s.heap.push new })
    _ it _ 0 hT at0 (Heap.get?_push_of_some _ ho) hc hd ⟨rfl, rfl⟩) (fun fin s' z => ?_) (fun e s' z => by cases z.1)
  match fin, z with
  | .done f, z =>
    obtain ⟨e, rfl⟩ := z
    cases e
    exact last
  | .again c, z =>
    refine ⟨z.1, codeAny_mono z.2 fun r s2 q => ?_⟩
    obtain ⟨rfl, rfl⟩ := q
    exact last
/-- sorted(xs), a list or a tuple of texts -/
def rSortedA (K : PySem.W.Frag) : List V → Hp → VK → Prop := fun vs H Q => ∃ (a : Addr) (xs : List Str), vs = [V.ref a] ∧ (SqL K H a (xs.map V.str) ∨ SqT K H a (xs.map V.str)) ∧ SortsTo xs H Q
theorem cr_sortedA {X : Cx} : CallR X (.builtin "sorted") (rSortedA X.K) := by
  intro pins s σ H vs us Q I r h
  obtain ⟨a, xs, rfl, hs | hs, q⟩ := h
  · exact cr_sortedL pins s σ H _ us Q I r ⟨a, xs, rfl, hs, q⟩
  · obtain ⟨its, rv, ⟨o, ho, hc, n, hd⟩, hz⟩ := I.tuple hs
    rw [Vals.ref1 r]
    have hS := rv.strs
    have len : its.length = xs.length := by rw [← rv.length, List.length_map]
    have zl : its.length ≤ sizeLine := by rw [len]; rw [List.length_map] at hz; exact hz
    refine Calls.call_function_entry kind_sorted plain_sorted entry_sorted (args_sorted1 _) ?_
    unfold Builtin.«sorted»
    refine wpAny_bind (m := checkCount "sorted" 1 1 _) (wpAny_pure ?_)
    refine wpAny_bind (gather a (.inr rfl) ho hc hd (by rw [List.size_toArray]; exact zl) fun h1 big keep1 => ?_)
    have hz1 : its.toArray.toList.length ≤ sizeLine := zl
    refine wpAny_bind (wpAny_newList ?_ hz1)
    have at1 : (h1.push (seqObj "list" its.toArray 0)).get? h1.objs.size = some (seqObj "list" its.toArray 0) := Heap.get?_push_size _ rfl
    refine wpAny_bind (wpAny_holding (wpAny_call_entry slot_list_sort ⟨_, at1, rfl⟩ entry_list_sort (SrtO.list_sort_ord (vs := its) swo_txt at1 zl (fun h2 => txt_sortable hS h2) fun out o1 o2 => ⟨_, rfl, ?_⟩) (args_list_sort _)))
    obtain ⟨k1, k2, k3⟩ := txt_out hS o1 o2
    obtain ⟨ep, at_⟩ := PyProof.Rows.sortedHeap_at (vs := its) (out := out.toArray) at1
    have few : ((out.map txV).map V.str).length ≤ sizeLine := by
      rw [List.length_map, k2.length_eq]
      rw [len] at zl
      exact zl
    refine wpAny_pure ⟨_, rfl, .ref h1.objs.size, upd H h1.objs.size (.lst ((out.map txV).map V.str)), I.laid (t' := s.toks) (fun b u e => ?_) big ⟨few, out, ep, vals_of_strs k1, at_⟩, rfl, q _ _ k2 k3 (I.hok.fresh big)⟩
    have lt : b < h1.objs.size := Heap.lt_size (keep1 b u e)
    rw [PyProof.Rows.sortedHeap_old (Nat.ne_of_lt lt) (Heap.lt_size (Heap.get?_push_of_some _ (keep1 b u e)))]
    exact Heap.get?_push_of_some _ (keep1 b u e)
end Own
set_option Elab.async false
set_option linter.all false
set_option maxRecDepth 100000
set_option maxHeartbeats 4000000
/-! texts as lists of signs: none of which begins another one -/
namespace Own
open PySem PySem.Spec PyProof.Rows
def ApartL (l : List (List Nat)) : Prop := l.Pairwise fun a b => ¬ a <+: b ∧ ¬ b <+: a
theorem ApartL.perm {l m : List (List Nat)} (p : l.Perm m) : ApartL l ↔ ApartL m := p.pairwise_iff fun ⟨h1, h2⟩ => ⟨h2, h1⟩
theorem pre_le : ∀ {a b : List Nat}, a <+: b → ¬ b < a
  | [], _, _ => List.not_lt_nil _
  | x :: a, b, h => by
    cases b with
    | nil => simp at h
    | cons y b =>
      rw [List.cons_prefix_cons] at h
      obtain ⟨rfl, h⟩ := h
      intro z
      rcases List.cons_lt_cons_iff.mp z with q | ⟨_, q⟩
      · exact Nat.lt_irrefl _ q
      · exact pre_le h q
theorem le_pre : ∀ {a b c : List Nat}, ¬ b < a → ¬ c < b → a <+: c → a <+: b
  | [], b, _, _, _, _ => List.nil_prefix
  | x :: a, b, c, h1, h2, h => by
    cases c with
    | nil => simp at h
    | cons y c =>
      rw [List.cons_prefix_cons] at h
      obtain ⟨rfl, h⟩ := h
      cases b with
      | nil => exact (h1 (List.nil_lt_cons _ _)).elim
      | cons z b =>
        rw [List.cons_lt_cons_iff, not_or] at h1 h2
        have e : x = z := by omega
        subst e
        rw [List.cons_prefix_cons]
        exact ⟨rfl, le_pre (fun q => h1.2 ⟨rfl, q⟩) (fun q => h2.2 ⟨rfl, q⟩) h⟩
theorem le_anti {a b : List Nat} (h1 : ¬ b < a) (h2 : ¬ a < b) : a = b := by
  rw [List.not_lt] at h1 h2
  exact List.le_antisymm h1 h2
/-- of each two neighbours the first begins the second somewhere -/
def adj : List (List Nat) → Bool
  | a :: b :: r => a.isPrefixOf b || adj (b :: r)
  | _ => false
theorem adj_iff : ∀ {l : List (List Nat)}, l.Pairwise (fun x y => ¬ y < x) → (adj l = true ↔ ¬ ApartL l)
  | [], _ => by simp [adj, ApartL]
  | [a], _ => by simp [adj, ApartL]
  | a :: b :: r, h => by
    have h' := List.pairwise_cons.mp h
    have ih := adj_iff h'.2
    have hb := (List.pairwise_cons.mp h'.2).1
    have key : (∀ y ∈ b :: r, ¬ a <+: y ∧ ¬ y <+: a) ↔ ¬ a <+: b := by
      constructor
      · intro k
        exact (k b List.mem_cons_self).1
      · intro k y hy
        have up : ¬ y < b := by
          rcases List.mem_cons.mp hy with rfl | hy
          · exact List.lt_irrefl _
          · exact hb y hy
        have one : ¬ a <+: y := fun z => k (le_pre (h'.1 b List.mem_cons_self) up z)
        refine ⟨one, fun z => one ?_⟩
        have e := le_anti (h'.1 y hy) (pre_le z)
        rw [← e]
        exact List.prefix_rfl
    have eq : ApartL (a :: b :: r) ↔ ¬ a <+: b ∧ ApartL (b :: r) := by
      unfold ApartL
      rw [List.pairwise_cons, key]
    rw [eq]
    show (a.isPrefixOf b || adj (b :: r)) = true ↔ _
    rw [Bool.or_eq_true, List.isPrefixOf_iff_prefix, ih, Classical.not_and_iff_not_or_not, Classical.not_not]
theorem adj_range : ∀ l : List (List Nat), adj l = ((List.range (l.length - 1)).map fun i => (l.getD i []).isPrefixOf (l.getD (i + 1) [])).any id
  | [] => rfl
  | [_] => rfl
  | a :: b :: r => by
    have ih := adj_range (b :: r)
    show (a.isPrefixOf b || adj (b :: r)) = _
    rw [ih, show (a :: b :: r).length - 1 = ((b :: r).length - 1) + 1 by simp, List.range_succ_eq_map]
    simp [List.any_map, Function.comp_def]
end Own
namespace Own
open PySem PySem.Spec PyProof.Rows
theorem starts_pre (x y : Str) : Txt.startswith x y = (y.cps.toList).isPrefixOf x.cps.toList := by
  have lx : x.cps.toList.length = x.length := by simp [Str.length]
  have ly : y.cps.toList.length = y.length := by simp [Str.length]
  unfold Txt.startswith
  rw [StrLaws.subAt_eq, List.drop_zero, Bool.eq_iff_iff, Bool.and_eq_true, decide_eq_true_eq, beq_iff_eq, List.isPrefixOf_iff_prefix, List.prefix_iff_eq_take, ly]
  constructor
  · intro h
    exact h.2.symm
  · intro h
    refine ⟨?_, h.symm⟩
    have e := congrArg List.length h
    rw [List.length_take, lx, ly] at e
    omega
end Own
set_option Elab.async false
set_option linter.all false
set_option maxRecDepth 100000
set_option maxHeartbeats 4000000
/-! [f(x) for x in xs], where nothing that stood before is changed -/
namespace Own
open PySem PySem.Spec PyProof.Rows L2
theorem same_app {H H' : Hp} {D : Addr} {o o' : HO} (s : Same (upd H D o) H') (hD : H D = none) : Same H (upd H' D o') := fun b u e => by
  have nb := ne_of_none e hD
  rw [upd_ne nb]
  exact s b u ((upd_ne nb).trans e)
theorem lc_map {J : It} {xs : List V} {G : Hp → Prop} {f : V → V} {te : TE} {vs : List Nat} {σ : L2.St} {H1 : Hp} {D : Addr} {Qd : Hp → Prop} {j : Nat} (w : Walk J xs.length G (YAt xs)) (hD : H1 D = none) (hG : ∀ H', Same H1 H' → G H') (few : xs.length ≤ sizeLine)
    (wp : ∀ x : V, wipe ((wipe σ vs).set j (some x)) vs = wipe σ vs)
    (hs : ∀ (i : Nat) (x : V) (H' : Hp) (R : VK), xs[i]? = some x → Same H1 H' → (∀ H'', Same H' H'' → R (f x) H'') → te ((wipe σ vs).set j (some x)) H' R) (hd : ∀ H', Same H1 H' → H' D = some (.lst (xs.map f)) → Qd H') :
    ∃ W : Nat → Nat → Hp → Prop, (∃ m, W 0 m (upd H1 D (.lst []))) ∧ ∀ i m H, W i m H →
      (J.stop i H ∧ Qd H) ∨ (J.go i H ∧ ∃ Nx : Hp → Prop, (∀ H', Nx H' → ∃ m', m' < m ∧ W (i + 1) m' H') ∧ ∀ x H', J.yld i H x H' → gName j x (wipe σ vs) H' fun σ2 H2 => wipe σ2 vs = wipe σ vs ∧ tYes σ2 H2 fun b H3 =>
        if b = true then te σ2 H3 fun y H4 => ∃ acc, H4 D = some (.lst acc) ∧ acc.length < sizeLine ∧ Nx (upd H4 D (.lst (acc ++ [y]))) else Nx H3) := by
  refine lc_it w (fun i H' => Same H1 H' ∧ H' D = some (.lst ((xs.take i).map f))) ⟨same_new hD, by rw [upd_same]; rfl⟩ (fun _ _ _ p => hG _ p.1) (fun i x H H' hi ⟨s, hl⟩ y => ?_) (fun H' ⟨s, hl⟩ => hd H' s (by rw [hl, List.take_length]))
  obtain ⟨rfl, hx⟩ := y
  refine ⟨wp x, yes_if ?_⟩
  refine hs i x H' _ hx s fun H2 s2 => ?_
  refine ⟨_, s2 _ _ hl, ?_, same_mut (s.trans s2) hD, ?_⟩
  · rw [List.length_map, List.length_take]
    omega
  · rw [upd_same, take_map_succ _ hx]
end Own
namespace Own
open PySem PySem.Spec PyProof.Rows L2
theorem take_rng {n i : Nat} (f : Nat → V) (_h : i < n) : (List.range (i + 1)).map f = (List.range i).map f ++ [f i] := by
  rw [List.range_succ, List.map_append]
  rfl
/-- .. over what yields f0 0, f0 1, .. -/
theorem lc_rng {J : It} {n : Nat} {G : Hp → Prop} {f0 f : Nat → V} {te : TE} {vs : List Nat} {σ : L2.St} {H1 : Hp} {D : Addr} {Qd : Hp → Prop} {j : Nat} (w : Walk J n G (YFn f0)) (hD : H1 D = none) (hG : ∀ H', Same H1 H' → G H') (few : n ≤ sizeLine)
    (wp : ∀ x : V, wipe ((wipe σ vs).set j (some x)) vs = wipe σ vs)
    (hs : ∀ (i : Nat) (H' : Hp) (R : VK), i < n → Same H1 H' → (∀ H'', Same H' H'' → R (f i) H'') → te ((wipe σ vs).set j (some (f0 i))) H' R) (hd : ∀ H', Same H1 H' → H' D = some (.lst ((List.range n).map f)) → Qd H') :
    ∃ W : Nat → Nat → Hp → Prop, (∃ m, W 0 m (upd H1 D (.lst []))) ∧ ∀ i m H, W i m H →
      (J.stop i H ∧ Qd H) ∨ (J.go i H ∧ ∃ Nx : Hp → Prop, (∀ H', Nx H' → ∃ m', m' < m ∧ W (i + 1) m' H') ∧ ∀ x H', J.yld i H x H' → gName j x (wipe σ vs) H' fun σ2 H2 => wipe σ2 vs = wipe σ vs ∧ tYes σ2 H2 fun b H3 =>
        if b = true then te σ2 H3 fun y H4 => ∃ acc, H4 D = some (.lst acc) ∧ acc.length < sizeLine ∧ Nx (upd H4 D (.lst (acc ++ [y]))) else Nx H3) := by
  refine lc_it w (fun i H' => Same H1 H' ∧ H' D = some (.lst ((List.range i).map f))) ⟨same_new hD, by rw [upd_same]; rfl⟩ (fun _ _ _ p => hG _ p.1) (fun i x H H' hi ⟨s, hl⟩ y => ?_) (fun H' ⟨s, hl⟩ => hd H' s hl)
  obtain ⟨rfl, rfl⟩ := y
  refine ⟨wp _, yes_if ?_⟩
  refine hs i H' _ hi s fun H2 s2 => ?_
  refine ⟨_, s2 _ _ hl, ?_, same_mut (s.trans s2) hD, ?_⟩
  · rw [List.length_map, List.length_range]
    omega
  · rw [upd_same, take_rng f hi]
end Own
namespace Own
open PySem PySem.Spec PyProof.Rows L2
/-! rules whose reading names the written part, for a comprehension's own context -/
theorem ix_listK {X : Cx} {K : PySem.W.Frag} (hK : X.K = K) : IxR X (rIxL K) := hK ▸ ix_list
theorem pe_bmK {X : Cx} {K : PySem.W.Frag} {o e : Expr} {es : List Expr} {to : TE} {t : TA} {name : Str} {apos cpos : Pos} {T id : String} {r : V → List V → Hp → VK → Prop} (hK : X.K = K) (pa : PlainAttrs T) (slot : Slot T name id) (hty : typeOf (.builtin id) = pure (.type "method_descriptor")) (hm : MtR X id r) (ho : PE X o to) (ha : PA X (e :: es) t)
    (hbase : attributeBase o name X.env (eval o X.env) = eval o X.env := by rfl)
    (hfew : ((backTo cpos (starEach (e :: es) X.env)).all (fun x => !x.1) && (backToKw cpos (keywordEach [] X.env)).all (fun x => x.1.isSome)
      && decide ((e :: es).length + ([] : List Keyword).length + (if ([] : List Keyword).isEmpty then 0 else 1) < 30)) = true := by rfl)
    (hline : (apos.endLine == cpos.line) = true := by rfl) (hs : starEach (e :: es) X.env = (false, eval e X.env) :: starEach es X.env := by rfl) (hplain : (backTo cpos (starEach es X.env)).any (·.1) = false := by rfl) :
    PE X (.Call (.Attribute o name apos) (e :: es) [] cpos) (tBM K T r to t) := hK ▸ pe_bm pa slot hty hm ho ha hbase hfew hline hs hplain
end Own
set_option Elab.async false
set_option linter.all false
set_option maxRecDepth 100000
set_option maxHeartbeats 4000000
/-! a fraction below a power of 2, reduced by its greatest common divisor, or by halves -/
namespace Own
def half1 (p : Nat × Nat) : Nat × Nat := if p.1 % 2 = 0 ∧ p.2 % 2 = 0 then (p.1 / 2, p.2 / 2) else p
def halves : Nat → Nat × Nat → Nat × Nat
  | 0, p => p
  | n + 1, p => halves n (half1 p)
theorem halves_fix {p : Nat × Nat} (h : half1 p = p) : ∀ n, halves n p = p
  | 0 => rfl
  | n + 1 => by
    show halves n (half1 p) = p
    rw [h]
    exact halves_fix h n
theorem odd_gcd {u : Nat} (h : u % 2 = 1) (m : Nat) : Nat.gcd u (2 ^ m) = 1 := by
  have c : Nat.Coprime u 2 := by
    have := Nat.gcd_rec 2 u
    rw [h] at this
    unfold Nat.Coprime
    rw [Nat.gcd_comm, this]
    rfl
  exact Nat.Coprime.pow_right m c
theorem halves_gcd : ∀ (m n u : Nat), m ≤ n → halves n (u, 2 ^ m) = (u / Nat.gcd u (2 ^ m), 2 ^ m / Nat.gcd u (2 ^ m))
  | 0, n, u, _ => by
    rw [Nat.pow_zero, Nat.gcd_one_right, Nat.div_one]
    exact halves_fix (by simp [half1]) n
  | m + 1, n, u, h => by
    by_cases hu : u % 2 = 0
    · obtain ⟨k, rfl⟩ : ∃ k, u = 2 * k := ⟨u / 2, by omega⟩
      obtain ⟨n', rfl⟩ : ∃ n', n = n' + 1 := ⟨n - 1, by omega⟩
      have e : half1 (2 * k, 2 ^ (m + 1)) = (k, 2 ^ m) := by
        have : 2 ^ (m + 1) = 2 * 2 ^ m := by rw [Nat.pow_succ, Nat.mul_comm]
        simp [half1, this]
      show halves n' (half1 (2 * k, 2 ^ (m + 1))) = _
      rw [e, halves_gcd m n' k (by omega), show 2 ^ (m + 1) = 2 * 2 ^ m by rw [Nat.pow_succ, Nat.mul_comm], Nat.gcd_mul_left, Nat.mul_div_mul_left _ _ (by decide), Nat.mul_div_mul_left _ _ (by decide)]
    · have e : half1 (u, 2 ^ (m + 1)) = (u, 2 ^ (m + 1)) := by
        unfold half1
        rw [if_neg (fun z => hu z.1)]
      rw [halves_fix e, odd_gcd (by omega), Nat.div_one, Nat.div_one]
end Own
set_option Elab.async false
set_option linter.all false
set_option maxRecDepth 100000
set_option maxHeartbeats 4000000
namespace K05
open PySem PySem.Spec PyProof.Rows L2 Own
def top (i : Nat) : Stmt := PySem.Challenge.pw_duetickers_k05_free_names.main.body.getD i (.Pass ⟨0, 0, 0, 0⟩)
abbrev s_is_row : Stmt := top 7
abbrev N_is_row : List Str := ["value", "least", "most"]
theorem sc_is_row : FnScope N_is_row ["value", "least", "most"] (defScope s_is_row) := ⟨rfl, rfl, rfl, by decide +kernel, rfl, by decide +kernel, by decide +kernel⟩
abbrev s_is_signs : Stmt := top 8
abbrev N_is_signs : List Str := ["value", "least", "most"]
theorem sc_is_signs : FnScope N_is_signs ["value", "least", "most"] (defScope s_is_signs) := ⟨rfl, rfl, rfl, by decide +kernel, rfl, by decide +kernel, by decide +kernel⟩
abbrev s_is_name : Stmt := top 9
abbrev N_is_name : List Str := ["value"]
theorem sc_is_name : FnScope N_is_name ["value"] (defScope s_is_name) := ⟨rfl, rfl, rfl, by decide +kernel, rfl, by decide +kernel, by decide +kernel⟩
abbrev s_reduced : Stmt := top 11
abbrev N_reduced : List Str := ["up", "down", "common"]
theorem sc_reduced : FnScope N_reduced ["up", "down"] (defScope s_reduced) := ⟨rfl, rfl, rfl, by decide +kernel, rfl, by decide +kernel, by decide +kernel⟩
abbrev s_need_names : Stmt := top 14
abbrev N_need_names : List Str := ["names", "name"]
theorem sc_need_names : FnScope N_need_names ["names"] (defScope s_need_names) := ⟨rfl, rfl, rfl, by decide +kernel, rfl, by decide +kernel, by decide +kernel⟩
abbrev s_need_apart : Stmt := top 15
abbrev N_need_apart : List Str := ["names"]
theorem sc_need_apart : FnScope N_need_apart ["names"] (defScope s_need_apart) := ⟨rfl, rfl, rfl, by decide +kernel, rfl, by decide +kernel, by decide +kernel⟩
abbrev s_are_apart : Stmt := top 16
abbrev N_are_apart : List Str := ["names", "ordered", "place"]
theorem sc_are_apart : FnScope N_are_apart ["names"] (defScope s_are_apart) := ⟨rfl, rfl, rfl, by decide +kernel, rfl, by decide +kernel, by decide +kernel⟩
abbrev s_sum_of_shares : Stmt := top 17
abbrev N_sum_of_shares : List Str := ["lengths", "length"]
theorem sc_sum_of_shares : FnScope N_sum_of_shares ["lengths"] (defScope s_sum_of_shares) := ⟨rfl, rfl, rfl, by decide +kernel, rfl, by decide +kernel, by decide +kernel⟩
abbrev s_share_of : Stmt := top 18
abbrev N_share_of : List Str := ["names", "name"]
theorem sc_share_of : FnScope N_share_of ["names"] (defScope s_share_of) := ⟨rfl, rfl, rfl, by decide +kernel, rfl, by decide +kernel, by decide +kernel⟩
abbrev s_free_names : Stmt := top 19
abbrev N_free_names : List Str := ["names", "begun", "name", "length", "whole", "longer", "text", "sign"]
theorem sc_free_names : FnScope N_free_names ["names"] (defScope s_free_names) := ⟨rfl, rfl, rfl, by decide +kernel, rfl, by decide +kernel, by decide +kernel⟩
abbrev s__law_grove : Stmt := top 21
abbrev N__law_grove : List Str := ["script", "cell"]
theorem sc__law_grove : FnScope N__law_grove ["script"] (defScope s__law_grove) := ⟨rfl, rfl, rfl, by decide +kernel, rfl, by decide +kernel, by decide +kernel⟩
abbrev s__law_fell : Stmt := top 22
abbrev N__law_fell : List Str := ["grove", "many", "left", "turn", "cell", "mixed"]
theorem sc__law_fell : FnScope N__law_fell ["grove", "many"] (defScope s__law_fell) := ⟨rfl, rfl, rfl, by decide +kernel, rfl, by decide +kernel, by decide +kernel⟩
abbrev s__law_stem : Stmt := top 23
abbrev N__law_stem : List Str := ["grove", "some"]
theorem sc__law_stem : FnScope N__law_stem ["grove", "some"] (defScope s__law_stem) := ⟨rfl, rfl, rfl, by decide +kernel, rfl, by decide +kernel, by decide +kernel⟩
abbrev s__law_ends : Stmt := top 24
abbrev N__law_ends : List Str := ["grove", "begin", "deep", "way"]
theorem sc__law_ends : FnScope N__law_ends ["grove", "begin", "deep"] (defScope s__law_ends) := ⟨rfl, rfl, rfl, by decide +kernel, rfl, by decide +kernel, by decide +kernel⟩
abbrev s__law_names : Stmt := top 25
abbrev N__law_names : List Str := ["grove", "stem", "left", "found", "turn", "each"]
theorem sc__law_names : FnScope N__law_names ["grove"] (defScope s__law_names) := ⟨rfl, rfl, rfl, by decide +kernel, rfl, by decide +kernel, by decide +kernel⟩
abbrev s__law_free : Stmt := top 26
abbrev N__law_free : List Str := ["names", "begin", "name"]
theorem sc__law_free : FnScope N__law_free ["names", "begin"] (defScope s__law_free) := ⟨rfl, rfl, rfl, by decide +kernel, rfl, by decide +kernel, by decide +kernel⟩
abbrev s__law_heard : Stmt := top 27
abbrev N__law_heard : List Str := ["ask", "caught", "error", "word", "is_so"]
theorem sc__law_heard : FnScope N__law_heard ["ask"] (defScope s__law_heard) := ⟨rfl, rfl, rfl, by decide +kernel, rfl, by decide +kernel, by decide +kernel⟩
abbrev s_law : Stmt := top 28
abbrev N_law : List Str := ["script", "grove", "turn", "names", "kept", "due", "told", "at", "one", "odd", "many", "bent", "value", "number"]
theorem sc_law : FnScope N_law ["script"] (defScope s_law) := ⟨rfl, rfl, rfl, by decide +kernel, rfl, by decide +kernel, by decide +kernel⟩
abbrev s_BadName_init : Stmt := inClass (top 3) 0
abbrev N_BadName_init : List Str := ["self", "part"]
theorem sc_BadName_init : FnScope N_BadName_init ["self", "part"] (defScope s_BadName_init) := ⟨rfl, rfl, rfl, by decide +kernel, rfl, by decide +kernel, by decide +kernel⟩
abbrev s_Misfit_init : Stmt := inClass (top 4) 0
abbrev N_Misfit_init : List Str := ["self", "part"]
theorem sc_Misfit_init : FnScope N_Misfit_init ["self", "part"] (defScope s_Misfit_init) := ⟨rfl, rfl, rfl, by decide +kernel, rfl, by decide +kernel, by decide +kernel⟩
structure Txt (mg : Str → Option Value) : Prop where
  b_isinstance : mg "isinstance" = none
  b_list : mg "list" = none
  b_tuple : mg "tuple" = none
  b_len : mg "len" = none
  b_str : mg "str" = none
  b_all : mg "all" = none
  b_sorted : mg "sorted" = none
  b_any : mg "any" = none
  b_range : mg "range" = none
  b_sum : mg "sum" = none
  b_int : mg "int" = none
  b_abs : mg "abs" = none
  b_repr : mg "repr" = none
  b_ValueError : mg "ValueError" = none
  g_MOST_SIGNS : ∃ t, mg "MOST_SIGNS" = some (.int 60 t)
  g_MOST_NAMES : ∃ t, mg "MOST_NAMES" = some (.int 200 t)
  g_gcd : mg "gcd" = some (.builtin "math.gcd")
section
variable {P : Program} {w : World} {K : PySem.W.Frag} {mg : Str → Option Value} {base : Heap}
theorem ok_is_row {f : Addr} {fd : FuncData} (F : Fun K "is_row" "is_row" s_is_row f fd) (T : Txt mg) : FnOk P w K mg base CX0 1 f fd ["value", "least", "most"] spRow := by
  refine F.ok sc_is_row (fun vs H Q E h => ?_) (fun cdv A outer s H vs Q E hr h => ?_)
  · obtain ⟨v, lo, hi, rfl, _⟩ := h
    rfl
  · obtain ⟨v, lo, hi, rfl, ha, q⟩ := h
    refine ⟨_, (pss_one (ps_ret (pe_and (pe_callB call_isiT (by rfl) T.b_isinstance boot_isinstance (pa_cons (pv 0) (pa_cons (pe_tup (pa_cons (pe_ty T.b_list boot_list) (pa_cons (pe_ty T.b_tuple boot_tuple) pa_nil))) pa_nil))) (pe_one (pe_chain op_le op_le (pv 1) (pe_callB call_len_seq (by rfl) T.b_len boot_len (pa_cons (pv 0) pa_nil)) (pv 2)))))), ?_⟩
    refine ⟨v, rfl, by show 2 ≤ sizeLine; decide, fun tp htp => ?_⟩
    have sm : Same H (upd H tp (.tup [.ty "list", .ty "tuple"])) := fun b o e => by
      rw [upd_ne (ne_of_none e htp)]
      exact e
    refine ⟨v, tp, _, _, [.type "list", .type "tuple"], isT "list" H v || isT "tuple" H v, rfl, upd_same, .cons (.ty _) (.cons (.ty _) .nil), (ha.mono sm).tyx, ?_, _, rfl, ?_⟩
    · have e : tn (upd H tp (.tup [.ty "list", .ty "tuple"])) v = tn H v := tn_mono sm ha
      rw [e]
      refine kitAny_cons (b := isT "list" H v) (ha.kit (by decide)) (fun h => ?_) (fun h => by rw [h]; rfl)
      rw [h]
      exact kitAny_cons (b := isT "tuple" H v) (ha.kit (by decide)) (fun h => by rw [h]; rfl) (fun h => by rw [h]; rfl)
    · have q1 := q _ sm
      cases ha with
      | @lst a xs h =>
        have e : (isT "list" H (.ref a) || isT "tuple" H (.ref a)) = true := by simp [isT, tn, h]
        rw [e]
        have e2 : rowB H (.ref a) lo hi = (decide (lo ≤ xs.length) && decide ((xs.length : Int) ≤ hi)) := by simp [rowB, h]
        rw [e2] at q1
        refine iteT ⟨_, rfl, _, rfl, a, xs, rfl, .inl (SqL.of (sm _ _ h)), _, _, rfl, rfl, _, rfl, ?_⟩
        exact ite_and q1 fun _ q => ⟨_, rfl, _, _, rfl, rfl, q⟩
      | @tup a xs h =>
        have e : (isT "list" H (.ref a) || isT "tuple" H (.ref a)) = true := by simp [isT, tn, h]
        rw [e]
        have e2 : rowB H (.ref a) lo hi = (decide (lo ≤ xs.length) && decide ((xs.length : Int) ≤ hi)) := by simp [rowB, h]
        rw [e2] at q1
        refine iteT ⟨_, rfl, _, rfl, a, xs, rfl, .inr (SqT.of (sm _ _ h)), _, _, rfl, rfl, _, rfl, ?_⟩
        exact ite_and q1 fun _ q => ⟨_, rfl, _, _, rfl, rfl, q⟩
      | @dK a kvs h =>
        have e : (isT "list" H (.ref a) || isT "tuple" H (.ref a)) = false := by simp [isT, tn, h]
        rw [e]
        have e2 : rowB H (.ref a) lo hi = false := by simp [rowB, h]
        rw [e2] at q1
        exact iteF q1
      | non => exact q1
      | bl b => exact q1
      | int i => exact q1
      | str h => exact q1
theorem ok_is_signs {f : Addr} {fd : FuncData} (F : Fun K "is_signs" "is_signs" s_is_signs f fd) (T : Txt mg) : FnOk P w K mg base CX0 1 f fd ["value", "least", "most"] spSig := by
  refine F.ok sc_is_signs (fun vs H Q E h => ?_) (fun cdv A outer s H vs Q E hr h => ?_)
  · obtain ⟨v, lo, hi, rfl, _⟩ := h
    rfl
  · obtain ⟨v, lo, hi, rfl, ha, q⟩ := h
    refine ⟨_, (pss_one (ps_ret (pe_and (pe_callB call_isi (by rfl) T.b_isinstance boot_isinstance (pa_cons (pv 0) (pa_cons (pe_ty T.b_str boot_str) pa_nil))) (pe_and (pe_chain op_le op_le (pv 1) (pe_callB call_len_str (by rfl) T.b_len boot_len (pa_cons (pv 0) pa_nil)) (pv 2)) (pe_one (pe_cmpR op_eq (pe_bm PySem.F.plainAttrs_str PySem.F.slot_str_strip PySem.F.type_str_strip mt_stripChars (pv 0) (pa_cons pe_str pa_nil)) pe_str (nomark _))))))), ?_⟩
    refine ⟨v, rfl, v, .ty "str", _, _, _, rfl, .ty _, ha.tyx, ha.kit (by decide), _, rfl, ?_⟩
    rcases isT_str ha with ⟨z, rfl, hz, e⟩ | ⟨e, e2⟩
    · rw [e]
      have zl : z.length ≤ sizeLine := Nat.le_trans hz (by decide)
      refine iteT ⟨_, rfl, _, rfl, z, rfl, zl, _, _, rfl, rfl, _, rfl, ?_⟩
      have q' : Q (.bl (decide (lo ≤ (z.length : Int)) && (decide ((z.length : Int) ≤ hi) && decide (Txt.stripChars z "01" = "")))) H := q
      cases e1 : decide (lo ≤ (z.length : Int)) with
      | false =>
        rw [e1] at q'
        exact ⟨_, rfl, q'⟩
      | true =>
        rw [e1] at q'
        refine iteT ⟨_, rfl, _, _, rfl, rfl, _, rfl, ?_⟩
        refine ite_and q' fun _ q => ?_
        refine ⟨_, rfl, rfl, _, _, rfl, rfl, zl, rfl, ?_⟩
        have e3 : decide (V.str (Txt.stripChars z "01") = V.str "") = decide (Txt.stripChars z "01" = "") := by simp
        show Q (.bl (decide (V.str (Txt.stripChars z "01") = V.str ""))) H
        rw [e3]
        exact q
    · rw [e]
      rw [e2] at q
      exact iteF q
theorem ok_is_name {f : Addr} {fd : FuncData} (F : Fun K "is_name" "is_name" s_is_name f fd) (T : Txt mg) (C_is_signs : Cal P w K mg base 1 "is_signs" ["value", "least", "most"] spSig) : FnOk P w K mg base CX0 2 f fd ["value"] (spAny1 fun _ v => nameB v) := by
  refine F.ok sc_is_name (fun vs H Q E h => ?_) (fun cdv A outer s H vs Q E hr h => ?_)
  · obtain ⟨v, rfl, _⟩ := h
    rfl
  · obtain ⟨v, rfl, ha, q⟩ := h
    refine ⟨_, (pss_one (ps_ret (pe_cal C_is_signs (hr.mono (by decide)) (pa_cons (pv 0) (pa_cons pe_int (pa_cons (pe_gi T.g_MOST_SIGNS) pa_nil)))))), ?_⟩
    exact ⟨v, rfl, v, _, _, rfl, ha, q⟩


/-! ### the law's own draws -/
theorem ok_sift {f : Addr} {fd : FuncData} (F : Fun K "_law_fell" "_law_fell" s__law_fell f fd) (T : Txt mg) : FnOk P w K mg base CX0 1 f fd ["grove", "many"] spSift := by
  refine F.ok sc__law_fell (fun vs H Q E h => ?_) (fun cdv A outer s H vs Q E hr h => ?_)
  · obtain ⟨p, q, cs, n, m, rfl, _⟩ := h
    rfl
  · obtain ⟨p, q, cs, n, m, rfl, hm0, hm1, hn, hcs, ⟨at_, rest, h1, h2, hpq, ha0, han, hr0⟩, k⟩ := h
    refine ⟨_, (pss_cons (ps_if (pt_cmpR op_gt (pe_ix ix_list (pv 0) pe_int (fun _ _ => rfl)) pe_int (nomark _))
  (pss_cons (ps_set (i := 2) sc__law_fell.nd rfl (Or.inl rfl) (pe_callTy call_int1 (by rfl) T.b_int boot_int (pa_cons (pe_ix ix_list (pv 0) pe_int (fun _ _ => rfl)) pa_nil)))
  (pss_cons (ps_asg (pe_op op_fdiv (pv 2) (pv 1)) (pg_sub (pv 0) pe_int set_list))
  (pss_one (ps_ret (pe_op op_mod (pe_callTy call_int1 (by rfl) T.b_int boot_int (pa_cons (pv 2) pa_nil)) (pv 1))))))
  pss_nil)
  (pss_cons (ps_set (i := 3) sc__law_fell.nd rfl (Or.inl rfl) (pe_ix ix_list (pv 0) pe_int (fun _ _ => rfl)))
  (pss_cons (ps_asg (pe_op op_add (pv 3) pe_int) (pg_sub (pv 0) pe_int set_list))
  (pss_cons (ps_set (i := 4) sc__law_fell.nd rfl (Or.inl rfl) (pe_op op_add (pe_op op_mul pe_int (pv 3)) pe_int))
  (C8.pss_cut (ps_if (pt_cmpR (op_neD (hu64 hr)) (pe_ix ix_list (pv 0) pe_int (fun _ _ => rfl)) (pe_lst pa_nil) (nomark _))
  (pss_one (ps_set (i := 4) sc__law_fell.nd rfl (Or.inl rfl) (pe_ix ix_list (pe_ix ix_list (pv 0) pe_int (fun _ _ => rfl)) (pe_op op_mod (pe_callTy call_int1 (by rfl) T.b_int boot_int (pa_cons (pv 3) pa_nil)) (pe_callB call_len_seq (by rfl) T.b_len boot_len (pa_cons (pe_ix ix_list (pv 0) pe_int (fun _ _ => rfl)) pa_nil))) (fun _ _ => rfl))))
  pss_nil)
  (C8.pss_cut (ps_if (PW.pt (pw_and (pt_cmpR op_lt (pv 3) (pe_callB call_len_seq (by rfl) T.b_len boot_len (pa_cons (pe_ix ix_list (pv 0) pe_int (fun _ _ => rfl)) pa_nil)) (nomark _)) (pw_and1 (pt_cmpR op_ge (pe_callB call_abs (by rfl) T.b_abs boot_abs (pa_cons (pv 4) pa_nil)) (pe_op op_pow pe_int pe_int) (nomark _)))))
  (pss_cons (ps_set (i := 2) sc__law_fell.nd rfl (Or.inl rfl) (pe_op op_add (pe_op op_mul pe_int (pe_op op_sub (pe_callB call_abs (by rfl) T.b_abs boot_abs (pa_cons (pe_callTy call_int1 (by rfl) T.b_int boot_int (pa_cons (pv 4) pa_nil)) pa_nil)) (pe_op op_pow pe_int pe_int))) (pe_callTy call_int1 (by rfl) T.b_int boot_int (pa_cons (pe_cmpR op_lt (pv 4) pe_int (nomark _)) pa_nil))))
  (pss_cons (ps_asg (pe_op op_fdiv (pv 2) (pv 1)) (pg_sub (pv 0) pe_int set_list))
  (pss_one (ps_ret (pe_op op_mod (pe_callTy call_int1 (by rfl) T.b_int boot_int (pa_cons (pv 2) pa_nil)) (pv 1))))))
  pss_nil)
  (pss_cons (ps_set (i := 5) sc__law_fell.nd rfl (Or.inl rfl) (pe_op op_mod (pe_callTy call_int1 (by rfl) T.b_int boot_int (pa_cons (pe_op op_pow (pe_op op_add (pe_op op_add (pe_op op_mod (pe_callTy call_int1 (by rfl) T.b_int boot_int (pa_cons (pv 4) pa_nil)) pe_int) (pe_op op_mul pe_int (pv 3))) pe_int) pe_int) pa_nil)) pe_int))
  (pss_cons (ps_set (i := 5) sc__law_fell.nd rfl (Or.inl rfl) (pe_op op_mod (pe_callTy call_int1 (by rfl) T.b_int boot_int (pa_cons (pe_op op_pow (pe_op op_add (pe_op op_add (pe_op op_mul (pv 5) (pe_op op_add (pe_op op_mul pe_int (pv 3)) pe_int)) (pe_op op_mul (pe_op op_mul pe_int (pv 3)) (pv 3))) pe_int) pe_int) pa_nil)) pe_int))
  (pss_one (ps_ret (pe_op op_mod (pe_callTy call_int1 (by rfl) T.b_int boot_int (pa_cons (pe_op op_fdiv (pv 5) pe_int) pa_nil)) (pv 1)))))))))))), ?_⟩
    refine ⟨_, rfl, p, _, 2, .int rest, rfl, rfl, SqL.of h1, rfl, rest, 0, rfl, rfl, _, rfl, ?_⟩
    refine ite2 (fun _ => ?_) (fun _ => ?_)
    · refine ⟨_, rfl, p, _, 2, .int rest, rfl, rfl, SqL.of h1, rfl, .inl ⟨rest, rfl, ?_⟩⟩
      refine ⟨_, rfl, _, rfl, rest, m, rfl, rfl, ⟨hm0, hm1⟩, _, rfl, p, _, 2, 2, rfl, rfl, h1, rfl, ?_⟩
      refine ⟨_, rfl, .inl ⟨rest, rfl, _, rfl, rest, m, rfl, rfl, hm0, ?_⟩⟩
      refine k _ _ (Int.emod_nonneg _ (by omega)) (Int.emod_lt_of_pos _ hm0) (But.refl _ _).upd ⟨at_, rest / m, upd_same, by rw [upd_ne hpq.symm]; exact h2, hpq, ha0, by omega, Int.ediv_nonneg hr0 (by omega)⟩
    · refine ⟨_, rfl, p, _, 1, .int at_, rfl, rfl, SqL.of h1, rfl, ?_⟩
      refine ⟨_, rfl, at_, 1, rfl, rfl, _, rfl, p, _, 1, 1, rfl, rfl, h1, rfl, ?_⟩
      refine ⟨_, rfl, 204811, at_, rfl, rfl, .inl ⟨by decide, by decide⟩, _, _, rfl, rfl, ?_⟩
      generalize e1 : upd H p (HO.lst (List.set [V.ref q, V.int at_, V.int rest] 1 (V.int (at_ + 1)))) = H1
      have p1 : H1 p = some (.lst [.ref q, .int (at_ + 1), .int rest]) := by rw [← e1]; exact upd_same
      have q1 : H1 q = some (.lst (cs.map V.int)) := by rw [← e1, upd_ne hpq.symm]; exact h2
      have b1 : But p H H1 := by rw [← e1]; exact (But.refl _ _).upd
      refine ⟨fun σ' H' => ∃ c : Int, σ' = [some (.ref p), some (.int m), none, some (.int at_), some (.int c), none] ∧ Same H1 H', ?_, ?_⟩
      · refine ⟨_, rfl, p, _, 0, .ref q, rfl, rfl, SqL.of p1, rfl, Nat.zero_le _, fun l hl => ?_⟩
        have s1 : Same H1 (upd H1 l (.lst [])) := same_new hl
        refine ⟨.list (cs.map PyData.int), .list [], .lst (SqL.of (s1 _ _ q1)) (dp_ints cs), .lst (SqL.of upd_same) .nil, shaped_ints cs, shaped_nil, _, rfl, ?_⟩
        rw [eqv_nil]
        refine ite2 (fun hne => ?_) (fun _ => ⟨_, rfl, s1⟩)
        have pos : 0 < cs.length := by
          cases cs with
          | nil => exact absurd hne (by simp)
          | cons c cs => simp
        have i0 := Int.emod_nonneg at_ (b := (cs.length : Int)) (by omega)
        have i1 := Int.emod_lt_of_pos at_ (b := (cs.length : Int)) (by omega)
        obtain ⟨c, hget⟩ : ∃ c, (cs.map V.int)[(at_ % (cs.length : Int)).toNat]? = some (V.int c) :=
          ⟨cs[(at_ % (cs.length : Int)).toNat]'(by omega), by rw [List.getElem?_map, List.getElem?_eq_getElem (by omega)]; rfl⟩
        refine ⟨_, rfl, p, _, 0, .ref q, rfl, rfl, SqL.of (s1 _ _ p1), rfl, _, rfl, .inl ⟨at_, rfl, ?_⟩⟩
        refine ⟨_, rfl, p, _, 0, .ref q, rfl, rfl, SqL.of (s1 _ _ p1), rfl, q, _, rfl, .inl (SqL.of (s1 _ _ q1)), at_, _, rfl, rfl, ?_, ?_⟩
        · rw [List.length_map]; omega
        · rw [List.length_map]
          refine ⟨q, cs.map V.int, at_ % (cs.length : Int), .int c, rfl, rfl, SqL.of (s1 _ _ q1), ?_, ⟨c, rfl, s1⟩⟩
          have := atI_nat hget
          rw [Int.toNat_of_nonneg i0] at this
          exact this
      · rintro σ' H' ⟨c, rfl, sm⟩
        have p2 := sm _ _ p1
        have q2 := sm _ _ q1
        have b2 : But p H H' := b1.trans (Same.but sm)
        refine ⟨fun σ' G => σ' = [some (.ref p), some (.int m), none, some (.int at_), some (.int c), none] ∧ G = H', ?_, ?_⟩
        · refine ⟨_, rfl, _, rfl, p, _, 0, .ref q, rfl, rfl, SqL.of p2, rfl, q, _, rfl, .inl (SqL.of q2), at_, _, rfl, rfl, _, rfl, ?_⟩
          refine ite2 (fun _ => ?_) (fun _ => iteF ⟨rfl, rfl⟩)
          refine ⟨_, rfl, c, rfl, 10, 18, rfl, rfl, cpow_of (by decide) (by decide) (by decide) (by decide), _, _, rfl, rfl, _, rfl, ?_⟩
          refine ite2 (fun hB => ?_) (fun _ => ⟨rfl, rfl⟩)
          have hB' : (10 : Int) ^ (18 : Int).toNat ≤ (if c < 0 then -c else c) := of_decide_eq_true hB
          refine ⟨_, rfl, .inl ⟨c, rfl, c, rfl, 10, 18, rfl, rfl, cpow_of (by decide) (by decide) (by decide) (by decide), _, _, rfl, rfl, 2, _, rfl, rfl, .inl ⟨by decide, by decide⟩, ?_⟩⟩
          refine ⟨_, rfl, c, 0, rfl, rfl, .inr ⟨_, rfl, _, _, rfl, rfl, ?_⟩⟩
          have hR : 0 ≤ (2 * ((if c < 0 then -c else c) - (10 : Int) ^ (18 : Int).toNat) + (if decide (c < 0) then 1 else 0) : Int) := by
            have : (0 : Int) ≤ (if decide (c < 0) then 1 else 0) := by split <;> omega
            omega
          refine ⟨_, rfl, _, rfl, _, m, rfl, rfl, ⟨hm0, hm1⟩, _, rfl, p, _, 2, 2, rfl, rfl, p2, rfl, ?_⟩
          refine ⟨_, rfl, .inl ⟨_, rfl, _, rfl, _, m, rfl, rfl, hm0, ?_⟩⟩
          exact k _ _ (Int.emod_nonneg _ (by omega)) (Int.emod_lt_of_pos _ hm0) b2.upd ⟨at_ + 1, _ / m, upd_same, by rw [upd_ne hpq.symm]; exact q2, hpq, by omega, by omega, Int.ediv_nonneg hR (by omega)⟩
        · rintro σ' G ⟨rfl, rfl⟩
          have c0 := Int.emod_nonneg c (b := 2147483587) (by decide)
          have c1 := Int.emod_lt_of_pos c (b := 2147483587) (by decide)
          refine ⟨_, rfl, .inl ⟨c, rfl, c, 2147483587, rfl, rfl, by show (0 : Int) < 2147483587; decide, ?_⟩⟩
          refine ⟨_, rfl, 62711, at_, rfl, rfl, .inl ⟨by decide, by decide⟩, _, _, rfl, rfl, _, _, rfl, rfl, ?_⟩
          refine ⟨_, 5, rfl, rfl, cpow_of (by decide) (by decide) (by omega) (by omega), .inl ⟨_, rfl, _, 2147483579, rfl, rfl, by show (0 : Int) < 2147483579; decide, ?_⟩⟩
          generalize (c % 2147483587 + 62711 * at_ + 7213 : Int) ^ (5 : Int).toNat = Y
          have y0 := Int.emod_nonneg Y (b := 2147483579) (by decide)
          have y1 := Int.emod_lt_of_pos Y (b := 2147483579) (by decide)
          have mz := mulb (a := 2147483579) (b := 300000) y0 (by omega) (show 0 ≤ 2 * at_ + 6521 by omega) (by omega)
          have ma := mulb (a := 204811 * 100001) (b := 100001) (show 0 ≤ 204811 * at_ by omega) (by omega) ha0 (by omega)
          refine ⟨_, rfl, _, rfl, 2, at_, rfl, rfl, .inl ⟨by decide, by decide⟩, _, _, rfl, rfl, Y % 2147483579, 2 * at_ + 6521, rfl, rfl, .inl ⟨by omega, by omega⟩, ?_⟩
          refine ⟨_, rfl, 204811, at_, rfl, rfl, .inl ⟨by decide, by decide⟩, _, rfl, 204811 * at_, at_, rfl, rfl, .inl ⟨by omega, by omega⟩, _, _, rfl, rfl, _, _, rfl, rfl, ?_⟩
          refine ⟨_, 3, rfl, rfl, cpow_of (by decide) (by decide) (by omega) (by omega), .inl ⟨_, rfl, _, 2147483629, rfl, rfl, by show (0 : Int) < 2147483629; decide, ?_⟩⟩
          refine ⟨_, rfl, _, 64, rfl, rfl, ⟨by decide, by decide⟩, .inl ⟨_, rfl, _, rfl, _, m, rfl, rfl, hm0, ?_⟩⟩
          exact k _ _ (Int.emod_nonneg _ (by omega)) (Int.emod_lt_of_pos _ hm0) b2 ⟨at_ + 1, rest, p2, q2, hpq, by omega, by omega, hr0⟩
theorem ok_one {f : Addr} {fd : FuncData} (F : Fun K "_law_stem" "_law_stem" s__law_stem f fd) (T : Txt mg) (C_sift : Cal P w K mg base 1 "_law_fell" ["grove", "many"] spSift) : FnOk P w K mg base CX0 2 f fd ["grove", "some"] spOne := by
  refine F.ok sc__law_stem (fun vs H Q E h => ?_) (fun cdv A outer s H vs Q E hr h => ?_)
  · obtain ⟨p, q, cs, n, s, xs, rfl, _⟩ := h
    rfl
  · obtain ⟨p, q, cs, n, s, xs, rfl, hs, hsp, h0, h1, hn, hcs, sv, k⟩ := h
    refine ⟨_, (pss_one (ps_ret (pe_ix ix_list (pv 1) (pe_cal C_sift (hr.mono (by decide)) (pa_cons (pv 0) (pa_cons (pe_callB call_len_seq (by rfl) T.b_len boot_len (pa_cons (pv 1) pa_nil)) pa_nil))) (fun _ _ => rfl)))), ?_⟩
    refine ⟨_, rfl, _, rfl, _, rfl, s, xs, rfl, .inl (SqL.of hs), p, q, cs, n, (xs.length : Int), rfl, by omega, by omega, hn, hcs, sv, ?_⟩
    intro r H' r0 r1 b sv'
    have hlt : r.toNat < xs.length := by omega
    refine ⟨s, xs, r, xs[r.toNat], rfl, rfl, SqL.of (b _ _ hsp hs), ?_, k _ _ (List.getElem_mem hlt) b sv'⟩
    have := atI_nat (List.getElem?_eq_getElem hlt)
    rw [Int.toNat_of_nonneg r0] at this
    exact this
theorem ok_sieve {f : Addr} {fd : FuncData} (F : Fun K "_law_grove" "_law_grove" s__law_grove f fd) (T : Txt mg) : FnOk P w K mg base CX0 1 f fd ["script"] (spSieve K) := by
  refine F.ok sc__law_grove (fun vs H Q E h => ?_) (fun cdv A outer s H vs Q E hr h => ?_)
  · obtain ⟨a, ns, rfl, _⟩ := h
    rfl
  · obtain ⟨a, ns, rfl, hS, k⟩ := h
    refine ⟨_, (pss_one (ps_ret (pe_lst (pa_cons (pe_lc (own := [("cell", 1)]) (g := gName 1) (tt := tYes) rfl sc__law_grove.nd (pi_list (pe_slice sl_list (pv 0) po_none (po_some pe_int))) (blkOk_by (own := [("cell", 1)]) (N := N__law_grove) (sc := defScope s__law_grove) (by decide +kernel)) (fun _ _ _ _ _ => (pg_name (i := 1) sc__law_grove.nd rfl (Or.inl rfl))) (fun _ _ _ _ _ => pts_nil) (fun _ _ _ _ _ => (pe_callTy call_int1 (by rfl) T.b_int boot_int (pa_cons (pv 1) pa_nil)))) (pa_cons pe_int (pa_cons pe_int pa_nil)))))), ?_⟩
    obtain ⟨cs, ec, _⟩ := map_mem_cut (ns := ns) (lo := none) (hi := some 60)
    have hc : cs.length ≤ 60 := by
      have := cut_len (ns := ns) (k := 60)
      rw [show (((60 : Nat) : Int)) = 60 from rfl, ec, List.length_map] at this
      exact this
    refine ⟨_, rfl, 60, rfl, a, _, rfl, hS, fun c hc0 => ?_⟩
    rw [ec]
    have s1 : Same H (upd H c (.lst (cs.map V.int))) := same_new hc0
    refine ⟨c, rfl, ⟨_, SqL.of upd_same⟩, fun D hD => ?_⟩
    refine lc_list (K := K) (a := c) (xs := cs.map V.int) (fun i H' => Same (upd H c (.lst (cs.map V.int))) H' ∧ H' D = some (.lst ((cs.map V.int).take i))) ⟨same_new hD, by rw [upd_same]; rfl⟩
        (fun i H' _ p => SqL.of (p.1 _ _ upd_same)) (fun i x H' hx ⟨sm, hl⟩ => ?_) (fun H' ⟨sm, hl⟩ => ?_)
    · refine ⟨rfl, yes_if ?_⟩
      obtain ⟨z, rfl⟩ : ∃ z, x = V.int z := by
        rw [List.getElem?_map] at hx
        cases e : cs[i]? with
        | none => rw [e] at hx; cases hx
        | some u => rw [e] at hx; exact ⟨u, (Option.some.inj hx).symm⟩
      refine ⟨_, rfl, .inl ⟨z, rfl, _, hl, ?_, same_mut sm hD, ?_⟩⟩
      · refine Nat.lt_of_le_of_lt (m := 63) ?_ (by decide)
        rw [List.length_take, List.length_map]
        omega
      · rw [upd_same, List.take_succ, hx]
        rfl
    · rw [List.take_length] at hl
      refine ⟨by show 3 ≤ sizeLine; decide, fun p hp => ?_⟩
      have pD : p ≠ D := (ne_of_none hl hp).symm
      have fr : H p = none := s1.free (sm.free hp)
      refine k p D cs _ fr (s1.trans (same_mut sm (sm.free hp))) (by omega) ⟨0, 0, upd_same, by rw [upd_ne pD.symm]; exact hl, pD, by decide, by decide, by decide⟩

/-! ### need_names -/
def namesB (H : Hp) (v : V) : Bool := rowB H v 0 200 && (items H v).all nameB
def spNeed (C : Addr) : Sp := fun vs H Q E => ∃ v, vs = [v] ∧ An2 H v ∧ (namesB H v = true → ∀ H', Same H H' → Q .non H') ∧ (namesB H v = false → ∀ H' d, Same H H' → H' d = none → E (.ref C) (some d) (upd H' d (.xd [("part", .str "names")])))
theorem ok_need_names {C f : Addr} {fd : FuncData} (F : Fun K "need_names" "need_names" s_need_names f fd) (T : Txt mg) (R_BadName : Rcl P w K mg base "BadName" C "part")
    (C_is_row : Cal P w K mg base 1 "is_row" ["value", "least", "most"] spRow) (C_is_name : Cal P w K mg base 2 "is_name" ["value"] (spAny1 fun _ v => nameB v)) : FnOk P w K mg base (L2.CX P w) 3 f fd ["names"] (spNeed C) := by
  refine F.okX sc_need_names (fun vs H Q E h => ?_) (fun cdv A outer s H vs Q E hr h => ?_)
  · obtain ⟨v, rfl, _⟩ := h
    rfl
  · obtain ⟨v, rfl, h2, kq, ke⟩ := h
    cases hrow : rowB H v 0 200 with
    | false =>
      have nb : namesB H v = false := by unfold namesB; rw [hrow, Bool.false_and]
      refine ⟨_, (pss_one (ps_if (PW.pt (pw_or (pt_not (pt_val (pe_cal C_is_row (hr.mono (by decide)) (pa_cons (pv 0) (pa_cons pe_int (pa_cons (pe_gi T.g_MOST_NAMES) pa_nil)))))) (pw_or1 (pt_not (pt_val (pe_callB (cr_all rfl) (by rfl) T.b_all boot_all (pa_cons (pe_lc (own := [("name", 1)]) (g := gName 1) (tt := tYes) rfl sc_need_names.nd (pi_list (pv 0)) (blkOk_by (own := [("name", 1)]) (N := N_need_names) (sc := defScope s_need_names) (by decide +kernel)) (fun _ _ _ _ _ => (pg_name (i := 1) sc_need_names.nd rfl (Or.inl rfl))) (fun _ _ _ _ _ => pts_nil) (fun _ _ _ _ _ => (pe_cal C_is_name (hr.mono (by decide)) (pa_cons (pv 1) pa_nil)))) pa_nil)))))))
  (pss_one (ps_raise1 R_BadName rfl (takes_of rfl rfl rfl rfl) (hr.mono (by decide)) pe_str))
  pss_nil)), ?_⟩
      refine ⟨_, rfl, v, 0, 200, rfl, h2.an, fun H1 s1 => ⟨_, rfl, ?_⟩⟩
      rw [hrow]
      exact iteT (iteT fun d hd => ke nb H1 d s1 hd)
    | true =>
      cases h2.an with
      | @lst a xs h =>
        have e1 : rowB H (.ref a) 0 200 = (decide ((0 : Int) ≤ xs.length) && decide ((xs.length : Int) ≤ 200)) := by simp [rowB, h]
        have e2 : items H (.ref a) = xs := by simp [items, h]
        have nm : namesB H (.ref a) = xs.all nameB := by unfold namesB; rw [hrow, e2, Bool.true_and]
        have few : xs.length ≤ 200 := by
          rw [hrow] at e1
          have := e1.symm
          simp only [Bool.and_eq_true, decide_eq_true_eq] at this
          omega
        refine ⟨_, (pss_one (ps_if (PW.pt (pw_or (pt_not (pt_val (pe_cal C_is_row (hr.mono (by decide)) (pa_cons (pv 0) (pa_cons pe_int (pa_cons (pe_gi T.g_MOST_NAMES) pa_nil)))))) (pw_or1 (pt_not (pt_val (pe_callB (cr_all rfl) (by rfl) T.b_all boot_all (pa_cons (pe_lc (own := [("name", 1)]) (g := gName 1) (tt := tYes) rfl sc_need_names.nd (pi_list (pv 0)) (blkOk_by (own := [("name", 1)]) (N := N_need_names) (sc := defScope s_need_names) (by decide +kernel)) (fun _ _ _ _ _ => (pg_name (i := 1) sc_need_names.nd rfl (Or.inl rfl))) (fun _ _ _ _ _ => pts_nil) (fun _ _ _ _ _ => (pe_cal C_is_name (hr.mono (by decide)) (pa_cons (pv 1) pa_nil)))) pa_nil)))))))
  (pss_one (ps_raise1 R_BadName rfl (takes_of rfl rfl rfl rfl) (hr.mono (by decide)) pe_str))
  pss_nil)), ?_⟩
        refine ⟨_, rfl, .ref a, 0, 200, rfl, h2.an, fun H1 s1 => ⟨_, rfl, ?_⟩⟩
        rw [hrow]
        refine iteF ?_
        refine ⟨_, rfl, a, rfl, ⟨xs, SqL.of (s1 _ _ h)⟩, fun D hD => ?_⟩
        refine lc_map (f := fun x => .bl (nameB x)) (walk_list (K := K)) hD (fun H' s => SqL.of ((s1.trans s) _ _ h)) (Nat.le_trans few (by decide)) (fun _ => rfl) (fun i x H' R hx s r => ?_) (fun H' s hl => ?_)
        · exact ⟨x, rfl, x, rfl, (h2.it x (by rw [e2]; exact List.mem_of_getElem? hx)).mono (s1.trans s), r H' (Same.refl _)⟩
        · refine ⟨D, xs.map nameB, rfl, SqL.of (by rw [hl, List.map_map]; rfl), _, rfl, ?_⟩
          rw [List.all_map, show (id ∘ nameB) = nameB from rfl, ← nm]
          cases hn : namesB H (.ref a) with
          | false => exact iteT fun d hd => ke hn H' d (s1.trans s) hd
          | true => exact iteF (kq hn H' (s1.trans s))
      | @tup a xs h =>
        have e1 : rowB H (.ref a) 0 200 = (decide ((0 : Int) ≤ xs.length) && decide ((xs.length : Int) ≤ 200)) := by simp [rowB, h]
        have e2 : items H (.ref a) = xs := by simp [items, h]
        have nm : namesB H (.ref a) = xs.all nameB := by unfold namesB; rw [hrow, e2, Bool.true_and]
        have few : xs.length ≤ 200 := by
          rw [hrow] at e1
          have := e1.symm
          simp only [Bool.and_eq_true, decide_eq_true_eq] at this
          omega
        refine ⟨_, (pss_one (ps_if (PW.pt (pw_or (pt_not (pt_val (pe_cal C_is_row (hr.mono (by decide)) (pa_cons (pv 0) (pa_cons pe_int (pa_cons (pe_gi T.g_MOST_NAMES) pa_nil)))))) (pw_or1 (pt_not (pt_val (pe_callB (cr_all rfl) (by rfl) T.b_all boot_all (pa_cons (pe_lc (own := [("name", 1)]) (g := gName 1) (tt := tYes) rfl sc_need_names.nd (pi_tup (pv 0)) (blkOk_by (own := [("name", 1)]) (N := N_need_names) (sc := defScope s_need_names) (by decide +kernel)) (fun _ _ _ _ _ => (pg_name (i := 1) sc_need_names.nd rfl (Or.inl rfl))) (fun _ _ _ _ _ => pts_nil) (fun _ _ _ _ _ => (pe_cal C_is_name (hr.mono (by decide)) (pa_cons (pv 1) pa_nil)))) pa_nil)))))))
  (pss_one (ps_raise1 R_BadName rfl (takes_of rfl rfl rfl rfl) (hr.mono (by decide)) pe_str))
  pss_nil)), ?_⟩
        refine ⟨_, rfl, .ref a, 0, 200, rfl, h2.an, fun H1 s1 => ⟨_, rfl, ?_⟩⟩
        rw [hrow]
        refine iteF ?_
        refine ⟨_, rfl, a, rfl, ⟨xs, SqT.of (s1 _ _ h)⟩, fun D hD => ?_⟩
        refine lc_map (f := fun x => .bl (nameB x)) (walk_tup (K := K)) hD (fun H' s => SqT.of ((s1.trans s) _ _ h)) (Nat.le_trans few (by decide)) (fun _ => rfl) (fun i x H' R hx s r => ?_) (fun H' s hl => ?_)
        · exact ⟨x, rfl, x, rfl, (h2.it x (by rw [e2]; exact List.mem_of_getElem? hx)).mono (s1.trans s), r H' (Same.refl _)⟩
        · refine ⟨D, xs.map nameB, rfl, SqL.of (by rw [hl, List.map_map]; rfl), _, rfl, ?_⟩
          rw [List.all_map, show (id ∘ nameB) = nameB from rfl, ← nm]
          cases hn : namesB H (.ref a) with
          | false => exact iteT fun d hd => ke hn H' d (s1.trans s) hd
          | true => exact iteF (kq hn H' (s1.trans s))
      | non => simp [rowB] at hrow
      | bl b => simp [rowB] at hrow
      | int i => simp [rowB] at hrow
      | str h => simp [rowB] at hrow
      | dK h => simp [rowB, h] at hrow

/-! ### are_apart -/
def tx (v : V) : Str := match v with | .str z => z | _ => ""
theorem nameB_str {v : V} (h : nameB v = true) : v = .str (tx v) := by
  cases v <;> first | rfl | (simp [nameB, sigB] at h)
theorem names_map : ∀ {xs : List V}, xs.all nameB = true → xs = (xs.map tx).map V.str
  | [], _ => rfl
  | x :: xs, h => by
    rw [List.all_cons, Bool.and_eq_true] at h
    rw [List.map_cons, List.map_cons, ← names_map h.2, ← nameB_str h.1]
/-- the names as lists of signs -/
def sgs (H : Hp) (v : V) : List (List Nat) := (items H v).map fun x => (tx x).cps.toList
open Classical in
noncomputable def apB (H : Hp) (v : V) : Bool := decide (ApartL (sgs H v))
theorem apB_iff {H : Hp} {v : V} : apB H v = true ↔ ApartL (sgs H v) := by
  unfold apB
  simp only [decide_eq_true_eq]
def spApart (C : Addr) : Sp := fun vs H Q E => ∃ v, vs = [v] ∧ An2 H v ∧ (namesB H v = true → ∀ H', Same H H' → Q (.bl (apB H v)) H') ∧ (namesB H v = false → ∀ H' d, Same H H' → H' d = none → E (.ref C) (some d) (upd H' d (.xd [("part", .str "names")])))
theorem names_at {H : Hp} {v : V} (h : An H v) (hn : namesB H v = true) : ∃ (a : Addr) (zs : List Str), v = .ref a ∧ items H v = zs.map V.str ∧ zs.length ≤ 200 ∧ (H a = some (.lst (zs.map V.str)) ∨ H a = some (.tup (zs.map V.str))) ∧ sgs H v = zs.map fun z => z.cps.toList := by
  unfold namesB at hn
  rw [Bool.and_eq_true] at hn
  obtain ⟨h1, h2⟩ := hn
  have fin : ∀ xs : List V, items H v = xs → xs = ((items H v).map tx).map V.str ∧ sgs H v = ((items H v).map tx).map fun z => z.cps.toList := by
    intro xs e
    refine ⟨by rw [← e]; exact names_map h2, ?_⟩
    unfold sgs
    rw [List.map_map]
    rfl
  cases h with
  | @lst a xs h =>
    have e2 : items H (.ref a) = xs := by simp [items, h]
    obtain ⟨f1, f2⟩ := fin xs e2
    have : rowB H (.ref a) 0 200 = (decide ((0 : Int) ≤ xs.length) && decide ((xs.length : Int) ≤ 200)) := by simp [rowB, h]
    rw [this] at h1
    simp only [Bool.and_eq_true, decide_eq_true_eq] at h1
    refine ⟨a, (items H (.ref a)).map tx, rfl, by rw [← f1]; exact e2, by rw [List.length_map, e2]; omega, .inl (by rw [← f1]; exact h), f2⟩
  | @tup a xs h =>
    have e2 : items H (.ref a) = xs := by simp [items, h]
    obtain ⟨f1, f2⟩ := fin xs e2
    have : rowB H (.ref a) 0 200 = (decide ((0 : Int) ≤ xs.length) && decide ((xs.length : Int) ≤ 200)) := by simp [rowB, h]
    rw [this] at h1
    simp only [Bool.and_eq_true, decide_eq_true_eq] at h1
    refine ⟨a, (items H (.ref a)).map tx, rfl, by rw [← f1]; exact e2, by rw [List.length_map, e2]; omega, .inr (by rw [← f1]; exact h), f2⟩
  | non => simp [rowB] at h1
  | bl b => simp [rowB] at h1
  | int i => simp [rowB] at h1
  | str h => simp [rowB] at h1
  | dK h => simp [rowB, h] at h1
theorem ok_are_apart {C f : Addr} {fd : FuncData} (F : Fun K "are_apart" "are_apart" s_are_apart f fd) (T : Txt mg) (C_need_names : CalX P w K mg base 3 "need_names" ["names"] (spNeed C)) : FnOk P w K mg base (L2.CX P w) 4 f fd ["names"] (spApart C) := by
  refine F.okX sc_are_apart (fun vs H Q E h => ?_) (fun cdv A outer s H vs Q E hr h => ?_)
  · obtain ⟨v, rfl, _⟩ := h
    rfl
  · obtain ⟨v, rfl, h2, kq, ke⟩ := h
    refine ⟨_, (pss_cons (ps_expr (pe_calE C_need_names (takes_of rfl rfl rfl rfl) (hr.mono (by decide)) (pa_cons (pv 0) pa_nil)))
  (pss_cons (ps_set (i := 1) sc_are_apart.nd rfl (Or.inr rfl) (pe_callB cr_sortedA (by rfl) T.b_sorted boot_sorted (pa_cons (pv 0) pa_nil)))
  (pss_one (ps_ret (pe_not (pe_callB (cr_any rfl) (by rfl) T.b_any boot_any (pa_cons (pe_lc (own := [("place", 2)]) (g := gName 2) (tt := tYes) rfl sc_are_apart.nd (pi_range2 rfl T.b_range (pa_cons pe_int (pa_cons (pe_callB call_len_seq (by rfl) T.b_len boot_len (pa_cons (pv 1) pa_nil)) pa_nil))) (blkOk_by (own := [("place", 2)]) (N := N_are_apart) (sc := defScope s_are_apart) (by decide +kernel)) (fun _ _ _ _ _ => (pg_name (i := 2) sc_are_apart.nd rfl (Or.inl rfl))) (fun _ _ _ _ _ => pts_nil) (fun _ _ _ _ _ => (pe_bmK (K := K) (by rfl) PySem.F.plainAttrs_str PySem.F.slot_str_startswith PySem.F.type_str_startswith mt_startswith (pe_ix (ix_listK (K := K) (by rfl)) (pv 1) (pv 2) (fun _ _ => rfl)) (pa_cons (pe_ix (ix_listK (K := K) (by rfl)) (pv 1) (pe_op op_sub (pv 2) pe_int) (fun _ _ => rfl)) pa_nil)))) pa_nil))))))), ?_⟩
    refine ⟨v, rfl, v, rfl, h2, fun hn H1 s1 => ?_, fun hn H1 d s1 hd => ke hn H1 d s1 hd⟩
    obtain ⟨a, zs, rfl, e2, few, at_, eS⟩ := names_at h2.an hn
    refine ⟨_, rfl, a, zs, rfl, at_.imp (fun z => SqL.of (s1 _ _ z)) (fun z => SqT.of (s1 _ _ z)), fun ys p perm srt hp => ?_⟩
    have s2 := s1.trans (same_new (o := HO.lst (ys.map V.str)) hp)
    have l2 : upd H1 p (.lst (ys.map V.str)) p = some (.lst (ys.map V.str)) := upd_same
    generalize upd H1 p (.lst (ys.map V.str)) = H2 at s2 l2 ⊢
    have leny := perm.length_eq
    generalize eL : ys.map (fun z => z.cps.toList) = L
    have lenL : L.length = ys.length := by rw [← eL, List.length_map]
    have srtL : L.Pairwise (fun x y => ¬ y < x) := by rw [← eL]; exact List.pairwise_map.mpr srt
    have val : (!adj L) = apB H (.ref a) := by
      have h1 := adj_iff srtL
      have h2 : ApartL L ↔ ApartL (sgs H (.ref a)) := by
        rw [eS, ← eL]
        exact ApartL.perm (perm.map _)
      rw [Bool.eq_iff_iff, apB_iff, Bool.not_eq_true', ← Bool.not_eq_true, h1, Classical.not_not, h2]
    dsimp only [gName]
    refine ⟨_, rfl, p, ys.map V.str, rfl, .inl (SqL.of l2), 1, _, rfl, ⟨by decide, by decide, by omega, by rw [List.length_map]; omega⟩, fun D hD => ?_⟩
    have en : (((ys.map V.str).length : Int) - 1).toNat = L.length - 1 := by rw [List.length_map, lenL]; omega
    rw [en]
    have get : ∀ i, i < ys.length → (ys.map V.str)[i]? = some (.str ⟨(L.getD i []).toArray⟩) := by
      intro i hi
      rw [List.getElem?_map, List.getElem?_eq_getElem hi, ← eL]
      simp [List.getD_eq_getElem?_getD, List.getElem?_map, List.getElem?_eq_getElem hi]
    refine lc_rng (f0 := fun i => .int (1 + (i : Nat))) (f := fun i => .bl ((L.getD i []).isPrefixOf (L.getD (i + 1) []))) walk_range hD (fun _ _ => trivial) (Nat.le_trans (m := 200) (by omega) (by decide)) (fun _ => rfl) (fun i H' R hi s r => ?_) (fun H' s hl => ?_)
    · have i1 : i + 1 < ys.length := by omega
      have c1 : (1 + (i : Int)) = ((i + 1 : Nat) : Int) := by omega
      have c0 : (((i + 1 : Nat) : Int) - 1) = (i : Int) := by omega
      rw [c1]
      refine ⟨_, rfl, _, rfl, p, ys.map V.str, _, _, rfl, rfl, SqL.of (s _ _ l2), atI_nat (get _ i1), rfl, ?_⟩
      refine ⟨_, rfl, ⟨_, rfl, _, _, rfl, rfl, p, ys.map V.str, _, _, rfl, rfl, SqL.of (s _ _ l2), by rw [c0]; exact atI_nat (get _ (by omega)), ?_⟩⟩
      refine ⟨_, _, rfl, rfl, ?_⟩
      rw [starts_pre]
      exact r H' (Same.refl _)
    · refine ⟨D, (List.range (L.length - 1)).map fun i => (L.getD i []).isPrefixOf (L.getD (i + 1) []), rfl, SqL.of (by rw [hl, List.map_map]; rfl), _, rfl, ?_⟩
      rw [← adj_range, val]
      exact kq hn H' (s2.trans s)

/-! ### share_of -/
def redV (u d : Nat) : List V := [.int ((u / Nat.gcd u d : Nat) : Int), .int ((d / Nat.gcd u d : Nat) : Int)]
def spRed : Sp := fun vs H Q _ => ∃ u d : Nat, vs = [.int (u : Int), .int (d : Int)] ∧ 0 < d ∧ d < 2 ^ 61 ∧ ∀ p, H p = none → Q (.ref p) (upd H p (.tup (redV u d)))
theorem ok_reduced {f : Addr} {fd : FuncData} (F : Fun K "reduced" "reduced" s_reduced f fd) (T : Txt mg) : FnOk P w K mg base CX0 1 f fd ["up", "down"] spRed := by
  refine F.ok sc_reduced (fun vs H Q E h => ?_) (fun cdv A outer s H vs Q E hr h => ?_)
  · obtain ⟨u, d, rfl, _⟩ := h
    rfl
  · obtain ⟨u, d, rfl, hd, hd2, k⟩ := h
    refine ⟨_, (pss_cons (ps_set (i := 2) sc_reduced.nd rfl (Or.inl rfl) (pe_callBfun cr_gcd (by rfl) T.g_gcd (pa_cons (pv 0) (pa_cons (pv 1) pa_nil))))
  (pss_one (ps_ret (pe_tup (pa_cons (pe_op op_fdivW (pv 0) (pv 2)) (pa_cons (pe_op op_fdivW (pv 1) (pv 2)) pa_nil)))))), ?_⟩
    have g0 : 0 < Nat.gcd u d := Nat.gcd_pos_of_pos_right _ hd
    have g1 : Nat.gcd u d ≤ d := Nat.gcd_le_right _ hd
    have cd : ∀ i : Int, CDivW i ((Nat.gcd u d : Nat) : Int) := fun i => wide_div (b := 61) (by omega) (by rw [Int.natAbs_natCast]; omega) (by decide) (by decide)
    refine ⟨_, rfl, _, rfl, _, _, rfl, ?_⟩
    refine ⟨_, rfl, _, rfl, _, _, rfl, rfl, cd _, ⟨_, rfl, _, rfl, _, _, rfl, rfl, cd _, by show 2 ≤ sizeLine; decide, fun p hp => ?_⟩⟩
    have := k p hp
    unfold redV at this
    rw [Int.natCast_ediv, Int.natCast_ediv] at this
    exact this
def shr (ns : List Nat) : Nat := (ns.map fun n => 2 ^ (60 - n)).sum
theorem shr_le : ∀ ns : List Nat, shr ns ≤ ns.length * 2 ^ 60
  | [] => Nat.zero_le _
  | n :: ns => by
    have ih := shr_le ns
    have : 2 ^ (60 - n) ≤ 2 ^ 60 := Nat.pow_le_pow_right (by decide) (by omega)
    unfold shr at ih ⊢
    rw [List.map_cons, List.sum_cons, List.length_cons, Nat.succ_mul]
    omega
theorem shr_sum : ∀ ns : List Nat, (ns.map fun n => ((2 ^ (60 - n) : Nat) : Int)).sum = ((shr ns : Nat) : Int)
  | [] => rfl
  | n :: ns => by
    have ih := shr_sum ns
    unfold shr at ih ⊢
    rw [List.map_cons, List.sum_cons, ih, List.map_cons, List.sum_cons, Int.natCast_add]
def powV : V → V
  | .int i => .int ((2 ^ (60 - i.toNat) : Nat) : Int)
  | v => v
def spSum (K : PySem.W.Frag) : Sp := fun vs H Q _ => ∃ (a : Addr) (ns : List Nat), vs = [.ref a] ∧ H a = some (.lst (ns.map fun n => V.int (n : Nat))) ∧ ns.length ≤ 200 ∧ (∀ n ∈ ns, n ≤ 60) ∧ ∀ H' p, Same H H' → H' p = none → Q (.ref p) (upd H' p (.tup (redV (shr ns) (2 ^ 60))))
theorem ok_sum_of_shares {f : Addr} {fd : FuncData} (F : Fun K "sum_of_shares" "sum_of_shares" s_sum_of_shares f fd) (T : Txt mg) (C_reduced : Cal P w K mg base 1 "reduced" ["up", "down"] spRed) : FnOk P w K mg base CX0 2 f fd ["lengths"] (spSum K) := by
  refine F.ok sc_sum_of_shares (fun vs H Q E h => ?_) (fun cdv A outer s H vs Q E hr h => ?_)
  · obtain ⟨a, ns, rfl, _⟩ := h
    rfl
  · obtain ⟨a, ns, rfl, ha, few, small, k⟩ := h
    refine ⟨_, (pss_one (ps_ret (pe_cal C_reduced (hr.mono (by decide)) (pa_cons (pe_callB (cr_sum rfl) (by rfl) T.b_sum boot_sum (pa_cons (pe_lc (own := [("length", 1)]) (g := gName 1) (tt := tYes) rfl sc_sum_of_shares.nd (pi_list (pv 0)) (blkOk_by (own := [("length", 1)]) (N := N_sum_of_shares) (sc := defScope s_sum_of_shares) (by decide +kernel)) (fun _ _ _ _ _ => (pg_name (i := 1) sc_sum_of_shares.nd rfl (Or.inl rfl))) (fun _ _ _ _ _ => pts_nil) (fun _ _ _ _ _ => (pe_op op_shl pe_int (pe_op op_sub (pe_gi T.g_MOST_SIGNS) (pv 1))))) pa_nil)) (pa_cons (pe_op op_shl pe_int (pe_gi T.g_MOST_SIGNS)) pa_nil))))), ?_⟩
    refine ⟨_, rfl, a, rfl, ⟨_, SqL.of ha⟩, fun D hD => ?_⟩
    refine lc_map (f := powV) (walk_list (K := K) (xs := ns.map fun n => V.int (n : Nat))) hD (fun H' s => SqL.of (s _ _ ha)) (by rw [List.length_map]; exact Nat.le_trans few (by decide)) (fun _ => rfl) (fun i x H' R hx s r => ?_) (fun H' s hl => ?_)
    · rw [List.getElem?_map] at hx
      obtain ⟨n, hn, rfl⟩ := Option.map_eq_some_iff.mp hx
      have le := small n (List.mem_of_getElem? hn)
      refine ⟨_, rfl, _, _, rfl, rfl, _, _, rfl, rfl, ⟨by omega, by omega, by decide⟩, ?_⟩
      have e : (1 : Int) * 2 ^ ((60 : Int) - (n : Int)).toNat = ((2 ^ (60 - n) : Nat) : Int) := by
        rw [Int.one_mul, show ((60 : Int) - (n : Int)).toNat = 60 - n by omega, Int.natCast_pow]
        rfl
      show R (.int ((1 : Int) * 2 ^ ((60 : Int) - (n : Int)).toNat)) H'
      rw [e]
      exact r H' (Same.refl _)
    · refine ⟨D, ns.map fun n => ((2 ^ (60 - n) : Nat) : Int), rfl, SqL.of (by rw [hl, List.map_map, List.map_map]; rfl), ?_⟩
      refine ⟨_, _, rfl, rfl, ⟨by decide, by decide, by decide⟩, shr ns, 2 ^ 60, ?_, by decide, by decide, fun p hp => k H' p s hp⟩
      rw [shr_sum]
      rfl

def lens (H : Hp) (v : V) : List Nat := (items H v).map fun x => (tx x).length
def spShare (C : Addr) : Sp := fun vs H Q E => ∃ v, vs = [v] ∧ An2 H v ∧ (namesB H v = true → ∀ H' p, Same H H' → H' p = none → Q (.ref p) (upd H' p (.tup (redV (shr (lens H v)) (2 ^ 60))))) ∧ (namesB H v = false → ∀ H' d, Same H H' → H' d = none → E (.ref C) (some d) (upd H' d (.xd [("part", .str "names")])))
theorem lens_ok {H : Hp} {v : V} (h : namesB H v = true) : ∀ n ∈ lens H v, n ≤ 60 := by
  intro n hn
  unfold lens at hn
  obtain ⟨x, hx, rfl⟩ := List.mem_map.mp hn
  unfold namesB at h
  rw [Bool.and_eq_true] at h
  have hb := List.all_eq_true.mp h.2 x hx
  have e := nameB_str hb
  rw [e] at hb
  have hb : (decide ((1 : Int) ≤ (tx x).length) && (decide (((tx x).length : Int) ≤ 60) && decide (Txt.stripChars (tx x) "01" = ""))) = true := hb
  simp only [Bool.and_eq_true, decide_eq_true_eq] at hb
  omega
def lenV : V → V
  | .str z => .int (z.length : Nat)
  | v => v
theorem ok_share_of {C f : Addr} {fd : FuncData} (F : Fun K "share_of" "share_of" s_share_of f fd) (T : Txt mg) (C_need_names : CalX P w K mg base 3 "need_names" ["names"] (spNeed C)) (C_sum_of_shares : Cal P w K mg base 2 "sum_of_shares" ["lengths"] (spSum K)) : FnOk P w K mg base (L2.CX P w) 4 f fd ["names"] (spShare C) := by
  refine F.okX sc_share_of (fun vs H Q E h => ?_) (fun cdv A outer s H vs Q E hr h => ?_)
  · obtain ⟨v, rfl, _⟩ := h
    rfl
  · obtain ⟨v, rfl, h2, kq, ke⟩ := h
    cases hN : namesB H v with
    | false =>
      refine ⟨_, (pss_cons (ps_expr (pe_calE C_need_names (takes_of rfl rfl rfl rfl) (hr.mono (by decide)) (pa_cons (pv 0) pa_nil)))
  (pss_one (ps_ret (pe_cal C_sum_of_shares (hr.mono (by decide)) (pa_cons (pe_lc (own := [("name", 1)]) (g := gName 1) (tt := tYes) rfl sc_share_of.nd (pi_list (pv 0)) (blkOk_by (own := [("name", 1)]) (N := N_share_of) (sc := defScope s_share_of) (by decide +kernel)) (fun _ _ _ _ _ => (pg_name (i := 1) sc_share_of.nd rfl (Or.inl rfl))) (fun _ _ _ _ _ => pts_nil) (fun _ _ _ _ _ => (pe_callB call_len_str (by rfl) T.b_len boot_len (pa_cons (pv 1) pa_nil)))) pa_nil))))), ?_⟩
      refine ⟨v, rfl, v, rfl, h2, ?_, fun hn H1 d s1 hd => ke hn H1 d s1 hd⟩
      intro z
      rw [hN] at z
      cases z
    | true =>
      obtain ⟨a, zs, rfl, e2, few, at_, eS⟩ := names_at h2.an hN
      have eL : lens H (.ref a) = zs.map (·.length) := by
        unfold lens
        rw [e2, List.map_map]
        rfl
      have small := lens_ok hN
      have long : ∀ z ∈ zs, z.length ≤ sizeLine := fun z hz => Nat.le_trans (small _ (by rw [eL]; exact List.mem_map.mpr ⟨z, hz, rfl⟩)) (by decide)
      have kq := kq hN
      rw [eL] at small kq
      have rest : ∀ (D : Addr) (H' : Hp) (R : VK), (∀ H'' p, Same H' H'' → H'' p = none → R (.ref p) (upd H'' p (.tup (redV (shr (zs.map (·.length))) (2 ^ 60))))) → H' D = some (.lst ((zs.map V.str).map lenV)) → spSum K [.ref D] H' R (fun _ _ _ => False) := fun D H' R r hl =>
        ⟨D, zs.map (·.length), rfl, by rw [hl, List.map_map, List.map_map]; rfl, by rw [List.length_map]; exact few, small, r⟩
      rcases at_ with at_ | at_
      · refine ⟨_, (pss_cons (ps_expr (pe_calE C_need_names (takes_of rfl rfl rfl rfl) (hr.mono (by decide)) (pa_cons (pv 0) pa_nil)))
  (pss_one (ps_ret (pe_cal C_sum_of_shares (hr.mono (by decide)) (pa_cons (pe_lc (own := [("name", 1)]) (g := gName 1) (tt := tYes) rfl sc_share_of.nd (pi_list (pv 0)) (blkOk_by (own := [("name", 1)]) (N := N_share_of) (sc := defScope s_share_of) (by decide +kernel)) (fun _ _ _ _ _ => (pg_name (i := 1) sc_share_of.nd rfl (Or.inl rfl))) (fun _ _ _ _ _ => pts_nil) (fun _ _ _ _ _ => (pe_callB call_len_str (by rfl) T.b_len boot_len (pa_cons (pv 1) pa_nil)))) pa_nil))))), ?_⟩
        refine ⟨_, rfl, _, rfl, h2, fun _ H1 s1 => ?_, fun z => by rw [hN] at z; cases z⟩
        refine ⟨_, rfl, a, rfl, ⟨_, SqL.of (s1 _ _ at_)⟩, fun D hD => ?_⟩
        refine lc_map (f := lenV) (walk_list (K := K) (xs := zs.map V.str)) hD (fun H' s => SqL.of ((s1.trans s) _ _ at_)) (by rw [List.length_map]; exact Nat.le_trans few (by decide)) (fun _ => rfl) (fun i x H' R hx s r => ?_) (fun H' s hl => rest D H' _ (fun H'' p s' hp => kq H'' p ((s1.trans s).trans s') hp) hl)
        rw [List.getElem?_map] at hx
        obtain ⟨z, hz, rfl⟩ := Option.map_eq_some_iff.mp hx
        exact ⟨_, rfl, z, rfl, long z (List.mem_of_getElem? hz), r H' (Same.refl _)⟩
      · refine ⟨_, (pss_cons (ps_expr (pe_calE C_need_names (takes_of rfl rfl rfl rfl) (hr.mono (by decide)) (pa_cons (pv 0) pa_nil)))
  (pss_one (ps_ret (pe_cal C_sum_of_shares (hr.mono (by decide)) (pa_cons (pe_lc (own := [("name", 1)]) (g := gName 1) (tt := tYes) rfl sc_share_of.nd (pi_tup (pv 0)) (blkOk_by (own := [("name", 1)]) (N := N_share_of) (sc := defScope s_share_of) (by decide +kernel)) (fun _ _ _ _ _ => (pg_name (i := 1) sc_share_of.nd rfl (Or.inl rfl))) (fun _ _ _ _ _ => pts_nil) (fun _ _ _ _ _ => (pe_callB call_len_str (by rfl) T.b_len boot_len (pa_cons (pv 1) pa_nil)))) pa_nil))))), ?_⟩
        refine ⟨_, rfl, _, rfl, h2, fun _ H1 s1 => ?_, fun z => by rw [hN] at z; cases z⟩
        refine ⟨_, rfl, a, rfl, ⟨_, SqT.of (s1 _ _ at_)⟩, fun D hD => ?_⟩
        refine lc_map (f := lenV) (walk_tup (K := K) (xs := zs.map V.str)) hD (fun H' s => SqT.of ((s1.trans s) _ _ at_)) (by rw [List.length_map]; exact Nat.le_trans few (by decide)) (fun _ => rfl) (fun i x H' R hx s r => ?_) (fun H' s hl => rest D H' _ (fun H'' p s' hp => kq H'' p ((s1.trans s).trans s') hp) hl)
        rw [List.getElem?_map] at hx
        obtain ⟨z, hz, rfl⟩ := Option.map_eq_some_iff.mp hx
        exact ⟨_, rfl, z, rfl, long z (List.mem_of_getElem? hz), r H' (Same.refl _)⟩

/-! ### need_apart -/
def eBad (C : Addr) (w : Str) : Hp → XK → Prop := fun H E => ∀ H' d, Same H H' → H' d = none → E (.ref C) (some d) (upd H' d (.xd [("part", .str w)]))
def spNeedAp (C D : Addr) : Sp := fun vs H Q E => ∃ v, vs = [v] ∧ An2 H v ∧ (namesB H v = false → eBad C "names" H E) ∧ (namesB H v = true → apB H v = false → eBad D "names" H E) ∧ (namesB H v = true → apB H v = true → ∀ H', Same H H' → Q .non H')
theorem ok_need_apart {C D f : Addr} {fd : FuncData} (F : Fun K "need_apart" "need_apart" s_need_apart f fd) (T : Txt mg) (R_Misfit : Rcl P w K mg base "Misfit" D "part") (C_are_apart : CalX P w K mg base 4 "are_apart" ["names"] (spApart C)) : FnOk P w K mg base (L2.CX P w) 5 f fd ["names"] (spNeedAp C D) := by
  refine F.okX sc_need_apart (fun vs H Q E h => ?_) (fun cdv A outer s H vs Q E hr h => ?_)
  · obtain ⟨v, rfl, _⟩ := h
    rfl
  · obtain ⟨v, rfl, h2, ke, km, kq⟩ := h
    refine ⟨_, (pss_one (ps_if (pt_not (pt_val (pe_calE C_are_apart (takes_of rfl rfl rfl rfl) (hr.mono (by decide)) (pa_cons (pv 0) pa_nil))))
  (pss_one (ps_raise1 R_Misfit rfl (takes_of rfl rfl rfl rfl) (hr.mono (by decide)) pe_str))
  pss_nil)), ?_⟩
    refine ⟨v, rfl, v, rfl, h2, fun hn H1 s1 => ⟨_, rfl, ?_⟩, fun hn H1 d s1 hd => ke hn H1 d s1 hd⟩
    cases ha : apB H v with
    | true => exact iteF (kq hn ha H1 s1)
    | false => exact iteT fun d hd => km hn ha H1 d s1 hd
end
end K05
set_option Elab.async false
set_option linter.all false
set_option maxRecDepth 100000
set_option maxHeartbeats 4000000
/-! enumerate of a tuple; a dict comprehension over any walk -/
namespace Own
open PySem PySem.Spec PyProof.Rows L2
set_option maxHeartbeats 8000000 in
theorem own_meets_enum {v : Value} {o : Obj} {H : Heap → Prop} (B : Begins v o H) :
    Meets (Builtin.«enumerate.__new__» ⟨[.type "enumerate", v], []⟩) (fun _ R s => H s.heap ∧
      R (.ok (.ret (.ref (s.heap.push o).objs.size))) { s with heap := (s.heap.push o).push { cls := .type "enumerate", data := .fields #[.none, .bool false, .ref s.heap.objs.size, rawInt 0, .none, .none] } }) :=
  .of_wp fun prog w A R s h => by
    obtain ⟨hp, g, d, tk, os⟩ := s; obtain ⟨h1, h⟩ := h
    have hsub := sub_enumerate
    have q1 : ∀ {A' : Around} {E : Value → Shared → Prop} {Q : Value → Shared → Prop}, Q (.ref hp.objs.size) ⟨hp.push o, g, d, tk, os⟩ → wpAny (model prog w) A' (pyIter v) Q E ⟨hp, g, d, tk, os⟩ :=
      fun q => B.iter prog w _ _ ⟨hp, g, d, tk, os⟩ _ h1 q
    wp_walk using q1
    refine wpAny_stack_any fun st => wpAny_pure ?_
    split
    · rename_i c _ _ _ _ _
      cases (c == Value.type "enumerate")
      · wp_walk using q1
        exact ⟨_, rfl, h⟩
      · wp_walk using q1
        exact ⟨_, rfl, h⟩
    · wp_walk using q1
      exact ⟨_, rfl, h⟩
section
variable {prog : Program} {w : World} {A : Around} {E : Value → Shared → Prop} {s : Shared}
theorem own_enum_begins {v : Value} {o : Obj} {H : Heap → Prop} {Q : Value → Shared → Prop} (B : Begins v o H) (h1 : H s.heap)
    (h : ∀ h', IsEnum h' (s.heap.objs.size + 1) s.heap.objs.size 0 .none → h'.get? s.heap.objs.size = some o → h'.objs.size = s.heap.objs.size + 2 →
      (∀ b o, s.heap.get? b = some o → h'.get? b = some o) → Q (.ref (s.heap.objs.size + 1)) { s with heap := h' }) :
    wpAny (model prog w) A (call (.type "enumerate") [v]) Q E s := by
  refine callType_new F.called_enumerate (by decide) (F.typeCall_enumerate_1 _) (F.newCall_enumerate_1 _) (fun obj => F.args_object_init_2 obj _) F.entry_enumerate_new
    (own_meets_enum B) ⟨h1, ?_⟩
  have hz : (s.heap.push o).objs.size = s.heap.objs.size + 1 := Heap.size_push ..
  show _ ∧ _
  rw [hz]
  have he : IsEnum ((s.heap.push o).push { cls := .type "enumerate", data := .fields #[.none, .bool false, .ref s.heap.objs.size, rawInt 0, .none, .none] }) (s.heap.objs.size + 1) s.heap.objs.size 0 .none := by
    have := Heap.get?_push_size (s.heap.push o) (o := { cls := .type "enumerate", data := .fields #[.none, .bool false, .ref s.heap.objs.size, rawInt 0, .none, .none] }) rfl
    rw [hz] at this; exact this
  refine ⟨⟨_, he, rfl⟩, h _ he (Heap.get?_push_of_some _ (Heap.get?_push_size _ B.free)) (by rw [Heap.size_push, hz]) fun b o x => Heap.get?_push_of_some _ (Heap.get?_push_of_some _ x)⟩
end
def IteT (K : PySem.W.Frag) (a : Addr) : It :=
  ⟨fun i H => ∃ (xs : List V) (x : V), SqT K H a xs ∧ xs[i]? = some x, fun i H v H' => ∃ T x, v = .ref T ∧ H T = none ∧ H' = upd H T (.tup [.int (i : Nat), x]) ∧ ∀ xs, SqT K H a xs → xs[i]? = some x, fun i H => ∃ xs : List V, SqT K H a xs ∧ xs.length ≤ i⟩
theorem iter_ne {h : Heap} {it a : Addr} {i : Nat} {its : Array Value} (x : h.IsTupleIter it a i) (p : h.IsTuple a its) : a ≠ it := by
  rintro rfl
  obtain ⟨o, e, c, _⟩ := x
  obtain ⟨o', e', c', _⟩ := p
  rw [e] at e'
  cases e'
  rw [c] at c'
  exact absurd c' (by decide)
theorem enum_neT {h : Heap} {e it a : Addr} {c : Int} {old : Value} {its : Array Value} (x : IsEnum h e it c old) (p : h.IsTuple a its) : e ≠ a := by
  rintro rfl
  obtain ⟨o', e', c', _⟩ := p
  rw [x] at e'
  cases e'
  exact absurd (show Value.type "enumerate" = Value.type "tuple" from c') (by decide)
theorem turn_enumT {P : Program} {w : World} {K : PySem.W.Frag} {elts : List Expr} {kk : Nat} {tpos : Pos} (a e it : Addr) :
    Turn P w K (.Tuple elts kk tpos) (IteT K a) [e, it] e (fun i h => (∃ old, IsEnum h e it ((i : Nat) : Int) old) ∧ h.IsTupleIter it a i ∧ e ≠ it) where
  mem := by simp
  obj := fun i h st b hb => by
    obtain ⟨⟨old, he⟩, ⟨o, ho, hc, hd⟩, _⟩ := st
    have e' : b = e ∨ b = it := by simpa using hb
    rcases e' with z | z
    · rw [z]; exact ⟨_, he, fun v q => nomatch q⟩
    · rw [z]; exact ⟨o, ho, fun v q => by rw [hd] at q; cases q⟩
  keep := fun i h h' st k => let ⟨⟨old, he⟩, hi, hne⟩ := st; ⟨⟨old, k e (by simp) _ he⟩, hi.at fun o q => k it (by simp) o q, hne⟩
  item := by
    intro X hP hw hK hc i pins s σ H E I hf st hg
    subst hP hw hK
    obtain ⟨⟨old, he⟩, hit, hne⟩ := st
    obtain ⟨xs, x, hq, hx⟩ := hg
    obtain ⟨its, rv, p, hz⟩ := I.tuple hq
    have p : s.heap.IsTuple a its.toArray := p
    obtain ⟨u, hu, ru⟩ := rv.get hx
    have hel : e < s.heap.objs.size := Heap.lt_size he
    have hil : it < s.heap.objs.size := by obtain ⟨_, q, _⟩ := hit; exact Heap.lt_size q
    have ilt : i < its.toArray.size := by
      have := (List.getElem?_eq_some_iff.mp hu).1
      simpa using this
    refine wpAny_pyNext_enum_itemD (Draws.tuple (prog := X.prog) (w := X.w) (A := X.A.in1) (I.ok.hd hc) it a (iter_ne hit p) its.toArray) he ⟨hit, p⟩ ilt hne (by simp [hne, enum_neT he p]) fun x' h' tk hP ho hst hT hsz hk => ?_
    have xu : x' = u := by
      have hP : its.toArray[i]? = some x' := hP
      rw [List.getElem?_toArray, hu] at hP
      cases hP
      rfl
    subst xu
    obtain ⟨hit', p'⟩ := hst
    refine ⟨_, rfl, wpAny_letOwnedTupleGo_enum (s := { s with heap := h', toks := tk + 1 }) ho fun h'' he' sb => ?_⟩
    have hT2 : h''.get? s.heap.objs.size = some { cls := .type "tuple", data := .seq #[.int i tk, x'] } := (sb.2 _ (Nat.ne_of_gt hel)).trans hT
    have new : ObjOk X.prog X.w (upd H s.heap.objs.size (.tup [.int (i : Nat), x])) h'' s.heap.objs.size (.tup [.int (i : Nat), x]) :=
      ⟨by show 2 ≤ sizeLine; decide, [.int i tk, x'], .cons ⟨_, rfl⟩ (.cons ru .nil), ⟨_, hT2, rfl, _, rfl⟩⟩
    have I1 : Inv X pins σ (upd H s.heap.objs.size (.tup [.int (i : Nat), x])) { s with heap := h'', toks := tk + 1 } :=
      I.turnedNew (ch := [e, it]) (fun b ob hb q => (sb.2 b (fun z => hb (by simp [z]))).trans (hk b ob (fun z => hb (by simp [z])) (fun z => hb (by simp [z])) q)) hf (Nat.le_refl _) new
    refine ⟨.ref s.heap.objs.size, _, I1, rfl, ⟨_, x, rfl, I.hok.fresh (Nat.le_refl _), rfl, fun ys hy => by rw [I.tuple_inj hy hq]; exact hx⟩, ⟨⟨x', ?_⟩, hit'.at fun o q => (sb.2 it (Ne.symm hne)).trans q, hne⟩, fun b hb => ?_⟩
    · have e1 : ((i + 1 : Nat) : Int) = (i : Int) + 1 := by omega
      rw [e1]; exact he'
    · have hb' : b < s.heap.objs.size := by
        have e' : b = e ∨ b = it := by simpa using hb
        rcases e' with z | z
        · rw [z]; exact hel
        · rw [z]; exact hil
      rw [upd_ne (Nat.ne_of_lt hb')]
      exact (hf b hb).1
  done := by
    intro X hP hw hK hc i pins s σ H E I hf st hg
    subst hP hw hK
    obtain ⟨⟨old, he⟩, hit, hne⟩ := st
    obtain ⟨xs, hq, hx⟩ := hg
    obtain ⟨its, rv, p, hz⟩ := I.tuple hq
    have p : s.heap.IsTuple a its.toArray := p
    obtain ⟨f0, f1, f2, f3, f4, f5⟩ := hf it (by simp)
    have hl := rv.length
    have hT : s.TypeIs (.ref e) "enumerate" := ⟨_, he, rfl⟩
    unfold pyNext
    refine wpAny_bind (wpAny_attempt (wpAny_callSpecial?_slot (name := Str.ofString "__next__") hT F.slot_enumerate_next
      (wpAny_call_entry F.slot_enumerate_next hT F.entry_enumerate_next ?_ (F.args_enumerate_next_1 _))))
    show wpAny _ _ (field (.ref e) 2 >>= _) _ _ _
    refine wpAny_bind (wpAny_field he rfl (x := .ref it) rfl ?_)
    refine wpAny_bind (wpAny_nextOf_tuple_end (I.ok.hd hc) hit p (by simp; omega) fun h' x he' hx' => ?_)
    obtain ⟨o, ho, hc⟩ := hx'
    refine wpAny_bind (wpAny_isInstance (T := "StopIteration") (b := true) ⟨o, ho, hc⟩ isSubtype_stop ?_)
    exact wpAny_pure ⟨rfl, I.turned (t' := s.toks) (fun b o hb q => he' b o hb q) f0 f1 f3 f4 f5⟩
  self := fun A i s Q E st h => let ⟨⟨_, he⟩, _⟩ := st; wpAny_pyIter_enum he h
def iEnumT (K : PySem.W.Frag) (ta : TA) : TI := fun σ H R => ta σ H fun vs H1 => ∃ a xs, vs = [.ref a] ∧ SqT K H1 a xs ∧ R (IteT K a) H1
theorem pi_enumT {X : Cx} {e : Expr} {ta : TA} {p pos tpos : Pos} {elts : List Expr} {kk : Nat} (hg : Gl X "enumerate") (hm : X.mg "enumerate" = none) (ha : PA X [e] ta) (hs : starEach [e] X.env = [(false, eval e X.env)] := by rfl) :
    PI X (.Tuple elts kk tpos) (.Call (.Name "enumerate" p) [e] [] pos) (iEnumT X.K ta) := by
  refine ⟨fun pins s σ H R I h => ?_⟩
  refine Call_ (ld_blt I hg hm boot_enumerate (PyProof.Rows.callWith_type1 (thn (ha.run pos pins s σ H _ I h) fun us s1 ⟨vs, H1, I1, r1, q1⟩ => ?_) hs rfl))
  obtain ⟨a, xs, ex, hq, q⟩ := q1
  subst ex
  cases r1 with
  | cons r rr =>
    cases rr
    cases r
    obtain ⟨its, rv, p', hz⟩ := I1.tuple hq
    refine own_enum_begins (begins_tuple a its.toArray) (show s1.heap.IsTuple a its.toArray from p') fun h' he hit hsz hk => wpAny_pyIter_enum he ?_
    have I2 : Inv X pins σ H1 { s1 with heap := h' } := I1.kept (t' := s1.toks) hk
    refine ⟨s1.heap.objs.size + 1, [s1.heap.objs.size + 1, s1.heap.objs.size], _, _, H1, rfl, I2, turn_enumT a (s1.heap.objs.size + 1) s1.heap.objs.size, ⟨⟨.none, he⟩, ⟨_, hit, rfl, rfl⟩, Nat.succ_ne_self _⟩, fun b hb => ?_, q⟩
    have e' : b = s1.heap.objs.size + 1 ∨ b = s1.heap.objs.size := by simpa using hb
    have hle : s1.heap.objs.size ≤ b := by
      rcases e' with z | z
      · rw [z]; exact Nat.le_add_right _ _
      · rw [z]; exact Nat.le_refl _
    exact I1.fpOk hle (I1.hok.fresh hle)
theorem walk_enumT {K : PySem.W.Frag} {a : Addr} {xs : List V} : Walk (IteT K a) xs.length (fun H => SqT K H a xs) (YPair (fun i => some (.int (i : Nat))) (fun i => xs[i]?)) := by
  refine ⟨fun i _ hi q => ⟨xs, xs[i], q, by simp [hi]⟩, fun _ q => ⟨xs, q, Nat.le_refl _⟩, fun i H v H' _ q y => ?_⟩
  obtain ⟨T, x, h1, h2, h3, h4⟩ := y
  exact ⟨T, .int (i : Nat), x, h1, h2, h3, rfl, h4 xs q⟩
theorem dc_it {J : It} {n : Nat} {G : Hp → Prop} {Y : Nat → Hp → V → Hp → Prop} (w : Walk J n G Y) {g : TG} {tt : TT} {tk tv : TE} {vs : List Nat} {σ : L2.St} {H1 : Hp} {D : Addr} {Qd : Hp → Prop} (Pv : Nat → Hp → Prop) (h0 : Pv 0 (upd H1 D (.dK []))) (hG : ∀ i H, i ≤ n → Pv i H → G H)
    (hs : ∀ i x H H', i < n → Pv i H → Y i H x H' → g x (wipe σ vs) H' fun σ2 H2 => wipe σ2 vs = wipe σ vs ∧ tt σ2 H2 fun b H3 =>
      if b = true then tk σ2 H3 fun y H4 => tv σ2 H4 fun z H5 => ∃ kvs k, y = kV k ∧ H5 D = some (.dK kvs) ∧ kvs.length < sizeLine ∧ Pv (i + 1) (upd H5 D (.dK (putK kvs k z))) else Pv (i + 1) H3) (hd : ∀ H, Pv n H → Qd H) :
    ∃ W : Nat → Nat → Hp → Prop, (∃ m, W 0 m (upd H1 D (.dK []))) ∧ ∀ i m H, W i m H →
      (J.stop i H ∧ Qd H) ∨ (J.go i H ∧ ∃ Nx : Hp → Prop, (∀ H', Nx H' → ∃ m', m' < m ∧ W (i + 1) m' H') ∧ ∀ x H', J.yld i H x H' → g x (wipe σ vs) H' fun σ2 H2 => wipe σ2 vs = wipe σ vs ∧ tt σ2 H2 fun b H3 =>
        if b = true then tk σ2 H3 fun y H4 => tv σ2 H4 fun z H5 => ∃ kvs k, y = kV k ∧ H5 D = some (.dK kvs) ∧ kvs.length < sizeLine ∧ Nx (upd H5 D (.dK (putK kvs k z))) else Nx H3) := by
  refine ⟨fun i m H => m = n - i ∧ i ≤ n ∧ Pv i H, ⟨n, by simp, Nat.zero_le _, h0⟩, ?_⟩
  rintro i m H ⟨rfl, hi, p⟩
  have q := hG i H hi p
  by_cases hlt : i < n
  · exact .inr ⟨w.goes i H hlt q, Pv (i + 1), fun H' p' => ⟨n - (i + 1), by omega, rfl, hlt, p'⟩, fun x H' y => hs i x H H' hlt p (w.yields i H x H' hlt q y)⟩
  · have e : i = n := by omega
    subst e
    exact .inl ⟨w.stops H q, hd H p⟩

theorem sw_trueD {kx vx : Expr} {gs : List Comprehension} {scope : Scope} {pos py : Pos} {y : Str} {l : Nat} {env : Env} (hk : env.scope.kind = .function) (hy : env.scope.names.lookup y = some .local) (hl : (py.line == pos.line) = true)
    (ha : (scope.names.any fun (n, k) => n == y && (k == .local || k == .cell)) = false) : swapsWith (.DictComp kx vx gs scope pos) (some (.Name y py)) l env = pure true := by
  have ky : env.kindOf y = some .local := hy
  have hb : env.blockKind = .function := by unfold Env.blockKind; rw [hk]; rfl
  unfold swapsWith
  simp only [hb, ky, ha, Expr.pos, hl]
  rfl
theorem ps_setDc {X : Cx} {i : Nat} {y : Str} {py : Pos} {kx vx tg iter : Expr} {ifs : List Expr} {scope : Scope} {own : List (Str × Nat)} {pos spos : Pos} {wi : TI} {g : TG} {tt : TT} {tk tv : TE} (hc : X.calm = true) (hN : X.N.Nodup) (hy : X.N[i]? = some y) (hyl : X.env.scope.names.lookup y = some .local)
    (hsw : swapsWith (.DictComp kx vx [⟨tg, iter, ifs, 0⟩] scope pos) (some (.Name y py)) spos.line X.env = pure true) (hi : PI X tg iter wi) (ok : BlkOk X.N X.env.scope scope own)
    (hg : ∀ (s : Shared) (H : Hp) (C : Addr) (cl : List (Str × Addr)) (fp : List Addr), PG (X.blk s H scope (compEnvC scope cl C X.env) fp) tg g) (ht : ∀ (s : Shared) (H : Hp) (C : Addr) (cl : List (Str × Addr)) (fp : List Addr), PTs (X.blk s H scope (compEnvC scope cl C X.env) fp) ifs tt)
    (hk : ∀ (s : Shared) (H : Hp) (C : Addr) (cl : List (Str × Addr)) (fp : List Addr), PE (X.blk s H scope (compEnvC scope cl C X.env) fp) kx tk)
    (he : ∀ (s : Shared) (H : Hp) (C : Addr) (cl : List (Str × Addr)) (fp : List Addr), PE (X.blk s H scope (compEnvC scope cl C X.env) fp) vx tv) (hs : ∀ x, foldedSetIterable iter X.env x = pure x := by intro _; rfl) :
    PS X (.Assign [.Name y py] (.DictComp kx vx [⟨tg, iter, ifs, 0⟩] scope pos) spos) (tAsg (tDc wi g tt tk tv (own.map (·.2))) (gName i)) := by
  refine ⟨fun pins s σ H D I h => ?_⟩
  rw [exec_Assign_Name_used _ _ _ _ hsw]
  refine wpAny_bind (wpAny_standAt (wpAny_bind ?_))
  show wpAny _ X.A (do let _ ← comprehension (.DictComp kx vx [⟨tg, iter, ifs, 0⟩] scope pos) scope X.env (firstIterPos [⟨tg, iter, ifs, 0⟩] pos) newDict false (eval iter X.env) (some (assign (.Name y py) X.env))) _ _ s
  have h : tDc wi g tt tk tv (own.map (·.2)) σ H (fun x H1 => gName i x σ H1 D.nx) := h
  refine wpAny_bind (thn (dc_core (Qf := fun _ s' => SP X pins D .next s') hc hN I hi ok hg ht hk he hs h fun L C s' m H' I' q hn f => ?_) fun _ s' hq => wpAny_pure (wpAny_pure hq))
  show wpAny _ _ (assign (.Name y py) X.env (.ref L)) _ _ _
  refine wpAny_assign_Name (store_ok2 (v := V.ref L) I' hN hy (.inl hyl) rfl (fun s2 I2 ⟨a, sb, ha⟩ => ?_) (.inr hyl))
  obtain ⟨f0, f1, f2, f3, f4, f5⟩ := f
  have haC : C ≠ a := by
    rcases ha with z | z
    · rw [z]; exact f1
    · exact fun e => f4 y a z e.symm
  refine ⟨m, hn.sameBut sb haC, fun h3 sb3 => ?_⟩
  exact ⟨_, H', I2.turned (t' := s2.toks) (fun b o hb e => (sb3.2 b hb).trans e) f0 f1 f3 f4 f5, q⟩
theorem pg_tupK {X : Cx} {K : PySem.W.Frag} {es : List Expr} {k : Nat} {t : TGs} {n : Nat} {pos : Pos} (hK : X.K = K) (hc : X.calm = true) (h : PGs X es t)
    (hn : (assignEach es X.env).length = n := by rfl) (hst : (assignEach es X.env).findIdx? (·.1) = none := by rfl) : PG X (.Tuple es k pos) (gTup K n t) := hK ▸ pg_tup hc h hn hst
end Own
namespace Own
open PySem PySem.Spec PyProof.Rows L2
theorem mt_joinK {X : Cx} {K : PySem.W.Frag} (hK : X.K = K) : MtR X "str.join" (fun x xs H Q => ∃ (a : Str) (p : Addr) (ys : List Str), x = V.str a ∧ xs = [V.ref p] ∧ (SqL K H p (ys.map V.str) ∨ SqT K H p (ys.map V.str)) ∧ (ys.map (·.length)).sum + ys.length * a.length ≤ 16777216 ∧ Q (V.str (Txt.join a ys)) H) := hK ▸ mt_join
theorem erase_perm {α : Type} : ∀ (l : List α) (i : Nat) (h : i < l.length), l.Perm (l[i] :: l.eraseIdx i)
  | x :: l, 0, _ => .refl _
  | x :: l, i + 1, h => by
    have := erase_perm l i (Nat.lt_of_succ_lt_succ h)
    exact (this.cons x).trans (.swap _ _ _)
end Own
set_option Elab.async false
set_option linter.all false
set_option maxRecDepth 100000
set_option maxHeartbeats 4000000
/-! texts put together of names that are apart -/
namespace Own
open PySem PySem.Spec PyProof.Rows
def flat (L : List (List Nat)) (row : List Nat) : List Nat := (row.map fun i => L.getD i []).flatten
def Joins (L : List (List Nat)) (t : List Nat) (row : List Nat) : Prop := (∀ i ∈ row, i < L.length) ∧ flat L row = t
theorem flat_nil (L : List (List Nat)) : flat L [] = [] := rfl
theorem flat_cons (L : List (List Nat)) (i : Nat) (row : List Nat) : flat L (i :: row) = L.getD i [] ++ flat L row := rfl
theorem flat_app (L : List (List Nat)) (a b : List Nat) : flat L (a ++ b) = flat L a ++ flat L b := by
  unfold flat
  rw [List.map_append, List.flatten_append]
theorem ap_pre {L : List (List Nat)} (ap : ApartL L) {i j : Nat} {t : List Nat} (hi : i < L.length) (hj : j < L.length) (h1 : L.getD i [] <+: t) (h2 : L.getD j [] <+: t) : i = j := by
  have ei : L.getD i [] = L[i] := by simp [List.getD_eq_getElem?_getD, List.getElem?_eq_getElem hi]
  have ej : L.getD j [] = L[j] := by simp [List.getD_eq_getElem?_getD, List.getElem?_eq_getElem hj]
  rw [ei] at h1
  rw [ej] at h2
  unfold ApartL at ap
  rw [List.pairwise_iff_getElem] at ap
  have or_ := List.prefix_or_prefix_of_prefix h1 h2
  rcases Nat.lt_trichotomy i j with z | z | z
  · have := ap i j hi hj z
    rcases or_ with q | q
    · exact absurd q this.1
    · exact absurd q this.2
  · exact z
  · have := ap j i hj hi z
    rcases or_ with q | q
    · exact absurd q this.2
    · exact absurd q this.1
theorem getD_ne {L : List (List Nat)} (ne : ∀ x ∈ L, x ≠ []) {i : Nat} (hi : i < L.length) : L.getD i [] ≠ [] := by
  have ei : L.getD i [] = L[i] := by simp [List.getD_eq_getElem?_getD, List.getElem?_eq_getElem hi]
  rw [ei]
  exact ne _ (List.getElem_mem hi)
theorem joins_split {L : List (List Nat)} (ap : ApartL L) (ne : ∀ x ∈ L, x ≠ []) : ∀ (fs rest row : List Nat), (∀ i ∈ fs, i < L.length) → (∀ i ∈ row, i < L.length) → flat L row = flat L fs ++ rest → ∃ row', row = fs ++ row' ∧ flat L row' = rest
  | [], rest, row, _, _, e => ⟨row, rfl, e⟩
  | i :: fs, rest, row, hf, hr, e => by
    have hi := hf i List.mem_cons_self
    cases row with
    | nil =>
      rw [flat_nil, flat_cons, List.append_assoc] at e
      have : L.getD i [] = [] := (List.append_eq_nil_iff.mp e.symm).1
      exact absurd this (getD_ne ne hi)
    | cons j row =>
      have hj := hr j List.mem_cons_self
      rw [flat_cons, flat_cons, List.append_assoc] at e
      have p1 : L.getD j [] <+: L.getD i [] ++ (flat L fs ++ rest) := ⟨flat L row, e⟩
      have p2 : L.getD i [] <+: L.getD i [] ++ (flat L fs ++ rest) := List.prefix_append _ _
      have eij := ap_pre ap hj hi p1 p2
      subst eij
      have e' := List.append_cancel_left e
      obtain ⟨row', h1, h2⟩ := joins_split ap ne fs rest row (fun k hk => hf k (List.mem_cons_of_mem _ hk)) (fun k hk => hr k (List.mem_cons_of_mem _ hk)) e'
      exact ⟨row', by rw [h1]; rfl, h2⟩
theorem joins_uniq {L : List (List Nat)} (ap : ApartL L) (ne : ∀ x ∈ L, x ≠ []) {t r1 r2 : List Nat} (h1 : Joins L t r1) (h2 : Joins L t r2) : r1 = r2 := by
  obtain ⟨r', e, f⟩ := joins_split ap ne r1 [] r2 h1.1 h2.1 (by rw [List.append_nil, h1.2, h2.2])
  cases r' with
  | nil => rw [e, List.append_nil]
  | cons j r' =>
    have hj : j < L.length := h2.1 j (by rw [e]; simp)
    rw [flat_cons] at f
    exact absurd (List.append_eq_nil_iff.mp f).1 (getD_ne ne hj)
/-- where no name goes on nothing is put together -/
theorem joins_stop {L : List (List Nat)} (ap : ApartL L) (ne : ∀ x ∈ L, x ≠ []) {t fs rest row : List Nat} (hf : ∀ i ∈ fs, i < L.length) (e : t = flat L fs ++ rest) (hr : rest ≠ []) (no : ∀ i, i < L.length → ¬ L.getD i [] <+: rest) : ¬ Joins L t row := by
  rintro ⟨h1, h2⟩
  obtain ⟨r', e1, f⟩ := joins_split ap ne fs rest row hf h1 (by rw [h2, e])
  cases r' with
  | nil => exact hr f.symm
  | cons j r' =>
    refine no j (h1 j (by rw [e1]; simp)) ⟨flat L r', ?_⟩
    rw [← f, flat_cons]
theorem getD_map {zs : List Str} {i : Nat} {z : Str} (h : zs[i]? = some z) : (zs.map fun z => z.cps.toList).getD i [] = z.cps.toList := by
  rw [List.getD_eq_getElem?_getD, List.getElem?_map, h]
  rfl
theorem apart_nodup {zs : List Str} (ap : ApartL (zs.map fun z => z.cps.toList)) : ∀ (i j : Nat) (z : Str), zs[i]? = some z → zs[j]? = some z → i = j := by
  intro i j z hi hj
  refine ap_pre ap (t := z.cps.toList) ?_ ?_ ?_ ?_
  · rw [List.length_map]; exact (List.getElem?_eq_some_iff.mp hi).1
  · rw [List.length_map]; exact (List.getElem?_eq_some_iff.mp hj).1
  · rw [getD_map hi]; exact List.prefix_refl _
  · rw [getD_map hj]; exact List.prefix_refl _
end Own
set_option Elab.async false
set_option linter.all false
set_option maxRecDepth 100000
set_option maxHeartbeats 4000000
/-! free names -/
namespace Own
open PySem PySem.Spec PyProof.Rows
abbrev Txs := List (List Nat)
def ext (L : Txs) (b : List Nat) : Txs := L.filter (b.isPrefixOf ·)
def freeF (L : Txs) : Nat → List Nat → Txs
  | 0, _ => []
  | n + 1, b => if b ∈ L then [] else if b ≠ [] ∧ ext L b = [] then [b] else freeF L n (b ++ [48]) ++ freeF L n (b ++ [49])
def shs (L : Txs) : Nat := (L.map fun z => 2 ^ (60 - z.length)).sum
theorem shs_app (a b : Txs) : shs (a ++ b) = shs a + shs b := by unfold shs; rw [List.map_append, List.sum_append]
/-- texts of signs, not empty, not too long, apart -/
structure Nms (L : Txs) : Prop where
  ap : ApartL L
  lo : ∀ z ∈ L, z ≠ []
  hi : ∀ z ∈ L, z.length ≤ 60
  sg : ∀ z ∈ L, ∀ c ∈ z, c = 48 ∨ c = 49
theorem mem_ext {L : Txs} {b z : List Nat} : z ∈ ext L b ↔ z ∈ L ∧ b <+: z := by
  unfold ext
  rw [List.mem_filter, List.isPrefixOf_iff_prefix]
theorem ap_eq {L : Txs} (ap : ApartL L) {x y : List Nat} (hx : x ∈ L) (hy : y ∈ L) (h : x <+: y) : x = y := by
  unfold ApartL at ap
  rw [List.pairwise_iff_getElem] at ap
  obtain ⟨i, hi, rfl⟩ := List.getElem_of_mem hx
  obtain ⟨j, hj, rfl⟩ := List.getElem_of_mem hy
  rcases Nat.lt_trichotomy i j with z | z | z
  · exact absurd h (ap i j hi hj z).1
  · subst z; rfl
  · exact absurd h (ap j i hj hi z).2
theorem ext_self {b : List Nat} : ∀ {L : Txs}, ApartL L → b ∈ L → ext L b = [b]
  | x :: L, ap, h => by
    have ap' := List.pairwise_cons.mp ap
    unfold ext
    rcases List.mem_cons.mp h with rfl | h
    · rw [List.filter_cons_of_pos (List.isPrefixOf_iff_prefix.mpr (List.prefix_refl _)), List.filter_eq_nil_iff.mpr]
      intro y hy
      rw [List.isPrefixOf_iff_prefix]
      exact (ap'.1 y hy).1
    · rw [List.filter_cons_of_neg]
      · exact ext_self ap'.2 h
      · rw [List.isPrefixOf_iff_prefix]
        exact (ap'.1 b h).2
theorem pre_snoc {b z : List Nat} : b <+: z ∧ b ≠ z ↔ ∃ c r, z = b ++ c :: r := by
  constructor
  · rintro ⟨⟨r, rfl⟩, ne⟩
    cases r with
    | nil => exact absurd (List.append_nil b).symm ne
    | cons c r => exact ⟨c, r, rfl⟩
  · rintro ⟨c, r, rfl⟩
    exact ⟨List.prefix_append _ _, fun e => by
      have := congrArg List.length e
      simp at this⟩
theorem snoc_pre {b z : List Nat} {c : Nat} : b ++ [c] <+: z ↔ ∃ r, z = b ++ c :: r := by
  constructor
  · rintro ⟨r, rfl⟩
    exact ⟨r, by simp⟩
  · rintro ⟨r, rfl⟩
    exact ⟨r, by simp⟩
theorem ext_pos {L : Txs} {b z : List Nat} (h : b <+: z) : ext (z :: L) b = z :: ext L b := by
  unfold ext
  rw [List.filter_cons_of_pos (List.isPrefixOf_iff_prefix.mpr h)]
theorem ext_neg {L : Txs} {b z : List Nat} (h : ¬ b <+: z) : ext (z :: L) b = ext L b := by
  unfold ext
  rw [List.filter_cons_of_neg (fun q => h (List.isPrefixOf_iff_prefix.mp q))]
theorem shs_cons (z : List Nat) (L : Txs) : shs (z :: L) = 2 ^ (60 - z.length) + shs L := by
  unfold shs
  rw [List.map_cons, List.sum_cons]
theorem ext_split {b : List Nat} : ∀ {L : Txs}, (∀ z ∈ L, ∀ c ∈ z, c = 48 ∨ c = 49) → b ∉ L → shs (ext L b) = shs (ext L (b ++ [48])) + shs (ext L (b ++ [49])) ∧ (ext L b).length = (ext L (b ++ [48])).length + (ext L (b ++ [49])).length
  | [], _, _ => ⟨rfl, rfl⟩
  | z :: L, sg, nb => by
    have ih := ext_split (b := b) (L := L) (fun y hy => sg y (List.mem_cons_of_mem _ hy)) (fun h => nb (List.mem_cons_of_mem _ h))
    have ne : b ≠ z := fun e => nb (by rw [e]; exact List.mem_cons_self)
    have s := sg z List.mem_cons_self
    by_cases h : b <+: z
    · obtain ⟨c, r, e⟩ := pre_snoc.mp ⟨h, ne⟩
      have hc : c = 48 ∨ c = 49 := s c (by rw [e]; simp)
      rw [ext_pos h]
      rcases hc with rfl | rfl
      · have y0 : b ++ [48] <+: z := snoc_pre.mpr ⟨r, e⟩
        have n1 : ¬ b ++ [49] <+: z := fun q => by
          obtain ⟨r', e'⟩ := snoc_pre.mp q
          rw [e] at e'
          have := List.append_cancel_left e'
          cases this
        rw [ext_pos y0, ext_neg n1, shs_cons, shs_cons, List.length_cons, List.length_cons]
        omega
      · have y1 : b ++ [49] <+: z := snoc_pre.mpr ⟨r, e⟩
        have n0 : ¬ b ++ [48] <+: z := fun q => by
          obtain ⟨r', e'⟩ := snoc_pre.mp q
          rw [e] at e'
          have := List.append_cancel_left e'
          cases this
        rw [ext_neg n0, ext_pos y1, shs_cons, shs_cons, List.length_cons, List.length_cons]
        omega
    · have n0 : ∀ c, ¬ b ++ [c] <+: z := fun c q => h ((List.prefix_append _ _).trans q)
      rw [ext_neg h, ext_neg (n0 48), ext_neg (n0 49)]
      exact ih
theorem ext_short {L : Txs} (N : Nms L) {b : List Nat} (nb : b ∉ L) (h : ext L b ≠ []) : b.length < 60 ∧ ∃ z ∈ L, b <+: z ∧ b ≠ z := by
  obtain ⟨z, hz⟩ := List.exists_mem_of_ne_nil _ h
  obtain ⟨h1, h2⟩ := mem_ext.mp hz
  have ne : b ≠ z := fun e => nb (e ▸ h1)
  obtain ⟨c, r, e⟩ := pre_snoc.mp ⟨h2, ne⟩
  have := N.hi z h1
  rw [e, List.length_append, List.length_cons] at this
  exact ⟨by omega, z, h1, h2, ne⟩
theorem shs_one (b : List Nat) : shs [b] = 2 ^ (60 - b.length) := by simp [shs]
theorem pow_half {k : Nat} (h : k < 60) : 2 ^ (60 - k) = 2 ^ (60 - (k + 1)) + 2 ^ (60 - (k + 1)) := by
  rw [show 60 - k = (60 - (k + 1)) + 1 by omega, Nat.pow_succ]
  omega
/-- names and free names fill what begins with b -/
theorem free_sum {L : Txs} (N : Nms L) : ∀ (n : Nat) (b : List Nat), b.length ≤ 60 → 61 ≤ b.length + n → shs (ext L b) + shs (freeF L n b) = 2 ^ (60 - b.length)
  | 0, b, h1, h2 => by omega
  | n + 1, b, h1, h2 => by
    unfold freeF
    by_cases hb : b ∈ L
    · rw [if_pos hb, ext_self N.ap hb, shs_one]
      rfl
    · rw [if_neg hb]
      by_cases he : b ≠ [] ∧ ext L b = []
      · rw [if_pos he, he.2, shs_one]
        show 0 + _ = _
        omega
      · rw [if_neg he, shs_app, (ext_split N.sg hb).1]
        have lt : b.length < 60 := by
          by_cases q : b = []
          · rw [q]; decide
          · have : ext L b ≠ [] := fun z => he ⟨q, z⟩
            exact (ext_short N hb this).1
        have i0 := free_sum N n (b ++ [48]) (by rw [List.length_append]; show b.length + 1 ≤ 60; omega) (by rw [List.length_append]; show 61 ≤ b.length + 1 + n; omega)
        have i1 := free_sum N n (b ++ [49]) (by rw [List.length_append]; show b.length + 1 ≤ 60; omega) (by rw [List.length_append]; show 61 ≤ b.length + 1 + n; omega)
        rw [List.length_append] at i0 i1
        have := pow_half lt
        have e : b.length + [48].length = b.length + 1 := rfl
        have e' : b.length + [49].length = b.length + 1 := rfl
        rw [e] at i0
        rw [e'] at i1
        omega
/-- begun: the empty text and what goes on to a name -/
def Bg (L : Txs) (t : List Nat) : Prop := t = [] ∨ ∃ z ∈ L, t <+: z ∧ t ≠ z
/-- one sign behind what is begun, not begun, no name -/
def IsFree (L : Txs) (t : List Nat) : Prop := (∃ u s, (s = 48 ∨ s = 49) ∧ t = u ++ [s] ∧ Bg L u) ∧ ¬ Bg L t ∧ t ∉ L
theorem Bg.pre {L : Txs} {t u : List Nat} (h : Bg L t) (p : u <+: t) : Bg L u := by
  rcases h with rfl | ⟨z, hz, h1, h2⟩
  · exact .inl (List.prefix_nil.mp p)
  · refine .inr ⟨z, hz, p.trans h1, fun e => h2 ?_⟩
    subst e
    exact List.IsPrefix.eq_of_length_le h1 p.length_le
theorem snoc_split {b u : List Nat} {s : Nat} (h : b <+: u ++ [s]) (ne : b ≠ u ++ [s]) : b <+: u := by
  rcases List.prefix_concat_iff.mp h with q | q
  · exact absurd q ne
  · exact q
theorem free_mem {L : Txs} (N : Nms L) : ∀ (n : Nat) (b : List Nat), b.length ≤ 60 → 61 ≤ b.length + n → (b = [] ∨ ∃ u s, (s = 48 ∨ s = 49) ∧ b = u ++ [s] ∧ Bg L u) → ∀ t, t ∈ freeF L n b ↔ b <+: t ∧ IsFree L t
  | 0, b, h1, h2, _, _ => by omega
  | n + 1, b, h1, h2, hp, t => by
    unfold freeF
    by_cases hb : b ∈ L
    · rw [if_pos hb]
      constructor
      · intro h; cases h
      · rintro ⟨p, ⟨u, s, hs, rfl, hu⟩, nt, tl⟩
        exfalso
        have ne : b ≠ u ++ [s] := fun e => tl (e ▸ hb)
        have pu := snoc_split p ne
        have bu := hu.pre pu
        rcases bu with e | ⟨z, hz, q1, q2⟩
        · exact N.lo b hb e
        · exact q2 (ap_eq N.ap hb hz q1)
    · rw [if_neg hb]
      by_cases he : b ≠ [] ∧ ext L b = []
      · rw [if_pos he, List.mem_singleton]
        have nB : ¬ Bg L b := by
          rintro (e | ⟨z, hz, q1, _⟩)
          · exact he.1 e
          · have : z ∈ ext L b := mem_ext.mpr ⟨hz, q1⟩
            rw [he.2] at this
            cases this
        constructor
        · rintro rfl
          refine ⟨List.prefix_refl _, ?_, nB, hb⟩
          rcases hp with e | q
          · exact absurd e he.1
          · exact q
        · rintro ⟨p, ⟨u, s, hs, rfl, hu⟩, nt, tl⟩
          by_cases e : b = u ++ [s]
          · exact e.symm
          · exact absurd (hu.pre (snoc_split p e)) nB
      · rw [if_neg he]
        have bB : Bg L b := by
          by_cases q : b = []
          · exact .inl q
          · have : ext L b ≠ [] := fun z => he ⟨q, z⟩
            obtain ⟨_, z, hz, q1, q2⟩ := ext_short N hb this
            exact .inr ⟨z, hz, q1, q2⟩
        have lt : b.length < 60 := by
          by_cases q : b = []
          · rw [q]; decide
          · have : ext L b ≠ [] := fun z => he ⟨q, z⟩
            exact (ext_short N hb this).1
        have i0 := free_mem N n (b ++ [48]) (by rw [List.length_append]; show b.length + 1 ≤ 60; omega) (by rw [List.length_append]; show 61 ≤ b.length + 1 + n; omega) (.inr ⟨b, 48, .inl rfl, rfl, bB⟩) t
        have i1 := free_mem N n (b ++ [49]) (by rw [List.length_append]; show b.length + 1 ≤ 60; omega) (by rw [List.length_append]; show 61 ≤ b.length + 1 + n; omega) (.inr ⟨b, 49, .inr rfl, rfl, bB⟩) t
        rw [List.mem_append, i0, i1]
        constructor
        · rintro (⟨p, q⟩ | ⟨p, q⟩)
          · exact ⟨(List.prefix_append _ _).trans p, q⟩
          · exact ⟨(List.prefix_append _ _).trans p, q⟩
        · rintro ⟨p, q⟩
          obtain ⟨⟨u, s, hs, rfl, hu⟩, nt, tl⟩ := id q
          have ne : b ≠ u ++ [s] := fun e => nt (e ▸ bB)
          obtain ⟨c, r, e⟩ := pre_snoc.mp ⟨p, ne⟩
          have hc : c = 48 ∨ c = 49 := by
            by_cases q2 : b = u
            · subst q2
              have := List.append_cancel_left e
              injection this with h1 _
              rw [← h1]
              exact hs
            · have pu := snoc_split p ne
              obtain ⟨c', r', e'⟩ := pre_snoc.mp ⟨pu, q2⟩
              have ec : c = c' := by
                rw [e', List.append_assoc] at e
                have := List.append_cancel_left e
                injection this with h1 _
                exact h1.symm
              rcases hu with rfl | ⟨z, hz, q3, _⟩
              · have := congrArg List.length e'
                simp at this
              · refine N.sg z hz c ?_
                obtain ⟨r2, rfl⟩ := q3
                rw [e', ec]
                simp
          rcases hc with rfl | rfl
          · exact .inl ⟨snoc_pre.mpr ⟨r, e⟩, q⟩
          · exact .inr ⟨snoc_pre.mpr ⟨r, e⟩, q⟩
theorem lt_split {b x y : List Nat} (hx : b ++ [48] <+: x) (hy : b ++ [49] <+: y) : x < y := by
  obtain ⟨r, rfl⟩ := snoc_pre.mp hx
  obtain ⟨r', rfl⟩ := snoc_pre.mp hy
  clear hx hy
  induction b with
  | nil => exact List.cons_lt_cons_iff.mpr (.inl (by decide))
  | cons a b ih => exact List.cons_lt_cons_iff.mpr (.inr ⟨rfl, ih⟩)
theorem free_pre {L : Txs} : ∀ (n : Nat) (b t : List Nat), t ∈ freeF L n b → b <+: t
  | 0, b, t, h => by cases h
  | n + 1, b, t, h => by
    unfold freeF at h
    split at h
    · cases h
    · split at h
      · rw [List.mem_singleton.mp h]; exact List.prefix_refl _
      · rcases List.mem_append.mp h with h | h
        · exact (List.prefix_append _ _).trans (free_pre n _ t h)
        · exact (List.prefix_append _ _).trans (free_pre n _ t h)
theorem free_sorted {L : Txs} : ∀ (n : Nat) (b : List Nat), (freeF L n b).Pairwise (· < ·)
  | 0, b => List.Pairwise.nil
  | n + 1, b => by
    unfold freeF
    split
    · exact List.Pairwise.nil
    · split
      · exact List.pairwise_singleton _ _
      · rw [List.pairwise_append]
        exact ⟨free_sorted n _, free_sorted n _, fun x hx y hy => lt_split (free_pre n _ x hx) (free_pre n _ y hy)⟩
/-- strictly ascending lists of the same things are the same -/
theorem asc_eq : ∀ {a b : Txs}, a.Pairwise (· < ·) → b.Pairwise (· < ·) → (∀ t, t ∈ a ↔ t ∈ b) → a = b
  | [], [], _, _, _ => rfl
  | [], y :: b, _, _, h => by have := (h y).mpr List.mem_cons_self; cases this
  | x :: a, [], _, _, h => by have := (h x).mp List.mem_cons_self; cases this
  | x :: a, y :: b, ha, hb, h => by
    have ha' := List.pairwise_cons.mp ha
    have hb' := List.pairwise_cons.mp hb
    have irr : ∀ z : List Nat, ¬ z < z := fun z => List.lt_irrefl z
    have e : x = y := by
      rcases List.mem_cons.mp ((h x).mp List.mem_cons_self) with e | q1
      · exact e
      · rcases List.mem_cons.mp ((h y).mpr List.mem_cons_self) with e | q2
        · exact e.symm
        · exact absurd (List.lt_trans (hb'.1 x q1) (ha'.1 y q2)) (irr _)
    subst e
    congr 1
    refine asc_eq ha'.2 hb'.2 fun t => ?_
    constructor
    · intro ht
      rcases List.mem_cons.mp ((h t).mp (List.mem_cons_of_mem _ ht)) with e | q
      · subst e; exact absurd (ha'.1 t ht) (irr _)
      · exact q
    · intro ht
      rcases List.mem_cons.mp ((h t).mpr (List.mem_cons_of_mem _ ht)) with e | q
      · subst e; exact absurd (hb'.1 t ht) (irr _)
      · exact q
def fre (L : Txs) : Txs := freeF L 61 []
theorem fre_mem {L : Txs} (N : Nms L) (t : List Nat) : t ∈ fre L ↔ IsFree L t := by
  unfold fre
  rw [free_mem N 61 [] (by decide) (by decide) (.inl rfl) t]
  exact ⟨fun h => h.2, fun h => ⟨List.nil_prefix, h⟩⟩
theorem ext_all (L : Txs) : ext L [] = L := by
  unfold ext
  exact List.filter_eq_self.mpr fun x _ => rfl
theorem fre_sum {L : Txs} (N : Nms L) : shs L + shs (fre L) = 2 ^ 60 := by
  have := free_sum N 61 [] (by decide) (by decide)
  rw [ext_all] at this
  exact this
theorem fre_nms {L : Txs} (N : Nms L) : Nms (L ++ fre L) := by
  have hf : ∀ t ∈ fre L, IsFree L t := fun t h => (fre_mem N t).mp h
  have len : ∀ u, Bg L u → u.length < 60 := fun u hu => by
    rcases hu with rfl | ⟨z, hz, q1, q2⟩
    · decide
    · obtain ⟨c, r, e⟩ := pre_snoc.mp ⟨q1, q2⟩
      have := N.hi z hz
      rw [e, List.length_append, List.length_cons] at this
      omega
  have nopre : ∀ t t', IsFree L t → Bg L t' → ¬ t <+: t' := fun t t' h hb p => h.2.1 (hb.pre p)
  refine ⟨?_, fun z hz => ?_, fun z hz => ?_, fun z hz => ?_⟩
  · unfold ApartL
    rw [List.pairwise_append]
    refine ⟨N.ap, ?_, fun x hx y hy => ?_⟩
    · refine (free_sorted 61 []).imp_of_mem fun {x y} hx hy lt => ?_
      have fx := hf x hx
      have fy := hf y hy
      have ne : x ≠ y := fun e => List.lt_irrefl x (e ▸ lt)
      obtain ⟨u, s, hs, rfl, hu⟩ := fy.1
      obtain ⟨u', s', hs', rfl, hu'⟩ := fx.1
      exact ⟨fun p => nopre _ _ fx hu (snoc_split p ne), fun p => nopre _ _ fy hu' (snoc_split p (Ne.symm ne))⟩
    · have fy := hf y hy
      obtain ⟨u, s, hs, rfl, hu⟩ := fy.1
      have ne : x ≠ u ++ [s] := fun e => fy.2.2 (e ▸ hx)
      refine ⟨fun p => ?_, fun p => ?_⟩
      · have pu := snoc_split p ne
        rcases hu.pre pu with e | ⟨z, hz, q1, q2⟩
        · exact N.lo x hx e
        · exact q2 (ap_eq N.ap hx hz q1)
      · exact fy.2.1 (.inr ⟨x, hx, p, Ne.symm ne⟩)
  · rcases List.mem_append.mp hz with hz | hz
    · exact N.lo z hz
    · intro e
      exact (hf z hz).2.1 (.inl e)
  · rcases List.mem_append.mp hz with hz | hz
    · exact N.hi z hz
    · obtain ⟨u, s, hs, rfl, hu⟩ := (hf z hz).1
      have := len u hu
      rw [List.length_append]
      show u.length + 1 ≤ 60
      omega
  · rcases List.mem_append.mp hz with hz | hz
    · exact N.sg z hz
    · obtain ⟨u, s, hs, rfl, hu⟩ := (hf z hz).1
      intro c hc
      rcases List.mem_append.mp hc with hc | hc
      · rcases hu with rfl | ⟨z, hz, q1, q2⟩
        · cases hc
        · exact N.sg z hz c (q1.subset hc)
      · rw [List.mem_singleton.mp hc]; exact hs
theorem shs_pos : ∀ {L : Txs}, shs L = 0 → L = []
  | [], _ => rfl
  | z :: L, h => by
    unfold shs at h
    rw [List.map_cons, List.sum_cons] at h
    have := Nat.two_pow_pos (60 - z.length)
    omega
theorem fre_full {L : Txs} (N : Nms L) : shs (L ++ fre L) = 2 ^ 60 ∧ fre (L ++ fre L) = [] := by
  have s := fre_sum N
  have s2 := fre_sum (fre_nms N)
  rw [shs_app] at s2 ⊢
  exact ⟨s, shs_pos (by omega)⟩
/-! how many free names there are, for names behind a common beginning -/
theorem cnt_tree {L : Txs} (N : Nms L) {st : List Nat} (far : ∀ z ∈ L, z.length ≤ st.length + 4) : ∀ (n : Nat) (b : List Nat), st <+: b → b.length ≤ st.length + 5 → b.length ≤ 60 → 61 ≤ b.length + n → (b = [] → st = []) → (ext L b).length + (freeF L n b).length ≤ 2 ^ (st.length + 5 - b.length)
  | 0, b, _, _, h1, h2, _ => by omega
  | n + 1, b, hs, hl, h1, h2, h0 => by
    unfold freeF
    have one := Nat.one_le_two_pow (n := st.length + 5 - b.length)
    by_cases hb : b ∈ L
    · rw [if_pos hb, ext_self N.ap hb]
      simpa using one
    · rw [if_neg hb]
      by_cases he : b ≠ [] ∧ ext L b = []
      · rw [if_pos he, he.2]
        simpa using one
      · rw [if_neg he, List.length_append, (ext_split N.sg hb).2]
        have lt : b.length < st.length + 4 ∧ b.length < 60 := by
          by_cases q : b = []
          · rw [q, h0 q]; decide
          · have : ext L b ≠ [] := fun z => he ⟨q, z⟩
            obtain ⟨l1, z, hz, q1, q2⟩ := ext_short N hb this
            obtain ⟨c, r, e⟩ := pre_snoc.mp ⟨q1, q2⟩
            have := far z hz
            rw [e, List.length_append, List.length_cons] at this
            exact ⟨by omega, l1⟩
        have l0 : (b ++ [48]).length = b.length + 1 := by rw [List.length_append]; rfl
        have l1 : (b ++ [49]).length = b.length + 1 := by rw [List.length_append]; rfl
        have i0 := cnt_tree N far n (b ++ [48]) (hs.trans (List.prefix_append _ _)) (by omega) (by omega) (by omega) (fun e => by rw [e] at l0; simp at l0)
        have i1 := cnt_tree N far n (b ++ [49]) (hs.trans (List.prefix_append _ _)) (by omega) (by omega) (by omega) (fun e => by rw [e] at l1; simp at l1)
        rw [l0] at i0
        rw [l1] at i1
        have : 2 ^ (st.length + 5 - b.length) = 2 ^ (st.length + 5 - (b.length + 1)) + 2 ^ (st.length + 5 - (b.length + 1)) := by
          rw [show st.length + 5 - b.length = (st.length + 5 - (b.length + 1)) + 1 by omega, Nat.pow_succ]
          omega
        omega
theorem leaf_cnt {L : Txs} {n : Nat} {b : List Nat} (nb : b ≠ []) (he : ext L b = []) (hn : 0 < n) : (ext L b).length + (freeF L n b).length = 1 := by
  obtain ⟨m, rfl⟩ : ∃ m, n = m + 1 := ⟨n - 1, by omega⟩
  unfold freeF
  have hb : b ∉ L := fun h => by
    have : b ∈ ext L b := mem_ext.mpr ⟨h, List.prefix_refl _⟩
    rw [he] at this
    cases this
  rw [if_neg hb, if_pos ⟨nb, he⟩, he]
  rfl
theorem cnt_stem {L : Txs} (N : Nms L) {st : List Nat} (stl : st.length ≤ 56) (sgs : ∀ c ∈ st, c = 48 ∨ c = 49) (beg : ∀ z ∈ L, st <+: z) (far : ∀ z ∈ L, z.length ≤ st.length + 4) : ∀ (k n : Nat) (b : List Nat), b <+: st → st.length - b.length = k → 61 ≤ b.length + n → (ext L b).length + (freeF L n b).length ≤ k + 32
  | 0, n, b, hb, hk, hn => by
    have e : b = st := List.IsPrefix.eq_of_length_le hb (by omega)
    subst e
    have := cnt_tree N far n b (List.prefix_refl _) (by omega) (by omega) hn (fun e => e)
    rw [show b.length + 5 - b.length = 5 by omega] at this
    omega
  | k + 1, 0, b, hb, hk, hn => by have := hb.length_le; omega
  | k + 1, n + 1, b, hb, hk, hn => by
    unfold freeF
    by_cases hL : b ∈ L
    · rw [if_pos hL, ext_self N.ap hL]
      show 1 + 0 ≤ _
      omega
    · rw [if_neg hL]
      by_cases he : b ≠ [] ∧ ext L b = []
      · rw [if_pos he, he.2]
        show 0 + 1 ≤ _
        omega
      · rw [if_neg he, List.length_append, (ext_split N.sg hL).2]
        have ne : b ≠ st := fun e => by rw [e] at hk; omega
        obtain ⟨c, r, e⟩ := pre_snoc.mp ⟨hb, ne⟩
        have hc := sgs c (by rw [e]; simp)
        have ble := hb.length_le
        have l0 : ∀ d : Nat, (b ++ [d]).length = b.length + 1 := fun d => by rw [List.length_append]; rfl
        have other : ∀ d, d ≠ c → ext L (b ++ [d]) = [] := fun d hd => by
          refine List.eq_nil_iff_forall_not_mem.mpr fun z hz => ?_
          obtain ⟨h1, h2⟩ := mem_ext.mp hz
          obtain ⟨r1, e1⟩ := snoc_pre.mp h2
          obtain ⟨r2, e2⟩ := beg z h1
          rw [e, e1, List.append_assoc] at e2
          have := List.append_cancel_left e2
          injection this with h3 _
          exact hd h3.symm
        have nn : ∀ d : Nat, b ++ [d] ≠ [] := fun d e => by simp at e
        rcases hc with rfl | rfl
        · have i0 := cnt_stem N stl sgs beg far k n (b ++ [48]) (snoc_pre.mpr ⟨r, e⟩) (by rw [l0]; omega) (by rw [l0]; omega)
          have i1 := leaf_cnt (n := n) (nn 49) (other 49 (by decide)) (by omega)
          omega
        · have i1 := cnt_stem N stl sgs beg far k n (b ++ [49]) (snoc_pre.mpr ⟨r, e⟩) (by rw [l0]; omega) (by rw [l0]; omega)
          have i0 := leaf_cnt (n := n) (nn 48) (other 48 (by decide)) (by omega)
          omega
theorem fre_few {L : Txs} (N : Nms L) {st : List Nat} (stl : st.length ≤ 56) (sgs : ∀ c ∈ st, c = 48 ∨ c = 49) (beg : ∀ z ∈ L, st <+: z) (far : ∀ z ∈ L, z.length ≤ st.length + 4) : L.length + (fre L).length ≤ 88 := by
  have := cnt_stem N stl sgs beg far st.length 61 [] List.nil_prefix rfl (by decide)
  rw [ext_all] at this
  exact Nat.le_trans this (by omega)
end Own
set_option Elab.async false
set_option linter.all false
set_option maxRecDepth 100000
set_option maxHeartbeats 4000000
/-! texts of the signs 0 and 1 -/
namespace Own
open PySem PySem.Spec PyProof.Rows L2
theorem takeWhile_all {p : Nat → Bool} : ∀ {l : List Nat}, (∀ c ∈ l, p c = true) → l.takeWhile p = l
  | [], _ => rfl
  | c :: l, h => by
    rw [List.takeWhile_cons, if_pos (h c List.mem_cons_self), takeWhile_all fun d hd => h d (List.mem_cons_of_mem _ hd)]
theorem strip_all {goes : Nat → Bool} {x : Str} (h : ∀ c ∈ x.cps.toList, goes c = true) : Txt.stripBy goes true true x = "" := by
  have lx : x.cps.toList.length = x.length := by simp [Str.length]
  have lo : stripLo goes true x = x.length := by
    unfold stripLo
    rw [if_pos rfl, takeWhile_all h, lx]
  have hi : stripHi goes true x x.length = x.length := by
    unfold stripHi
    rw [if_pos rfl, ← lx, List.drop_length]
    rfl
  unfold Txt.stripBy stripSame
  rw [lo, hi]
  by_cases h0 : x.length = 0
  · rw [h0]
    have : x.cps = #[] := by
      have := h0
      simp only [Str.length, Array.size_eq_zero_iff] at this
      exact this
    have e : x = "" := by
      cases x
      cases this
      rfl
    rw [if_pos (by rfl), e]
  · rw [if_neg (by simp [h0])]
    unfold stripped
    rw [lo, hi]
    unfold Builtin.Str.strSub
    have e : x.cps.extract x.length x.length = #[] := Array.extract_empty_of_stop_le_start (Nat.le_refl _)
    rw [e]
    rfl
/-- of the signs 0 and 1 alone -/
def Sg (z : Str) : Prop := ∀ c ∈ z.cps.toList, c = 48 ∨ c = 49
theorem Sg.strip {z : Str} (h : Sg z) : Txt.stripChars z "01" = "" := strip_all fun c hc => by
  rcases h c hc with rfl | rfl <;> decide +kernel
theorem Sg.name {z : Str} (h : Sg z) (h1 : 1 ≤ z.length) (h2 : z.length ≤ 60) : nameB (.str z) = true := by
  show (decide ((1 : Int) ≤ z.length) && (decide ((z.length : Int) ≤ 60) && decide (Txt.stripChars z "01" = ""))) = true
  rw [h.strip]
  simp only [Bool.and_eq_true, decide_eq_true_eq]
  exact ⟨by omega, by omega, trivial⟩
end Own
namespace Own
open PySem PySem.Spec PyProof.Rows L2
theorem joinL_nil : ∀ ys : List (List Nat), TL.joinL [] ys = ys.flatten
  | [] => rfl
  | [p] => by simp [TL.joinL]
  | p :: q :: r => by
    have ih := joinL_nil (q :: r)
    show p ++ ([] ++ TL.joinL [] (q :: r)) = _
    rw [ih, List.nil_append]
    simp
theorem join_empty (ys : List Str) : Txt.join "" ys = SX.S ((ys.map fun y => y.cps.toList).flatten) := by
  have h := SX.join_S [] (ys.map fun y => y.cps.toList)
  rw [joinL_nil] at h
  have e : (ys.map fun y => y.cps.toList).map SX.S = ys := by
    rw [List.map_map]
    conv => rhs; rw [← List.map_id ys]
    exact List.map_congr_left fun y _ => SX.S_tl y
  rw [e] at h
  exact h
/-- one sign each -/
theorem join_signs : ∀ {ys : List Str}, (∀ y ∈ ys, y = "0" ∨ y = "1") → (Txt.join "" ys).length = ys.length ∧ Sg (Txt.join "" ys) := by
  intro ys h
  rw [join_empty]
  have key : ∀ ys : List Str, (∀ y ∈ ys, y = "0" ∨ y = "1") → ((ys.map fun y => y.cps.toList).flatten).length = ys.length ∧ ∀ c ∈ (ys.map fun y => y.cps.toList).flatten, c = 48 ∨ c = 49 := by
    intro ys
    induction ys with
    | nil => intro _; exact ⟨rfl, fun c hc => by cases hc⟩
    | cons y ys ih =>
      intro h
      obtain ⟨a, b⟩ := ih fun z hz => h z (List.mem_cons_of_mem _ hz)
      have e : y.cps.toList = [48] ∨ y.cps.toList = [49] := by
        rcases h y List.mem_cons_self with rfl | rfl
        · exact .inl (by decide +kernel)
        · exact .inr (by decide +kernel)
      rw [List.map_cons, List.flatten_cons]
      rcases e with e | e <;> rw [e]
      · exact ⟨by simp [a], fun c hc => by rcases List.mem_cons.mp hc with rfl | hc; exact .inl rfl; exact b c hc⟩
      · exact ⟨by simp [a], fun c hc => by rcases List.mem_cons.mp hc with rfl | hc; exact .inr rfl; exact b c hc⟩
  obtain ⟨a, b⟩ := key ys h
  exact ⟨by rw [SX.S_len]; exact a, by simpa [Sg] using b⟩
end Own
set_option Elab.async false
set_option linter.all false
set_option maxRecDepth 100000
set_option maxHeartbeats 4000000
namespace K05
open PySem PySem.Spec PyProof.Rows L2 Own
theorem hu2 {k : Nat} {A : Around} (hr : Room k A) : A.units + 1 < cLine := by
  have := hr.un
  omega
theorem pi_tupK {X : Cx} {K : PySem.W.Frag} {tg e : Expr} {te : TE} (hK : X.K = K) (he : PE X e te) : PI X tg e (iTup K te) := hK ▸ pi_tup he
abbrev cod (zs : List Str) : List (List Nat) := zs.map fun z => z.cps.toList
theorem S_tl2 (l : List Nat) : (SX.S l).cps.toList = l := by
  show (List.toArray l).toList = l
  rw [List.toList_toArray]
theorem sg_of_strip {z : Str} (h : Txt.stripChars z "01" = "") : Sg z := by
  have e := signs_all z
  rw [decide_eq_true h] at e
  intro c hc
  by_cases q : badC c = true
  · have m : c ∈ z.cps.toList.filter badC := List.mem_filter.mpr ⟨hc, q⟩
    rw [List.isEmpty_iff.mp e.symm] at m
    cases m
  · unfold badC at q
    simp only [Bool.and_eq_true, Bool.not_eq_true', decide_eq_false_iff_not] at q
    omega
theorem names_good {H : Hp} {v : V} {zs : List Str} (hn : namesB H v = true) (e : items H v = zs.map V.str) : ∀ z ∈ zs, 1 ≤ z.length ∧ z.length ≤ 60 ∧ Sg z := by
  intro z hz
  unfold namesB at hn
  rw [Bool.and_eq_true, e] at hn
  have hb := List.all_eq_true.mp hn.2 (.str z) (List.mem_map.mpr ⟨z, hz, rfl⟩)
  have hb : (decide ((1 : Int) ≤ z.length) && (decide ((z.length : Int) ≤ 60) && decide (Txt.stripChars z "01" = ""))) = true := hb
  simp only [Bool.and_eq_true, decide_eq_true_eq] at hb
  exact ⟨by omega, by omega, sg_of_strip hb.2.2⟩
theorem tl_len (z : Str) : z.cps.toList.length = z.length := by simp [Str.length]
theorem nms_of {zs : List Str} (ap : ApartL (cod zs)) (g : ∀ z ∈ zs, 1 ≤ z.length ∧ z.length ≤ 60 ∧ Sg z) : Nms (cod zs) := by
  refine ⟨ap, fun x hx => ?_, fun x hx => ?_, fun x hx => ?_⟩ <;> obtain ⟨z, hz, rfl⟩ := List.mem_map.mp hx <;> have := g z hz <;> have l := tl_len z
  · intro q
    rw [q, List.length_nil] at l
    omega
  · omega
  · exact this.2.2
/-- texts as keys -/
structure Ks (kvs : List (Key × V)) (P : Str → Prop) (n : Nat) : Prop where
  keys : ∀ kv ∈ kvs, ∃ y : Str, kv.1 = .inr y
  nd : (kvs.map (·.1)).Nodup
  is : ∀ y, (valV kvs (.inr y)).isSome = true ↔ P y
  le : kvs.length ≤ n
theorem valV_mem {kvs : List (Key × V)} {k : Key} : (valV kvs k).isSome = true ↔ k ∈ kvs.map (·.1) := by
  induction kvs with
  | nil => simp [valV_nil]
  | cons p r ih =>
    by_cases e : p.1 = k
    · rw [valV_pos e]
      simp [e]
    · rw [valV_neg e, ih, List.map_cons, List.mem_cons]
      exact ⟨fun h => .inr h, fun h => h.resolve_left (fun q => e q.symm)⟩
theorem Ks.put {kvs : List (Key × V)} {P : Str → Prop} {n : Nat} (h : Ks kvs P n) (z : Str) (v : V) : Ks (putK kvs (.inr z) v) (fun y => P y ∨ y = z) (n + 1) := by
  have vp : ∀ y, (valV (putK kvs (.inr z) v) (.inr y)).isSome = true ↔ P y ∨ y = z := by
    intro y
    rw [valV_put]
    by_cases e : (Sum.inr y : Key) = .inr z
    · rw [if_pos e]
      have e' : y = z := by injection e
      exact ⟨fun _ => .inr e', fun _ => rfl⟩
    · rw [if_neg e, h.is y]
      exact ⟨fun q => .inl q, fun q => q.resolve_right fun w => e (by rw [w])⟩
  have le := length_putK kvs (.inr z) v
  have := h.le
  refine ⟨?_, ?_, vp, by omega⟩
  · intro kv hkv
    cases hq : valV kvs (.inr z) with
    | none =>
      rw [putK_new v hq] at hkv
      rcases List.mem_append.mp hkv with q | q
      · exact h.keys kv q
      · rw [List.mem_singleton.mp q]; exact ⟨z, rfl⟩
    | some x =>
      unfold putK at hkv
      split at hkv
      · obtain ⟨p, hp, rfl⟩ := List.mem_map.mp hkv
        split
        · exact h.keys p hp
        · exact h.keys p hp
      · rcases List.mem_append.mp hkv with q | q
        · exact h.keys kv q
        · rw [List.mem_singleton.mp q]; exact ⟨z, rfl⟩
  · cases hq : valV kvs (.inr z) with
    | none =>
      rw [putK_new v hq, List.map_append, List.nodup_append]
      refine ⟨h.nd, by simp, fun x hx y hy => ?_⟩
      rw [List.map_cons, List.map_nil, List.mem_singleton] at hy
      rw [hy]
      intro e
      rw [e] at hx
      have := valV_mem.mpr hx
      rw [hq] at this
      cases this
    | some x =>
      unfold putK
      split
      · rw [List.map_map]
        have : ((fun p : Key × V => p.1) ∘ fun kv : Key × V => if kv.1 = Sum.inr z then (kv.1, v) else kv) = fun p : Key × V => p.1 := by
          funext p
          show (if p.1 = Sum.inr z then (p.1, v) else p).1 = p.1
          split <;> rfl
        rw [this]
        exact h.nd
      · rename_i q
        exfalso
        rw [valV_any, hq] at q
        exact q rfl
theorem Ks.imp {kvs : List (Key × V)} {P Q : Str → Prop} {n m : Nat} (h : Ks kvs P n) (e : ∀ y, P y ↔ Q y) (le : n ≤ m) : Ks kvs Q m := ⟨h.keys, h.nd, fun y => (h.is y).trans (e y), Nat.le_trans h.le le⟩
theorem Ks.strs {kvs : List (Key × V)} {P : Str → Prop} {n : Nat} (h : Ks kvs P n) : ∃ bs : List Str, kvs.map (·.1) = bs.map Sum.inr ∧ bs.Nodup ∧ bs.length ≤ n ∧ ∀ y, y ∈ bs ↔ P y := by
  have ex : ∀ ks : List Key, (∀ k ∈ ks, ∃ y : Str, k = .inr y) → ∃ bs : List Str, ks = bs.map Sum.inr := by
    intro ks
    induction ks with
    | nil => intro _; exact ⟨[], rfl⟩
    | cons k ks ih =>
      intro h
      obtain ⟨y, rfl⟩ := h k List.mem_cons_self
      obtain ⟨bs, rfl⟩ := ih fun x hx => h x (List.mem_cons_of_mem _ hx)
      exact ⟨y :: bs, rfl⟩
  obtain ⟨bs, e⟩ := ex (kvs.map (·.1)) (fun k hk => by
    obtain ⟨p, hp, rfl⟩ := List.mem_map.mp hk
    exact h.keys p hp)
  have inj : ∀ {a b : Str}, (Sum.inr a : Key) = .inr b → a = b := fun e => by injection e
  refine ⟨bs, e, ?_, ?_, fun y => ?_⟩
  · have := h.nd
    rw [e] at this
    exact (List.pairwise_map.mp this).imp fun {a b} ne e => ne (congrArg Sum.inr e)
  · have l := congrArg List.length e
    rw [List.length_map, List.length_map] at l
    rw [← l]
    exact h.le
  · rw [← h.is y, valV_mem, e]
    constructor
    · intro q; exact List.mem_map.mpr ⟨y, q, rfl⟩
    · intro q
      obtain ⟨z, hz, ez⟩ := List.mem_map.mp q
      rw [← inj ez]
      exact hz
/-- begun, as the program finds it: the first names, and the first signs of the next one -/
def PB (zs : List Str) (i : Nat) (w : Option (Str × Nat)) (y : Str) : Prop := y = "" ∨ (∃ j < i, ∃ z, zs[j]? = some z ∧ ∃ l < z.length, y = SX.S (z.cps.toList.take l)) ∨ ∃ z k, w = some (z, k) ∧ ∃ l < k, y = SX.S (z.cps.toList.take l)
theorem str_ext {a b : Str} (h : a.cps.toList = b.cps.toList) : a = b := by
  rw [← SX.S_tl a, ← SX.S_tl b, h]
theorem pb_bg {zs : List Str} (y : Str) : PB zs zs.length none y ↔ Bg (cod zs) y.cps.toList := by
  constructor
  · rintro (rfl | ⟨j, hj, z, hz, l, hl, rfl⟩ | ⟨z, k, h, _⟩)
    · exact .inl (by decide +kernel)
    · refine .inr ⟨z.cps.toList, List.mem_map.mpr ⟨z, List.mem_of_getElem? hz, rfl⟩, ?_, ?_⟩
      · rw [S_tl2]; exact List.take_prefix _ _
      · rw [S_tl2]
        intro e
        have := congrArg List.length e
        rw [List.length_take, tl_len] at this
        omega
    · cases h
  · rintro (e | ⟨x, hx, p, ne⟩)
    · refine .inl (str_ext ?_)
      rw [e]
      decide +kernel
    · obtain ⟨z, hz, rfl⟩ := List.mem_map.mp hx
      obtain ⟨j, hj⟩ := List.getElem?_of_mem hz
      obtain ⟨c, r, e⟩ := pre_snoc.mp ⟨p, ne⟩
      refine .inr (.inl ⟨j, (List.getElem?_eq_some_iff.mp hj).1, z, hj, y.cps.toList.length, ?_, ?_⟩)
      · rw [← tl_len z, e, List.length_append, List.length_cons]
        omega
      · refine str_ext ?_
        rw [S_tl2]
        exact List.prefix_iff_eq_take.mp p
def pairs (bs : List Str) : List Str := bs.flatMap fun t => [t ++ "0", t ++ "1"]
theorem tl_app (a b : Str) : (a ++ b).cps.toList = a.cps.toList ++ b.cps.toList := by rw [Str.cps_append, Array.toList_append]
theorem tl_0 : ("0" : Str).cps.toList = [48] := by decide +kernel
theorem tl_1 : ("1" : Str).cps.toList = [49] := by decide +kernel
theorem pairs_mem {bs : List Str} {x : Str} : x ∈ pairs bs ↔ ∃ t ∈ bs, ∃ s, (s = 48 ∨ s = 49) ∧ x.cps.toList = t.cps.toList ++ [s] := by
  unfold pairs
  rw [List.mem_flatMap]
  constructor
  · rintro ⟨t, ht, h⟩
    simp only [List.mem_cons, List.not_mem_nil, or_false] at h
    rcases h with rfl | rfl
    · exact ⟨t, ht, 48, .inl rfl, by rw [tl_app, tl_0]⟩
    · exact ⟨t, ht, 49, .inr rfl, by rw [tl_app, tl_1]⟩
  · rintro ⟨t, ht, s, rfl | rfl, e⟩
    · exact ⟨t, ht, by rw [str_ext (a := x) (b := t ++ "0") (by rw [e, tl_app, tl_0])]; simp⟩
    · exact ⟨t, ht, by rw [str_ext (a := x) (b := t ++ "1") (by rw [e, tl_app, tl_1])]; simp⟩
theorem pairs_nodup : ∀ {bs : List Str}, bs.Nodup → (pairs bs).Nodup
  | [], _ => List.nodup_nil
  | t :: bs, h => by
    have h' := List.nodup_cons.mp h
    show ([t ++ "0", t ++ "1"] ++ pairs bs).Nodup
    rw [List.nodup_append]
    have no : ∀ y ∈ pairs bs, ∀ s : Nat, y.cps.toList ≠ t.cps.toList ++ [s] := by
      intro y hy s e
      obtain ⟨u, hu, s', _, e'⟩ := pairs_mem.mp hy
      rw [e'] at e
      have := List.append_inj_left' e rfl
      exact h'.1 (str_ext this ▸ hu)
    refine ⟨?_, pairs_nodup h'.2, fun x hx y hy e => ?_⟩
    · simp only [List.nodup_cons, List.mem_singleton, List.not_mem_nil, not_false_eq_true, List.nodup_nil, and_true]
      intro e
      have := congrArg (fun z : Str => z.cps.toList) e
      simp only [tl_app, tl_0, tl_1] at this
      have := List.append_cancel_left this
      cases this
    · subst e
      simp only [List.mem_cons, List.not_mem_nil, or_false] at hx
      rcases hx with rfl | rfl
      · exact no _ hy 48 (by rw [tl_app, tl_0])
      · exact no _ hy 49 (by rw [tl_app, tl_1])
/-- what is sorted is what is due -/
theorem fre_sorted {zs ys ms : List Str} (N : Nms (cod zs)) (nd : ms.Nodup) (mem : ∀ x, x ∈ ms ↔ IsFree (cod zs) x.cps.toList) (perm : ys.Perm ms) (srt : ys.Pairwise fun x y => ¬ y.cps.toList < x.cps.toList) : ys = (fre (cod zs)).map SX.S := by
  have ndy : ys.Nodup := perm.symm.nodup nd
  have e : cod ys = fre (cod zs) := by
    refine asc_eq ?_ (free_sorted 61 []) fun t => ?_
    · refine List.pairwise_map.mpr ((srt.and ndy).imp fun {x y} h => ?_)
      rcases Classical.em (x.cps.toList < y.cps.toList) with q | q
      · exact q
      · exact absurd (str_ext (le_anti h.1 q)) h.2
    · rw [fre_mem N t]
      constructor
      · intro h
        obtain ⟨y, hy, rfl⟩ := List.mem_map.mp h
        exact (mem y).mp (perm.mem_iff.mp hy)
      · intro h
        refine List.mem_map.mpr ⟨SX.S t, perm.mem_iff.mpr ((mem _).mpr ?_), S_tl2 t⟩
        rw [S_tl2]
        exact h
  rw [← e, List.map_map]
  have : (SX.S ∘ fun z : Str => z.cps.toList) = fun z => z := by
    funext z
    exact SX.S_tl z
  rw [this, List.map_id']
def freV (L : List (List Nat)) : List V := (fre L).map fun t => V.str (SX.S t)
def spFree (CB CM : Addr) : Sp := fun vs H Q E => ∃ v, vs = [v] ∧ An2 H v ∧ (namesB H v = false → eBad CB "names" H E) ∧ (namesB H v = true → apB H v = false → eBad CM "names" H E) ∧ (namesB H v = true → apB H v = true → ∀ H' p, Same H H' → H' p = none → Q (.ref p) (upd H' p (.tup (freV (sgs H v)))))
theorem cut_to {t : Str} {k : Nat} (h : k ≤ t.length) : cutS t none (some ((k : Nat) : Int)) = SX.S (t.cps.toList.take k) := by
  have a1 : HT.sIx t.length 0 none = 0 := rfl
  have a2 : HT.sIx t.length t.length (some ((k : Nat) : Int)) = min k t.length := by
    show (if ((k : Nat) : Int) < 0 then (((k : Nat) : Int) + (t.length : Int)).toNat else min (k : Int).toNat t.length) = _
    rw [if_neg (by omega), Int.toNat_natCast]
  unfold cutS
  rw [a1, a2, List.drop_zero, Nat.sub_zero, Nat.min_eq_left h]
theorem lc2_out {J : It} {n : Nat} {G : Hp → Prop} {Y : Nat → Hp → V → Hp → Prop} (w : Walk J n G Y) {g : TG} {tt : TT} {wi1 : TI} {g1 : TG} {tt1 : TT} {te : TE} {vs vs1 : List Nat} {σ : L2.St} {H1 : Hp} {D : Addr} {Qd : Hp → Prop} (Pv : Nat → Hp → Prop) (h0 : Pv 0 (upd H1 D (.lst []))) (hG : ∀ i H, i ≤ n → Pv i H → G H)
    (hs : ∀ i x H H', i < n → Pv i H → Y i H x H' → g x (wipe σ vs) H' fun σ2 H2 => wipe σ2 vs = wipe σ vs ∧ tt σ2 H2 fun b H3 =>
      if b = true then wi1 σ2 H3 fun J1 H4 => ∃ W1 : Nat → Nat → Hp → Prop, (∃ m, W1 0 m H4) ∧ ∀ j k H, W1 j k H →
        (J1.stop j H ∧ Pv (i + 1) H) ∨ (J1.go j H ∧ ∃ Nx1 : Hp → Prop, (∀ H', Nx1 H' → ∃ k', k' < k ∧ W1 (j + 1) k' H') ∧ ∀ x H', J1.yld j H x H' → g1 x (wipe σ2 vs1) H' fun σ3 H5 => wipe σ3 vs1 = wipe σ2 vs1 ∧ tt1 σ3 H5 fun b H6 =>
          if b = true then te σ3 H6 fun y H7 => ∃ acc, H7 D = some (.lst acc) ∧ acc.length < sizeLine ∧ Nx1 (upd H7 D (.lst (acc ++ [y]))) else Nx1 H6)
      else Pv (i + 1) H3) (hd : ∀ H, Pv n H → Qd H) :
    ∃ W : Nat → Nat → Hp → Prop, (∃ m, W 0 m (upd H1 D (.lst []))) ∧ ∀ i m H, W i m H →
      (J.stop i H ∧ Qd H) ∨ (J.go i H ∧ ∃ Nx : Hp → Prop, (∀ H', Nx H' → ∃ m', m' < m ∧ W (i + 1) m' H') ∧ ∀ x H', J.yld i H x H' → g x (wipe σ vs) H' fun σ2 H2 => wipe σ2 vs = wipe σ vs ∧ tt σ2 H2 fun b H3 =>
        if b = true then wi1 σ2 H3 fun J1 H4 => ∃ W1 : Nat → Nat → Hp → Prop, (∃ m, W1 0 m H4) ∧ ∀ j k H, W1 j k H →
          (J1.stop j H ∧ Nx H) ∨ (J1.go j H ∧ ∃ Nx1 : Hp → Prop, (∀ H', Nx1 H' → ∃ k', k' < k ∧ W1 (j + 1) k' H') ∧ ∀ x H', J1.yld j H x H' → g1 x (wipe σ2 vs1) H' fun σ3 H5 => wipe σ3 vs1 = wipe σ2 vs1 ∧ tt1 σ3 H5 fun b H6 =>
            if b = true then te σ3 H6 fun y H7 => ∃ acc, H7 D = some (.lst acc) ∧ acc.length < sizeLine ∧ Nx1 (upd H7 D (.lst (acc ++ [y]))) else Nx1 H6)
        else Nx H3) := by
  refine ⟨fun i m H => m = n - i ∧ i ≤ n ∧ Pv i H, ⟨n, by simp, Nat.zero_le _, h0⟩, ?_⟩
  rintro i m H ⟨rfl, hi, p⟩
  have q := hG i H hi p
  by_cases hlt : i < n
  · exact .inr ⟨w.goes i H hlt q, Pv (i + 1), fun H' p' => ⟨n - (i + 1), by omega, rfl, hlt, p'⟩, fun x H' y => hs i x H H' hlt p (w.yields i H x H' hlt q y)⟩
  · have e : i = n := by omega
    subst e
    exact .inl ⟨w.stops H q, hd H p⟩
theorem lc2_in {J : It} {n : Nat} {G : Hp → Prop} {Y : Nat → Hp → V → Hp → Prop} (w : Walk J n G Y) {g1 : TG} {tt1 : TT} {te : TE} {vs1 : List Nat} {σ2 : L2.St} {H4 : Hp} {D : Addr} {Qd : Hp → Prop} (Pv : Nat → Hp → Prop) (h0 : Pv 0 H4) (hG : ∀ i H, i ≤ n → Pv i H → G H)
    (hs : ∀ j x H H', j < n → Pv j H → Y j H x H' → g1 x (wipe σ2 vs1) H' fun σ3 H5 => wipe σ3 vs1 = wipe σ2 vs1 ∧ tt1 σ3 H5 fun b H6 =>
      if b = true then te σ3 H6 fun y H7 => ∃ acc, H7 D = some (.lst acc) ∧ acc.length < sizeLine ∧ Pv (j + 1) (upd H7 D (.lst (acc ++ [y]))) else Pv (j + 1) H6) (hd : ∀ H, Pv n H → Qd H) :
    ∃ W1 : Nat → Nat → Hp → Prop, (∃ m, W1 0 m H4) ∧ ∀ j k H, W1 j k H →
      (J.stop j H ∧ Qd H) ∨ (J.go j H ∧ ∃ Nx1 : Hp → Prop, (∀ H', Nx1 H' → ∃ k', k' < k ∧ W1 (j + 1) k' H') ∧ ∀ x H', J.yld j H x H' → g1 x (wipe σ2 vs1) H' fun σ3 H5 => wipe σ3 vs1 = wipe σ2 vs1 ∧ tt1 σ3 H5 fun b H6 =>
        if b = true then te σ3 H6 fun y H7 => ∃ acc, H7 D = some (.lst acc) ∧ acc.length < sizeLine ∧ Nx1 (upd H7 D (.lst (acc ++ [y]))) else Nx1 H6) := by
  refine ⟨fun i m H => m = n - i ∧ i ≤ n ∧ Pv i H, ⟨n, by simp, Nat.zero_le _, h0⟩, ?_⟩
  rintro i m H ⟨rfl, hi, p⟩
  have q := hG i H hi p
  by_cases hlt : i < n
  · exact .inr ⟨w.goes i H hlt q, Pv (i + 1), fun H' p' => ⟨n - (i + 1), by omega, rfl, hlt, p'⟩, fun x H' y => hs i x H H' hlt p (w.yields i H x H' hlt q y)⟩
  · have e : i = n := by omega
    subst e
    exact .inl ⟨w.stops H q, hd H p⟩
theorem unlock {H H' : Hp} {d : Addr} {x u : HO} (s : Same (upd H d x) H') (h : H d = some u) : Same H (upd H' d u) := fun b o e => by
  by_cases q : b = d
  · subst q
    rw [h] at e
    rw [upd_same, e]
  · rw [upd_ne q]
    exact s b o ((upd_ne q).trans e)
theorem pb_next {zs : List Str} {i : Nat} {z : Str} (hz : zs[i]? = some z) (y : Str) : PB zs i (some (z, z.length)) y ↔ PB zs (i + 1) none y := by
  constructor
  · rintro (e | ⟨j, hj, u, hu, l, hl, e⟩ | ⟨u, k, h, l, hl, e⟩)
    · exact .inl e
    · exact .inr (.inl ⟨j, by omega, u, hu, l, hl, e⟩)
    · cases h
      exact .inr (.inl ⟨i, by omega, z, hz, l, hl, e⟩)
  · rintro (e | ⟨j, hj, u, hu, l, hl, e⟩ | ⟨u, k, h, _⟩)
    · exact .inl e
    · by_cases q : j = i
      · subst q
        rw [hz] at hu
        cases hu
        exact .inr (.inr ⟨z, z.length, rfl, l, hl, e⟩)
      · exact .inr (.inl ⟨j, by omega, u, hu, l, hl, e⟩)
    · cases h
theorem pb_zero {zs : List Str} {i : Nat} {z : Str} (y : Str) : PB zs i none y ↔ PB zs i (some (z, 0)) y := by
  constructor
  · rintro (e | h | ⟨u, k, h, _⟩)
    · exact .inl e
    · exact .inr (.inl h)
    · cases h
  · rintro (e | h | ⟨u, k, h, l, hl, _⟩)
    · exact .inl e
    · exact .inr (.inl h)
    · cases h
      omega
theorem pb_step {zs : List Str} {i k : Nat} {z : Str} (y : Str) : (PB zs i (some (z, k)) y ∨ y = SX.S (z.cps.toList.take k)) ↔ PB zs i (some (z, k + 1)) y := by
  constructor
  · rintro ((e | h | ⟨u, k', h, l, hl, e⟩) | e)
    · exact .inl e
    · exact .inr (.inl h)
    · cases h
      exact .inr (.inr ⟨z, k + 1, rfl, l, by omega, e⟩)
    · exact .inr (.inr ⟨z, k + 1, rfl, k, by omega, e⟩)
  · rintro (e | h | ⟨u, k', h, l, hl, e⟩)
    · exact .inl (.inl e)
    · exact .inl (.inr (.inl h))
    · cases h
      by_cases q : l = k
      · rw [q] at e
        exact .inr e
      · exact .inl (.inr (.inr ⟨z, k, rfl, l, by omega, e⟩))
theorem pairs_len (bs : List Str) : (pairs bs).length = 2 * bs.length := by
  unfold pairs
  induction bs with
  | nil => rfl
  | cons t bs ih => rw [List.flatMap_cons, List.length_append, ih]; simp only [List.length_cons, List.length_nil]; omega
section
variable {P : Program} {w : World} {K : PySem.W.Frag} {mg : Str → Option Value} {base : Heap}
theorem ok_free_names {CB CM f : Addr} {fd : FuncData} (F : Fun K "free_names" "free_names" s_free_names f fd) (T : Txt mg) (C_need_apart : CalX P w K mg base 5 "need_apart" ["names"] (spNeedAp CB CM)) : FnOk P w K mg base (L2.CX P w) 6 f fd ["names"] (spFree CB CM) := by
  refine F.okX sc_free_names (fun vs H Q E h => ?_) (fun cdv A outer s H vs Q E hr h => ?_)
  · obtain ⟨v, rfl, _⟩ := h
    rfl
  · obtain ⟨v, rfl, h2, ke, km, kq⟩ := h
    refine ⟨_, (pss_cons (ps_expr (pe_calE C_need_apart (takes_of rfl rfl rfl rfl) (hr.mono (by decide)) (pa_cons (pv 0) pa_nil)))
  (pss_cons (ps_set (i := 1) sc_free_names.nd rfl (Or.inr rfl) (pe_disp (pps_cons pe_str pe_bl pps_nil) rfl rfl (by decide) (by decide)))
  (C8.pss_cut (ps_for (passes_of rfl) rfl (pi_alt (pi_list (pv 0)) (pi_tup (pv 0))) (pg_name (i := 2) sc_free_names.nd rfl (Or.inl rfl))
  (pss_one (ps_for (passes_of rfl) rfl (pi_range1 rfl T.b_range (pa_cons (pe_callB call_len_str (by rfl) T.b_len boot_len (pa_cons (pv 2) pa_nil)) pa_nil)) (pg_name (i := 3) sc_free_names.nd rfl (Or.inl rfl))
  (pss_one (ps_asg pe_bl (pg_sub (pv 1) (pe_slice sl_str (pv 2) po_none (po_some (pv 3))) (set_dict (hu2 hr))))))))
  (C8.pss_cut (ps_set (i := 4) sc_free_names.nd rfl (Or.inr rfl) (pe_dc (own := [("name", 2)]) (g := gName 2) (tt := tYes) rfl sc_free_names.nd (pi_alt (pi_list (pv 0)) (pi_tup (pv 0))) (blkOk_by (own := [("name", 2)]) (N := N_free_names) (sc := defScope s_free_names) (by decide +kernel)) (fun _ _ _ _ _ => (pg_name (i := 2) sc_free_names.nd rfl (Or.inl rfl))) (fun _ _ _ _ _ => pts_nil) (fun _ _ _ _ _ => (pv 2)) (fun _ _ _ _ _ => pe_bl)))
  (pss_cons (ps_lock (ps_setLc2 (i := 5) (own := [("text", 6), ("sign", 7)]) (vs1 := [7]) (g := gName 6) (tt := tYes) (g1 := gName 7) (tt1 := tYes) rfl sc_free_names.nd rfl rfl (sw_true rfl rfl rfl (by decide +kernel)) (pi_keys (pv 1)) (blkOk_by (own := [("text", 6), ("sign", 7)]) (N := N_free_names) (sc := defScope s_free_names) (by decide +kernel)) (by decide) (fun _ _ _ _ _ => (pg_name (i := 6) sc_free_names.nd rfl (Or.inl rfl))) (fun _ _ _ _ _ => pts_nil) (fun _ _ _ _ _ => (pi_tupK (K := K) (by rfl) (pe_tup (pa_cons pe_str (pa_cons pe_str pa_nil))))) (fun _ _ _ _ _ => (pg_name (i := 7) sc_free_names.nd rfl (Or.inl rfl))) (fun _ _ _ _ _ => pts_nil) (fun _ _ _ _ _ => (pe_op op_add_str (pv 6) (pv 7)))))
  (pss_one (ps_ret (pe_callTy call_tuple_of (by rfl) T.b_tuple boot_tuple (pa_cons (pe_callB cr_sortedA (by rfl) T.b_sorted boot_sorted (pa_cons (pe_lc (own := [("text", 6)]) (g := gName 6) rfl sc_free_names.nd (pi_list (pv 5)) (blkOk_by (own := [("text", 6)]) (N := N_free_names) (sc := defScope s_free_names) (by decide +kernel)) (fun _ _ _ _ _ => (pg_name (i := 6) sc_free_names.nd rfl (Or.inl rfl))) (fun _ _ _ _ _ => (pts_one (PW.pt (pw_and (pt_cmp (pc_dnotin (hu2 hr) (pv 6) (pv 1))) (pw_and1 (pt_cmp (pc_dnotin (hu2 hr) (pv 6) (pv 4)))))))) (fun _ _ _ _ _ => (pv 6))) pa_nil)) pa_nil))))))))), ?_⟩
    refine ⟨v, rfl, v, rfl, h2, fun hn H1 d s1 hd => ke hn H1 d s1 hd, fun hn ha H1 d s1 hd => km hn ha H1 d s1 hd, fun hn ha H1 s1 => ?_⟩
    obtain ⟨a, zs, rfl, e2, few, at_, eS⟩ := names_at h2.an hn
    have ap := apB_iff.mp ha
    rw [eS] at ap
    have gz := names_good hn e2
    have N := nms_of ap gz
    have kq := kq hn ha
    rw [eS] at kq
    dsimp only
    refine fun d hd => ⟨upd_same, [(.inr "", .bl true)], rfl, by decide, ?_⟩
    have e0 : upd (upd H1 d (HO.dK [])) d (HO.dK (mergeK [] [(.inr "", V.bl true)])) = upd H1 d (HO.dK [(.inr "", V.bl true)]) := by
      funext b
      by_cases hb : b = d
      · subst hb; rw [upd_same, upd_same]; rfl
      · rw [upd_ne hb, upd_ne hb, upd_ne hb]
    rw [e0]
    have fd : H d = none := by
      cases e : H d with
      | none => rfl
      | some o =>
        have := s1 _ _ e
        rw [hd] at this
        cases this
    have sA := s1.trans (same_new (o := HO.dK [(.inr "", V.bl true)]) hd)
    have hd0 : upd H1 d (HO.dK [(.inr "", V.bl true)]) d = some (.dK [(.inr "", V.bl true)]) := upd_same
    have ks0 : Ks [(.inr "", V.bl true)] (PB zs 0 none) (1 + 60 * 0) := by
      have k0 : Ks [] (fun _ => False) 0 := ⟨fun kv h => (nomatch h), List.nodup_nil, fun y => by simp [valV_nil], Nat.le_refl _⟩
      refine (k0.put "" (V.bl true)).imp (fun y => ?_) (by omega)
      constructor
      · rintro (h | e)
        · exact h.elim
        · exact .inl e
      · rintro (e | ⟨j, hj, _⟩ | ⟨u, k, h, _⟩)
        · exact .inr e
        · omega
        · cases h
    generalize upd H1 d (HO.dK [(.inr "", V.bl true)]) = HA at sA hd0 ⊢
    clear e0 hd s1
    refine ⟨fun σ' H' => ∃ kvs o2 o3, σ' = [some (.ref a), some (.ref d), o2, o3, none, none, none, none] ∧ Same H H' ∧ H' d = some (.dK kvs) ∧ Ks kvs (PB zs zs.length none) 12001, ?_, ?_⟩
    · rcases at_ with at_ | at_
      · refine .inl ⟨_, rfl, a, rfl, ⟨_, SqL.of (sA _ _ at_)⟩, ?_⟩
        refine for_it (walk_list (K := K) (a := a) (xs := zs.map V.str)) (fun i σ' H' => (∃ kvs o2 o3, σ' = [some (.ref a), some (.ref d), o2, o3, none, none, none, none] ∧ H' d = some (.dK kvs) ∧ Ks kvs (PB zs i none) (1 + 60 * i)) ∧ Same H H') ⟨⟨_, _, _, rfl, hd0, ks0⟩, sA⟩ (fun i _ H' _ p => SqL.of (p.2 _ _ at_)) (fun i x σ' H' H3 hi p y => ?_) (fun σ' H' p => ?_)
        · obtain ⟨⟨kvs, o2, o3, rfl, hd, ks⟩, s3⟩ := p
          obtain ⟨rfl, hx⟩ := y
          rw [List.getElem?_map] at hx
          obtain ⟨z, hz, rfl⟩ := Option.map_eq_some_iff.mp hx
          have gzz := gz z (List.mem_of_getElem? hz)
          have zl : z.length ≤ sizeLine := Nat.le_trans gzz.2.1 (by decide)
          have i2 : i < 200 := by rw [List.length_map] at hi; omega
          refine ⟨_, rfl, z, rfl, zl, _, rfl, by omega, by omega, ?_⟩
          refine for_range (n := z.length) (fun k σ' H' => (∃ kvs o3, σ' = [some (.ref a), some (.ref d), some (.str z), o3, none, none, none, none] ∧ H' d = some (.dK kvs) ∧ Ks kvs (PB zs i (some (z, k))) (1 + 60 * i + k)) ∧ Same H H') ⟨⟨_, _, rfl, hd, ks.imp pb_zero (by omega)⟩, s3⟩ (fun k σ' H4 hk p => ?_) (fun σ' H4 p => ?_)
          · obtain ⟨⟨kvs, o3, rfl, hd, ks⟩, s4⟩ := p
            refine ⟨_, rfl, _, rfl, _, rfl, _, rfl, z, rfl, zl, ?_⟩
            rw [show (0 + (k : Int)) = ((k : Nat) : Int) by omega, cut_to (by omega)]
            refine ⟨d, _, rfl, .inl ⟨kvs, .inr (SX.S (z.cps.toList.take k)), hd, rfl, Nat.lt_of_le_of_lt ks.le (Nat.lt_of_lt_of_le (m := 20000) (by omega) (by decide)), rfl⟩, ?_⟩
            exact ⟨⟨_, _, rfl, upd_same, (ks.put _ _).imp pb_step (by omega)⟩, same_mut s4 fd⟩
          · obtain ⟨⟨kvs, o3, rfl, hd, ks⟩, s4⟩ := p
            exact ⟨⟨_, _, _, rfl, hd, ks.imp (pb_next hz) (by omega)⟩, s4⟩
        · obtain ⟨⟨kvs, o2, o3, rfl, hd, ks⟩, s3⟩ := p
          rw [List.length_map] at ks
          exact ⟨kvs, o2, o3, rfl, s3, hd, ks.imp (fun _ => Iff.rfl) (by omega)⟩
      · refine .inr ⟨_, rfl, a, rfl, ⟨_, SqT.of (sA _ _ at_)⟩, ?_⟩
        refine for_it (walk_tup (K := K) (a := a) (xs := zs.map V.str)) (fun i σ' H' => (∃ kvs o2 o3, σ' = [some (.ref a), some (.ref d), o2, o3, none, none, none, none] ∧ H' d = some (.dK kvs) ∧ Ks kvs (PB zs i none) (1 + 60 * i)) ∧ Same H H') ⟨⟨_, _, _, rfl, hd0, ks0⟩, sA⟩ (fun i _ H' _ p => SqT.of (p.2 _ _ at_)) (fun i x σ' H' H3 hi p y => ?_) (fun σ' H' p => ?_)
        · obtain ⟨⟨kvs, o2, o3, rfl, hd, ks⟩, s3⟩ := p
          obtain ⟨rfl, hx⟩ := y
          rw [List.getElem?_map] at hx
          obtain ⟨z, hz, rfl⟩ := Option.map_eq_some_iff.mp hx
          have gzz := gz z (List.mem_of_getElem? hz)
          have zl : z.length ≤ sizeLine := Nat.le_trans gzz.2.1 (by decide)
          have i2 : i < 200 := by rw [List.length_map] at hi; omega
          refine ⟨_, rfl, z, rfl, zl, _, rfl, by omega, by omega, ?_⟩
          refine for_range (n := z.length) (fun k σ' H' => (∃ kvs o3, σ' = [some (.ref a), some (.ref d), some (.str z), o3, none, none, none, none] ∧ H' d = some (.dK kvs) ∧ Ks kvs (PB zs i (some (z, k))) (1 + 60 * i + k)) ∧ Same H H') ⟨⟨_, _, rfl, hd, ks.imp pb_zero (by omega)⟩, s3⟩ (fun k σ' H4 hk p => ?_) (fun σ' H4 p => ?_)
          · obtain ⟨⟨kvs, o3, rfl, hd, ks⟩, s4⟩ := p
            refine ⟨_, rfl, _, rfl, _, rfl, _, rfl, z, rfl, zl, ?_⟩
            rw [show (0 + (k : Int)) = ((k : Nat) : Int) by omega, cut_to (by omega)]
            refine ⟨d, _, rfl, .inl ⟨kvs, .inr (SX.S (z.cps.toList.take k)), hd, rfl, Nat.lt_of_le_of_lt ks.le (Nat.lt_of_lt_of_le (m := 20000) (by omega) (by decide)), rfl⟩, ?_⟩
            exact ⟨⟨_, _, rfl, upd_same, (ks.put _ _).imp pb_step (by omega)⟩, same_mut s4 fd⟩
          · obtain ⟨⟨kvs, o3, rfl, hd, ks⟩, s4⟩ := p
            exact ⟨⟨_, _, _, rfl, hd, ks.imp (pb_next hz) (by omega)⟩, s4⟩
        · obtain ⟨⟨kvs, o2, o3, rfl, hd, ks⟩, s3⟩ := p
          rw [List.length_map] at ks
          exact ⟨kvs, o2, o3, rfl, s3, hd, ks.imp (fun _ => Iff.rfl) (by omega)⟩
    rintro σ' H3 ⟨kvs, o2, o3, rfl, s3, hd, ks⟩
    clear sA hd0 ks0
    refine ⟨fun σ' H' => ∃ kvs W wk o2 o3, σ' = [some (.ref a), some (.ref d), o2, o3, some (.ref W), none, none, none] ∧ Same H H' ∧ H' d = some (.dK kvs) ∧ H' W = some (.dK wk) ∧ Ks kvs (PB zs zs.length none) 12001 ∧ ∀ y, (valV wk (.inr y)).isSome = true ↔ y ∈ zs, ?_, ?_⟩
    · rcases at_ with at_ | at_
      · refine .inl ⟨_, rfl, a, rfl, ⟨_, SqL.of (s3 _ _ at_)⟩, fun W hW => ?_⟩
        refine dc_it (walk_list (K := K) (a := a) (xs := zs.map V.str)) (fun i H' => Same H3 H' ∧ ∃ wk, H' W = some (.dK wk) ∧ Ks wk (fun y => ∃ j < i, zs[j]? = some y) i) ⟨same_new hW, [], upd_same, ⟨fun kv h => (nomatch h), List.nodup_nil, fun y => by simp [valV_nil], Nat.le_refl _⟩⟩ (fun i H' _ p => SqL.of ((s3.trans p.1) _ _ at_)) (fun i x H4 H' hi p y => ?_) (fun H4 p => ?_)
        · obtain ⟨s4, wk, hw, kw⟩ := p
          obtain ⟨rfl, hx⟩ := y
          rw [List.getElem?_map] at hx
          obtain ⟨z, hz, rfl⟩ := Option.map_eq_some_iff.mp hx
          have i2 : i < 200 := by rw [List.length_map] at hi; omega
          refine ⟨rfl, yes_if ⟨_, rfl, wk, .inr z, rfl, hw, Nat.lt_of_le_of_lt kw.le (Nat.lt_of_lt_of_le (m := 300) (by omega) (by decide)), same_mut s4 hW, _, upd_same, (kw.put z _).imp (fun y => ?_) (by omega)⟩⟩
          constructor
          · rintro (⟨j, hj, h⟩ | rfl)
            · exact ⟨j, by omega, h⟩
            · exact ⟨i, by omega, hz⟩
          · rintro ⟨j, hj, h⟩
            by_cases q : j = i
            · rw [q, hz] at h
              cases h
              exact .inr rfl
            · exact .inl ⟨j, by omega, h⟩
        · obtain ⟨s4, wk, hw, kw⟩ := p
          refine ⟨kvs, W, wk, o2, o3, rfl, s3.trans s4, s4 _ _ hd, hw, ks, fun y => ?_⟩
          rw [kw.is y]
          constructor
          · rintro ⟨j, _, h⟩
            exact List.mem_of_getElem? h
          · intro h
            obtain ⟨j, hj⟩ := List.getElem?_of_mem h
            exact ⟨j, by rw [List.length_map]; exact (List.getElem?_eq_some_iff.mp hj).1, hj⟩
      · refine .inr ⟨_, rfl, a, rfl, ⟨_, SqT.of (s3 _ _ at_)⟩, fun W hW => ?_⟩
        refine dc_it (walk_tup (K := K) (a := a) (xs := zs.map V.str)) (fun i H' => Same H3 H' ∧ ∃ wk, H' W = some (.dK wk) ∧ Ks wk (fun y => ∃ j < i, zs[j]? = some y) i) ⟨same_new hW, [], upd_same, ⟨fun kv h => (nomatch h), List.nodup_nil, fun y => by simp [valV_nil], Nat.le_refl _⟩⟩ (fun i H' _ p => SqT.of ((s3.trans p.1) _ _ at_)) (fun i x H4 H' hi p y => ?_) (fun H4 p => ?_)
        · obtain ⟨s4, wk, hw, kw⟩ := p
          obtain ⟨rfl, hx⟩ := y
          rw [List.getElem?_map] at hx
          obtain ⟨z, hz, rfl⟩ := Option.map_eq_some_iff.mp hx
          have i2 : i < 200 := by rw [List.length_map] at hi; omega
          refine ⟨rfl, yes_if ⟨_, rfl, wk, .inr z, rfl, hw, Nat.lt_of_le_of_lt kw.le (Nat.lt_of_lt_of_le (m := 300) (by omega) (by decide)), same_mut s4 hW, _, upd_same, (kw.put z _).imp (fun y => ?_) (by omega)⟩⟩
          constructor
          · rintro (⟨j, hj, h⟩ | rfl)
            · exact ⟨j, by omega, h⟩
            · exact ⟨i, by omega, hz⟩
          · rintro ⟨j, hj, h⟩
            by_cases q : j = i
            · rw [q, hz] at h
              cases h
              exact .inr rfl
            · exact .inl ⟨j, by omega, h⟩
        · obtain ⟨s4, wk, hw, kw⟩ := p
          refine ⟨kvs, W, wk, o2, o3, rfl, s3.trans s4, s4 _ _ hd, hw, ks, fun y => ?_⟩
          rw [kw.is y]
          constructor
          · rintro ⟨j, _, h⟩
            exact List.mem_of_getElem? h
          · intro h
            obtain ⟨j, hj⟩ := List.getElem?_of_mem h
            exact ⟨j, by rw [List.length_map]; exact (List.getElem?_eq_some_iff.mp hj).1, hj⟩
    rintro σ' H4 ⟨kvs2, W, wk, o2, o3, rfl, s4, hd4, hw4, ks4, kw⟩
    clear s3 hd ks kvs
    obtain ⟨bs, eb, ndb, lb, mb⟩ := ks4.strs
    refine ⟨d, .dK kvs2, hd4, trivial, fun od => ?_⟩
    have hdF : upd H4 d (HO.frz od (.dK kvs2)) d = some (.frz od (.dK kvs2)) := upd_same
    have un : ∀ H', Same (upd H4 d (HO.frz od (.dK kvs2))) H' → Same H4 (upd H' d (.dK kvs2)) := fun H' s => unlock s hd4
    generalize upd H4 d (HO.frz od (.dK kvs2)) = HF at hdF un ⊢
    refine ⟨_, rfl, d, od, rfl, .inl ⟨kvs2, hdF, fun D hD => ?_⟩⟩
    have Dd : D ≠ d := (ne_of_none hdF hD).symm
    have klen : kvs2.length = bs.length := by
      have := congrArg List.length eb
      rwa [List.length_map, List.length_map] at this
    refine lc2_out (walk_keys (d := d) (o := od) (kvs := kvs2)) (fun i H' => Same HF H' ∧ H' D = some (.lst ((pairs (bs.take i)).map V.str))) ⟨same_new hD, by rw [upd_same]; rfl⟩ (fun i H' _ p => p.1 _ _ hdF) (fun i x H5 H' hi p y => ?_) (fun H5 p => ?_)
    · obtain ⟨s5, hl⟩ := p
      obtain ⟨rfl, k, v, hk, rfl⟩ := y
      obtain ⟨t, ht, rfl⟩ : ∃ t, bs[i]? = some t ∧ k = .inr t := by
        have h1 : (kvs2.map (·.1))[i]? = some k := by rw [List.getElem?_map, hk]; rfl
        rw [eb, List.getElem?_map] at h1
        obtain ⟨t, ht, e⟩ := Option.map_eq_some_iff.mp h1
        exact ⟨t, ht, e.symm⟩
      have tb : t.length ≤ 60 := by
        rcases (mb t).mp (List.mem_of_getElem? ht) with rfl | ⟨j, _, z, hz, l, hl2, rfl⟩ | ⟨u, k, h, _⟩
        · decide +kernel
        · have := (gz z (List.mem_of_getElem? hz)).2.1
          rw [← tl_len, S_tl2, List.length_take]
          omega
        · cases h
      refine ⟨rfl, yes_if ?_⟩
      refine ⟨by show 2 ≤ sizeLine; decide, fun tp htp => ⟨tp, rfl, ⟨_, SqT.of upd_same⟩, ?_⟩⟩
      have s6 := s5.trans (same_new (o := HO.tup [V.str "0", V.str "1"]) htp)
      have htt : upd H' tp (HO.tup [V.str "0", V.str "1"]) tp = some (.tup [V.str "0", V.str "1"]) := upd_same
      have hl6 : upd H' tp (HO.tup [V.str "0", V.str "1"]) D = some (.lst ((pairs (bs.take i)).map V.str)) := (upd_ne (ne_of_none hl htp)).trans hl
      have tpD : tp ≠ D := (ne_of_none hl htp).symm
      generalize upd H' tp (HO.tup [V.str "0", V.str "1"]) = H6 at s6 htt hl6 ⊢
      have ilt : i < 12001 := by omega
      have pl : (pairs (bs.take i)).length ≤ 24002 := by rw [pairs_len, List.length_take]; omega
      refine lc2_in (walk_tup (K := K) (a := tp) (xs := [V.str "0", V.str "1"])) (fun j H' => Same HF H' ∧ H' tp = some (.tup [V.str "0", V.str "1"]) ∧ H' D = some (.lst ((pairs (bs.take i) ++ [t ++ "0", t ++ "1"].take j).map V.str))) ⟨s6, htt, by rw [hl6]; simp⟩ (fun j H' _ p => SqT.of p.2.1) (fun j x H7 H' hj p y => ?_) (fun H7 p => ?_)
      · obtain ⟨s7, ht7, hl7⟩ := p
        obtain ⟨rfl, hx⟩ := y
        have l1 : ("0" : Str).length = 1 := by decide +kernel
        have l2 : ("1" : Str).length = 1 := by decide +kernel
        match j, hj, hx, hl7 with
        | 0, _, hx, hl7 =>
          cases hx
          refine ⟨rfl, yes_if ⟨_, rfl, _, rfl, t, "0", rfl, rfl, Nat.le_trans (m := 100) (by omega) (by decide), _, hl7, Nat.lt_of_le_of_lt (m := 30000) (by rw [List.length_map, List.length_append]; simp; omega) (by decide), same_mut s7 hD, (upd_ne tpD).trans ht7, ?_⟩⟩
          rw [upd_same]
          simp
        | 1, _, hx, hl7 =>
          cases hx
          refine ⟨rfl, yes_if ⟨_, rfl, _, rfl, t, "1", rfl, rfl, Nat.le_trans (m := 100) (by omega) (by decide), _, hl7, Nat.lt_of_le_of_lt (m := 30000) (by rw [List.length_map, List.length_append]; simp; omega) (by decide), same_mut s7 hD, (upd_ne tpD).trans ht7, ?_⟩⟩
          rw [upd_same]
          simp
      · obtain ⟨s7, ht7, hl7⟩ := p
        refine ⟨s7, ?_⟩
        rw [hl7, List.take_add_one, ht]
        unfold pairs
        simp
    · obtain ⟨s5, hl⟩ := p
      dsimp only [gName]
      refine ⟨s5 _ _ hdF, ?_⟩
      have sG := s4.trans (un H5 s5)
      have hdG : upd H5 d (HO.dK kvs2) d = some (.dK kvs2) := upd_same
      have hwG : upd H5 d (HO.dK kvs2) W = some (.dK wk) := un H5 s5 _ _ hw4
      have hlG : upd H5 d (HO.dK kvs2) D = some (.lst ((pairs bs).map V.str)) := by
        rw [upd_ne Dd, hl, klen, List.take_of_length_le (Nat.le_refl _)]
      generalize upd H5 d (HO.dK kvs2) = HG at sG hdG hwG hlG ⊢
      clear un s5 hl hdF hD hd4 hw4 s4
      refine ⟨_, rfl, D, rfl, ⟨_, SqL.of hlG⟩, fun M hM => ?_⟩
      refine lc_it (walk_list (K := K) (xs := (pairs bs).map V.str)) (fun i H' => Same HG H' ∧ H' M = some (.lst ((((pairs bs).take i).filter fun x => !(valV kvs2 (.inr x)).isSome && !(valV wk (.inr x)).isSome).map V.str))) ⟨same_new hM, by rw [upd_same]; rfl⟩ (fun i H' _ p => SqL.of (p.1 _ _ hlG)) (fun i x H6 H' hi p y => ?_) (fun H6 p => ?_)
      · obtain ⟨s6, hm⟩ := p
        obtain ⟨rfl, hx⟩ := y
        rw [List.getElem?_map] at hx
        obtain ⟨t, ht, rfl⟩ := Option.map_eq_some_iff.mp hx
        have il : i < 24002 := by rw [List.length_map, pairs_len] at hi; omega
        refine ⟨rfl, ?_⟩
        refine ⟨_, rfl, _, rfl, d, _, rfl, DGet.k (k := .inr t) (s6 _ _ hdG), _, rfl, ?_⟩
        cases h1 : (valV kvs2 (.inr t)).isSome with
        | true =>
          refine iteF (iteF ⟨s6, ?_⟩)
          rw [hm, take_filter_no (b := fun x => !(valV kvs2 (.inr x)).isSome && !(valV wk (.inr x)).isSome) V.str ht (by simp [h1])]
        | false =>
          refine iteT ?_
          refine ⟨_, rfl, _, rfl, W, _, rfl, DGet.k (k := .inr t) (s6 _ _ hwG), ?_⟩
          cases h2 : (valV wk (.inr t)).isSome with
          | true =>
            refine ⟨_, rfl, iteF ⟨s6, ?_⟩⟩
            rw [hm, take_filter_no (b := fun x => !(valV kvs2 (.inr x)).isSome && !(valV wk (.inr x)).isSome) V.str ht (by simp [h2])]
          | false =>
            have fl : (((pairs bs).take i).filter fun x => !(valV kvs2 (.inr x)).isSome && !(valV wk (.inr x)).isSome).length ≤ 24002 := Nat.le_trans (List.length_filter_le _ _) (by rw [List.length_take]; omega)
            refine ⟨_, rfl, iteT ⟨_, rfl, _, hm, Nat.lt_of_le_of_lt (m := 24002) (by rw [List.length_map]; exact fl) (by decide), same_mut s6 hM, ?_⟩⟩
            rw [upd_same, take_filter_yes (b := fun x => !(valV kvs2 (.inr x)).isSome && !(valV wk (.inr x)).isSome) V.str ht (by simp [h1, h2])]
      · obtain ⟨s6, hm⟩ := p
        rw [List.length_map, List.take_of_length_le (Nat.le_refl _)] at hm
        refine ⟨M, _, rfl, .inl (SqL.of hm), fun ys p perm srt hp => ?_⟩
        refine ⟨p, _, rfl, .inl ⟨SqL.of upd_same, fun q hq => ?_⟩⟩
        have key := fre_sorted N ((pairs_nodup ndb).filter _) (fun x => ?_) perm srt
        · have := kq _ q ((sG.trans s6).trans (same_new hp)) hq
          have e : freV (cod zs) = ys.map V.str := by
            rw [key, List.map_map]
            rfl
          rw [e] at this
          exact this
        · rw [List.mem_filter, pairs_mem, Bool.and_eq_true, Bool.not_eq_true', Bool.not_eq_true']
          have iB : (valV kvs2 (.inr x)).isSome = false ↔ ¬ Bg (cod zs) x.cps.toList := by
            rw [← pb_bg, ← ks4.is x, Bool.not_eq_true]
          have iW : (valV wk (.inr x)).isSome = false ↔ x.cps.toList ∉ cod zs := by
            rw [← Bool.not_eq_true, kw x]
            constructor
            · intro h q
              obtain ⟨z, hz, e⟩ := List.mem_map.mp q
              exact h (str_ext e ▸ hz)
            · intro h q
              exact h (List.mem_map.mpr ⟨x, q, rfl⟩)
          rw [iB, iW]
          constructor
          · rintro ⟨⟨t, ht, s, hs, e⟩, h1, h2⟩
            exact ⟨⟨t.cps.toList, s, hs, e, (pb_bg t).mp ((mb t).mp ht)⟩, h1, h2⟩
          · rintro ⟨⟨u, s, hs, e, hu⟩, h1, h2⟩
            exact ⟨⟨SX.S u, (mb _).mpr ((pb_bg _).mpr (by rw [S_tl2]; exact hu)), s, hs, by rw [S_tl2]; exact e⟩, h1, h2⟩
end
end K05
set_option Elab.async false
set_option linter.all false
set_option maxRecDepth 100000
set_option maxHeartbeats 4000000
/-! how long what repr writes is -/
namespace Own
open PySem PySem.Spec PyProof.Rows L2
section
variable {K : PySem.W.Frag}
/-- what is written of such data -/
structure Sh (n l : Nat) (d : PyData) : Prop where
  s : d.showable = true
  h : d.hasDict = false
  n : d.depth ≤ n
  l : d.shown.length ≤ l
theorem Sh.mono {n l n' l' : Nat} {d : PyData} (h : Sh n l d) (a : n ≤ n') (b : l ≤ l') : Sh n' l' d := ⟨h.s, h.h, Nat.le_trans h.n a, Nat.le_trans h.l b⟩
theorem Sh.list {n l : Nat} : ∀ {ds : List PyData}, (∀ d ∈ ds, Sh n l d) → PyData.showableAll ds = true ∧ PyData.hasDictAll ds = false ∧ PyData.depthAll ds ≤ n ∧ ((PyData.shownAll ds).map (·.length)).sum ≤ ds.length * l ∧ (PyData.shownAll ds).length = ds.length
  | [], _ => by simp [PyData.showableAll, PyData.hasDictAll, PyData.depthAll, PyData.shownAll]
  | d :: ds, h => by
    obtain ⟨a1, a2, a3, a4, a5⟩ := Sh.list (n := n) (l := l) (ds := ds) fun x hx => h x (List.mem_cons_of_mem _ hx)
    have hd := h d List.mem_cons_self
    refine ⟨by simp [PyData.showableAll, hd.s, a1], by simp [PyData.hasDictAll, hd.h, a2], ?_, ?_, by simp [PyData.shownAll, a5]⟩
    · simp only [PyData.depthAll]
      have := hd.n
      omega
    · simp only [PyData.shownAll, List.map_cons, List.sum_cons, List.length_cons]
      have := hd.l
      rw [Nat.succ_mul]
      omega
theorem Sh.lst {n l k : Nat} {ds : List PyData} (h : ∀ d ∈ ds, Sh n l d) (hk : ds.length ≤ k) : Sh (n + 1) (k * l + 2 * k + 3) (.list ds) := by
  obtain ⟨a1, a2, a3, a4, a5⟩ := Sh.list h
  refine ⟨by simpa [PyData.showable] using a1, by simpa [PyData.hasDict] using a2, by simp only [PyData.depth]; omega, ?_⟩
  simp only [PyData.shown]
  have := listText_len_le (PyData.shownAll ds)
  rw [a5] at this
  have b := Nat.mul_le_mul_right l hk
  omega
theorem paired_mem {α β : Type} {F : α → β → Prop} : ∀ {xs : List α} {ys : List β}, Paired F xs ys → ∀ y ∈ ys, ∃ x, F x y
  | _, _, .cons a r, y, hy => by
    rcases List.mem_cons.mp hy with e | e
    · subst e
      exact ⟨_, a⟩
    · exact paired_mem r y e

theorem Sh.two {d e : PyData} (hd : Sh 0 50 d) (he : Sh 0 50 e) : Sh 1 200 (.tuple [d, e]) := by
  refine ⟨by simp [PyData.showable, PyData.showableAll, hd.s, he.s], by simp [PyData.hasDict, PyData.hasDictAll, hd.h, he.h], ?_, ?_⟩
  · have := hd.n
    have := he.n
    simp only [PyData.depth, PyData.depthAll]
    omega
  · have h1 := hd.l
    have h2 := he.l
    simp only [PyData.shown, PyData.shownAll]
    have := tupleText_len_le [d.shown, e.shown]
    simp at this
    omega
theorem sh_int {i : Int} (h : i.natAbs < 10 ^ 21) : Sh 0 50 (.int i) := by
  refine ⟨?_, by simp [PyData.hasDict], by simp [PyData.depth], ?_⟩
  · have : i.natAbs < 2 ^ 80 := by omega
    have := PySem.Flt.log2_lt_of (by decide) this
    simp only [PyData.showable, decide_eq_true_eq]
    omega
  · simp only [PyData.shown]
    rw [show (Str.ofString (toString i)).length = (toString i).length from PySem.ofString_length _]
    have := int_text_length_le10 (a := i) (k := 21) (by decide) h
    omega
theorem ne_rep {te1 te2 : TE} {σ : L2.St} {H : Hp} {R : Bool → Hp → Prop} (h : te1 σ H fun x H1 => rRepr K [x] H1 fun y H2 => te2 σ H2 fun z H3 => rRepr K [z] H3 fun u H4 => rNe y u H4 (fun b H5 => ∃ k, b = .bl k ∧ R k H5)) :
    tTest (tOp rNe (tCB (rRepr K) (tCons te1 tNil)) (tCB (rRepr K) (tCons te2 tNil))) σ H R := h
theorem nx_in {D : Ends} {σ : L2.St} {H : Hp} (h : D.nx σ H) : tNext D σ H := h
theorem ret_eq {te1 te2 tb : TE} {σ : L2.St} {H : Hp} {D : Ends} (h : te1 σ H fun x H1 => rRepr K [x] H1 fun y H2 => te2 σ H2 fun z H3 => rRepr K [z] H3 fun u H4 => rEq y u H4 (fun b H5 => ∃ c, b = .bl c ∧ if c = true then tb σ H5 D.rt else D.rt (.bl false) H5)) :
    tRet (tAndV (tOp rEq (tCB (rRepr K) (tCons te1 tNil)) (tCB (rRepr K) (tCons te2 tNil))) tb) D σ H := h
theorem rep_bl {b : Bool} {H : Hp} {Q : VK} (q : Q (.str (PyData.bool b).shown) H) : rRepr K [.bl b] H Q :=
  ⟨.bl b, .bool b, rfl, .bl b, by simp [PyData.showable], by simp [PyData.hasDict], by simp [PyData.depth], by simp only [PyData.shown]; cases b <;> decide, q⟩

theorem Sh.tup {n l k : Nat} {ds : List PyData} (h : ∀ d ∈ ds, Sh n l d) (hk : ds.length ≤ k) : Sh (n + 1) (k * l + 2 * k + 3) (.tuple ds) := by
  obtain ⟨a1, a2, a3, a4, a5⟩ := Sh.list h
  refine ⟨by simpa [PyData.showable] using a1, by simpa [PyData.hasDict] using a2, by simp only [PyData.depth]; omega, ?_⟩
  simp only [PyData.shown]
  have := tupleText_len_le (PyData.shownAll ds)
  rw [a5] at this
  have b := Nat.mul_le_mul_right l hk
  omega
theorem sh_non : Sh 0 50 .none := ⟨by simp [PyData.showable], by simp [PyData.hasDict], by simp [PyData.depth], by simp only [PyData.shown]; decide⟩
theorem rep_of {x : V} {d : PyData} {n l : Nat} {H : Hp} {Q : VK} (hd : Dp K H x d) (s : Sh n l d) (hn : n ≤ 60) (hl : l ≤ 2 ^ 24) (q : Q (.str d.shown) H) : rRepr K [x] H Q :=
  ⟨x, d, rfl, hd, s.s, s.h, Nat.le_trans s.n hn, Nat.le_trans s.l hl, q⟩
theorem dp_rows {H : Hp} : ∀ row : List Nat, DpAll K H (row.map fun (i : Nat) => V.int i) (row.map fun (i : Nat) => PyData.int i)
  | [] => .nil
  | i :: row => .cons (.int _) (dp_rows row)
theorem sh_row {row : List Nat} (h : ∀ i ∈ row, i < 10 ^ 20) (hl : row.length ≤ 2000) : Sh 1 (2000 * 50 + 2 * 2000 + 3) (.tuple (row.map fun (i : Nat) => PyData.int i)) := by
  refine Sh.tup (fun d hd => ?_) (by rw [List.length_map]; exact hl)
  obtain ⟨i, hi, rfl⟩ := List.mem_map.mp hd
  have := h i hi
  exact sh_int (by rw [Int.natAbs_natCast]; omega)
end
end Own
set_option Elab.async false
set_option linter.all false
set_option maxRecDepth 100000
set_option maxHeartbeats 4000000
namespace K05
open PySem PySem.Spec PyProof.Rows L2 Own
section
variable {P : Program} {w : World} {K : PySem.W.Frag} {mg : Str → Option Value} {base : Heap}

structure EndsAp (b : Str) (zs : List Str) : Prop where
  pre : ∀ z ∈ zs, b.cps.toList <+: z.cps.toList
  ap : ApartL (zs.map fun z => z.cps.toList)
theorem ends_nil (b : Str) : EndsAp b [] := ⟨fun z h => (nomatch h), List.Pairwise.nil⟩
theorem ends_one (b : Str) : EndsAp b [b] := ⟨fun z h => by rw [List.mem_singleton.mp h]; exact List.prefix_refl _, by unfold ApartL; simp⟩
theorem ends_cat {b : Str} {zs1 zs2 : List Str} (h1 : EndsAp (b ++ "0") zs1) (h2 : EndsAp (b ++ "1") zs2) : EndsAp b (zs1 ++ zs2) := by
  have p0 : ∀ z ∈ zs1, b.cps.toList ++ [48] <+: z.cps.toList := fun z hz => by
    have := h1.pre z hz
    rw [tl_app, show ("0" : Str).cps.toList = [48] from by decide +kernel] at this
    exact this
  have p1 : ∀ z ∈ zs2, b.cps.toList ++ [49] <+: z.cps.toList := fun z hz => by
    have := h2.pre z hz
    rw [tl_app, show ("1" : Str).cps.toList = [49] from by decide +kernel] at this
    exact this
  have no : ∀ t : List Nat, b.cps.toList ++ [48] <+: t → b.cps.toList ++ [49] <+: t → False := fun t a c => by
    have e1 := List.prefix_iff_eq_take.mp a
    have e2 := List.prefix_iff_eq_take.mp c
    rw [List.length_append] at e1 e2
    have e := e1.trans (show _ = b.cps.toList ++ [49] from e2.symm)
    have := List.append_cancel_left e
    cases this
  refine ⟨fun z hz => ?_, ?_⟩
  · rcases List.mem_append.mp hz with hz | hz
    · exact (List.prefix_append _ _).trans (p0 z hz)
    · exact (List.prefix_append _ _).trans (p1 z hz)
  · rw [List.map_append]
    unfold ApartL
    rw [List.pairwise_append]
    refine ⟨h1.ap, h2.ap, fun x hx y hy => ?_⟩
    obtain ⟨z, hz, rfl⟩ := List.mem_map.mp hx
    obtain ⟨u, hu, rfl⟩ := List.mem_map.mp hy
    exact ⟨fun q => no _ ((p0 z hz).trans q) (p1 u hu), fun q => no _ (p0 z hz) ((p1 u hu).trans q)⟩

/-! ### ends of a tree -/
def En : Nat → Nat
  | 0 => 1
  | n + 1 => 1 + 2 * En n
structure EndsOf (b : Str) (d : Nat) (zs : List Str) : Prop where
  few : zs.length ≤ 2 ^ d
  sg : ∀ z ∈ zs, Sg z
  lo : ∀ z ∈ zs, 1 ≤ z.length
  hi : ∀ z ∈ zs, z.length ≤ b.length + d
def spEnds (d : Nat) : Sp := fun vs H Q _ => ∃ (p q : Addr) (cs : List Int) (n : Nat) (b : Str), vs = [.ref p, .str b, .int (d : Nat)] ∧ (b = "" → 1 ≤ d) ∧ b.length + d ≤ 60 ∧ Sg b ∧ n + En d ≤ 50000 ∧ cs.length ≤ 1000 ∧ Sv p q cs n H ∧
  ∀ l zs H', H l = none → H' l = some (.lst (zs.map V.str)) → EndsOf b d zs → EndsAp b zs → But p H H' → Sv p q cs (n + En d) H' → Q (.ref l) H'
def spEPrev : Nat → Sp
  | 0 => fun _ _ _ _ => False
  | n + 1 => spEnds n
theorem free_of {p : Addr} {H H' : Hp} (b : But p H H') (hp : H' p ≠ none) {a : Addr} (h : H' a = none) : H a = none := by
  cases e : H a with
  | none => rfl
  | some o =>
    by_cases q : a = p
    · subst q
      exact absurd h hp
    · rw [b a o q e] at h
      cases h
theorem sv_is {p q : Addr} {cs : List Int} {n : Nat} {H : Hp} (s : Sv p q cs n H) : H p ≠ none := by
  obtain ⟨_, _, h, _⟩ := s
  rw [h]
  exact fun z => by cases z
theorem len0 {b : Str} (h : b.length = 0) : b = "" := by
  cases b with
  | mk a =>
    have : a = #[] := Array.size_eq_zero_iff.mp h
    subst this
    rfl
theorem str_ne {b c : Str} : (!decide (V.str b = V.str c)) = !decide (b = c) := by
  congr 1
  rw [decide_eq_decide]
  exact ⟨fun z => by injection z, fun z => by rw [z]⟩
theorem sg_add {b : Str} {c : Str} (h : Sg b) (hc : c = "0" ∨ c = "1") : Sg (b ++ c) ∧ (b ++ c).length = b.length + 1 := by
  have e : c.cps.toList = [48] ∨ c.cps.toList = [49] := by
    rcases hc with rfl | rfl
    · exact .inl (by decide +kernel)
    · exact .inr (by decide +kernel)
  have ap : (b ++ c).cps.toList = b.cps.toList ++ c.cps.toList := by
    rw [Str.cps_append, Array.toList_append]
  constructor
  · intro x hx
    rw [ap] at hx
    rcases List.mem_append.mp hx with hx | hx
    · exact h x hx
    · rcases e with e | e <;> rw [e] at hx <;> simp at hx
      · exact .inl hx
      · exact .inr hx
  · have l : ∀ z : Str, z.cps.toList.length = z.length := fun z => by simp [Str.length]
    rw [← l, ap, List.length_append, l, l]
    rcases hc with rfl | rfl <;> rfl
theorem dI {a b : Int} : decide (V.int a = V.int b) = decide (a = b) := by
  rw [decide_eq_decide]
  exact ⟨fun z => by injection z, fun z => by rw [z]⟩
theorem En_pos (n : Nat) : 1 ≤ En n := by
  cases n with
  | zero => decide
  | succ n => show 1 ≤ 1 + 2 * En n; omega
theorem En_le : ∀ n, n ≤ 4 → En n ≤ 50 := by decide
theorem ok_ends {f : Addr} {fd : FuncData} (F : Fun K "_law_ends" "_law_ends" s__law_ends f fd) (T : Txt mg) (n : Nat) (hn : n ≤ 4) (C__law_fell : Cal P w K mg base 1 "_law_fell" ["grove", "many"] spSift)
    (C__law_ends : Cal P w K mg base (2 + n) "_law_ends" ["grove", "begin", "deep"] (spEPrev n)) : FnOk P w K mg base CX0 (3 + n) f fd ["grove", "begin", "deep"] (spEnds n) := by
  rw [show 3 + n = (2 + n) + 1 by omega]
  refine F.ok sc__law_ends (fun vs H Q E h => ?_) (fun cdv A outer s H vs Q E hr h => ?_)
  · obtain ⟨p, q, cs, m, b, rfl, _⟩ := h
    rfl
  · obtain ⟨p, q, cs, m, b, rfl, hb, hl, hsg, hm, hc, sv, k⟩ := h
    refine ⟨_, (pss_cons (ps_set (i := 3) sc__law_ends.nd rfl (Or.inl rfl) (pe_cal C__law_fell (hr.mono (by omega)) (pa_cons (pv 0) (pa_cons pe_int pa_nil))))
  (pss_cons (ps_if (PW.pt (pw_and (pt_cmpR op_ne (pv 1) pe_str (nomark _)) (pw_and1 (PW.pt (pw_or (pt_cmpR op_eq (pv 2) pe_int (nomark _)) (pw_or1 (pt_cmpR op_eq (pv 3) pe_int (nomark _))))))))
  (pss_one (ps_ret (pe_lst (pa_cons (pv 1) pa_nil))))
  pss_nil)
  (pss_cons (ps_if (PW.pt (pw_and (pt_cmpR op_ne (pv 1) pe_str (nomark _)) (pw_and1 (pt_cmpR op_eq (pv 3) pe_int (nomark _)))))
  (pss_one (ps_ret (pe_lst pa_nil)))
  pss_nil)
  (pss_one (ps_ret (pe_op op_cat (pe_cal C__law_ends hr (pa_cons (pv 0) (pa_cons (pe_op op_add_str (pv 1) pe_str) (pa_cons (pe_op op_sub (pv 2) pe_int) pa_nil)))) (pe_cal C__law_ends hr (pa_cons (pv 0) (pa_cons (pe_op op_add_str (pv 1) pe_str) (pa_cons (pe_op op_sub (pv 2) pe_int) pa_nil)))))))))), ?_⟩
    refine seq_set ?_
    refine ⟨_, rfl, p, q, cs, m, 5, rfl, by decide, by decide, by omega, hc, sv, fun r H1 r0 r1 b1 sv1 => ?_⟩
    have e50 := En_le n hn
    have rec_ : 1 ≤ n → ∀ (σ : L2.St) (D : Ends), σ[0]? = some (some (.ref p)) → σ[1]? = some (some (.str b)) → σ[2]? = some (some (.int (n : Nat))) → D.rt = Q →
        tRet (tOp rCat (tCall (spEPrev n) [] E0 (tCons (tVar 0) (tCons (tOp (fun x y H Q => ∃ i j, x = V.str i ∧ y = V.str j ∧ i.length + j.length ≤ sizeLine ∧ Q (V.str (i ++ j)) H) (tVar 1) (tC (V.str "0"))) (tCons (tOp (rI0 fun i j => V.int (i - j)) (tVar 2) (tC (V.int 1))) tNil))))
          (tCall (spEPrev n) [] E0 (tCons (tVar 0) (tCons (tOp (fun x y H Q => ∃ i j, x = V.str i ∧ y = V.str j ∧ i.length + j.length ≤ sizeLine ∧ Q (V.str (i ++ j)) H) (tVar 1) (tC (V.str "1"))) (tCons (tOp (rI0 fun i j => V.int (i - j)) (tVar 2) (tC (V.int 1))) tNil))))) D σ H1 := by
      intro h1 σ D e0 e1 e2 rt
      obtain ⟨n', rfl⟩ : ∃ n', n = n' + 1 := ⟨n - 1, by omega⟩
      have en : En (n' + 1) = 1 + 2 * En n' := rfl
      rw [en] at hm
      have vs_ : ∀ c : Str, [V.ref p, V.str (b ++ c), V.int (((n' + 1 : Nat) : Int) - 1)] = [V.ref p, V.str (b ++ c), V.int (n' : Nat)] := fun c => by rw [show ((n' + 1 : Nat) : Int) - 1 = (n' : Nat) by omega]
      obtain ⟨sg0, len0_⟩ := sg_add hsg (c := "0") (.inl rfl)
      obtain ⟨sg1, len1_⟩ := sg_add hsg (c := "1") (.inr rfl)
      have big : ∀ c : Str, b.length + (1 : Nat) ≤ sizeLine := fun _ => Nat.le_trans (m := 61) (by omega) (by decide)
      refine ⟨_, e0, _, e1, b, "0", rfl, rfl, big "0", _, e2, _, _, rfl, rfl, ?_⟩
      refine ⟨p, q, cs, m + 1, b ++ "0", vs_ "0", fun z => (by rw [z] at len0_; cases len0_), by rw [len0_]; omega, sg0, by omega, hc, sv1, fun l1 zs1 H2 f1 a1 E1 P1 b2 sv2 => ?_⟩
      refine ⟨_, e0, _, e1, b, "1", rfl, rfl, big "1", _, e2, _, _, rfl, rfl, ?_⟩
      refine ⟨p, q, cs, m + 1 + En n', b ++ "1", vs_ "1", fun z => (by rw [z] at len1_; cases len1_), by rw [len1_]; omega, sg1, by omega, hc, sv2, fun l2 zs2 H3 f2 a2 E2 P2 b3 sv3 => ?_⟩
      have l1p : l1 ≠ p := fun z => sv_is sv1 (by rw [← z]; exact f1)
      have p4 : 2 ^ n' ≤ 2 ^ 4 := Nat.pow_le_pow_right (by decide) (by omega)
      refine ⟨l1, l2, _, _, rfl, rfl, b3 _ _ l1p a1, a2, Nat.le_trans (m := 32) (by rw [List.length_map, List.length_map]; have := E1.few; have := E2.few; omega) (by decide), fun l hl => ?_⟩
      rw [rt]
      refine k l (zs1 ++ zs2) _ (free_of ((b1.trans b2).trans b3) (sv_is sv3) hl) (by rw [upd_same, List.map_append]) ?_ (ends_cat P1 P2) (((b1.trans b2).trans b3).new hl) ((sv3.same (same_new hl)).mono (by rw [en]; omega))
      refine ⟨by rw [List.length_append, Nat.pow_succ]; have := E1.few; have := E2.few; omega, fun z hz => ?_, fun z hz => ?_, fun z hz => ?_⟩
      · rcases List.mem_append.mp hz with hz | hz
        · exact E1.sg z hz
        · exact E2.sg z hz
      · rcases List.mem_append.mp hz with hz | hz
        · exact E1.lo z hz
        · exact E2.lo z hz
      · rcases List.mem_append.mp hz with hz | hz
        · have := E1.hi z hz
          rw [len0_] at this
          omega
        · have := E2.hi z hz
          rw [len1_] at this
          omega
    have one : b ≠ "" → ∀ (σ : L2.St) (D : Ends), σ[1]? = some (some (.str b)) → D.rt = Q → tRet (tLst (tCons (tVar 1) tNil)) D σ H1 := by
      intro nb σ D e1 rt
      refine ⟨_, e1, by show 1 ≤ sizeLine; decide, fun l hl' => ?_⟩
      rw [rt]
      refine k l [b] _ (free_of b1 (sv_is sv1) hl') upd_same ⟨Nat.one_le_two_pow, fun z hz => ?_, fun z hz => ?_, fun z hz => ?_⟩ (ends_one b) (b1.new hl') ((sv1.same (same_new hl')).mono (by have := En_pos n; omega))
      all_goals
        rcases List.mem_cons.mp hz with rfl | hz
        · first
          | exact hsg
          | omega
          | (by_cases q0 : z.length = 0
             · exact absurd (len0 q0) nb
             · omega)
        · cases hz
    have no_ : ∀ (σ : L2.St) (D : Ends), D.rt = Q → tRet (tLst tNil) D σ H1 := by
      intro σ D rt
      refine ⟨by show 0 ≤ sizeLine; decide, fun l hl' => ?_⟩
      rw [rt]
      exact k l [] _ (free_of b1 (sv_is sv1) hl') upd_same ⟨Nat.zero_le _, fun z hz => (nomatch hz), fun z hz => (nomatch hz), fun z hz => (nomatch hz)⟩ (ends_nil b) (b1.new hl') ((sv1.same (same_new hl')).mono (by have := En_pos n; omega))
    dsimp only
    by_cases nb : b = ""
    · have eb : (!decide (V.str b = V.str "")) = false := by rw [str_ne, decide_eq_true nb]; rfl
      refine ⟨_, rfl, rfl, _, rfl, ?_⟩
      rw [eb]
      refine iteF (iteF ?_)
      refine ⟨_, rfl, rfl, _, rfl, ?_⟩
      rw [eb]
      refine iteF (iteF ?_)
      exact rec_ (hb nb) _ _ rfl rfl rfl rfl
    · have eb : (!decide (V.str b = V.str "")) = true := by rw [str_ne, decide_eq_false nb]; rfl
      refine ⟨_, rfl, rfl, _, rfl, ?_⟩
      rw [eb]
      refine iteT ⟨_, rfl, rfl, _, rfl, ?_⟩
      rw [dI]
      by_cases hd0 : ((n : Nat) : Int) = 0
      · rw [decide_eq_true hd0]
        exact iteT (iteT (one nb _ _ rfl rfl))
      · rw [decide_eq_false hd0]
        refine iteF ⟨_, rfl, rfl, _, rfl, ?_⟩
        rw [dI]
        by_cases hr0 : r = 0
        · rw [decide_eq_true hr0]
          exact iteT (one nb _ _ rfl rfl)
        · rw [decide_eq_false hr0]
          refine iteF ⟨_, rfl, rfl, _, rfl, ?_⟩
          rw [eb]
          refine iteT ⟨_, rfl, rfl, _, rfl, ?_⟩
          rw [dI]
          by_cases hr1 : r = 1
          · rw [decide_eq_true hr1]
            exact iteT (no_ _ _ rfl)
          · rw [decide_eq_false hr1]
            exact iteF (rec_ (by omega) _ _ rfl rfl rfl rfl)
theorem fnOk_any {CX : CXT} {f : Addr} {fd : FuncData} {ps : List Str} (h : ∀ d, d ≤ 4 → FnOk P w K mg base CX (3 + d) f fd ps (spEnds d)) : FnOk P w K mg base CX 7 f fd ps (fun vs H Q E => ∃ d, d ≤ 4 ∧ spEnds d vs H Q E) := by
  refine ⟨fun vs H Q E z => ?_, fun A outer s H args us vs Q E room e0 b r z => ?_⟩
  · obtain ⟨d, hd, z⟩ := z
    exact (h d hd).len vs H Q E z
  · obtain ⟨d, hd, z⟩ := z
    exact (h d hd).run A outer s H args us vs Q E (room.mono (by omega)) e0 b r z
def spAnyEnds : Sp := fun vs H Q E => ∃ d, d ≤ 4 ∧ spEnds d vs H Q E
structure Good (zs : List Str) : Prop where
  sg : ∀ z ∈ zs, Sg z
  lo : ∀ z ∈ zs, 1 ≤ z.length
  hi : ∀ z ∈ zs, z.length ≤ 60
theorem dpAll_tx {H : Hp} : ∀ zs : List Str, DpAll K H (zs.map V.str) (zs.map PyData.str)
  | [] => .nil
  | z :: zs => .cons (.str z) (dpAll_tx zs)
theorem sg_ok {z : Str} (h : Sg z) : PyData.strOk z = true := by
  unfold PyData.strOk
  rw [← Array.all_toList, List.all_eq_true]
  intro c hc
  rcases h c hc with rfl | rfl <;> decide
theorem canLay_tx : ∀ zs : List Str, (∀ z ∈ zs, Sg z) → PyData.canLayAll0 (zs.map PyData.str) = true
  | [], _ => by simp [PyData.canLayAll0]
  | z :: zs, h => by
    have := canLay_tx zs fun y hy => h y (List.mem_cons_of_mem _ hy)
    simp [PyData.canLayAll0, PyData.canLay0, this, sg_ok (h z List.mem_cons_self)]
theorem depth_tx : ∀ zs : List Str, PyData.depthAll (zs.map PyData.str) = 0
  | [] => by simp [PyData.depthAll]
  | z :: zs => by
    have := depth_tx zs
    simp [PyData.depthAll, PyData.depth, this]
theorem shaped_tx {zs : List Str} (h : ∀ z ∈ zs, Sg z) : SeqAt.shaped (.list (zs.map PyData.str)) = true := by
  unfold SeqAt.shaped
  simp [PyData.canLay0, PyData.depth, canLay_tx zs h, depth_tx]
theorem ne_nil {H : Hp} {a b : Addr} {zs : List Str} {Q : VK} (hg : ∀ z ∈ zs, Sg z) (ha : H a = some (.lst (zs.map V.str))) (hb : H b = some (.lst [])) (q : Q (.bl (!zs.isEmpty)) H) : rNeD K (.ref a) (.ref b) H Q := by
  refine ⟨_, .list [], .lst (SqL.of ha) (dpAll_tx zs), .lst (SqL.of hb) .nil, shaped_tx hg, by decide, ?_⟩
  have e : PyData.eqv (.list (zs.map PyData.str)) (.list []) = zs.isEmpty := by
    cases zs with
    | nil => rfl
    | cons z zs => rfl
  rw [e]
  exact q
theorem map_er {α β : Type} (f : α → β) : ∀ (l : List α) (i : Nat), (l.eraseIdx i).map f = (l.map f).eraseIdx i
  | [], _ => by simp
  | _ :: _, 0 => by simp
  | x :: l, i + 1 => by
    rw [List.eraseIdx_cons_succ, List.map_cons, List.map_cons, List.eraseIdx_cons_succ, map_er f l i]
theorem sg_nil : Sg "" := fun c hc => by
  have h : c ∈ ([] : List Nat) := hc
  cases h
theorem vsE (p : Addr) (s : Str) (r : Int) (h : 0 ≤ r) : [V.ref p, V.str s, V.int (1 + r)] = [V.ref p, V.str s, V.int ((1 + r.toNat : Nat) : Int)] := by
  rw [show (1 + r : Int) = ((1 + r.toNat : Nat) : Int) by omega]
theorem sg_app {a b : Str} (ha : Sg a) (hb : Sg b) : Sg (a ++ b) := by
  intro c hc
  rw [Str.cps_append, Array.toList_append] at hc
  rcases List.mem_append.mp hc with h | h
  · exact ha c h
  · exact hb c h
theorem ix_of {n : Nat} {i : Int} (h0 : 0 ≤ i) (h1 : i < n) : seqIndex? i n = some i.toNat := by
  refine (ixN_seq ?_).1
  unfold ixN
  rw [if_pos h0, if_pos h1]
end
end K05
set_option Elab.async false
set_option linter.all false
set_option maxRecDepth 100000
set_option maxHeartbeats 4000000
namespace K05
open PySem PySem.Spec PyProof.Rows L2 Own
theorem nx_in {D : Ends} {σ : L2.St} {H : Hp} (h : D.nx σ H) : tNext D σ H := h
def ApL (zs : List Str) : Prop := ApartL (zs.map fun z => z.cps.toList)
theorem ApL.perm {zs ys : List Str} (h : ApL zs) (p : zs.Perm ys) : ApL ys := (ApartL.perm (p.map _)).mp h
theorem move_perm {zs fs : List Str} {i : Nat} (hi : i < zs.length) : (zs ++ fs).Perm (zs.eraseIdx i ++ (fs ++ [zs[i]])) := by
  have p1 : zs.Perm (zs[i] :: zs.eraseIdx i) := erase_perm zs i hi
  refine (p1.append_right fs).trans ?_
  rw [← List.append_assoc]
  exact (List.perm_append_singleton _ _).symm
theorem ap_stem {st : Str} {zs : List Str} (h : ApL zs) : ApL (zs.map (st ++ ·)) := by
  unfold ApL ApartL at h ⊢
  rw [List.map_map, List.pairwise_map]
  refine (List.pairwise_map.mp h).imp fun {a b} q => ?_
  show ¬ (st ++ a).cps.toList <+: (st ++ b).cps.toList ∧ ¬ (st ++ b).cps.toList <+: (st ++ a).cps.toList
  rw [tl_app, tl_app, List.prefix_append_right_inj, List.prefix_append_right_inj]
  exact q
/-- names behind a common beginning -/
structure Bst (st : Str) (zs : List Str) : Prop where
  beg : ∀ z ∈ zs, st.cps.toList <+: z.cps.toList
  far : ∀ z ∈ zs, z.length ≤ st.length + 4
  lo : ∀ z ∈ zs, 1 ≤ z.length
  sg : ∀ z ∈ zs, Sg z
  ap : ApL zs
theorem Bst.perm {st : Str} {zs ys : List Str} (h : Bst st zs) (p : zs.Perm ys) : Bst st ys :=
  ⟨fun z hz => h.beg z (p.mem_iff.mpr hz), fun z hz => h.far z (p.mem_iff.mpr hz), fun z hz => h.lo z (p.mem_iff.mpr hz), fun z hz => h.sg z (p.mem_iff.mpr hz), h.ap.perm p⟩
def spNames : Sp := fun vs H Q _ => ∃ (p q : Addr) (cs : List Int) (n : Nat), vs = [.ref p] ∧ n ≤ 40000 ∧ cs.length ≤ 1000 ∧ Sv p q cs n H ∧
  ∀ l zs st H', H l = none → H' l = some (.lst (zs.map V.str)) → zs.length ≤ 16 → Bst st zs → st.length ≤ 56 → Sg st → But p H H' → Sv p q cs (n + 300) H' → Q (.ref l) H'
def Wn (p q : Addr) (cs : List Int) (n : Nat) (fo : Addr) (st : Str) (H : Hp) : Nat → L2.St → Hp → Prop := fun m σ' H' => ∃ (l : Addr) (zs fs : List Str) (o4 o5 : Option V), m = zs.length ∧ σ' = [some (.ref p), some (.str st), some (.ref l), some (.ref fo), o4, o5] ∧ But p H H' ∧ Sv p q cs (n + 200 + fs.length) H' ∧
  H l = none ∧ H' l = some (.lst (zs.map V.str)) ∧ l ≠ fo ∧ zs.length + fs.length ≤ 16 ∧ Bst st (zs ++ fs) ∧ H' fo = some (.lst (fs.map V.str))
theorem vsE1 (p : Addr) (s : Str) (r : Int) (h : 0 ≤ r) : [V.ref p, V.str s, V.int (1 + r)] = [V.ref p, V.str s, V.int ((1 + r.toNat : Nat) : Int)] := by
  rw [show (1 + r : Int) = ((1 + r.toNat : Nat) : Int) by omega]
/-! ### the law's own free names -/
def stv (L : List (List Nat)) : List V := L.map fun t => V.str (SX.S t)
def spLF (d : Nat) : Sp := fun vs H Q _ => ∃ (a : Addr) (zs : List Str) (b : Str), vs = [.ref a, .str b] ∧ H a = some (.lst (zs.map V.str)) ∧ Nms (cod zs) ∧ zs.length ≤ 200 ∧ b.length ≤ 60 ∧ 61 ≤ b.length + (d + 1) ∧ d ≤ 60 ∧ (freeF (cod zs) (d + 1) b.cps.toList).length ≤ 1000 ∧ ∀ l H', Same H H' → H' l = some (.lst (stv (freeF (cod zs) (d + 1) b.cps.toList))) → Q (.ref l) H'
def spLP : Nat → Sp
  | 0 => fun _ _ _ _ => False
  | d + 1 => spLF d
theorem inV_strs {b : Str} : ∀ zs : List Str, inV (.str b) (zs.map V.str) = decide (b.cps.toList ∈ cod zs)
  | [] => rfl
  | z :: zs => by
    have ih := inV_strs (b := b) zs
    unfold inV at ih ⊢
    rw [List.map_cons, List.any_cons, ih]
    have e : eqV (.str z) (.str b) = decide (b.cps.toList = z.cps.toList) := by
      show (z == b) = _
      cases h : decide (b.cps.toList = z.cps.toList) with
      | true =>
        rw [str_ext (of_decide_eq_true h)]
        exact beq_self_eq_true _
      | false =>
        have := of_decide_eq_false h
        cases hb : z == b with
        | false => rfl
        | true => exact absurd (by rw [eq_of_beq hb]) this
    rw [e]
    show (decide (b.cps.toList = z.cps.toList) || decide (b.cps.toList ∈ cod zs)) = decide (b.cps.toList ∈ z.cps.toList :: cod zs)
    rw [Bool.eq_iff_iff]
    simp only [Bool.or_eq_true, decide_eq_true_eq, List.mem_cons]
theorem pre_cut2 {b z : Str} (hb : b.length ≤ 60) : decide (V.str (cutS z none (some ((b.length : Nat) : Int))) = V.str b) = decide (b.cps.toList <+: z.cps.toList) := by
  rw [decide_eq_decide]
  have a2 : HT.sIx z.length z.length (some ((b.length : Nat) : Int)) = min b.length z.length := by
    show (if ((b.length : Nat) : Int) < 0 then (((b.length : Nat) : Int) + (z.length : Int)).toNat else min (b.length : Int).toNat z.length) = _
    rw [if_neg (by omega), Int.toNat_natCast]
  have e : (cutS z none (some ((b.length : Nat) : Int))).cps.toList = z.cps.toList.take b.length := by
    have : cutS z none (some ((b.length : Nat) : Int)) = SX.S ((z.cps.toList.drop 0).take (min b.length z.length - 0)) := by
      unfold cutS
      rw [a2]
      rfl
    rw [this, S_tl2, List.drop_zero, Nat.sub_zero]
    by_cases h : b.length ≤ z.length
    · rw [Nat.min_eq_left h]
    · rw [Nat.min_eq_right (by omega), List.take_of_length_le (by rw [tl_len]; exact Nat.le_refl _), List.take_of_length_le (by rw [tl_len]; omega)]
  rw [List.prefix_iff_eq_take, tl_len]
  constructor
  · intro h
    injection h with h
    rw [← e, h]
  · intro h
    rw [str_ext (e.trans h.symm)]
section
variable {P : Program} {w : World} {K : PySem.W.Frag} {mg : Str → Option Value} {base : Heap}
theorem ok_names {f : Addr} {fd : FuncData} (F : Fun K "_law_names" "_law_names" s__law_names f fd) (T : Txt mg) (C__law_fell : Cal P w K mg base 1 "_law_fell" ["grove", "many"] spSift) (C__law_stem : Cal P w K mg base 2 "_law_stem" ["grove", "some"] spOne)
    (C__law_ends : Cal P w K mg base 7 "_law_ends" ["grove", "begin", "deep"] spAnyEnds) : FnOk P w K mg base CX0 8 f fd ["grove"] spNames := by
  refine F.ok sc__law_names (fun vs H Q E h => ?_) (fun cdv A outer s H vs Q E hr h => ?_)
  · obtain ⟨p, q, cs, n, rfl, _⟩ := h
    rfl
  · obtain ⟨p, q, cs, n, rfl, hn, hc, sv, k⟩ := h
    refine ⟨_, (pss_cons (ps_set (i := 1) sc__law_names.nd rfl (Or.inr rfl) (pe_bm PySem.F.plainAttrs_str PySem.F.slot_str_join PySem.F.type_str_join mt_join pe_str (pa_cons (pe_lc (own := [("turn", 4)]) (g := gName 4) (tt := tYes) rfl sc__law_names.nd (pi_range1 rfl T.b_range (pa_cons (pe_cal C__law_stem (hr.mono (by decide)) (pa_cons (pv 0) (pa_cons (pe_lst (pa_cons pe_int (pa_cons pe_int (pa_cons pe_int (pa_cons pe_int (pa_cons pe_int (pa_cons pe_int pa_nil))))))) pa_nil))) pa_nil)) (blkOk_by (own := [("turn", 4)]) (N := N__law_names) (sc := defScope s__law_names) (by decide +kernel)) (fun _ _ _ _ _ => (pg_name (i := 4) sc__law_names.nd rfl (Or.inl rfl))) (fun _ _ _ _ _ => pts_nil) (fun _ _ _ _ _ => (pe_cal C__law_stem (hr.mono (by decide)) (pa_cons (pv 0) (pa_cons (pe_lst (pa_cons pe_str (pa_cons pe_str pa_nil))) pa_nil))))) pa_nil)))
  (pss_cons (ps_par (i := 2) (j := 3) rfl sc__law_names.nd rfl rfl (by decide) rfl rfl (pa_cons (pe_lc (own := [("each", 5)]) (g := gName 5) (tt := tYes) rfl sc__law_names.nd (pi_list (pe_cal C__law_ends (hr.mono (by decide)) (pa_cons (pv 0) (pa_cons pe_str (pa_cons (pe_op op_add pe_int (pe_cal C__law_fell (hr.mono (by decide)) (pa_cons (pv 0) (pa_cons pe_int pa_nil)))) pa_nil))))) (blkOk_by (own := [("each", 5)]) (N := N__law_names) (sc := defScope s__law_names) (by decide +kernel)) (fun _ _ _ _ _ => (pg_name (i := 5) sc__law_names.nd rfl (Or.inl rfl))) (fun _ _ _ _ _ => pts_nil) (fun _ _ _ _ _ => (pe_op op_add_str (pv 1) (pv 5)))) (pa_cons (pe_lst pa_nil) pa_nil)) rfl)
  (pss_cons (ps_while PassesOwn.never (pt_cmpR (op_neD (hu64 hr)) (pv 2) (pe_lst pa_nil) (nomark _))
  (pss_one (ps_expr (pe_bm PySem.F.plainAttrs_list PySem.F.slot_list_append PySem.F.type_list_append mt_append (pv 3) (pa_cons (pe_bm PySem.F.plainAttrs_list PySem.F.slot_list_pop PySem.F.type_list_pop mt_popAt (pv 2) (pa_cons (pe_cal C__law_fell (hr.mono (by decide)) (pa_cons (pv 0) (pa_cons (pe_callB call_len_seq (by rfl) T.b_len boot_len (pa_cons (pv 2) pa_nil)) pa_nil))) pa_nil)) pa_nil)))))
  (pss_one (ps_ret (pv 3)))))), ?_⟩
    have z0 : ("" : Str).length = 0 := by decide +kernel
    refine ⟨rfl, ?_⟩
    refine ⟨_, rfl, by show 6 ≤ sizeLine; decide, fun lc hlc => ?_⟩
    have sc := same_new (o := HO.lst [V.int 0, V.int 0, V.int 0, V.int 2, V.int 7, V.int 56]) hlc
    refine ⟨p, q, cs, _, lc, _, rfl, upd_same, sv_ne sv hlc, by show 0 < 6; decide, by show 6 ≤ 1000; decide, by omega, by omega, sv.same sc, fun v H2 hv b2 s2 => ?_⟩
    obtain ⟨N, rfl, N2⟩ : ∃ N : Nat, v = .int (N : Int) ∧ N ≤ 56 := by
      simp only [List.mem_cons, List.not_mem_nil, or_false] at hv
      rcases hv with rfl | rfl | rfl | rfl | rfl | rfl
      · exact ⟨0, rfl, by decide⟩
      · exact ⟨0, rfl, by decide⟩
      · exact ⟨0, rfl, by decide⟩
      · exact ⟨2, rfl, by decide⟩
      · exact ⟨7, rfl, by decide⟩
      · exact ⟨56, rfl, by decide⟩
    have bH : But p H H2 := (Same.but sc).trans b2
    clear hv b2 sc hlc
    refine ⟨(N : Int), rfl, by omega, by omega, fun D hD => ?_⟩
    have hDp : D ≠ p := sv_ne s2 hD
    rw [show ((N : Nat) : Int).toNat = N from rfl]
    have stb : Stb p (fun (_ : Hp) v => v = .str "0" ∨ v = .str "1") := fun _ _ _ _ h => h
    refine lc_range (lo := 0) (n := N) (fun i H' => But p H H' ∧ Sv p q cs (n + 1 + i) H' ∧ ∃ ys : List Str, H' D = some (.lst (ys.map V.str)) ∧ ys.length = i ∧ ∀ y ∈ ys, y = "0" ∨ y = "1")
      ⟨bH.new hD, s2.same (same_new hD), [], upd_same, rfl, fun y hy => by cases hy⟩ (fun i H' hi ⟨b, s', ys, hl, hy, h01⟩ => ?_) (fun H' ⟨b, s', ys, hl, hy, h01⟩ => ?_)
    · refine ⟨rfl, yes_if ?_⟩
      refine dr_one (p := p) (q := q) (cs := cs) (j := 0) (k := 2) (n := n + 1 + i) (m := n + 1 + i) (H := H') (R := fun _ v => v = .str "0" ∨ v = .str "1") rfl
        (dr_lstR (DrA.cons stb (dr_c fun _ _ => .inl rfl) (DrA.cons stb (dr_c fun _ _ => .inr rfl) DrA.nil)) stb (by decide)) stb (by decide) (by decide) (by omega) hc H' (But.refl _ _) s' _ fun v H9 b9 s9 hv => ?_
      obtain ⟨y, rfl, h1⟩ : ∃ y : Str, v = .str y ∧ (y = "0" ∨ y = "1") := by
        rcases hv with rfl | rfl
        · exact ⟨_, rfl, .inl rfl⟩
        · exact ⟨_, rfl, .inr rfl⟩
      have hl2 := b9 _ _ hDp hl
      refine ⟨_, hl2, Nat.lt_of_lt_of_le (m := 60) (by rw [List.length_map]; omega) (by decide), (b.trans b9).mut (free_of bH (sv_is s2) hD), s9.but_upd hDp hD s2, ys ++ [y], ?_, by rw [List.length_append, hy]; rfl, fun z hz => ?_⟩
      · rw [upd_same, List.map_append]
        rfl
      · rcases List.mem_append.mp hz with hz | hz
        · exact h01 z hz
        · rcases List.mem_cons.mp hz with rfl | hz
          · exact h1
          · cases hz
    · obtain ⟨j1, j2⟩ := join_signs h01
      have all1 : ∀ ys : List Str, (∀ y ∈ ys, y = "0" ∨ y = "1") → (ys.map (·.length)).sum = ys.length := by
        intro ys
        induction ys with
        | nil => intro _; rfl
        | cons y ys ih =>
          intro h
          have e : y.length = 1 := by rcases h y List.mem_cons_self with rfl | rfl <;> decide +kernel
          rw [List.map_cons, List.sum_cons, e, ih fun z hz => h z (List.mem_cons_of_mem _ hz), List.length_cons, Nat.add_comm]
      refine ⟨"", D, ys, rfl, rfl, .inl (SqL.of hl), ?_, ?_⟩
      · rw [all1 ys h01, z0]
        omega
      generalize hst : Txt.join "" ys = st at j1 j2
      have stl : st.length ≤ 56 := by omega
      clear hst h01 hl all1 hD hDp bH s2
      dsimp only [gName]
      refine ⟨_, rfl, _, rfl, p, q, cs, _, 4, rfl, by decide, by decide, by omega, hc, s', fun r2 H3 r20 r21 b3 s3 => ⟨_, _, rfl, rfl, ?_⟩⟩
      have d4 : 1 + r2.toNat ≤ 4 := by omega
      have e50 := En_le (1 + r2.toNat) d4
      refine ⟨1 + r2.toNat, d4, p, q, cs, _, "", vsE1 p "" r2 r20, fun _ => by omega, by rw [z0]; omega, sg_nil, by omega, hc, s3, fun l zs H4 f4 a4 E4 P4 b4 s4 => ?_⟩
      have p4 : 2 ^ (1 + r2.toNat) ≤ 2 ^ 4 := Nat.pow_le_pow_right (by decide) d4
      have few : zs.length ≤ 16 := Nat.le_trans E4.few p4
      have zhi : ∀ z ∈ zs, z.length ≤ 4 := fun z hz => by have := E4.hi z hz; omega
      have bb := (b.trans b3).trans b4
      refine ⟨l, rfl, ⟨_, SqL.of a4⟩, fun D2 hD2 => ?_⟩
      refine lc_map (f := fun v => match v with | .str z => .str (st ++ z) | v => v) (walk_list (K := K) (xs := zs.map V.str)) hD2 (fun H' s => SqL.of (s _ _ a4)) (by rw [List.length_map]; exact Nat.le_trans few (by decide)) (fun _ => rfl) (fun i x H' R hx s r => ?_) (fun H' s hl => ?_)
      · rw [List.getElem?_map] at hx
        obtain ⟨z, hzz, rfl⟩ := Option.map_eq_some_iff.mp hx
        have := zhi z (List.mem_of_getElem? hzz)
        exact ⟨_, rfl, _, rfl, st, z, rfl, rfl, Nat.le_trans (m := 100) (by omega) (by decide), r H' (Same.refl _)⟩
      · have hl2 : H' D2 = some (.lst ((zs.map (st ++ ·)).map V.str)) := by rw [hl, List.map_map, List.map_map]; rfl
        have s5 := s4.same s
        have b5 := bb.trans (Same.but s)
        have l5 : H D2 = none := free_of bb (sv_is s4) hD2
        have bst : Bst st (zs.map (st ++ ·)) := by
          refine ⟨fun y hm => ?_, fun y hm => ?_, fun y hm => ?_, fun y hm => ?_, ap_stem P4.ap⟩ <;> obtain ⟨z, hm2, rfl⟩ := List.mem_map.mp hm
          · rw [tl_app]; exact List.prefix_append _ _
          · have := zhi z hm2
            rw [Str.length_append]
            omega
          · have := E4.lo z hm2
            rw [Str.length_append]
            omega
          · exact sg_app j2 (E4.sg z hm2)
        have few2 : (zs.map (st ++ ·)).length ≤ 16 := by rw [List.length_map]; exact few
        generalize zs.map (st ++ ·) = zs2 at hl2 bst few2
        clear E4 P4 a4 hl s
        refine ⟨by show 0 ≤ sizeLine; decide, fun fo hfo => ?_⟩
        refine ⟨_, _, rfl, ?_⟩
        have foP : fo ≠ p := sv_ne s5 hfo
        have foH : H fo = none := free_of b5 (sv_is s5) hfo
        have lfo : D2 ≠ fo := ne_of_none hl2 hfo
        have s6 := s5.same (same_new (o := HO.lst []) hfo)
        have b6 : But p H (upd H' fo (.lst [])) := b5.new hfo
        have a6 : upd H' fo (.lst []) D2 = some (.lst (zs2.map V.str)) := (upd_ne lfo).trans hl2
        have f6 : upd H' fo (.lst []) fo = some (.lst []) := upd_same
        generalize upd H' fo (HO.lst []) = H6 at s6 b6 a6 f6 ⊢
        dsimp only
        refine ⟨Wn p q cs n fo st H, ⟨_, D2, zs2, [], _, _, rfl, rfl, b6, s6.mono (by simp; omega), l5, a6, lfo, by simp; omega, by rw [List.append_nil]; exact bst, f6⟩, ?_⟩
        rintro m σ' H2 ⟨l, zs, fs, o4, o5, rfl, rfl, b2, s2, l2, a2, lfo, few, bst, f2⟩
        have lP : l ≠ p := fun z => by
          rw [z] at l2
          obtain ⟨_, _, h, _⟩ := sv
          rw [h] at l2
          cases l2
        refine ⟨_, rfl, by show 0 ≤ sizeLine; decide, fun lz hlz => ?_⟩
        have sz := same_new (o := HO.lst []) hlz
        refine ne_nil (fun z hz => bst.sg z (List.mem_append_left _ hz)) (sz _ _ a2) upd_same ⟨_, rfl, ?_⟩
        have b3 := b2.new (o := HO.lst []) hlz
        have s3 := s2.same sz
        have a3 := sz _ _ a2
        have f3 := sz _ _ f2
        generalize upd H2 lz (HO.lst []) = H3 at sz b3 s3 a3 f3 ⊢
        cases zs with
        | nil => exact iteF ⟨_, rfl, k fo fs st H3 foH f3 (by simpa using few) (by simpa using bst) stl j2 b3 (s3.mono (by simp at few; omega))⟩
        | cons z0 zr =>
          refine iteT ⟨fun σ2 H4 => ∃ m', m' < (z0 :: zr).length ∧ Wn p q cs n fo st H m' σ2 H4, fun _ _ h => h, ?_⟩
          refine ⟨_, rfl, .inl ⟨rfl, _, SqL.of f3⟩, _, rfl, .inl ⟨rfl, _, SqL.of a3⟩, ?_⟩
          have lenI : (((z0 :: zr).map V.str).length : Int) ≤ 40 := by rw [List.length_map]; omega
          refine ⟨_, rfl, _, rfl, l, _, rfl, .inl (SqL.of a3), p, q, cs, _, _, rfl, by rw [List.length_map, List.length_cons]; omega, by omega, by omega, hc, s3, fun i H4 i0 i1 b4 s4 => ?_⟩
          have il : i.toNat < (z0 :: zr).length := by rw [List.length_map] at i1; omega
          have a4 := b4 _ _ lP a3
          have f4 := b4 _ _ foP f3
          refine ⟨l, (z0 :: zr).map V.str, i, i.toNat, .str ((z0 :: zr)[i.toNat]), rfl, rfl, a4, by omega, by omega, ix_of i0 i1, by rw [List.getElem?_map, List.getElem?_eq_getElem il]; rfl, ?_⟩
          refine ⟨fo, fs.map V.str, _, rfl, rfl, Eq.trans (upd_ne lfo.symm) f4, Nat.lt_of_lt_of_le (m := 41) (by rw [List.length_map]; omega) (by decide), ?_⟩
          have le := List.length_eraseIdx_of_lt il
          refine ⟨zr.length, by simp, l, (z0 :: zr).eraseIdx i.toNat, fs ++ [(z0 :: zr)[i.toNat]], o4, o5, by rw [le]; rfl, rfl, ((b3.trans b4).mut l2).mut foH, ((s4.but_upd lP l2 sv).but_upd foP foH sv).mono (by rw [List.length_append]; show n + 200 + fs.length + 1 ≤ n + 200 + (fs.length + 1); omega), l2, ?_, lfo, by rw [le, List.length_append]; simp at few ⊢; omega, bst.perm (move_perm il), by rw [upd_same, List.map_append]; rfl⟩
          rw [upd_ne lfo, upd_same, map_er]
theorem ok_lfree {f : Addr} {fd : FuncData} (F : Fun K "_law_free" "_law_free" s__law_free f fd) (T : Txt mg) (d : Nat) (C__law_free : Cal P w K mg base (2 + d) "_law_free" ["names", "begin"] (spLP d)) : FnOk P w K mg base CX0 (3 + d) f fd ["names", "begin"] (spLF d) := by
  rw [show 3 + d = (2 + d) + 1 by omega]
  refine F.ok sc__law_free (fun vs H Q E h => ?_) (fun cdv A outer s H vs Q E hr h => ?_)
  · obtain ⟨a, zs, b, rfl, _⟩ := h
    rfl
  · obtain ⟨a, zs, b, rfl, ha, N, few, bl, fuel, d60, fl, k⟩ := h
    have bl2 : b.length ≤ sizeLine := Nat.le_trans bl (by decide)
    have sgs : ∀ z ∈ zs, Sg z := fun z hz => N.sg z.cps.toList (List.mem_map.mpr ⟨z, hz, rfl⟩)
    have zl : ∀ z ∈ zs, z.length ≤ 60 := fun z hz => by
      have := N.hi z.cps.toList (List.mem_map.mpr ⟨z, hz, rfl⟩)
      rw [tl_len] at this
      exact this
    have bt := tl_len b
    refine ⟨_, (pss_cons (ps_if (pt_cmpR op_in_seq (pv 1) (pv 0) (by rfl))
  (pss_one (ps_ret (pe_lst pa_nil)))
  pss_nil)
  (pss_cons (ps_if (PW.pt (pw_and (pt_cmpR op_ne (pv 1) pe_str (nomark _)) (pw_and1 (pt_cmpR (op_eqNil (hu1 hr)) (pe_lc (own := [("name", 2)]) (g := gName 2) rfl sc__law_free.nd (pi_list (pv 0)) (blkOk_by (own := [("name", 2)]) (N := N__law_free) (sc := defScope s__law_free) (by decide +kernel)) (fun _ _ _ _ _ => (pg_name (i := 2) sc__law_free.nd rfl (Or.inl rfl))) (fun _ _ _ _ _ => (pts_one (pt_cmpR op_eq (pe_slice sl_str (pv 2) po_none (po_some (pe_callB call_len_str (by rfl) T.b_len boot_len (pa_cons (pv 1) pa_nil)))) (pv 1) (nomark _)))) (fun _ _ _ _ _ => (pv 2))) (pe_lst pa_nil) (nomark _)))))
  (pss_one (ps_ret (pe_lst (pa_cons (pv 1) pa_nil))))
  pss_nil)
  (pss_one (ps_ret (pe_op op_cat (pe_cal C__law_free hr (pa_cons (pv 0) (pa_cons (pe_op op_add_str (pv 1) pe_str) pa_nil))) (pe_cal C__law_free hr (pa_cons (pv 0) (pa_cons (pe_op op_add_str (pv 1) pe_str) pa_nil)))))))), ?_⟩
    unfold freeF at fl k
    refine ⟨_, rfl, _, rfl, a, _, rfl, .inl (SqL.of ha), rfl, ?_, _, rfl, ?_⟩
    · rw [List.all_map, List.all_eq_true]
      exact fun _ _ => rfl
    show if inV (.str b) (zs.map V.str) = true then _ else _
    rw [inV_strs]
    by_cases hb : b.cps.toList ∈ cod zs
    · rw [decide_eq_true hb]
      rw [if_pos hb] at k
      exact iteT ⟨by show 0 ≤ sizeLine; decide, fun l hl => k l _ (same_new hl) upd_same⟩
    · rw [decide_eq_false hb]
      rw [if_neg hb] at k fl
      refine iteF (nx_in ?_)
      dsimp only
      have recur : ∀ (σ : L2.St) (D : Ends) (H1 : Hp), σ[0]? = some (some (.ref a)) → σ[1]? = some (some (.str b)) → D.rt = Q → Same H H1 → ¬ (b.cps.toList ≠ [] ∧ ext (cod zs) b.cps.toList = []) →
          tRet (tOp rCat (tCall (spLP d) [] E0 (tCons (tVar 0) (tCons (tOp (fun x y H Q => ∃ i j, x = V.str i ∧ y = V.str j ∧ i.length + j.length ≤ sizeLine ∧ Q (V.str (i ++ j)) H) (tVar 1) (tC (V.str "0"))) tNil)))
            (tCall (spLP d) [] E0 (tCons (tVar 0) (tCons (tOp (fun x y H Q => ∃ i j, x = V.str i ∧ y = V.str j ∧ i.length + j.length ≤ sizeLine ∧ Q (V.str (i ++ j)) H) (tVar 1) (tC (V.str "1"))) tNil)))) D σ H1 := by
        intro σ D H1 e0 e1 rt s1 he
        have lt : b.length < 60 := by
          by_cases q : b.cps.toList = []
          · rw [← bt, q]; decide
          · have : ext (cod zs) b.cps.toList ≠ [] := fun z => he ⟨q, z⟩
            have := (ext_short N hb this).1
            omega
        obtain ⟨d', rfl⟩ : ∃ d', d = d' + 1 := ⟨d - 1, by omega⟩
        rw [if_neg he] at k fl
        rw [List.length_append] at fl
        have l0 : ("0" : Str).length = 1 := by decide +kernel
        have l1 : ("1" : Str).length = 1 := by decide +kernel
        have c0 : (b ++ "0").cps.toList = b.cps.toList ++ [48] := by rw [tl_app, tl_0]
        have c1 : (b ++ "1").cps.toList = b.cps.toList ++ [49] := by rw [tl_app, tl_1]
        have big : b.length + (1 : Nat) ≤ sizeLine := Nat.le_trans (m := 61) (by omega) (by decide)
        refine ⟨_, e0, _, e1, b, "0", rfl, rfl, big, a, zs, b ++ "0", rfl, s1 _ _ ha, N, few, by rw [Str.length_append, l0]; omega, by rw [Str.length_append, l0]; omega, by omega, by rw [c0]; omega, fun m1 H2 s2 h1 => ?_⟩
        refine ⟨_, e0, _, e1, b, "1", rfl, rfl, big, a, zs, b ++ "1", rfl, (s1.trans s2) _ _ ha, N, few, by rw [Str.length_append, l1]; omega, by rw [Str.length_append, l1]; omega, by omega, by rw [c1]; omega, fun m2 H3 s3 h2 => ?_⟩
        rw [c0] at h1
        rw [c1] at h2
        refine ⟨m1, m2, _, _, rfl, rfl, s3 _ _ h1, h2, Nat.le_trans (m := 1000) (by unfold stv; rw [List.length_map, List.length_map]; omega) (by decide), fun l hl => ?_⟩
        rw [rt]
        refine k l _ (((s1.trans s2).trans s3).trans (same_new hl)) ?_
        rw [upd_same]
        unfold stv
        rw [List.map_append]
      by_cases nb : b = ""
      · have eb : (!decide (V.str b = V.str "")) = false := by rw [str_ne, decide_eq_true nb]; rfl
        refine ⟨_, rfl, rfl, _, rfl, ?_⟩
        rw [eb]
        refine iteF (iteF (nx_in ?_))
        dsimp only
        refine recur _ _ _ rfl rfl rfl (Same.refl _) (fun z => z.1 ?_)
        rw [nb]
        decide +kernel
      · have eb : (!decide (V.str b = V.str "")) = true := by rw [str_ne, decide_eq_false nb]; rfl
        have nb2 : b.cps.toList ≠ [] := fun e => nb (str_ext (by rw [e]; decide +kernel))
        refine ⟨_, rfl, rfl, _, rfl, ?_⟩
        rw [eb]
        refine iteT ?_
        refine ⟨_, rfl, a, rfl, ⟨_, SqL.of ha⟩, fun D hD => ?_⟩
        refine lc_it (walk_list (K := K) (xs := zs.map V.str)) (fun i H' => Same H H' ∧ H' D = some (.lst (((zs.take i).filter fun z => decide (b.cps.toList <+: z.cps.toList)).map V.str))) ⟨same_new hD, by rw [upd_same]; rfl⟩ (fun i H' _ p => SqL.of (p.1 _ _ ha)) (fun i x H6 H' hi p y => ?_) (fun H6 p => ?_)
        · obtain ⟨s6, hm⟩ := p
          obtain ⟨rfl, hx⟩ := y
          rw [List.getElem?_map] at hx
          obtain ⟨z, hz, rfl⟩ := Option.map_eq_some_iff.mp hx
          have zl2 : z.length ≤ sizeLine := Nat.le_trans (zl z (List.mem_of_getElem? hz)) (by decide)
          refine ⟨rfl, _, rfl, _, rfl, b, rfl, bl2, _, rfl, z, rfl, zl2, _, rfl, rfl, _, rfl, ?_⟩
          rw [pre_cut2 bl]
          have il : i < 200 := by rw [List.length_map] at hi; omega
          by_cases pr : b.cps.toList <+: z.cps.toList
          · rw [decide_eq_true pr]
            refine iteT ⟨_, rfl, _, hm, Nat.lt_of_le_of_lt (m := 200) (by rw [List.length_map]; exact Nat.le_trans (List.length_filter_le _ _) (by rw [List.length_take]; omega)) (by decide), same_mut s6 hD, ?_⟩
            rw [upd_same, take_filter_yes (b := fun z : Str => decide (b.cps.toList <+: z.cps.toList)) V.str hz (decide_eq_true pr)]
          · rw [decide_eq_false pr]
            refine iteF ⟨s6, ?_⟩
            rw [hm, take_filter_no (b := fun z : Str => decide (b.cps.toList <+: z.cps.toList)) V.str hz (decide_eq_false pr)]
        · obtain ⟨s6, hm⟩ := p
          rw [List.length_map, List.take_of_length_le (Nat.le_refl _)] at hm
          refine ⟨by show 0 ≤ sizeLine; decide, fun e he' => ?_⟩
          have sE := same_new (o := HO.lst []) he'
          refine ⟨D, e, _, rfl, rfl, sE _ _ hm, upd_same, _, rfl, ?_⟩
          have s7 := s6.trans sE
          generalize upd H6 e (HO.lst []) = H7 at s7 ⊢
          have fe : (zs.filter fun z => decide (b.cps.toList <+: z.cps.toList)) = [] ↔ ext (cod zs) b.cps.toList = [] := by
            unfold ext
            rw [List.filter_eq_nil_iff, List.filter_eq_nil_iff]
            constructor
            · intro h x hx
              obtain ⟨z, hz, rfl⟩ := List.mem_map.mp hx
              have := h z hz
              rw [decide_eq_true_eq] at this
              rw [List.isPrefixOf_iff_prefix]
              exact this
            · intro h z hz
              have := h z.cps.toList (List.mem_map.mpr ⟨z, hz, rfl⟩)
              rw [List.isPrefixOf_iff_prefix] at this
              rw [decide_eq_true_eq]
              exact this
          by_cases he : ext (cod zs) b.cps.toList = []
          · rw [fe.mpr he]
            rw [if_pos ⟨nb2, he⟩] at k
            refine iteT ⟨_, rfl, by show 1 ≤ sizeLine; decide, fun l hl => k l _ (s7.trans (same_new hl)) ?_⟩
            rw [upd_same]
            show some (HO.lst [V.str b]) = some (HO.lst [V.str (SX.S b.cps.toList)])
            rw [SX.S_tl]
          · have ne : (zs.filter fun z => decide (b.cps.toList <+: z.cps.toList)).map V.str ≠ [] := fun z => he (fe.mp (List.map_eq_nil_iff.mp z))
            have em : ((zs.filter fun z => decide (b.cps.toList <+: z.cps.toList)).map V.str).isEmpty = false := by
              cases hq : (zs.filter fun z => decide (b.cps.toList <+: z.cps.toList)).map V.str with
              | nil => exact absurd hq ne
              | cons x r => rfl
            rw [em]
            refine iteF (nx_in ?_)
            dsimp only
            exact recur _ _ _ rfl rfl rfl s7 (fun z => he z.2)
end
end K05
set_option Elab.async false
set_option linter.all false
set_option maxRecDepth 100000
set_option maxHeartbeats 4000000
/-! a lambda of one parameter with a default, handed to a def that calls it with nothing -/
namespace Own
open PySem PySem.Spec PyProof.Rows L2 LamX
/-- its names: the parameter a0, captured ones, globals -/
structure Lm1 (a0 : Str) (mine scope : Scope) : Prop where
  fun_ : scope.kind = .function
  plain : scope.isCoroutine = false ∧ scope.isGenerator = false
  par : scope.names.lookup a0 = some .local
  only : ∀ y k, (y, k) ∈ scope.names → k ≠ .cell ∧ (k = .local → y = a0) ∧ (k = .free → mine.names.lookup y = some .cell ∨ mine.names.lookup y = some .free)
def lm1B (a0 : Str) (mine scope : Scope) : Bool :=
  (decide (scope.kind = .function) && !scope.isCoroutine) && (!scope.isGenerator && decide (scope.names.lookup a0 = some .local)) && scope.names.all fun (y, k) => match k with
    | .cell => false
    | .local => decide (y = a0)
    | .free => decide (mine.names.lookup y = some .cell) || decide (mine.names.lookup y = some .free)
    | _ => true
theorem lm1_of {a0 : Str} {mine scope : Scope} (b : lm1B a0 mine scope = true) : Lm1 a0 mine scope := by
  simp only [lm1B, Bool.and_eq_true, Bool.not_eq_true', decide_eq_true_eq, List.all_eq_true] at b
  obtain ⟨⟨⟨k, co⟩, ge, at0⟩, all⟩ := b
  refine { fun_ := k, plain := ⟨co, ge⟩, par := at0, only := fun y k m => ?_ }
  have z := all (y, k) m
  cases k <;> simp_all
/-- what is captured is the maker's own cell -/
theorem cap_in {X : Cx} {a0 : Str} {scope : Scope} (L : Lm1 a0 X.env.scope scope) (ok : X.Ok) (y : Str) (k : scope.names.lookup y = some .free) :
    ∃ c, X.env.cells.lookup y = some c ∧ (cloFrom X.env.cells scope.names []).lookup y = some c := by
  have m := PySem.mem_of_lookup k
  obtain ⟨c, e⟩ : ∃ c, X.env.cells.lookup y = some c := ok.has y ((L.only y _ m).2.2 rfl)
  obtain ⟨c', e'⟩ := mem_lookup (cloFrom_has (cells := X.env.cells) (acc := []) m)
  rcases cloFrom_mem (PySem.mem_of_lookup e') with no | ⟨_, is⟩
  · exact nomatch no
  · rw [e] at is
    obtain rfl : c' = c := is
    exact ⟨c', e, e'⟩
theorem cap_of {X : Cx} {a0 : Str} {scope : Scope} (L : Lm1 a0 X.env.scope scope) (ok : X.Ok) (y : Str) (c : Addr) (e : (cloFrom X.env.cells scope.names []).lookup y = some c) : X.env.cells.lookup y = some c := by
  rcases cloFrom_mem (PySem.mem_of_lookup e) with no | ⟨m, is⟩
  · exact nomatch no
  · obtain ⟨d, hd⟩ : ∃ d, X.env.cells.lookup y = some d := ok.has y ((L.only y _ m).2.2 rfl)
    rw [is, hd]
    rfl
/-- a table grown by one code object -/
theorem tabs_more {T : List (Addr × Str)} {H : Hp} {B c : Addr} {q : Str} {ps : Array Value} {u v : Value} (t : Tabs T H) (hB : H B = some (.tbl ps)) (u1 : ∀ r ∈ T, r.1 = B → r.2 = q) (ok3 : TriplesOk (ps ++ #[u, v, .ref c]).toList)
    (old : ∀ pos cv, codeAmong pos (ps ++ #[u, v, .ref c]).toList = some cv → codeAmong pos ps.toList = some cv ∨ cv = .ref c) (nc : H c = none) :
    ExtN H (upd (upd H B (.tbl (ps ++ #[u, v, .ref c]))) c (CodeO c q)) ∧ Tabs T (upd (upd H B (.tbl (ps ++ #[u, v, .ref c]))) c (CodeO c q)) := by
  have bc : B ≠ c := ne_of_none hB nc
  have ext : ExtN H (upd (upd H B (.tbl (ps ++ #[u, v, .ref c]))) c (CodeO c q)) := by
    intro b o is nt
    by_cases bB : b = B
    · subst bB
      exact absurd (Option.some.inj (is.symm.trans hB)) (nt ps)
    · exact (upd_ne (ne_of_none is nc)).trans ((upd_ne bB).trans is)
  refine ⟨ext, fun r hr => ?_⟩
  obtain ⟨rs, r1, r2, r3⟩ := t r hr
  by_cases rB : r.1 = B
  · rw [rB, u1 r hr rB]
    rw [rB, hB] at r1
    obtain rfl : ps = rs := by injection Option.some.inj r1
    refine ⟨_, (upd_ne bc).trans upd_same, ok3, fun pos cv is => ?_⟩
    rcases old pos cv is with is | is
    · obtain ⟨d, e1, e2⟩ := r3 pos cv is
      rw [u1 r hr rB] at e2
      exact ⟨d, e1, ext _ _ e2 codeO_ne⟩
    · exact ⟨c, is, upd_same⟩
  · refine ⟨rs, (upd_ne (ne_of_none r1 nc)).trans ((upd_ne rB).trans r1), r2, fun pos cv is => ?_⟩
    obtain ⟨d, e1, e2⟩ := r3 pos cv is
    exact ⟨d, e1, ext _ _ e2 codeO_ne⟩
/-- the lambda stands at f, its defaults at t, its code object at c' -/
structure Born (X : Cx) (T : List (Addr × Str)) (params : Arguments) (body : Expr) (scope : Scope) (u0 : Value) (H H1 : Hp) (s' : Shared) (f t c' : Addr) (doc pm ctv : Value) : Prop where
  ext : ExtN H H1
  tabs : Tabs T H1
  fn : s'.heap.get? f = some (PySem.W.kdv_obj "<lambda>" (X.env.qual ++ "<lambda>") params (.expr body) scope (cloFrom X.env.cells scope.names []) (.ref t) doc pm c' ctv)
  tup : s'.heap.get? t = some (PySem.W.kdv_tup [u0])
  off : (H1 f = none ∧ f ∉ frs X.stack) ∧ H1 t = none ∧ t ∉ frs X.stack
  code : H1 c' = some (CodeO c' (X.env.qual ++ "<lambda>"))
section
variable {X : Cx} {pins : List (Addr × Obj)} {σ : L2.St} {H : Hp} {s : Shared}
theorem off_new (I : Inv X pins σ H s) {b : Addr} (le : s.heap.objs.size ≤ b) : H b = none ∧ b ∉ frs X.stack := by
  refine ⟨I.hok.fresh le, fun m => ?_⟩
  cases I.stkSub b m with
  | head => exact absurd I.lt (Nat.not_lt.mpr le)
  | tail _ m => exact I.nofs le m
/-- the making -/
theorem lam_born {T : List (Addr × Str)} {cC PT : Addr} {params : Arguments} {body e0 : Expr} {scope : Scope} {pos : Pos} {a0 : Str} {v0 : V} {Q : Value → Shared → Prop} (I : Inv X pins σ H s) (TB : TabB X.base X.mg cC PT) (hcode : X.env.code = .ref cC)
    (hm : (PT, X.env.qual ++ "<lambda>") ∈ T) (hu : ∀ r ∈ T, r.1 = PT → r.2 = X.env.qual ++ "<lambda>") (hT : Tabs T H) (one : params.defaults = [e0]) (none_ : params.kw_defaults = []) (he : PE X e0 (tC v0)) (L : Lm1 a0 X.env.scope scope)
    (k : ∀ f t c' doc pm ctv u0 H1 s', Inv X pins σ H1 s' → RelV v0 u0 → Born X T params body scope u0 H H1 s' f t c' doc pm ctv → Q (.ref f) s') :
    wpAny (model X.prog X.w) X.A (eval (.Lambda params body scope pos) X.env) Q X.xe s := by
  refine PySem.W.kdv_lam (one ▸ rfl) none_ (one.symm ▸ PySem.W.kdv_all1 (thn (he.run pins s σ H (fun v H1 => v = v0 ∧ H1 = H) I ⟨rfl, rfl⟩) fun u0 s0 w0 => PySem.W.kdv_all0 ?_))
  obtain ⟨v, G, I0, r0, isV, isG⟩ := w0
  rw [isG] at I0
  rw [isV] at r0
  rw [makeFunction_eq]
  simp only [List.zip_nil_right, List.filterMap_nil, List.isEmpty_nil, List.isEmpty_cons, Bool.false_eq_true, if_true, if_false, pure_bind]
  refine wpAny_bind (wpAny_newTextTuple ?_)
  have tOff := off_new I0 (Nat.le_refl _)
  obtain ⟨S, hS⟩ : ∃ S : Shared, S = { s0 with heap := s0.heap.push (PySem.W.kdv_tup [u0]) } := ⟨_, rfl⟩
  have tIs : S.heap.get? s0.heap.objs.size = some (PySem.W.kdv_tup [u0]) := by
    rw [hS]
    exact Heap.get?_push_size _ rfl
  have J : Inv X pins σ H S := by
    rw [hS]
    exact I0.kept (t' := s0.toks) fun b o e => Heap.get?_push_of_some _ e
  rw [← hS]
  generalize s0.heap.objs.size = t at tOff tIs
  clear hS I0 I
  obtain ⟨ps, atP, trip, told⟩ := hT _ hm
  have atP' : S.heap.get? PT = some { cls := .none, data := .fields ps } := J.hok PT _ atP
  have clo := closure_ok (env := X.env) (scope := scope) fun y m e => J.ok.has y.1 ((L.only y.1 y.2 m).2.2 e)
  have mod := J.mod.glob.keeps J.bk
  have blt : S.heap.BuiltinsAt X.mg PT := TB.bm.keeps J.bk
  have hd := TB.code.keeps J.bk
  cases among : codeAmong pos ps.toList with
  | some cv =>
    obtain ⟨c', rfl, isC⟩ := told pos cv among
    refine PySem.W.kdv_makeTailHit (mg := X.mg) clo J.ok.glob mod hcode hd atP' trip among blt fun ctv doc h' tk kp le => ?_
    have fOff := off_new J le
    exact k _ t c' doc _ ctv u0 H _ (J.kept (t' := tk) fun b o e => Heap.get?_push_of_some _ (kp b o e)) r0 ⟨ExtN.refl H, hT, Heap.get?_push_size _ rfl, Heap.get?_push_of_some _ (kp _ _ tIs), ⟨fOff, tOff⟩, isC⟩
  | none =>
    refine PySem.W.kdv_makeTail (mg := X.mg) clo J.ok.glob mod hcode hd atP' trip among TB.gP blt fun c' ctv doc h' tk kp ge lt isCode tab => ?_
    obtain ⟨c2, oc, vs, tq, same, oc1, oc2, oc3⟩ := isCode
    cases same
    have cOff := off_new J ge
    have fOff := off_new J (Nat.le_trans ge (Nat.le_of_lt lt))
    have tLt : t < S.heap.objs.size := Heap.lt_size tIs
    have pLt : PT < S.heap.objs.size := Heap.lt_size atP'
    have tP : t ≠ PT := fun z => by
      rw [z, atP] at tOff
      exact nomatch tOff.1
    obtain ⟨ext, tabs⟩ := tabs_more (u := rawInt pos.line) (v := rawInt pos.col) (c := c') hT atP hu
      (by simpa using PySem.TriplesOk_snoc _ _ _ _ trip) (fun p cv is => among_app (pos := pos) _ trip (by simpa using is)) cOff.1
    have apart : ∀ b, b ≠ c' → b ≠ PT → H b = none → upd (upd H PT (.tbl (ps ++ #[rawInt pos.line, rawInt pos.col, .ref c']))) c' (CodeO c' (X.env.qual ++ "<lambda>")) b = none := fun b b1 b2 n => (upd_ne b1).trans ((upd_ne b2).trans n)
    refine k _ t c' doc _ ctv u0 _ _ (inv_table (t' := tk) (c := c') J atP (fun b o nb e => Heap.get?_push_of_some _ (kp b o nb e)) (Heap.get?_push_of_some _ tab) ge ⟨oc, vs, tq, Heap.get?_push_of_some _ oc1, oc2, oc3⟩) r0
      ⟨ext, tabs, Heap.get?_push_size _ rfl, Heap.get?_push_of_some _ (kp _ _ tP tIs), ⟨⟨apart _ (Nat.ne_of_gt lt) (Nat.ne_of_gt (Nat.lt_of_lt_of_le pLt (Nat.le_trans ge (Nat.le_of_lt lt)))) fOff.1, fOff.2⟩, apart _ (Nat.ne_of_lt (Nat.lt_of_lt_of_le tLt ge)) tP tOff.1, tOff.2⟩, upd_same⟩
/-- its frame: what the maker's slots hold, but the parameter's own slot i0 -/
theorem lam_frame {a0 : Str} {i0 : Nat} {v0 : V} {u0 : Value} {HZ : Hp} {S : Shared} {A : Around} {outer : List Env} {E : XK} {scope : Scope} {f c' : Addr} {h₁ : Heap} {tk : Nat} (I : Inv X pins σ H s) (L : Lm1 a0 X.env.scope scope) (z0 : Env0 X.prog X.w X.K X.mg X.base A outer S HZ) (calm : A.handled = none)
    (here : ∀ i y, X.N[i]? = some y → (y = a0 ↔ i = i0)) (r0 : RelV v0 u0) (un : Un (frs X.stack) [] H HZ s.heap S.heap) (own : h₁.Ns S.heap.objs.size fun y => [(a0, u0)].reverse.lookup y) (kp : ∀ b o, S.heap.get? b = some o → h₁.get? b = some o) :
    Inv (lamCx X A outer S HZ E scope f c') [] (σ.set i0 (some v0)) HZ { S with heap := h₁, toks := tk } := by
  have cell : ∀ y c v, X.env.cells.lookup y = some c → s.heap.IsCell c v → h₁.IsCell c v := by
    rintro y c v e ⟨o, o1, o2⟩
    obtain ⟨sl, z⟩ := un.any o1 (I.freeC y c e) (by simp)
    exact ⟨_, kp _ _ z, o2⟩
  have nx : ∀ {p : Prop} {b : Addr}, b ∈ (lamCx X A outer S HZ E scope f c').ex → p := fun m => (nomatch (show _ ∈ ([] : List Addr) from m))
  have ok : (lamCx X A outer S HZ E scope f c').Ok := {
    mod := z0.mod, kind := L.fun_, glob := rfl, blt := rfl, above := Nat.le_refl _
    inj := fun y z c m1 m2 => I.ok.inj y z c (cap_of L I.ok y c m1) (cap_of L I.ok z c m2)
    has := fun y m => by
      rcases m with m | m
      · exact absurd rfl (L.only y _ (PySem.mem_of_lookup (show scope.names.lookup y = some .cell from m))).1
      · exact (cap_in L I.ok y m).imp fun c z => z.2
    cab := fun y c no _ => (nomatch (show false = true from no))
    hd := fun _ => calm, frames := Around.frames_deeper z0.frames, stk := .inr ⟨rfl, rfl⟩
    exf := fun b m => nx m, bs := z0.bs, bsz := z0.bsz, noex := fun b o _ m => nx m, exfs := fun b m => nx m, funs := z0.funs, frf := z0.frf }
  refine { ok := ok, os := rfl, bare := z0.bare, base := Un.kept kp, loc := ⟨_, own, ?loc⟩, cell := ?cell, free := z0.hok.fresh (Nat.le_refl _), freeC := ?freeC, pin := fun r m => (nomatch (show r ∈ ([] : List (Addr × Obj)) from m)), hok := z0.hok.kept kp, len := by rw [List.length_set]; exact I.len }
  case cell =>
    intro y c e
    have e := cap_of L I.ok y c e
    exact (I.cell y c e).imp fun v z => cell y c v e z
  case freeC =>
    intro y c e
    have e := cap_of L I.ok y c e
    obtain ⟨v, o, o1, _⟩ := I.cell y c e
    exact un.free c o o1 (I.freeC y c e) (by simp)
  case loc =>
    intro i y v at_ is vis
    have at_ : X.N[i]? = some y := at_
    have big : i < σ.length := by
      have := (List.getElem?_eq_some_iff.mp is).1
      simpa using this
    by_cases ya : y = a0
    · have ii := (here i y at_).mp ya
      subst ya ii
      rw [List.getElem?_set_self big] at is
      injection is with is
      injection is with is
      subst is
      exact ⟨u0, r0, .inl ⟨L.par, by simp [List.lookup]⟩⟩
    · have ii : i0 ≠ i := fun z => ya ((here i y at_).mpr z.symm)
      rw [List.getElem?_set_ne ii] at is
      have fr : scope.names.lookup y = some .free := by
        rcases vis with m | m | m
        · exact absurd ((L.only y _ (PySem.mem_of_lookup m)).2.1 rfl) ya
        · exact absurd rfl (L.only y _ (PySem.mem_of_lookup m)).1
        · exact m
      have up := (L.only y _ (PySem.mem_of_lookup fr)).2.2 rfl
      obtain ⟨m, _, look⟩ := I.loc
      obtain ⟨u, ru, w⟩ := look i y v at_ is (.inr up)
      obtain ⟨c, c1, c2⟩ := cap_in L I.ok y fr
      refine ⟨u, ru, .inr ⟨.inr fr, c, c2, ?_⟩⟩
      rcases w with ⟨no, _⟩ | ⟨_, d, d1, d2⟩
      · have no : X.env.scope.names.lookup y = some .local := no
        rw [no] at up
        exact nomatch up
      · rw [c1] at d1
        injection d1 with d1
        exact cell y c _ c1 (d1 ▸ d2)
/-- the lambda called: from the state S on, the heap as HZ tells -/
theorem lam_runs {a0 : Str} {i0 : Nat} {v0 : V} {u0 : Value} {T : List (Addr × Str)} {params : Arguments} {body : Expr} {scope : Scope} {tb : TE} {k : Nat} {H1 HZ : Hp} {S : Shared} {f t c' : Addr} {doc pm ctv : Value} {A : Around} {outer : List Env} {Q : VK} {E : XK}
    (I : Inv X pins σ H1 s) (B : Born X T params body scope u0 H H1 s f t c' doc pm ctv) (L : Lm1 a0 X.env.scope scope) (here : ∀ i y, X.N[i]? = some y → (y = a0 ↔ i = i0)) (r0 : RelV v0 u0)
    (bind : ∀ G : Shared, G.heap.get? t = some (PySem.W.kdv_tup [u0]) → BindsTo G (PySem.W.kdv_fn "<lambda>" (X.env.qual ++ "<lambda>") params (.expr body) scope (cloFrom X.env.cells scope.names []) (.ref t) doc pm (.ref c') ctv) ⟨[], []⟩ [(a0, u0)])
    (hb : ∀ (A : Around) (outer : List Env) (s : Shared) (H : Hp), Room k (A.deeper (lamEnv X scope s.heap.objs.size f c')) → PE (lamCx X A outer s H E scope f c') body tb)
    (room : Room (k + 1) A) (z0 : Env0 X.prog X.w X.K X.mg X.base A outer S HZ) (lim : S.heap.NoLimit) (un : Un (frs X.stack) [] H1 HZ s.heap S.heap) (isC : HZ c' = some (CodeO c' (X.env.qual ++ "<lambda>"))) (ht : tb (σ.set i0 (some v0)) HZ Q) :
    codeAny (model X.prog X.w) A (.call (.ref f) ⟨[], []⟩) (CR (L2.CX X.prog X.w) outer X.prog X.w HZ S Q E) S := by
  have no : ∀ b : Addr, b ∉ ([] : List Addr) := fun b m => nomatch m
  obtain ⟨⟨oc, vs, tq, o1, o2, o3⟩, _, _⟩ := z0.hok c' _ isC
  refine PySem.W.kla_callFunE room.depth (un.keep f _ B.fn B.off.1.1 B.off.1.2 (no f)) rfl L.plain.1 L.plain.2 rfl ⟨c', oc, vs, tq, rfl, o1, o2, o3⟩ ?_
  refine bind S (un.keep t _ B.tup B.off.2.1 B.off.2.2 (no t)) _ _ _ _ ?_
  refine wpAny_newFunctionEnv (fun y m => (L.only y.1 y.2 m).1) (fun y m => by rw [List.mem_singleton.mp m]; exact L.par) (fun h₁ own sb => ⟨lim.fresh _ sb, ?_⟩) L.fun_
  have J := lam_frame (E := E) (f := f) (c' := c') (tk := S.toks + 1) I L z0 room.hd here r0 un own fun b o e => sb.extBut b o (Nat.ne_of_lt (Heap.lt_size e)) (Heap.get?_push_of_some _ e)
  refine PySem.W.kla_codeExpr (wpAny_mono ((hb A outer S HZ (room.deeper _)).run [] _ _ HZ Q J ht) ?_ fun _ _ z => z)
  rintro u G ⟨v, H', J', rv, q⟩
  exact ⟨v, H', J'.os, J'.bare, J'.base, J'.hok, rv, q⟩
end
def tLam1 (T : List (Addr × Str)) (TT : (XK → Hp → VK → Prop) → Hp → VK → Prop) (i0 : Nat) (v0 : V) (t : XK → TE) : TE := fun σ H Q => Tabs T H ∧ ∀ H1, ExtN H H1 → Tabs T H1 → TT (fun E H' Q' => t E (σ.set i0 (some v0)) H' Q') H1 Q
theorem calls_of {X : Cx} {pins : List (Addr × Obj)} {σ : L2.St} {H : Hp} {s : Shared} {CXg : CXT} {E : XK} {f : Addr} {us : List Value} {Q : VK} (I : Inv X pins σ H s) (run : codeAny (model X.prog X.w) X.A (.call (.ref f) ⟨us, []⟩) (CR CXg X.stack X.prog X.w H s Q E) s)
    (out : ∀ e s', CXg X.stack H s E e s' → X.xe e s') : wpAny (model X.prog X.w) X.A (call (.ref f) us) (EP X pins σ Q) X.xe s := by
  refine wpAny_call (codeAny_mono run fun r s' z => ?_)
  match r, z with
  | .error e, z => exact out e s' z
  | .ok (.ret u), z => exact I.after z
  | .ok .next, z => exact z.elim
  | .ok .brk, z => exact z.elim
  | .ok .cont, z => exact z.elim
section
variable {X : Cx}
/-- x(lambda a0=e0: body) -/
theorem pe_lamcall1 {a0 : Str} {i0 : Nat} {v0 : V} {e0 : Expr} {T : List (Addr × Str)} {TT : (XK → Hp → VK → Prop) → Hp → VK → Prop} {x a : Str} {g cC PT : Addr} {k : Nat} {fdg : FuncData} {st : Stmt} {N : List Str} {params : Arguments} {body : Expr} {scope : Scope} {t : XK → TE} {p lpos pos : Pos} (hg : Gl X x) (hm : X.mg x = some (.ref g))
    (hk : PySem.W.keepIn X.K (.ref g) = true) (Fg : Fun X.K x x st g fdg) (bg : Binds X.K fdg [a] []) (Sg : FnScope N [a] (defScope st)) (at0 : N[0]? = some a) (vis : Vis (defScope st) a) (gives : ∀ cdv, GivesTo X N x (defScope st) g cdv (defBody st) a (X.env.qual ++ "<lambda>") TT)
    (TB : TabB X.base X.mg cC PT) (hcode : X.env.code = .ref cC) (hmT : (PT, X.env.qual ++ "<lambda>") ∈ T) (hu : ∀ r ∈ T, r.1 = PT → r.2 = X.env.qual ++ "<lambda>") (room : Room (k + 2) X.A) (L : Lm1 a0 X.env.scope scope) (one : params.defaults = [e0]) (none_ : params.kw_defaults = []) (he : PE X e0 (tC v0))
    (here : ∀ i y, X.N[i]? = some y → (y = a0 ↔ i = i0))
    (bind : ∀ (q : Str) (cl : List (Str × Addr)) (t : Addr) (doc pm cv ctv u0 : Value) (G : Shared), G.heap.get? t = some (PySem.W.kdv_tup [u0]) → BindsTo G (PySem.W.kdv_fn "<lambda>" q params (.expr body) scope cl (.ref t) doc pm cv ctv) ⟨[], []⟩ [(a0, u0)])
    (hb : ∀ (A : Around) (outer : List Env) (s : Shared) (H : Hp) (E : XK) (f c' : Addr), Room k (A.deeper (lamEnv X scope s.heap.objs.size f c')) → PE (lamCx X A outer s H E scope f c') body (t E))
    (hdb : (x == ("__debug__" : Str)) = false := by decide) (hd : (a == ("__debug__" : Str)) = false := by decide) (hcd : (a == ("__classdict__" : Str)) = false := by decide) :
    PE X (.Call (.Name x p) [.Lambda params body scope lpos] [] pos) (tLam1 T TT i0 v0 t) := by
  obtain ⟨oc, od, kV, dd, pg, an, cdv, ct, osl, rfl, lk, isG⟩ := Fg.ex
  constructor
  rintro pins s σ H Q I ⟨hT, told⟩
  refine wpAny_Call_Name_kw (ld_glob I hg hm (PySem.W.callWith_K (h₀ := X.base) I.ok.mod.kin hk ?_ (by rfl) (by rfl)) hdb)
  show wpAny _ _ (spliced ((false, eval (.Lambda params body scope lpos) X.env) :: backTo pos (starEach [] X.env))) _ _ s
  refine Calls.spliced_cons (lam_born I TB hcode hmT hu hT one none_ he L ?_)
  intro f tA c' doc pm ctv u0 H1 s1 I1 r0 B
  refine Calls.spliced_nil ⟨I1.kIn, calls_of (CXg := C8.CX0) (E := C8.E0) I1 ?_ fun _ _ z => (show False from z).elim⟩
  refine run_ofS (us := [.ref f]) (vs := [.ref f]) lk isG Sg room I1.env0 (bg s1 [.ref f] I1.kIn rfl) (.cons rfl .nil) rfl fun room' => ?_
  refine Exists.elim (gives cdv f c' s1 H1 Q _ (fun W pn xe E_ p1 p2 tk hW => ⟨?_⟩) B.code (told H1 B.ext B.tabs)) fun tr z => ⟨tr, z.1.nox, z.2⟩
  rintro pinsZ sZ σZ HZ QZ IZ ⟨is, isC, ht⟩
  refine wpAny_Call_Name_kw (thn ((pe_var (pos := p1) (i := 0) at0 vis hd hcd).run pinsZ sZ σZ HZ (fun v G => v = .ref f ∧ G = HZ) IZ ⟨_, is, rfl, rfl⟩) ?_)
  rintro u S ⟨v, G, J, ru, isV, isG⟩
  rw [isG] at J
  rw [isV] at ru
  obtain rfl : u = Value.ref f := ru
  have un : Un (frs X.stack) [] H1 HZ s1.heap S.heap := J.base
  have runs := lam_runs (X := X) (E := E_) (Q := QZ) I1 B L here r0 (fun G => bind _ _ _ _ _ _ _ _ G) (fun A outer s H => hb A outer s H E_ f c') room' J.env0 J.nolimit un isC ht
  refine PySem.W.callWith_F0 ⟨_, _, _, _, un.keep f _ B.fn B.off.1.1 B.off.1.2 (fun m => nomatch m)⟩ (calls_of (X := (cxOf C8.CX0 X.prog X.w X.K X.mg X.base N x (defScope st) g cdv X.A X.stack s1 H1 C8.E0).tr pn xe) J ?_ fun e s' => passes_call tk hW pinsZ σZ HZ S e s' J)
  exact runs
end
end Own
set_option Elab.async false
set_option linter.all false
set_option maxRecDepth 100000
set_option maxHeartbeats 4000000
namespace K05
open PySem PySem.Spec PyProof.Rows L2 Own
theorem pi_listK {X : Cx} {K : PySem.W.Frag} {tg e : Expr} {te : TE} (hK : X.K = K) (he : PE X e te) : PI X tg e (iList K te) := hK ▸ pi_list he
/-! ### the law's ear -/
def Rok : Hp → VK → Prop := fun _ _ => False
def heardQ (word : Str) (v : V) (H : Hp) (Q : VK) : Prop := ∀ H' p, Same H H' → H' p = none → Q (.ref p) (upd H' p (.tup [.str word, v]))
def Rer (CB CM : Addr) : Value → Option Addr → Addr → Hp → VK → Prop := fun cls d a H Q => ∃ (dd : Addr) (v : V), d = some dd ∧ H dd = some (.xd [("part", v)]) ∧ ((cls = .ref CB ∧ heardQ "name" v H Q) ∨ (cls = .ref CM ∧ heardQ "misfit" v H Q))
theorem five {σ : L2.St} (h : σ.length = 5) : ∃ o0 o1 o2 o3 o4, σ = [o0, o1, o2, o3, o4] := by
  match σ, h with
  | [o0, o1, o2, o3, o4], _ => exact ⟨o0, o1, o2, o3, o4, rfl⟩
theorem heard_ok {X : Cx} {CB CM CS g : Addr} {cdg : Value} {q : Str} (T : Txt X.mg) (xB : ExC X.K CB) (xM : ExC X.K CM) (atB : X.mg "BadName" = some (.ref CB)) (atM : X.mg "Misfit" = some (.ref CM)) (atT : X.mg "TickError" = some (.ref CS)) (noB : PySem.W.findIn X.K (.ref CB) "part" = some none) (noM : PySem.W.findIn X.K (.ref CM) "part" = some none)
    (kBB : PySem.W.kitOne X.K (.ref CB) (.ref CB) = some true) (kBM : PySem.W.kitOne X.K (.ref CB) (.ref CM) = some false) (kMB : PySem.W.kitOne X.K (.ref CM) (.ref CB) = some false) (kMM : PySem.W.kitOne X.K (.ref CM) (.ref CM) = some true) :
    LamX.GivesTo X N__law_heard "_law_heard" (defScope s__law_heard) g cdg (defBody s__law_heard) "ask" q (TTh X.K CS Rok (Rer CB CM)) := by
  refine heard_gives (i := 2) (j := 1) rfl atT (by decide) (fun _ => rfl) (by decide) (by decide) (by decide) (by decide) sc__law_heard.nd rfl rfl rfl rfl (fun _ => rfl) (by decide) (by decide)
    (fun s H => (pss_cons (ps_for PassesOwn.never rfl (pi_listK (K := X.K) (by rfl) (pe_lst (pa_cons (pe_tup (pa_cons pe_str (pa_cons (pe_callB (call_isXK (K := X.K) (by rfl)) (by rfl) T.b_isinstance boot_isinstance (pa_cons (pv 1) (pa_cons (pe_gr atB) pa_nil))) pa_nil))) (pa_cons (pe_tup (pa_cons pe_str (pa_cons (pe_callB (call_isXK (K := X.K) (by rfl)) (by rfl) T.b_isinstance boot_isinstance (pa_cons (pv 1) (pa_cons (pe_gr atM) pa_nil))) pa_nil))) pa_nil)))) (pg_tupK (K := X.K) (n := 2) (by rfl) rfl (pgs_cons (pg_name (i := 3) sc__law_heard.nd rfl (Or.inl rfl)) (pgs_cons (pg_name (i := 4) sc__law_heard.nd rfl (Or.inl rfl)) pgs_nil)))
  (pss_one (ps_if (pt_val (pv 4))
  (pss_one (ps_ret (pe_tup (pa_cons (pv 3) (pa_cons (pe_exfL (K := X.K) (by rfl) (pv 1)) pa_nil)))))
  pss_nil)))
  (pss_one (ps_ret (pe_ifExp (pt_cmpR op_isN (pv 1) pe_non (nomark _)) pe_non (pe_tup (pa_cons pe_str (pa_cons pe_non pa_nil)))))))) (fun σ H Q len e h => h.elim) (fun σ H Q cls d b len e hb h => ?_)
  obtain ⟨o0, o1, o2, o3, o4, rfl⟩ := five len
  have e : o1 = some (V.ref b) := Option.some.inj e
  subst e
  obtain ⟨dd, v, rfl, hd, h⟩ := h
  rcases h with ⟨rfl, h⟩ | ⟨rfl, h⟩
  · have ea : ExAt H b CB dd [("part", v)] := ⟨.inr hb, .inr hd⟩
    refine ⟨_, rfl, b, CB, dd, _, _, _, true, rfl, xB, ea, .own _, kBB, by show 2 ≤ sizeLine; decide, fun t1 ht1 => ?_⟩
    have s1 := same_new (o := HO.tup [V.str "name", V.bl true]) ht1
    have h1 : upd H t1 (HO.tup [V.str "name", V.bl true]) t1 = some (.tup [V.str "name", V.bl true]) := upd_same
    generalize upd H t1 (HO.tup [V.str "name", V.bl true]) = H1 at s1 h1 ⊢
    refine ⟨_, rfl, b, CB, dd, _, _, _, false, rfl, xB, ea.mono s1, .own _, kBM, by show 2 ≤ sizeLine; decide, fun t2 ht2 => ?_⟩
    have s2 := same_new (o := HO.tup [V.str "misfit", V.bl false]) ht2
    have h12 := s2 _ _ h1
    generalize upd H1 t2 (HO.tup [V.str "misfit", V.bl false]) = H2 at s2 h12 ⊢
    refine ⟨by show 2 ≤ sizeLine; decide, fun l hl => ?_⟩
    have s3 := (s1.trans s2).trans (same_new (o := HO.lst [V.ref t1, V.ref t2]) hl)
    have h13 := (same_new (o := HO.lst [V.ref t1, V.ref t2]) hl) _ _ h12
    have hll : upd H2 l (HO.lst [V.ref t1, V.ref t2]) l = some (.lst [V.ref t1, V.ref t2]) := upd_same
    generalize upd H2 l (HO.lst [V.ref t1, V.ref t2]) = H3 at s3 h13 hll ⊢
    refine ⟨l, rfl, ⟨_, SqL.of hll⟩, ?_⟩
    refine for_list (K := X.K) (a := l) (xs := [V.ref t1, V.ref t2]) (fun i σ' H' => i = 0 ∧ σ' = [o0, some (.ref b), o2, o3, o4] ∧ H' = H3) ⟨rfl, rfl, rfl⟩ (fun i σ' H' _ p => by rw [p.2.2]; exact SqL.of hll) (fun i x σ' H' hx p => ?_) (fun σ' H' p => by have := p.1; cases this)
    obtain ⟨rfl, rfl, rfl⟩ := p
    cases hx
    refine ⟨t1, _, rfl, SqT.of h13, rfl, _, _, rfl, _, _, rfl, rfl, ?_⟩
    refine ⟨_, rfl, true, rfl, iteT ?_⟩
    exact ⟨_, rfl, _, rfl, b, CB, dd, _, v, rfl, xB, noB, ea.mono s3, rfl, by show 2 ≤ sizeLine; decide, fun p hp => h _ p s3 hp⟩
  · have ea : ExAt H b CM dd [("part", v)] := ⟨.inr hb, .inr hd⟩
    refine ⟨_, rfl, b, CM, dd, _, _, _, false, rfl, xM, ea, .own _, kMB, by show 2 ≤ sizeLine; decide, fun t1 ht1 => ?_⟩
    have s1 := same_new (o := HO.tup [V.str "name", V.bl false]) ht1
    have h1 : upd H t1 (HO.tup [V.str "name", V.bl false]) t1 = some (.tup [V.str "name", V.bl false]) := upd_same
    generalize upd H t1 (HO.tup [V.str "name", V.bl false]) = H1 at s1 h1 ⊢
    refine ⟨_, rfl, b, CM, dd, _, _, _, true, rfl, xM, ea.mono s1, .own _, kMM, by show 2 ≤ sizeLine; decide, fun t2 ht2 => ?_⟩
    have s2 := same_new (o := HO.tup [V.str "misfit", V.bl true]) ht2
    have h12 := s2 _ _ h1
    have h22 : upd H1 t2 (HO.tup [V.str "misfit", V.bl true]) t2 = some (.tup [V.str "misfit", V.bl true]) := upd_same
    generalize upd H1 t2 (HO.tup [V.str "misfit", V.bl true]) = H2 at s2 h12 h22 ⊢
    refine ⟨by show 2 ≤ sizeLine; decide, fun l hl => ?_⟩
    have sl := same_new (o := HO.lst [V.ref t1, V.ref t2]) hl
    have s3 := (s1.trans s2).trans sl
    have h13 := sl _ _ h12
    have h23 := sl _ _ h22
    have hll : upd H2 l (HO.lst [V.ref t1, V.ref t2]) l = some (.lst [V.ref t1, V.ref t2]) := upd_same
    generalize upd H2 l (HO.lst [V.ref t1, V.ref t2]) = H3 at s3 h13 h23 hll ⊢
    refine ⟨l, rfl, ⟨_, SqL.of hll⟩, ?_⟩
    refine for_list (K := X.K) (a := l) (xs := [V.ref t1, V.ref t2]) (fun i σ' H' => i ≤ 1 ∧ (∃ o3 o4, σ' = [o0, some (.ref b), o2, o3, o4]) ∧ H' = H3) ⟨by omega, ⟨_, _, rfl⟩, rfl⟩ (fun i σ' H' _ p => by rw [p.2.2]; exact SqL.of hll) (fun i x σ' H' hx p => ?_) (fun σ' H' p => absurd p.1 (by show ¬ 2 ≤ 1; decide))
    obtain ⟨i1, ⟨o3, o4, rfl⟩, rfl⟩ := p
    rcases (show i = 0 ∨ i = 1 by omega) with rfl | rfl
    · cases hx
      refine ⟨t1, _, rfl, SqT.of h13, rfl, _, _, rfl, _, _, rfl, rfl, ?_⟩
      refine ⟨_, rfl, false, rfl, iteF ?_⟩
      exact ⟨by omega, ⟨_, _, rfl⟩, rfl⟩
    · cases hx
      refine ⟨t2, _, rfl, SqT.of h23, rfl, _, _, rfl, _, _, rfl, rfl, ?_⟩
      refine ⟨_, rfl, true, rfl, iteT ?_⟩
      exact ⟨_, rfl, _, rfl, b, CM, dd, _, v, rfl, xM, noM, ea.mono s3, rfl, by show 2 ≤ sizeLine; decide, fun p hp => h _ p s3 hp⟩
open LamX
section
variable {P : Program} {w : World} {K : PySem.W.Frag} {mg : Str → Option Value} {base : Heap} {k : Nat} {f : Addr} {fd : FuncData} {ps : List Str} {sp : Sp}
/-- a def by its body, which knows that nothing guards, and its code -/
theorem okG_code {x qual : Str} {st : Stmt} {N : List Str} (F : Fun K x qual st f fd) (S : FnScope N ps (defScope st)) (len : ∀ vs H Q E, sp vs H Q E → vs.length = ps.length)
    (body : ∀ (cdv : Value) (_ : fd.code = cdv) (A : Around) (outer : List Env) (s : Shared) (H : Hp) (vs : List V) (Q : VK) (E : XK), Room k (A.deeper (envOfC qual (defScope st) s.heap.objs.size f cdv)) →
      A.guards = some [] → sp vs H Q E → ∃ t, PSs (cxOf CX0 P w K mg base N qual (defScope st) f cdv A outer s H E).nox (defBody st) t ∧ t { nx := fun _ H' => Q .non H', rt := Q } (start N vs) H) :
    FnG P w K mg base CX0 (k + 1) f fd ps sp := by
  obtain ⟨oc, od, kV, doc, pm, an, cdv, ct, osl, rfl, lk, hcd⟩ := F.ex
  refine ⟨len, ?_⟩
  intro A outer s H args us vs Q E room gd e0 bnd rel want
  have size := len vs H Q E want
  have inK : K.In s.heap := e0.mod.kin.keeps fun b o z => And.left (e0.bs b o z)
  have room0 : s.heap.NoLimit := e0.mod.nolimit.keeps fun b o z => And.left (e0.bs b o z)
  have slots : ∀ y ∈ ps.zip us, (defScope st).names.lookup y.1 = some .local ∨ ((defScope st).names.lookup y.1 = some .cell ∧
      ((cellsFrom (s.heap.objs.size + 1) (defScope st).names []).lookup y.1).isSome = true) := by
    rintro ⟨n, v⟩ z
    refine (S.par n (List.of_mem_zip z).1).imp id fun c => ⟨c, ?_⟩
    exact PySem.W.cellsFrom_some _ _ _ (.inl c)
  refine codeAny_call_function room.depth (inK _ _ lk) rfl S.co S.gen rfl (PySem.W.codeRec_of inK hcd) (bnd _ _ _ _ ?_)
  refine wpAny_newFunctionEnv_cells S.kind slots ?_
  rintro env rfl s1 x
  refine ⟨room0.keeps x.toInCall.keep, codeAny_func ?_⟩
  obtain ⟨t, walk, say⟩ := body cdv rfl A outer s H vs Q E (room.deeper _) gd want
  have I := inv_start (CX := CX0) (E := E) S room.hd e0 size rel x
  refine wpAny_mono (walk.nox.run [] s1 (start N vs) H _ I say) (fun r s' z => ?_) (fun _ _ z => z)
  have last : ∀ {τ : L2.St} {G : Hp} {v : V} {u : Value}, Inv (cxOf CX0 P w K mg base N qual (defScope st) f cdv A outer s H E) [] τ G s' →
      RelV v u → Q v G → CE outer P w H s Q u s' := fun J r q => ⟨_, _, J.os, J.bare, J.base, J.hok, r, q⟩
  match r, z with
  | .ret u, z =>
    obtain ⟨v, τ, G, J, r1, q⟩ := z
    exact last J r1 q
  | .next, z =>
    obtain ⟨τ, G, J, q⟩ := z
    exact last (v := .non) (u := .none) J rfl q
  | .brk, z =>
    obtain ⟨τ, G, J, q⟩ := z
    exact q.elim
  | .cont, z =>
    obtain ⟨τ, G, J, q⟩ := z
    exact q.elim
end
/-! ### what the law keeps -/
def TL (PT : Addr) : List (Addr × Str) := [(PT, ("law" : Str) ++ ".<locals>." ++ "<lambda>")]
theorem tl_hu {PT : Addr} : ∀ p ∈ TL PT, p.1 = PT → p.2 = ("law" : Str) ++ ".<locals>." ++ "<lambda>" := fun p hp _ => by
  rw [List.mem_singleton.mp hp]
structure LS (p q : Addr) (cs : List Int) (PT : Addr) (n : Nat) (H : Hp) : Prop where
  sv : Sv p q cs n H
  tb : Tabs (TL PT) H
section
variable {p q PT : Addr} {cs : List Int} {n m : Nat} {H H' : Hp}
theorem LS.same (h : LS p q cs PT n H) (s : Same H H') : LS p q cs PT n H' := ⟨h.sv.same s, h.tb.ext fun b o e => s b o e⟩
theorem LS.mono (h : LS p q cs PT n H) (le : n ≤ m) : LS p q cs PT m H := ⟨h.sv.mono le, h.tb⟩
theorem LS.but (h : LS p q cs PT n H) (b : But p H H') (s : Sv p q cs m H') : LS p q cs PT m H' := by
  refine ⟨s, fun x hx => ?_⟩
  obtain ⟨ps, h1, h2, h3⟩ := h.tb x hx
  obtain ⟨_, _, hp, _⟩ := h.sv
  refine ⟨ps, b _ _ (fun z => ?_) h1, h2, fun pos cv hc => ?_⟩
  · rw [z, hp] at h1
    cases h1
  · obtain ⟨c, e1, e2⟩ := h3 pos cv hc
    refine ⟨c, e1, b _ _ (fun z => ?_) e2⟩
    rw [z, hp] at e2
    unfold CodeO at e2
    cases e2
theorem LS.ext (h : LS p q cs PT n H) (e : ExtN H H') (t : Tabs (TL PT) H') : LS p q cs PT n H' := by
  obtain ⟨a, r, h1, h2, h3⟩ := h.sv
  exact ⟨⟨a, r, e _ _ h1 (fun ps z => by cases z), e _ _ h2 (fun ps z => by cases z), h3⟩, t⟩
end
/-- no name, of few kinds -/
structure OddV (p : Addr) (H : Hp) (v : V) : Prop where
  an : An H v
  bad : nameB v = false
  nr : v ≠ .ref p
theorem OddV.but {p : Addr} {H H' : Hp} {v : V} (h : OddV p H v) (b : But p H H') : OddV p H' v := by
  obtain ⟨an, bad, nr⟩ := h
  refine ⟨?_, bad, nr⟩
  cases an with
  | non => exact .non
  | bl b => exact .bl b
  | int i => exact .int i
  | str h => exact .str h
  | lst h => exact .lst (b _ _ (fun z => nr (by rw [z])) h)
  | tup h => exact .tup (b _ _ (fun z => nr (by rw [z])) h)
  | dK h => exact .dK (b _ _ (fun z => nr (by rw [z])) h)
/-- all but p and the tables stay -/
def Keep (p : Addr) (H H' : Hp) : Prop := ∀ b o, b ≠ p → (∀ ps, o ≠ .tbl ps) → H b = some o → H' b = some o
theorem Keep.but {p : Addr} {H H' : Hp} (b : But p H H') : Keep p H H' := fun c o n _ h => b c o n h
theorem Keep.ext {p : Addr} {H H' : Hp} (b : ExtN H H') : Keep p H H' := fun c o _ n h => b c o h n
theorem Keep.same {p : Addr} {H H' : Hp} (b : Same H H') : Keep p H H' := fun c o _ _ h => b c o h
/-- what is no list of names -/
structure BadV (p : Addr) (H : Hp) (v : V) : Prop where
  an : An2 H v
  bad : namesB H v = false
  nr : v ≠ .ref p
  ni : ∀ x ∈ items H v, x ≠ .ref p
theorem An.keep {p : Addr} {H H' : Hp} {v : V} (h : An H v) (nr : v ≠ .ref p) (b : Keep p H H') : An H' v ∧ items H' v = items H v ∧ rowB H' v 0 200 = rowB H v 0 200 := by
  cases h with
  | non => exact ⟨.non, rfl, rfl⟩
  | bl b => exact ⟨.bl b, rfl, rfl⟩
  | int i => exact ⟨.int i, rfl, rfl⟩
  | str h => exact ⟨.str h, rfl, rfl⟩
  | lst h =>
    have h2 := b _ _ (fun z => nr (by rw [z])) (fun ps z => by cases z) h
    exact ⟨.lst h2, by simp [items, h, h2], by simp [rowB, h, h2]⟩
  | tup h =>
    have h2 := b _ _ (fun z => nr (by rw [z])) (fun ps z => by cases z) h
    exact ⟨.tup h2, by simp [items, h, h2], by simp [rowB, h, h2]⟩
  | dK h =>
    have h2 := b _ _ (fun z => nr (by rw [z])) (fun ps z => by cases z) h
    exact ⟨.dK h2, by simp [items, h, h2], by simp [rowB, h, h2]⟩
theorem BadV.keep {p : Addr} {H H' : Hp} {v : V} (h : BadV p H v) (b : Keep p H H') : BadV p H' v := by
  obtain ⟨a1, a2, a3⟩ := An.keep h.an.an h.nr b
  refine ⟨⟨a1, fun x hx => ?_⟩, ?_, h.nr, by rw [a2]; exact h.ni⟩
  · rw [a2] at hx
    exact (An.keep (h.an.it x hx) (h.ni x hx) b).1
  · have := h.bad
    unfold namesB at this ⊢
    rw [a2, a3]
    exact this
theorem bad_odd {p t : Addr} {H : Hp} {ys1 ys2 : List Str} {x : V} (h : H t = some (.lst (ys1.map V.str ++ [x] ++ ys2.map V.str))) (o : OddV p H x) (tp : t ≠ p) (g1 : ∀ z ∈ ys1, z.length ≤ 60) (g2 : ∀ z ∈ ys2, z.length ≤ 60) : BadV p H (.ref t) := by
  have e : items H (.ref t) = ys1.map V.str ++ [x] ++ ys2.map V.str := by simp [items, h]
  have mem : ∀ y ∈ items H (.ref t), (∃ z : Str, y = .str z ∧ z.length ≤ 60) ∨ y = x := by
    intro y hy
    rw [e] at hy
    rcases List.mem_append.mp hy with hy | hy
    · rcases List.mem_append.mp hy with hy | hy
      · obtain ⟨z, hz, rfl⟩ := List.mem_map.mp hy
        exact .inl ⟨z, rfl, g1 z hz⟩
      · exact .inr (List.mem_singleton.mp hy)
    · obtain ⟨z, hz, rfl⟩ := List.mem_map.mp hy
      exact .inl ⟨z, rfl, g2 z hz⟩
  refine ⟨⟨.lst h, fun y hy => ?_⟩, ?_, fun z => tp (by injection z), fun y hy => ?_⟩
  · rcases mem y hy with ⟨z, rfl, hz⟩ | rfl
    · exact .str (Nat.le_trans hz (by decide))
    · exact o.an
  · unfold namesB
    rw [e, List.all_append, List.all_append, List.all_cons, o.bad]
    simp
  · rcases mem y hy with ⟨z, rfl, hz⟩ | rfl
    · intro z; cases z
    · exact o.nr
theorem bad_long {p t : Addr} {H : Hp} {ys : List V} (h : H t = some (.lst ys)) (tp : t ≠ p) (lo : 200 < ys.length) (g : ∀ y ∈ ys, ∃ z : Str, y = .str z ∧ z.length ≤ 60) : BadV p H (.ref t) := by
  have e : items H (.ref t) = ys := by simp [items, h]
  refine ⟨⟨.lst h, fun y hy => ?_⟩, ?_, fun z => tp (by injection z), fun y hy => ?_⟩
  · rw [e] at hy
    obtain ⟨z, rfl, hz⟩ := g y hy
    exact .str (Nat.le_trans hz (by decide))
  · have : rowB H (.ref t) 0 200 = false := by
      simp only [rowB, h]
      rw [Bool.and_eq_false_iff]
      right
      rw [decide_eq_false_iff_not]
      omega
    unfold namesB
    rw [this]
    rfl
  · rw [e] at hy
    obtain ⟨z, rfl, hz⟩ := g y hy
    intro z; cases z
theorem sg_dec {z : Str} (h : (z.cps.toList.all fun c => c == 48 || c == 49) = true) : Sg z := fun c hc => by
  have := List.all_eq_true.mp h c hc
  simpa using this
theorem bad_plain {p : Addr} {H : Hp} {v : V} (a : An H v) (r : rowB H v 0 200 = false) (it : items H v = []) (nr : v ≠ .ref p) : BadV p H v :=
  ⟨⟨a, fun x hx => by rw [it] at hx; cases hx⟩, by unfold namesB; rw [r]; rfl, nr, fun x hx => by rw [it] at hx; cases hx⟩
abbrev T2 (a b : Str) : HO := .tup [.str a, .str b]
theorem heard_err {K : PySem.W.Frag} {CB CM CS C : Addr} {word w : Str} {H0 : Hp} {Q : VK} (hC : (C = CB ∧ word = "name") ∨ (C = CM ∧ word = "misfit")) (ex : PySem.W.exmOne K (.ref C) (.ref CS) = some true)
    (q : ∀ H' p, Same H0 H' → H' p = none → Q (.ref p) (upd H' p (.tup [.str word, .str w]))) : eBad C w H0 (fun cls d H' => PySem.W.exmOne K cls (.ref CS) = some true ∧ ∀ a, H' a = none → Rer CB CM cls d a (upd H' a (exv cls d a)) Q) := by
  intro H' d s hd
  refine ⟨ex, fun b hb => ?_⟩
  have bd : d ≠ b := fun z => by
    rw [z, upd_same] at hb
    cases hb
  have sAll := (s.trans (same_new (o := HO.xd [("part", V.str w)]) hd)).trans (same_new (o := exv (.ref C) (some d) b) hb)
  refine ⟨d, .str w, rfl, (upd_ne bd).trans upd_same, ?_⟩
  rcases hC with ⟨rfl, rfl⟩ | ⟨rfl, rfl⟩
  · exact .inl ⟨rfl, fun H2 p s2 hp => q H2 p (sAll.trans s2) hp⟩
  · exact .inr ⟨rfl, fun H2 p s2 hp => q H2 p (sAll.trans s2) hp⟩
theorem Keep.trans {p : Addr} {H H1 H2 : Hp} (a : Keep p H H1) (b : Keep p H1 H2) : Keep p H H2 := fun c o n1 n2 h => b c o n1 n2 (a c o n1 n2 h)
def D2 (a b : Str) : PyData := .tuple [.str a, .str b]
theorem dp2 {K : PySem.W.Frag} {H : Hp} {t : Addr} {a b : Str} (h : H t = some (T2 a b)) : Dp K H (.ref t) (D2 a b) := .tup (SqT.of h) (.cons (.str _) (.cons (.str _) .nil))
theorem names_facts {H : Hp} {x : Addr} {zs : List Str} (at_ : H x = some (.lst (zs.map V.str)) ∨ H x = some (.tup (zs.map V.str))) (few : zs.length ≤ 200) (good : Good zs) (ap : ApL zs) : An2 H (.ref x) ∧ namesB H (.ref x) = true ∧ apB H (.ref x) = true ∧ sgs H (.ref x) = cod zs ∧ lens H (.ref x) = zs.map (·.length) := by
  have e : items H (.ref x) = zs.map V.str := by rcases at_ with h | h <;> simp [items, h]
  have r : rowB H (.ref x) 0 200 = true := by
    rcases at_ with h | h <;> simp only [rowB, h, Bool.and_eq_true, decide_eq_true_eq, List.length_map] <;> omega
  have a : An H (.ref x) := by
    rcases at_ with h | h
    · exact .lst h
    · exact .tup h
  have sE : sgs H (.ref x) = cod zs := by
    unfold sgs
    rw [e, List.map_map]
    rfl
  refine ⟨⟨a, fun y hy => ?_⟩, ?_, ?_, sE, ?_⟩
  · rw [e] at hy
    obtain ⟨z, hz, rfl⟩ := List.mem_map.mp hy
    exact .str (Nat.le_trans (good.hi z hz) (by decide))
  · unfold namesB
    rw [r, e, List.all_map, Bool.true_and, List.all_eq_true]
    exact fun z hz => (good.sg z hz).name (good.lo z hz) (good.hi z hz)
  · exact apB_iff.mpr (by rw [sE]; exact ap)
  · unfold lens
    rw [e, List.map_map]
    rfl
theorem free_ok {CB CM : Addr} {H : Hp} {x : Addr} {zs : List Str} {Q : VK} {E : XK} (at_ : H x = some (.lst (zs.map V.str)) ∨ H x = some (.tup (zs.map V.str))) (few : zs.length ≤ 200) (good : Good zs) (ap : ApL zs)
    (q : ∀ H' p, Same H H' → H' p = none → Q (.ref p) (upd H' p (.tup (freV (cod zs))))) : spFree CB CM [.ref x] H Q E := by
  obtain ⟨f1, f2, f3, f4, _⟩ := names_facts at_ few good ap
  refine ⟨_, rfl, f1, fun z => (by rw [f2] at z; cases z), fun _ z => (by rw [f3] at z; cases z), fun _ _ => ?_⟩
  rw [f4]
  exact q
theorem shr_shs : ∀ zs : List Str, shr (zs.map (·.length)) = shs (cod zs)
  | [] => rfl
  | z :: zs => by
    have ih := shr_shs zs
    unfold shr at ih ⊢
    rw [List.map_cons, List.map_cons, List.sum_cons, ih]
    show _ = shs (z.cps.toList :: cod zs)
    rw [shs_cons, tl_len]
def frs (zs : List Str) : List Str := (fre (cod zs)).map SX.S
theorem frs_v (zs : List Str) : freV (cod zs) = (frs zs).map V.str := by
  unfold freV frs
  rw [List.map_map]
  rfl
theorem frs_cod (zs : List Str) : cod (frs zs) = fre (cod zs) := by
  unfold cod frs
  rw [List.map_map]
  have : ((fun z : Str => z.cps.toList) ∘ SX.S) = fun t => t := by
    funext t
    exact S_tl2 t
  rw [this, List.map_id']
theorem cod_app (a b : List Str) : cod (a ++ b) = cod a ++ cod b := List.map_append
theorem good_of {zs : List Str} (N : Nms (cod zs)) : Good zs ∧ ApL zs := by
  refine ⟨⟨fun z hz => N.sg _ (List.mem_map.mpr ⟨z, hz, rfl⟩), fun z hz => ?_, fun z hz => ?_⟩, N.ap⟩
  · have := N.lo _ (List.mem_map.mpr ⟨z, hz, rfl⟩)
    have l := List.length_pos_iff.mpr this
    rw [tl_len] at l
    exact l
  · have := N.hi _ (List.mem_map.mpr ⟨z, hz, rfl⟩)
    rw [tl_len] at this
    exact this
theorem nms_good {zs : List Str} (g : Good zs) (a : ApL zs) : Nms (cod zs) := nms_of a fun z hz => ⟨g.lo z hz, g.hi z hz, g.sg z hz⟩
theorem nms_perm {L M : Txs} (N : Nms L) (p : L.Perm M) : Nms M :=
  ⟨(ApartL.perm p).mp N.ap, fun z hz => N.lo z (p.mem_iff.mpr hz), fun z hz => N.hi z (p.mem_iff.mpr hz), fun z hz => N.sg z (p.mem_iff.mpr hz)⟩
theorem dp_strs {K : PySem.W.Frag} {H : Hp} : ∀ zs : List Str, DpAll K H (zs.map V.str) (zs.map PyData.str)
  | [] => .nil
  | z :: zs => .cons (.str z) (dp_strs zs)
theorem sh_str {z : Str} (sg : Sg z) (l : z.length ≤ 60) : Sh 0 700 (.str z) := by
  refine ⟨by simp [PyData.showable], by simp [PyData.hasDict], by simp [PyData.depth], ?_⟩
  simp only [PyData.shown]
  have := PySem.StrLaws.reprText_len z (fun c hc => by rcases sg c hc with rfl | rfl <;> decide)
  omega
theorem rep_strs {K : PySem.W.Frag} {H : Hp} {p : Addr} {zs : List Str} {Q : VK} (g : Good zs) (few : zs.length ≤ 200) (hp : H p = some (.tup (zs.map V.str))) (q : Q (.str (PyData.tuple (zs.map PyData.str)).shown) H) : rRepr K [.ref p] H Q := by
  refine rep_of (.tup (SqT.of hp) (dp_strs zs)) (Sh.tup (n := 0) (l := 700) (k := 200) (fun d hd => ?_) (by rw [List.length_map]; exact few)) (by decide) (by decide) q
  obtain ⟨z, hz, rfl⟩ := List.mem_map.mp hd
  exact sh_str (g.sg z hz) (g.hi z hz)
/-- why free names are refused -/
def CaseF (H : Hp) (v : V) (word : Str) : Prop := (namesB H v = false ∧ word = "name") ∨ (namesB H v = true ∧ apB H v = false ∧ word = "misfit")
theorem heard_free {K : PySem.W.Frag} {CB CM CS : Addr} {t : TA} {σ : L2.St} {HI : Hp} {word : Str} {Q : VK} (exB : PySem.W.exmOne K (.ref CB) (.ref CS) = some true) (exM : PySem.W.exmOne K (.ref CM) (.ref CS) = some true)
    (ht : ∀ R : List V → Hp → Prop, (∀ H0 v, Same HI H0 → An2 H0 v → CaseF H0 v word → R [v] H0) → t σ HI R) (q : ∀ H' p, Same HI H' → H' p = none → Q (.ref p) (upd H' p (T2 word "names"))) :
    TTh K CS Rok (Rer CB CM) (fun E H' Q' => tCallS (spFree CB CM) (fun σ => WE (fun cls d _ H => E cls d H) σ) t σ H' Q') HI Q := by
  refine ht _ fun H0 v s a2 c => ⟨v, rfl, a2, fun z => ?_, fun z1 z2 => ?_, fun z1 z2 => ?_⟩
  all_goals
    rcases c with ⟨c1, rfl⟩ | ⟨c1, c2, rfl⟩
    all_goals first
      | (exfalso; simp_all; done)
      | exact heard_err (.inl ⟨rfl, rfl⟩) exB fun H' p s' hp => q H' p (s.trans s') hp
      | exact heard_err (.inr ⟨rfl, rfl⟩) exM fun H' p s' hp => q H' p (s.trans s') hp
/-- two names of which one begins the other -/
theorem not_apart {H : Hp} {t : Addr} {ys1 ys2 : List Str} {y o : Str} (h : H t = some (.lst ((ys1 ++ [y] ++ ys2).map V.str))) (few : ys1.length + ys2.length ≤ 100) (g1 : ∀ z ∈ ys1 ++ [y] ++ ys2, Sg z ∧ 1 ≤ z.length ∧ z.length ≤ 60) (ho : o ∈ ys1 ∨ o ∈ ys2) (c : y.cps.toList <+: o.cps.toList ∨ o.cps.toList <+: y.cps.toList) :
    An2 H (.ref t) ∧ namesB H (.ref t) = true ∧ apB H (.ref t) = false := by
  have e : items H (.ref t) = (ys1 ++ [y] ++ ys2).map V.str := by simp [items, h]
  refine ⟨⟨.lst h, fun x hx => ?_⟩, ?_, ?_⟩
  · rw [e] at hx
    obtain ⟨z, hz, rfl⟩ := List.mem_map.mp hx
    exact .str (Nat.le_trans (g1 z hz).2.2 (by decide))
  · unfold namesB
    rw [e, List.all_map, Bool.and_eq_true, List.all_eq_true]
    refine ⟨?_, fun z hz => (g1 z hz).1.name (g1 z hz).2.1 (g1 z hz).2.2⟩
    simp only [rowB, h, Bool.and_eq_true, decide_eq_true_eq, List.length_append, List.length_map, List.length_cons, List.length_nil]
    omega
  · cases hq : apB H (.ref t) with
    | false => rfl
    | true =>
      exfalso
      have ap := apB_iff.mp hq
      unfold sgs at ap
      rw [e, List.map_map, List.map_append, List.map_append] at ap
      unfold ApartL at ap
      rw [List.pairwise_append, List.pairwise_append] at ap
      rcases ho with ho | ho
      · have := ap.1.2.2 o.cps.toList (List.mem_map.mpr ⟨o, ho, rfl⟩) y.cps.toList (by simp; rfl)
        rcases c with c | c
        · exact this.2 c
        · exact this.1 c
      · have := ap.2.2 y.cps.toList (by simp; right; rfl) o.cps.toList (List.mem_map.mpr ⟨o, ho, rfl⟩)
        rcases c with c | c
        · exact this.1 c
        · exact this.2 c
theorem cut_take {xs : List V} {at_ : Int} (h0 : 0 ≤ at_) (h1 : at_ ≤ xs.length) : cutV xs none (some at_) = xs.take at_.toNat ∧ cutV xs (some at_) none = xs.drop at_.toNat := by
  have a1 : HT.sIx xs.length xs.length (some at_) = min at_.toNat xs.length := by
    show (if at_ < 0 then (at_ + (xs.length : Int)).toNat else min at_.toNat xs.length) = _
    rw [if_neg (by omega)]
  have a2 : HT.sIx xs.length 0 (some at_) = min at_.toNat xs.length := by
    show (if at_ < 0 then (at_ + (xs.length : Int)).toNat else min at_.toNat xs.length) = _
    rw [if_neg (by omega)]
  have a3 : HT.sIx xs.length 0 none = 0 := rfl
  have a4 : HT.sIx xs.length xs.length none = xs.length := rfl
  unfold cutV
  rw [a1, a2, a3, a4, Nat.min_eq_left (by omega)]
  refine ⟨by rw [List.drop_zero, Nat.sub_zero], ?_⟩
  exact List.take_of_length_le (by rw [List.length_drop]; exact Nat.le_refl _)
theorem ne_T2 {K : PySem.W.Frag} {H : Hp} {a b : Addr} {x y : Str} {Q : VK} (ha : H a = some (T2 x y)) (hb : H b = some (T2 x y)) (sh : SeqAt.shaped (D2 x y) = true) (ev : PyData.eqv (D2 x y) (D2 x y) = true) (q : Q (.bl false) H) : rNeD K (.ref a) (.ref b) H Q := by
  refine ⟨_, _, dp2 ha, dp2 hb, sh, sh, ?_⟩
  rw [ev]
  exact q
end K05
set_option Elab.async false
set_option linter.all false
set_option maxRecDepth 100000
set_option maxHeartbeats 4000000
namespace K05
open PySem PySem.Spec PyProof.Rows L2 Own LamX
def bit (i j : Nat) : Str := if i / 2 ^ j % 2 = 0 then "0" else "1"
def bitsS (i : Nat) : List Str := ((List.range 8).map fun j => bit i j).reverse
def manyS (i : Nat) : Str := Txt.join "" (bitsS i)
def bits8 (i : Nat) : List Nat := ((List.range 8).map fun j => 48 + i / 2 ^ j % 2).reverse
def manyZ : List Str := ((List.range 200).map manyS).reverse
theorem many_cod : cod manyZ = ((List.range 200).map bits8).reverse := by decide +kernel
theorem str_int0 : Str.ofString (toString (0 : Int)) = "0" := by decide +kernel
theorem str_int1 : Str.ofString (toString (1 : Int)) = "1" := by decide +kernel
theorem bit_is (i j : Nat) : Str.ofString (toString ((0 + (i : Int)) / 2 ^ (0 + (j : Int)).toNat % 2)) = bit i j := by
  have e : ((0 + (i : Int)) / 2 ^ (0 + (j : Int)).toNat % 2) = ((i / 2 ^ j % 2 : Nat) : Int) := by
    rw [Int.zero_add, Int.zero_add, Int.toNat_natCast]
    push_cast
    rfl
  rw [e]
  unfold bit
  have : i / 2 ^ j % 2 < 2 := Nat.mod_lt _ (by decide)
  by_cases h : i / 2 ^ j % 2 = 0
  · rw [if_pos h, h]
    exact str_int0
  · rw [if_neg h, show i / 2 ^ j % 2 = 1 by omega]
    exact str_int1
theorem many_len : manyZ.length = 200 := by unfold manyZ; simp
theorem bits_ok : ((List.range 200).map bits8).all (fun t => decide (t.length = 8) && t.all fun c => c == 48 || c == 49) = true := by decide +kernel
def bval (t : List Nat) : Nat := t.foldl (fun a c => 2 * a + (c - 48)) 0
theorem bits_val : (List.range 200).all (fun i => decide (bval (bits8 i) = i)) = true := by decide +kernel
theorem bits_nd : (((List.range 200).map bits8).reverse).Nodup := by
  refine (List.reverse_perm _).nodup_iff.mpr ?_
  have h : (List.range 200).Pairwise (· ≠ ·) := List.nodup_range
  refine List.pairwise_map.mpr (h.imp_of_mem fun {a b} ha hb ne e => ne ?_)
  have va := of_decide_eq_true (List.all_eq_true.mp bits_val a ha)
  have vb := of_decide_eq_true (List.all_eq_true.mp bits_val b hb)
  rw [← va, ← vb, e]
theorem many_shs : shs (((List.range 200).map bits8).reverse) = 200 * 2 ^ 52 := by decide +kernel
theorem red_many : redV (200 * 2 ^ 52) (2 ^ 60) = [.int 25, .int 32] := by decide +kernel
theorem perm_shs {A B : Txs} (p : A.Perm B) : shs A = shs B := by
  unfold shs
  exact (p.map _).sum_nat
theorem nd_sum : ∀ {A B : Txs}, A.Nodup → (∀ t ∈ A, t ∈ B) → shs A ≤ shs B
  | [], _, _, _ => Nat.zero_le _
  | a :: A, B, nd, sub => by
    have ha := sub a List.mem_cons_self
    rw [List.nodup_cons] at nd
    have := nd_sum (A := A) (B := B.erase a) nd.2 fun t ht => by
      refine (List.mem_erase_of_ne fun z => nd.1 (by rw [← z]; exact ht)).mpr (sub t (List.mem_cons_of_mem _ ht))
    rw [perm_shs (List.perm_cons_erase ha), shs_cons, shs_cons]
    omega
abbrev manyL : Txs := ((List.range 200).map bits8).reverse
abbrev manyX : Txs := [[49, 49, 48, 48, 49], [49, 49, 48, 49], [49, 49, 49]]
theorem many_free : manyX.all (fun x => (manyL.any fun z => (x.take (x.length - 1)).isPrefixOf z && decide (x.length ≤ z.length)) && manyL.all (fun z => !x.isPrefixOf z)) = true := by decide +kernel
theorem isf {L : Txs} {x u : List Nat} {s : Nat} (hx : x = u ++ [s]) (hs : s = 48 ∨ s = 49) (h : ((L.any fun z => (x.take (x.length - 1)).isPrefixOf z && decide (x.length ≤ z.length)) && L.all (fun z => !x.isPrefixOf z)) = true) : IsFree L x := by
  rw [Bool.and_eq_true, List.any_eq_true, List.all_eq_true] at h
  obtain ⟨⟨z, hz, hp⟩, h2⟩ := h
  rw [Bool.and_eq_true, List.isPrefixOf_iff_prefix, decide_eq_true_eq] at hp
  have eu : x.take (x.length - 1) = u := by rw [hx]; simp
  rw [eu] at hp
  have no : ∀ z ∈ L, ¬ x <+: z := fun z hz h => by
    have := h2 z hz
    rw [Bool.not_eq_true', ← Bool.not_eq_true, List.isPrefixOf_iff_prefix] at this
    exact this h
  refine ⟨⟨u, s, hs, hx, .inr ⟨z, hz, hp.1, fun e => ?_⟩⟩, fun h => ?_, fun h => no x h (List.prefix_refl _)⟩
  · have := hp.2
    rw [hx, ← e] at this
    simp at this
    omega
  · rcases h with h | ⟨z, hz, h, _⟩
    · rw [hx] at h
      simp at h
    · exact no z hz h
theorem many_nms : Nms (cod manyZ) := by
  rw [many_cod]
  have ok : ∀ t ∈ ((List.range 200).map bits8).reverse, t.length = 8 ∧ ∀ c ∈ t, c = 48 ∨ c = 49 := by
    intro t ht
    have := List.all_eq_true.mp bits_ok t (List.mem_reverse.mp ht)
    simpa using this
  refine ⟨?_, fun t ht q => ?_, fun t ht => ?_, fun t ht => (ok t ht).2⟩
  · refine List.Pairwise.imp_of_mem (fun {a b} ha hb ne => ⟨fun h => ne ?_, fun h => ne ?_⟩) bits_nd
    · exact h.eq_of_length (by rw [(ok a ha).1, (ok b hb).1])
    · exact (h.eq_of_length (by rw [(ok a ha).1, (ok b hb).1])).symm
  · have := (ok t ht).1
    rw [q] at this
    cases this
  · rw [(ok t ht).1]
    decide
theorem many_fre : fre (((List.range 200).map bits8).reverse) = [[49, 49, 48, 48, 49], [49, 49, 48, 49], [49, 49, 49]] := by
  have N : Nms manyL := by
    have := many_nms
    rw [many_cod] at this
    exact this
  have ok := List.all_eq_true.mp many_free
  have sub : ∀ t ∈ manyX, t ∈ fre manyL := by
    simp only [manyX, List.forall_mem_cons]
    refine ⟨?_, ?_, ?_, fun x hx => (nomatch hx)⟩
    · exact (fre_mem N _).mpr (isf (u := [49, 49, 48, 48]) (s := 49) rfl (.inr rfl) (ok _ (by simp)))
    · exact (fre_mem N _).mpr (isf (u := [49, 49, 48]) (s := 49) rfl (.inr rfl) (ok _ (by simp)))
    · exact (fre_mem N _).mpr (isf (u := [49, 49]) (s := 49) rfl (.inr rfl) (ok _ (by simp)))
  refine asc_eq (free_sorted 61 []) (by decide) fun t => ⟨fun ht => ?_, sub t⟩
  refine Decidable.byContradiction fun nt => ?_
  have := nd_sum (A := t :: manyX) (B := fre manyL) (List.nodup_cons.mpr ⟨nt, by decide⟩) (fun y hy => by
    rcases List.mem_cons.mp hy with rfl | hy
    · exact ht
    · exact sub y hy)
  have s := fre_sum N
  rw [shs_cons] at this
  have e1 : shs manyL = 200 * 2 ^ 52 := many_shs
  have e2 : shs manyX = 56 * 2 ^ 52 := by decide +kernel
  rw [e1] at s
  rw [e2] at this
  have p := Nat.two_pow_pos (60 - t.length)
  omega
theorem many_good : Good manyZ ∧ ApL manyZ := good_of many_nms
theorem many_v : freV (cod manyZ) = (([("11001" : Str), "1101", "111"]) : List Str).map V.str := by
  unfold freV
  rw [many_cod, many_fre]
  have e1 : SX.S [49, 49, 48, 48, 49] = "11001" := str_ext (by rw [S_tl2]; decide +kernel)
  have e2 : SX.S [49, 49, 48, 49] = "1101" := str_ext (by rw [S_tl2]; decide +kernel)
  have e3 : SX.S [49, 49, 49] = "111" := str_ext (by rw [S_tl2]; decide +kernel)
  simp only [List.map_cons, List.map_nil, e1, e2, e3]
theorem many_vsg : ∀ z ∈ (([("11001" : Str), "1101", "111"]) : List Str), Sg z := by
  simp only [List.forall_mem_cons]
  exact ⟨sg_dec (by decide +kernel), sg_dec (by decide +kernel), sg_dec (by decide +kernel), fun x hx => (nomatch hx)⟩
theorem bits_len (i : Nat) : ((bitsS i).map (·.length)).sum = 8 := by
  have h : ∀ j, (bit i j).length = 1 := fun j => by
    unfold bit
    split <;> decide +kernel
  unfold bitsS
  rw [List.map_reverse, List.map_map]
  simp only [List.range, List.range.loop, List.map_cons, List.map_nil, Function.comp, h, List.reverse_cons, List.reverse_nil, List.nil_append, List.cons_append, List.sum_cons, List.sum_nil]
  rfl
theorem nil_v : freV (cod []) = (([("0" : Str), "1"]) : List Str).map V.str := by
  unfold freV
  have e0 : fre (cod []) = [[48], [49]] := by decide +kernel
  rw [e0]
  have e1 : SX.S [48] = "0" := str_ext (by rw [S_tl2]; decide +kernel)
  have e2 : SX.S [49] = "1" := str_ext (by rw [S_tl2]; decide +kernel)
  simp only [List.map_cons, List.map_nil, e1, e2]
theorem nil_sg : ∀ z ∈ (([("0" : Str), "1"]) : List Str), Sg z := by
  simp only [List.forall_mem_cons]
  exact ⟨sg_dec (by decide +kernel), sg_dec (by decide +kernel), fun x hx => (nomatch hx)⟩
theorem nil_good : Good [] ∧ ApL [] := ⟨⟨fun z hz => (nomatch hz), fun z hz => (nomatch hz), fun z hz => (nomatch hz)⟩, List.Pairwise.nil⟩
end K05
set_option Elab.async false
set_option linter.all false
set_option maxRecDepth 100000
set_option maxHeartbeats 4000000
namespace K05
open PySem PySem.Spec PyProof.Rows L2 Own LamX
def scM : Scope := { kind := ScopeKind.function, names := [(".0", NameKind.local), ("number", NameKind.cell), ("range", NameKind.globalImplicit)], isGenerator := false, isCoroutine := false }
theorem pe_revLK {X : Cx} {K : PySem.W.Frag} {e : Expr} {te : TE} {k : Nat} {p1 p2 p3 pos : Pos} (hK : X.K = K) (he : PE X e te) : PE X (.Subscript e (.Slice none none (some (.UnaryOp .USub (.Constant (.int 1) k p1) p2)) p3) pos) (tRevL K te) := hK ▸ pe_revL he
def spLawT (PT : Addr) (K : PySem.W.Frag) : Sp := fun vs H Q _ => ∃ (a : Addr) (ns : List Int), vs = [.ref a] ∧ SqL K H a (ns.map V.int) ∧ H PT = some (.tbl #[]) ∧ ∀ H', Q (.bl true) H'
theorem apart_ok {CB : Addr} {H : Hp} {x : Addr} {zs : List Str} {Q : VK} {E : XK} (at_ : H x = some (.lst (zs.map V.str)) ∨ H x = some (.tup (zs.map V.str))) (few : zs.length ≤ 200) (good : Good zs) (ap : ApL zs)
    (q : ∀ H', Same H H' → Q (.bl true) H') : spApart CB [.ref x] H Q E := by
  obtain ⟨f1, f2, f3, f4, _⟩ := names_facts at_ few good ap
  refine ⟨_, rfl, f1, fun _ => ?_, fun z => (by rw [f2] at z; cases z)⟩
  rw [f3]
  exact q
theorem share_ok {CB : Addr} {H : Hp} {x : Addr} {zs : List Str} {Q : VK} {E : XK} (at_ : H x = some (.lst (zs.map V.str)) ∨ H x = some (.tup (zs.map V.str))) (few : zs.length ≤ 200) (good : Good zs) (ap : ApL zs)
    (q : ∀ H' p, Same H H' → H' p = none → Q (.ref p) (upd H' p (.tup (redV (shs (cod zs)) (2 ^ 60))))) : spShare CB [.ref x] H Q E := by
  obtain ⟨f1, f2, f3, f4, f5⟩ := names_facts at_ few good ap
  refine ⟨_, rfl, f1, fun _ => ?_, fun z => (by rw [f2] at z; cases z)⟩
  rw [f5, shr_shs]
  exact q
theorem red_one : redV (2 ^ 60) (2 ^ 60) = [.int 1, .int 1] := by decide +kernel
theorem ne_ints {K : PySem.W.Frag} {H : Hp} {a b : Addr} {i j : Int} {Q : VK} (ha : H a = some (.tup [.int i, .int j])) (hb : H b = some (.tup [.int i, .int j])) (sh : SeqAt.shaped (.tuple [.int i, .int j]) = true) (ev : PyData.eqv (.tuple [.int i, .int j]) (.tuple [.int i, .int j]) = true) (q : Q (.bl false) H) : rNeD K (.ref a) (.ref b) H Q := by
  refine ⟨_, _, .tup (SqT.of ha) (.cons (.int _) (.cons (.int _) .nil)), .tup (SqT.of hb) (.cons (.int _) (.cons (.int _) .nil)), sh, sh, ?_⟩
  rw [ev]
  exact q
theorem dp_txs {K : PySem.W.Frag} {H : Hp} {a : Addr} {zs : List Str} (h : H a = some (.tup (zs.map V.str))) : Dp K H (.ref a) (.tuple (zs.map PyData.str)) := .tup (SqT.of h) (dp_strs zs)
theorem shaped_tup {zs : List Str} (h : ∀ z ∈ zs, Sg z) : SeqAt.shaped (.tuple (zs.map PyData.str)) = true := by
  unfold SeqAt.shaped
  simp [PyData.canLay0, PyData.depth, canLay_tx zs h, depth_tx]
theorem ne_txs {K : PySem.W.Frag} {H : Hp} {a b : Addr} {zs : List Str} {Q : VK} (ha : H a = some (.tup (zs.map V.str))) (hb : H b = some (.tup (zs.map V.str))) (g : ∀ z ∈ zs, Sg z) (q : Q (.bl false) H) : rNeD K (.ref a) (.ref b) H Q := by
  refine ⟨_, _, dp_txs ha, dp_txs hb, shaped_tup g, shaped_tup g, ?_⟩
  rw [SeqAt.eqv_refl _ (by simp [PyData.canLay0, canLay_tx zs g])]
  exact q
theorem eq_txs {K : PySem.W.Frag} {H : Hp} {a b : Addr} {zs : List Str} {Q : VK} (ha : H a = some (.tup (zs.map V.str))) (hb : H b = some (.tup (zs.map V.str))) (g : ∀ z ∈ zs, Sg z) (q : Q (.bl true) H) : rEqD K (.ref a) (.ref b) H Q := by
  refine ⟨_, _, dp_txs ha, dp_txs hb, shaped_tup g, shaped_tup g, ?_⟩
  rw [SeqAt.eqv_refl _ (by simp [PyData.canLay0, canLay_tx zs g])]
  exact q
structure G1 (z : Str) : Prop where
  sg : Sg z
  lo : 1 ≤ z.length
  hi : z.length ≤ 60
theorem Good.g1 {zs : List Str} (g : Good zs) : ∀ z ∈ zs, G1 z := fun z hz => ⟨g.sg z hz, g.lo z hz, g.hi z hz⟩
theorem cut_pre {z : Str} {i : Int} (sg : Sg z) (lo : 1 ≤ z.length) (h0 : 1 ≤ i) (h1 : i ≤ 60) : G1 (Txt.slice z none (some i)) ∧ (Txt.slice z none (some i)).cps.toList = z.cps.toList.take i.toNat := by
  have e : Txt.slice z none (some i) = SX.S (z.cps.toList.take i.toNat) := by
    have := SX.slice_to (a := z.cps.toList) (i := i) (by omega)
    rw [SX.S_tl] at this
    exact this
  have le : (Txt.slice z none (some i)).length = min i.toNat z.length := by
    rw [e]
    simp [SX.S, Str.length]
  refine ⟨⟨?_, by rw [le]; omega, by rw [le]; omega⟩, by rw [e, S_tl2]⟩
  rw [e]
  intro c hc
  rw [S_tl2] at hc
  exact sg c (List.mem_of_mem_take hc)
theorem cut_two {zs : List Str} {at_ : Int} (h0 : 0 ≤ at_) (h1 : at_ ≤ zs.length) : cutV (zs.map V.str) none (some at_) = (zs.take at_.toNat).map V.str ∧ cutV (zs.map V.str) (some at_) none = (zs.drop at_.toNat).map V.str := by
  obtain ⟨c1, c2⟩ := cut_take (xs := zs.map V.str) h0 (by rw [List.length_map]; exact h1)
  rw [c1, c2, List.map_take, List.map_drop]
  exact ⟨rfl, rfl⟩
theorem odd_list {p q : Addr} {cs : List Int} {n : Nat} {σ : L2.St} {H : Hp} {Q : List V → Hp → Prop}
    (h : ∀ (l : Addr) (xs : List V) (H' : Hp), Same H H' → (H' l = some (.lst xs) ∧ l ≠ p) → xs.length = 7 → (∀ x ∈ xs, OddV p H' x) → Q [.ref l] H') (sv : Sv p q cs n H) :
    tCons (tLst (tCons (tC (V.str "")) (tCons (tC (V.str "2")) (tCons (tOp (fun x y H Q => ∃ z i, x = V.str z ∧ y = V.int i ∧ z.length ≤ 1 ∧ 0 ≤ i ∧ i ≤ 100000 ∧ Q (V.str (Txt.mul z i)) H) (tC (V.str "0")) (tC (V.int 61)))
      (tCons (tC V.non) (tCons (tC (V.int 0)) (tCons (tLst (tCons (tC (V.str "1")) tNil)) (tCons (tC (V.str "1-0")) tNil)))))))) tNil σ H Q := by
  refine ⟨"0", 61, rfl, rfl, by decide +kernel, by decide, by decide, ?_⟩
  refine ⟨by show 1 ≤ sizeLine; decide, fun t ht => ?_⟩
  have s1 := same_new (o := HO.lst [V.str "1"]) ht
  have h1 : upd H t (HO.lst [V.str "1"]) t = some (.lst [V.str "1"]) := upd_same
  have tp : t ≠ p := sv_ne sv ht
  generalize upd H t (HO.lst [V.str "1"]) = H1 at s1 h1 ⊢
  refine ⟨by show 7 ≤ sizeLine; decide, fun l hl => ?_⟩
  have s2 := same_new (o := HO.lst [V.str "", V.str "2", V.str (Txt.mul "0" 61), V.non, V.int 0, V.ref t, V.str "1-0"]) hl
  refine h l _ _ (s1.trans s2) ⟨upd_same, sv_ne (sv.same s1) hl⟩ rfl ?_
  have h2 := s2 _ _ h1
  simp only [List.forall_mem_cons]
  refine ⟨⟨.str (by decide +kernel), by decide +kernel, fun z => by cases z⟩, ⟨.str (by decide +kernel), by decide +kernel, fun z => by cases z⟩, ⟨.str (by decide +kernel), by decide +kernel, fun z => by cases z⟩, ⟨.non, rfl, fun z => by cases z⟩, ⟨.int _, rfl, fun z => by cases z⟩, ⟨.lst h2, rfl, fun z => tp (by injection z)⟩, ⟨.str (by decide +kernel), by decide +kernel, fun z => by cases z⟩, fun x hx => (nomatch hx)⟩
section
variable {P : Program} {w : World} {K : PySem.W.Frag} {mg : Str → Option Value} {base : Heap}
theorem ok_law {CB CM CS PT cC g f : Addr} {fd fdg : FuncData} (F : Fun K "law" "law" s_law f fd) (hcode0 : fd.code = .ref cC) (TB : TabB base mg cC PT) (T : Txt mg)
    (FH : Fun K "_law_heard" "_law_heard" s__law_heard g fdg) (mH : mg "_law_heard" = some (.ref g)) (kH : PySem.W.keepIn K (.ref g) = true) (bH0 : Binds K fdg ["ask"] [])
    (xB : ExC K CB) (xM : ExC K CM) (atB : mg "BadName" = some (.ref CB)) (atM : mg "Misfit" = some (.ref CM)) (atT : mg "TickError" = some (.ref CS)) (noB : PySem.W.findIn K (.ref CB) "part" = some none) (noM : PySem.W.findIn K (.ref CM) "part" = some none)
    (kBB : PySem.W.kitOne K (.ref CB) (.ref CB) = some true) (kBM : PySem.W.kitOne K (.ref CB) (.ref CM) = some false) (kMB : PySem.W.kitOne K (.ref CM) (.ref CB) = some false) (kMM : PySem.W.kitOne K (.ref CM) (.ref CM) = some true)
    (exB : PySem.W.exmOne K (.ref CB) (.ref CS) = some true) (exM : PySem.W.exmOne K (.ref CM) (.ref CS) = some true)
    (C_are_apart : CalX P w K mg base 4 "are_apart" ["names"] (spApart CB)) (C_share_of : CalX P w K mg base 4 "share_of" ["names"] (spShare CB))
    (C_free_names : CalX P w K mg base 6 "free_names" ["names"] (spFree CB CM)) (K_free_names : CalXK P w K mg base 6 "free_names" ["names"] ["names"] (fun l => l) (spFree CB CM))
    (C__law_grove : Cal P w K mg base 1 "_law_grove" ["script"] (spSieve K)) (C__law_fell : Cal P w K mg base 1 "_law_fell" ["grove", "many"] spSift) (C__law_stem : Cal P w K mg base 2 "_law_stem" ["grove", "some"] spOne)
    (C__law_names : Cal P w K mg base 8 "_law_names" ["grove"] spNames) (C__law_free : Cal P w K mg base 63 "_law_free" ["names", "begin"] (spLF 60)) : FnG P w K mg base CX0 64 f fd ["script"] (spLawT PT K) := by
  obtain ⟨ocH, odH, kVH, docH, pmH, anH, cdvH, ctH, oslH, rfl, lkH, cdH⟩ := FH.ex
  have bH : Binds K _ ["ask"] [] := bH0
  refine okG_code F sc_law (fun vs H Q E h => ?_) (fun cdv hcd A outer s H vs Q E hr gd h => ?_)
  · obtain ⟨a, ns, rfl, _⟩ := h
    rfl
  · obtain ⟨a, ns, rfl, hS, hT, k⟩ := h
    have hcode : cdv = .ref cC := hcd.symm.trans hcode0
    subst hcode
    have hcode : (Value.ref cC) = .ref cC := rfl
    refine ⟨_, (pss_cons (ps_set (i := 1) sc_law.nd rfl (Or.inl rfl) (pe_cal C__law_grove (hr.mono (by decide)) (pa_cons (pv 0) pa_nil)))
  (pss_cons (ps_for PassesOwn.never rfl (pi_range1 rfl T.b_range (pa_cons pe_int pa_nil)) (pg_name (i := 2) sc_law.nd rfl (Or.inl rfl))
  (pss_cons (ps_set (i := 3) sc_law.nd rfl (Or.inl rfl) (pe_cal C__law_names (hr.mono (by decide)) (pa_cons (pv 1) pa_nil)))
  (pss_cons (ps_par (i := 4) (j := 5) rfl sc_law.nd rfl rfl (by decide) rfl rfl (pa_cons (pe_callTy call_list_of (by rfl) T.b_list boot_list (pa_cons (pv 3) pa_nil)) (pa_cons (pe_callTy call_tuple_of (by rfl) T.b_tuple boot_tuple (pa_cons (pe_cal C__law_free (hr.mono (by decide)) (pa_cons (pv 3) (pa_cons pe_str pa_nil))) pa_nil)) pa_nil)) rfl)
  (pss_cons (ps_set (i := 6) sc_law.nd rfl (Or.inl rfl) (pe_calX C_free_names (hr.mono (by decide)) (pa_cons (pv 3) pa_nil)))
  (pss_cons (ps_if (PW.pt (pw_or (pt_cmpR op_ne (pe_callB (call_repr gd (hu64 hr)) (by rfl) T.b_repr boot_repr (pa_cons (pv 6) pa_nil)) (pe_callB (call_repr gd (hu64 hr)) (by rfl) T.b_repr boot_repr (pa_cons (pv 5) pa_nil)) (nomark _)) (pw_or (pt_cmpR op_ne (pe_callB (call_repr gd (hu64 hr)) (by rfl) T.b_repr boot_repr (pa_cons (pe_calXK K_free_names (hr.mono (by decide)) (pk_cons (pe_callTy call_tuple_of (by rfl) T.b_tuple boot_tuple (pa_cons (pv 3) pa_nil)) pk_nil)) pa_nil)) (pe_callB (call_repr gd (hu64 hr)) (by rfl) T.b_repr boot_repr (pa_cons (pv 5) pa_nil)) (nomark _)) (pw_or1 (pt_cmpR (op_neD (hu64 hr)) (pv 3) (pv 4) (nomark _))))))
  (pss_one (ps_ret pe_bl))
  pss_nil)
  (pss_cons (ps_if (PW.pt (pw_or (pt_not (pt_val (pe_calX C_are_apart (hr.mono (by decide)) (pa_cons (pe_op op_cat (pv 3) (pe_callTy call_list_of (by rfl) T.b_list boot_list (pa_cons (pv 6) pa_nil))) pa_nil)))) (pw_or (pt_cmpR (op_neD (hu64 hr)) (pe_calX C_share_of (hr.mono (by decide)) (pa_cons (pe_op op_cat (pe_callTy call_list_of (by rfl) T.b_list boot_list (pa_cons (pv 6) pa_nil)) (pv 3)) pa_nil)) (pe_tup (pa_cons pe_int (pa_cons pe_int pa_nil))) (nomark _)) (pw_or1 (pt_cmpR (op_neD (hu64 hr)) (pe_calX C_free_names (hr.mono (by decide)) (pa_cons (pe_op op_cat (pv 3) (pe_callTy call_list_of (by rfl) T.b_list boot_list (pa_cons (pv 6) pa_nil))) pa_nil)) (pe_tup pa_nil) (nomark _))))))
  (pss_one (ps_ret pe_bl))
  pss_nil)
  (pss_cons (ps_set (i := 7) sc_law.nd rfl (Or.inl rfl) (pe_cal C__law_fell (hr.mono (by decide)) (pa_cons (pv 1) (pa_cons (pe_op op_add (pe_callB call_len_seq (by rfl) T.b_len boot_len (pa_cons (pv 3) pa_nil)) pe_int) pa_nil))))
  (C8.pss_cut (ps_if (pt_cmpR (op_neD (hu64 hr)) (pv 3) (pe_lst pa_nil) (nomark _))
  (pss_cons (ps_set (i := 8) sc_law.nd rfl (Or.inl rfl) (pe_cal C__law_stem (hr.mono (by decide)) (pa_cons (pv 1) (pa_cons (pv 3) pa_nil))))
  (pss_cons (ps_set (i := 11) sc_law.nd rfl (Or.inr rfl) (pe_op op_cat (pe_op op_cat (pe_slice sl_list (pv 3) po_none (po_some (pv 7))) (pe_lst (pa_cons (pe_cal C__law_stem (hr.mono (by decide)) (pa_cons (pv 1) (pa_cons (pe_lst (pa_cons (pv 8) (pa_cons (pe_slice C8.sl_txt (pv 8) po_none (po_some (pe_op op_add pe_int (pe_cal C__law_fell (hr.mono (by decide)) (pa_cons (pv 1) (pa_cons (pe_callB call_len_str (by rfl) T.b_len boot_len (pa_cons (pv 8) pa_nil)) pa_nil)))))) (pa_cons (pe_slice C8.sl_txt (pe_op op_add_str (pv 8) pe_str) po_none (po_some pe_int)) pa_nil)))) pa_nil))) pa_nil))) (pe_slice sl_list (pv 3) (po_some (pv 7)) po_none)))
  (pss_one (ps_if (pt_cmpR (op_neD (hu64 hr)) (pe_lamcall (T := TL PT) (TT := TTh K CS Rok (Rer CB CM)) (a := "ask") (c := cC) (P := PT) (k := 6) rfl mH kH lkH cdH bH sc__law_heard rfl (Or.inl rfl) (heard_ok T xB xM atB atM atT noB noM kBB kBM kMB kMM) TB hcode (List.mem_singleton.mpr rfl) tl_hu (hr.mono (by decide)) (lamS_by (by show lamSB (defScope s_law) _ = true; decide +kernel)) rfl (fun _ _ _ _ _ => rfl)
    (fun A outer s H E f c' hr2 => (pe_calE (W := fun cls d _ H => E cls d H) C_free_names (takes_of rfl rfl rfl rfl) hr2 (pa_cons (pv 11) pa_nil)))) (pe_tup (pa_cons pe_str (pa_cons pe_str pa_nil))) (nomark _))
  (pss_one (ps_ret pe_bl))
  pss_nil))))
  pss_nil)
  (pss_cons (ps_set (i := 9) sc_law.nd rfl (Or.inl rfl) (pe_cal C__law_stem (hr.mono (by decide)) (pa_cons (pv 1) (pa_cons (pe_lst (pa_cons pe_str (pa_cons pe_str (pa_cons (pe_op op_mulS pe_str pe_int) (pa_cons pe_non (pa_cons pe_int (pa_cons (pe_lst (pa_cons pe_str pa_nil)) (pa_cons pe_str pa_nil)))))))) pa_nil))))
  (pss_one (ps_for PassesOwn.never rfl (pi_tup (pe_tup (pa_cons (pe_op op_cat (pv 3) (pe_lst (pa_cons (pv 9) pa_nil))) (pa_cons (pe_op op_cat (pe_op op_cat (pe_slice sl_list (pv 3) po_none (po_some (pv 7))) (pe_lst (pa_cons pe_str (pa_cons (pv 9) (pa_cons pe_str pa_nil))))) (pe_slice sl_list (pv 3) (po_some (pv 7)) po_none)) (pa_cons (pe_cal C__law_stem (hr.mono (by decide)) (pa_cons (pv 1) (pa_cons (pe_lst (pa_cons pe_non (pa_cons pe_str (pa_cons pe_int (pa_cons pe_dnewK pa_nil))))) pa_nil))) (pa_cons (pe_op op_rep (pe_lst (pa_cons pe_str pa_nil)) pe_int) pa_nil)))))) (pg_name (i := 12) sc_law.nd rfl (Or.inr rfl))
  (pss_one (ps_if (pt_cmpR (op_neD (hu64 hr)) (pe_lamcall (T := TL PT) (TT := TTh K CS Rok (Rer CB CM)) (a := "ask") (c := cC) (P := PT) (k := 6) rfl mH kH lkH cdH bH sc__law_heard rfl (Or.inl rfl) (heard_ok T xB xM atB atM atT noB noM kBB kBM kMB kMM) TB hcode (List.mem_singleton.mpr rfl) tl_hu (hr.mono (by decide)) (lamS_by (by show lamSB (defScope s_law) _ = true; decide +kernel)) rfl (fun _ _ _ _ _ => rfl)
    (fun A outer s H E f c' hr2 => (pe_calE (W := fun cls d _ H => E cls d H) C_free_names (takes_of rfl rfl rfl rfl) hr2 (pa_cons (pv 12) pa_nil)))) (pe_tup (pa_cons pe_str (pa_cons pe_str pa_nil))) (nomark _))
  (pss_one (ps_ret pe_bl))
  pss_nil)))))))))))))
  (C8.pss_cut (ps_if (pt_cmpR op_eq (pe_cal C__law_fell (hr.mono (by decide)) (pa_cons (pv 1) (pa_cons pe_int pa_nil))) pe_int (nomark _))
  (pss_cons (ps_set (i := 10) sc_law.nd rfl (Or.inl rfl) (pe_revL (pe_lc (own := [("number", 13)]) (g := gName 13) (tt := tYes) rfl sc_law.nd (pi_range1 rfl T.b_range (pa_cons pe_int pa_nil)) (blkOk_by (own := [("number", 13)]) (N := N_law) (sc := defScope s_law) (by decide +kernel)) (fun _ _ _ _ _ => (pg_name (i := 13) sc_law.nd rfl (Or.inr rfl))) (fun _ _ _ _ _ => pts_nil) (fun _ _ _ _ _ => (pe_bmK (K := K) (by rfl) PySem.F.plainAttrs_str PySem.F.slot_str_join PySem.F.type_str_join (mt_joinK (K := K) (by rfl)) pe_str (pa_cons (pe_revLK (K := K) (by rfl) (pe_lc (own := [("at", 7)]) (g := gName 7) (tt := tYes) rfl sc_law.nd (pi_range1 rfl T.b_range (pa_cons pe_int pa_nil)) (blkOk_by (own := [("at", 7)]) (N := N_law) (sc := scM) (by decide +kernel)) (fun _ _ _ _ _ => (pg_name (i := 7) sc_law.nd rfl (Or.inl rfl))) (fun _ _ _ _ _ => pts_nil) (fun _ _ _ _ _ => (pe_callTy call_str_int (by rfl) T.b_str boot_str (pa_cons (pe_op op_mod (pe_callTy call_int1 (by rfl) T.b_int boot_int (pa_cons (pe_op op_shr (pv 13) (pv 7)) pa_nil)) pe_int) pa_nil))))) pa_nil))))))
  (pss_one (ps_if (PW.pt (pw_or (pt_cmpR (op_neD (hu64 hr)) (pe_calX C_free_names (hr.mono (by decide)) (pa_cons (pv 10) pa_nil)) (pe_tup (pa_cons pe_str (pa_cons pe_str (pa_cons pe_str pa_nil)))) (nomark _)) (pw_or1 (pt_cmpR (op_neD (hu64 hr)) (pe_calX C_share_of (hr.mono (by decide)) (pa_cons (pv 10) pa_nil)) (pe_tup (pa_cons pe_int (pa_cons pe_int pa_nil))) (nomark _)))))
  (pss_one (ps_ret pe_bl))
  pss_nil)))
  pss_nil)
  (pss_one (ps_ret (pe_and (pe_cmpR (op_eqD (hu64 hr)) (pe_calX C_free_names (hr.mono (by decide)) (pa_cons (pe_lst pa_nil) pa_nil)) (pe_tup (pa_cons pe_str (pa_cons pe_str pa_nil))) (nomark _)) (pe_one (pe_cmpR (op_eqD (hu64 hr)) (pe_calX C_free_names (hr.mono (by decide)) (pa_cons (pe_tup pa_nil) pa_nil)) (pe_calX C_free_names (hr.mono (by decide)) (pa_cons (pe_lst pa_nil) pa_nil)) (nomark _))))))))), ?_⟩
    refine ⟨_, rfl, a, ns, rfl, hS, fun p q cs H1 hp s1 hc sv => ?_⟩
    have ls0 : LS p q cs PT 0 H1 := ⟨sv, fun x hx => by
      rw [List.mem_singleton.mp hx]
      exact TabS.nil (s1 _ _ hT)⟩
    clear hS hT s1 sv
    refine ⟨3, rfl, by decide, by decide, ?_⟩
    refine for_range (n := 3) (fun i σ' H' => (∃ o2 o3 o4 o5 o6 o7 o8 o9 o10 o11 o12 o13, σ' = [some (.ref a), some (.ref p), o2, o3, o4, o5, o6, o7, o8, o9, o10, o11, o12, o13]) ∧ LS p q cs PT (i * 800) H') ⟨⟨_, _, _, _, _, _, _, _, _, _, _, _, rfl⟩, ls0⟩ (fun i σ' H2 hi h2 => ?_) (fun σ' H2 h2 => ?_)
    · obtain ⟨⟨o2, o3, o4, o5, o6, o7, o8, o9, o10, o11, o12, o13, rfl⟩, ls⟩ := h2
      refine ⟨_, rfl, p, q, cs, i * 800, rfl, by omega, by omega, ls.sv, fun l zs st H3 fl hl few bst stl sgst b3 s3 => ?_⟩
      have ls3 := ls.but b3 s3
      have lp : l ≠ p := sv_ne ls.sv fl
      clear ls b3 s3 fl
      have good : Good zs := ⟨bst.sg, bst.lo, fun z hz => by have := bst.far z hz; omega⟩
      have apz := bst.ap
      have few2 : zs.length ≤ 200 := by omega
      have N := nms_good good apz
      have few88 : (cod zs).length + (fre (cod zs)).length ≤ 88 := by
        refine fre_few N (st := st.cps.toList) (by rw [tl_len]; exact stl) sgst (fun z hz => ?_) (fun z hz => ?_)
        · obtain ⟨y, hy, rfl⟩ := List.mem_map.mp hz
          exact bst.beg y hy
        · obtain ⟨y, hy, rfl⟩ := List.mem_map.mp hz
          rw [tl_len, tl_len]
          exact bst.far y hy
      have lenF : (frs zs).length = (fre (cod zs)).length := by unfold frs; rw [List.length_map]
      have lenC : (cod zs).length = zs.length := List.length_map _
      have e0 : ("" : Str).cps.toList = [] := by decide +kernel
      have fe : freeF (cod zs) 61 ("" : Str).cps.toList = fre (cod zs) := by rw [e0]; rfl
      refine ⟨_, rfl, l, _, rfl, .inl (SqL.of hl), fun kp hkp => ?_⟩
      have kpp : kp ≠ p := sv_ne ls3.sv hkp
      have s4 := same_new (o := HO.lst (zs.map V.str)) hkp
      have ls4 := ls3.same s4
      have hl4 := s4 _ _ hl
      have hk4 : upd H3 kp (.lst (zs.map V.str)) kp = some (.lst (zs.map V.str)) := upd_same
      generalize upd H3 kp (HO.lst (zs.map V.str)) = H4 at ls4 hl4 hk4 ⊢
      clear hkp ls3 hl s4
      refine ⟨_, rfl, l, zs, "", rfl, hl4, N, few2, by decide +kernel, by decide +kernel, by decide, by rw [fe]; omega, fun fl H5 s5 h5 => ?_⟩
      rw [fe] at h5
      have ls5 := ls4.same s5
      have hl5 := s5 _ _ hl4
      have hk5 := s5 _ _ hk4
      have eF : stv (fre (cod zs)) = (frs zs).map V.str := frs_v zs
      rw [eF] at h5
      refine ⟨fl, _, rfl, .inl ⟨SqL.of h5, fun du hdu => ?_⟩⟩
      have dup : du ≠ p := sv_ne ls5.sv hdu
      have s6 := same_new (o := HO.tup ((frs zs).map V.str)) hdu
      have ls6 := ls5.same s6
      have hl6 := s6 _ _ hl5
      have hk6 := s6 _ _ hk5
      have hd6 : upd H5 du (HO.tup ((frs zs).map V.str)) du = some (.tup ((frs zs).map V.str)) := upd_same
      generalize upd H5 du (HO.tup ((frs zs).map V.str)) = H6 at ls6 hl6 hk6 hd6 ⊢
      clear hdu ls4 ls5 hl4 hl5 hk4 hk5 s5 s6 h5
      refine ⟨_, _, rfl, ?_⟩
      dsimp only
      refine ⟨_, rfl, ?_⟩
      dsimp only [tNil, tCons, tC]
      refine free_ok (.inl hl6) few2 good apz fun H7 to s7 hto => ?_
      rw [frs_v]
      have s8 := s7.trans (same_new (o := HO.tup ((frs zs).map V.str)) hto)
      have ls8 := ls6.same s8
      have top : to ≠ p := sv_ne (ls6.same s7).sv hto
      have hl8 := s8 _ _ hl6
      have hk8 := s8 _ _ hk6
      have hd8 := s8 _ _ hd6
      have ht8 : upd H7 to (HO.tup ((frs zs).map V.str)) to = some (.tup ((frs zs).map V.str)) := upd_same
      generalize upd H7 to (HO.tup ((frs zs).map V.str)) = H8 at ls8 hl8 hk8 hd8 ht8 ⊢
      clear s7 s8 hto ls6 hl6 hk6 hd6 fe eF e0
      obtain ⟨gF, apF⟩ : Good (frs zs) ∧ ApL (frs zs) := good_of (by
        rw [frs_cod]
        have := fre_nms N
        exact ⟨(List.pairwise_append.mp this.ap).2.1, fun z hz => this.lo z (List.mem_append_right _ hz), fun z hz => this.hi z (List.mem_append_right _ hz), fun z hz => this.sg z (List.mem_append_right _ hz)⟩)
      have fewF : (frs zs).length ≤ 200 := by omega
      -- the first question
      refine ne_rep ?_
      refine ⟨_, rfl, rep_strs gF fewF ht8 ?_⟩
      refine ⟨_, rfl, rep_strs gF fewF hd8 ?_⟩
      refine ⟨rfl, false, by simp, iteF ?_⟩
      refine ne_rep ?_
      refine ⟨_, rfl, l, _, rfl, .inl ⟨SqL.of hl8, fun tn htn => ?_⟩⟩
      have s9 := same_new (o := HO.tup (zs.map V.str)) htn
      have htn2 : upd H8 tn (HO.tup (zs.map V.str)) tn = some (.tup (zs.map V.str)) := upd_same
      generalize upd H8 tn (HO.tup (zs.map V.str)) = H9 at s9 htn2 ⊢
      refine ⟨rfl, ?_⟩
      dsimp only [tNil, tCons, tC]
      refine free_ok (.inr htn2) few2 good apz fun HA t2 sA ht2 => ?_
      rw [frs_v]
      have sB := (s9.trans sA).trans (same_new (o := HO.tup ((frs zs).map V.str)) ht2)
      have h2 : upd HA t2 (HO.tup ((frs zs).map V.str)) t2 = some (.tup ((frs zs).map V.str)) := upd_same
      generalize upd HA t2 (HO.tup ((frs zs).map V.str)) = HB at sB h2 ⊢
      refine rep_strs gF fewF h2 ?_
      refine ⟨_, rfl, rep_strs gF fewF (sB _ _ hd8) ?_⟩
      refine ⟨rfl, false, by simp, iteF ?_⟩
      refine ⟨_, rfl, _, rfl, _, _, .lst (SqL.of (sB _ _ hl8)) (dpAll_tx zs), .lst (SqL.of (sB _ _ hk8)) (dpAll_tx zs), shaped_tx good.sg, shaped_tx good.sg, ?_⟩
      rw [SeqAt.eqv_refl _ (by simp [PyData.canLay0, canLay_tx zs good.sg])]
      refine ⟨_, rfl, iteF ?_⟩
      have lsB := ls8.same sB
      have hlB := sB _ _ hl8
      have htB := sB _ _ ht8
      clear ls8 hl8 ht8 hk8 hd8 sB s9 sA ht2 htn htn2 h2
      refine nx_in ?_
      dsimp only
      -- the second question
      have goodA : Good (zs ++ frs zs) ∧ ApL (zs ++ frs zs) := good_of (by rw [cod_app, frs_cod]; exact fre_nms N)
      have fewA : (zs ++ frs zs).length ≤ 200 := by rw [List.length_append]; omega
      refine ⟨_, rfl, _, rfl, to, _, rfl, .inr (SqT.of htB), fun u1 hu1 => ?_⟩
      have sC := same_new (o := HO.lst ((frs zs).map V.str)) hu1
      have c1 : upd HB u1 (HO.lst ((frs zs).map V.str)) u1 = some (.lst ((frs zs).map V.str)) := upd_same
      generalize upd HB u1 (HO.lst ((frs zs).map V.str)) = HC at sC c1 ⊢
      refine ⟨l, u1, _, _, rfl, rfl, sC _ _ hlB, c1, Nat.le_trans (m := 1000) (by rw [List.length_map, List.length_map]; omega) (by decide), fun u2 hu2 => ?_⟩
      rw [← List.map_append]
      have sD := sC.trans (same_new (o := HO.lst ((zs ++ frs zs).map V.str)) hu2)
      have c2 : upd HC u2 (HO.lst ((zs ++ frs zs).map V.str)) u2 = some (.lst ((zs ++ frs zs).map V.str)) := upd_same
      generalize upd HC u2 (HO.lst ((zs ++ frs zs).map V.str)) = HD at sD c2 ⊢
      dsimp only [tNil, tCons, tC]
      refine apart_ok (.inl c2) fewA goodA.1 goodA.2 fun HE sE => ?_
      have sF := sD.trans sE
      clear sC sD sE c1 c2 hu1 hu2
      refine ⟨true, rfl, iteF ?_⟩
      refine ⟨_, rfl, to, _, rfl, .inr (SqT.of (sF _ _ htB)), fun u1 hu1 => ?_⟩
      have sC := sF.trans (same_new (o := HO.lst ((frs zs).map V.str)) hu1)
      have c1 : upd HE u1 (HO.lst ((frs zs).map V.str)) u1 = some (.lst ((frs zs).map V.str)) := upd_same
      generalize upd HE u1 (HO.lst ((frs zs).map V.str)) = HC at sC c1 ⊢
      refine ⟨_, rfl, u1, l, _, _, rfl, rfl, c1, sC _ _ hlB, Nat.le_trans (m := 1000) (by rw [List.length_map, List.length_map]; omega) (by decide), fun u2 hu2 => ?_⟩
      rw [← List.map_append]
      have sD := sC.trans (same_new (o := HO.lst ((frs zs ++ zs).map V.str)) hu2)
      have c2 : upd HC u2 (HO.lst ((frs zs ++ zs).map V.str)) u2 = some (.lst ((frs zs ++ zs).map V.str)) := upd_same
      generalize upd HC u2 (HO.lst ((frs zs ++ zs).map V.str)) = HD at sD c2 ⊢
      have goodB : Good (frs zs ++ zs) ∧ ApL (frs zs ++ zs) := good_of (by
        rw [cod_app, frs_cod]
        exact nms_perm (fre_nms N) List.perm_append_comm)
      have fewB : (frs zs ++ zs).length ≤ 200 := by rw [List.length_append]; omega
      dsimp only [tNil, tCons, tC]
      refine share_ok (.inl c2) fewB goodB.1 goodB.2 fun HG p1 sG hp1 => ?_
      have fs : shs (cod (frs zs ++ zs)) = 2 ^ 60 := by
        rw [cod_app, frs_cod, shs_app, Nat.add_comm, ← shs_app]
        exact (fre_full N).1
      rw [fs, red_one]
      have sH := (sD.trans sG).trans (same_new (o := HO.tup [V.int 1, V.int 1]) hp1)
      have c3 : upd HG p1 (HO.tup [V.int 1, V.int 1]) p1 = some (.tup [.int 1, .int 1]) := upd_same
      generalize upd HG p1 (HO.tup [V.int 1, V.int 1]) = HI at sH c3 ⊢
      refine ⟨by show 2 ≤ sizeLine; decide, fun p2 hp2 => ?_⟩
      have sI := same_new (o := HO.tup [V.int 1, V.int 1]) hp2
      refine ne_ints (sI _ _ c3) upd_same (by decide +kernel) (by decide +kernel) ?_
      have sJ := sH.trans sI
      generalize upd HI p2 (HO.tup [V.int 1, V.int 1]) = HJ at sJ ⊢
      clear sF sC sD sG sH sI c1 c2 c3 hu1 hu2 hp1 hp2 fs goodB fewB
      refine ⟨_, rfl, iteF ?_⟩
      refine ⟨_, rfl, _, rfl, to, _, rfl, .inr (SqT.of (sJ _ _ htB)), fun u1 hu1 => ?_⟩
      have sC := sJ.trans (same_new (o := HO.lst ((frs zs).map V.str)) hu1)
      have c1 : upd HJ u1 (HO.lst ((frs zs).map V.str)) u1 = some (.lst ((frs zs).map V.str)) := upd_same
      generalize upd HJ u1 (HO.lst ((frs zs).map V.str)) = HC at sC c1 ⊢
      refine ⟨l, u1, _, _, rfl, rfl, sC _ _ hlB, c1, Nat.le_trans (m := 1000) (by rw [List.length_map, List.length_map]; omega) (by decide), fun u2 hu2 => ?_⟩
      rw [← List.map_append]
      have sD := sC.trans (same_new (o := HO.lst ((zs ++ frs zs).map V.str)) hu2)
      have c2 : upd HC u2 (HO.lst ((zs ++ frs zs).map V.str)) u2 = some (.lst ((zs ++ frs zs).map V.str)) := upd_same
      generalize upd HC u2 (HO.lst ((zs ++ frs zs).map V.str)) = HD at sD c2 ⊢
      dsimp only [tNil, tCons, tC]
      refine free_ok (.inl c2) fewA goodA.1 goodA.2 fun HG p1 sG hp1 => ?_
      have fs : freV (cod (zs ++ frs zs)) = (([] : List Str)).map V.str := by
        unfold freV
        rw [cod_app, frs_cod, (fre_full N).2]
        rfl
      rw [fs]
      have sH := (sD.trans sG).trans (same_new (o := HO.tup ([].map V.str)) hp1)
      have c3 : upd HG p1 (HO.tup (([] : List Str).map V.str)) p1 = some (.tup ([].map V.str)) := upd_same
      generalize upd HG p1 (HO.tup (([] : List Str).map V.str)) = HI at sH c3 ⊢
      refine ⟨by show 0 ≤ sizeLine; decide, fun p2 hp2 => ?_⟩
      have sI := same_new (o := HO.tup []) hp2
      refine ne_txs (zs := []) (sI _ _ c3) upd_same (fun z hz => (nomatch hz)) ?_
      have sK := sH.trans sI
      generalize upd HI p2 (HO.tup []) = HK at sK ⊢
      refine ⟨_, rfl, iteF ?_⟩
      have lsK := lsB.same sK
      have hlK := sK _ _ hlB
      clear sC sD sG sH sI sJ sK c1 c2 c3 hu1 hu2 hp1 hp2 fs lsB hlB htB
      refine nx_in ?_
      dsimp only
      refine ⟨_, rfl, _, rfl, l, _, rfl, .inl (SqL.of hlK), _, _, rfl, rfl, ?_⟩
      rw [List.length_map]
      refine ⟨p, q, cs, _, _, rfl, by omega, by omega, by omega, by omega, lsK.sv, fun at_ H5 a0 a1 b5 s5 => ?_⟩
      have hl5 := b5 _ _ lp hlK
      have ls5 := lsK.but b5 s5
      clear b5 s5 hlK lsK
      dsimp only [gName]
      refine ⟨fun σ' H' => (∃ o8 o11, σ' = [some (.ref a), some (.ref p), some (.int (0 + (i : Int))), some (.ref l), some (.ref kp), some (.ref du), some (.ref to), some (.int at_), o8, o9, o10, o11, o12, o13]) ∧ LS p q cs PT (i * 800 + 410) H' ∧ H' l = some (.lst (zs.map V.str)), ?_, ?_⟩
      · refine ⟨_, rfl, by show 0 ≤ sizeLine; decide, fun lz hlz => ?_⟩
        have sz := same_new (o := HO.lst []) hlz
        refine ne_nil good.sg (sz _ _ hl5) upd_same ⟨_, rfl, ?_⟩
        have hl6 := sz _ _ hl5
        have ls6 := ls5.same sz
        generalize upd H5 lz (HO.lst []) = H6 at hl6 ls6 ⊢
        clear sz hlz hl5 ls5
        cases hb : zs.isEmpty with
        | true => exact iteF ⟨⟨_, _, rfl⟩, ls6.mono (by omega), hl6⟩
        | false =>
          have pos : 0 < zs.length := by
            cases zs with
            | nil => cases hb
            | cons z zr => simp
          refine iteT ?_
          refine ⟨_, rfl, _, rfl, p, q, cs, _, l, _, rfl, hl6, lp, by rw [List.length_map]; exact pos, by rw [List.length_map]; omega, by omega, by omega, ls6.sv, fun v H7 hv b7 s7 => ?_⟩
          obtain ⟨z, hzm, rfl⟩ := List.mem_map.mp hv
          have hl7 := b7 _ _ lp hl6
          have ls7 := ls6.but b7 s7
          have gz := good.g1 z hzm
          have zl : z.length ≤ sizeLine := Nat.le_trans gz.hi (by decide)
          have z1 := gz.lo
          have z6 := gz.hi
          clear b7 s7 hv hl6 ls6
          dsimp only [gName]
          obtain ⟨c1, c2⟩ := cut_two a0 (zs := zs) (at_ := at_) (by omega)
          refine ⟨_, rfl, _, rfl, _, rfl, l, _, rfl, SqL.of hl7, fun t1 ht1 => ?_⟩
          rw [c1]
          have t1p : t1 ≠ p := sv_ne ls7.sv ht1
          have s8 := same_new (o := HO.lst ((zs.take at_.toNat).map V.str)) ht1
          have h8 : upd H7 t1 (HO.lst ((zs.take at_.toNat).map V.str)) t1 = some (.lst ((zs.take at_.toNat).map V.str)) := upd_same
          have hl8 := s8 _ _ hl7
          have ls8 := ls7.same s8
          generalize upd H7 t1 (HO.lst ((zs.take at_.toNat).map V.str)) = H8 at h8 hl8 ls8 ⊢
          clear s8 ht1 hl7 ls7
          refine ⟨_, rfl, _, rfl, _, rfl, _, rfl, _, rfl, z, rfl, zl, p, q, cs, _, _, rfl, by omega, by omega, by omega, by omega, ls8.sv, fun r H9 r0 r1 b9 s9 => ?_⟩
          have hl9 := b9 _ _ lp hl8
          have h9 := b9 _ _ t1p h8
          have ls9 := ls8.but b9 s9
          clear b9 s9 hl8 h8 ls8
          have k2 : ("01" : Str).length = 2 := by decide +kernel
          have sg2 : Sg "01" := sg_dec (by decide +kernel)
          have sl2 : (z ++ "01").length ≤ sizeLine := Nat.le_trans (m := 100) (by rw [Str.length_append]; omega) (by decide)
          refine ⟨_, _, rfl, rfl, _, rfl, z, rfl, zl, ?_⟩
          refine ⟨_, rfl, z, "01", rfl, rfl, Nat.le_trans (m := 100) (by omega) (by decide), _, rfl, _, rfl, sl2, ?_⟩
          refine ⟨by show 3 ≤ sizeLine; decide, fun lm hlm => ?_⟩
          have sm := same_new (o := HO.lst [V.str z, V.str (Txt.slice z none (some (1 + r))), V.str (Txt.slice (z ++ "01") none (some 60))]) hlm
          refine ⟨p, q, cs, _, lm, _, rfl, upd_same, sv_ne ls9.sv hlm, by show 0 < 3; decide, by show 3 ≤ 1000; decide, by omega, by omega, ls9.sv.same sm, fun x HA hx bA sA => ?_⟩
          have hlA := bA _ _ lp (sm _ _ hl9)
          have hA := bA _ _ t1p (sm _ _ h9)
          have lsA := (ls9.same sm).but bA sA
          obtain ⟨y, rfl, gy, cy⟩ : ∃ y, x = .str y ∧ G1 y ∧ (y.cps.toList <+: z.cps.toList ∨ z.cps.toList <+: y.cps.toList) := by
            simp only [List.mem_cons, List.not_mem_nil, or_false] at hx
            rcases hx with rfl | rfl | rfl
            · exact ⟨_, rfl, gz, .inl (List.prefix_refl _)⟩
            · obtain ⟨x1, x2⟩ := cut_pre gz.sg z1 (i := 1 + r) (by omega) (by omega)
              exact ⟨_, rfl, x1, .inl (by rw [x2]; exact List.take_prefix _ _)⟩
            · obtain ⟨x1, x2⟩ := cut_pre (sg_app gz.sg sg2) (by rw [Str.length_append]; omega) (i := 60) (by decide) (by decide)
              refine ⟨_, rfl, x1, .inr ?_⟩
              rw [x2, tl_app]
              exact List.prefix_take_iff.mpr ⟨List.prefix_append _ _, by rw [tl_len]; exact z6⟩
          clear bA sA sm hx hlm hl9 h9 ls9
          refine ⟨by show 1 ≤ sizeLine; decide, fun t2 ht2 => ?_⟩
          have sB := same_new (o := HO.lst [V.str y]) ht2
          have h2 : upd HA t2 (HO.lst [V.str y]) t2 = some (.lst [V.str y]) := upd_same
          have hB := sB _ _ hA
          generalize upd HA t2 (HO.lst [V.str y]) = HB at sB h2 hB ⊢
          refine ⟨t1, t2, _, _, rfl, rfl, hB, h2, Nat.le_trans (m := 1000) (by simp; omega) (by decide), fun t3 ht3 => ?_⟩
          have sC := sB.trans (same_new (o := HO.lst ((zs.take at_.toNat).map V.str ++ [V.str y])) ht3)
          have h3 : upd HB t3 (HO.lst ((zs.take at_.toNat).map V.str ++ [V.str y])) t3 = some (.lst ((zs.take at_.toNat).map V.str ++ [V.str y])) := upd_same
          generalize upd HB t3 (HO.lst ((zs.take at_.toNat).map V.str ++ [V.str y])) = HC at sC h3 ⊢
          refine ⟨_, rfl, _, rfl, _, rfl, l, _, rfl, SqL.of (sC _ _ hlA), fun t4 ht4 => ?_⟩
          rw [c2]
          have s4 := same_new (o := HO.lst ((zs.drop at_.toNat).map V.str)) ht4
          have h4 : upd HC t4 (HO.lst ((zs.drop at_.toNat).map V.str)) t4 = some (.lst ((zs.drop at_.toNat).map V.str)) := upd_same
          have h34 := s4 _ _ h3
          have sD := sC.trans s4
          generalize upd HC t4 (HO.lst ((zs.drop at_.toNat).map V.str)) = HD at sD h4 h34 ⊢
          refine ⟨t3, t4, _, _, rfl, rfl, h34, h4, Nat.le_trans (m := 1000) (by simp; omega) (by decide), fun t5 ht5 => ?_⟩
          have e5 : (zs.take at_.toNat).map V.str ++ [V.str y] ++ (zs.drop at_.toNat).map V.str = (zs.take at_.toNat ++ [y] ++ zs.drop at_.toNat).map V.str := by simp
          rw [e5]
          have sE := sD.trans (same_new (o := HO.lst ((zs.take at_.toNat ++ [y] ++ zs.drop at_.toNat).map V.str)) ht5)
          have h5 : upd HD t5 (HO.lst ((zs.take at_.toNat ++ [y] ++ zs.drop at_.toNat).map V.str)) t5 = some (.lst ((zs.take at_.toNat ++ [y] ++ zs.drop at_.toNat).map V.str)) := upd_same
          have lsE := lsA.same sE
          have hlE := sE _ _ hlA
          generalize upd HD t5 (HO.lst ((zs.take at_.toNat ++ [y] ++ zs.drop at_.toNat).map V.str)) = HE at lsE hlE h5 ⊢
          clear sB sC sD sE s4 h2 h3 h4 h34 hA hB hlA lsA ht2 ht3 ht4 ht5 c1 c2 e5
          dsimp only [gName]
          refine ⟨lsE.tb, fun HI e1 tI => ?_⟩
          have lsI := lsE.ext e1 tI
          have hlI := e1 _ _ hlE (fun ps z => by cases z)
          have h5I := e1 _ _ h5 (fun ps z => by cases z)
          have na := not_apart h5I (by rw [List.length_take, List.length_drop]; omega) (fun x hx => by
            rcases List.mem_append.mp hx with hx | hx
            · rcases List.mem_append.mp hx with hx | hx
              · have g := good.g1 x (List.mem_of_mem_take hx)
                exact ⟨g.sg, g.lo, g.hi⟩
              · rw [List.mem_singleton.mp hx]
                exact ⟨gy.sg, gy.lo, gy.hi⟩
            · have g := good.g1 x (List.mem_of_mem_drop hx)
              exact ⟨g.sg, g.lo, g.hi⟩) (o := z) (by
            rw [← List.take_append_drop at_.toNat zs] at hzm
            exact List.mem_append.mp hzm) cy
          refine heard_free (word := "misfit") exB exM (fun R r => ⟨_, rfl, r HI _ (Same.refl _) na.1 (.inr ⟨na.2.1, na.2.2, rfl⟩)⟩) fun HJ tt sJ htt => ?_
          have sK := sJ.trans (same_new (o := T2 "misfit" "names") htt)
          have kT : upd HJ tt (T2 "misfit" "names") tt = some (T2 "misfit" "names") := upd_same
          generalize upd HJ tt (T2 "misfit" "names") = HK at sK kT ⊢
          refine ⟨by show 2 ≤ sizeLine; decide, fun u hu => ?_⟩
          have sL := same_new (o := T2 "misfit" "names") hu
          refine ne_T2 (sL _ _ kT) upd_same (by decide +kernel) (by decide +kernel) ?_
          refine ⟨_, rfl, iteF ?_⟩
          exact ⟨⟨_, _, rfl⟩, (lsI.same (sK.trans sL)).mono (by omega), (sK.trans sL) _ _ hlI⟩
      · rintro σ' H6 ⟨⟨o8', o11', rfl⟩, ls6, hl6⟩
        clear hl5 ls5
        refine ⟨_, rfl, ?_⟩
        refine odd_list (fun lo xs H7 s7 hlo len hxs => ?_) ls6.sv
        have ls7 := ls6.same s7
        have hl7 := s7 _ _ hl6
        clear ls6 hl6
        refine ⟨p, q, cs, _, lo, xs, rfl, hlo.1, hlo.2, by omega, by omega, by omega, by omega, ls7.sv, fun x H8 hx b8 s8 => ?_⟩
        have hl8 := b8 _ _ lp hl7
        have ls8 := ls7.but b8 s8
        have ox := (hxs x hx).but b8
        clear ls7 hl7 b8 s8 s7 hlo hxs hx
        dsimp only [gName]
        -- the four
        refine ⟨_, rfl, _, rfl, by show 1 ≤ sizeLine; decide, fun t1 ht1 => ?_⟩
        have s1 := same_new (o := HO.lst [x]) ht1
        have h1 : upd H8 t1 (HO.lst [x]) t1 = some (.lst [x]) := upd_same
        generalize upd H8 t1 (HO.lst [x]) = H9 at s1 h1 ⊢
        refine ⟨l, t1, _, _, rfl, rfl, s1 _ _ hl8, h1, Nat.le_trans (m := 1000) (by simp; omega) (by decide), fun u1 hu1 => ?_⟩
        have s2 := s1.trans (same_new (o := HO.lst (zs.map V.str ++ [x])) hu1)
        have g1 : upd H9 u1 (HO.lst (zs.map V.str ++ [x])) u1 = some (.lst (zs.map V.str ++ [x])) := upd_same
        have u1p : u1 ≠ p := sv_ne (ls8.sv.same s1) hu1
        generalize upd H9 u1 (HO.lst (zs.map V.str ++ [x])) = HA at s2 g1 ⊢
        have lsA := ls8.same s2
        have hlA := s2 _ _ hl8
        have oxA := ox.but (Same.but s2)
        have bad1 : BadV p HA (.ref u1) := bad_odd (ys1 := zs) (ys2 := []) (by rw [g1]; simp) oxA u1p good.hi (fun z hz => (nomatch hz))
        clear ls8 hl8 ox s1 s2 h1 g1 ht1 hu1
        obtain ⟨c1, c2⟩ := cut_two a0 (zs := zs) (at_ := at_) (by omega)
        refine ⟨_, rfl, _, rfl, _, rfl, l, _, rfl, SqL.of hlA, fun t1 ht1 => ?_⟩
        rw [c1]
        have s1 := same_new (o := HO.lst ((zs.take at_.toNat).map V.str)) ht1
        have h1 : upd HA t1 (HO.lst ((zs.take at_.toNat).map V.str)) t1 = some (.lst ((zs.take at_.toNat).map V.str)) := upd_same
        generalize upd HA t1 (HO.lst ((zs.take at_.toNat).map V.str)) = HB at s1 h1 ⊢
        refine ⟨_, rfl, by show 3 ≤ sizeLine; decide, fun t2 ht2 => ?_⟩
        have s2 := same_new (o := HO.lst [V.str "0", x, V.str "0"]) ht2
        have h2 : upd HB t2 (HO.lst [V.str "0", x, V.str "0"]) t2 = some (.lst [V.str "0", x, V.str "0"]) := upd_same
        have h12 := s2 _ _ h1
        have sA := s1.trans s2
        generalize upd HB t2 (HO.lst [V.str "0", x, V.str "0"]) = HC at sA h2 h12 ⊢
        refine ⟨t1, t2, _, _, rfl, rfl, h12, h2, Nat.le_trans (m := 1000) (by simp; omega) (by decide), fun t3 ht3 => ?_⟩
        have s3 := same_new (o := HO.lst ((zs.take at_.toNat).map V.str ++ [V.str "0", x, V.str "0"])) ht3
        have h3 : upd HC t3 (HO.lst ((zs.take at_.toNat).map V.str ++ [V.str "0", x, V.str "0"])) t3 = some (.lst ((zs.take at_.toNat).map V.str ++ [V.str "0", x, V.str "0"])) := upd_same
        have sB := sA.trans s3
        generalize upd HC t3 (HO.lst ((zs.take at_.toNat).map V.str ++ [V.str "0", x, V.str "0"])) = HD at sB h3 ⊢
        refine ⟨_, rfl, _, rfl, _, rfl, l, _, rfl, SqL.of (sB _ _ hlA), fun t4 ht4 => ?_⟩
        rw [c2]
        have s4 := same_new (o := HO.lst ((zs.drop at_.toNat).map V.str)) ht4
        have h4 : upd HD t4 (HO.lst ((zs.drop at_.toNat).map V.str)) t4 = some (.lst ((zs.drop at_.toNat).map V.str)) := upd_same
        have h34 := s4 _ _ h3
        have sC := sB.trans s4
        generalize upd HD t4 (HO.lst ((zs.drop at_.toNat).map V.str)) = HE at sC h4 h34 ⊢
        refine ⟨t3, t4, _, _, rfl, rfl, h34, h4, Nat.le_trans (m := 1000) (by simp; omega) (by decide), fun u2 hu2 => ?_⟩
        have sD := sC.trans (same_new (o := HO.lst ((zs.take at_.toNat).map V.str ++ [V.str "0", x, V.str "0"] ++ (zs.drop at_.toNat).map V.str)) hu2)
        have g2 : upd HE u2 (HO.lst ((zs.take at_.toNat).map V.str ++ [V.str "0", x, V.str "0"] ++ (zs.drop at_.toNat).map V.str)) u2 = some (.lst ((zs.take at_.toNat).map V.str ++ [V.str "0", x, V.str "0"] ++ (zs.drop at_.toNat).map V.str)) := upd_same
        have u2p : u2 ≠ p := sv_ne (lsA.sv.same sC) hu2
        generalize upd HE u2 (HO.lst ((zs.take at_.toNat).map V.str ++ [V.str "0", x, V.str "0"] ++ (zs.drop at_.toNat).map V.str)) = HF at sD g2 ⊢
        have lsF := lsA.same sD
        have hlF := sD _ _ hlA
        have oxF := oxA.but (Same.but sD)
        have bad1F := bad1.keep (Keep.same sD)
        have k0 : ("0" : Str).length ≤ 60 := by decide +kernel
        have bad2 : BadV p HF (.ref u2) := bad_odd (ys1 := zs.take at_.toNat ++ ([("0" : Str)] : List Str)) (ys2 := ("0" : Str) :: zs.drop at_.toNat) (by rw [g2]; simp) oxF u2p (fun z hz => by
          rcases List.mem_append.mp hz with hz | hz
          · exact good.hi z (List.mem_of_mem_take hz)
          · rw [List.mem_singleton.mp hz]; exact k0) (fun z hz => by
          rcases List.mem_cons.mp hz with rfl | hz
          · exact k0
          · exact good.hi z (List.mem_of_mem_drop hz))
        clear lsA hlA oxA bad1 s1 s2 s3 s4 sA sB sC sD h1 h2 h12 h3 h4 h34 g2 ht1 ht2 ht3 ht4 hu2 c1 c2 oxF
        refine ⟨_, rfl, fun d hd => ?_⟩
        have s1 := same_new (o := HO.dK []) hd
        have h1 : upd HF d (HO.dK []) d = some (.dK []) := upd_same
        have dp : d ≠ p := sv_ne lsF.sv hd
        have lsG := lsF.same s1
        generalize upd HF d (HO.dK []) = HG at s1 h1 lsG ⊢
        refine ⟨by show 4 ≤ sizeLine; decide, fun l4 hl4 => ?_⟩
        have s2 := same_new (o := HO.lst [V.non, V.str "0", V.int 7, V.ref d]) hl4
        have h4 : upd HG l4 (HO.lst [V.non, V.str "0", V.int 7, V.ref d]) l4 = some (.lst [V.non, V.str "0", V.int 7, V.ref d]) := upd_same
        have h2 := s2 _ _ h1
        have sA := s1.trans s2
        have l4p : l4 ≠ p := sv_ne lsG.sv hl4
        have lsH := lsG.same s2
        generalize upd HG l4 (HO.lst [V.non, V.str "0", V.int 7, V.ref d]) = HH at sA h4 h2 lsH ⊢
        refine ⟨p, q, cs, _, l4, _, rfl, h4, l4p, by show 0 < 4; decide, by show 4 ≤ 1000; decide, by omega, by omega, lsH.sv, fun v HI hv bI sI => ?_⟩
        have lsI := lsH.but bI sI
        have bad3 : BadV p HI v := by
          refine BadV.keep ?_ (Keep.but bI)
          simp only [List.mem_cons, List.not_mem_nil, or_false] at hv
          rcases hv with rfl | rfl | rfl | rfl
          · exact bad_plain .non rfl rfl (fun z => by cases z)
          · exact bad_plain (.str (by decide +kernel)) rfl rfl (fun z => by cases z)
          · exact bad_plain (.int _) rfl rfl (fun z => by cases z)
          · exact bad_plain (.dK h2) (by simp [rowB, h2]) (by simp [items, h2]) (fun z => dp (by injection z))
        have kI : Keep p HF HI := (Keep.same sA).trans (Keep.but bI)
        have bad1I := bad1F.keep kI
        have bad2I := bad2.keep kI
        have hlI := bI _ _ lp (sA _ _ hlF)
        clear lsF lsG lsH hlF bad1F bad2 s1 s2 sA h1 h2 h4 hd hl4 hv bI sI kI
        refine ⟨by show 1 ≤ sizeLine; decide, fun t6 ht6 => ?_⟩
        have s1 := same_new (o := HO.lst [V.str "01"]) ht6
        refine ⟨t6, 201, [V.str "01"], rfl, rfl, upd_same, by decide, by decide, by show 1 * 201 ≤ sizeLine; decide, fun t7 ht7 => ?_⟩
        have s2 := s1.trans (same_new (o := HO.lst (List.replicate (201 : Int).toNat [V.str "01"]).flatten) ht7)
        have bad4 : BadV p (upd (upd HI t6 (HO.lst [V.str "01"])) t7 (HO.lst (List.replicate (201 : Int).toNat [V.str "01"]).flatten)) (.ref t7) :=
          bad_long upd_same (sv_ne (lsI.sv.same s1) ht7) (by decide +kernel) (fun y hy => by
            obtain ⟨l', hl', hy'⟩ := List.mem_flatten.mp hy
            rw [(List.mem_replicate.mp hl').2] at hy'
            rw [List.mem_singleton.mp hy']
            exact ⟨_, rfl, by decide +kernel⟩)
        generalize upd (upd HI t6 (HO.lst [V.str "01"])) t7 (HO.lst (List.replicate (201 : Int).toNat [V.str "01"]).flatten) = HJ at s2 bad4 ⊢
        refine ⟨by show 4 ≤ sizeLine; decide, fun tt htt => ?_⟩
        have s3 := same_new (o := HO.tup [V.ref u1, V.ref u2, v, V.ref t7]) htt
        have sB := s2.trans s3
        have hT : upd HJ tt (HO.tup [V.ref u1, V.ref u2, v, V.ref t7]) tt = some (.tup [V.ref u1, V.ref u2, v, V.ref t7]) := upd_same
        have lsK := lsI.same sB
        have badK : ∀ y ∈ [V.ref u1, V.ref u2, v, V.ref t7], BadV p (upd HJ tt (HO.tup [V.ref u1, V.ref u2, v, V.ref t7])) y := by
          simp only [List.forall_mem_cons]
          exact ⟨bad1I.keep (Keep.same sB), bad2I.keep (Keep.same sB), bad3.keep (Keep.same sB), bad4.keep (Keep.same s3), fun y hy => (nomatch hy)⟩
        generalize upd HJ tt (HO.tup [V.ref u1, V.ref u2, v, V.ref t7]) = HK at hT lsK badK ⊢
        clear bad1I bad2I bad3 bad4 lsI s1 s2 s3 sB ht6 ht7 htt hlI
        generalize [V.ref u1, V.ref u2, v, V.ref t7] = vs at hT badK ⊢
        refine ⟨tt, rfl, ⟨_, SqT.of hT⟩, ?_⟩
        refine for_tup (K := K) (a := tt) (xs := vs) (fun j σ' H' => (∃ o8 o11 o12, σ' = [some (.ref a), some (.ref p), some (.int (0 + (i : Int))), some (.ref l), some (.ref kp), some (.ref du), some (.ref to), some (.int at_), o8, some x, o10, o11, o12, o13]) ∧ LS p q cs PT (i * 800 + 420) H' ∧ H' tt = some (.tup vs) ∧ ∀ v ∈ vs, BadV p H' v)
          ⟨⟨_, _, _, rfl⟩, lsK.mono (by omega), hT, badK⟩ (fun j σ' H' _ h => SqT.of h.2.2.1) (fun j v σ' HH hv h => ?_) (fun σ' HH h => ?_)
        · obtain ⟨⟨o8, o11, o12, rfl⟩, ls, hb, bad⟩ := h
          have vm := List.mem_of_getElem? hv
          dsimp only [gName]
          refine ⟨ls.tb, fun HI e1 tI => ?_⟩
          have lsI := ls.ext e1 tI
          have badI : ∀ v ∈ vs, BadV p HI v := fun v hv => (bad v hv).keep (Keep.ext e1)
          have hbI := e1 _ _ hb (fun ps z => by cases z)
          clear ls bad hb e1 tI
          refine heard_free (word := "name") exB exM (fun R r => ⟨_, rfl, r HI v (Same.refl _) (badI v vm).an (.inl ⟨(badI v vm).bad, rfl⟩)⟩) fun HJ t9 sJ ht9 => ?_
          have sK := sJ.trans (same_new (o := T2 "name" "names") ht9)
          have kT : upd HJ t9 (T2 "name" "names") t9 = some (T2 "name" "names") := upd_same
          generalize upd HJ t9 (T2 "name" "names") = HK at sK kT ⊢
          refine ⟨by show 2 ≤ sizeLine; decide, fun u hu => ?_⟩
          have sL := same_new (o := T2 "name" "names") hu
          refine ne_T2 (sL _ _ kT) upd_same (by decide +kernel) (by decide +kernel) ?_
          refine ⟨_, rfl, iteF ?_⟩
          exact ⟨⟨_, _, _, rfl⟩, lsI.same (sK.trans sL), (sK.trans sL) _ _ hbI, fun v hv => (badI v hv).keep (Keep.same (sK.trans sL))⟩
        · obtain ⟨⟨o8, o11, o12, rfl⟩, ls, _, _⟩ := h
          exact ⟨⟨_, _, _, _, _, _, _, _, _, _, _, _, rfl⟩, ls.mono (by omega)⟩
    · obtain ⟨⟨o2, o3, o4, o5, o6, o7, o8, o9, o10, o11, o12, o13, rfl⟩, ls⟩ := h2
      refine ⟨fun _ _ => True, ?_, ?_⟩
      · refine ⟨_, rfl, p, q, cs, 3 * 800, 12, rfl, by decide, by decide, by decide, by omega, ls.sv, fun r H3 r0 r1 b3 s3 => ?_⟩
        clear ls b3 s3
        refine ⟨rfl, _, rfl, ?_⟩
        refine ite2 (fun _ => ?_) (fun _ => trivial)
        refine ⟨200, rfl, by decide, by decide, fun D hD => ?_⟩
        refine lc_rng (n := 200) (f0 := fun i => .int (0 + (i : Nat))) (f := fun i => .str (manyS i)) walk_range hD (fun _ _ => trivial) (by decide) (fun _ => rfl) (fun i H' R hi s r => ?_) (fun H4 s4 hl4 => ?_)
        · refine ⟨rfl, ?_⟩
          refine ⟨8, rfl, by decide, by decide, fun D2 hD2 => ?_⟩
          refine lc_rng (n := 8) (f0 := fun i => .int (0 + (i : Nat))) (f := fun j => .str (bit i j)) walk_range hD2 (fun _ _ => trivial) (by decide) (fun _ => rfl) (fun j H2' R2 hj s2 r2 => ?_) (fun H5 s5 hl5 => ?_)
          · refine ⟨_, rfl, _, rfl, _, _, rfl, rfl, by show (0 : Int) ≤ 0 + (j : Int); omega, .inl ⟨_, rfl, _, 2, rfl, rfl, by show (0 : Int) < 2; decide, _, rfl, ?_, ?_⟩⟩
            · have h0 := Int.emod_nonneg ((0 + (i : Int)) / 2 ^ (0 + (j : Int)).toNat) (b := 2) (by decide)
              have h1 := Int.emod_lt_of_pos ((0 + (i : Int)) / 2 ^ (0 + (j : Int)).toNat) (b := 2) (by decide)
              have : ((0 + (i : Int)) / 2 ^ (0 + (j : Int)).toNat % 2) = 0 ∨ ((0 + (i : Int)) / 2 ^ (0 + (j : Int)).toNat % 2) = 1 := by omega
              rcases this with e | e <;> rw [e] <;> decide
            · rw [bit_is]
              exact r2 _ (Same.refl _)
          · refine ⟨D2, _, rfl, SqL.of hl5, fun p2 hp2 => ?_⟩
            have e5 : ((List.range 8).map fun j => V.str (bit i j)).reverse = (bitsS i).map V.str := by
              unfold bitsS
              rw [List.map_reverse, List.map_map]
              rfl
            rw [e5]
            refine ⟨"", p2, bitsS i, rfl, rfl, .inl (SqL.of upd_same), ?_, ?_⟩
            · have e8 : (bitsS i).length = 8 := by unfold bitsS; simp
              rw [bits_len, e8]
              decide +kernel
            · exact r _ (s5.trans (same_new hp2))
        · refine ⟨D, _, rfl, SqL.of hl4, fun m hm => ?_⟩
          have e4 : ((List.range 200).map fun i => V.str (manyS i)).reverse = manyZ.map V.str := by
            unfold manyZ
            rw [List.map_reverse, List.map_map]
            rfl
          rw [e4]
          have h5 : upd H4 m (HO.lst (manyZ.map V.str)) m = some (.lst (manyZ.map V.str)) := upd_same
          generalize upd H4 m (HO.lst (manyZ.map V.str)) = H5 at h5 ⊢
          dsimp only [gName]
          have few : manyZ.length ≤ 200 := Nat.le_of_eq many_len
          refine ⟨_, rfl, ?_⟩
          dsimp only [tNil, tCons, tC]
          refine free_ok (.inl h5) few many_good.1 many_good.2 fun H6 p1 s6 hp1 => ?_
          rw [many_v]
          have s7 := s6.trans (same_new (o := HO.tup ((([("11001" : Str), "1101", "111"]) : List Str).map V.str)) hp1)
          have c1 : upd H6 p1 (HO.tup ((([("11001" : Str), "1101", "111"]) : List Str).map V.str)) p1 = some (.tup ((([("11001" : Str), "1101", "111"]) : List Str).map V.str)) := upd_same
          generalize upd H6 p1 (HO.tup ((([("11001" : Str), "1101", "111"]) : List Str).map V.str)) = H7 at s7 c1 ⊢
          refine ⟨by show 3 ≤ sizeLine; decide, fun p2 hp2 => ?_⟩
          have s8 := same_new (o := HO.tup [V.str "11001", V.str "1101", V.str "111"]) hp2
          refine ne_txs (zs := (([("11001" : Str), "1101", "111"]) : List Str)) (s8 _ _ c1) upd_same many_vsg ?_
          refine ⟨_, rfl, iteF ?_⟩
          have h8 := (s7.trans s8) _ _ h5
          generalize upd H7 p2 (HO.tup [V.str "11001", V.str "1101", V.str "111"]) = H8 at h8 ⊢
          refine ⟨_, rfl, ?_⟩
          dsimp only [tNil, tCons, tC]
          refine share_ok (.inl h8) few many_good.1 many_good.2 fun H9 p3 s9 hp3 => ?_
          rw [many_cod, many_shs, red_many]
          have c3 : upd H9 p3 (HO.tup [V.int 25, V.int 32]) p3 = some (.tup [.int 25, .int 32]) := upd_same
          generalize upd H9 p3 (HO.tup [V.int 25, V.int 32]) = HA at c3 ⊢
          refine ⟨by show 2 ≤ sizeLine; decide, fun p4 hp4 => ?_⟩
          have sI := same_new (o := HO.tup [V.int 25, V.int 32]) hp4
          refine ne_ints (sI _ _ c3) upd_same (by decide +kernel) (by decide +kernel) ?_
          exact ⟨_, rfl, iteF trivial⟩
      · rintro σ' H' _
        refine ⟨by show 0 ≤ sizeLine; decide, fun e1 he1 => ?_⟩
        dsimp only [tNil, tCons, tC]
        refine free_ok (zs := []) (.inl upd_same) (by decide) nil_good.1 nil_good.2 fun H1 p1 s1 hp1 => ?_
        rw [nil_v]
        have c1 : upd H1 p1 (HO.tup ((([("0" : Str), "1"]) : List Str).map V.str)) p1 = some (.tup ((([("0" : Str), "1"]) : List Str).map V.str)) := upd_same
        generalize upd H1 p1 (HO.tup ((([("0" : Str), "1"]) : List Str).map V.str)) = H2 at c1 ⊢
        refine ⟨by show 2 ≤ sizeLine; decide, fun p2 hp2 => ?_⟩
        have s2 := same_new (o := HO.tup [V.str "0", V.str "1"]) hp2
        refine eq_txs (zs := (([("0" : Str), "1"]) : List Str)) (s2 _ _ c1) upd_same nil_sg ?_
        refine ⟨_, rfl, iteT ?_⟩
        generalize upd H2 p2 (HO.tup [V.str "0", V.str "1"]) = H3
        refine ⟨by show 0 ≤ sizeLine; decide, fun e3 he3 => ?_⟩
        dsimp only [tNil, tCons, tC]
        refine free_ok (zs := []) (.inr upd_same) (by decide) nil_good.1 nil_good.2 fun H4 p4 s4 hp4 => ?_
        rw [nil_v]
        have c4 : upd H4 p4 (HO.tup ((([("0" : Str), "1"]) : List Str).map V.str)) p4 = some (.tup ((([("0" : Str), "1"]) : List Str).map V.str)) := upd_same
        generalize upd H4 p4 (HO.tup ((([("0" : Str), "1"]) : List Str).map V.str)) = H5 at c4 ⊢
        refine ⟨by show 0 ≤ sizeLine; decide, fun e5 he5 => ?_⟩
        have s5 := same_new (o := HO.lst []) he5
        dsimp only [tNil, tCons, tC]
        refine free_ok (zs := []) (.inl upd_same) (by decide) nil_good.1 nil_good.2 fun H6 p6 s6 hp6 => ?_
        rw [nil_v]
        have s7 := (s5.trans s6).trans (same_new (o := HO.tup ((([("0" : Str), "1"]) : List Str).map V.str)) hp6)
        refine eq_txs (zs := (([("0" : Str), "1"]) : List Str)) (s7 _ _ c4) upd_same nil_sg ?_
        exact k _
end
end K05
set_option Elab.async false
set_option linter.all false
set_option maxRecDepth 100000
set_option maxHeartbeats 4000000
namespace K05
open PySem PySem.Spec PyProof.Rows L2 Own
theorem ok_BadName {P : Program} {w : World} {K : PySem.W.Frag} {mg : Str → Option Value} {base : Heap} {f : Addr} {fd : FuncData} (F : Fun K "__init__" "BadName.__init__" s_BadName_init f fd) : FnOk P w K mg base CX0 1 f fd ["self", "part"] (spI1 K "part") := by
  refine F.ok sc_BadName_init (fun vs H Q E h => ?_) (fun cdv A outer s H vs Q E hr h => ?_)
  · obtain ⟨a, C, y, rfl, _⟩ := h
    rfl
  · obtain ⟨a, C, y, rfl, T, no, ha, k⟩ := h
    refine ⟨_, pss_one (ps_ost (pv 0) (pv 1)), ?_⟩
    exact ⟨_, rfl, _, rfl, a, C, rfl, T, no, .inl ⟨ha, fun dx n ne => k dx n ne⟩⟩
theorem ok_Misfit {P : Program} {w : World} {K : PySem.W.Frag} {mg : Str → Option Value} {base : Heap} {f : Addr} {fd : FuncData} (F : Fun K "__init__" "Misfit.__init__" s_Misfit_init f fd) : FnOk P w K mg base CX0 1 f fd ["self", "part"] (spI1 K "part") := by
  refine F.ok sc_Misfit_init (fun vs H Q E h => ?_) (fun cdv A outer s H vs Q E hr h => ?_)
  · obtain ⟨a, C, y, rfl, _⟩ := h
    rfl
  · obtain ⟨a, C, y, rfl, T, no, ha, k⟩ := h
    refine ⟨_, pss_one (ps_ost (pv 0) (pv 1)), ?_⟩
    exact ⟨_, rfl, _, rfl, a, C, rfl, T, no, .inl ⟨ha, fun dx n ne => k dx n ne⟩⟩
theorem ends_false {P : Program} {w : World} {K : PySem.W.Frag} {mg : Str → Option Value} {base : Heap} {f : Addr} {fd : FuncData} (F : Fun K "_law_ends" "_law_ends" s__law_ends f fd) : FnOk P w K mg base CX0 2 f fd ["grove", "begin", "deep"] (spEPrev 0) := by
  refine F.ok sc__law_ends (fun vs H Q E h => ?_) (fun cdv A outer s H vs Q E hr h => ?_)
  · exact h.elim
  · exact h.elim
theorem ends_all {P : Program} {w : World} {K : PySem.W.Frag} {mg : Str → Option Value} {base : Heap} {f : Addr} {fd : FuncData} (F : Fun K "_law_ends" "_law_ends" s__law_ends f fd) (T : Txt mg) (mE : mg "_law_ends" = some (.ref f)) (kE : PySem.W.keepIn K (.ref f) = true) (bE : Binds K fd ["grove", "begin", "deep"] [])
    (C : Cal P w K mg base 1 "_law_fell" ["grove", "many"] spSift) : ∀ d, d ≤ 4 → FnOk P w K mg base CX0 (3 + d) f fd ["grove", "begin", "deep"] (spEnds d)
  | 0, _ => ok_ends F T 0 (by decide) C ⟨f, fd, ends_false F, mE, kE, bE⟩
  | d + 1, h => ok_ends F T (d + 1) h C ⟨f, fd, by rw [show 2 + (d + 1) = 3 + d by omega]; exact ends_all F T mE kE bE C d (by omega), mE, kE, bE⟩
theorem lfree_false {P : Program} {w : World} {K : PySem.W.Frag} {mg : Str → Option Value} {base : Heap} {f : Addr} {fd : FuncData} (F : Fun K "_law_free" "_law_free" s__law_free f fd) : FnOk P w K mg base CX0 2 f fd ["names", "begin"] (spLP 0) := by
  refine F.ok sc__law_free (fun vs H Q E h => ?_) (fun cdv A outer s H vs Q E hr h => ?_)
  · exact h.elim
  · exact h.elim
theorem lfree_all {P : Program} {w : World} {K : PySem.W.Frag} {mg : Str → Option Value} {base : Heap} {f : Addr} {fd : FuncData} (F : Fun K "_law_free" "_law_free" s__law_free f fd) (T : Txt mg) (mE : mg "_law_free" = some (.ref f)) (kE : PySem.W.keepIn K (.ref f) = true) (bE : Binds K fd ["names", "begin"] []) :
    ∀ d, FnOk P w K mg base CX0 (3 + d) f fd ["names", "begin"] (spLF d)
  | 0 => ok_lfree F T 0 ⟨f, fd, lfree_false F, mE, kE, bE⟩
  | d + 1 => ok_lfree F T (d + 1) ⟨f, fd, by rw [show 2 + (d + 1) = 3 + d by omega]; exact lfree_all F T mE kE bE d, mE, kE, bE⟩
theorem all_mk {l : PySem.W.OpenLaw} {w : World} {K : PySem.W.Frag} {h : Heap} {mg : Str → Option Value} {fa : Addr} (X : K.In h) (G : h.Ns mainGlobals mg) (hfa : mg "law" = some (.ref fa))
    {od_is_row an_is_row : Option Addr} {sl_is_row : Array (Option Value)} {oc_is_row kV_is_row dc_is_row pm_is_row cd_is_row ct_is_row : Value} {f_is_row : Addr}
    (a_is_row : PySem.W.nsIn K mainGlobals "is_row" = some (some (.ref f_is_row))) (l_is_row : K.lookup f_is_row = some ⟨oc_is_row, od_is_row, .func (PySem.W.fnOf "is_row" "is_row" (defArgs s_is_row) (defBody s_is_row) (defScope s_is_row) .none kV_is_row dc_is_row pm_is_row an_is_row cd_is_row ct_is_row), sl_is_row⟩) (c_is_row : PySem.W.codeIn K cd_is_row "is_row" = true) (k_is_row : PySem.W.keepIn K (.ref f_is_row) = true)
    {od_is_signs an_is_signs : Option Addr} {sl_is_signs : Array (Option Value)} {oc_is_signs kV_is_signs dc_is_signs pm_is_signs cd_is_signs ct_is_signs : Value} {f_is_signs : Addr}
    (a_is_signs : PySem.W.nsIn K mainGlobals "is_signs" = some (some (.ref f_is_signs))) (l_is_signs : K.lookup f_is_signs = some ⟨oc_is_signs, od_is_signs, .func (PySem.W.fnOf "is_signs" "is_signs" (defArgs s_is_signs) (defBody s_is_signs) (defScope s_is_signs) .none kV_is_signs dc_is_signs pm_is_signs an_is_signs cd_is_signs ct_is_signs), sl_is_signs⟩) (c_is_signs : PySem.W.codeIn K cd_is_signs "is_signs" = true) (k_is_signs : PySem.W.keepIn K (.ref f_is_signs) = true)
    {od_is_name an_is_name : Option Addr} {sl_is_name : Array (Option Value)} {oc_is_name kV_is_name dc_is_name pm_is_name cd_is_name ct_is_name : Value} {f_is_name : Addr}
    (a_is_name : PySem.W.nsIn K mainGlobals "is_name" = some (some (.ref f_is_name))) (l_is_name : K.lookup f_is_name = some ⟨oc_is_name, od_is_name, .func (PySem.W.fnOf "is_name" "is_name" (defArgs s_is_name) (defBody s_is_name) (defScope s_is_name) .none kV_is_name dc_is_name pm_is_name an_is_name cd_is_name ct_is_name), sl_is_name⟩) (c_is_name : PySem.W.codeIn K cd_is_name "is_name" = true) (k_is_name : PySem.W.keepIn K (.ref f_is_name) = true)
    {od_reduced an_reduced : Option Addr} {sl_reduced : Array (Option Value)} {oc_reduced kV_reduced dc_reduced pm_reduced cd_reduced ct_reduced : Value} {f_reduced : Addr}
    (a_reduced : PySem.W.nsIn K mainGlobals "reduced" = some (some (.ref f_reduced))) (l_reduced : K.lookup f_reduced = some ⟨oc_reduced, od_reduced, .func (PySem.W.fnOf "reduced" "reduced" (defArgs s_reduced) (defBody s_reduced) (defScope s_reduced) .none kV_reduced dc_reduced pm_reduced an_reduced cd_reduced ct_reduced), sl_reduced⟩) (c_reduced : PySem.W.codeIn K cd_reduced "reduced" = true) (k_reduced : PySem.W.keepIn K (.ref f_reduced) = true)
    {od_need_names an_need_names : Option Addr} {sl_need_names : Array (Option Value)} {oc_need_names kV_need_names dc_need_names pm_need_names cd_need_names ct_need_names : Value} {f_need_names : Addr}
    (a_need_names : PySem.W.nsIn K mainGlobals "need_names" = some (some (.ref f_need_names))) (l_need_names : K.lookup f_need_names = some ⟨oc_need_names, od_need_names, .func (PySem.W.fnOf "need_names" "need_names" (defArgs s_need_names) (defBody s_need_names) (defScope s_need_names) .none kV_need_names dc_need_names pm_need_names an_need_names cd_need_names ct_need_names), sl_need_names⟩) (c_need_names : PySem.W.codeIn K cd_need_names "need_names" = true) (k_need_names : PySem.W.keepIn K (.ref f_need_names) = true)
    {od_need_apart an_need_apart : Option Addr} {sl_need_apart : Array (Option Value)} {oc_need_apart kV_need_apart dc_need_apart pm_need_apart cd_need_apart ct_need_apart : Value} {f_need_apart : Addr}
    (a_need_apart : PySem.W.nsIn K mainGlobals "need_apart" = some (some (.ref f_need_apart))) (l_need_apart : K.lookup f_need_apart = some ⟨oc_need_apart, od_need_apart, .func (PySem.W.fnOf "need_apart" "need_apart" (defArgs s_need_apart) (defBody s_need_apart) (defScope s_need_apart) .none kV_need_apart dc_need_apart pm_need_apart an_need_apart cd_need_apart ct_need_apart), sl_need_apart⟩) (c_need_apart : PySem.W.codeIn K cd_need_apart "need_apart" = true) (k_need_apart : PySem.W.keepIn K (.ref f_need_apart) = true)
    {od_are_apart an_are_apart : Option Addr} {sl_are_apart : Array (Option Value)} {oc_are_apart kV_are_apart dc_are_apart pm_are_apart cd_are_apart ct_are_apart : Value} {f_are_apart : Addr}
    (a_are_apart : PySem.W.nsIn K mainGlobals "are_apart" = some (some (.ref f_are_apart))) (l_are_apart : K.lookup f_are_apart = some ⟨oc_are_apart, od_are_apart, .func (PySem.W.fnOf "are_apart" "are_apart" (defArgs s_are_apart) (defBody s_are_apart) (defScope s_are_apart) .none kV_are_apart dc_are_apart pm_are_apart an_are_apart cd_are_apart ct_are_apart), sl_are_apart⟩) (c_are_apart : PySem.W.codeIn K cd_are_apart "are_apart" = true) (k_are_apart : PySem.W.keepIn K (.ref f_are_apart) = true)
    {od_sum_of_shares an_sum_of_shares : Option Addr} {sl_sum_of_shares : Array (Option Value)} {oc_sum_of_shares kV_sum_of_shares dc_sum_of_shares pm_sum_of_shares cd_sum_of_shares ct_sum_of_shares : Value} {f_sum_of_shares : Addr}
    (a_sum_of_shares : PySem.W.nsIn K mainGlobals "sum_of_shares" = some (some (.ref f_sum_of_shares))) (l_sum_of_shares : K.lookup f_sum_of_shares = some ⟨oc_sum_of_shares, od_sum_of_shares, .func (PySem.W.fnOf "sum_of_shares" "sum_of_shares" (defArgs s_sum_of_shares) (defBody s_sum_of_shares) (defScope s_sum_of_shares) .none kV_sum_of_shares dc_sum_of_shares pm_sum_of_shares an_sum_of_shares cd_sum_of_shares ct_sum_of_shares), sl_sum_of_shares⟩) (c_sum_of_shares : PySem.W.codeIn K cd_sum_of_shares "sum_of_shares" = true) (k_sum_of_shares : PySem.W.keepIn K (.ref f_sum_of_shares) = true)
    {od_share_of an_share_of : Option Addr} {sl_share_of : Array (Option Value)} {oc_share_of kV_share_of dc_share_of pm_share_of cd_share_of ct_share_of : Value} {f_share_of : Addr}
    (a_share_of : PySem.W.nsIn K mainGlobals "share_of" = some (some (.ref f_share_of))) (l_share_of : K.lookup f_share_of = some ⟨oc_share_of, od_share_of, .func (PySem.W.fnOf "share_of" "share_of" (defArgs s_share_of) (defBody s_share_of) (defScope s_share_of) .none kV_share_of dc_share_of pm_share_of an_share_of cd_share_of ct_share_of), sl_share_of⟩) (c_share_of : PySem.W.codeIn K cd_share_of "share_of" = true) (k_share_of : PySem.W.keepIn K (.ref f_share_of) = true)
    {od_free_names an_free_names : Option Addr} {sl_free_names : Array (Option Value)} {oc_free_names kV_free_names dc_free_names pm_free_names cd_free_names ct_free_names : Value} {f_free_names : Addr}
    (a_free_names : PySem.W.nsIn K mainGlobals "free_names" = some (some (.ref f_free_names))) (l_free_names : K.lookup f_free_names = some ⟨oc_free_names, od_free_names, .func (PySem.W.fnOf "free_names" "free_names" (defArgs s_free_names) (defBody s_free_names) (defScope s_free_names) .none kV_free_names dc_free_names pm_free_names an_free_names cd_free_names ct_free_names), sl_free_names⟩) (c_free_names : PySem.W.codeIn K cd_free_names "free_names" = true) (k_free_names : PySem.W.keepIn K (.ref f_free_names) = true)
    {od__law_grove an__law_grove : Option Addr} {sl__law_grove : Array (Option Value)} {oc__law_grove kV__law_grove dc__law_grove pm__law_grove cd__law_grove ct__law_grove : Value} {f__law_grove : Addr}
    (a__law_grove : PySem.W.nsIn K mainGlobals "_law_grove" = some (some (.ref f__law_grove))) (l__law_grove : K.lookup f__law_grove = some ⟨oc__law_grove, od__law_grove, .func (PySem.W.fnOf "_law_grove" "_law_grove" (defArgs s__law_grove) (defBody s__law_grove) (defScope s__law_grove) .none kV__law_grove dc__law_grove pm__law_grove an__law_grove cd__law_grove ct__law_grove), sl__law_grove⟩) (c__law_grove : PySem.W.codeIn K cd__law_grove "_law_grove" = true) (k__law_grove : PySem.W.keepIn K (.ref f__law_grove) = true)
    {od__law_fell an__law_fell : Option Addr} {sl__law_fell : Array (Option Value)} {oc__law_fell kV__law_fell dc__law_fell pm__law_fell cd__law_fell ct__law_fell : Value} {f__law_fell : Addr}
    (a__law_fell : PySem.W.nsIn K mainGlobals "_law_fell" = some (some (.ref f__law_fell))) (l__law_fell : K.lookup f__law_fell = some ⟨oc__law_fell, od__law_fell, .func (PySem.W.fnOf "_law_fell" "_law_fell" (defArgs s__law_fell) (defBody s__law_fell) (defScope s__law_fell) .none kV__law_fell dc__law_fell pm__law_fell an__law_fell cd__law_fell ct__law_fell), sl__law_fell⟩) (c__law_fell : PySem.W.codeIn K cd__law_fell "_law_fell" = true) (k__law_fell : PySem.W.keepIn K (.ref f__law_fell) = true)
    {od__law_stem an__law_stem : Option Addr} {sl__law_stem : Array (Option Value)} {oc__law_stem kV__law_stem dc__law_stem pm__law_stem cd__law_stem ct__law_stem : Value} {f__law_stem : Addr}
    (a__law_stem : PySem.W.nsIn K mainGlobals "_law_stem" = some (some (.ref f__law_stem))) (l__law_stem : K.lookup f__law_stem = some ⟨oc__law_stem, od__law_stem, .func (PySem.W.fnOf "_law_stem" "_law_stem" (defArgs s__law_stem) (defBody s__law_stem) (defScope s__law_stem) .none kV__law_stem dc__law_stem pm__law_stem an__law_stem cd__law_stem ct__law_stem), sl__law_stem⟩) (c__law_stem : PySem.W.codeIn K cd__law_stem "_law_stem" = true) (k__law_stem : PySem.W.keepIn K (.ref f__law_stem) = true)
    {od__law_ends an__law_ends : Option Addr} {sl__law_ends : Array (Option Value)} {oc__law_ends kV__law_ends dc__law_ends pm__law_ends cd__law_ends ct__law_ends : Value} {f__law_ends : Addr}
    (a__law_ends : PySem.W.nsIn K mainGlobals "_law_ends" = some (some (.ref f__law_ends))) (l__law_ends : K.lookup f__law_ends = some ⟨oc__law_ends, od__law_ends, .func (PySem.W.fnOf "_law_ends" "_law_ends" (defArgs s__law_ends) (defBody s__law_ends) (defScope s__law_ends) .none kV__law_ends dc__law_ends pm__law_ends an__law_ends cd__law_ends ct__law_ends), sl__law_ends⟩) (c__law_ends : PySem.W.codeIn K cd__law_ends "_law_ends" = true) (k__law_ends : PySem.W.keepIn K (.ref f__law_ends) = true)
    {od__law_names an__law_names : Option Addr} {sl__law_names : Array (Option Value)} {oc__law_names kV__law_names dc__law_names pm__law_names cd__law_names ct__law_names : Value} {f__law_names : Addr}
    (a__law_names : PySem.W.nsIn K mainGlobals "_law_names" = some (some (.ref f__law_names))) (l__law_names : K.lookup f__law_names = some ⟨oc__law_names, od__law_names, .func (PySem.W.fnOf "_law_names" "_law_names" (defArgs s__law_names) (defBody s__law_names) (defScope s__law_names) .none kV__law_names dc__law_names pm__law_names an__law_names cd__law_names ct__law_names), sl__law_names⟩) (c__law_names : PySem.W.codeIn K cd__law_names "_law_names" = true) (k__law_names : PySem.W.keepIn K (.ref f__law_names) = true)
    {od__law_free an__law_free : Option Addr} {sl__law_free : Array (Option Value)} {oc__law_free kV__law_free dc__law_free pm__law_free cd__law_free ct__law_free : Value} {f__law_free : Addr}
    (a__law_free : PySem.W.nsIn K mainGlobals "_law_free" = some (some (.ref f__law_free))) (l__law_free : K.lookup f__law_free = some ⟨oc__law_free, od__law_free, .func (PySem.W.fnOf "_law_free" "_law_free" (defArgs s__law_free) (defBody s__law_free) (defScope s__law_free) .none kV__law_free dc__law_free pm__law_free an__law_free cd__law_free ct__law_free), sl__law_free⟩) (c__law_free : PySem.W.codeIn K cd__law_free "_law_free" = true) (k__law_free : PySem.W.keepIn K (.ref f__law_free) = true)
    {od__law_heard an__law_heard : Option Addr} {sl__law_heard : Array (Option Value)} {oc__law_heard kV__law_heard dc__law_heard pm__law_heard cd__law_heard ct__law_heard : Value} {f__law_heard : Addr}
    (a__law_heard : PySem.W.nsIn K mainGlobals "_law_heard" = some (some (.ref f__law_heard))) (l__law_heard : K.lookup f__law_heard = some ⟨oc__law_heard, od__law_heard, .func (PySem.W.fnOf "_law_heard" "_law_heard" (defArgs s__law_heard) (defBody s__law_heard) (defScope s__law_heard) .none kV__law_heard dc__law_heard pm__law_heard an__law_heard cd__law_heard ct__law_heard), sl__law_heard⟩) (c__law_heard : PySem.W.codeIn K cd__law_heard "_law_heard" = true) (k__law_heard : PySem.W.keepIn K (.ref f__law_heard) = true)
    {od_law an_law : Option Addr} {sl_law : Array (Option Value)} {oc_law kV_law dc_law pm_law cd_law ct_law : Value} {f_law : Addr}
    (a_law : PySem.W.nsIn K mainGlobals "law" = some (some (.ref f_law))) (l_law : K.lookup f_law = some ⟨oc_law, od_law, .func (PySem.W.fnOf "law" "law" (defArgs s_law) (defBody s_law) (defScope s_law) .none kV_law dc_law pm_law an_law cd_law ct_law), sl_law⟩) (c_law : PySem.W.codeIn K cd_law "law" = true) (k_law : PySem.W.keepIn K (.ref f_law) = true)
    (z_isinstance : PySem.W.nsIn K mainGlobals "isinstance" = some none)
    (z_list : PySem.W.nsIn K mainGlobals "list" = some none)
    (z_tuple : PySem.W.nsIn K mainGlobals "tuple" = some none)
    (z_len : PySem.W.nsIn K mainGlobals "len" = some none)
    (z_str : PySem.W.nsIn K mainGlobals "str" = some none)
    (z_gcd : PySem.W.nsIn K mainGlobals "gcd" = some (some (.builtin "math.gcd")))
    (z_all : PySem.W.nsIn K mainGlobals "all" = some none)
    (z_sorted : PySem.W.nsIn K mainGlobals "sorted" = some none)
    (z_any : PySem.W.nsIn K mainGlobals "any" = some none)
    (z_range : PySem.W.nsIn K mainGlobals "range" = some none)
    (z_sum : PySem.W.nsIn K mainGlobals "sum" = some none)
    (z_int : PySem.W.nsIn K mainGlobals "int" = some none)
    (z_abs : PySem.W.nsIn K mainGlobals "abs" = some none)
    (z_repr : PySem.W.nsIn K mainGlobals "repr" = some none)
    (z_ValueError : PySem.W.nsIn K mainGlobals "ValueError" = some none)
    {t_MOST_SIGNS : Tok} (g_MOST_SIGNS : PySem.W.nsIn K mainGlobals "MOST_SIGNS" = some (some (.int 60 t_MOST_SIGNS)))
    {t_MOST_NAMES : Tok} (g_MOST_NAMES : PySem.W.nsIn K mainGlobals "MOST_NAMES" = some (some (.int 200 t_MOST_NAMES)))
    {cT PT : Addr} {ocT : Value} {odT : Option Addr} {vsT : Array Value} {slT : Array (Option Value)} (eT : cd_law = .ref cT) (lT : K.lookup cT = some ⟨ocT, odT, .fields vsT, slT⟩) (vT : vsT[11]? = some (.ref PT)) (hT : PySem.W.codeHdIn K cT PT = true) (nT : K.lookup PT = none) (tT : h.get? PT = some emptyTab)
    {nm_BadName q_BadName : Str} {N_BadName_ : Addr} {bs_BadName bm_BadName : List Value} {sn_BadName : List Str} {sub_BadName : List Value} {ab_BadName : Bool} {col_BadName : Option Bool} {dd_BadName : Option Addr} {m0_BadName m1_BadName m2_BadName m3_BadName m5_BadName : Option Value} {c_BadName f_BadName : Addr}
    {od_BadName an_BadName : Option Addr} {sl_BadName : Array (Option Value)} {oc_BadName kV_BadName dc_BadName pm_BadName cd_BadName ct_BadName : Value}
    (at_BadName : PySem.W.nsIn K mainGlobals "BadName" = some (some (.ref c_BadName)))
    (xL_BadName : K.lookup c_BadName = some (excClassObj nm_BadName q_BadName c_BadName N_BadName_ bs_BadName bm_BadName true sn_BadName sub_BadName ab_BadName col_BadName dd_BadName m0_BadName m1_BadName m2_BadName m3_BadName m5_BadName "ValueError.__new__"))
    (rv_BadName : PySem.HandSPX.refsVE bm_BadName = true)
    (sa_BadName : PySem.W.findIn K (.ref c_BadName) "__setattr__" = some (some (.builtin "object.__setattr__")))
    (eC_BadName : PySem.W.subIn K (.ref c_BadName) (.type "BaseException") = some true)
    (tC_BadName : PySem.W.typeIn K (.ref c_BadName) = some (.type "type"))
    (kC_BadName : PySem.W.keepIn K (.ref c_BadName) = true)
    (ga_BadName : PySem.W.findIn K (.ref c_BadName) "__getattribute__" = some (some (.builtin "BaseException.__getattribute__")))
    (gg_BadName : PySem.W.findIn K (.ref c_BadName) "__getattr__" = some none)
    (hd_BadName : PySem.W.hasDictIn K c_BadName = true)
    (cA_BadName : PySem.W.findIn K (.ref c_BadName) "__class__" = some (some (.builtin "object.__class__")))
    (cm_BadName : PySem.W.mroIn K c_BadName (.type "object") = some true)
    (no_BadName : PySem.W.findIn K (.ref c_BadName) "part" = some none)
    (ai_BadName : PySem.W.findIn K (.ref c_BadName) "__init__" = some (some (.ref f_BadName)))
    (ti_BadName : PySem.W.typeIn K (.ref f_BadName) = some (.type "function"))
    (li_BadName : K.lookup f_BadName = some ⟨oc_BadName, od_BadName, .func (PySem.W.fnOf "__init__" "BadName.__init__" (defArgs s_BadName_init) (defBody s_BadName_init) (defScope s_BadName_init) .none kV_BadName dc_BadName pm_BadName an_BadName cd_BadName ct_BadName), sl_BadName⟩)
    (ci_BadName : PySem.W.codeIn K cd_BadName "BadName.__init__" = true)
    (ki_BadName : PySem.W.keepIn K (.ref f_BadName) = true)
    {nm_Misfit q_Misfit : Str} {N_Misfit_ : Addr} {bs_Misfit bm_Misfit : List Value} {sn_Misfit : List Str} {sub_Misfit : List Value} {ab_Misfit : Bool} {col_Misfit : Option Bool} {dd_Misfit : Option Addr} {m0_Misfit m1_Misfit m2_Misfit m3_Misfit m5_Misfit : Option Value} {c_Misfit f_Misfit : Addr}
    {od_Misfit an_Misfit : Option Addr} {sl_Misfit : Array (Option Value)} {oc_Misfit kV_Misfit dc_Misfit pm_Misfit cd_Misfit ct_Misfit : Value}
    (at_Misfit : PySem.W.nsIn K mainGlobals "Misfit" = some (some (.ref c_Misfit)))
    (xL_Misfit : K.lookup c_Misfit = some (excClassObj nm_Misfit q_Misfit c_Misfit N_Misfit_ bs_Misfit bm_Misfit true sn_Misfit sub_Misfit ab_Misfit col_Misfit dd_Misfit m0_Misfit m1_Misfit m2_Misfit m3_Misfit m5_Misfit "ValueError.__new__"))
    (rv_Misfit : PySem.HandSPX.refsVE bm_Misfit = true)
    (sa_Misfit : PySem.W.findIn K (.ref c_Misfit) "__setattr__" = some (some (.builtin "object.__setattr__")))
    (eC_Misfit : PySem.W.subIn K (.ref c_Misfit) (.type "BaseException") = some true)
    (tC_Misfit : PySem.W.typeIn K (.ref c_Misfit) = some (.type "type"))
    (kC_Misfit : PySem.W.keepIn K (.ref c_Misfit) = true)
    (ga_Misfit : PySem.W.findIn K (.ref c_Misfit) "__getattribute__" = some (some (.builtin "BaseException.__getattribute__")))
    (gg_Misfit : PySem.W.findIn K (.ref c_Misfit) "__getattr__" = some none)
    (hd_Misfit : PySem.W.hasDictIn K c_Misfit = true)
    (cA_Misfit : PySem.W.findIn K (.ref c_Misfit) "__class__" = some (some (.builtin "object.__class__")))
    (cm_Misfit : PySem.W.mroIn K c_Misfit (.type "object") = some true)
    (no_Misfit : PySem.W.findIn K (.ref c_Misfit) "part" = some none)
    (ai_Misfit : PySem.W.findIn K (.ref c_Misfit) "__init__" = some (some (.ref f_Misfit)))
    (ti_Misfit : PySem.W.typeIn K (.ref f_Misfit) = some (.type "function"))
    (li_Misfit : K.lookup f_Misfit = some ⟨oc_Misfit, od_Misfit, .func (PySem.W.fnOf "__init__" "Misfit.__init__" (defArgs s_Misfit_init) (defBody s_Misfit_init) (defScope s_Misfit_init) .none kV_Misfit dc_Misfit pm_Misfit an_Misfit cd_Misfit ct_Misfit), sl_Misfit⟩)
    (ci_Misfit : PySem.W.codeIn K cd_Misfit "Misfit.__init__" = true)
    (ki_Misfit : PySem.W.keepIn K (.ref f_Misfit) = true)
    (cg : PySem.W.specialIn K (.builtin "object.__class__") "__get__" = some (some (.builtin "getset_descriptor.__get__")))
    (ct : PySem.W.takesIn K (.builtin "object.__class__") = some true)
    {c_TickError : Addr}
    (at_TickError : PySem.W.nsIn K mainGlobals "TickError" = some (some (.ref c_TickError)))
    (kBB : PySem.W.kitOne K (.ref c_BadName) (.ref c_BadName) = some true)
    (kBM : PySem.W.kitOne K (.ref c_BadName) (.ref c_Misfit) = some false)
    (kMB : PySem.W.kitOne K (.ref c_Misfit) (.ref c_BadName) = some false)
    (kMM : PySem.W.kitOne K (.ref c_Misfit) (.ref c_Misfit) = some true)
    (eb : PySem.W.subIn K (.ref c_TickError) (.type "BaseException") = some true)
    (ekB : PySem.W.kitCls K (.ref c_BadName) (.ref c_TickError) = some true)
    (ekM : PySem.W.kitCls K (.ref c_Misfit) (.ref c_TickError) = some true)
    : LawTG l w K 64 63 "script" mg fa h := by
  have e := hfa.symm.trans (PySem.W.mg_of X G a_law)
  cases e
  have T : Txt mg := ⟨PySem.W.mg_none_of X G z_isinstance, PySem.W.mg_none_of X G z_list, PySem.W.mg_none_of X G z_tuple, PySem.W.mg_none_of X G z_len, PySem.W.mg_none_of X G z_str, PySem.W.mg_none_of X G z_all, PySem.W.mg_none_of X G z_sorted, PySem.W.mg_none_of X G z_any, PySem.W.mg_none_of X G z_range, PySem.W.mg_none_of X G z_sum, PySem.W.mg_none_of X G z_int, PySem.W.mg_none_of X G z_abs, PySem.W.mg_none_of X G z_repr, PySem.W.mg_none_of X G z_ValueError, ⟨_, PySem.W.mg_of X G g_MOST_SIGNS⟩, ⟨_, PySem.W.mg_of X G g_MOST_NAMES⟩, PySem.W.mg_of X G z_gcd⟩
  have F_is_row := fun_mk (st := s_is_row) l_is_row c_is_row k_is_row
  have b_is_row := F_is_row.binds (ps := ["value", "least", "most"]) fun _ _ _ _ _ _ us hl => match us, hl with | [_, _, _], _ => rfl
  have m_is_row := PySem.W.mg_of X G a_is_row
  have F_is_signs := fun_mk (st := s_is_signs) l_is_signs c_is_signs k_is_signs
  have b_is_signs := F_is_signs.binds (ps := ["value", "least", "most"]) fun _ _ _ _ _ _ us hl => match us, hl with | [_, _, _], _ => rfl
  have m_is_signs := PySem.W.mg_of X G a_is_signs
  have F_is_name := fun_mk (st := s_is_name) l_is_name c_is_name k_is_name
  have b_is_name := F_is_name.binds (ps := ["value"]) fun _ _ _ _ _ _ us hl => match us, hl with | [_], _ => rfl
  have m_is_name := PySem.W.mg_of X G a_is_name
  have F_reduced := fun_mk (st := s_reduced) l_reduced c_reduced k_reduced
  have b_reduced := F_reduced.binds (ps := ["up", "down"]) fun _ _ _ _ _ _ us hl => match us, hl with | [_, _], _ => rfl
  have m_reduced := PySem.W.mg_of X G a_reduced
  have F_need_names := fun_mk (st := s_need_names) l_need_names c_need_names k_need_names
  have b_need_names := F_need_names.binds (ps := ["names"]) fun _ _ _ _ _ _ us hl => match us, hl with | [_], _ => rfl
  have m_need_names := PySem.W.mg_of X G a_need_names
  have F_need_apart := fun_mk (st := s_need_apart) l_need_apart c_need_apart k_need_apart
  have b_need_apart := F_need_apart.binds (ps := ["names"]) fun _ _ _ _ _ _ us hl => match us, hl with | [_], _ => rfl
  have m_need_apart := PySem.W.mg_of X G a_need_apart
  have F_are_apart := fun_mk (st := s_are_apart) l_are_apart c_are_apart k_are_apart
  have b_are_apart := F_are_apart.binds (ps := ["names"]) fun _ _ _ _ _ _ us hl => match us, hl with | [_], _ => rfl
  have m_are_apart := PySem.W.mg_of X G a_are_apart
  have F_sum_of_shares := fun_mk (st := s_sum_of_shares) l_sum_of_shares c_sum_of_shares k_sum_of_shares
  have b_sum_of_shares := F_sum_of_shares.binds (ps := ["lengths"]) fun _ _ _ _ _ _ us hl => match us, hl with | [_], _ => rfl
  have m_sum_of_shares := PySem.W.mg_of X G a_sum_of_shares
  have F_share_of := fun_mk (st := s_share_of) l_share_of c_share_of k_share_of
  have b_share_of := F_share_of.binds (ps := ["names"]) fun _ _ _ _ _ _ us hl => match us, hl with | [_], _ => rfl
  have m_share_of := PySem.W.mg_of X G a_share_of
  have F_free_names := fun_mk (st := s_free_names) l_free_names c_free_names k_free_names
  have b_free_names := F_free_names.binds (ps := ["names"]) fun _ _ _ _ _ _ us hl => match us, hl with | [_], _ => rfl
  have m_free_names := PySem.W.mg_of X G a_free_names
  have F__law_grove := fun_mk (st := s__law_grove) l__law_grove c__law_grove k__law_grove
  have b__law_grove := F__law_grove.binds (ps := ["script"]) fun _ _ _ _ _ _ us hl => match us, hl with | [_], _ => rfl
  have m__law_grove := PySem.W.mg_of X G a__law_grove
  have F__law_fell := fun_mk (st := s__law_fell) l__law_fell c__law_fell k__law_fell
  have b__law_fell := F__law_fell.binds (ps := ["grove", "many"]) fun _ _ _ _ _ _ us hl => match us, hl with | [_, _], _ => rfl
  have m__law_fell := PySem.W.mg_of X G a__law_fell
  have F__law_stem := fun_mk (st := s__law_stem) l__law_stem c__law_stem k__law_stem
  have b__law_stem := F__law_stem.binds (ps := ["grove", "some"]) fun _ _ _ _ _ _ us hl => match us, hl with | [_, _], _ => rfl
  have m__law_stem := PySem.W.mg_of X G a__law_stem
  have F__law_ends := fun_mk (st := s__law_ends) l__law_ends c__law_ends k__law_ends
  have b__law_ends := F__law_ends.binds (ps := ["grove", "begin", "deep"]) fun _ _ _ _ _ _ us hl => match us, hl with | [_, _, _], _ => rfl
  have m__law_ends := PySem.W.mg_of X G a__law_ends
  have F__law_names := fun_mk (st := s__law_names) l__law_names c__law_names k__law_names
  have b__law_names := F__law_names.binds (ps := ["grove"]) fun _ _ _ _ _ _ us hl => match us, hl with | [_], _ => rfl
  have m__law_names := PySem.W.mg_of X G a__law_names
  have F__law_free := fun_mk (st := s__law_free) l__law_free c__law_free k__law_free
  have b__law_free := F__law_free.binds (ps := ["names", "begin"]) fun _ _ _ _ _ _ us hl => match us, hl with | [_, _], _ => rfl
  have m__law_free := PySem.W.mg_of X G a__law_free
  have F__law_heard := fun_mk (st := s__law_heard) l__law_heard c__law_heard k__law_heard
  have b__law_heard := F__law_heard.binds (ps := ["ask"]) fun _ _ _ _ _ _ us hl => match us, hl with | [_], _ => rfl
  have m__law_heard := PySem.W.mg_of X G a__law_heard
  have F_law := fun_mk (st := s_law) l_law c_law k_law
  have O_BadName : OexC K c_BadName := ⟨⟨nm_BadName, q_BadName, N_BadName_, bs_BadName, bm_BadName, sn_BadName, sub_BadName, ab_BadName, col_BadName, dd_BadName, m0_BadName, m1_BadName, m2_BadName, m3_BadName, m5_BadName, xL_BadName, rv_BadName⟩, sa_BadName, eC_BadName, tC_BadName, kC_BadName⟩
  have E_BadName : ExC K c_BadName := ⟨O_BadName, ga_BadName, gg_BadName, hd_BadName, cA_BadName, cg, ct, cm_BadName⟩
  have F_BadName := fun_mk (st := s_BadName_init) li_BadName ci_BadName ki_BadName
  have M_BadName := PySem.W.mg_of X G at_BadName
  have O_Misfit : OexC K c_Misfit := ⟨⟨nm_Misfit, q_Misfit, N_Misfit_, bs_Misfit, bm_Misfit, sn_Misfit, sub_Misfit, ab_Misfit, col_Misfit, dd_Misfit, m0_Misfit, m1_Misfit, m2_Misfit, m3_Misfit, m5_Misfit, xL_Misfit, rv_Misfit⟩, sa_Misfit, eC_Misfit, tC_Misfit, kC_Misfit⟩
  have E_Misfit : ExC K c_Misfit := ⟨O_Misfit, ga_Misfit, gg_Misfit, hd_Misfit, cA_Misfit, cg, ct, cm_Misfit⟩
  have F_Misfit := fun_mk (st := s_Misfit_init) li_Misfit ci_Misfit ki_Misfit
  have M_Misfit := PySem.W.mg_of X G at_Misfit
  have exB : PySem.W.exmOne K (.ref c_BadName) (.ref c_TickError) = some true := by
    unfold PySem.W.exmOne
    rw [eb]
    exact ekB
  have exM : PySem.W.exmOne K (.ref c_Misfit) (.ref c_TickError) = some true := by
    unfold PySem.W.exmOne
    rw [eb]
    exact ekM

  refine ⟨PySem.W.fnOf "law" "law" (defArgs s_law) (defBody s_law) (defScope s_law) .none kV_law dc_law pm_law an_law cd_law ct_law, [(cT, PT)], spLawT PT K, ?_, ?_, ?_, fun s v => .of_eq rfl, ?_, fun base inB gB TBs => ?_⟩
  · intro p hp
    rw [List.mem_singleton.mp hp]
    exact tT
  · intro p hp
    rw [List.mem_singleton.mp hp]
    exact nT
  · intro p hp
    rw [List.mem_singleton.mp hp]
    exact PySem.W.codeHd_of_K X hT
  · intro H a ns hl hb hH hS
    exact ⟨a, ns, rfl, hS, hH _ (List.mem_singleton.mpr rfl), fun _ => rfl⟩
  have TB := TBs _ (List.mem_singleton.mpr rfl)
  have R_BadName : Rcl l.prog w K mg base "BadName" c_BadName "part" := ⟨O_BadName, M_BadName, no_BadName, f_BadName, _, _, ai_BadName, ti_BadName, ok_BadName F_BadName, F_BadName.binds (ps := ["self", "part"]) fun _ _ _ _ _ _ us hl => match us, hl with | [_, _], _ => rfl⟩
  have R_Misfit : Rcl l.prog w K mg base "Misfit" c_Misfit "part" := ⟨O_Misfit, M_Misfit, no_Misfit, f_Misfit, _, _, ai_Misfit, ti_Misfit, ok_Misfit F_Misfit, F_Misfit.binds (ps := ["self", "part"]) fun _ _ _ _ _ _ us hl => match us, hl with | [_, _], _ => rfl⟩
  have C_is_row : Cal l.prog w K mg base 1 "is_row" ["value", "least", "most"] (spRow) := ⟨_, _, ok_is_row F_is_row T, m_is_row, k_is_row, b_is_row⟩
  have C_is_signs : Cal l.prog w K mg base 1 "is_signs" ["value", "least", "most"] (spSig) := ⟨_, _, ok_is_signs F_is_signs T, m_is_signs, k_is_signs, b_is_signs⟩
  have C_is_name : Cal l.prog w K mg base 2 "is_name" ["value"] (spAny1 fun _ v => nameB v) := ⟨_, _, ok_is_name F_is_name T C_is_signs, m_is_name, k_is_name, b_is_name⟩
  have C_reduced : Cal l.prog w K mg base 1 "reduced" ["up", "down"] (spRed) := ⟨_, _, ok_reduced F_reduced T, m_reduced, k_reduced, b_reduced⟩
  have C_need_names : CalX l.prog w K mg base 3 "need_names" ["names"] (spNeed c_BadName) := ⟨_, _, ok_need_names F_need_names T R_BadName C_is_row C_is_name, m_need_names, k_need_names, b_need_names⟩
  have C_are_apart : CalX l.prog w K mg base 4 "are_apart" ["names"] (spApart c_BadName) := ⟨_, _, ok_are_apart F_are_apart T C_need_names, m_are_apart, k_are_apart, b_are_apart⟩
  have C_sum_of_shares : Cal l.prog w K mg base 2 "sum_of_shares" ["lengths"] (spSum K) := ⟨_, _, ok_sum_of_shares F_sum_of_shares T C_reduced, m_sum_of_shares, k_sum_of_shares, b_sum_of_shares⟩
  have C_share_of : CalX l.prog w K mg base 4 "share_of" ["names"] (spShare c_BadName) := ⟨_, _, ok_share_of F_share_of T C_need_names C_sum_of_shares, m_share_of, k_share_of, b_share_of⟩
  have C_need_apart : CalX l.prog w K mg base 5 "need_apart" ["names"] (spNeedAp c_BadName c_Misfit) := ⟨_, _, ok_need_apart F_need_apart T R_Misfit C_are_apart, m_need_apart, k_need_apart, b_need_apart⟩
  have C_free_names : CalX l.prog w K mg base 6 "free_names" ["names"] (spFree c_BadName c_Misfit) := ⟨_, _, ok_free_names F_free_names T C_need_apart, m_free_names, k_free_names, b_free_names⟩
  have K_free_names : CalXK l.prog w K mg base 6 "free_names" ["names"] ["names"] (fun l => l) (spFree c_BadName c_Misfit) := ⟨_, _, _, ok_free_names F_free_names T C_need_apart, m_free_names, k_free_names, Fun.kb F_free_names (fun l => l) (fun r => r) fun _ _ _ _ _ _ ws hl => match ws, hl with | [_], _ => rfl⟩
  have C__law_grove : Cal l.prog w K mg base 1 "_law_grove" ["script"] (spSieve K) := ⟨_, _, ok_sieve F__law_grove T, m__law_grove, k__law_grove, b__law_grove⟩
  have C__law_fell : Cal l.prog w K mg base 1 "_law_fell" ["grove", "many"] (spSift) := ⟨_, _, ok_sift F__law_fell T, m__law_fell, k__law_fell, b__law_fell⟩
  have C__law_stem : Cal l.prog w K mg base 2 "_law_stem" ["grove", "some"] (spOne) := ⟨_, _, ok_one F__law_stem T C__law_fell, m__law_stem, k__law_stem, b__law_stem⟩
  have C__law_ends : Cal l.prog w K mg base 7 "_law_ends" ["grove", "begin", "deep"] spAnyEnds := ⟨_, _, fnOk_any (ends_all F__law_ends T m__law_ends k__law_ends b__law_ends C__law_fell), m__law_ends, k__law_ends, b__law_ends⟩
  have C__law_names : Cal l.prog w K mg base 8 "_law_names" ["grove"] (spNames) := ⟨_, _, ok_names F__law_names T C__law_fell C__law_stem C__law_ends, m__law_names, k__law_names, b__law_names⟩
  have C__law_free : Cal l.prog w K mg base 63 "_law_free" ["names", "begin"] (spLF 60) := ⟨_, _, lfree_all F__law_free T m__law_free k__law_free b__law_free 60, m__law_free, k__law_free, b__law_free⟩
  exact ok_law F_law eT TB T F__law_heard m__law_heard k__law_heard b__law_heard E_BadName E_Misfit M_BadName M_Misfit (PySem.W.mg_of X G at_TickError) no_BadName no_Misfit kBB kBM kMB kMM exB exM C_are_apart C_share_of C_free_names K_free_names C__law_grove C__law_fell C__law_stem C__law_names C__law_free

theorem walk {l : PySem.W.OpenLaw} {q : Program} {loose : List Str} {XP : (Str → Option Value) → Heap → Prop} {YP : World → Heap → Prop} {d : DefRec} {K : Params → PySem.W.Frag} (hn : l.most = some 63) (hdf : d.params.defaults = [])
    (hY : ∀ (w : World) (h : Heap), YP w h → (K w.params).In h)
    (F : ∀ (w : World) (mg : Str → Option Value) (fa : Addr) (h : Heap), YP w h → (K w.params).In h → h.Ns mainGlobals mg → mg d.name = some (.ref fa) → LawTG l w (K w.params) 64 63 "script" mg fa h) :
    PySem.W.WalkO q loose XP YP l.row.toRowW d [] (fun f vs => PySem.call f vs) :=
  Own.walk_ofTG (n := 63) (k := 64) (x := "script") hn (by decide) hdf ⟨rfl, by decide, by decide⟩ hY F
end K05

open PySem PySem.W PyProof.Rows in
set_option maxRecDepth 100000 in
set_option maxHeartbeats 0 in
theorem PySem.Challenge.cw_duetickers_k05_free_names_holds : PySem.Challenge.rw_duetickers_k05_free_names.Holds := by
  w_on; o_law; k_head; (case hw => w_witness2)
  k_fill
  refine K05.walk (l := PySem.Challenge.rw_duetickers_k05_free_names) rfl rfl (fun w h Y => PySem.W.km_in_of Y) ?F
  case F =>
    intro w mg fa h Y KX G hmg
    refine' K05.all_mk KX G hmg ?a_is_row ?l_is_row ?c_is_row ?k_is_row ?a_is_signs ?l_is_signs ?c_is_signs ?k_is_signs ?a_is_name ?l_is_name ?c_is_name ?k_is_name ?a_reduced ?l_reduced ?c_reduced ?k_reduced ?a_need_names ?l_need_names ?c_need_names ?k_need_names ?a_need_apart ?l_need_apart ?c_need_apart ?k_need_apart ?a_are_apart ?l_are_apart ?c_are_apart ?k_are_apart ?a_sum_of_shares ?l_sum_of_shares ?c_sum_of_shares ?k_sum_of_shares ?a_share_of ?l_share_of ?c_share_of ?k_share_of ?a_free_names ?l_free_names ?c_free_names ?k_free_names ?a__law_grove ?l__law_grove ?c__law_grove ?k__law_grove ?a__law_fell ?l__law_fell ?c__law_fell ?k__law_fell ?a__law_stem ?l__law_stem ?c__law_stem ?k__law_stem ?a__law_ends ?l__law_ends ?c__law_ends ?k__law_ends ?a__law_names ?l__law_names ?c__law_names ?k__law_names ?a__law_free ?l__law_free ?c__law_free ?k__law_free ?a__law_heard ?l__law_heard ?c__law_heard ?k__law_heard ?a_law ?l_law ?c_law ?k_law ?z_isinstance ?z_list ?z_tuple ?z_len ?z_str ?z_gcd ?z_all ?z_sorted ?z_any ?z_range ?z_sum ?z_int ?z_abs ?z_repr ?z_ValueError ?g_MOST_SIGNS ?g_MOST_NAMES ?eT ?lT ?vT ?hT ?nT ?tT ?at_BadName ?xL_BadName ?rv_BadName ?sa_BadName ?eC_BadName ?tC_BadName ?kC_BadName ?ga_BadName ?gg_BadName ?hd_BadName ?cA_BadName ?cm_BadName ?no_BadName ?ai_BadName ?ti_BadName ?li_BadName ?ci_BadName ?ki_BadName ?at_Misfit ?xL_Misfit ?rv_Misfit ?sa_Misfit ?eC_Misfit ?tC_Misfit ?kC_Misfit ?ga_Misfit ?gg_Misfit ?hd_Misfit ?cA_Misfit ?cm_Misfit ?no_Misfit ?ai_Misfit ?ti_Misfit ?li_Misfit ?ci_Misfit ?ki_Misfit ?cg ?ct ?at_TickError ?kBB ?kBM ?kMB ?kMM ?eb ?ekB ?ekM
    (case a_is_row => k_is)
    (case l_is_row => k_is)
    (case c_is_row => k_is)
    (case k_is_row => k_is)
    (case a_is_signs => k_is)
    (case l_is_signs => k_is)
    (case c_is_signs => k_is)
    (case k_is_signs => k_is)
    (case a_is_name => k_is)
    (case l_is_name => k_is)
    (case c_is_name => k_is)
    (case k_is_name => k_is)
    (case a_reduced => k_is)
    (case l_reduced => k_is)
    (case c_reduced => k_is)
    (case k_reduced => k_is)
    (case a_need_names => k_is)
    (case l_need_names => k_is)
    (case c_need_names => k_is)
    (case k_need_names => k_is)
    (case a_need_apart => k_is)
    (case l_need_apart => k_is)
    (case c_need_apart => k_is)
    (case k_need_apart => k_is)
    (case a_are_apart => k_is)
    (case l_are_apart => k_is)
    (case c_are_apart => k_is)
    (case k_are_apart => k_is)
    (case a_sum_of_shares => k_is)
    (case l_sum_of_shares => k_is)
    (case c_sum_of_shares => k_is)
    (case k_sum_of_shares => k_is)
    (case a_share_of => k_is)
    (case l_share_of => k_is)
    (case c_share_of => k_is)
    (case k_share_of => k_is)
    (case a_free_names => k_is)
    (case l_free_names => k_is)
    (case c_free_names => k_is)
    (case k_free_names => k_is)
    (case a__law_grove => k_is)
    (case l__law_grove => k_is)
    (case c__law_grove => k_is)
    (case k__law_grove => k_is)
    (case a__law_fell => k_is)
    (case l__law_fell => k_is)
    (case c__law_fell => k_is)
    (case k__law_fell => k_is)
    (case a__law_stem => k_is)
    (case l__law_stem => k_is)
    (case c__law_stem => k_is)
    (case k__law_stem => k_is)
    (case a__law_ends => k_is)
    (case l__law_ends => k_is)
    (case c__law_ends => k_is)
    (case k__law_ends => k_is)
    (case a__law_names => k_is)
    (case l__law_names => k_is)
    (case c__law_names => k_is)
    (case k__law_names => k_is)
    (case a__law_free => k_is)
    (case l__law_free => k_is)
    (case c__law_free => k_is)
    (case k__law_free => k_is)
    (case a__law_heard => k_is)
    (case l__law_heard => k_is)
    (case c__law_heard => k_is)
    (case k__law_heard => k_is)
    (case a_law => k_is)
    (case l_law => k_is)
    (case c_law => k_is)
    (case k_law => k_is)
    (case z_isinstance => k_is)
    (case z_list => k_is)
    (case z_tuple => k_is)
    (case z_len => k_is)
    (case z_str => k_is)
    (case z_gcd => k_is)
    (case z_all => k_is)
    (case z_sorted => k_is)
    (case z_any => k_is)
    (case z_range => k_is)
    (case z_sum => k_is)
    (case z_int => k_is)
    (case z_abs => k_is)
    (case z_repr => k_is)
    (case z_ValueError => k_is)
    (case g_MOST_SIGNS => k_is)
    (case g_MOST_NAMES => k_is)
    (case eT => rfl)
    (case lT => k_is)
    (case vT => rfl)
    (case hT => kernel_rfl)
    (case nT => kernel_rfl)
    (case tT => exact PySem.W.km_tabs_of Y _ (by k_mem))
    (case at_BadName => k_is)
    (case xL_BadName => k_is)
    (case rv_BadName => first | decide +kernel | rfl)
    (case sa_BadName => k_is)
    (case eC_BadName => k_is)
    (case tC_BadName => k_is)
    (case kC_BadName => k_is)
    (case ga_BadName => k_is)
    (case gg_BadName => k_is)
    (case hd_BadName => k_is)
    (case cA_BadName => k_is)
    (case cm_BadName => k_is)
    (case no_BadName => k_is)
    (case ai_BadName => k_is)
    (case ti_BadName => k_is)
    (case li_BadName => k_is)
    (case ci_BadName => k_is)
    (case ki_BadName => k_is)
    (case at_Misfit => k_is)
    (case xL_Misfit => k_is)
    (case rv_Misfit => first | decide +kernel | rfl)
    (case sa_Misfit => k_is)
    (case eC_Misfit => k_is)
    (case tC_Misfit => k_is)
    (case kC_Misfit => k_is)
    (case ga_Misfit => k_is)
    (case gg_Misfit => k_is)
    (case hd_Misfit => k_is)
    (case cA_Misfit => k_is)
    (case cm_Misfit => k_is)
    (case no_Misfit => k_is)
    (case ai_Misfit => k_is)
    (case ti_Misfit => k_is)
    (case li_Misfit => k_is)
    (case ci_Misfit => k_is)
    (case ki_Misfit => k_is)
    (case cg => k_is)
    (case ct => k_is)
    (case at_TickError => k_is)
    (case kBB => kit_is)
    (case kBM => kit_is)
    (case kMB => kit_is)
    (case kMM => kit_is)
    (case eb => k_is)
    (case ekB => first | k_is | kernel_rfl)
    (case ekM => first | k_is | kernel_rfl)
