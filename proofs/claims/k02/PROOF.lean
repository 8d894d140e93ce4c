import PyProof.Rows.All
import Wide.All
import OpenK.AllK
import Wide.FinOn
import HandS.Base
import HandS.Call
import HandS.List
import HandS.Comp
import HandS.Ends
import HandS.Dict
import HandS.Iter
import HandS.Text
import HandS.Words
import HandS.WordsList
import HandS.IsInst
import HandS.StrMore
import HandS.Defaults
import HandS.Codes
import HandS.EndBits
import PySem.Challenge.RW_duetickers_k02_what_any_value_is
set_option Elab.async false
set_option linter.all false
set_option maxRecDepth 100000
set_option maxHeartbeats 4000000
/-! Rules of our own: repr of data, identity with a truth, a text times a number, calls where nothing guards. -/
namespace Own
open PySem PySem.Spec PyProof.Rows L2

/-! ### repr(x), x data of any depth -/
def rRepr (K : PySem.W.Frag) : List V → Hp → VK → Prop := fun xs H Q =>
  ∃ x d, xs = [x] ∧ Dp K H x d ∧ d.showable = true ∧ d.hasDict = false ∧ d.depth ≤ 60 ∧ d.shown.length ≤ sizeLine ∧ Q (.str d.shown) H
theorem call_repr {X : Cx} (hg : X.A.guards = some []) (hu : X.A.units + 64 < cLine) : CallR X (.builtin "repr") (rRepr X.K) := by
  intro pins s σ H xs us Q I r h
  obtain ⟨x, d, rfl, hd, hs, hn, hdep, hsz, q⟩ := h
  cases r with
  | cons rx rn =>
    rename_i v us'
    cases rn
    cases hd with
    | non =>
      cases (show v = Value.none from rx)
      exact P.repr_of_none ⟨.str _, H, I.tok _, ⟨_, rfl⟩, q⟩
    | bl b =>
      cases (show v = Value.bool b from rx)
      exact P.repr_of_bool ⟨.str _, H, I.tok _, ⟨_, by cases b <;> rfl⟩, q⟩
    | int i =>
      obtain ⟨t, rfl⟩ := (show ∃ t, v = Value.int i t from rx)
      exact P.repr_of_int (of_decide_eq_true (by simpa only [PyData.showable] using hs)) ⟨.str _, H, I.tok _, ⟨_, rfl⟩, q⟩
    | str z =>
      obtain ⟨t, rfl⟩ := (show ∃ t, v = Value.str z t from rx)
      exact P.repr_of_str ⟨.str _, H, I.tok _, ⟨_, rfl⟩, q⟩ hsz
    | @lst a ys ds hl ha =>
      cases (show v = Value.ref a from rx)
      obtain ⟨as, rd⟩ := Dp.reads I (.list ds) (.ref a) _ (.lst hl ha) rfl
      exact repr_of_reads' rd hs (fun z => by rw [hn] at z; cases z) hg (by omega) (fun _ _ e => e) (fun h' u tk k => ⟨.str _, H, I.kept k, ⟨_, rfl⟩, q⟩) hsz
    | @tup a ys ds hl ha =>
      cases (show v = Value.ref a from rx)
      obtain ⟨as, rd⟩ := Dp.reads I (.tuple ds) (.ref a) _ (.tup hl ha) rfl
      exact repr_of_reads' rd hs (fun z => by rw [hn] at z; cases z) hg (by omega) (fun _ _ e => e) (fun h' u tk k => ⟨.str _, H, I.kept k, ⟨_, rfl⟩, q⟩) hsz

/-! ### x is not True -/
theorem op_notTrue {X : Cx} : OpR X (compareOp .IsNot) (fun x y H Q => ∃ b : Bool, y = .bl b ∧ Q (.bl (!decide (x = .bl b))) H) := by
  intro pins s σ H x y v u Q I rx ry h
  obtain ⟨b, rfl, q⟩ := h
  cases (show u = Value.bool b from ry)
  by_cases e : x = V.bl b
  · subst e
    cases (show v = Value.bool b from rx)
    exact wpAny_isNot_self rfl ⟨.bl false, H, I, rfl, by simpa using q⟩
  · refine wpAny_isNot_other ?_ ?_ ⟨.bl true, H, I, rfl, by simpa [e] using q⟩
    · cases x <;> first
        | (cases rx; rfl)
        | (obtain ⟨t, rfl⟩ := rx; rfl)
    · rintro rfl
      cases x <;> first
        | (cases rx; done)
        | (obtain ⟨t, z⟩ := rx; cases z; done)
        | (cases rx; exact e rfl)

/-! ### a text times a number -/
theorem op_mulS {X : Cx} : OpR X (binaryOp .Mult) (fun x y H Q => ∃ z i, x = .str z ∧ y = .int i ∧ z.length ≤ 1 ∧ 0 ≤ i ∧ i ≤ 100000 ∧ Q (.str (Txt.mul z i)) H) := by
  intro pins s σ H x y v u Q I rx ry h
  obtain ⟨z, i, rfl, rfl, hz, h0, h1, q⟩ := h
  obtain ⟨t, rfl⟩ := rx
  obtain ⟨t2, rfl⟩ := ry
  refine SB.mul ⟨?_, ?_, ?_⟩ fun t' k => ⟨.str _, H, I.tok _, ⟨_, rfl⟩, q⟩
  · have a : ¬ i < -(2 ^ 63 : Int) := by omega
    have b : ¬ i ≥ 2 ^ 63 := by omega
    simp [a, b]
    omega
  · intro h2 _
    have : (2 : Int) ^ 63 - 1 = 9223372036854775807 := by decide
    rw [this]
    have c : (1 : Int) ≤ 9223372036854775807 / i := by
      apply Int.le_ediv_of_mul_le (by omega); omega
    omega
  · intro h2 _
    unfold Builtin.Str.tooLong
    have e := sizeLine_eq
    have : z.length * i.toNat ≤ 1 * i.toNat := Nat.mul_le_mul_right _ hz
    first
      | (simp only [decide_eq_false_iff_not]; omega)
      | (simp; omega)

/-! ### a def that is called where no walk over data is under way (no guard) -/
structure FnG (P : Program) (w : World) (K : PySem.W.Frag) (mg : Str → Option Value) (base : Heap) (CX : CXT) (k : Nat) (f : Addr) (fd : FuncData) (ps : List Str) (sp : Sp) : Prop where
  len : ∀ vs H Q E, sp vs H Q E → vs.length = ps.length
  run : ∀ (A : Around) (outer : List Env) (s : Shared) (H : Hp) (args : Args) (us : List Value) (vs : List V) (Q : VK) (E : XK),
    Room k A → A.guards = some [] → Env0 P w K mg base A outer s H → BindsTo s fd args (ps.zip us) → Vals vs us → sp vs H Q E →
    codeAny (model P w) A (.call (.ref f) args) (CR CX outer P w H s Q E) s

section
variable {P : Program} {w : World} {K : PySem.W.Frag} {mg : Str → Option Value} {base : Heap} {CX : CXT} {k : Nat} {f : Addr} {fd : FuncData} {ps : List Str} {sp : Sp}
theorem FnG.of (F : FnOk P w K mg base CX k f fd ps sp) : FnG P w K mg base CX k f fd ps sp :=
  ⟨F.len, fun A outer s H args us vs Q E hr _ => F.run A outer s H args us vs Q E hr⟩
/-- a def by its body, which knows that nothing guards -/
theorem Fun.okG {x qual : Str} {st : Stmt} {N : List Str} (F : Fun K x qual st f fd) (S : FnScope N ps (defScope st)) (len : ∀ vs H Q E, sp vs H Q E → vs.length = ps.length)
    (body : ∀ (cdv : Value) (A : Around) (outer : List Env) (s : Shared) (H : Hp) (vs : List V) (Q : VK) (E : XK), Room k (A.deeper (envOfC qual (defScope st) s.heap.objs.size f cdv)) →
      A.guards = some [] → sp vs H Q E → ∃ t, PSs (cxOf CX0 P w K mg base N qual (defScope st) f cdv A outer s H E).nox (defBody st) t ∧ t { nx := fun _ H' => Q .non H', rt := Q } (start N vs) H) :
    FnG P w K mg base CX0 (k + 1) f fd ps sp := by
  obtain ⟨oc, od, kV, doc, pm, an, cdv, ct, osl, rfl, lk, hcd⟩ := F.ex
  refine ⟨len, ?_⟩
  intro A outer s H args us vs Q E room gd e0 bnd rel want
  have size := len vs H Q E want
  have inK : K.In s.heap := e0.mod.kin.keeps fun b o z => And.left (e0.bs b o z)
  have room0 : s.heap.NoLimit := e0.mod.nolimit.keeps fun b o z => And.left (e0.bs b o z)
  have slots : ∀ y ∈ ps.zip us, (defScope st).names.lookup y.1 = some .local ∨ ((defScope st).names.lookup y.1 = some .cell ∧
      ((cellsFrom (s.heap.objs.size + 1) (defScope st).names []).lookup y.1).isSome = true) := by
    rintro ⟨n, v⟩ z
    refine (S.par n (List.of_mem_zip z).1).imp id fun c => ⟨c, ?_⟩
    exact PySem.W.cellsFrom_some _ _ _ (.inl c)
  refine codeAny_call_function room.depth (inK _ _ lk) rfl S.co S.gen rfl (PySem.W.codeRec_of inK hcd) (bnd _ _ _ _ ?_)
  refine wpAny_newFunctionEnv_cells S.kind slots ?_
  rintro env rfl s1 x
  refine ⟨room0.keeps x.toInCall.keep, codeAny_func ?_⟩
  obtain ⟨t, walk, say⟩ := body cdv A outer s H vs Q E (room.deeper _) gd want
  have I := inv_start (CX := CX0) (E := E) S room.hd e0 size rel x
  refine wpAny_mono (walk.nox.run [] s1 (start N vs) H _ I say) (fun r s' z => ?_) (fun _ _ z => z)
  have last : ∀ {τ : L2.St} {G : Hp} {v : V} {u : Value}, Inv (cxOf CX0 P w K mg base N qual (defScope st) f cdv A outer s H E) [] τ G s' →
      RelV v u → Q v G → CE outer P w H s Q u s' := fun J r q => ⟨_, _, J.os, J.bare, J.base, J.hok, r, q⟩
  match r, z with
  | .ret u, z =>
    obtain ⟨v, τ, G, J, r1, q⟩ := z
    exact last J r1 q
  | .next, z =>
    obtain ⟨τ, G, J, q⟩ := z
    exact last (v := .non) (u := .none) J rfl q
  | .brk, z =>
    obtain ⟨τ, G, J, q⟩ := z
    exact q.elim
  | .cont, z =>
    obtain ⟨τ, G, J, q⟩ := z
    exact q.elim
end
section
variable {X : Cx} {CX : CXT} {k : Nat} {f : Addr} {fd : FuncData} {ps : List Str} {sp : Sp} {dvs : List V} {ds : List Value} {E : XK} {x : Str} {p pos : Pos} {e : Expr} {es : List Expr} {t : TA}
theorem run_fnG {pins : List (Addr × Obj)} {σ : L2.St} {H : Hp} {s : Shared} {Q : VK} {us : List Value} {vs : List V} (F : FnG X.prog X.w X.K X.mg X.base CX k f fd ps sp) (room : Room k X.A) (gd : X.A.guards = some [])
    (hb : Binds X.K fd ps ds) (hd : Vals dvs ds) (hx : Passes CX X E) (I : Inv X pins σ H s) (r : Vals vs us) (h : sp (vs ++ dvs) H Q E) : wpAny (model X.prog X.w) X.A (call (.ref f) us) (EP X pins σ Q) X.xe s := by
  have rel := r.append hd
  have size : (us ++ ds).length = ps.length := rel.length.symm.trans (F.len _ _ _ _ h)
  refine wpAny_call (codeAny_mono (F.run X.A X.stack s H ⟨us, []⟩ _ _ Q E room gd I.env0 (hb s us I.kIn size) rel h) ?_)
  intro r s' z
  match r, z with
  | .error e, z => exact hx pins σ H s e s' I z
  | .ok (.ret u), z => exact I.after z
  | .ok .next, z => exact z.elim
  | .ok .brk, z => exact z.elim
  | .ok .cont, z => exact z.elim
theorem pe_callG (F : FnG X.prog X.w X.K X.mg X.base CX k f fd ps sp) (room : Room k X.A) (gd : X.A.guards = some []) (hg : Gl X x) (hm : X.mg x = some (.ref f)) (hk : PySem.W.keepIn X.K (.ref f) = true)
    (hb : Binds X.K fd ps ds) (hd : Vals dvs ds) (hx : Passes CX X E) (ha : PA X (e :: es) t) (hdb : (x == ("__debug__" : Str)) = false := by decide)
    (he : starEach (e :: es) X.env = (false, eval e X.env) :: starEach es X.env := by rfl) (hpl : (backTo pos (starEach es X.env)).any (·.1) = false := by rfl) :
    PE X (.Call (.Name x p) (e :: es) [] pos) (tCall sp dvs E t) := by
  constructor
  intro pins s σ H Q I h
  refine wpAny_Call_Name_kw (ld_glob I hg hm ?_ hdb)
  refine PySem.W.callWith_K (h₀ := X.base) I.ok.mod.kin hk (thn (ha.run pos pins s σ H _ I h) ?_) he hpl
  rintro us s1 ⟨vs, H1, I1, r, q⟩
  exact ⟨I1.kIn, run_fnG F room gd hb hd hx I1 r q⟩
end
end Own
namespace Own
open PySem PySem.Spec PyProof.Rows L2
/-! ### a def of the top, with all that its callers want -/
structure Cal (P : Program) (w : World) (K : PySem.W.Frag) (mg : Str → Option Value) (base : Heap) (k : Nat) (x : Str) (ps : List Str) (sp : Sp) : Prop where
  ex : ∃ f fd, FnOk P w K mg base CX0 k f fd ps sp ∧ mg x = some (.ref f) ∧ PySem.W.keepIn K (.ref f) = true ∧ Binds K fd ps []
structure CalG (P : Program) (w : World) (K : PySem.W.Frag) (mg : Str → Option Value) (base : Heap) (k : Nat) (x : Str) (ps : List Str) (sp : Sp) : Prop where
  ex : ∃ f fd, FnG P w K mg base CX0 k f fd ps sp ∧ mg x = some (.ref f) ∧ PySem.W.keepIn K (.ref f) = true ∧ Binds K fd ps []
/-- the same, called by keywords alone -/
structure CalK (P : Program) (w : World) (K : PySem.W.Frag) (mg : Str → Option Value) (base : Heap) (k : Nat) (x : Str) (ps ks : List Str) (gV : List V → List V) (sp : Sp) : Prop where
  ex : ∃ f fd g, FnOk P w K mg base CX0 k f fd ps sp ∧ mg x = some (.ref f) ∧ PySem.W.keepIn K (.ref f) = true ∧ KBn K fd ps 0 ks g (fun _ zs => gV zs)
section
variable {X : Cx} {k : Nat} {x : Str} {ps ks : List Str} {sp : Sp} {p pos : Pos} {e : Expr} {es : List Expr} {kws : List Keyword} {t tk : TA} {gV : List V → List V}
theorem pe_cal (C : Cal X.prog X.w X.K X.mg X.base k x ps sp) (room : Room k X.A) (ha : PA X (e :: es) t) (hg : Gl X x := by rfl) (hdb : (x == ("__debug__" : Str)) = false := by decide)
    (he : starEach (e :: es) X.env = (false, eval e X.env) :: starEach es X.env := by rfl) (hpl : (backTo pos (starEach es X.env)).any (·.1) = false := by rfl) :
    PE X (.Call (.Name x p) (e :: es) [] pos) (tCall sp [] E0 t) := by
  obtain ⟨f, fd, F, m, kp, b⟩ := C.ex
  exact pe_call F room hg m kp b .nil pass0 ha hdb he hpl
theorem pe_cal0 (C : Cal X.prog X.w X.K X.mg X.base k x ps sp) (room : Room k X.A) (hg : Gl X x := by rfl) (hdb : (x == ("__debug__" : Str)) = false := by decide) :
    PE X (.Call (.Name x p) [] [] pos) (tCall sp [] E0 tNil) := by
  obtain ⟨f, fd, F, m, kp, b⟩ := C.ex
  exact pe_call0 F room hg m kp b .nil pass0 hdb
theorem pe_calG (C : CalG X.prog X.w X.K X.mg X.base k x ps sp) (room : Room k X.A) (gd : X.A.guards = some []) (ha : PA X (e :: es) t) (hg : Gl X x := by rfl) (hdb : (x == ("__debug__" : Str)) = false := by decide)
    (he : starEach (e :: es) X.env = (false, eval e X.env) :: starEach es X.env := by rfl) (hpl : (backTo pos (starEach es X.env)).any (·.1) = false := by rfl) :
    PE X (.Call (.Name x p) (e :: es) [] pos) (tCall sp [] E0 t) := by
  obtain ⟨f, fd, F, m, kp, b⟩ := C.ex
  exact pe_callG F room gd hg m kp b .nil pass0 ha hdb he hpl
/-- f(k = v, ..) -/
def tKw (m : Nat) (sp : Sp) (gV : List V → List V) (tk : TA) : TE := fun σ H Q => tk σ H fun zs H2 => zs.length = m ∧ sp (gV zs) H2 Q E0
theorem pe_calK (C : CalK X.prog X.w X.K X.mg X.base k x ps ks gV sp) (room : Room k X.A) (hkw : PK X kws tk) (hg : Gl X x := by rfl) (hall : (backToKw pos (keywordEach kws X.env)).all (·.1.isSome) = true := by rfl)
    (hks : (backToKw pos (keywordEach kws X.env)).filterMap (·.1) = ks := by rfl) (hdb : (x == ("__debug__" : Str)) = false := by decide)
    (hpl : ((backTo pos (starEach [] X.env)).any (·.1) || (backToKw pos (keywordEach kws X.env)).any (·.1.isNone)) = false := by rfl) :
    PE X (.Call (.Name x p) [] kws pos) (tKw ks.length sp gV tk) := by
  obtain ⟨f, fd, g, F, m, kp, b⟩ := C.ex
  constructor
  intro pins s σ H Q I h
  refine wpAny_Call_Name_kw (ld_glob I hg m ?_ hdb)
  refine PySem.W.callWith_KW0 (h₀ := X.base) I.ok.mod.kin kp hall (thn (hkw.run pos pins s σ H _ I h) ?_) hpl
  rintro ws s2 ⟨zs, H2, I2, rz, l, q⟩
  refine ⟨I2.kIn, ?_⟩
  rw [hks]
  exact run_fnN (vs := []) (us := []) F room b pass0 I2 .nil rz rfl l q
end
theorem Fun.kb {K : PySem.W.Frag} {x qual : Str} {st : Stmt} {f : Addr} {fd : FuncData} {ps ks : List Str} (F : Fun K x qual st f fd) (g : {α : Type} → List α → List α)
    (rel : ∀ {zs : List V} {ws : List Value}, Vals zs ws → Vals (g zs) (g ws))
    (h : ∀ (kV doc pm : Value) (an : Option Addr) (cdv ct : Value) (ws : List Value), ws.length = ks.length → bindArgs (PySem.W.fnOf x qual (defArgs st) (defBody st) (defScope st) .none kV doc pm an cdv ct) ⟨[], ks.zip ws⟩ = pure (ps.zip (g ws))) :
    KBn K fd ps 0 ks (fun _ ws => g ws) (fun _ zs => g zs) := by
  obtain ⟨oc, od, kV, doc, pm, an, cdv, ct, osl, rfl, lk, hcd⟩ := F.ex
  refine ⟨fun s us ws _ l1 l2 => ?_, fun _ r => rel r⟩
  cases List.length_eq_zero_iff.mp l1
  exact .of_eq (h kV doc pm an cdv ct ws l2)
/-- a number that stands at the top -/
theorem pe_gi {X : Cx} {x : Str} {i : Int} {pos : Pos} (h : ∃ t, X.mg x = some (.int i t)) (hg : Gl X x := by rfl) (hd : (x == ("__debug__" : Str)) = false := by decide) : PE X (.Name x pos) (tC (.int i)) := by
  obtain ⟨t, e⟩ := h
  exact pe_glob hg e ⟨t, rfl⟩ hd
/-- a built-in class as a value -/
theorem pe_ty {X : Cx} {x : Str} {n : String} {pos : Pos} (hm : X.mg x = none) (hv : bootBuiltins x = some (.type n)) (hg : Gl X x := by rfl) (hn : x ≠ "__name__" := by decide) (hd : (x == ("__debug__" : Str)) = false := by decide) : PE X (.Name x pos) (tC (.ty n)) :=
  pe_bltn hg hm hv rfl hn hd
/-! ### heaps -/
theorem same_new {H : Hp} {p : Addr} {o : HO} (h : H p = none) : Same H (upd H p o) := fun b u e => by
  rw [upd_ne (ne_of_none e h)]
  exact e
theorem same_mut {H H' : Hp} {p : Addr} {o : HO} (s : Same H H') (h : H p = none) : Same H (upd H' p o) := fun b u e => by
  rw [upd_ne (ne_of_none e h)]
  exact s b u e
theorem take_map_succ {α β : Type} {xs : List α} {i : Nat} {x : α} (f : α → β) (h : xs[i]? = some x) : (xs.take (i + 1)).map f = (xs.take i).map f ++ [f x] := by
  rw [List.take_succ, h, List.map_append]
  rfl
/-! ### the drawing list [cells, turn, rest] -/
/-- all but p stays -/
def But (p : Addr) (H H' : Hp) : Prop := ∀ b o, b ≠ p → H b = some o → H' b = some o
theorem But.refl (p : Addr) (H : Hp) : But p H H := fun _ _ _ h => h
theorem But.trans {p : Addr} {H H1 H2 : Hp} (a : But p H H1) (b : But p H1 H2) : But p H H2 := fun c o n h => b c o n (a c o n h)
theorem Same.but {p : Addr} {H H' : Hp} (s : Same H H') : But p H H' := fun b o _ h => s b o h
theorem But.upd {p : Addr} {H H' : Hp} {o : HO} (b : But p H H') : But p H (upd H' p o) := fun c u n h => by
  rw [upd_ne n]
  exact b c u n h
theorem But.new {p q : Addr} {H H' : Hp} {o : HO} (b : But p H H') (h : H' q = none) : But p H (L2.upd H' q o) := fun c u n e => by
  have z := b c u n e
  rw [upd_ne (ne_of_none z h)]
  exact z
/-- the list at p: the cells at q, how often was drawn (n at most), what is left of a great cell -/
def Sv (p q : Addr) (cs : List Int) (n : Nat) (H : Hp) : Prop :=
  ∃ at_ rest : Int, H p = some (.lst [.ref q, .int at_, .int rest]) ∧ H q = some (.lst (cs.map V.int)) ∧ p ≠ q ∧ 0 ≤ at_ ∧ at_ ≤ n ∧ 0 ≤ rest
theorem Sv.mono {p q : Addr} {cs : List Int} {n m : Nat} {H : Hp} (h : Sv p q cs n H) (le : n ≤ m) : Sv p q cs m H := by
  obtain ⟨a, r, h1, h2, h3, h4, h5, h6⟩ := h
  exact ⟨a, r, h1, h2, h3, h4, by omega, h6⟩
theorem Sv.same {p q : Addr} {cs : List Int} {n : Nat} {H H' : Hp} (h : Sv p q cs n H) (s : Same H H') : Sv p q cs n H' := by
  obtain ⟨a, r, h1, h2, h3⟩ := h
  exact ⟨a, r, s _ _ h1, s _ _ h2, h3⟩
theorem dp_ints {K : PySem.W.Frag} {H : Hp} : ∀ cs : List Int, DpAll K H (cs.map V.int) (cs.map PyData.int)
  | [] => .nil
  | c :: cs => .cons (.int c) (dp_ints cs)
theorem lay_ints : ∀ cs : List Int, PyData.canLayAll0 (cs.map PyData.int) = true
  | [] => by simp [PyData.canLayAll0]
  | c :: cs => by simp [PyData.canLayAll0, PyData.canLay0, lay_ints cs]
theorem dep_ints : ∀ cs : List Int, PyData.depthAll (cs.map PyData.int) = 0
  | [] => by simp [PyData.depthAll]
  | c :: cs => by simp [PyData.depthAll, PyData.depth, dep_ints cs]
theorem shaped_ints (cs : List Int) : SeqAt.shaped (.list (cs.map PyData.int)) = true := by
  simp [SeqAt.shaped, PyData.canLay0, PyData.depth, lay_ints, dep_ints]
theorem shaped_nil : SeqAt.shaped (.list []) = true := by
  simp [SeqAt.shaped, PyData.canLay0, PyData.depth, PyData.canLayAll0, PyData.depthAll]
theorem eqv_nil (ds : List PyData) : PyData.eqv (.list ds) (.list []) = ds.isEmpty := by
  cases ds <;> simp [PyData.eqv, PyData.eqvAll]
theorem hu1 {k : Nat} {A : Around} (hr : Room k A) : A.units < cLine := by
  have := hr.un
  omega
theorem hu64 {k : Nat} {A : Around} (hr : Room k A) : A.units + 64 < cLine := by
  have := hr.un
  omega
def spSift : Sp := fun vs H Q _ => ∃ (p q : Addr) (cs : List Int) (n : Nat) (m : Int), vs = [.ref p, .int m] ∧ 0 < m ∧ m < 1073741824 ∧ n ≤ 100000 ∧ cs.length ≤ 1000 ∧ Sv p q cs n H ∧
  ∀ r H', 0 ≤ r → r < m → But p H H' → Sv p q cs (n + 1) H' → Q (.int r) H'
theorem mulb {x y a b : Int} (x0 : 0 ≤ x) (xa : x ≤ a) (y0 : 0 ≤ y) (yb : y ≤ b) : 0 ≤ x * y ∧ x * y ≤ a * b :=
  ⟨Int.mul_nonneg x0 y0, Int.mul_le_mul xa yb y0 (Int.le_trans x0 xa)⟩
theorem cpow_of {i j : Int} (h0 : 0 ≤ j) (h1 : j ≤ 1000000) (a : -(2 ^ 64) < i) (b : i < 2 ^ 64) : CPow i j := ⟨h0, h1, by omega⟩
/-- some[draw], some a list that stands apart -/
def spOne : Sp := fun vs H Q _ => ∃ (p q : Addr) (cs : List Int) (n : Nat) (s : Addr) (xs : List V), vs = [.ref p, .ref s] ∧ H s = some (.lst xs) ∧ s ≠ p ∧ 0 < xs.length ∧ xs.length ≤ 1000 ∧ n ≤ 100000 ∧ cs.length ≤ 1000 ∧ Sv p q cs n H ∧
  ∀ x H', x ∈ xs → But p H H' → Sv p q cs (n + 1) H' → Q x H'
def spSieve (K : PySem.W.Frag) : Sp := fun vs H Q _ => ∃ (a : Addr) (ns : List Int), vs = [.ref a] ∧ SqL K H a (ns.map V.int) ∧
  ∀ p q cs H', H p = none → Same H H' → cs.length ≤ 63 → Sv p q cs 0 H' → Q (.ref p) H'
theorem map_mem_cut {ns : List Int} {lo hi : Option Int} : ∃ cs : List Int, cutV (ns.map V.int) lo hi = cs.map V.int ∧ cs.length ≤ ns.length := by
  refine ⟨(ns.drop (HT.sIx (ns.map V.int).length 0 lo)).take (HT.sIx (ns.map V.int).length (ns.map V.int).length hi - HT.sIx (ns.map V.int).length 0 lo), ?_, ?_⟩
  · unfold cutV
    rw [← List.map_drop, ← List.map_take]
  · rw [List.length_take, List.length_drop]
    omega
theorem cut_len {ns : List Int} {k : Nat} : (cutV (ns.map V.int) none (some (k : Int))).length ≤ k := by
  unfold cutV
  rw [List.length_take]
  have : HT.sIx (ns.map V.int).length (ns.map V.int).length (some (k : Int)) ≤ k := by
    unfold HT.sIx
    simp only []
    split <;> omega
  omega
/-! ### what is drawn by an expression: from any heap in which n was drawn at most, a value of which R holds, m drawn at most -/
def Dr (p q : Addr) (cs : List Int) (te : TE) (σ : L2.St) (n m : Nat) (H : Hp) (R : Hp → V → Prop) : Prop :=
  ∀ H1, But p H H1 → Sv p q cs n H1 → ∀ Q : VK, (∀ v H2, But p H1 H2 → Sv p q cs m H2 → R H2 v → Q v H2) → te σ H1 Q
def DrA (p q : Addr) (cs : List Int) (ta : TA) (σ : L2.St) (n m : Nat) (H : Hp) (k : Nat) (R : Hp → V → Prop) : Prop :=
  ∀ H1, But p H H1 → Sv p q cs n H1 → ∀ Q : List V → Hp → Prop, (∀ vs H2, But p H1 H2 → Sv p q cs m H2 → vs.length = k → (∀ v ∈ vs, R H2 v) → Q vs H2) → ta σ H1 Q
def Stb (p : Addr) (R : Hp → V → Prop) : Prop := ∀ H H' v, But p H H' → R H v → R H' v
section
variable {p q : Addr} {cs : List Int} {te tr ta tb : TE} {ts : TA} {σ : L2.St} {n m l : Nat} {H : Hp} {k : Nat} {R Ra Rb : Hp → V → Prop}
theorem Dr.imp (h : Dr p q cs te σ n m H Ra) (f : ∀ H v, Ra H v → R H v) : Dr p q cs te σ n m H R := fun H1 b s Q q => h H1 b s Q fun v H2 b2 s2 r => q v H2 b2 s2 (f _ _ r)
theorem DrA.nil : DrA p q cs tNil σ n n H 0 R := fun H1 b s Q q => q [] H1 (But.refl _ _) s rfl (fun v hv => by cases hv)
theorem DrA.cons (st : Stb p R) (h : Dr p q cs te σ n m H R) (t : DrA p q cs ts σ m l H k R) : DrA p q cs (tCons te ts) σ n l H (k + 1) R := fun H1 b s Q q =>
  h H1 b s _ fun v H2 b2 s2 r => t H2 (b.trans b2) s2 _ fun vs H3 b3 s3 lv rs => q (v :: vs) H3 (b2.trans b3) s3 (by rw [List.length_cons, lv]) fun u hu => by
    rcases List.mem_cons.mp hu with e | e
    · subst e
      exact st _ _ _ b3 r
    · exact rs u e
theorem dr_c {v : V} (h : ∀ H1, But p H H1 → R H1 v) : Dr p q cs (tC v) σ n n H R := fun H1 b s Q q => q v H1 (But.refl _ _) s (h H1 b)
theorem dr_v {i : Nat} {v : V} (e : σ[i]? = some (some v)) (h : ∀ H1, But p H H1 → R H1 v) : Dr p q cs (tVar i) σ n n H R := fun H1 b s Q q => ⟨v, e, q v H1 (But.refl _ _) s (h H1 b)⟩
theorem sv_ne {H1 : Hp} {a : Addr} (s : Sv p q cs n H1) (h : H1 a = none) : a ≠ p := by
  obtain ⟨_, _, h1, _⟩ := s
  exact (ne_of_none h1 h).symm
theorem dr_lst (h : DrA p q cs ts σ n m H k Ra) (st : Stb p Ra) (hk : k ≤ 1000) (f : ∀ a xs H1, H1 a = some (.lst xs) → a ≠ p → xs.length = k → (∀ x ∈ xs, Ra H1 x) → R H1 (.ref a)) : Dr p q cs (tLst ts) σ n m H R := fun H1 b s Q q =>
  h H1 b s _ fun vs H2 b2 s2 lv rs => ⟨by rw [lv]; exact Nat.le_trans hk (by decide), fun a ha => q _ _ (b2.new ha) (s2.same (same_new ha)) (f a vs _ upd_same (sv_ne s2 ha) lv fun x hx => st _ _ _ (Same.but (same_new ha)) (rs x hx))⟩
theorem dr_tup (h : DrA p q cs ts σ n m H k Ra) (st : Stb p Ra) (hk : k ≤ 1000) (f : ∀ a xs H1, H1 a = some (.tup xs) → a ≠ p → xs.length = k → (∀ x ∈ xs, Ra H1 x) → R H1 (.ref a)) : Dr p q cs (tTup ts) σ n m H R := fun H1 b s Q q =>
  h H1 b s _ fun vs H2 b2 s2 lv rs => ⟨by rw [lv]; exact Nat.le_trans hk (by decide), fun a ha => q _ _ (b2.new ha) (s2.same (same_new ha)) (f a vs _ upd_same (sv_ne s2 ha) lv fun x hx => st _ _ _ (Same.but (same_new ha)) (rs x hx))⟩
theorem dr_op {r : R2} (st : Stb p Ra) (ha : Dr p q cs ta σ n m H Ra) (hb : Dr p q cs tb σ m l H Rb) (hr : ∀ x y H1, Ra H1 x → Rb H1 y → ∀ Q : VK, (∀ v, R H1 v → Q v H1) → r x y H1 Q) : Dr p q cs (tOp r ta tb) σ n l H R := fun H1 b s Q q =>
  ha H1 b s _ fun x H2 b2 s2 r1 => hb H2 (b.trans b2) s2 _ fun y H3 b3 s3 r2 => hr x y H3 (st _ _ _ b3 r1) r2 Q fun v rv => q v H3 (b2.trans b3) s3 rv
theorem dr_un {r : V → Hp → VK → Prop} (ha : Dr p q cs ta σ n m H Ra) (hr : ∀ x H1, Ra H1 x → ∀ Q : VK, (∀ v, R H1 v → Q v H1) → r x H1 Q) : Dr p q cs (tUn r ta) σ n m H R := fun H1 b s Q q =>
  ha H1 b s _ fun x H2 b2 s2 r1 => hr x H2 r1 Q fun v rv => q v H2 b2 s2 rv
theorem dr_cb {r : List V → Hp → VK → Prop} (ha : Dr p q cs ta σ n m H Ra) (hr : ∀ x H1, Ra H1 x → ∀ Q : VK, (∀ v, R H1 v → Q v H1) → r [x] H1 Q) : Dr p q cs (tCB r (tCons ta tNil)) σ n m H R := fun H1 b s Q q =>
  ha H1 b s _ fun x H2 b2 s2 r1 => hr x H2 r1 Q fun v rv => q v H2 b2 s2 rv
theorem dr_sift {tm : TE} {z : Int} {j : Nat} (e : σ[j]? = some (some (.ref p))) (hm : Dr p q cs tm σ n n H fun _ v => v = .int z) (h0 : 0 < z) (h1 : z < 1073741824) (hn : n ≤ 100000) (hc : cs.length ≤ 1000) :
    Dr p q cs (tCall spSift [] E0 (tCons (tVar j) (tCons tm tNil))) σ n (n + 1) H fun _ v => ∃ r, v = .int r ∧ 0 ≤ r ∧ r < z := fun H1 b s Q k =>
  ⟨_, e, hm H1 b s _ fun v H2 b2 s2 ev => by
    subst ev
    exact ⟨p, q, cs, n, z, rfl, h0, h1, hn, hc, s2, fun r H3 r0 r1 b3 s3 => k _ _ (b2.trans b3) s3 ⟨r, rfl, r0, r1⟩⟩⟩
theorem dr_one {tl : TE} {j : Nat} (e : σ[j]? = some (some (.ref p))) (hl : Dr p q cs tl σ n m H fun H1 v => ∃ a xs, v = .ref a ∧ H1 a = some (.lst xs) ∧ a ≠ p ∧ xs.length = k ∧ ∀ x ∈ xs, R H1 x) (st : Stb p R) (h0 : 0 < k) (h1 : k ≤ 1000) (hn : m ≤ 100000) (hc : cs.length ≤ 1000) :
    Dr p q cs (tCall spOne [] E0 (tCons (tVar j) (tCons tl tNil))) σ n (m + 1) H R := fun H1 b s Q f =>
  ⟨_, e, hl H1 b s _ fun v H2 b2 s2 ev => by
    obtain ⟨a, xs, rfl, ha, hap, hx, hr⟩ := ev
    exact ⟨p, q, cs, m, a, xs, rfl, ha, hap, by omega, by omega, hn, hc, s2, fun x H3 hx b3 s3 => f _ _ (b2.trans b3) s3 (st _ _ _ b3 (hr x hx))⟩⟩
/-- a list of such, as a value -/
theorem dr_lstR (h : DrA p q cs ts σ n m H k R) (st : Stb p R) (hk : k ≤ 1000) : Dr p q cs (tLst ts) σ n m H fun H1 v => ∃ a xs, v = .ref a ∧ H1 a = some (.lst xs) ∧ a ≠ p ∧ xs.length = k ∧ ∀ x ∈ xs, R H1 x :=
  dr_lst h st hk fun a xs H1 e n l r => ⟨a, xs, rfl, e, n, l, r⟩
theorem dr_set {u : TS} {D : Ends} {i : Nat} (h : Dr p q cs te σ n m H R) (s : Sv p q cs n H) (f : ∀ v H2, But p H H2 → Sv p q cs m H2 → R H2 v → u D (σ.set i (some v)) H2) : tSeq (tAsg te (gName i)) u D σ H :=
  h H (But.refl _ _) s _ f
theorem dr_ret {D : Ends} (h : Dr p q cs te σ n m H R) (s : Sv p q cs n H) (f : ∀ v H2, But p H H2 → Sv p q cs m H2 → R H2 v → D.rt v H2) : tRet te D σ H :=
  h H (But.refl _ _) s _ f
end
/-! ### a list against the empty one; what is walked, of one or another kind; the signs of a text -/
theorem op_eqNil {X : Cx} (hu : X.A.units < cLine) : OpR X (compareOp .Eq) (fun x y H Q => ∃ a b xs, x = .ref a ∧ y = .ref b ∧ H a = some (.lst xs) ∧ H b = some (.lst []) ∧ Q (.bl xs.isEmpty) H) := by
  intro pins s σ H x y v u Q I rx ry h
  obtain ⟨a, b, xs, rfl, rfl, ha, hb, q⟩ := h
  cases (show v = Value.ref a from rx)
  cases (show u = Value.ref b from ry)
  obtain ⟨its, rv, pa, _⟩ := I.list (SqL.of ha)
  obtain ⟨jts, rw_, pb, _⟩ := I.list (SqL.of hb)
  cases rw_
  have e := rv.length
  cases xs with
  | nil =>
    have e2 : its.toArray.size = ([] : List Value).toArray.size := by simpa using e.symm
    refine SeqAt.eq_listAt (e := fun _ => true) pa.isList pb.isList e2 hu (fun j h1 h2 => absurd h2 (by simp)) ?_
    refine ⟨.bl true, H, I, ?_, q⟩
    show Value.bool _ = Value.bool true
    congr 1
    simp
  | cons x xs =>
    refine SeqAt.eq_list_lengthsAt pa.isList pb.isList ?_ hu ⟨.bl false, H, I, rfl, q⟩
    have : its.length = xs.length + 1 := by rw [← e, List.length_cons]
    simp [this]
theorem pi_alt {X : Cx} {tg e : Expr} {w1 w2 : TI} (h1 : PI X tg e w1) (h2 : PI X tg e w2) : PI X tg e (fun σ H R => w1 σ H R ∨ w2 σ H R) :=
  ⟨fun pins s σ H R I h => h.elim (h1.run pins s σ H R I) (h2.run pins s σ H R I)⟩
theorem lc_str {z : Str} {g : TG} {tt : TT} {te : TE} {vs : List Nat} {σ : L2.St} {H1 : Hp} {D : Addr} {Qd : Hp → Prop} (Pv : Nat → Hp → Prop) (h0 : Pv 0 (upd H1 D (.lst [])))
    (hs : ∀ i c H, z.cps[i]? = some c → Pv i H → g (.str ⟨#[c]⟩) (wipe σ vs) H fun σ2 H2 => wipe σ2 vs = wipe σ vs ∧ tt σ2 H2 fun b H3 =>
      if b = true then te σ2 H3 fun y H4 => ∃ acc, H4 D = some (.lst acc) ∧ acc.length < sizeLine ∧ Pv (i + 1) (upd H4 D (.lst (acc ++ [y]))) else Pv (i + 1) H3) (hd : ∀ H, Pv z.cps.size H → Qd H) :
    ∃ W : Nat → Nat → Hp → Prop, (∃ m, W 0 m (upd H1 D (.lst []))) ∧ ∀ i m H, W i m H →
      ((Its z).stop i H ∧ Qd H) ∨ ((Its z).go i H ∧ ∃ Nx : Hp → Prop, (∀ H', Nx H' → ∃ m', m' < m ∧ W (i + 1) m' H') ∧ ∀ x H', (Its z).yld i H x H' → g x (wipe σ vs) H' fun σ2 H2 => wipe σ2 vs = wipe σ vs ∧ tt σ2 H2 fun b H3 =>
        if b = true then te σ2 H3 fun y H4 => ∃ acc, H4 D = some (.lst acc) ∧ acc.length < sizeLine ∧ Nx (upd H4 D (.lst (acc ++ [y]))) else Nx H3) := by
  refine ⟨fun i m H => m = z.cps.size - i ∧ i ≤ z.cps.size ∧ Pv i H, ⟨_, rfl, Nat.zero_le _, h0⟩, ?_⟩
  rintro i m H ⟨em, hi, pv_⟩
  subst em
  rcases Nat.lt_or_ge i z.cps.size with lt | ge
  · refine .inr ⟨lt, Pv (i + 1), fun H' pn => ⟨z.cps.size - (i + 1), by omega, rfl, lt, pn⟩, ?_⟩
    rintro x H' ⟨eH, c, hc, ex⟩
    subst eH
    subst ex
    exact hs i c _ hc pv_
  · have : i = z.cps.size := Nat.le_antisymm hi ge
    subst this
    exact .inl ⟨ge, hd _ pv_⟩
/-! ### a text of some signs alone -/
theorem str_empty {z : Str} : z = Str.ofString "" ↔ z.length = 0 := by
  constructor
  · intro h
    subst h
    decide
  · intro h
    obtain ⟨c⟩ := z
    have : c.size = 0 := h
    have e : c = #[] := Array.eq_empty_of_size_eq_zero this
    subst e
    rfl
theorem strip_none (goes : Nat → Bool) (z : Str) : decide (Txt.stripBy goes true true z = Str.ofString "") = z.cps.toList.all goes := by
  obtain ⟨l1, l2, l3⟩ := PyProof.Rows.lo_facts goes z
  obtain ⟨h1, h2, h3, h4⟩ := PyProof.Rows.hi_facts goes z _ l1
  rw [PyProof.Rows.stripBy_eq]
  generalize e1 : PySem.stripLo goes true z = lo at *
  generalize e2 : PySem.stripHi goes true z lo = hi at *
  have len : (Builtin.Str.strSub z lo hi).length = hi - lo := by
    simp only [Builtin.Str.strSub, Str.length, Array.size_extract]
    have : hi ≤ z.cps.size := h2
    omega
  have at_ : ∀ k, k < z.length → z.cps.getD k 0 ∈ z.cps.toList := fun k hk => by
    have hk' : k < z.cps.size := hk
    rw [Array.getD, dif_pos hk']
    exact Array.getElem_mem_toList hk'
  rw [Bool.eq_iff_iff, decide_eq_true_iff, str_empty, len, List.all_eq_true]
  constructor
  · intro e c hc
    obtain ⟨k, hk, rfl⟩ := List.getElem_of_mem hc
    have hk' : k < z.length := by simpa [Str.length] using hk
    have g : goes (z.cps.getD k 0) = true := by
      rcases Nat.lt_or_ge k lo with h | h
      · exact l2 k h
      · exact h3 k (by omega) hk'
    rw [← PyProof.Rows.getD_list] at g
    have e3 : z.cps.toList.getD k 0 = z.cps.toList[k] := by
      rw [List.getD, List.getElem?_eq_getElem hk]
      rfl
    rw [e3] at g
    exact g
  · intro all
    rcases l3 with e | e
    · omega
    · rcases Nat.lt_or_ge lo z.length with h | h
      · rw [all _ (at_ lo h)] at e
        cases e
      · omega
/-- an expression's reading, said in other words -/
theorem pe_imp {X : Cx} {e : Expr} {t t' : TE} (h : PE X e t) (i : ∀ σ H Q, t' σ H Q → t σ H Q) : PE X e t' := ⟨fun pins s σ H Q I q => h.run pins s σ H Q I (i _ _ _ q)⟩
theorem sign0 (c : Nat) : decide (V.str ⟨#[c]⟩ = V.str (Str.ofString "0")) = decide (c = 48) := by
  have : Str.ofString "0" = ⟨#[48]⟩ := by decide
  rw [this]
  simp
theorem sign1 (c : Nat) : decide (V.str ⟨#[c]⟩ = V.str (Str.ofString "1")) = decide (c = 49) := by
  have : Str.ofString "1" = ⟨#[49]⟩ := by decide
  rw [this]
  simp
def badC (c : Nat) : Bool := !decide (c = 48) && !decide (c = 49)
theorem all_signs (l : List Nat) : (l.filter badC).isEmpty = l.all (Str.ofString "01").cps.contains := by
  have e : (Str.ofString "01").cps = #[48, 49] := by decide
  rw [e]
  induction l with
  | nil => rfl
  | cons c l ih =>
    rw [List.all_cons, ← ih, List.filter_cons]
    by_cases h1 : c = 48
    · subst h1; simp [badC]
    · by_cases h2 : c = 49
      · subst h2; simp [badC]
      · simp [badC, h1, h2]
theorem signs_all (z : Str) : decide (Txt.stripChars z (Str.ofString "01") = Str.ofString "") = (z.cps.toList.filter badC).isEmpty := by
  unfold Txt.stripChars
  rw [strip_none, all_signs]
theorem take_filter_no {α β : Type} {xs : List α} {i : Nat} {x : α} {b : α → Bool} (f : α → β) (h : xs[i]? = some x) (hb : b x = false) : ((xs.take (i + 1)).filter b).map f = ((xs.take i).filter b).map f := by
  rw [List.take_succ, h, List.filter_append]
  simp [hb]
theorem take_filter_yes {α β : Type} {xs : List α} {i : Nat} {x : α} {b : α → Bool} (f : α → β) (h : xs[i]? = some x) (hb : b x = true) : ((xs.take (i + 1)).filter b).map f = ((xs.take i).filter b).map f ++ [f x] := by
  rw [List.take_succ, h, List.filter_append]
  simp [hb]
theorem filter_not_empty {α : Type} (xs : List α) (b : α → Bool) : (xs.filter fun x => !b x).isEmpty = xs.all b := by
  induction xs with
  | nil => rfl
  | cons x xs ih =>
    rw [List.all_cons, List.filter_cons, ← ih]
    cases b x <;> simp
theorem seq_set {te : TE} {u : TS} {D : Ends} {i : Nat} {σ : L2.St} {H : Hp} (h : te σ H fun v H1 => u D (σ.set i (some v)) H1) : tSeq (tAsg te (gName i)) u D σ H := h
theorem dr_par {p q : Addr} {cs : List Int} {ts : TA} {σ : L2.St} {n m : Nat} {H : Hp} {R : Hp → V → Prop} {u : TS} {D : Ends} {i j : Nat} (h : DrA p q cs ts σ n m H 2 R) (s : Sv p q cs n H)
    (f : ∀ v w H2, But p H H2 → Sv p q cs m H2 → R H2 v → R H2 w → u D ((σ.set i (some v)).set j (some w)) H2) : tSeq (tPar i j ts) u D σ H := by
  refine h H (But.refl _ _) s _ ?_
  intro vs H2 b sv len r
  match vs, len with
  | [v, w], _ => exact ⟨v, w, rfl, f v w H2 b sv (r v (by simp)) (r w (by simp))⟩
/-- four truths as data -/
def D4 (a b c d : Bool) : PyData := .list [.bool a, .bool b, .bool c, .bool d]
theorem d4_dp {K : PySem.W.Frag} {H : Hp} {p : Addr} {a b c d : Bool} (h : H p = some (.lst [.bl a, .bl b, .bl c, .bl d])) : Dp K H (.ref p) (D4 a b c d) :=
  .lst (SqL.of h) (.cons (.bl a) (.cons (.bl b) (.cons (.bl c) (.cons (.bl d) .nil))))
theorem d4_show : ∀ a b c d : Bool, (D4 a b c d).showable = true ∧ (D4 a b c d).hasDict = false ∧ (D4 a b c d).depth ≤ 60 ∧ (D4 a b c d).shown.length ≤ sizeLine ∧ SeqAt.shaped (D4 a b c d) = true ∧ PyData.eqv (D4 a b c d) (D4 a b c d) = true := by decide +kernel
theorem vals_rev : ∀ {zs : List V} {ws : List Value}, Vals zs ws → Vals zs.reverse ws.reverse
  | _, _, .nil => .nil
  | _, _, .cons r t => by
    rw [List.reverse_cons, List.reverse_cons]
    exact (vals_rev t).append (.cons r .nil)
end Own
set_option Elab.async false
set_option linter.all false
set_option maxRecDepth 100000
set_option maxHeartbeats 4000000
namespace Own
open PySem PySem.Spec PyProof.Rows L2
theorem law_callG {P : Program} {w : World} {K : PySem.W.Frag} {mg mb : Str → Option Value} {k : Nat} {fa a : Addr} {fd : FuncData} {x : Str} {sp : Sp} {s₁ : Shared} {vs : List Value} {ns : List Int}
    (inK : K.In s₁.heap) (top : s₁.heap.Ns mainGlobals mg) (bi : s₁.heap.Ns builtinsNs mb) (bt : ∀ x : Str, x ≠ "__name__" → mb x = bootBuiltins x) (lim : s₁.heap.NoLimit) (bare : s₁.gens = #[])
    (at_ : s₁.heap.get? a = some { cls := .type "list", data := .seq vs.toArray }) (iv : IntsAre vs ns) (small : ns.length ≤ sizeLine) (room : Room k callerA)
    (F : ∀ base : Heap, K.In base → base.Ns mainGlobals mg → FnG P w K mg base CX0 k fa fd [x] sp) (bnd : ∀ (s : Shared) (u : Value), BindsTo s fd ⟨[u], []⟩ [(x, u)])
    (say : ∀ H : Hp, Only H → SqL K H a (ns.map V.int) → sp [.ref a] H (fun v _ => v = .bl true) fun _ _ _ => False) :
    codeAny (model P w) callerA (.call (.ref fa) ⟨[.ref a], []⟩) (fun r s' => r = .ok (.ret (.bool true)) ∧ OldK s₁.heap s'.heap ∧ s'.os = s₁.os ∧ AllBare s'.gens) s₁ := by
  have rv := vals_ints iv
  have lenV := iv.length
  have main : ∀ H : Hp, Only H → SqL K H a (ns.map V.int) → HOk P w H s₁.heap → (∀ b, H b ≠ none → b = a) → (H a ≠ none → K.lookup a = none) →
      codeAny (model P w) callerA (.call (.ref fa) ⟨[.ref a], []⟩) (fun r s' => r = .ok (.ret (.bool true)) ∧ OldK s₁.heap s'.heap ∧ s'.os = s₁.os ∧ AllBare s'.gens) s₁ := by
    intro H only sq hok just free
    have notA : ∀ {b : Addr} {o : Obj} {es : Array DictEntry} {ep : Nat}, s₁.heap.get? b = some o → o.data = .dict es ep → H b = none := by
      intro b o es ep e d
      by_cases q : H b = none
      · exact q
      · cases just b q
        rw [at_] at e
        cases e
        cases (show Data.seq vs.toArray _ = Data.dict es ep from d)
    have ns_ : ∀ {b : Addr} {m : Str → Option Value}, s₁.heap.Ns b m → (hidT s₁.heap H).Ns b m := by
      rintro b m ⟨o, es, ep, e, d, r⟩
      exact ⟨o, es, ep, hidT_get e (notA e d), d, r⟩
    have k_ : K.In (hidT s₁.heap H) := by
      intro b o e
      refine hidT_get (inK b o e) ?_
      by_cases q : H b = none
      · exact q
      · cases just b q
        rw [free q] at e
        cases e
    obtain ⟨mc, l1, l2⟩ := lim
    have M : Mod K mg (hidT s₁.heap H) := ⟨k_, ns_ top, ⟨mb, ns_ bi, bt⟩, ⟨mc, ns_ l1, l2⟩⟩
    have E0 : Env0 P w K mg (hidT s₁.heap H) callerA [] s₁ H :=
      ⟨rfl, M, fun b o e => of_hidT e, Nat.le_of_eq (hidT_size _ _), trivial, fun b hb => (List.not_mem_nil (show b ∈ ([] : List Addr) from hb)).elim, hok, .of_eq bare⟩
    refine codeAny_mono ((F _ k_ (ns_ top)).run callerA [] s₁ H ⟨[.ref a], []⟩ [.ref a] [.ref a] _ _ room rfl E0 (bnd s₁ (.ref a)) (.cons rfl .nil) (say H only sq)) ?_
    intro r s' h
    match r, h with
    | .error e, h => exact h.elim
    | .ok .next, h => exact h.elim
    | .ok .brk, h => exact h.elim
    | .ok .cont, h => exact h.elim
    | .ok (.ret u), h =>
      obtain ⟨v, G, os, br, un, hk2, r1, q⟩ := h
      cases (show v = V.bl true from q)
      cases (show u = Value.bool true from r1)
      refine ⟨rfl, OldK.of_keep ?_, os, br⟩
      intro b o e
      by_cases q : H b = none
      · exact un.keep b o e q (fun z => (List.not_mem_nil (show b ∈ ([] : List Addr) from z)).elim) (by simp)
      · rcases only b with z | ⟨ob, xs, z⟩
        · exact (q z).elim
        · have y1 := (hok b _ z).1
          have y2 := (hk2 b _ (un.frzs b ob _ z)).1
          rw [e] at y1
          cases y1
          exact y2
  have sz : (ns.map V.int).length ≤ sizeLine := by rw [List.length_map]; exact small
  by_cases hk : K.lookup a = none
  · have T : ∀ b u, (fun b => if b = a then some (HO.frz { cls := .type "list", data := .seq vs.toArray } (.lst (ns.map V.int))) else none) b = some u →
        b = a ∧ u = .frz { cls := .type "list", data := .seq vs.toArray } (.lst (ns.map V.int)) := by
      intro b u z
      by_cases hb : b = a
      · exact ⟨hb, (Option.some.inj ((if_pos hb).symm.trans z)).symm⟩
      · cases (if_neg hb).symm.trans z
    refine main (fun b => if b = a then some (HO.frz { cls := .type "list", data := .seq vs.toArray } (.lst (ns.map V.int))) else none) (fun b => ?_) (.inl (.inr ⟨_, if_pos rfl⟩)) (fun b u z => ?_) (fun b z => ?_) fun _ => hk
    · by_cases hb : b = a
      · exact .inr ⟨_, _, if_pos hb⟩
      · exact .inl (if_neg hb)
    · obtain ⟨rfl, rfl⟩ := T b u z
      exact ⟨at_, sz, vs, _, rv, at_⟩
    · by_cases hb : b = a
      · exact hb
      · exact (z (if_neg hb)).elim
  · obtain ⟨o, ho⟩ := Option.ne_none_iff_exists'.mp hk
    have e := inK a o ho
    rw [at_] at e
    cases e
    exact main (fun _ => none) (fun _ => .inl rfl) (.inr ⟨_, vs.toArray, _, ho, rfl, rfl, rfl, by rw [List.size_toArray, lenV]; exact small, by simpa using rv⟩)
      (fun b u z => by cases (show (none : Option HO) = some u from z)) (fun b z => (z rfl).elim) (fun z => (z rfl).elim)
theorem walk_ofG {l : PySem.W.OpenLaw} {n k : Nat} {q : Program} {loose : List Str} {XP : (Str → Option Value) → Heap → Prop} {YP : World → Heap → Prop} {d : DefRec} {K : Params → PySem.W.Frag} {sp : PySem.W.Frag → Sp} {x : Str}
    (hn : l.most = some n) (hn2 : n ≤ sizeLine) (hdf : d.params.defaults = []) (room : Room k callerA) (hY : ∀ (w : World) (h : Heap), YP w h → (K w.params).In h)
    (F : ∀ (w : World) (mg : Str → Option Value) (fa : Addr) (h : Heap), (K w.params).In h → h.Ns mainGlobals mg → mg d.name = some (.ref fa) →
      ∃ fd : FuncData, (∀ (s : Shared) (u : Value), BindsTo s fd ⟨[u], []⟩ [(x, u)]) ∧
        ∀ base : Heap, (K w.params).In base → base.Ns mainGlobals mg → FnG l.prog w (K w.params) mg base CX0 k fa fd [x] (sp (K w.params)))
    (say : ∀ (K : PySem.W.Frag) (H : Hp) (a : Addr) (ns : List Int), ns.length ≤ n → (∀ z ∈ ns, Builtin.Int.intBits z ≤ 1048576) → Only H → SqL K H a (ns.map V.int) → sp K [.ref a] H (fun v _ => v = .bl true) fun _ _ _ => False) :
    PySem.W.WalkO q loose XP YP l.row.toRowW d [] (fun f vs => PySem.call f vs) := by
  refine Att.attach_callB hn hdf ?_
  intro w s₀ s₁ mg mb fa o pm cd doc a vs ns G Y ho hd hcd hmg hobj iv hlen hbits hg
  have inK := hY w _ Y
  obtain ⟨fd, hb, hF⟩ := F w mg fa _ inK G.T.g hmg
  exact law_callG inK G.T.g G.T.b G.T.builtins G.T.nolimit hg hobj iv (Nat.le_trans hlen hn2) room hF hb (fun H only sq => say _ H a ns hlen hbits only sq)
end Own
set_option Elab.async false
set_option linter.all false
set_option maxRecDepth 100000
set_option maxHeartbeats 4000000
namespace K02
open PySem PySem.Spec PyProof.Rows L2 Own
def top (i : Nat) : Stmt := PySem.Challenge.pw_duetickers_k02_what_any_value_is.main.body.getD i (.Pass ⟨0, 0, 0, 0⟩)
abbrev s_is_integer : Stmt := top 3
abbrev N_is_integer : List Str := ["value"]
theorem sc_is_integer : FnScope N_is_integer ["value"] (defScope s_is_integer) := ⟨rfl, rfl, rfl, by decide +kernel, rfl, by decide +kernel, by decide +kernel⟩
abbrev s_is_within : Stmt := top 4
abbrev N_is_within : List Str := ["value", "least", "most"]
theorem sc_is_within : FnScope N_is_within ["value", "least", "most"] (defScope s_is_within) := ⟨rfl, rfl, rfl, by decide +kernel, rfl, by decide +kernel, by decide +kernel⟩
abbrev s_is_row : Stmt := top 5
abbrev N_is_row : List Str := ["value", "least", "most"]
theorem sc_is_row : FnScope N_is_row ["value", "least", "most"] (defScope s_is_row) := ⟨rfl, rfl, rfl, by decide +kernel, rfl, by decide +kernel, by decide +kernel⟩
abbrev s_is_signs : Stmt := top 6
abbrev N_is_signs : List Str := ["value", "least", "most"]
theorem sc_is_signs : FnScope N_is_signs ["value", "least", "most"] (defScope s_is_signs) := ⟨rfl, rfl, rfl, by decide +kernel, rfl, by decide +kernel, by decide +kernel⟩
abbrev s_is_name : Stmt := top 7
abbrev N_is_name : List Str := ["value"]
theorem sc_is_name : FnScope N_is_name ["value"] (defScope s_is_name) := ⟨rfl, rfl, rfl, by decide +kernel, rfl, by decide +kernel, by decide +kernel⟩
abbrev s_is_pair : Stmt := top 8
abbrev N_is_pair : List Str := ["value", "part"]
theorem sc_is_pair : FnScope N_is_pair ["value"] (defScope s_is_pair) := ⟨rfl, rfl, rfl, by decide +kernel, rfl, by decide +kernel, by decide +kernel⟩
abbrev s__law_sieve : Stmt := top 10
abbrev N__law_sieve : List Str := ["script", "cell"]
theorem sc__law_sieve : FnScope N__law_sieve ["script"] (defScope s__law_sieve) := ⟨rfl, rfl, rfl, by decide +kernel, rfl, by decide +kernel, by decide +kernel⟩
abbrev s__law_sift : Stmt := top 11
abbrev N__law_sift : List Str := ["sieve", "many", "rest", "at", "cell", "mixed"]
theorem sc__law_sift : FnScope N__law_sift ["sieve", "many"] (defScope s__law_sift) := ⟨rfl, rfl, rfl, by decide +kernel, rfl, by decide +kernel, by decide +kernel⟩
abbrev s__law_one : Stmt := top 12
abbrev N__law_one : List Str := ["sieve", "some"]
theorem sc__law_one : FnScope N__law_one ["sieve", "some"] (defScope s__law_one) := ⟨rfl, rfl, rfl, by decide +kernel, rfl, by decide +kernel, by decide +kernel⟩
abbrev s__law_any : Stmt := top 13
abbrev N__law_any : List Str := ["sieve", "near", "some"]
theorem sc__law_any : FnScope N__law_any ["sieve"] (defScope s__law_any) := ⟨rfl, rfl, rfl, by decide +kernel, rfl, by decide +kernel, by decide +kernel⟩
abbrev s__law_is_integer : Stmt := top 14
abbrev N__law_is_integer : List Str := ["value"]
theorem sc__law_is_integer : FnScope N__law_is_integer ["value"] (defScope s__law_is_integer) := ⟨rfl, rfl, rfl, by decide +kernel, rfl, by decide +kernel, by decide +kernel⟩
abbrev s_law : Stmt := top 15
abbrev N_law : List Str := ["script", "sieve", "turn", "value", "least", "most", "whole", "within", "name", "pair", "told", "sign", "each"]
theorem sc_law : FnScope N_law ["script"] (defScope s_law) := ⟨rfl, rfl, rfl, by decide +kernel, rfl, by decide +kernel, by decide +kernel⟩
structure Txt (mg : Str → Option Value) : Prop where
  b_isinstance : mg "isinstance" = none
  b_int : mg "int" = none
  b_bool : mg "bool" = none
  b_list : mg "list" = none
  b_tuple : mg "tuple" = none
  b_len : mg "len" = none
  b_str : mg "str" = none
  b_all : mg "all" = none
  b_abs : mg "abs" = none
  b_range : mg "range" = none
  b_repr : mg "repr" = none
  g_MOST_SIGNS : ∃ t, mg "MOST_SIGNS" = some (.int 60 t)
  g_MOST_PART : ∃ t, mg "MOST_PART" = some (.int 1000000 t)
/-! ### values of any kind that the law draws -/
inductive An (H : Hp) : V → Prop
  | non : An H .non
  | bl (b : Bool) : An H (.bl b)
  | int (i : Int) : An H (.int i)
  | str {s : Str} (h : s.length ≤ 100000) : An H (.str s)
  | lst {a : Addr} {xs : List V} (h : H a = some (.lst xs)) : An H (.ref a)
  | tup {a : Addr} {xs : List V} (h : H a = some (.tup xs)) : An H (.ref a)
  | dK {a : Addr} {kvs : List (Key × V)} (h : H a = some (.dK kvs)) : An H (.ref a)
def tn (H : Hp) : V → String
  | .non => "NoneType"
  | .bl _ => "bool"
  | .int _ => "int"
  | .str _ => "str"
  | .ref a => match H a with
    | some (.lst _) => "list"
    | some (.tup _) => "tuple"
    | some (.dK _) => "dict"
    | _ => "?"
  | _ => "?"
def isT (n : String) (H : Hp) (v : V) : Bool := (tn H v == n) || ((n == "int") && (tn H v == "bool"))
theorem An.tyx {K : PySem.W.Frag} {H : Hp} {v : V} (h : An H v) : TyX K H v (.type (tn H v)) := by
  cases h with
  | non => exact .base .non
  | bl b => exact .base (.bl b)
  | int i => exact .base (.int i)
  | str h => exact .base (.str _)
  | @lst a xs h =>
    have e : tn H (.ref a) = "list" := by simp only [tn, h]
    rw [e]; exact .base (.lst h)
  | @tup a xs h =>
    have e : tn H (.ref a) = "tuple" := by simp only [tn, h]
    rw [e]; exact .base (.tup h)
  | @dK a kvs h =>
    have e : tn H (.ref a) = "dict" := by simp only [tn, h]
    rw [e]; exact .base (.dK h)
theorem tn_in {H : Hp} {v : V} (h : An H v) : tn H v ∈ ["NoneType", "bool", "int", "str", "list", "tuple", "dict"] := by
  cases h with
  | non => simp [tn]
  | bl b => simp [tn]
  | int i => simp [tn]
  | str h => simp [tn]
  | lst h => simp [tn, h]
  | tup h => simp [tn, h]
  | dK h => simp [tn, h]
theorem kits : ∀ a ∈ ["NoneType", "bool", "int", "str", "list", "tuple", "dict"], ∀ n ∈ ["int", "bool", "str", "list", "tuple"], kitB a n = some ((a == n) || ((n == "int") && (a == "bool"))) := by decide +kernel
theorem An.kit {K : PySem.W.Frag} {H : Hp} {v : V} {n : String} (h : An H v) (hn : n ∈ ["int", "bool", "str", "list", "tuple"]) : PySem.W.kitOne K (.type (tn H v)) (.type n) = some (isT n H v) := kit_ty (kits _ (tn_in h) _ hn)
def isI : V → Bool
  | .int _ => true
  | _ => false
theorem isI_an {H : Hp} {v : V} (h : An H v) : isI v = (isT "int" H v && !isT "bool" H v) := by
  cases h with
  | non => simp [isI, isT, tn]
  | bl b => simp [isI, isT, tn]
  | int i => simp [isI, isT, tn]
  | str h => simp [isI, isT, tn]
  | lst h => simp [isI, isT, tn, h]
  | tup h => simp [isI, isT, tn, h]
  | dK h => simp [isI, isT, tn, h]
def spIsInt : Sp := fun vs H Q _ => ∃ v, vs = [v] ∧ An H v ∧ Q (.bl (isI v)) H
section
variable {P : Program} {w : World} {K : PySem.W.Frag} {mg : Str → Option Value} {base : Heap}
theorem ok_is_integer {f : Addr} {fd : FuncData} (F : Fun K "is_integer" "is_integer" s_is_integer f fd) (T : Txt mg) : FnOk P w K mg base CX0 1 f fd ["value"] spIsInt := by
  refine F.ok sc_is_integer (fun vs H Q E h => ?_) (fun cdv A outer s H vs Q E hr h => ?_)
  · obtain ⟨v, rfl, _⟩ := h
    rfl
  · obtain ⟨v, rfl, ha, q⟩ := h
    refine ⟨_, (pss_one (ps_ret (pe_and (pe_callB call_isi (by rfl) T.b_isinstance boot_isinstance (pa_cons (pv 0) (pa_cons (pe_ty T.b_int boot_int) pa_nil))) (pe_one (pe_not (pe_callB call_isi (by rfl) T.b_isinstance boot_isinstance (pa_cons (pv 0) (pa_cons (pe_ty T.b_bool boot_bool) pa_nil)))))))), ?_⟩
    rw [isI_an ha] at q
    refine ⟨v, rfl, ?_⟩
    refine ⟨v, .ty "int", _, _, _, rfl, .ty _, ha.tyx, ha.kit (by decide), ?_⟩
    refine ⟨_, rfl, ?_⟩
    cases hb : isT "int" H v with
    | false =>
      rw [hb] at q
      exact q
    | true =>
      rw [hb] at q
      refine ⟨v, rfl, ?_⟩
      refine ⟨v, .ty "bool", _, _, _, rfl, .ty _, ha.tyx, ha.kit (by decide), ?_⟩
      exact ⟨_, rfl, q⟩

theorem An.mono {H H' : Hp} {v : V} (s : Same H H') (h : An H v) : An H' v := by
  cases h with
  | non => exact .non
  | bl b => exact .bl b
  | int i => exact .int i
  | str h => exact .str h
  | lst h => exact .lst (s _ _ h)
  | tup h => exact .tup (s _ _ h)
  | dK h => exact .dK (s _ _ h)
theorem tn_mono {H H' : Hp} {v : V} (s : Same H H') (h : An H v) : tn H' v = tn H v := by
  cases h with
  | non => rfl
  | bl b => rfl
  | int i => rfl
  | str h => rfl
  | lst h => simp only [tn, h, s _ _ h]
  | tup h => simp only [tn, h, s _ _ h]
  | dK h => simp only [tn, h, s _ _ h]
def leB : V → V → Bool
  | .int i, .int j => decide (i ≤ j)
  | _, _ => true
def inB (v lo hi : V) : Bool := isI v && (leB lo v && leB v hi)
def Bd (v : V) : Prop := v = .non ∨ ∃ i, v = .int i
theorem ite_and {c : Bool} {A : Prop} {Q : VK} {b : Bool} {H : Hp} (q : Q (.bl (c && b)) H) (h : c = true → Q (.bl b) H → A) : if c = true then A else Q (.bl false) H := by
  cases c with
  | false => exact q
  | true => exact h rfl q
def spWithin : Sp := fun vs H Q _ => ∃ v lo hi, vs = [v, lo, hi] ∧ An H v ∧ Bd lo ∧ Bd hi ∧ Q (.bl (inB v lo hi)) H
theorem isI_or {v : V} : (∃ i, v = .int i) ∨ isI v = false := by
  cases v <;> first | exact .inl ⟨_, rfl⟩ | exact .inr rfl
theorem ok_is_within {f : Addr} {fd : FuncData} (F : Fun K "is_within" "is_within" s_is_within f fd) (T : Txt mg) (C_is_integer : Cal P w K mg base 1 "is_integer" ["value"] spIsInt) : FnOk P w K mg base CX0 2 f fd ["value", "least", "most"] spWithin := by
  refine F.ok sc_is_within (fun vs H Q E h => ?_) (fun cdv A outer s H vs Q E hr h => ?_)
  · obtain ⟨v, lo, hi, rfl, _⟩ := h
    rfl
  · obtain ⟨v, lo, hi, rfl, ha, hl, hh, q⟩ := h
    refine ⟨_, (pss_cons (ps_if (pt_not (pt_val (pe_cal C_is_integer (hr.mono (by decide)) (pa_cons (pv 0) pa_nil))))
  (pss_one (ps_ret pe_bl))
  pss_nil)
  (pss_one (ps_ret (pe_and (pe_or (pe_cmpR op_isN (pv 1) pe_non (nomark _)) (pe_one (pe_cmpR op_le (pv 1) (pv 0) (nomark _)))) (pe_one (pe_or (pe_cmpR op_isN (pv 2) pe_non (nomark _)) (pe_one (pe_cmpR op_le (pv 0) (pv 2) (nomark _))))))))), ?_⟩
    refine ⟨v, rfl, v, rfl, ha, _, rfl, ?_⟩
    rcases isI_or (v := v) with ⟨i, rfl⟩ | e
    · refine iteF ?_
      have q' : Q (.bl (leB lo (.int i) && leB (.int i) hi)) H := q
      have low : ∀ R : VK, R (.bl (leB lo (.int i))) H → (tOrV (tOp (fun x y H Q => y = .non ∧ Q (.bl (decide (x = .non))) H) (tVar 1) (tC .non)) (tOp (rI0 fun i j => .bl (decide (i ≤ j))) (tVar 1) (tVar 0))) (start N_is_within [.int i, lo, hi]) H R := by
        intro R r
        rcases hl with rfl | ⟨l, rfl⟩
        · exact ⟨_, rfl, rfl, _, rfl, iteT r⟩
        · exact ⟨_, rfl, rfl, _, rfl, iteF ⟨_, rfl, _, rfl, _, _, rfl, rfl, r⟩⟩
      have hig : ∀ R : VK, R (.bl (leB (.int i) hi)) H → (tOrV (tOp (fun x y H Q => y = .non ∧ Q (.bl (decide (x = .non))) H) (tVar 2) (tC .non)) (tOp (rI0 fun i j => .bl (decide (i ≤ j))) (tVar 0) (tVar 2))) (start N_is_within [.int i, lo, hi]) H R := by
        intro R r
        rcases hh with rfl | ⟨l, rfl⟩
        · exact ⟨_, rfl, rfl, _, rfl, iteT r⟩
        · exact ⟨_, rfl, rfl, _, rfl, iteF ⟨_, rfl, _, rfl, _, _, rfl, rfl, r⟩⟩
      refine low _ ⟨_, rfl, ite_and q' fun _ q => hig _ q⟩
    · have q' : Q (.bl false) H := by
        have : inB v lo hi = false := by simp [inB, e]
        rw [this] at q
        exact q
      have e2 : (!isI v) = true := by rw [e]; rfl
      show if (!isI v) = true then _ else _
      rw [if_pos e2]
      exact q'
def rowB (H : Hp) (v : V) (a b : Int) : Bool := match v with
  | .ref p => match H p with
    | some (.lst xs) => decide (a ≤ xs.length) && decide ((xs.length : Int) ≤ b)
    | some (.tup xs) => decide (a ≤ xs.length) && decide ((xs.length : Int) ≤ b)
    | _ => false
  | _ => false
def spRow : Sp := fun vs H Q _ => ∃ v a b, vs = [v, .int a, .int b] ∧ An H v ∧ ∀ H', Same H H' → Q (.bl (rowB H v a b)) H'

theorem kit2 {H : Hp} {v : V} (ha : An H v) : PySem.W.kitAny K (.type (tn H v)) [.type "list", .type "tuple"] = some (isT "list" H v || isT "tuple" H v) := by
  refine kitAny_cons (b := isT "list" H v) (ha.kit (by decide)) (fun h => ?_) (fun h => by rw [h]; rfl)
  rw [h]
  exact kitAny_cons (b := isT "tuple" H v) (ha.kit (by decide)) (fun h => by rw [h]; rfl) (fun h => by rw [h]; rfl)
theorem ok_is_row {f : Addr} {fd : FuncData} (F : Fun K "is_row" "is_row" s_is_row f fd) (T : Txt mg) : FnOk P w K mg base CX0 1 f fd ["value", "least", "most"] spRow := by
  refine F.ok sc_is_row (fun vs H Q E h => ?_) (fun cdv A outer s H vs Q E hr h => ?_)
  · obtain ⟨v, lo, hi, rfl, _⟩ := h
    rfl
  · obtain ⟨v, lo, hi, rfl, ha, q⟩ := h
    refine ⟨_, (pss_one (ps_ret (pe_and (pe_callB call_isiT (by rfl) T.b_isinstance boot_isinstance (pa_cons (pv 0) (pa_cons (pe_tup (pa_cons (pe_ty T.b_list boot_list) (pa_cons (pe_ty T.b_tuple boot_tuple) pa_nil))) pa_nil))) (pe_one (pe_chain op_le op_le (pv 1) (pe_callB call_len_seq (by rfl) T.b_len boot_len (pa_cons (pv 0) pa_nil)) (pv 2)))))), ?_⟩
    refine ⟨v, rfl, by show 2 ≤ sizeLine; decide, fun tp htp => ?_⟩
    have sm : Same H (upd H tp (.tup [.ty "list", .ty "tuple"])) := fun b o e => by
      rw [upd_ne (ne_of_none e htp)]
      exact e
    refine ⟨v, tp, _, _, [.type "list", .type "tuple"], isT "list" H v || isT "tuple" H v, rfl, upd_same, .cons (.ty _) (.cons (.ty _) .nil), (ha.mono sm).tyx, ?_, _, rfl, ?_⟩
    · have e : tn (upd H tp (.tup [.ty "list", .ty "tuple"])) v = tn H v := tn_mono sm ha
      rw [e]
      refine kitAny_cons (b := isT "list" H v) (ha.kit (by decide)) (fun h => ?_) (fun h => by rw [h]; rfl)
      rw [h]
      exact kitAny_cons (b := isT "tuple" H v) (ha.kit (by decide)) (fun h => by rw [h]; rfl) (fun h => by rw [h]; rfl)
    · have q1 := q _ sm
      cases ha with
      | @lst a xs h =>
        have e : (isT "list" H (.ref a) || isT "tuple" H (.ref a)) = true := by simp [isT, tn, h]
        rw [e]
        have e2 : rowB H (.ref a) lo hi = (decide (lo ≤ xs.length) && decide ((xs.length : Int) ≤ hi)) := by simp [rowB, h]
        rw [e2] at q1
        refine iteT ⟨_, rfl, _, rfl, a, xs, rfl, .inl (SqL.of (sm _ _ h)), _, _, rfl, rfl, _, rfl, ?_⟩
        exact ite_and q1 fun _ q => ⟨_, rfl, _, _, rfl, rfl, q⟩
      | @tup a xs h =>
        have e : (isT "list" H (.ref a) || isT "tuple" H (.ref a)) = true := by simp [isT, tn, h]
        rw [e]
        have e2 : rowB H (.ref a) lo hi = (decide (lo ≤ xs.length) && decide ((xs.length : Int) ≤ hi)) := by simp [rowB, h]
        rw [e2] at q1
        refine iteT ⟨_, rfl, _, rfl, a, xs, rfl, .inr (SqT.of (sm _ _ h)), _, _, rfl, rfl, _, rfl, ?_⟩
        exact ite_and q1 fun _ q => ⟨_, rfl, _, _, rfl, rfl, q⟩
      | @dK a kvs h =>
        have e : (isT "list" H (.ref a) || isT "tuple" H (.ref a)) = false := by simp [isT, tn, h]
        rw [e]
        have e2 : rowB H (.ref a) lo hi = false := by simp [rowB, h]
        rw [e2] at q1
        exact iteF q1
      | non => exact q1
      | bl b => exact q1
      | int i => exact q1
      | str h => exact q1
def sigB : V → Int → Int → Bool
  | .str s, a, b => decide (a ≤ s.length) && (decide ((s.length : Int) ≤ b) && decide (Txt.stripChars s "01" = ""))
  | _, _, _ => false
def spSig : Sp := fun vs H Q _ => ∃ v a b, vs = [v, .int a, .int b] ∧ An H v ∧ Q (.bl (sigB v a b)) H
theorem isT_str {H : Hp} {v : V} (ha : An H v) : (∃ s : Str, v = .str s ∧ s.length ≤ 100000 ∧ isT "str" H v = true) ∨ (isT "str" H v = false ∧ ∀ a b, sigB v a b = false) := by
  cases ha with
  | str h => exact .inl ⟨_, rfl, h, rfl⟩
  | non => exact .inr ⟨rfl, fun _ _ => rfl⟩
  | bl b => exact .inr ⟨rfl, fun _ _ => rfl⟩
  | int i => exact .inr ⟨rfl, fun _ _ => rfl⟩
  | lst h => exact .inr ⟨by simp [isT, tn, h], fun _ _ => rfl⟩
  | tup h => exact .inr ⟨by simp [isT, tn, h], fun _ _ => rfl⟩
  | dK h => exact .inr ⟨by simp [isT, tn, h], fun _ _ => rfl⟩
theorem ok_is_signs {f : Addr} {fd : FuncData} (F : Fun K "is_signs" "is_signs" s_is_signs f fd) (T : Txt mg) : FnOk P w K mg base CX0 1 f fd ["value", "least", "most"] spSig := by
  refine F.ok sc_is_signs (fun vs H Q E h => ?_) (fun cdv A outer s H vs Q E hr h => ?_)
  · obtain ⟨v, lo, hi, rfl, _⟩ := h
    rfl
  · obtain ⟨v, lo, hi, rfl, ha, q⟩ := h
    refine ⟨_, (pss_one (ps_ret (pe_and (pe_callB call_isi (by rfl) T.b_isinstance boot_isinstance (pa_cons (pv 0) (pa_cons (pe_ty T.b_str boot_str) pa_nil))) (pe_and (pe_chain op_le op_le (pv 1) (pe_callB call_len_str (by rfl) T.b_len boot_len (pa_cons (pv 0) pa_nil)) (pv 2)) (pe_one (pe_cmpR op_eq (pe_bm PySem.F.plainAttrs_str PySem.F.slot_str_strip PySem.F.type_str_strip mt_stripChars (pv 0) (pa_cons pe_str pa_nil)) pe_str (nomark _))))))), ?_⟩
    refine ⟨v, rfl, v, .ty "str", _, _, _, rfl, .ty _, ha.tyx, ha.kit (by decide), _, rfl, ?_⟩
    rcases isT_str ha with ⟨z, rfl, hz, e⟩ | ⟨e, e2⟩
    · rw [e]
      have zl : z.length ≤ sizeLine := Nat.le_trans hz (by decide)
      refine iteT ⟨_, rfl, _, rfl, z, rfl, zl, _, _, rfl, rfl, _, rfl, ?_⟩
      have q' : Q (.bl (decide (lo ≤ (z.length : Int)) && (decide ((z.length : Int) ≤ hi) && decide (Txt.stripChars z "01" = "")))) H := q
      cases e1 : decide (lo ≤ (z.length : Int)) with
      | false =>
        rw [e1] at q'
        exact ⟨_, rfl, q'⟩
      | true =>
        rw [e1] at q'
        refine iteT ⟨_, rfl, _, _, rfl, rfl, _, rfl, ?_⟩
        refine ite_and q' fun _ q => ?_
        refine ⟨_, rfl, rfl, _, _, rfl, rfl, zl, rfl, ?_⟩
        have e3 : decide (V.str (Txt.stripChars z "01") = V.str "") = decide (Txt.stripChars z "01" = "") := by simp
        show Q (.bl (decide (V.str (Txt.stripChars z "01") = V.str ""))) H
        rw [e3]
        exact q
    · rw [e]
      rw [e2] at q
      exact iteF q
def spAny1 (r : Hp → V → Bool) : Sp := fun vs H Q _ => ∃ v, vs = [v] ∧ An H v ∧ Q (.bl (r H v)) H
def nameB (v : V) : Bool := sigB v 1 60
theorem ok_is_name {f : Addr} {fd : FuncData} (F : Fun K "is_name" "is_name" s_is_name f fd) (T : Txt mg) (C_is_signs : Cal P w K mg base 1 "is_signs" ["value", "least", "most"] spSig) : FnOk P w K mg base CX0 2 f fd ["value"] (spAny1 fun _ v => nameB v) := by
  refine F.ok sc_is_name (fun vs H Q E h => ?_) (fun cdv A outer s H vs Q E hr h => ?_)
  · obtain ⟨v, rfl, _⟩ := h
    rfl
  · obtain ⟨v, rfl, ha, q⟩ := h
    refine ⟨_, (pss_one (ps_ret (pe_cal C_is_signs (hr.mono (by decide)) (pa_cons (pv 0) (pa_cons pe_int (pa_cons (pe_gi T.g_MOST_SIGNS) pa_nil)))))), ?_⟩
    exact ⟨v, rfl, v, _, _, rfl, ha, q⟩

theorem yes_if {σ : L2.St} {H : Hp} {A B : Hp → Prop} (h : A H) : tYes σ H fun b H3 => if b = true then A H3 else B H3 := by
  show if true = true then A H else B H
  rw [if_pos rfl]
  exact h
def items (H : Hp) : V → List V
  | .ref p => match H p with
    | some (.lst xs) => xs
    | some (.tup xs) => xs
    | _ => []
  | _ => []
structure An2 (H : Hp) (v : V) : Prop where
  an : An H v
  it : ∀ x ∈ items H v, An H x
theorem items_mono {H H' : Hp} {v : V} (s : Same H H') (h : An H v) : items H' v = items H v := by
  cases h with
  | non => rfl
  | bl b => rfl
  | int i => rfl
  | str h => rfl
  | lst h => simp only [items, h, s _ _ h]
  | tup h => simp only [items, h, s _ _ h]
  | dK h => simp only [items, h, s _ _ h]
theorem An2.mono {H H' : Hp} {v : V} (s : Same H H') (h : An2 H v) : An2 H' v :=
  ⟨h.an.mono s, fun x hx => (h.it x (by rw [items_mono s h.an] at hx; exact hx)).mono s⟩
def partB (x : V) : Bool := inB x (.int 1) (.int 1000000)
def pairB (H : Hp) (v : V) : Bool := rowB H v 2 2 && (items H v).all partB
def spPair : Sp := fun vs H Q _ => ∃ v, vs = [v] ∧ An2 H v ∧ ∀ H', Same H H' → Q (.bl (pairB H v)) H'
theorem ok_is_pair {f : Addr} {fd : FuncData} (F : Fun K "is_pair" "is_pair" s_is_pair f fd) (T : Txt mg) (C_is_row : Cal P w K mg base 1 "is_row" ["value", "least", "most"] spRow)
    (C_is_within : Cal P w K mg base 2 "is_within" ["value", "least", "most"] spWithin) : FnOk P w K mg base CX0 3 f fd ["value"] spPair := by
  refine F.ok sc_is_pair (fun vs H Q E h => ?_) (fun cdv A outer s H vs Q E hr h => ?_)
  · obtain ⟨v, rfl, _⟩ := h
    rfl
  · obtain ⟨v, rfl, h2, q⟩ := h
    cases h2.an with
    | @tup a xs h =>
      refine ⟨_, (pss_one (ps_ret (pe_and (pe_cal C_is_row (hr.mono (by decide)) (pa_cons (pv 0) (pa_cons pe_int (pa_cons pe_int pa_nil)))) (pe_one (pe_callB (cr_all rfl) (by rfl) T.b_all boot_all (pa_cons (pe_lc (own := [("part", 1)]) (g := gName 1) (tt := tYes) rfl sc_is_pair.nd (pi_tup (pv 0)) (blkOk_by (own := [("part", 1)]) (N := N_is_pair) (sc := defScope s_is_pair) (by decide +kernel)) (fun _ _ _ _ _ => (pg_name (i := 1) sc_is_pair.nd rfl (Or.inl rfl))) (fun _ _ _ _ _ => pts_nil) (fun _ _ _ _ _ => (pe_cal C_is_within (hr.mono (by decide)) (pa_cons (pv 1) (pa_cons pe_int (pa_cons (pe_gi T.g_MOST_PART) pa_nil)))))) pa_nil)))))), ?_⟩
      refine ⟨_, rfl, _, 2, 2, rfl, h2.an, fun H1 s1 => ⟨_, rfl, ?_⟩⟩
      have e1 : rowB H (.ref a) 2 2 = (decide ((2 : Int) ≤ xs.length) && decide ((xs.length : Int) ≤ 2)) := by simp [rowB, h]
      have e2 : items H (.ref a) = xs := by simp [items, h]
      have q1 : ∀ H', Same H H' → Q (.bl (rowB H (.ref a) 2 2 && xs.all partB)) H' := fun H' s' => by
        have := q H' s'
        unfold pairB at this
        rw [e2] at this
        exact this
      refine ite_and (q1 H1 s1) fun hb _ => ?_
      refine ⟨_, rfl, a, rfl, ⟨xs, SqT.of (s1 _ _ h)⟩, fun D hD => ?_⟩
      have hlen : xs.length ≤ 2 := by
        rw [hb] at e1
        have := e1.symm
        simp only [Bool.and_eq_true, decide_eq_true_eq] at this
        omega
      refine lc_tup (K := K) (a := a) (xs := xs) (fun i H' => Same H1 H' ∧ H' D = some (.lst ((xs.take i).map fun x => V.bl (partB x)))) ⟨same_new hD, by rw [upd_same]; rfl⟩
        (fun i H' _ p => SqT.of (p.1 _ _ (s1 _ _ h))) (fun i x H' hx ⟨sm, hl⟩ => ?_) (fun H' ⟨sm, hl⟩ => ?_)
      · refine ⟨rfl, yes_if ?_⟩
        refine ⟨x, rfl, x, .int 1, .int 1000000, rfl, ((h2.it x (by rw [e2]; exact List.mem_of_getElem? hx)).mono s1).mono sm, .inr ⟨_, rfl⟩, .inr ⟨_, rfl⟩, ?_⟩
        refine ⟨_, hl, ?_, same_mut sm hD, ?_⟩
        · refine Nat.lt_of_le_of_lt (m := 2) ?_ (by decide)
          rw [List.length_map, List.length_take]
          omega
        · rw [upd_same, take_map_succ _ hx]
          rfl
      · rw [List.take_length] at hl
        refine ⟨D, xs.map partB, rfl, SqL.of (by rw [hl, List.map_map]; rfl), ?_⟩
        rw [hb] at q1
        have := q1 H' (s1.trans sm)
        rw [Bool.true_and] at this
        rw [List.all_map]
        exact this
    | @lst a xs h =>
      refine ⟨_, (pss_one (ps_ret (pe_and (pe_cal C_is_row (hr.mono (by decide)) (pa_cons (pv 0) (pa_cons pe_int (pa_cons pe_int pa_nil)))) (pe_one (pe_callB (cr_all rfl) (by rfl) T.b_all boot_all (pa_cons (pe_lc (own := [("part", 1)]) (g := gName 1) (tt := tYes) rfl sc_is_pair.nd (pi_list (pv 0)) (blkOk_by (own := [("part", 1)]) (N := N_is_pair) (sc := defScope s_is_pair) (by decide +kernel)) (fun _ _ _ _ _ => (pg_name (i := 1) sc_is_pair.nd rfl (Or.inl rfl))) (fun _ _ _ _ _ => pts_nil) (fun _ _ _ _ _ => (pe_cal C_is_within (hr.mono (by decide)) (pa_cons (pv 1) (pa_cons pe_int (pa_cons (pe_gi T.g_MOST_PART) pa_nil)))))) pa_nil)))))), ?_⟩
      refine ⟨_, rfl, _, 2, 2, rfl, h2.an, fun H1 s1 => ⟨_, rfl, ?_⟩⟩
      have e1 : rowB H (.ref a) 2 2 = (decide ((2 : Int) ≤ xs.length) && decide ((xs.length : Int) ≤ 2)) := by simp [rowB, h]
      have e2 : items H (.ref a) = xs := by simp [items, h]
      have q1 : ∀ H', Same H H' → Q (.bl (rowB H (.ref a) 2 2 && xs.all partB)) H' := fun H' s' => by
        have := q H' s'
        unfold pairB at this
        rw [e2] at this
        exact this
      refine ite_and (q1 H1 s1) fun hb _ => ?_
      refine ⟨_, rfl, a, rfl, ⟨xs, SqL.of (s1 _ _ h)⟩, fun D hD => ?_⟩
      have hlen : xs.length ≤ 2 := by
        rw [hb] at e1
        have := e1.symm
        simp only [Bool.and_eq_true, decide_eq_true_eq] at this
        omega
      refine lc_list (K := K) (a := a) (xs := xs) (fun i H' => Same H1 H' ∧ H' D = some (.lst ((xs.take i).map fun x => V.bl (partB x)))) ⟨same_new hD, by rw [upd_same]; rfl⟩
        (fun i H' _ p => SqL.of (p.1 _ _ (s1 _ _ h))) (fun i x H' hx ⟨sm, hl⟩ => ?_) (fun H' ⟨sm, hl⟩ => ?_)
      · refine ⟨rfl, yes_if ?_⟩
        refine ⟨x, rfl, x, .int 1, .int 1000000, rfl, ((h2.it x (by rw [e2]; exact List.mem_of_getElem? hx)).mono s1).mono sm, .inr ⟨_, rfl⟩, .inr ⟨_, rfl⟩, ?_⟩
        refine ⟨_, hl, ?_, same_mut sm hD, ?_⟩
        · refine Nat.lt_of_le_of_lt (m := 2) ?_ (by decide)
          rw [List.length_map, List.length_take]
          omega
        · rw [upd_same, take_map_succ _ hx]
          rfl
      · rw [List.take_length] at hl
        refine ⟨D, xs.map partB, rfl, SqL.of (by rw [hl, List.map_map]; rfl), ?_⟩
        rw [hb] at q1
        have := q1 H' (s1.trans sm)
        rw [Bool.true_and] at this
        rw [List.all_map]
        exact this
    | @dK a kvs h =>
      refine ⟨_, (pss_one (ps_ret (pe_and (pe_cal C_is_row (hr.mono (by decide)) (pa_cons (pv 0) (pa_cons pe_int (pa_cons pe_int pa_nil)))) (pe_one (pe_callB (cr_all rfl) (by rfl) T.b_all boot_all (pa_cons (pe_lc (own := [("part", 1)]) (g := gName 1) (tt := tYes) rfl sc_is_pair.nd (pi_list (pv 0)) (blkOk_by (own := [("part", 1)]) (N := N_is_pair) (sc := defScope s_is_pair) (by decide +kernel)) (fun _ _ _ _ _ => (pg_name (i := 1) sc_is_pair.nd rfl (Or.inl rfl))) (fun _ _ _ _ _ => pts_nil) (fun _ _ _ _ _ => (pe_cal C_is_within (hr.mono (by decide)) (pa_cons (pv 1) (pa_cons pe_int (pa_cons (pe_gi T.g_MOST_PART) pa_nil)))))) pa_nil)))))), ?_⟩
      refine ⟨_, rfl, _, 2, 2, rfl, h2.an, fun H1 s1 => ⟨_, rfl, ?_⟩⟩
      have e1 : rowB H (.ref a) 2 2 = false := by simp [rowB, h]
      rw [e1]
      have := q H1 s1
      unfold pairB at this
      rw [e1] at this
      exact iteF this
    | non => exact ⟨_, (pss_one (ps_ret (pe_and (pe_cal C_is_row (hr.mono (by decide)) (pa_cons (pv 0) (pa_cons pe_int (pa_cons pe_int pa_nil)))) (pe_one (pe_callB (cr_all rfl) (by rfl) T.b_all boot_all (pa_cons (pe_lc (own := [("part", 1)]) (g := gName 1) (tt := tYes) rfl sc_is_pair.nd (pi_list (pv 0)) (blkOk_by (own := [("part", 1)]) (N := N_is_pair) (sc := defScope s_is_pair) (by decide +kernel)) (fun _ _ _ _ _ => (pg_name (i := 1) sc_is_pair.nd rfl (Or.inl rfl))) (fun _ _ _ _ _ => pts_nil) (fun _ _ _ _ _ => (pe_cal C_is_within (hr.mono (by decide)) (pa_cons (pv 1) (pa_cons pe_int (pa_cons (pe_gi T.g_MOST_PART) pa_nil)))))) pa_nil)))))), _, rfl, _, 2, 2, rfl, h2.an, fun H1 s1 => ⟨_, rfl, iteF (q H1 s1)⟩⟩
    | bl b => exact ⟨_, (pss_one (ps_ret (pe_and (pe_cal C_is_row (hr.mono (by decide)) (pa_cons (pv 0) (pa_cons pe_int (pa_cons pe_int pa_nil)))) (pe_one (pe_callB (cr_all rfl) (by rfl) T.b_all boot_all (pa_cons (pe_lc (own := [("part", 1)]) (g := gName 1) (tt := tYes) rfl sc_is_pair.nd (pi_list (pv 0)) (blkOk_by (own := [("part", 1)]) (N := N_is_pair) (sc := defScope s_is_pair) (by decide +kernel)) (fun _ _ _ _ _ => (pg_name (i := 1) sc_is_pair.nd rfl (Or.inl rfl))) (fun _ _ _ _ _ => pts_nil) (fun _ _ _ _ _ => (pe_cal C_is_within (hr.mono (by decide)) (pa_cons (pv 1) (pa_cons pe_int (pa_cons (pe_gi T.g_MOST_PART) pa_nil)))))) pa_nil)))))), _, rfl, _, 2, 2, rfl, h2.an, fun H1 s1 => ⟨_, rfl, iteF (q H1 s1)⟩⟩
    | int b => exact ⟨_, (pss_one (ps_ret (pe_and (pe_cal C_is_row (hr.mono (by decide)) (pa_cons (pv 0) (pa_cons pe_int (pa_cons pe_int pa_nil)))) (pe_one (pe_callB (cr_all rfl) (by rfl) T.b_all boot_all (pa_cons (pe_lc (own := [("part", 1)]) (g := gName 1) (tt := tYes) rfl sc_is_pair.nd (pi_list (pv 0)) (blkOk_by (own := [("part", 1)]) (N := N_is_pair) (sc := defScope s_is_pair) (by decide +kernel)) (fun _ _ _ _ _ => (pg_name (i := 1) sc_is_pair.nd rfl (Or.inl rfl))) (fun _ _ _ _ _ => pts_nil) (fun _ _ _ _ _ => (pe_cal C_is_within (hr.mono (by decide)) (pa_cons (pv 1) (pa_cons pe_int (pa_cons (pe_gi T.g_MOST_PART) pa_nil)))))) pa_nil)))))), _, rfl, _, 2, 2, rfl, h2.an, fun H1 s1 => ⟨_, rfl, iteF (q H1 s1)⟩⟩
    | str b => exact ⟨_, (pss_one (ps_ret (pe_and (pe_cal C_is_row (hr.mono (by decide)) (pa_cons (pv 0) (pa_cons pe_int (pa_cons pe_int pa_nil)))) (pe_one (pe_callB (cr_all rfl) (by rfl) T.b_all boot_all (pa_cons (pe_lc (own := [("part", 1)]) (g := gName 1) (tt := tYes) rfl sc_is_pair.nd (pi_list (pv 0)) (blkOk_by (own := [("part", 1)]) (N := N_is_pair) (sc := defScope s_is_pair) (by decide +kernel)) (fun _ _ _ _ _ => (pg_name (i := 1) sc_is_pair.nd rfl (Or.inl rfl))) (fun _ _ _ _ _ => pts_nil) (fun _ _ _ _ _ => (pe_cal C_is_within (hr.mono (by decide)) (pa_cons (pv 1) (pa_cons pe_int (pa_cons (pe_gi T.g_MOST_PART) pa_nil)))))) pa_nil)))))), _, rfl, _, 2, 2, rfl, h2.an, fun H1 s1 => ⟨_, rfl, iteF (q H1 s1)⟩⟩

/-! ### the law's own draws -/
theorem ok_sift {f : Addr} {fd : FuncData} (F : Fun K "_law_sift" "_law_sift" s__law_sift f fd) (T : Txt mg) : FnOk P w K mg base CX0 1 f fd ["sieve", "many"] spSift := by
  refine F.ok sc__law_sift (fun vs H Q E h => ?_) (fun cdv A outer s H vs Q E hr h => ?_)
  · obtain ⟨p, q, cs, n, m, rfl, _⟩ := h
    rfl
  · obtain ⟨p, q, cs, n, m, rfl, hm0, hm1, hn, hcs, ⟨at_, rest, h1, h2, hpq, ha0, han, hr0⟩, k⟩ := h
    refine ⟨_, (pss_cons (ps_if (pt_cmpR op_gt (pe_ix ix_list (pv 0) pe_int (fun _ _ => rfl)) pe_int (nomark _))
  (pss_cons (ps_set (i := 2) sc__law_sift.nd rfl (Or.inl rfl) (pe_callTy call_int1 (by rfl) T.b_int boot_int (pa_cons (pe_ix ix_list (pv 0) pe_int (fun _ _ => rfl)) pa_nil)))
  (pss_cons (ps_asg (pe_op op_fdiv (pv 2) (pv 1)) (pg_sub (pv 0) pe_int set_list))
  (pss_one (ps_ret (pe_op op_mod (pe_callTy call_int1 (by rfl) T.b_int boot_int (pa_cons (pv 2) pa_nil)) (pv 1))))))
  pss_nil)
  (pss_cons (ps_set (i := 3) sc__law_sift.nd rfl (Or.inl rfl) (pe_ix ix_list (pv 0) pe_int (fun _ _ => rfl)))
  (pss_cons (ps_asg (pe_op op_add (pv 3) pe_int) (pg_sub (pv 0) pe_int set_list))
  (pss_cons (ps_set (i := 4) sc__law_sift.nd rfl (Or.inl rfl) (pe_op op_add (pe_op op_mul pe_int (pv 3)) pe_int))
  (C8.pss_cut (ps_if (pt_cmpR (op_neD (hu64 hr)) (pe_ix ix_list (pv 0) pe_int (fun _ _ => rfl)) (pe_lst pa_nil) (nomark _))
  (pss_one (ps_set (i := 4) sc__law_sift.nd rfl (Or.inl rfl) (pe_ix ix_list (pe_ix ix_list (pv 0) pe_int (fun _ _ => rfl)) (pe_op op_mod (pe_callTy call_int1 (by rfl) T.b_int boot_int (pa_cons (pv 3) pa_nil)) (pe_callB call_len_seq (by rfl) T.b_len boot_len (pa_cons (pe_ix ix_list (pv 0) pe_int (fun _ _ => rfl)) pa_nil))) (fun _ _ => rfl))))
  pss_nil)
  (C8.pss_cut (ps_if (PW.pt (pw_and (pt_cmpR op_lt (pv 3) (pe_callB call_len_seq (by rfl) T.b_len boot_len (pa_cons (pe_ix ix_list (pv 0) pe_int (fun _ _ => rfl)) pa_nil)) (nomark _)) (pw_and1 (pt_cmpR op_ge (pe_callB call_abs (by rfl) T.b_abs boot_abs (pa_cons (pv 4) pa_nil)) (pe_op op_pow pe_int pe_int) (nomark _)))))
  (pss_cons (ps_set (i := 2) sc__law_sift.nd rfl (Or.inl rfl) (pe_op op_add (pe_op op_mul pe_int (pe_op op_sub (pe_callB call_abs (by rfl) T.b_abs boot_abs (pa_cons (pv 4) pa_nil)) (pe_op op_pow pe_int pe_int))) (pe_callTy call_int1 (by rfl) T.b_int boot_int (pa_cons (pe_cmpR op_lt (pv 4) pe_int (nomark _)) pa_nil))))
  (pss_cons (ps_asg (pe_op op_fdiv (pe_callTy call_int1 (by rfl) T.b_int boot_int (pa_cons (pv 2) pa_nil)) (pv 1)) (pg_sub (pv 0) pe_int set_list))
  (pss_one (ps_ret (pe_op op_mod (pe_callTy call_int1 (by rfl) T.b_int boot_int (pa_cons (pv 2) pa_nil)) (pv 1))))))
  pss_nil)
  (pss_cons (ps_set (i := 5) sc__law_sift.nd rfl (Or.inl rfl) (pe_op op_mod (pe_callTy call_int1 (by rfl) T.b_int boot_int (pa_cons (pe_op op_pow (pe_op op_add (pe_op op_add (pe_op op_mod (pe_callTy call_int1 (by rfl) T.b_int boot_int (pa_cons (pv 4) pa_nil)) pe_int) (pe_op op_mul pe_int (pv 3))) pe_int) pe_int) pa_nil)) pe_int))
  (pss_cons (ps_set (i := 5) sc__law_sift.nd rfl (Or.inl rfl) (pe_op op_mod (pe_callTy call_int1 (by rfl) T.b_int boot_int (pa_cons (pe_op op_pow (pe_op op_add (pe_op op_add (pe_op op_mul (pv 5) (pe_op op_add (pe_op op_mul pe_int (pv 3)) pe_int)) (pe_op op_mul (pe_op op_mul pe_int (pv 3)) (pv 3))) pe_int) pe_int) pa_nil)) pe_int))
  (pss_one (ps_ret (pe_op op_mod (pe_callTy call_int1 (by rfl) T.b_int boot_int (pa_cons (pe_op op_fdiv (pv 5) pe_int) pa_nil)) (pv 1)))))))))))), ?_⟩
    refine ⟨_, rfl, p, _, 2, .int rest, rfl, rfl, SqL.of h1, rfl, rest, 0, rfl, rfl, _, rfl, ?_⟩
    refine ite2 (fun _ => ?_) (fun _ => ?_)
    · refine ⟨_, rfl, p, _, 2, .int rest, rfl, rfl, SqL.of h1, rfl, .inl ⟨rest, rfl, ?_⟩⟩
      refine ⟨_, rfl, _, rfl, rest, m, rfl, rfl, ⟨hm0, hm1⟩, _, rfl, p, _, 2, 2, rfl, rfl, h1, rfl, ?_⟩
      refine ⟨_, rfl, .inl ⟨rest, rfl, _, rfl, rest, m, rfl, rfl, hm0, ?_⟩⟩
      refine k _ _ (Int.emod_nonneg _ (by omega)) (Int.emod_lt_of_pos _ hm0) (But.refl _ _).upd ⟨at_, rest / m, upd_same, by rw [upd_ne hpq.symm]; exact h2, hpq, ha0, by omega, Int.ediv_nonneg hr0 (by omega)⟩
    · refine ⟨_, rfl, p, _, 1, .int at_, rfl, rfl, SqL.of h1, rfl, ?_⟩
      refine ⟨_, rfl, at_, 1, rfl, rfl, _, rfl, p, _, 1, 1, rfl, rfl, h1, rfl, ?_⟩
      refine ⟨_, rfl, 71341, at_, rfl, rfl, .inl ⟨by decide, by decide⟩, _, _, rfl, rfl, ?_⟩
      generalize e1 : upd H p (HO.lst (List.set [V.ref q, V.int at_, V.int rest] 1 (V.int (at_ + 1)))) = H1
      have p1 : H1 p = some (.lst [.ref q, .int (at_ + 1), .int rest]) := by rw [← e1]; exact upd_same
      have q1 : H1 q = some (.lst (cs.map V.int)) := by rw [← e1, upd_ne hpq.symm]; exact h2
      have b1 : But p H H1 := by rw [← e1]; exact (But.refl _ _).upd
      refine ⟨fun σ' H' => ∃ c : Int, σ' = [some (.ref p), some (.int m), none, some (.int at_), some (.int c), none] ∧ Same H1 H', ?_, ?_⟩
      · refine ⟨_, rfl, p, _, 0, .ref q, rfl, rfl, SqL.of p1, rfl, Nat.zero_le _, fun l hl => ?_⟩
        have s1 : Same H1 (upd H1 l (.lst [])) := same_new hl
        refine ⟨.list (cs.map PyData.int), .list [], .lst (SqL.of (s1 _ _ q1)) (dp_ints cs), .lst (SqL.of upd_same) .nil, shaped_ints cs, shaped_nil, _, rfl, ?_⟩
        rw [eqv_nil]
        refine ite2 (fun hne => ?_) (fun _ => ⟨_, rfl, s1⟩)
        have pos : 0 < cs.length := by
          cases cs with
          | nil => exact absurd hne (by simp)
          | cons c cs => simp
        have i0 := Int.emod_nonneg at_ (b := (cs.length : Int)) (by omega)
        have i1 := Int.emod_lt_of_pos at_ (b := (cs.length : Int)) (by omega)
        obtain ⟨c, hget⟩ : ∃ c, (cs.map V.int)[(at_ % (cs.length : Int)).toNat]? = some (V.int c) :=
          ⟨cs[(at_ % (cs.length : Int)).toNat]'(by omega), by rw [List.getElem?_map, List.getElem?_eq_getElem (by omega)]; rfl⟩
        refine ⟨_, rfl, p, _, 0, .ref q, rfl, rfl, SqL.of (s1 _ _ p1), rfl, _, rfl, .inl ⟨at_, rfl, ?_⟩⟩
        refine ⟨_, rfl, p, _, 0, .ref q, rfl, rfl, SqL.of (s1 _ _ p1), rfl, q, _, rfl, .inl (SqL.of (s1 _ _ q1)), at_, _, rfl, rfl, ?_, ?_⟩
        · rw [List.length_map]; omega
        · rw [List.length_map]
          refine ⟨q, cs.map V.int, at_ % (cs.length : Int), .int c, rfl, rfl, SqL.of (s1 _ _ q1), ?_, ⟨c, rfl, s1⟩⟩
          have := atI_nat hget
          rw [Int.toNat_of_nonneg i0] at this
          exact this
      · rintro σ' H' ⟨c, rfl, sm⟩
        have p2 := sm _ _ p1
        have q2 := sm _ _ q1
        have b2 : But p H H' := b1.trans (Same.but sm)
        refine ⟨fun σ' G => σ' = [some (.ref p), some (.int m), none, some (.int at_), some (.int c), none] ∧ G = H', ?_, ?_⟩
        · refine ⟨_, rfl, _, rfl, p, _, 0, .ref q, rfl, rfl, SqL.of p2, rfl, q, _, rfl, .inl (SqL.of q2), at_, _, rfl, rfl, _, rfl, ?_⟩
          refine ite2 (fun _ => ?_) (fun _ => iteF ⟨rfl, rfl⟩)
          refine ⟨_, rfl, c, rfl, 10, 18, rfl, rfl, cpow_of (by decide) (by decide) (by decide) (by decide), _, _, rfl, rfl, _, rfl, ?_⟩
          refine ite2 (fun hB => ?_) (fun _ => ⟨rfl, rfl⟩)
          have hB' : (10 : Int) ^ (18 : Int).toNat ≤ (if c < 0 then -c else c) := of_decide_eq_true hB
          refine ⟨_, rfl, c, rfl, 10, 18, rfl, rfl, cpow_of (by decide) (by decide) (by decide) (by decide), _, _, rfl, rfl, 2, _, rfl, rfl, .inl ⟨by decide, by decide⟩, ?_⟩
          refine ⟨_, rfl, c, 0, rfl, rfl, .inr ⟨_, rfl, _, _, rfl, rfl, ?_⟩⟩
          have hR : 0 ≤ (2 * ((if c < 0 then -c else c) - (10 : Int) ^ (18 : Int).toNat) + (if decide (c < 0) then 1 else 0) : Int) := by
            have : (0 : Int) ≤ (if decide (c < 0) then 1 else 0) := by split <;> omega
            omega
          refine ⟨_, rfl, .inl ⟨_, rfl, _, rfl, _, m, rfl, rfl, ⟨hm0, hm1⟩, _, rfl, p, _, 2, 2, rfl, rfl, p2, rfl, ?_⟩⟩
          refine ⟨_, rfl, .inl ⟨_, rfl, _, rfl, _, m, rfl, rfl, hm0, ?_⟩⟩
          exact k _ _ (Int.emod_nonneg _ (by omega)) (Int.emod_lt_of_pos _ hm0) b2.upd ⟨at_ + 1, _ / m, upd_same, by rw [upd_ne hpq.symm]; exact q2, hpq, by omega, by omega, Int.ediv_nonneg hR (by omega)⟩
        · rintro σ' G ⟨rfl, rfl⟩
          have c0 := Int.emod_nonneg c (b := 2147483549) (by decide)
          have c1 := Int.emod_lt_of_pos c (b := 2147483549) (by decide)
          refine ⟨_, rfl, .inl ⟨c, rfl, c, 2147483549, rfl, rfl, by show (0 : Int) < 2147483549; decide, ?_⟩⟩
          refine ⟨_, rfl, 31259, at_, rfl, rfl, .inl ⟨by decide, by decide⟩, _, _, rfl, rfl, _, _, rfl, rfl, ?_⟩
          refine ⟨_, 5, rfl, rfl, cpow_of (by decide) (by decide) (by omega) (by omega), .inl ⟨_, rfl, _, 2147483587, rfl, rfl, by show (0 : Int) < 2147483587; decide, ?_⟩⟩
          generalize (c % 2147483549 + 31259 * at_ + 5279 : Int) ^ (5 : Int).toNat = Y
          have y0 := Int.emod_nonneg Y (b := 2147483587) (by decide)
          have y1 := Int.emod_lt_of_pos Y (b := 2147483587) (by decide)
          have mz := mulb (a := 2147483587) (b := 300000) y0 (by omega) (show 0 ≤ 2 * at_ + 2671 by omega) (by omega)
          have ma := mulb (a := 71341 * 100001) (b := 100001) (show 0 ≤ 71341 * at_ by omega) (by omega) ha0 (by omega)
          refine ⟨_, rfl, _, rfl, 2, at_, rfl, rfl, .inl ⟨by decide, by decide⟩, _, _, rfl, rfl, Y % 2147483587, 2 * at_ + 2671, rfl, rfl, .inl ⟨by omega, by omega⟩, ?_⟩
          refine ⟨_, rfl, 71341, at_, rfl, rfl, .inl ⟨by decide, by decide⟩, _, rfl, 71341 * at_, at_, rfl, rfl, .inl ⟨by omega, by omega⟩, _, _, rfl, rfl, _, _, rfl, rfl, ?_⟩
          refine ⟨_, 3, rfl, rfl, cpow_of (by decide) (by decide) (by omega) (by omega), .inl ⟨_, rfl, _, 2147483629, rfl, rfl, by show (0 : Int) < 2147483629; decide, ?_⟩⟩
          refine ⟨_, rfl, _, 64, rfl, rfl, ⟨by decide, by decide⟩, .inl ⟨_, rfl, _, rfl, _, m, rfl, rfl, hm0, ?_⟩⟩
          exact k _ _ (Int.emod_nonneg _ (by omega)) (Int.emod_lt_of_pos _ hm0) b2 ⟨at_ + 1, rest, p2, q2, hpq, by omega, by omega, hr0⟩

theorem ok_one {f : Addr} {fd : FuncData} (F : Fun K "_law_one" "_law_one" s__law_one f fd) (T : Txt mg) (C__law_sift : Cal P w K mg base 1 "_law_sift" ["sieve", "many"] spSift) : FnOk P w K mg base CX0 2 f fd ["sieve", "some"] spOne := by
  refine F.ok sc__law_one (fun vs H Q E h => ?_) (fun cdv A outer s H vs Q E hr h => ?_)
  · obtain ⟨p, q, cs, n, s, xs, rfl, _⟩ := h
    rfl
  · obtain ⟨p, q, cs, n, s, xs, rfl, hs, hsp, h0, h1, hn, hcs, sv, k⟩ := h
    refine ⟨_, (pss_one (ps_ret (pe_ix ix_list (pv 1) (pe_cal C__law_sift (hr.mono (by decide)) (pa_cons (pv 0) (pa_cons (pe_callB call_len_seq (by rfl) T.b_len boot_len (pa_cons (pv 1) pa_nil)) pa_nil))) (fun _ _ => rfl)))), ?_⟩
    refine ⟨_, rfl, _, rfl, _, rfl, s, xs, rfl, .inl (SqL.of hs), p, q, cs, n, (xs.length : Int), rfl, by omega, by omega, hn, hcs, sv, ?_⟩
    intro r H' r0 r1 b sv'
    have hlt : r.toNat < xs.length := by omega
    refine ⟨s, xs, r, xs[r.toNat], rfl, rfl, SqL.of (b _ _ hsp hs), ?_, k _ _ (List.getElem_mem hlt) b sv'⟩
    have := atI_nat (List.getElem?_eq_getElem hlt)
    rw [Int.toNat_of_nonneg r0] at this
    exact this
theorem ok_law_is_integer {f : Addr} {fd : FuncData} (F : Fun K "_law_is_integer" "_law_is_integer" s__law_is_integer f fd) (T : Txt mg) : FnOk P w K mg base CX0 1 f fd ["value"] spIsInt := by
  refine F.ok sc__law_is_integer (fun vs H Q E h => ?_) (fun cdv A outer s H vs Q E hr h => ?_)
  · obtain ⟨v, rfl, _⟩ := h
    rfl
  · obtain ⟨v, rfl, ha, q⟩ := h
    refine ⟨_, (pss_one (ps_ret (pe_and (pe_callB call_isi (by rfl) T.b_isinstance boot_isinstance (pa_cons (pv 0) (pa_cons (pe_ty T.b_int boot_int) pa_nil))) (pe_and (pe_cmpR op_notTrue (pv 0) pe_bl (nomark _)) (pe_one (pe_cmpR op_notTrue (pv 0) pe_bl (nomark _))))))), ?_⟩
    refine ⟨v, rfl, v, .ty "int", _, _, _, rfl, .ty _, ha.tyx, ha.kit (by decide), _, rfl, ?_⟩
    rcases isI_or (v := v) with ⟨i, rfl⟩ | e
    · exact iteT ⟨_, rfl, _, rfl, _, rfl, iteT ⟨_, rfl, _, rfl, q⟩⟩
    · have q' : Q (.bl false) H := by
        rw [e] at q
        exact q
      cases hb : isT "int" H v with
      | false => exact iteF q'
      | true =>
        have : ∃ b, v = .bl b := by
          cases ha with
          | bl b => exact ⟨b, rfl⟩
          | int i => cases e
          | non => cases hb
          | str h => cases hb
          | lst h => simp [isT, tn, h] at hb
          | tup h => simp [isT, tn, h] at hb
          | dK h => simp [isT, tn, h] at hb
        obtain ⟨b, rfl⟩ := this
        cases b with
        | true => exact iteT ⟨_, rfl, _, rfl, _, rfl, iteF q'⟩
        | false => exact iteT ⟨_, rfl, _, rfl, _, rfl, iteT ⟨_, rfl, _, rfl, q'⟩⟩
theorem ok_sieve {f : Addr} {fd : FuncData} (F : Fun K "_law_sieve" "_law_sieve" s__law_sieve f fd) (T : Txt mg) : FnOk P w K mg base CX0 1 f fd ["script"] (spSieve K) := by
  refine F.ok sc__law_sieve (fun vs H Q E h => ?_) (fun cdv A outer s H vs Q E hr h => ?_)
  · obtain ⟨a, ns, rfl, _⟩ := h
    rfl
  · obtain ⟨a, ns, rfl, hS, k⟩ := h
    refine ⟨_, (pss_one (ps_ret (pe_lst (pa_cons (pe_lc (own := [("cell", 1)]) (g := gName 1) (tt := tYes) rfl sc__law_sieve.nd (pi_list (pe_slice sl_list (pv 0) po_none (po_some pe_int))) (blkOk_by (own := [("cell", 1)]) (N := N__law_sieve) (sc := defScope s__law_sieve) (by decide +kernel)) (fun _ _ _ _ _ => (pg_name (i := 1) sc__law_sieve.nd rfl (Or.inl rfl))) (fun _ _ _ _ _ => pts_nil) (fun _ _ _ _ _ => (pe_callTy call_int1 (by rfl) T.b_int boot_int (pa_cons (pv 1) pa_nil)))) (pa_cons pe_int (pa_cons pe_int pa_nil)))))), ?_⟩
    obtain ⟨cs, ec, _⟩ := map_mem_cut (ns := ns) (lo := none) (hi := some 63)
    have hc : cs.length ≤ 63 := by
      have := cut_len (ns := ns) (k := 63)
      rw [show (((63 : Nat) : Int)) = 63 from rfl, ec, List.length_map] at this
      exact this
    refine ⟨_, rfl, 63, rfl, a, _, rfl, hS, fun c hc0 => ?_⟩
    rw [ec]
    have s1 : Same H (upd H c (.lst (cs.map V.int))) := same_new hc0
    refine ⟨c, rfl, ⟨_, SqL.of upd_same⟩, fun D hD => ?_⟩
    refine lc_list (K := K) (a := c) (xs := cs.map V.int) (fun i H' => Same (upd H c (.lst (cs.map V.int))) H' ∧ H' D = some (.lst ((cs.map V.int).take i))) ⟨same_new hD, by rw [upd_same]; rfl⟩
        (fun i H' _ p => SqL.of (p.1 _ _ upd_same)) (fun i x H' hx ⟨sm, hl⟩ => ?_) (fun H' ⟨sm, hl⟩ => ?_)
    · refine ⟨rfl, yes_if ?_⟩
      obtain ⟨z, rfl⟩ : ∃ z, x = V.int z := by
        rw [List.getElem?_map] at hx
        cases e : cs[i]? with
        | none => rw [e] at hx; cases hx
        | some u => rw [e] at hx; exact ⟨u, (Option.some.inj hx).symm⟩
      refine ⟨_, rfl, .inl ⟨z, rfl, _, hl, ?_, same_mut sm hD, ?_⟩⟩
      · refine Nat.lt_of_le_of_lt (m := 63) ?_ (by decide)
        rw [List.length_take, List.length_map]
        omega
      · rw [upd_same, List.take_succ, hx]
        rfl
    · rw [List.take_length] at hl
      refine ⟨by show 3 ≤ sizeLine; decide, fun p hp => ?_⟩
      have pD : p ≠ D := (ne_of_none hl hp).symm
      have fr : H p = none := s1.free (sm.free hp)
      refine k p D cs _ fr (s1.trans (same_mut sm (sm.free hp))) hc ⟨0, 0, upd_same, by rw [upd_ne pD.symm]; exact hl, pD, by decide, by decide, by decide⟩

/-! ### drawn values of any kind -/
def Ap (p : Addr) (H : Hp) (v : V) : Prop := An H v ∧ v ≠ .ref p
theorem Ap.stb {p : Addr} : Stb p (Ap p) := fun H H' v b ⟨h, n⟩ => by
  refine ⟨?_, n⟩
  cases h with
  | non => exact .non
  | bl b => exact .bl b
  | int i => exact .int i
  | str h => exact .str h
  | @lst a xs h => exact .lst (b a _ (fun e => n (by rw [e])) h)
  | @tup a xs h => exact .tup (b a _ (fun e => n (by rw [e])) h)
  | @dK a xs h => exact .dK (b a _ (fun e => n (by rw [e])) h)
structure Ap2 (p : Addr) (H : Hp) (v : V) : Prop where
  a : Ap p H v
  it : ∀ x ∈ items H v, Ap p H x
theorem items_but {p : Addr} {H H' : Hp} {v : V} (b : But p H H') (h : Ap p H v) : items H' v = items H v := by
  obtain ⟨h, n⟩ := h
  cases h with
  | non => rfl
  | bl b => rfl
  | int i => rfl
  | str h => rfl
  | @lst a xs h => simp only [items, h, b a _ (fun e => n (by rw [e])) h]
  | @tup a xs h => simp only [items, h, b a _ (fun e => n (by rw [e])) h]
  | @dK a xs h => simp only [items, h, b a _ (fun e => n (by rw [e])) h]
theorem Ap2.stb {p : Addr} : Stb p (Ap2 p) := fun H H' v b ⟨h, k⟩ =>
  ⟨Ap.stb _ _ _ b h, fun x hx => Ap.stb _ _ _ b (k x (by rw [items_but b h] at hx; exact hx))⟩
theorem Ap2.an {p : Addr} {H : Hp} {v : V} (h : Ap2 p H v) : An2 H v := ⟨h.a.1, fun x hx => (h.it x hx).1⟩
theorem Ap.non {p : Addr} {H : Hp} : Ap p H .non := ⟨.non, fun e => by cases e⟩
theorem Ap.bl {p : Addr} {H : Hp} (b : Bool) : Ap p H (.bl b) := ⟨.bl b, fun e => by cases e⟩
theorem Ap.int {p : Addr} {H : Hp} (i : Int) : Ap p H (.int i) := ⟨.int i, fun e => by cases e⟩
theorem Ap.str {p : Addr} {H : Hp} {s : Str} (h : s.length ≤ 100000) : Ap p H (.str s) := ⟨.str h, fun e => by cases e⟩
theorem ap2_flat {p : Addr} {H : Hp} {v : V} (h : Ap p H v) (f : items H v = []) : Ap2 p H v := ⟨h, fun x hx => by rw [f] at hx; cases hx⟩
theorem ap_lst {p a : Addr} {H : Hp} {xs : List V} (h : H a = some (.lst xs)) (n : a ≠ p) : Ap p H (.ref a) := ⟨.lst h, fun e => n (V.ref.inj e)⟩
theorem ap2_lst {p a : Addr} {xs : List V} {H : Hp} (h : H a = some (.lst xs)) (n : a ≠ p) (r : ∀ x ∈ xs, Ap p H x) : Ap2 p H (.ref a) :=
  ⟨ap_lst h n, fun x hx => r x (by simpa only [items, h] using hx)⟩
theorem ap2_tup {p a : Addr} {xs : List V} {H : Hp} (h : H a = some (.tup xs)) (n : a ≠ p) (r : ∀ x ∈ xs, Ap p H x) : Ap2 p H (.ref a) :=
  ⟨⟨.tup h, fun e => n (V.ref.inj e)⟩, fun x hx => r x (by simpa only [items, h] using hx)⟩
theorem ap2_dict {p a : Addr} {kvs : List (Key × V)} {H : Hp} (h : H a = some (.dK kvs)) (n : a ≠ p) : Ap2 p H (.ref a) :=
  ⟨⟨.dK h, fun e => n (V.ref.inj e)⟩, fun x hx => by simp only [items, h] at hx; cases hx⟩
def Near : Hp → V → Prop := fun _ v => ∃ i, v = .int i ∧ -1 ≤ i ∧ i ≤ 10000000
def ShortS : Hp → V → Prop := fun _ v => ∃ s : Str, v = .str s ∧ s.length ≤ 1000
def IntS : Hp → V → Prop := fun _ v => ∃ i : Int, v = .int i
def IsV (u : V) : Hp → V → Prop := fun _ v => v = u
theorem Near.stb {p : Addr} : Stb p Near := fun _ _ _ _ h => h
theorem ShortS.stb {p : Addr} : Stb p ShortS := fun _ _ _ _ h => h
theorem IsV.stb {u : V} {p : Addr} : Stb p (IsV u) := fun _ _ _ _ h => h
def spAny (_ : Unit) : Sp := fun vs H Q _ => ∃ (p q : Addr) (cs : List Int) (n : Nat), vs = [.ref p] ∧ n ≤ 90000 ∧ cs.length ≤ 1000 ∧ Sv p q cs n H ∧ ∀ v H', Ap2 p H' v → But p H H' → Sv p q cs (n + 10) H' → Q v H'
section
variable {p q : Addr} {cs : List Int} {σ : L2.St} {n m l : Nat} {H : Hp}
theorem dr_pow {a b : Int} (h : CPow a b) : Dr p q cs (tOp (rI CPow fun i j => .int (i ^ j.toNat)) (tC (.int a)) (tC (.int b))) σ n n H (IsV (.int (a ^ b.toNat))) :=
  dr_op IsV.stb (dr_c (R := IsV (.int a)) fun _ _ => rfl) (dr_c (R := IsV (.int b)) fun _ _ => rfl) fun x y H1 rx ry Q q => ⟨a, b, rx, ry, h, q _ rfl⟩
theorem dr_neg {a : Int} : Dr p q cs (tUn (rU fun i => .int (-i)) (tC (.int a))) σ n n H (IsV (.int (-a))) :=
  dr_un (dr_c (R := IsV (.int a)) fun _ _ => rfl) fun x H1 rx Q q => ⟨a, rx, q _ rfl⟩
theorem dr_addI {ta tb : TE} {a b : Int} (ha : Dr p q cs ta σ n m H (IsV (.int a))) (hb : Dr p q cs tb σ m l H (IsV (.int b))) : Dr p q cs (tOp (rI0 fun i j => .int (i + j)) ta tb) σ n l H (IsV (.int (a + b))) :=
  dr_op IsV.stb ha hb fun x y H1 rx ry Q q => ⟨a, b, rx, ry, q _ rfl⟩
theorem dr_near {t : TE} {i : Int} (h : Dr p q cs t σ n m H (IsV (.int i))) (h0 : -1 ≤ i) (h1 : i ≤ 10000000) : Dr p q cs t σ n m H Near := h.imp fun _ v e => ⟨i, e, h0, h1⟩
theorem dr_k {i : Int} (h0 : -1 ≤ i) (h1 : i ≤ 10000000) : Dr p q cs (tC (.int i)) σ n n H Near := dr_c fun _ _ => ⟨i, rfl, h0, h1⟩
theorem dr_s {s : Str} (h : s.length ≤ 1000) : Dr p q cs (tC (.str s)) σ n n H ShortS := dr_c fun _ _ => ⟨s, rfl, h⟩
theorem dr_mulS {ta tb : TE} {s : Str} (ha : Dr p q cs ta σ n m H (IsV (.str s))) (hs : s.length ≤ 1) (hb : Dr p q cs tb σ m l H fun _ v => ∃ i, v = .int i ∧ 0 ≤ i ∧ i ≤ 900) :
    Dr p q cs (tOp (fun x y H Q => ∃ z i, x = .str z ∧ y = .int i ∧ z.length ≤ 1 ∧ 0 ≤ i ∧ i ≤ 100000 ∧ Q (.str (Txt.mul z i)) H) ta tb) σ n l H fun _ v => ∃ s : Str, v = .str s ∧ s.length ≤ 900 :=
  dr_op IsV.stb ha hb fun x y H1 rx ⟨i, ry, i0, i1⟩ Q q => ⟨s, i, rx, ry, hs, i0, by omega, q _ ⟨_, rfl, by
    have := PyProof.Rows.len_mul_leN (L := 1) (N := 900) hs (n := i) (by omega)
    omega⟩⟩
theorem dr_addS {ta tb : TE} (ha : Dr p q cs ta σ n m H fun _ v => ∃ s : Str, v = .str s ∧ s.length ≤ 900) (hb : Dr p q cs tb σ m l H fun _ v => ∃ s : Str, v = .str s ∧ s.length ≤ 100) :
    Dr p q cs (tOp (fun x y H Q => ∃ i j, x = .str i ∧ y = .str j ∧ i.length + j.length ≤ sizeLine ∧ Q (.str (i ++ j)) H) ta tb) σ n l H ShortS :=
  dr_op (fun _ _ _ _ h => h) ha hb fun x y H1 ⟨s, rx, hs⟩ ⟨z, ry, hz⟩ Q q => ⟨s, z, rx, ry, Nat.le_trans (m := 1000) (by omega) (by decide), q _ ⟨_, rfl, by rw [Str.length_append]; omega⟩⟩
theorem dr_any_s {t : TE} (h : Dr p q cs t σ n m H ShortS) : Dr p q cs t σ n m H (Ap2 p) := h.imp fun H1 v ⟨s, e, hs⟩ => by
  subst e
  exact ap2_flat (.str (by omega)) rfl
theorem dr_flat {t : TE} (h : Dr p q cs t σ n m H (Ap p)) (f : ∀ H v, Ap p H v → items H v = []) : Dr p q cs t σ n m H (Ap2 p) := h.imp fun H1 v a => ap2_flat a (f _ _ a)
theorem dr_al {ta : TA} {k : Nat} (h : DrA p q cs ta σ n m H k (Ap p)) (hk : k ≤ 1000) : Dr p q cs (tLst ta) σ n m H (Ap2 p) := dr_lst h Ap.stb hk fun a xs H1 e na _ r => ap2_lst e na r
theorem dr_at {ta : TA} {k : Nat} (h : DrA p q cs ta σ n m H k (Ap p)) (hk : k ≤ 1000) : Dr p q cs (tTup ta) σ n m H (Ap2 p) := dr_tup h Ap.stb hk fun a xs H1 e na _ r => ap2_tup e na r
theorem dr_ap_lst {ta : TA} {k : Nat} (h : DrA p q cs ta σ n m H k (Ap p)) (hk : k ≤ 1000) : Dr p q cs (tLst ta) σ n m H (Ap p) := dr_lst h Ap.stb hk fun a xs H1 e na _ r => ap_lst e na
theorem dr_dict0 : Dr p q cs tDNewK σ n n H (Ap2 p) := fun H1 b s Q f a ha => f _ _ ((But.refl _ _).new ha) (s.same (same_new ha)) (ap2_dict upd_same (sv_ne s ha))
theorem dr_dict1 {i : Nat} {j k : Int} (e : σ[i]? = some (some (.int k))) : Dr p q cs (tDisp [(tVar i, tC (.int j))]) σ n n H (Ap2 p) := fun H1 b s Q f a ha =>
  ⟨_, e, upd_same, [(Sum.inl k, .int j)], rfl, by show 1 ≤ 15; decide, by
    rw [upd_upd]
    exact f _ _ ((But.refl _ _).new ha) (s.same (same_new ha)) (ap2_dict upd_same (sv_ne s ha))⟩
theorem dr_strI {i : Nat} {k : Int} (e : σ[i]? = some (some (.int k))) (h0 : -1 ≤ k) (h1 : k ≤ 10000000) :
    Dr p q cs (tCB (fun xs H Q => ∃ i : Int, xs = [.int i] ∧ i.natAbs.log2 < 1920 ∧ Q (.str (toString i)) H) (tCons (tVar i) tNil)) σ n n H ShortS :=
  dr_cb (Ra := IsV (.int k)) (dr_v e fun _ _ => rfl) fun x H1 rx Q q => ⟨k, by rw [rx], by
    have : k.natAbs < 2 ^ 24 := by omega
    have := PySem.Flt.log2_lt_of (by decide) this
    omega, q _ ⟨_, rfl, by
      rw [show (Str.ofString (toString k)).length = (toString k).length from PySem.ofString_length _]
      have := int_text_length_le10 (a := k) (k := 8) (by decide) (by omega)
      omega⟩⟩
end

theorem ok_any {f : Addr} {fd : FuncData} (F : Fun K "_law_any" "_law_any" s__law_any f fd) (T : Txt mg) (C__law_sift : Cal P w K mg base 1 "_law_sift" ["sieve", "many"] spSift)
    (C__law_one : Cal P w K mg base 2 "_law_one" ["sieve", "some"] spOne) : FnOk P w K mg base CX0 3 f fd ["sieve"] (spAny ()) := by
  refine F.ok sc__law_any (fun vs H Q E h => ?_) (fun cdv A outer s H vs Q E hr h => ?_)
  · obtain ⟨p, q, cs, n, rfl, _⟩ := h
    rfl
  · obtain ⟨p, q, cs, n, rfl, hn, hc, sv, k⟩ := h
    refine ⟨_, (pss_cons (ps_set (i := 1) sc__law_any.nd rfl (Or.inl rfl) (pe_cal C__law_one (hr.mono (by decide)) (pa_cons (pv 0) (pa_cons (pe_lst (pa_cons pe_int (pa_cons pe_int (pa_cons (pe_op op_pow pe_int pe_int) (pa_cons (pe_op op_add (pe_op op_pow pe_int pe_int) pe_int) (pa_cons (pe_un un_neg pe_int) (pa_cons pe_int (pa_cons (pe_cal C__law_sift (hr.mono (by decide)) (pa_cons (pv 0) (pa_cons (pe_op op_pow pe_int pe_int) pa_nil))) pa_nil)))))))) pa_nil))))
  (pss_cons (ps_set (i := 2) sc__law_any.nd rfl (Or.inl rfl) (pe_lst (pa_cons pe_non (pa_cons pe_bl (pa_cons pe_bl (pa_cons (pv 1) (pa_cons (pe_callTy call_str_int (by rfl) T.b_str boot_str (pa_cons (pv 1) pa_nil)) (pa_cons (pe_lst (pa_cons (pv 1) pa_nil)) (pa_cons (pe_tup (pa_cons (pv 1) (pa_cons pe_int pa_nil))) (pa_cons (pe_lst (pa_cons pe_int (pa_cons (pv 1) pa_nil))) (pa_cons (pe_tup (pa_cons (pv 1) pa_nil)) (pa_cons (pe_lst (pa_cons (pv 1) (pa_cons (pv 1) (pa_cons (pv 1) pa_nil)))) (pa_cons (pe_lst (pa_cons (pv 1) (pa_cons pe_bl pa_nil))) (pa_cons (pe_lst (pa_cons pe_non (pa_cons (pv 1) pa_nil))) (pa_cons pe_str (pa_cons (pe_op op_mulS pe_str (pe_cal C__law_sift (hr.mono (by decide)) (pa_cons (pv 0) (pa_cons pe_int pa_nil)))) pa_nil))))))))))))))))
  (pss_cons (ps_set (i := 2) sc__law_any.nd rfl (Or.inl rfl) (pe_op op_cat (pv 2) (pe_lst (pa_cons (pe_op op_add_str (pe_op op_mulS pe_str pe_int) (pe_cal C__law_one (hr.mono (by decide)) (pa_cons (pv 0) (pa_cons (pe_lst (pa_cons pe_str (pa_cons pe_str (pa_cons pe_str (pa_cons pe_str (pa_cons pe_str pa_nil)))))) pa_nil)))) (pa_cons pe_str (pa_cons pe_str (pa_cons pe_str (pa_cons pe_str (pa_cons (pe_dnewK) (pa_cons (pe_disp (pps_cons (pv 1) pe_int pps_nil) (by rfl) (by rfl) (fun z => by cases z) (by decide)) (pa_cons (pe_lst (pa_cons (pe_lst (pa_cons (pv 1) pa_nil)) (pa_cons pe_int pa_nil))) (pa_cons (pe_op op_mulS pe_str pe_int) (pa_cons (pe_op op_mulS pe_str pe_int) (pa_cons (pe_lst (pa_cons pe_str (pa_cons pe_str pa_nil))) pa_nil))))))))))))))
  (pss_one (ps_ret (pe_cal C__law_one (hr.mono (by decide)) (pa_cons (pv 0) (pa_cons (pv 2) pa_nil)))))))), ?_⟩
    refine dr_set (dr_one (p := p) (q := q) (cs := cs) (k := 7) (R := Near) rfl (dr_lstR
      (DrA.cons Near.stb (dr_k (by decide) (by decide)) (DrA.cons Near.stb (dr_k (by decide) (by decide)) (DrA.cons Near.stb (dr_near (dr_pow (cpow_of (by decide) (by decide) (by decide) (by decide))) (by decide) (by decide))
      (DrA.cons Near.stb (dr_near (dr_addI (dr_pow (cpow_of (by decide) (by decide) (by decide) (by decide))) (dr_c fun _ _ => rfl)) (by decide) (by decide)) (DrA.cons Near.stb (dr_near dr_neg (by decide) (by decide)) (DrA.cons Near.stb (dr_k (by decide) (by decide))
      (DrA.cons Near.stb ((dr_sift rfl (dr_pow (cpow_of (by decide) (by decide) (by decide) (by decide))) (by decide) (by decide) (by omega) hc).imp fun _ v ⟨r, e, r0, r1⟩ => ⟨r, e, by omega, Int.le_of_lt r1⟩) DrA.nil)))))))
      Near.stb (by decide)) Near.stb (by decide) (by decide) (by omega) hc) sv ?_
    rintro v H1 b1 sv1 ⟨near, rfl, n0, n1⟩
    have vNear : ∀ {n H0}, Dr p q cs (tVar 1) ((start N__law_any [.ref p]).set 1 (some (.int near))) n n H0 (Ap p) := dr_v rfl fun _ _ => .int near
    have cInt : ∀ {σ n H0 i}, Dr p q cs (tC (.int i)) σ n n H0 (Ap p) := dr_c fun _ _ => .int _
    have cStr : ∀ {σ n H0} {s : Str}, s.length ≤ 1000 → Dr p q cs (tC (.str s)) σ n n H0 (Ap2 p) := fun h => dr_any_s (dr_s h)
    have S2 : Stb p (Ap2 p) := Ap2.stb
    have S1 : Stb p (Ap p) := Ap.stb
    refine dr_set (dr_lstR (k := 14) (n := n + 2) (m := n + 3) ?D1 S2 (by decide)) sv1 ?R1
    case D1 =>
      refine DrA.cons S2 (dr_c fun _ _ => ap2_flat .non rfl) ?_
      refine DrA.cons S2 (dr_c fun _ _ => ap2_flat (.bl _) rfl) ?_
      refine DrA.cons S2 (dr_c fun _ _ => ap2_flat (.bl _) rfl) ?_
      refine DrA.cons S2 (dr_v rfl fun _ _ => ap2_flat (.int near) rfl) ?_
      refine DrA.cons S2 (dr_any_s (dr_strI rfl n0 n1)) ?_
      refine DrA.cons S2 (dr_al (DrA.cons S1 vNear DrA.nil) (by decide)) ?_
      refine DrA.cons S2 (dr_at (DrA.cons S1 vNear (DrA.cons S1 cInt DrA.nil)) (by decide)) ?_
      refine DrA.cons S2 (dr_al (DrA.cons S1 cInt (DrA.cons S1 vNear DrA.nil)) (by decide)) ?_
      refine DrA.cons S2 (dr_at (DrA.cons S1 vNear DrA.nil) (by decide)) ?_
      refine DrA.cons S2 (dr_al (DrA.cons S1 vNear (DrA.cons S1 vNear (DrA.cons S1 vNear DrA.nil))) (by decide)) ?_
      refine DrA.cons S2 (dr_al (DrA.cons S1 vNear (DrA.cons S1 (dr_c fun _ _ => .bl _) DrA.nil)) (by decide)) ?_
      refine DrA.cons S2 (dr_al (DrA.cons S1 (dr_c fun _ _ => .non) (DrA.cons S1 vNear DrA.nil)) (by decide)) ?_
      refine DrA.cons S2 (cStr (by decide)) ?_
      refine DrA.cons S2 (dr_any_s (Dr.imp (dr_mulS (dr_c fun _ _ => rfl) (by decide) (Dr.imp (dr_sift rfl (dr_c fun _ _ => rfl) (by decide) (by decide) (by omega) hc) ?i1)) ?i2)) DrA.nil
      case i1 => exact fun _ v ⟨r, e, r0, r1⟩ => ⟨r, e, r0, by omega⟩
      case i2 => exact fun _ v ⟨s, e, h⟩ => ⟨s, e, by omega⟩
    rintro v H2 b2 sv2 ⟨a, xs, rfl, ha, hap, hxs, rxs⟩
    refine ⟨_, rfl, ?_⟩
    have vNear2 : ∀ {n H0}, Dr p q cs (tVar 1) (((start N__law_any [.ref p]).set 1 (some (.int near))).set 2 (some (.ref a))) n n H0 (Ap p) := dr_v rfl fun _ _ => .int near
    refine dr_lstR (k := 11) (n := n + 3) (m := n + 4) ?D2 S2 (by decide) H2 (But.refl _ _) sv2 _ ?R2
    case D2 =>
      have sS : Stb p (fun (_ : Hp) v => ∃ s : Str, v = .str s ∧ s.length ≤ 100) := fun _ _ _ _ h => h
      refine DrA.cons S2 (dr_any_s (dr_addS (dr_mulS (dr_c fun _ _ => rfl) (by decide) (dr_c fun _ _ => ⟨59, rfl, by decide, by decide⟩)) (dr_one (k := 5) (n := n + 3) (m := n + 3) rfl (dr_lstR ?l5 sS (by decide)) sS (by decide) (by decide) (by omega) hc))) ?_
      case l5 =>
        refine DrA.cons sS (dr_c fun _ _ => ⟨_, rfl, by decide⟩) ?_
        refine DrA.cons sS (dr_c fun _ _ => ⟨_, rfl, by decide⟩) ?_
        refine DrA.cons sS (dr_c fun _ _ => ⟨_, rfl, by decide⟩) ?_
        refine DrA.cons sS (dr_c fun _ _ => ⟨_, rfl, by decide⟩) ?_
        exact DrA.cons sS (dr_c fun _ _ => ⟨_, rfl, by decide⟩) DrA.nil
      refine DrA.cons S2 (cStr (by decide)) ?_
      refine DrA.cons S2 (cStr (by decide)) ?_
      refine DrA.cons S2 (cStr (by decide)) ?_
      refine DrA.cons S2 (cStr (by decide)) ?_
      refine DrA.cons S2 dr_dict0 ?_
      refine DrA.cons S2 (dr_dict1 rfl) ?_
      refine DrA.cons S2 (dr_al (DrA.cons S1 (dr_ap_lst (DrA.cons S1 vNear2 DrA.nil) (by decide)) (DrA.cons S1 cInt DrA.nil)) (by decide)) ?_
      refine DrA.cons S2 (dr_any_s (Dr.imp (dr_mulS (dr_c fun _ _ => rfl) (by decide) (dr_c fun _ _ => ⟨60, rfl, by decide, by decide⟩)) ?i1)) ?_
      case i1 => exact fun _ v ⟨s, e, h⟩ => ⟨s, e, by omega⟩
      refine DrA.cons S2 (dr_any_s (Dr.imp (dr_mulS (dr_c fun _ _ => rfl) (by decide) (dr_c fun _ _ => ⟨61, rfl, by decide, by decide⟩)) ?i2)) ?_
      case i2 => exact fun _ v ⟨s, e, h⟩ => ⟨s, e, by omega⟩
      exact DrA.cons S2 (dr_al (DrA.cons S1 (dr_c fun _ _ => .str (by decide)) (DrA.cons S1 (dr_c fun _ _ => .str (by decide)) DrA.nil)) (by decide)) DrA.nil
    rintro v H3 b3 sv3 ⟨b, ys, rfl, hb, hbp, hys, rys⟩
    refine ⟨a, b, xs, ys, rfl, rfl, b3 _ _ hap ha, hb, Nat.le_trans (m := 25) (by omega) (by decide), fun c hc0 => ?_⟩
    have b4 : But p H3 (upd H3 c (.lst (xs ++ ys))) := (But.refl _ _).new hc0
    refine ⟨_, rfl, _, rfl, p, q, cs, n + 4, c, xs ++ ys, rfl, upd_same, sv_ne sv3 hc0, by rw [List.length_append]; omega, by rw [List.length_append]; omega, by omega, hc, (sv3.same (same_new hc0)).mono (by omega), ?_⟩
    intro x H4 hx b5 sv5
    refine k _ _ ?_ (((b1.trans b2).trans b3).trans (b4.trans b5)) (sv5.mono (by omega))
    refine Ap2.stb _ _ _ b5 (Ap2.stb _ _ _ b4 ?_)
    rcases List.mem_append.mp hx with h | h
    · exact Ap2.stb _ _ _ b3 (rxs x h)
    · exact rys x h

/-! ### the law -/
theorem rowB_mono {H H' : Hp} {v : V} {a b : Int} (s : Same H H') (h : An H v) : rowB H' v a b = rowB H v a b := by
  cases h with
  | non => rfl
  | bl b => rfl
  | int i => rfl
  | str h => rfl
  | lst h => simp only [rowB, h, s _ _ h]
  | tup h => simp only [rowB, h, s _ _ h]
  | dK h => simp only [rowB, h, s _ _ h]
theorem pairB_mono {H H' : Hp} {v : V} (s : Same H H') (h : An H v) : pairB H' v = pairB H v := by
  unfold pairB
  rw [rowB_mono s h, items_mono s h]
def tName : TE := fun σ H Q => ∃ v, σ.length = 13 ∧ σ[3]? = some (some v) ∧ An H v ∧ ∀ H', Same H H' → Q (.bl (nameB v)) H'
def tPair : TE := fun σ H Q => ∃ v, σ.length = 13 ∧ σ[3]? = some (some v) ∧ An2 H v ∧ ∀ H', Same H H' → Q (.bl (pairB H v)) H'
def tWithin : TE := fun σ H Q => ∃ v lo hi, σ[3]? = some (some v) ∧ σ[4]? = some (some lo) ∧ σ[5]? = some (some hi) ∧ σ[6]? = some (some (.bl (isI v))) ∧ Bd lo ∧ Bd hi ∧ Q (.bl (inB v lo hi)) H
def spLaw (K : PySem.W.Frag) : Sp := fun vs H Q _ => ∃ (a : Addr) (ns : List Int), vs = [.ref a] ∧ SqL K H a (ns.map V.int) ∧ ∀ H', Q (.bl true) H'
theorem ok_law {f : Addr} {fd : FuncData} (F : Fun K "law" "law" s_law f fd) (T : Txt mg) (C_is_integer : Cal P w K mg base 1 "is_integer" ["value"] spIsInt) (C_is_within : Cal P w K mg base 2 "is_within" ["value", "least", "most"] spWithin)
    (C_is_name : Cal P w K mg base 2 "is_name" ["value"] (spAny1 fun _ v => nameB v)) (C_is_pair : Cal P w K mg base 3 "is_pair" ["value"] spPair)
    (K_is_integer : CalK P w K mg base 1 "is_integer" ["value"] ["value"] (fun l => l) spIsInt) (K_is_within : CalK P w K mg base 2 "is_within" ["value", "least", "most"] ["most", "least", "value"] List.reverse spWithin)
    (K_is_name : CalK P w K mg base 2 "is_name" ["value"] ["value"] (fun l => l) (spAny1 fun _ v => nameB v)) (K_is_pair : CalK P w K mg base 3 "is_pair" ["value"] ["value"] (fun l => l) spPair)
    (C__law_sieve : Cal P w K mg base 1 "_law_sieve" ["script"] (spSieve K)) (C__law_one : Cal P w K mg base 2 "_law_one" ["sieve", "some"] spOne) (C__law_any : Cal P w K mg base 3 "_law_any" ["sieve"] (spAny ()))
    (C__law_is_integer : Cal P w K mg base 1 "_law_is_integer" ["value"] spIsInt) : FnG P w K mg base CX0 4 f fd ["script"] (spLaw K) := by
  refine Fun.okG F sc_law (fun vs H Q E h => ?_) (fun cdv A outer s H vs Q E hr gd h => ?_)
  · obtain ⟨a, ns, rfl, _⟩ := h
    rfl
  · obtain ⟨a, ns, rfl, hS, k⟩ := h
    refine ⟨_, (pss_cons (ps_set (i := 1) sc_law.nd rfl (Or.inl rfl) (pe_cal C__law_sieve (hr.mono (by decide)) (pa_cons (pv 0) pa_nil)))
  (pss_cons (ps_for PassesOwn.never rfl (pi_range1 rfl T.b_range (pa_cons pe_int pa_nil)) (pg_name (i := 2) sc_law.nd rfl (Or.inl rfl))
  (pss_cons (ps_set (i := 3) sc_law.nd rfl (Or.inl rfl) (pe_cal C__law_any (hr.mono (by decide)) (pa_cons (pv 1) pa_nil)))
  (pss_cons (ps_par (i := 4) (j := 5) rfl sc_law.nd rfl rfl (by decide) rfl rfl (pa_cons (pe_cal C__law_one (hr.mono (by decide)) (pa_cons (pv 1) (pa_cons (pe_lst (pa_cons pe_non (pa_cons pe_int (pa_cons pe_int (pa_cons (pe_un un_neg pe_int) (pa_cons (pe_op op_pow pe_int pe_int) pa_nil)))))) pa_nil))) (pa_cons (pe_cal C__law_one (hr.mono (by decide)) (pa_cons (pv 1) (pa_cons (pe_lst (pa_cons pe_non (pa_cons pe_int (pa_cons pe_int (pa_cons (pe_op op_pow pe_int pe_int) (pa_cons (pe_op op_pow pe_int pe_int) pa_nil)))))) pa_nil))) pa_nil)) rfl)
  (pss_cons (ps_set (i := 6) sc_law.nd rfl (Or.inl rfl) (pe_cal C__law_is_integer (hr.mono (by decide)) (pa_cons (pv 3) pa_nil)))
  (pss_cons (ps_set (i := 7) sc_law.nd rfl (Or.inl rfl) (pe_imp (t' := tWithin) (pe_and (pv 6) (pe_and (pe_or (pe_cmpR op_isN (pv 4) pe_non (nomark _)) (pe_one (pe_cmpR op_ge (pv 3) (pv 4) (nomark _)))) (pe_one (pe_or (pe_cmpR op_isN (pv 5) pe_non (nomark _)) (pe_one (pe_cmpR op_le (pv 3) (pv 5) (nomark _))))))) ?rWithin))
  (pss_cons (ps_set (i := 8) sc_law.nd rfl (Or.inl rfl) (pe_imp (t' := tName) (pe_and (pe_callB call_isi (by rfl) T.b_isinstance boot_isinstance (pa_cons (pv 3) (pa_cons (pe_ty T.b_str boot_str) pa_nil))) (pe_and (pe_chain op_lt op_lt pe_int (pe_callB call_len_str (by rfl) T.b_len boot_len (pa_cons (pv 3) pa_nil)) pe_int) (pe_one (pe_cmpR (op_eqNil (hu1 hr)) (pe_lc (own := [("sign", 11)]) (g := gName 11) rfl sc_law.nd (pi_str (pv 3)) (blkOk_by (own := [("sign", 11)]) (N := N_law) (sc := defScope s_law) (by decide +kernel)) (fun _ _ _ _ _ => (pg_name (i := 11) sc_law.nd rfl (Or.inl rfl))) (fun _ _ _ _ _ => (pts_one (PW.pt (pw_and (pt_cmpR op_ne (pv 11) pe_str (nomark _)) (pw_and1 (pt_cmpR op_ne (pv 11) pe_str (nomark _))))))) (fun _ _ _ _ _ => (pv 11))) (pe_lst pa_nil) (nomark _))))) ?rName))
  (pss_cons (ps_set (i := 9) sc_law.nd rfl (Or.inl rfl) (pe_imp (t' := tPair) (pe_and (pe_callB call_isiT (by rfl) T.b_isinstance boot_isinstance (pa_cons (pv 3) (pa_cons (pe_tup (pa_cons (pe_ty T.b_list boot_list) (pa_cons (pe_ty T.b_tuple boot_tuple) pa_nil))) pa_nil))) (pe_and (pe_cmpR op_eq (pe_callB call_len_seq (by rfl) T.b_len boot_len (pa_cons (pv 3) pa_nil)) pe_int (nomark _)) (pe_one (pe_cmpR (op_eqNil (hu1 hr)) (pe_lc (own := [("each", 12)]) (g := gName 12) rfl sc_law.nd (pi_alt (pi_list (pv 3)) (pi_tup (pv 3))) (blkOk_by (own := [("each", 12)]) (N := N_law) (sc := defScope s_law) (by decide +kernel)) (fun _ _ _ _ _ => (pg_name (i := 12) sc_law.nd rfl (Or.inl rfl))) (fun _ _ _ _ _ => (pts_one (PW.pt (pw_or (pt_not (pt_val (pe_cal C__law_is_integer (hr.mono (by decide)) (pa_cons (pv 12) pa_nil)))) (pw_or (pt_cmpR op_lt (pv 12) pe_int (nomark _)) (pw_or1 (pt_cmpR op_gt (pv 12) (pe_op op_pow pe_int pe_int) (nomark _)))))))) (fun _ _ _ _ _ => (pv 12))) (pe_lst pa_nil) (nomark _))))) ?rPair))
  (pss_cons (ps_set (i := 10) sc_law.nd rfl (Or.inl rfl) (pe_lst (pa_cons (pe_cal C_is_integer (hr.mono (by decide)) (pa_cons (pv 3) pa_nil)) (pa_cons (pe_cal C_is_within (hr.mono (by decide)) (pa_cons (pv 3) (pa_cons (pv 4) (pa_cons (pv 5) pa_nil)))) (pa_cons (pe_cal C_is_name (hr.mono (by decide)) (pa_cons (pv 3) pa_nil)) (pa_cons (pe_cal C_is_pair (hr.mono (by decide)) (pa_cons (pv 3) pa_nil)) pa_nil))))))
  (pss_cons (ps_if (pt_cmpR op_ne (pe_callB (call_repr gd (hu64 hr)) (by rfl) T.b_repr boot_repr (pa_cons (pv 10) pa_nil)) (pe_callB (call_repr gd (hu64 hr)) (by rfl) T.b_repr boot_repr (pa_cons (pe_lst (pa_cons (pv 6) (pa_cons (pv 7) (pa_cons (pv 8) (pa_cons (pv 9) pa_nil))))) pa_nil)) (nomark _))
  (pss_one (ps_ret pe_bl))
  pss_nil)
  (pss_one (ps_if (pt_cmpR (op_neD (hu64 hr)) (pe_lst (pa_cons (pe_calK K_is_integer (hr.mono (by decide)) (pk_cons (pv 3) pk_nil)) (pa_cons (pe_calK K_is_within (hr.mono (by decide)) (pk_cons (pv 5) (pk_cons (pv 4) (pk_cons (pv 3) pk_nil)))) (pa_cons (pe_calK K_is_name (hr.mono (by decide)) (pk_cons (pv 3) pk_nil)) (pa_cons (pe_calK K_is_pair (hr.mono (by decide)) (pk_cons (pv 3) pk_nil)) pa_nil))))) (pv 10) (nomark _))
  (pss_one (ps_ret pe_bl))
  pss_nil)))))))))))
  (pss_one (ps_ret pe_bl)))), ?R⟩
    case rWithin =>
      rintro σ H Q ⟨v, lo, hi, e3, e4, e5, e6, hl, hh, q⟩
      refine ⟨_, e6, _, rfl, ?_⟩
      rcases isI_or (v := v) with ⟨i, rfl⟩ | e
      · refine iteT ?_
        have q' : Q (.bl (leB lo (.int i) && leB (.int i) hi)) H := q
        rcases hl with rfl | ⟨l, rfl⟩
        · refine ⟨_, e4, rfl, _, rfl, iteT ⟨_, rfl, ite_and q' fun _ q => ?_⟩⟩
          rcases hh with rfl | ⟨z, rfl⟩
          · exact ⟨_, e5, rfl, _, rfl, iteT q⟩
          · exact ⟨_, e5, rfl, _, rfl, iteF ⟨_, e3, _, e5, _, _, rfl, rfl, q⟩⟩
        · refine ⟨_, e4, rfl, _, rfl, iteF ⟨_, e3, _, e4, _, _, rfl, rfl, _, rfl, ite_and q' fun _ q => ?_⟩⟩
          rcases hh with rfl | ⟨z, rfl⟩
          · exact ⟨_, e5, rfl, _, rfl, iteT q⟩
          · exact ⟨_, e5, rfl, _, rfl, iteF ⟨_, e3, _, e5, _, _, rfl, rfl, q⟩⟩
      · rw [e]
        have : inB v lo hi = false := by simp [inB, e]
        rw [this] at q
        exact iteF q
    case rName =>
      rintro σ H Q ⟨v, el, e3, ha, q⟩
      refine ⟨_, e3, v, .ty "str", _, _, _, rfl, .ty _, ha.tyx, ha.kit (by decide), _, rfl, ?_⟩
      rcases isT_str ha with ⟨z, rfl, hz, e⟩ | ⟨e, e2⟩
      · rw [e]
        have zl : z.length ≤ sizeLine := Nat.le_trans hz (by decide)
        have q' : ∀ H', Same H H' → Q (.bl (decide (0 < (z.length : Int)) && (decide ((z.length : Int) < 61) && (z.cps.toList.filter badC).isEmpty))) H' := fun H' s' => by
          have := q H' s'
          rw [show nameB (.str z) = (decide ((1 : Int) ≤ z.length) && (decide ((z.length : Int) ≤ 60) && decide (Txt.stripChars z (Str.ofString "01") = Str.ofString ""))) from rfl, signs_all] at this
          rw [show decide (0 < (z.length : Int)) = decide ((1 : Int) ≤ z.length) from by congr 1, show decide ((z.length : Int) < 61) = decide ((z.length : Int) ≤ 60) from by
            rw [decide_eq_decide]; omega]
          exact this
        refine iteT ⟨_, e3, z, rfl, zl, _, _, rfl, rfl, _, rfl, ?_⟩
        cases e1 : decide (0 < (z.length : Int)) with
        | false =>
          rw [e1] at q'
          exact ⟨_, rfl, q' H (Same.refl H)⟩
        | true =>
          rw [e1] at q'
          refine iteT ⟨_, _, rfl, rfl, _, rfl, ?_⟩
          refine ite_and (q' H (Same.refl H)) fun e2 _ => ?_
          rw [e2] at q'
          refine ⟨_, e3, z, rfl, fun D hD => ?_⟩
          refine lc_str (fun i H' => Same H H' ∧ H' D = some (.lst (((z.cps.toList.take i).filter badC).map fun c => V.str ⟨#[c]⟩))) ⟨same_new hD, by rw [upd_same]; rfl⟩
            (fun i c H' hc ⟨sm, hl⟩ => ?_) (fun H' ⟨sm, hl⟩ => ?_)
          · have hc' : z.cps.toList[i]? = some c := by rw [Array.getElem?_toList]; exact hc
            have h11 : ((σ.set 11 none).set 11 (some (V.str ⟨#[c]⟩)))[11]? = some (some (V.str ⟨#[c]⟩)) := by
              rw [List.getElem?_set_self (by rw [List.length_set, el]; decide)]
            refine ⟨by show ((σ.set 11 none).set 11 _).set 11 none = σ.set 11 none; rw [List.set_set, List.set_set], ?_⟩
            refine ⟨_, h11, rfl, _, rfl, ?_⟩
            rw [sign0]
            cases h0 : decide (c = 48) with
            | true =>
              refine iteF (iteF ⟨sm, ?_⟩)
              rw [hl, take_filter_no _ hc' (by simp [badC, h0])]
            | false =>
              refine iteT ⟨_, h11, rfl, _, rfl, ?_⟩
              show if (!decide (V.str ⟨#[c]⟩ = V.str (Str.ofString "1"))) = true then _ else _
              rw [sign1]
              cases h1 : decide (c = 49) with
              | true =>
                refine iteF ⟨sm, ?_⟩
                rw [hl, take_filter_no _ hc' (by simp [badC, h1])]
              | false =>
                refine iteT ⟨_, h11, _, hl, ?_, same_mut sm hD, ?_⟩
                · refine Nat.lt_of_le_of_lt (m := 100000) ?_ (by decide)
                  rw [List.length_map]
                  refine Nat.le_trans (List.length_filter_le _ _) (Nat.le_trans (List.length_take_le _ _) ?_)
                  have : i < z.cps.size := by
                    rcases Nat.lt_or_ge i z.cps.size with h | h
                    · exact h
                    · rw [Array.getElem?_eq_none h] at hc; cases hc
                  exact Nat.le_trans (Nat.le_of_lt this) hz
                · rw [upd_same, take_filter_yes _ hc' (by simp [badC, h0, h1])]
          · have full : z.cps.toList.take z.cps.size = z.cps.toList := List.take_of_length_le (by simp)
            rw [full] at hl
            refine ⟨Nat.zero_le _, fun l hl2 => ?_⟩
            refine ⟨D, l, _, rfl, rfl, Eq.trans (upd_ne (ne_of_none hl hl2)) hl, upd_same, ?_⟩
            have := q' _ (sm.trans (same_new (o := .lst []) hl2))
            rw [List.isEmpty_map]
            exact this
      · rw [e]
        have := q H (Same.refl H)
        rw [show nameB v = false from e2 1 60] at this
        exact iteF this
    case rPair =>
      rintro σ H Q ⟨v, el, e3, h2, q⟩
      have ha := h2.an
      refine ⟨_, e3, by show 2 ≤ sizeLine; decide, fun tp htp => ?_⟩
      have sm : Same H (upd H tp (.tup [.ty "list", .ty "tuple"])) := same_new htp
      refine ⟨v, tp, _, _, [.type "list", .type "tuple"], isT "list" H v || isT "tuple" H v, rfl, upd_same, .cons (.ty _) (.cons (.ty _) .nil), (ha.mono sm).tyx, by rw [tn_mono sm ha]; exact kit2 ha, _, rfl, ?_⟩
      cases ha with
      | @lst a xs h =>
        have e : (isT "list" H (.ref a) || isT "tuple" H (.ref a)) = true := by simp [isT, tn, h]
        have e0 : rowB H (.ref a) 2 2 = decide (V.int (xs.length : Int) = V.int 2) := by
          have : rowB H (.ref a) 2 2 = (decide ((2 : Int) ≤ xs.length) && decide ((xs.length : Int) ≤ 2)) := by simp [rowB, h]
          rw [this, Bool.eq_iff_iff]
          simp only [Bool.and_eq_true, decide_eq_true_eq, V.int.injEq]
          omega
        have e2 : items H (.ref a) = xs := by simp [items, h]
        have q1 : ∀ H', Same H H' → Q (.bl (decide (V.int (xs.length : Int) = V.int 2) && xs.all partB)) H' := fun H' s' => by
          have := q H' s'
          unfold pairB at this
          rw [e2, e0] at this
          exact this
        rw [e]
        generalize upd H tp (.tup [.ty "list", .ty "tuple"]) = H1 at sm ⊢
        refine iteT ⟨_, e3, a, xs, rfl, .inl (SqL.of (sm _ _ h)), rfl, _, rfl, ?_⟩
        refine ite_and (q1 H1 sm) fun hb _ => ?_
        rw [hb] at q1
        have hlen : xs.length = 2 := by
          have := of_decide_eq_true hb
          injection this with this
          omega
        refine .inl ⟨_, e3, a, rfl, ⟨xs, SqL.of (sm _ _ h)⟩, fun D hD => ?_⟩
        refine lc_list (K := K) (a := a) (xs := xs) (fun i H' => Same H1 H' ∧ H' D = some (.lst (((xs.take i).filter fun x => !partB x).map id))) ⟨same_new hD, by rw [upd_same]; rfl⟩
          (fun i H' _ p => SqL.of (p.1 _ _ (sm _ _ h))) (fun i x H' hx ⟨s2, hl⟩ => ?_) (fun H' ⟨s2, hl⟩ => ?_)
        · have h12 : ((σ.set 12 none).set 12 (some x))[12]? = some (some x) := by
            rw [List.getElem?_set_self (by rw [List.length_set, el]; decide)]
          have keep : ∀ {te : TE}, partB x = false → (∀ R : VK, R x H' → te ((σ.set 12 none).set 12 (some x)) H' R) → te ((σ.set 12 none).set 12 (some x)) H' fun y H4 => ∃ acc, H4 D = some (.lst acc) ∧ acc.length < sizeLine ∧ Same H1 (upd H4 D (.lst (acc ++ [y]))) ∧ upd H4 D (.lst (acc ++ [y])) D = some (.lst (((xs.take (i + 1)).filter fun x => !partB x).map id)) := fun hb r => r _ ⟨_, hl, by
            refine Nat.lt_of_le_of_lt (m := 2) ?_ (by decide)
            rw [List.length_map]
            refine Nat.le_trans (List.length_filter_le _ _) ?_
            rw [List.length_take]
            omega, same_mut s2 hD, by rw [upd_same, take_filter_yes _ hx (by simp [hb])]; rfl⟩
          refine ⟨by show ((σ.set 12 none).set 12 _).set 12 none = σ.set 12 none; rw [List.set_set, List.set_set], ?_⟩
          have hax : An H' x := ((h2.it x (by rw [e2]; exact List.mem_of_getElem? hx)).mono sm).mono s2
          refine ⟨x, h12, x, rfl, hax, _, rfl, ?_⟩
          rcases isI_or (v := x) with ⟨z, rfl⟩ | ex
          · refine iteF ⟨_, h12, z, 1, rfl, rfl, _, rfl, ?_⟩
            have ep : partB (.int z) = (decide (1 ≤ z) && decide (z ≤ 1000000)) := rfl
            cases h1 : decide (z < 1) with
            | true =>
              have z1 : z < 1 := of_decide_eq_true h1
              refine iteT (iteT ?_)
              refine keep (te := tVar 12) ?_ fun R r => ⟨_, h12, r⟩
              rw [ep, decide_eq_false (by omega)]
              rfl
            | false =>
              have z1 : ¬ z < 1 := of_decide_eq_false h1
              refine iteF ⟨_, h12, 10, 6, rfl, rfl, cpow_of (by decide) (by decide) (by decide) (by decide), z, _, rfl, rfl, _, rfl, ?_⟩
              cases h3 : decide ((10 : Int) ^ (6 : Int).toNat < z) with
              | true =>
                have z2 : (10 : Int) ^ (6 : Int).toNat < z := of_decide_eq_true h3
                rw [show (10 : Int) ^ (6 : Int).toNat = 1000000 from by decide] at z2
                refine iteT ?_
                refine keep (te := tVar 12) ?_ fun R r => ⟨_, h12, r⟩
                rw [ep, decide_eq_false (p := z ≤ 1000000) (by omega), Bool.and_false]
              | false =>
                have z2 : ¬ (10 : Int) ^ (6 : Int).toNat < z := of_decide_eq_false h3
                rw [show (10 : Int) ^ (6 : Int).toNat = 1000000 from by decide] at z2
                refine iteF ⟨s2, ?_⟩
                rw [hl, take_filter_no _ hx (by rw [ep, decide_eq_true (by omega), decide_eq_true (by omega)]; rfl)]
          · have e4 : (!isI x) = true := by rw [ex]; rfl
            rw [e4]
            refine iteT (iteT ?_)
            refine keep (te := tVar 12) ?_ fun R r => ⟨_, h12, r⟩
            simp [partB, inB, ex]
        · rw [List.take_length, List.map_id] at hl
          refine ⟨Nat.zero_le _, fun l hl2 => ?_⟩
          refine ⟨D, l, _, rfl, rfl, Eq.trans (upd_ne (ne_of_none hl hl2)) hl, upd_same, ?_⟩
          have := q1 _ ((sm.trans s2).trans (same_new (o := .lst []) hl2))
          rw [Bool.true_and] at this
          rw [filter_not_empty]
          exact this
      | @tup a xs h =>
        have e : (isT "list" H (.ref a) || isT "tuple" H (.ref a)) = true := by simp [isT, tn, h]
        have e0 : rowB H (.ref a) 2 2 = decide (V.int (xs.length : Int) = V.int 2) := by
          have : rowB H (.ref a) 2 2 = (decide ((2 : Int) ≤ xs.length) && decide ((xs.length : Int) ≤ 2)) := by simp [rowB, h]
          rw [this, Bool.eq_iff_iff]
          simp only [Bool.and_eq_true, decide_eq_true_eq, V.int.injEq]
          omega
        have e2 : items H (.ref a) = xs := by simp [items, h]
        have q1 : ∀ H', Same H H' → Q (.bl (decide (V.int (xs.length : Int) = V.int 2) && xs.all partB)) H' := fun H' s' => by
          have := q H' s'
          unfold pairB at this
          rw [e2, e0] at this
          exact this
        rw [e]
        generalize upd H tp (.tup [.ty "list", .ty "tuple"]) = H1 at sm ⊢
        refine iteT ⟨_, e3, a, xs, rfl, .inr (SqT.of (sm _ _ h)), rfl, _, rfl, ?_⟩
        refine ite_and (q1 H1 sm) fun hb _ => ?_
        rw [hb] at q1
        have hlen : xs.length = 2 := by
          have := of_decide_eq_true hb
          injection this with this
          omega
        refine .inr ⟨_, e3, a, rfl, ⟨xs, SqT.of (sm _ _ h)⟩, fun D hD => ?_⟩
        refine lc_tup (K := K) (a := a) (xs := xs) (fun i H' => Same H1 H' ∧ H' D = some (.lst (((xs.take i).filter fun x => !partB x).map id))) ⟨same_new hD, by rw [upd_same]; rfl⟩
          (fun i H' _ p => SqT.of (p.1 _ _ (sm _ _ h))) (fun i x H' hx ⟨s2, hl⟩ => ?_) (fun H' ⟨s2, hl⟩ => ?_)
        · have h12 : ((σ.set 12 none).set 12 (some x))[12]? = some (some x) := by
            rw [List.getElem?_set_self (by rw [List.length_set, el]; decide)]
          have keep : ∀ {te : TE}, partB x = false → (∀ R : VK, R x H' → te ((σ.set 12 none).set 12 (some x)) H' R) → te ((σ.set 12 none).set 12 (some x)) H' fun y H4 => ∃ acc, H4 D = some (.lst acc) ∧ acc.length < sizeLine ∧ Same H1 (upd H4 D (.lst (acc ++ [y]))) ∧ upd H4 D (.lst (acc ++ [y])) D = some (.lst (((xs.take (i + 1)).filter fun x => !partB x).map id)) := fun hb r => r _ ⟨_, hl, by
            refine Nat.lt_of_le_of_lt (m := 2) ?_ (by decide)
            rw [List.length_map]
            refine Nat.le_trans (List.length_filter_le _ _) ?_
            rw [List.length_take]
            omega, same_mut s2 hD, by rw [upd_same, take_filter_yes _ hx (by simp [hb])]; rfl⟩
          refine ⟨by show ((σ.set 12 none).set 12 _).set 12 none = σ.set 12 none; rw [List.set_set, List.set_set], ?_⟩
          have hax : An H' x := ((h2.it x (by rw [e2]; exact List.mem_of_getElem? hx)).mono sm).mono s2
          refine ⟨x, h12, x, rfl, hax, _, rfl, ?_⟩
          rcases isI_or (v := x) with ⟨z, rfl⟩ | ex
          · refine iteF ⟨_, h12, z, 1, rfl, rfl, _, rfl, ?_⟩
            have ep : partB (.int z) = (decide (1 ≤ z) && decide (z ≤ 1000000)) := rfl
            cases h1 : decide (z < 1) with
            | true =>
              have z1 : z < 1 := of_decide_eq_true h1
              refine iteT (iteT ?_)
              refine keep (te := tVar 12) ?_ fun R r => ⟨_, h12, r⟩
              rw [ep, decide_eq_false (by omega)]
              rfl
            | false =>
              have z1 : ¬ z < 1 := of_decide_eq_false h1
              refine iteF ⟨_, h12, 10, 6, rfl, rfl, cpow_of (by decide) (by decide) (by decide) (by decide), z, _, rfl, rfl, _, rfl, ?_⟩
              cases h3 : decide ((10 : Int) ^ (6 : Int).toNat < z) with
              | true =>
                have z2 : (10 : Int) ^ (6 : Int).toNat < z := of_decide_eq_true h3
                rw [show (10 : Int) ^ (6 : Int).toNat = 1000000 from by decide] at z2
                refine iteT ?_
                refine keep (te := tVar 12) ?_ fun R r => ⟨_, h12, r⟩
                rw [ep, decide_eq_false (p := z ≤ 1000000) (by omega), Bool.and_false]
              | false =>
                have z2 : ¬ (10 : Int) ^ (6 : Int).toNat < z := of_decide_eq_false h3
                rw [show (10 : Int) ^ (6 : Int).toNat = 1000000 from by decide] at z2
                refine iteF ⟨s2, ?_⟩
                rw [hl, take_filter_no _ hx (by rw [ep, decide_eq_true (by omega), decide_eq_true (by omega)]; rfl)]
          · have e4 : (!isI x) = true := by rw [ex]; rfl
            rw [e4]
            refine iteT (iteT ?_)
            refine keep (te := tVar 12) ?_ fun R r => ⟨_, h12, r⟩
            simp [partB, inB, ex]
        · rw [List.take_length, List.map_id] at hl
          refine ⟨Nat.zero_le _, fun l hl2 => ?_⟩
          refine ⟨D, l, _, rfl, rfl, Eq.trans (upd_ne (ne_of_none hl hl2)) hl, upd_same, ?_⟩
          have := q1 _ ((sm.trans s2).trans (same_new (o := .lst []) hl2))
          rw [Bool.true_and] at this
          rw [filter_not_empty]
          exact this
      | @dK a kvs h =>
        have e : (isT "list" H (.ref a) || isT "tuple" H (.ref a)) = false := by simp [isT, tn, h]
        have e1 : rowB H (.ref a) 2 2 = false := by simp [rowB, h]
        rw [e]
        have := q _ sm
        unfold pairB at this
        rw [e1] at this
        exact iteF this
      | non => exact iteF (q _ sm)
      | bl b => exact iteF (q _ sm)
      | int b => exact iteF (q _ sm)
      | str b => exact iteF (q _ sm)
    case R =>
      refine seq_set ?_
      refine ⟨_, rfl, a, ns, rfl, hS, fun p q cs H1 fr s1 hc sv => ?_⟩
      refine ⟨8, rfl, by decide, by decide, for_range (n := 8) (lo := 0) (fun i σ H' => ∃ v2 v3 v4 v5 v6 v7 v8 v9 va vb vc : Option V, σ = [some (.ref a), some (.ref p), v2, v3, v4, v5, v6, v7, v8, v9, va, vb, vc] ∧ Sv p q cs (20 * i) H')
        ⟨_, _, _, _, _, _, _, _, _, _, _, rfl, sv⟩ ?_ ?_⟩
      · rintro i σ H2 hi ⟨v2, v3, v4, v5, v6, v7, v8, v9, va, vb, vc, rfl, sv2⟩
        refine seq_set ?_
        refine ⟨_, rfl, p, q, cs, 20 * i, rfl, by omega, by omega, sv2, fun v H3 av b3 sv3 => ?_⟩
        have sB : Stb p (fun (_ : Hp) v => Bd v) := fun _ _ _ _ h => h
        refine dr_par (p := p) (q := q) (cs := cs) (n := 20 * i + 10) (m := 20 * i + 12) (R := fun _ v => Bd v) ?D sv3 ?K
        case D =>
          refine DrA.cons sB (dr_one (j := 1) (k := 5) (n := 20 * i + 10) (m := 20 * i + 10) rfl (dr_lstR ?l1 sB (by decide)) sB (by decide) (by decide) (by omega) (by omega)) ?_
          case l1 =>
            refine DrA.cons sB (dr_c fun _ _ => .inl rfl) ?_
            refine DrA.cons sB (dr_c fun _ _ => .inr ⟨_, rfl⟩) ?_
            refine DrA.cons sB (dr_c fun _ _ => .inr ⟨_, rfl⟩) ?_
            refine DrA.cons sB (dr_neg.imp fun _ _ e => .inr ⟨_, e⟩) ?_
            exact DrA.cons sB ((dr_pow (cpow_of (by decide) (by decide) (by decide) (by decide))).imp fun _ _ e => .inr ⟨_, e⟩) DrA.nil
          refine DrA.cons sB (dr_one (j := 1) (k := 5) (n := 20 * i + 11) (m := 20 * i + 11) rfl (dr_lstR ?l2 sB (by decide)) sB (by decide) (by decide) (by omega) (by omega)) DrA.nil
          case l2 =>
            refine DrA.cons sB (dr_c fun _ _ => .inl rfl) ?_
            refine DrA.cons sB (dr_c fun _ _ => .inr ⟨_, rfl⟩) ?_
            refine DrA.cons sB (dr_c fun _ _ => .inr ⟨_, rfl⟩) ?_
            refine DrA.cons sB ((dr_pow (cpow_of (by decide) (by decide) (by decide) (by decide))).imp fun _ _ e => .inr ⟨_, e⟩) ?_
            exact DrA.cons sB ((dr_pow (cpow_of (by decide) (by decide) (by decide) (by decide))).imp fun _ _ e => .inr ⟨_, e⟩) DrA.nil
        case K =>
          intro lo hi_ H4 b4 sv4 hlo hhi
          have a2 : An2 H4 v := (Ap2.stb _ _ _ b4 av).an
          have a1 := a2.an
          refine seq_set ?_
          refine ⟨v, rfl, v, rfl, a1, ?_⟩
          refine seq_set ?_
          refine ⟨v, lo, hi_, rfl, rfl, rfl, rfl, hlo, hhi, ?_⟩
          refine seq_set ?_
          refine ⟨v, rfl, rfl, a1, fun H5 s5 => ?_⟩
          refine seq_set ?_
          refine ⟨v, rfl, rfl, a2.mono s5, fun H6 s6 => ?_⟩
          have e6 : pairB H5 v = pairB H4 v := pairB_mono s5 a1
          have s46 := s5.trans s6
          have a16 := a1.mono s46
          have a26 := a2.mono s46
          rw [e6]
          refine seq_set ?_
          refine ⟨v, rfl, v, rfl, a16, v, rfl, lo, rfl, hi_, rfl, v, lo, hi_, rfl, a16, hlo, hhi, v, rfl, v, rfl, a16, v, rfl, v, rfl, a26, fun H7 s7 => ⟨by show 4 ≤ sizeLine; decide, fun d hd => ?_⟩⟩
          have e7 : pairB H6 v = pairB H4 v := pairB_mono s46 a1
          rw [e7]
          generalize eH8 : upd H7 d _ = H8
          have d8 : H8 d = some (.lst [.bl (isI v), .bl (inB v lo hi_), .bl (nameB v), .bl (pairB H4 v)]) := by rw [← eH8]; exact upd_same
          have s8 : Same H7 H8 := by rw [← eH8]; exact same_new hd
          have s48 : Same H4 H8 := (s46.trans s7).trans s8
          obtain ⟨w1, w2, w3, w4, w5, w6⟩ := d4_show (isI v) (inB v lo hi_) (nameB v) (pairB H4 v)
          refine ⟨_, rfl, _, _, rfl, d4_dp d8, w1, w2, w3, w4, _, rfl, _, rfl, _, rfl, _, rfl, by show 4 ≤ sizeLine; decide, fun e he => ?_⟩
          refine ⟨_, _, rfl, d4_dp upd_same, w1, w2, w3, w4, rfl, _, rfl, ?_⟩
          rw [decide_eq_true rfl]
          refine iteF ?_
          have s9 : Same H4 (upd H8 e (.lst [.bl (isI v), .bl (inB v lo hi_), .bl (nameB v), .bl (pairB H4 v)])) := s48.trans (same_new he)
          have d9 : (upd H8 e (.lst [.bl (isI v), .bl (inB v lo hi_), .bl (nameB v), .bl (pairB H4 v)])) d = _ := Eq.trans (upd_ne (ne_of_none d8 he)) d8
          generalize upd H8 e (.lst [.bl (isI v), .bl (inB v lo hi_), .bl (nameB v), .bl (pairB H4 v)]) = H9 at s9 d9 ⊢
          have a19 := a1.mono s9
          have a29 := a2.mono s9
          refine ⟨_, rfl, rfl, v, rfl, a19, _, rfl, _, rfl, _, rfl, rfl, v, lo, hi_, rfl, a19, hlo, hhi, _, rfl, rfl, v, rfl, a19, _, rfl, rfl, v, rfl, a29, fun H10 s10 => ⟨by show 4 ≤ sizeLine; decide, fun g hg => ?_⟩⟩
          have e10 : pairB H9 v = pairB H4 v := pairB_mono s9 a1
          rw [e10]
          refine ⟨_, rfl, _, _, d4_dp upd_same, d4_dp (Eq.trans (upd_ne (ne_of_none (s10 _ _ d9) hg)) (s10 _ _ d9)), w5, w5, _, rfl, ?_⟩
          rw [w6]
          refine iteF ?_
          exact ⟨_, _, _, _, _, _, _, _, _, _, _, rfl, (sv4.same (s9.trans (s10.trans (same_new hg)))).mono (by omega)⟩
      · rintro σ H' ⟨v2, v3, v4, v5, v6, v7, v8, v9, va, vb, vc, rfl, sv2⟩
        exact k H'
end
end K02
set_option Elab.async false
set_option linter.all false
set_option maxRecDepth 100000
set_option maxHeartbeats 4000000
namespace K02
open PySem PySem.Spec PyProof.Rows L2 Own
theorem all_mk {l : PySem.W.OpenLaw} {w : World} {K : PySem.W.Frag} {h : Heap} {mg : Str → Option Value} {fa : Addr} (X : K.In h) (G : h.Ns mainGlobals mg) (hfa : mg "law" = some (.ref fa))
    {od_is_integer an_is_integer : Option Addr} {sl_is_integer : Array (Option Value)} {oc_is_integer kV_is_integer dc_is_integer pm_is_integer cd_is_integer ct_is_integer : Value} {f_is_integer : Addr}
    (a_is_integer : PySem.W.nsIn K mainGlobals "is_integer" = some (some (.ref f_is_integer))) (l_is_integer : K.lookup f_is_integer = some ⟨oc_is_integer, od_is_integer, .func (PySem.W.fnOf "is_integer" "is_integer" (defArgs s_is_integer) (defBody s_is_integer) (defScope s_is_integer) .none kV_is_integer dc_is_integer pm_is_integer an_is_integer cd_is_integer ct_is_integer), sl_is_integer⟩) (c_is_integer : PySem.W.codeIn K cd_is_integer "is_integer" = true) (k_is_integer : PySem.W.keepIn K (.ref f_is_integer) = true)
    {od_is_within an_is_within : Option Addr} {sl_is_within : Array (Option Value)} {oc_is_within kV_is_within dc_is_within pm_is_within cd_is_within ct_is_within : Value} {f_is_within : Addr}
    (a_is_within : PySem.W.nsIn K mainGlobals "is_within" = some (some (.ref f_is_within))) (l_is_within : K.lookup f_is_within = some ⟨oc_is_within, od_is_within, .func (PySem.W.fnOf "is_within" "is_within" (defArgs s_is_within) (defBody s_is_within) (defScope s_is_within) .none kV_is_within dc_is_within pm_is_within an_is_within cd_is_within ct_is_within), sl_is_within⟩) (c_is_within : PySem.W.codeIn K cd_is_within "is_within" = true) (k_is_within : PySem.W.keepIn K (.ref f_is_within) = true)
    {od_is_row an_is_row : Option Addr} {sl_is_row : Array (Option Value)} {oc_is_row kV_is_row dc_is_row pm_is_row cd_is_row ct_is_row : Value} {f_is_row : Addr}
    (a_is_row : PySem.W.nsIn K mainGlobals "is_row" = some (some (.ref f_is_row))) (l_is_row : K.lookup f_is_row = some ⟨oc_is_row, od_is_row, .func (PySem.W.fnOf "is_row" "is_row" (defArgs s_is_row) (defBody s_is_row) (defScope s_is_row) .none kV_is_row dc_is_row pm_is_row an_is_row cd_is_row ct_is_row), sl_is_row⟩) (c_is_row : PySem.W.codeIn K cd_is_row "is_row" = true) (k_is_row : PySem.W.keepIn K (.ref f_is_row) = true)
    {od_is_signs an_is_signs : Option Addr} {sl_is_signs : Array (Option Value)} {oc_is_signs kV_is_signs dc_is_signs pm_is_signs cd_is_signs ct_is_signs : Value} {f_is_signs : Addr}
    (a_is_signs : PySem.W.nsIn K mainGlobals "is_signs" = some (some (.ref f_is_signs))) (l_is_signs : K.lookup f_is_signs = some ⟨oc_is_signs, od_is_signs, .func (PySem.W.fnOf "is_signs" "is_signs" (defArgs s_is_signs) (defBody s_is_signs) (defScope s_is_signs) .none kV_is_signs dc_is_signs pm_is_signs an_is_signs cd_is_signs ct_is_signs), sl_is_signs⟩) (c_is_signs : PySem.W.codeIn K cd_is_signs "is_signs" = true) (k_is_signs : PySem.W.keepIn K (.ref f_is_signs) = true)
    {od_is_name an_is_name : Option Addr} {sl_is_name : Array (Option Value)} {oc_is_name kV_is_name dc_is_name pm_is_name cd_is_name ct_is_name : Value} {f_is_name : Addr}
    (a_is_name : PySem.W.nsIn K mainGlobals "is_name" = some (some (.ref f_is_name))) (l_is_name : K.lookup f_is_name = some ⟨oc_is_name, od_is_name, .func (PySem.W.fnOf "is_name" "is_name" (defArgs s_is_name) (defBody s_is_name) (defScope s_is_name) .none kV_is_name dc_is_name pm_is_name an_is_name cd_is_name ct_is_name), sl_is_name⟩) (c_is_name : PySem.W.codeIn K cd_is_name "is_name" = true) (k_is_name : PySem.W.keepIn K (.ref f_is_name) = true)
    {od_is_pair an_is_pair : Option Addr} {sl_is_pair : Array (Option Value)} {oc_is_pair kV_is_pair dc_is_pair pm_is_pair cd_is_pair ct_is_pair : Value} {f_is_pair : Addr}
    (a_is_pair : PySem.W.nsIn K mainGlobals "is_pair" = some (some (.ref f_is_pair))) (l_is_pair : K.lookup f_is_pair = some ⟨oc_is_pair, od_is_pair, .func (PySem.W.fnOf "is_pair" "is_pair" (defArgs s_is_pair) (defBody s_is_pair) (defScope s_is_pair) .none kV_is_pair dc_is_pair pm_is_pair an_is_pair cd_is_pair ct_is_pair), sl_is_pair⟩) (c_is_pair : PySem.W.codeIn K cd_is_pair "is_pair" = true) (k_is_pair : PySem.W.keepIn K (.ref f_is_pair) = true)
    {od__law_sieve an__law_sieve : Option Addr} {sl__law_sieve : Array (Option Value)} {oc__law_sieve kV__law_sieve dc__law_sieve pm__law_sieve cd__law_sieve ct__law_sieve : Value} {f__law_sieve : Addr}
    (a__law_sieve : PySem.W.nsIn K mainGlobals "_law_sieve" = some (some (.ref f__law_sieve))) (l__law_sieve : K.lookup f__law_sieve = some ⟨oc__law_sieve, od__law_sieve, .func (PySem.W.fnOf "_law_sieve" "_law_sieve" (defArgs s__law_sieve) (defBody s__law_sieve) (defScope s__law_sieve) .none kV__law_sieve dc__law_sieve pm__law_sieve an__law_sieve cd__law_sieve ct__law_sieve), sl__law_sieve⟩) (c__law_sieve : PySem.W.codeIn K cd__law_sieve "_law_sieve" = true) (k__law_sieve : PySem.W.keepIn K (.ref f__law_sieve) = true)
    {od__law_sift an__law_sift : Option Addr} {sl__law_sift : Array (Option Value)} {oc__law_sift kV__law_sift dc__law_sift pm__law_sift cd__law_sift ct__law_sift : Value} {f__law_sift : Addr}
    (a__law_sift : PySem.W.nsIn K mainGlobals "_law_sift" = some (some (.ref f__law_sift))) (l__law_sift : K.lookup f__law_sift = some ⟨oc__law_sift, od__law_sift, .func (PySem.W.fnOf "_law_sift" "_law_sift" (defArgs s__law_sift) (defBody s__law_sift) (defScope s__law_sift) .none kV__law_sift dc__law_sift pm__law_sift an__law_sift cd__law_sift ct__law_sift), sl__law_sift⟩) (c__law_sift : PySem.W.codeIn K cd__law_sift "_law_sift" = true) (k__law_sift : PySem.W.keepIn K (.ref f__law_sift) = true)
    {od__law_one an__law_one : Option Addr} {sl__law_one : Array (Option Value)} {oc__law_one kV__law_one dc__law_one pm__law_one cd__law_one ct__law_one : Value} {f__law_one : Addr}
    (a__law_one : PySem.W.nsIn K mainGlobals "_law_one" = some (some (.ref f__law_one))) (l__law_one : K.lookup f__law_one = some ⟨oc__law_one, od__law_one, .func (PySem.W.fnOf "_law_one" "_law_one" (defArgs s__law_one) (defBody s__law_one) (defScope s__law_one) .none kV__law_one dc__law_one pm__law_one an__law_one cd__law_one ct__law_one), sl__law_one⟩) (c__law_one : PySem.W.codeIn K cd__law_one "_law_one" = true) (k__law_one : PySem.W.keepIn K (.ref f__law_one) = true)
    {od__law_any an__law_any : Option Addr} {sl__law_any : Array (Option Value)} {oc__law_any kV__law_any dc__law_any pm__law_any cd__law_any ct__law_any : Value} {f__law_any : Addr}
    (a__law_any : PySem.W.nsIn K mainGlobals "_law_any" = some (some (.ref f__law_any))) (l__law_any : K.lookup f__law_any = some ⟨oc__law_any, od__law_any, .func (PySem.W.fnOf "_law_any" "_law_any" (defArgs s__law_any) (defBody s__law_any) (defScope s__law_any) .none kV__law_any dc__law_any pm__law_any an__law_any cd__law_any ct__law_any), sl__law_any⟩) (c__law_any : PySem.W.codeIn K cd__law_any "_law_any" = true) (k__law_any : PySem.W.keepIn K (.ref f__law_any) = true)
    {od__law_is_integer an__law_is_integer : Option Addr} {sl__law_is_integer : Array (Option Value)} {oc__law_is_integer kV__law_is_integer dc__law_is_integer pm__law_is_integer cd__law_is_integer ct__law_is_integer : Value} {f__law_is_integer : Addr}
    (a__law_is_integer : PySem.W.nsIn K mainGlobals "_law_is_integer" = some (some (.ref f__law_is_integer))) (l__law_is_integer : K.lookup f__law_is_integer = some ⟨oc__law_is_integer, od__law_is_integer, .func (PySem.W.fnOf "_law_is_integer" "_law_is_integer" (defArgs s__law_is_integer) (defBody s__law_is_integer) (defScope s__law_is_integer) .none kV__law_is_integer dc__law_is_integer pm__law_is_integer an__law_is_integer cd__law_is_integer ct__law_is_integer), sl__law_is_integer⟩) (c__law_is_integer : PySem.W.codeIn K cd__law_is_integer "_law_is_integer" = true) (k__law_is_integer : PySem.W.keepIn K (.ref f__law_is_integer) = true)
    {od_law an_law : Option Addr} {sl_law : Array (Option Value)} {oc_law kV_law dc_law pm_law cd_law ct_law : Value} {f_law : Addr}
    (a_law : PySem.W.nsIn K mainGlobals "law" = some (some (.ref f_law))) (l_law : K.lookup f_law = some ⟨oc_law, od_law, .func (PySem.W.fnOf "law" "law" (defArgs s_law) (defBody s_law) (defScope s_law) .none kV_law dc_law pm_law an_law cd_law ct_law), sl_law⟩) (c_law : PySem.W.codeIn K cd_law "law" = true) (k_law : PySem.W.keepIn K (.ref f_law) = true)
    (z_isinstance : PySem.W.nsIn K mainGlobals "isinstance" = some none)
    (z_int : PySem.W.nsIn K mainGlobals "int" = some none)
    (z_bool : PySem.W.nsIn K mainGlobals "bool" = some none)
    (z_list : PySem.W.nsIn K mainGlobals "list" = some none)
    (z_tuple : PySem.W.nsIn K mainGlobals "tuple" = some none)
    (z_len : PySem.W.nsIn K mainGlobals "len" = some none)
    (z_str : PySem.W.nsIn K mainGlobals "str" = some none)
    (z_all : PySem.W.nsIn K mainGlobals "all" = some none)
    (z_abs : PySem.W.nsIn K mainGlobals "abs" = some none)
    (z_range : PySem.W.nsIn K mainGlobals "range" = some none)
    (z_repr : PySem.W.nsIn K mainGlobals "repr" = some none)
    {t_MOST_SIGNS : Tok} (g_MOST_SIGNS : PySem.W.nsIn K mainGlobals "MOST_SIGNS" = some (some (.int 60 t_MOST_SIGNS)))
    {t_MOST_PART : Tok} (g_MOST_PART : PySem.W.nsIn K mainGlobals "MOST_PART" = some (some (.int 1000000 t_MOST_PART)))
    : ∃ fd : FuncData, (∀ (s : Shared) (v : Value), BindsTo s fd ⟨[v], []⟩ [("script", v)]) ∧ ∀ base : Heap, K.In base → base.Ns mainGlobals mg → FnG l.prog w K mg base CX0 4 fa fd ["script"] (spLaw K) := by
  have e := hfa.symm.trans (PySem.W.mg_of X G a_law)
  cases e
  have T : Txt mg := ⟨PySem.W.mg_none_of X G z_isinstance, PySem.W.mg_none_of X G z_int, PySem.W.mg_none_of X G z_bool, PySem.W.mg_none_of X G z_list, PySem.W.mg_none_of X G z_tuple, PySem.W.mg_none_of X G z_len, PySem.W.mg_none_of X G z_str, PySem.W.mg_none_of X G z_all, PySem.W.mg_none_of X G z_abs, PySem.W.mg_none_of X G z_range, PySem.W.mg_none_of X G z_repr, ⟨_, PySem.W.mg_of X G g_MOST_SIGNS⟩, ⟨_, PySem.W.mg_of X G g_MOST_PART⟩⟩
  have F_is_integer := fun_mk (st := s_is_integer) l_is_integer c_is_integer k_is_integer
  have b_is_integer := F_is_integer.binds (ps := ["value"]) fun _ _ _ _ _ _ us hl => match us, hl with | [_], _ => rfl
  have m_is_integer := PySem.W.mg_of X G a_is_integer
  have F_is_within := fun_mk (st := s_is_within) l_is_within c_is_within k_is_within
  have b_is_within := F_is_within.binds (ps := ["value", "least", "most"]) fun _ _ _ _ _ _ us hl => match us, hl with | [_, _, _], _ => rfl
  have m_is_within := PySem.W.mg_of X G a_is_within
  have F_is_row := fun_mk (st := s_is_row) l_is_row c_is_row k_is_row
  have b_is_row := F_is_row.binds (ps := ["value", "least", "most"]) fun _ _ _ _ _ _ us hl => match us, hl with | [_, _, _], _ => rfl
  have m_is_row := PySem.W.mg_of X G a_is_row
  have F_is_signs := fun_mk (st := s_is_signs) l_is_signs c_is_signs k_is_signs
  have b_is_signs := F_is_signs.binds (ps := ["value", "least", "most"]) fun _ _ _ _ _ _ us hl => match us, hl with | [_, _, _], _ => rfl
  have m_is_signs := PySem.W.mg_of X G a_is_signs
  have F_is_name := fun_mk (st := s_is_name) l_is_name c_is_name k_is_name
  have b_is_name := F_is_name.binds (ps := ["value"]) fun _ _ _ _ _ _ us hl => match us, hl with | [_], _ => rfl
  have m_is_name := PySem.W.mg_of X G a_is_name
  have F_is_pair := fun_mk (st := s_is_pair) l_is_pair c_is_pair k_is_pair
  have b_is_pair := F_is_pair.binds (ps := ["value"]) fun _ _ _ _ _ _ us hl => match us, hl with | [_], _ => rfl
  have m_is_pair := PySem.W.mg_of X G a_is_pair
  have F__law_sieve := fun_mk (st := s__law_sieve) l__law_sieve c__law_sieve k__law_sieve
  have b__law_sieve := F__law_sieve.binds (ps := ["script"]) fun _ _ _ _ _ _ us hl => match us, hl with | [_], _ => rfl
  have m__law_sieve := PySem.W.mg_of X G a__law_sieve
  have F__law_sift := fun_mk (st := s__law_sift) l__law_sift c__law_sift k__law_sift
  have b__law_sift := F__law_sift.binds (ps := ["sieve", "many"]) fun _ _ _ _ _ _ us hl => match us, hl with | [_, _], _ => rfl
  have m__law_sift := PySem.W.mg_of X G a__law_sift
  have F__law_one := fun_mk (st := s__law_one) l__law_one c__law_one k__law_one
  have b__law_one := F__law_one.binds (ps := ["sieve", "some"]) fun _ _ _ _ _ _ us hl => match us, hl with | [_, _], _ => rfl
  have m__law_one := PySem.W.mg_of X G a__law_one
  have F__law_any := fun_mk (st := s__law_any) l__law_any c__law_any k__law_any
  have b__law_any := F__law_any.binds (ps := ["sieve"]) fun _ _ _ _ _ _ us hl => match us, hl with | [_], _ => rfl
  have m__law_any := PySem.W.mg_of X G a__law_any
  have F__law_is_integer := fun_mk (st := s__law_is_integer) l__law_is_integer c__law_is_integer k__law_is_integer
  have b__law_is_integer := F__law_is_integer.binds (ps := ["value"]) fun _ _ _ _ _ _ us hl => match us, hl with | [_], _ => rfl
  have m__law_is_integer := PySem.W.mg_of X G a__law_is_integer
  have F_law := fun_mk (st := s_law) l_law c_law k_law
  refine ⟨PySem.W.fnOf "law" "law" (defArgs s_law) (defBody s_law) (defScope s_law) .none kV_law dc_law pm_law an_law cd_law ct_law, fun s v => .of_eq rfl, fun base _ _ => ?_⟩
  have C_is_integer : Cal l.prog w K mg base 1 "is_integer" ["value"] spIsInt := ⟨_, _, ok_is_integer F_is_integer T, m_is_integer, k_is_integer, b_is_integer⟩
  have C_is_within : Cal l.prog w K mg base 2 "is_within" ["value", "least", "most"] spWithin := ⟨_, _, ok_is_within F_is_within T C_is_integer, m_is_within, k_is_within, b_is_within⟩
  have C_is_row : Cal l.prog w K mg base 1 "is_row" ["value", "least", "most"] spRow := ⟨_, _, ok_is_row F_is_row T, m_is_row, k_is_row, b_is_row⟩
  have C_is_signs : Cal l.prog w K mg base 1 "is_signs" ["value", "least", "most"] spSig := ⟨_, _, ok_is_signs F_is_signs T, m_is_signs, k_is_signs, b_is_signs⟩
  have G_is_name := ok_is_name (P := l.prog) (w := w) (base := base) F_is_name T C_is_signs
  have G_is_pair := ok_is_pair (P := l.prog) (w := w) (base := base) F_is_pair T C_is_row C_is_within
  have C_is_name : Cal l.prog w K mg base 2 "is_name" ["value"] (spAny1 fun _ v => nameB v) := ⟨_, _, G_is_name, m_is_name, k_is_name, b_is_name⟩
  have C_is_pair : Cal l.prog w K mg base 3 "is_pair" ["value"] spPair := ⟨_, _, G_is_pair, m_is_pair, k_is_pair, b_is_pair⟩
  have K_is_integer : CalK l.prog w K mg base 1 "is_integer" ["value"] ["value"] (fun l => l) spIsInt := ⟨_, _, _, ok_is_integer F_is_integer T, m_is_integer, k_is_integer, Fun.kb F_is_integer (fun l => l) (fun r => r) fun _ _ _ _ _ _ ws hl => match ws, hl with | [_], _ => rfl⟩
  have K_is_within : CalK l.prog w K mg base 2 "is_within" ["value", "least", "most"] ["most", "least", "value"] List.reverse spWithin := ⟨_, _, _, ok_is_within F_is_within T C_is_integer, m_is_within, k_is_within, Fun.kb F_is_within (fun l => l.reverse) vals_rev fun _ _ _ _ _ _ ws hl => match ws, hl with | [_, _, _], _ => rfl⟩
  have K_is_name : CalK l.prog w K mg base 2 "is_name" ["value"] ["value"] (fun l => l) (spAny1 fun _ v => nameB v) := ⟨_, _, _, G_is_name, m_is_name, k_is_name, Fun.kb F_is_name (fun l => l) (fun r => r) fun _ _ _ _ _ _ ws hl => match ws, hl with | [_], _ => rfl⟩
  have K_is_pair : CalK l.prog w K mg base 3 "is_pair" ["value"] ["value"] (fun l => l) spPair := ⟨_, _, _, G_is_pair, m_is_pair, k_is_pair, Fun.kb F_is_pair (fun l => l) (fun r => r) fun _ _ _ _ _ _ ws hl => match ws, hl with | [_], _ => rfl⟩
  have C_sift : Cal l.prog w K mg base 1 "_law_sift" ["sieve", "many"] spSift := ⟨_, _, ok_sift F__law_sift T, m__law_sift, k__law_sift, b__law_sift⟩
  have C_one : Cal l.prog w K mg base 2 "_law_one" ["sieve", "some"] spOne := ⟨_, _, ok_one F__law_one T C_sift, m__law_one, k__law_one, b__law_one⟩
  have C_any : Cal l.prog w K mg base 3 "_law_any" ["sieve"] (spAny ()) := ⟨_, _, ok_any F__law_any T C_sift C_one, m__law_any, k__law_any, b__law_any⟩
  have C_sieve : Cal l.prog w K mg base 1 "_law_sieve" ["script"] (spSieve K) := ⟨_, _, ok_sieve F__law_sieve T, m__law_sieve, k__law_sieve, b__law_sieve⟩
  have C_own : Cal l.prog w K mg base 1 "_law_is_integer" ["value"] spIsInt := ⟨_, _, ok_law_is_integer F__law_is_integer T, m__law_is_integer, k__law_is_integer, b__law_is_integer⟩
  exact ok_law F_law T C_is_integer C_is_within C_is_name C_is_pair K_is_integer K_is_within K_is_name K_is_pair C_sieve C_one C_any C_own
theorem walk {l : PySem.W.OpenLaw} {q : Program} {loose : List Str} {XP : (Str → Option Value) → Heap → Prop} {YP : World → Heap → Prop} {d : DefRec} {K : Params → PySem.W.Frag} (hn : l.most = some 63) (hdf : d.params.defaults = [])
    (hY : ∀ (w : World) (h : Heap), YP w h → (K w.params).In h)
    (F : ∀ (w : World) (mg : Str → Option Value) (fa : Addr) (h : Heap), (K w.params).In h → h.Ns mainGlobals mg → mg d.name = some (.ref fa) →
      ∃ fd : FuncData, (∀ (s : Shared) (u : Value), BindsTo s fd ⟨[u], []⟩ [("script", u)]) ∧ ∀ base : Heap, (K w.params).In base → base.Ns mainGlobals mg → FnG l.prog w (K w.params) mg base CX0 4 fa fd ["script"] (spLaw (K w.params))) :
    PySem.W.WalkO q loose XP YP l.row.toRowW d [] (fun f vs => PySem.call f vs) :=
  Own.walk_ofG (n := 63) (k := 4) (x := "script") (sp := fun K => spLaw K) hn (by decide) hdf ⟨rfl, by decide, by decide⟩ hY F fun _ _ a ns hl hb _ hS => ⟨a, ns, rfl, hS, fun _ => rfl⟩
end K02

open PySem PySem.W PyProof.Rows in
set_option maxRecDepth 100000 in
set_option maxHeartbeats 0 in
theorem PySem.Challenge.cw_duetickers_k02_what_any_value_is_holds : PySem.Challenge.rw_duetickers_k02_what_any_value_is.Holds := by
  w_on; o_law; k_head; (case hw => w_witness2)
  k_fill
  refine K02.walk (l := PySem.Challenge.rw_duetickers_k02_what_any_value_is) rfl rfl (fun w h Y => PySem.W.kIn_of Y) ?F
  case F =>
    intro w mg fa h KX G hmg
    refine' K02.all_mk KX G hmg ?a_is_integer ?l_is_integer ?c_is_integer ?k_is_integer ?a_is_within ?l_is_within ?c_is_within ?k_is_within ?a_is_row ?l_is_row ?c_is_row ?k_is_row ?a_is_signs ?l_is_signs ?c_is_signs ?k_is_signs ?a_is_name ?l_is_name ?c_is_name ?k_is_name ?a_is_pair ?l_is_pair ?c_is_pair ?k_is_pair ?a__law_sieve ?l__law_sieve ?c__law_sieve ?k__law_sieve ?a__law_sift ?l__law_sift ?c__law_sift ?k__law_sift ?a__law_one ?l__law_one ?c__law_one ?k__law_one ?a__law_any ?l__law_any ?c__law_any ?k__law_any ?a__law_is_integer ?l__law_is_integer ?c__law_is_integer ?k__law_is_integer ?a_law ?l_law ?c_law ?k_law ?z_isinstance ?z_int ?z_bool ?z_list ?z_tuple ?z_len ?z_str ?z_all ?z_abs ?z_range ?z_repr ?g_MOST_SIGNS ?g_MOST_PART
    (case a_is_integer => k_is)
    (case l_is_integer => k_is)
    (case c_is_integer => k_is)
    (case k_is_integer => k_is)
    (case a_is_within => k_is)
    (case l_is_within => k_is)
    (case c_is_within => k_is)
    (case k_is_within => k_is)
    (case a_is_row => k_is)
    (case l_is_row => k_is)
    (case c_is_row => k_is)
    (case k_is_row => k_is)
    (case a_is_signs => k_is)
    (case l_is_signs => k_is)
    (case c_is_signs => k_is)
    (case k_is_signs => k_is)
    (case a_is_name => k_is)
    (case l_is_name => k_is)
    (case c_is_name => k_is)
    (case k_is_name => k_is)
    (case a_is_pair => k_is)
    (case l_is_pair => k_is)
    (case c_is_pair => k_is)
    (case k_is_pair => k_is)
    (case a__law_sieve => k_is)
    (case l__law_sieve => k_is)
    (case c__law_sieve => k_is)
    (case k__law_sieve => k_is)
    (case a__law_sift => k_is)
    (case l__law_sift => k_is)
    (case c__law_sift => k_is)
    (case k__law_sift => k_is)
    (case a__law_one => k_is)
    (case l__law_one => k_is)
    (case c__law_one => k_is)
    (case k__law_one => k_is)
    (case a__law_any => k_is)
    (case l__law_any => k_is)
    (case c__law_any => k_is)
    (case k__law_any => k_is)
    (case a__law_is_integer => k_is)
    (case l__law_is_integer => k_is)
    (case c__law_is_integer => k_is)
    (case k__law_is_integer => k_is)
    (case a_law => k_is)
    (case l_law => k_is)
    (case c_law => k_is)
    (case k_law => k_is)
    (case z_isinstance => k_is)
    (case z_int => k_is)
    (case z_bool => k_is)
    (case z_list => k_is)
    (case z_tuple => k_is)
    (case z_len => k_is)
    (case z_str => k_is)
    (case z_all => k_is)
    (case z_abs => k_is)
    (case z_range => k_is)
    (case z_repr => k_is)
    (case g_MOST_SIGNS => k_is)
    (case g_MOST_PART => k_is)
