import PyProof.Rows.All
import Wide.All
import OpenK.AllK
import Wide.FinOn
import HandS.Base
import HandS.Call
import HandS.List
import HandS.Comp
import HandS.Ends
import HandS.Dict
import HandS.Iter
import HandS.Text
import HandS.Words
import HandS.WordsList
import HandS.IsInst
import HandS.StrMore
import HandS.Defaults
import HandS.Codes
import HandS.EndBits
import KE.KExcIs
import HandS.Exc
import HandS.ExcInit
import PyProof.ReprLen
import HandS.Walk
import PySem.Challenge.RW_duetickers_k00_errors_of_the_package
set_option Elab.async false
set_option linter.all false
set_option maxRecDepth 100000
set_option maxHeartbeats 4000000
/-! Rules of our own: repr of data, identity with a truth, a text times a number, calls where nothing guards. -/
namespace Own
open PySem PySem.Spec PyProof.Rows L2

/-! ### repr(x), x data of any depth -/
def rRepr (K : PySem.W.Frag) : List V → Hp → VK → Prop := fun xs H Q =>
  ∃ x d, xs = [x] ∧ Dp K H x d ∧ d.showable = true ∧ d.hasDict = false ∧ d.depth ≤ 60 ∧ d.shown.length ≤ sizeLine ∧ Q (.str d.shown) H
theorem call_repr {X : Cx} (hg : X.A.guards = some []) (hu : X.A.units + 64 < cLine) : CallR X (.builtin "repr") (rRepr X.K) := by
  intro pins s σ H xs us Q I r h
  obtain ⟨x, d, rfl, hd, hs, hn, hdep, hsz, q⟩ := h
  cases r with
  | cons rx rn =>
    rename_i v us'
    cases rn
    cases hd with
    | non =>
      cases (show v = Value.none from rx)
      exact P.repr_of_none ⟨.str _, H, I.tok _, ⟨_, rfl⟩, q⟩
    | bl b =>
      cases (show v = Value.bool b from rx)
      exact P.repr_of_bool ⟨.str _, H, I.tok _, ⟨_, by cases b <;> rfl⟩, q⟩
    | int i =>
      obtain ⟨t, rfl⟩ := (show ∃ t, v = Value.int i t from rx)
      exact P.repr_of_int (of_decide_eq_true (by simpa only [PyData.showable] using hs)) ⟨.str _, H, I.tok _, ⟨_, rfl⟩, q⟩
    | str z =>
      obtain ⟨t, rfl⟩ := (show ∃ t, v = Value.str z t from rx)
      exact P.repr_of_str ⟨.str _, H, I.tok _, ⟨_, rfl⟩, q⟩ hsz
    | @lst a ys ds hl ha =>
      cases (show v = Value.ref a from rx)
      obtain ⟨as, rd⟩ := Dp.reads I (.list ds) (.ref a) _ (.lst hl ha) rfl
      exact repr_of_reads' rd hs (fun z => by rw [hn] at z; cases z) hg (by omega) (fun _ _ e => e) (fun h' u tk k => ⟨.str _, H, I.kept k, ⟨_, rfl⟩, q⟩) hsz
    | @tup a ys ds hl ha =>
      cases (show v = Value.ref a from rx)
      obtain ⟨as, rd⟩ := Dp.reads I (.tuple ds) (.ref a) _ (.tup hl ha) rfl
      exact repr_of_reads' rd hs (fun z => by rw [hn] at z; cases z) hg (by omega) (fun _ _ e => e) (fun h' u tk k => ⟨.str _, H, I.kept k, ⟨_, rfl⟩, q⟩) hsz

/-! ### x is not True -/
theorem op_notTrue {X : Cx} : OpR X (compareOp .IsNot) (fun x y H Q => ∃ b : Bool, y = .bl b ∧ Q (.bl (!decide (x = .bl b))) H) := by
  intro pins s σ H x y v u Q I rx ry h
  obtain ⟨b, rfl, q⟩ := h
  cases (show u = Value.bool b from ry)
  by_cases e : x = V.bl b
  · subst e
    cases (show v = Value.bool b from rx)
    exact wpAny_isNot_self rfl ⟨.bl false, H, I, rfl, by simpa using q⟩
  · refine wpAny_isNot_other ?_ ?_ ⟨.bl true, H, I, rfl, by simpa [e] using q⟩
    · cases x <;> first
        | (cases rx; rfl)
        | (obtain ⟨t, rfl⟩ := rx; rfl)
    · rintro rfl
      cases x <;> first
        | (cases rx; done)
        | (obtain ⟨t, z⟩ := rx; cases z; done)
        | (cases rx; exact e rfl)

/-! ### a text times a number -/
theorem op_mulS {X : Cx} : OpR X (binaryOp .Mult) (fun x y H Q => ∃ z i, x = .str z ∧ y = .int i ∧ z.length ≤ 1 ∧ 0 ≤ i ∧ i ≤ 100000 ∧ Q (.str (Txt.mul z i)) H) := by
  intro pins s σ H x y v u Q I rx ry h
  obtain ⟨z, i, rfl, rfl, hz, h0, h1, q⟩ := h
  obtain ⟨t, rfl⟩ := rx
  obtain ⟨t2, rfl⟩ := ry
  refine SB.mul ⟨?_, ?_, ?_⟩ fun t' k => ⟨.str _, H, I.tok _, ⟨_, rfl⟩, q⟩
  · have a : ¬ i < -(2 ^ 63 : Int) := by omega
    have b : ¬ i ≥ 2 ^ 63 := by omega
    simp [a, b]
    omega
  · intro h2 _
    have : (2 : Int) ^ 63 - 1 = 9223372036854775807 := by decide
    rw [this]
    have c : (1 : Int) ≤ 9223372036854775807 / i := by
      apply Int.le_ediv_of_mul_le (by omega); omega
    omega
  · intro h2 _
    unfold Builtin.Str.tooLong
    have e := sizeLine_eq
    have : z.length * i.toNat ≤ 1 * i.toNat := Nat.mul_le_mul_right _ hz
    first
      | (simp only [decide_eq_false_iff_not]; omega)
      | (simp; omega)

/-! ### a def that is called where no walk over data is under way (no guard) -/
structure FnG (P : Program) (w : World) (K : PySem.W.Frag) (mg : Str → Option Value) (base : Heap) (CX : CXT) (k : Nat) (f : Addr) (fd : FuncData) (ps : List Str) (sp : Sp) : Prop where
  len : ∀ vs H Q E, sp vs H Q E → vs.length = ps.length
  run : ∀ (A : Around) (outer : List Env) (s : Shared) (H : Hp) (args : Args) (us : List Value) (vs : List V) (Q : VK) (E : XK),
    Room k A → A.guards = some [] → Env0 P w K mg base A outer s H → BindsTo s fd args (ps.zip us) → Vals vs us → sp vs H Q E →
    codeAny (model P w) A (.call (.ref f) args) (CR CX outer P w H s Q E) s

section
variable {P : Program} {w : World} {K : PySem.W.Frag} {mg : Str → Option Value} {base : Heap} {CX : CXT} {k : Nat} {f : Addr} {fd : FuncData} {ps : List Str} {sp : Sp}
theorem FnG.of (F : FnOk P w K mg base CX k f fd ps sp) : FnG P w K mg base CX k f fd ps sp :=
  ⟨F.len, fun A outer s H args us vs Q E hr _ => F.run A outer s H args us vs Q E hr⟩
/-- a def by its body, which knows that nothing guards -/
theorem Fun.okG {x qual : Str} {st : Stmt} {N : List Str} (F : Fun K x qual st f fd) (S : FnScope N ps (defScope st)) (len : ∀ vs H Q E, sp vs H Q E → vs.length = ps.length)
    (body : ∀ (cdv : Value) (A : Around) (outer : List Env) (s : Shared) (H : Hp) (vs : List V) (Q : VK) (E : XK), Room k (A.deeper (envOfC qual (defScope st) s.heap.objs.size f cdv)) →
      A.guards = some [] → sp vs H Q E → ∃ t, PSs (cxOf CX0 P w K mg base N qual (defScope st) f cdv A outer s H E).nox (defBody st) t ∧ t { nx := fun _ H' => Q .non H', rt := Q } (start N vs) H) :
    FnG P w K mg base CX0 (k + 1) f fd ps sp := by
  obtain ⟨oc, od, kV, doc, pm, an, cdv, ct, osl, rfl, lk, hcd⟩ := F.ex
  refine ⟨len, ?_⟩
  intro A outer s H args us vs Q E room gd e0 bnd rel want
  have size := len vs H Q E want
  have inK : K.In s.heap := e0.mod.kin.keeps fun b o z => And.left (e0.bs b o z)
  have room0 : s.heap.NoLimit := e0.mod.nolimit.keeps fun b o z => And.left (e0.bs b o z)
  have slots : ∀ y ∈ ps.zip us, (defScope st).names.lookup y.1 = some .local ∨ ((defScope st).names.lookup y.1 = some .cell ∧
      ((cellsFrom (s.heap.objs.size + 1) (defScope st).names []).lookup y.1).isSome = true) := by
    rintro ⟨n, v⟩ z
    refine (S.par n (List.of_mem_zip z).1).imp id fun c => ⟨c, ?_⟩
    exact PySem.W.cellsFrom_some _ _ _ (.inl c)
  refine codeAny_call_function room.depth (inK _ _ lk) rfl S.co S.gen rfl (PySem.W.codeRec_of inK hcd) (bnd _ _ _ _ ?_)
  refine wpAny_newFunctionEnv_cells S.kind slots ?_
  rintro env rfl s1 x
  refine ⟨room0.keeps x.toInCall.keep, codeAny_func ?_⟩
  obtain ⟨t, walk, say⟩ := body cdv A outer s H vs Q E (room.deeper _) gd want
  have I := inv_start (CX := CX0) (E := E) S room.hd e0 size rel x
  refine wpAny_mono (walk.nox.run [] s1 (start N vs) H _ I say) (fun r s' z => ?_) (fun _ _ z => z)
  have last : ∀ {τ : L2.St} {G : Hp} {v : V} {u : Value}, Inv (cxOf CX0 P w K mg base N qual (defScope st) f cdv A outer s H E) [] τ G s' →
      RelV v u → Q v G → CE outer P w H s Q u s' := fun J r q => ⟨_, _, J.os, J.bare, J.base, J.hok, r, q⟩
  match r, z with
  | .ret u, z =>
    obtain ⟨v, τ, G, J, r1, q⟩ := z
    exact last J r1 q
  | .next, z =>
    obtain ⟨τ, G, J, q⟩ := z
    exact last (v := .non) (u := .none) J rfl q
  | .brk, z =>
    obtain ⟨τ, G, J, q⟩ := z
    exact q.elim
  | .cont, z =>
    obtain ⟨τ, G, J, q⟩ := z
    exact q.elim
end
section
variable {X : Cx} {CX : CXT} {k : Nat} {f : Addr} {fd : FuncData} {ps : List Str} {sp : Sp} {dvs : List V} {ds : List Value} {E : XK} {x : Str} {p pos : Pos} {e : Expr} {es : List Expr} {t : TA}
theorem run_fnG {pins : List (Addr × Obj)} {σ : L2.St} {H : Hp} {s : Shared} {Q : VK} {us : List Value} {vs : List V} (F : FnG X.prog X.w X.K X.mg X.base CX k f fd ps sp) (room : Room k X.A) (gd : X.A.guards = some [])
    (hb : Binds X.K fd ps ds) (hd : Vals dvs ds) (hx : Passes CX X E) (I : Inv X pins σ H s) (r : Vals vs us) (h : sp (vs ++ dvs) H Q E) : wpAny (model X.prog X.w) X.A (call (.ref f) us) (EP X pins σ Q) X.xe s := by
  have rel := r.append hd
  have size : (us ++ ds).length = ps.length := rel.length.symm.trans (F.len _ _ _ _ h)
  refine wpAny_call (codeAny_mono (F.run X.A X.stack s H ⟨us, []⟩ _ _ Q E room gd I.env0 (hb s us I.kIn size) rel h) ?_)
  intro r s' z
  match r, z with
  | .error e, z => exact hx pins σ H s e s' I z
  | .ok (.ret u), z => exact I.after z
  | .ok .next, z => exact z.elim
  | .ok .brk, z => exact z.elim
  | .ok .cont, z => exact z.elim
theorem pe_callG (F : FnG X.prog X.w X.K X.mg X.base CX k f fd ps sp) (room : Room k X.A) (gd : X.A.guards = some []) (hg : Gl X x) (hm : X.mg x = some (.ref f)) (hk : PySem.W.keepIn X.K (.ref f) = true)
    (hb : Binds X.K fd ps ds) (hd : Vals dvs ds) (hx : Passes CX X E) (ha : PA X (e :: es) t) (hdb : (x == ("__debug__" : Str)) = false := by decide)
    (he : starEach (e :: es) X.env = (false, eval e X.env) :: starEach es X.env := by rfl) (hpl : (backTo pos (starEach es X.env)).any (·.1) = false := by rfl) :
    PE X (.Call (.Name x p) (e :: es) [] pos) (tCall sp dvs E t) := by
  constructor
  intro pins s σ H Q I h
  refine wpAny_Call_Name_kw (ld_glob I hg hm ?_ hdb)
  refine PySem.W.callWith_K (h₀ := X.base) I.ok.mod.kin hk (thn (ha.run pos pins s σ H _ I h) ?_) he hpl
  rintro us s1 ⟨vs, H1, I1, r, q⟩
  exact ⟨I1.kIn, run_fnG F room gd hb hd hx I1 r q⟩
end
end Own
namespace Own
open PySem PySem.Spec PyProof.Rows L2
/-! ### a def of the top, with all that its callers want -/
structure Cal (P : Program) (w : World) (K : PySem.W.Frag) (mg : Str → Option Value) (base : Heap) (k : Nat) (x : Str) (ps : List Str) (sp : Sp) : Prop where
  ex : ∃ f fd, FnOk P w K mg base CX0 k f fd ps sp ∧ mg x = some (.ref f) ∧ PySem.W.keepIn K (.ref f) = true ∧ Binds K fd ps []
structure CalG (P : Program) (w : World) (K : PySem.W.Frag) (mg : Str → Option Value) (base : Heap) (k : Nat) (x : Str) (ps : List Str) (sp : Sp) : Prop where
  ex : ∃ f fd, FnG P w K mg base CX0 k f fd ps sp ∧ mg x = some (.ref f) ∧ PySem.W.keepIn K (.ref f) = true ∧ Binds K fd ps []
/-- the same, called by keywords alone -/
structure CalK (P : Program) (w : World) (K : PySem.W.Frag) (mg : Str → Option Value) (base : Heap) (k : Nat) (x : Str) (ps ks : List Str) (gV : List V → List V) (sp : Sp) : Prop where
  ex : ∃ f fd g, FnOk P w K mg base CX0 k f fd ps sp ∧ mg x = some (.ref f) ∧ PySem.W.keepIn K (.ref f) = true ∧ KBn K fd ps 0 ks g (fun _ zs => gV zs)
section
variable {X : Cx} {k : Nat} {x : Str} {ps ks : List Str} {sp : Sp} {p pos : Pos} {e : Expr} {es : List Expr} {kws : List Keyword} {t tk : TA} {gV : List V → List V}
theorem pe_cal (C : Cal X.prog X.w X.K X.mg X.base k x ps sp) (room : Room k X.A) (ha : PA X (e :: es) t) (hg : Gl X x := by rfl) (hdb : (x == ("__debug__" : Str)) = false := by decide)
    (he : starEach (e :: es) X.env = (false, eval e X.env) :: starEach es X.env := by rfl) (hpl : (backTo pos (starEach es X.env)).any (·.1) = false := by rfl) :
    PE X (.Call (.Name x p) (e :: es) [] pos) (tCall sp [] E0 t) := by
  obtain ⟨f, fd, F, m, kp, b⟩ := C.ex
  exact pe_call F room hg m kp b .nil pass0 ha hdb he hpl
theorem pe_cal0 (C : Cal X.prog X.w X.K X.mg X.base k x ps sp) (room : Room k X.A) (hg : Gl X x := by rfl) (hdb : (x == ("__debug__" : Str)) = false := by decide) :
    PE X (.Call (.Name x p) [] [] pos) (tCall sp [] E0 tNil) := by
  obtain ⟨f, fd, F, m, kp, b⟩ := C.ex
  exact pe_call0 F room hg m kp b .nil pass0 hdb
theorem pe_calG (C : CalG X.prog X.w X.K X.mg X.base k x ps sp) (room : Room k X.A) (gd : X.A.guards = some []) (ha : PA X (e :: es) t) (hg : Gl X x := by rfl) (hdb : (x == ("__debug__" : Str)) = false := by decide)
    (he : starEach (e :: es) X.env = (false, eval e X.env) :: starEach es X.env := by rfl) (hpl : (backTo pos (starEach es X.env)).any (·.1) = false := by rfl) :
    PE X (.Call (.Name x p) (e :: es) [] pos) (tCall sp [] E0 t) := by
  obtain ⟨f, fd, F, m, kp, b⟩ := C.ex
  exact pe_callG F room gd hg m kp b .nil pass0 ha hdb he hpl
/-- f(k = v, ..) -/
def tKw (m : Nat) (sp : Sp) (gV : List V → List V) (tk : TA) : TE := fun σ H Q => tk σ H fun zs H2 => zs.length = m ∧ sp (gV zs) H2 Q E0
theorem pe_calK (C : CalK X.prog X.w X.K X.mg X.base k x ps ks gV sp) (room : Room k X.A) (hkw : PK X kws tk) (hg : Gl X x := by rfl) (hall : (backToKw pos (keywordEach kws X.env)).all (·.1.isSome) = true := by rfl)
    (hks : (backToKw pos (keywordEach kws X.env)).filterMap (·.1) = ks := by rfl) (hdb : (x == ("__debug__" : Str)) = false := by decide)
    (hpl : ((backTo pos (starEach [] X.env)).any (·.1) || (backToKw pos (keywordEach kws X.env)).any (·.1.isNone)) = false := by rfl) :
    PE X (.Call (.Name x p) [] kws pos) (tKw ks.length sp gV tk) := by
  obtain ⟨f, fd, g, F, m, kp, b⟩ := C.ex
  constructor
  intro pins s σ H Q I h
  refine wpAny_Call_Name_kw (ld_glob I hg m ?_ hdb)
  refine PySem.W.callWith_KW0 (h₀ := X.base) I.ok.mod.kin kp hall (thn (hkw.run pos pins s σ H _ I h) ?_) hpl
  rintro ws s2 ⟨zs, H2, I2, rz, l, q⟩
  refine ⟨I2.kIn, ?_⟩
  rw [hks]
  exact run_fnN (vs := []) (us := []) F room b pass0 I2 .nil rz rfl l q
end
theorem Fun.kb {K : PySem.W.Frag} {x qual : Str} {st : Stmt} {f : Addr} {fd : FuncData} {ps ks : List Str} (F : Fun K x qual st f fd) (g : {α : Type} → List α → List α)
    (rel : ∀ {zs : List V} {ws : List Value}, Vals zs ws → Vals (g zs) (g ws))
    (h : ∀ (kV doc pm : Value) (an : Option Addr) (cdv ct : Value) (ws : List Value), ws.length = ks.length → bindArgs (PySem.W.fnOf x qual (defArgs st) (defBody st) (defScope st) .none kV doc pm an cdv ct) ⟨[], ks.zip ws⟩ = pure (ps.zip (g ws))) :
    KBn K fd ps 0 ks (fun _ ws => g ws) (fun _ zs => g zs) := by
  obtain ⟨oc, od, kV, doc, pm, an, cdv, ct, osl, rfl, lk, hcd⟩ := F.ex
  refine ⟨fun s us ws _ l1 l2 => ?_, fun _ r => rel r⟩
  cases List.length_eq_zero_iff.mp l1
  exact .of_eq (h kV doc pm an cdv ct ws l2)
/-- a number that stands at the top -/
theorem pe_gi {X : Cx} {x : Str} {i : Int} {pos : Pos} (h : ∃ t, X.mg x = some (.int i t)) (hg : Gl X x := by rfl) (hd : (x == ("__debug__" : Str)) = false := by decide) : PE X (.Name x pos) (tC (.int i)) := by
  obtain ⟨t, e⟩ := h
  exact pe_glob hg e ⟨t, rfl⟩ hd
/-- a built-in class as a value -/
theorem pe_ty {X : Cx} {x : Str} {n : String} {pos : Pos} (hm : X.mg x = none) (hv : bootBuiltins x = some (.type n)) (hg : Gl X x := by rfl) (hn : x ≠ "__name__" := by decide) (hd : (x == ("__debug__" : Str)) = false := by decide) : PE X (.Name x pos) (tC (.ty n)) :=
  pe_bltn hg hm hv rfl hn hd
/-! ### heaps -/
theorem same_new {H : Hp} {p : Addr} {o : HO} (h : H p = none) : Same H (upd H p o) := fun b u e => by
  rw [upd_ne (ne_of_none e h)]
  exact e
theorem same_mut {H H' : Hp} {p : Addr} {o : HO} (s : Same H H') (h : H p = none) : Same H (upd H' p o) := fun b u e => by
  rw [upd_ne (ne_of_none e h)]
  exact s b u e
theorem take_map_succ {α β : Type} {xs : List α} {i : Nat} {x : α} (f : α → β) (h : xs[i]? = some x) : (xs.take (i + 1)).map f = (xs.take i).map f ++ [f x] := by
  rw [List.take_succ, h, List.map_append]
  rfl
/-! ### the drawing list [cells, turn, rest] -/
/-- all but p stays -/
def But (p : Addr) (H H' : Hp) : Prop := ∀ b o, b ≠ p → H b = some o → H' b = some o
theorem But.refl (p : Addr) (H : Hp) : But p H H := fun _ _ _ h => h
theorem But.trans {p : Addr} {H H1 H2 : Hp} (a : But p H H1) (b : But p H1 H2) : But p H H2 := fun c o n h => b c o n (a c o n h)
theorem Same.but {p : Addr} {H H' : Hp} (s : Same H H') : But p H H' := fun b o _ h => s b o h
theorem But.upd {p : Addr} {H H' : Hp} {o : HO} (b : But p H H') : But p H (upd H' p o) := fun c u n h => by
  rw [upd_ne n]
  exact b c u n h
theorem But.new {p q : Addr} {H H' : Hp} {o : HO} (b : But p H H') (h : H' q = none) : But p H (L2.upd H' q o) := fun c u n e => by
  have z := b c u n e
  rw [upd_ne (ne_of_none z h)]
  exact z
/-- the list at p: the cells at q, how often was drawn (n at most), what is left of a great cell -/
def Sv (p q : Addr) (cs : List Int) (n : Nat) (H : Hp) : Prop :=
  ∃ at_ rest : Int, H p = some (.lst [.ref q, .int at_, .int rest]) ∧ H q = some (.lst (cs.map V.int)) ∧ p ≠ q ∧ 0 ≤ at_ ∧ at_ ≤ n ∧ 0 ≤ rest
theorem Sv.mono {p q : Addr} {cs : List Int} {n m : Nat} {H : Hp} (h : Sv p q cs n H) (le : n ≤ m) : Sv p q cs m H := by
  obtain ⟨a, r, h1, h2, h3, h4, h5, h6⟩ := h
  exact ⟨a, r, h1, h2, h3, h4, by omega, h6⟩
theorem Sv.same {p q : Addr} {cs : List Int} {n : Nat} {H H' : Hp} (h : Sv p q cs n H) (s : Same H H') : Sv p q cs n H' := by
  obtain ⟨a, r, h1, h2, h3⟩ := h
  exact ⟨a, r, s _ _ h1, s _ _ h2, h3⟩
theorem dp_ints {K : PySem.W.Frag} {H : Hp} : ∀ cs : List Int, DpAll K H (cs.map V.int) (cs.map PyData.int)
  | [] => .nil
  | c :: cs => .cons (.int c) (dp_ints cs)
theorem lay_ints : ∀ cs : List Int, PyData.canLayAll0 (cs.map PyData.int) = true
  | [] => by simp [PyData.canLayAll0]
  | c :: cs => by simp [PyData.canLayAll0, PyData.canLay0, lay_ints cs]
theorem dep_ints : ∀ cs : List Int, PyData.depthAll (cs.map PyData.int) = 0
  | [] => by simp [PyData.depthAll]
  | c :: cs => by simp [PyData.depthAll, PyData.depth, dep_ints cs]
theorem shaped_ints (cs : List Int) : SeqAt.shaped (.list (cs.map PyData.int)) = true := by
  simp [SeqAt.shaped, PyData.canLay0, PyData.depth, lay_ints, dep_ints]
theorem shaped_nil : SeqAt.shaped (.list []) = true := by
  simp [SeqAt.shaped, PyData.canLay0, PyData.depth, PyData.canLayAll0, PyData.depthAll]
theorem eqv_nil (ds : List PyData) : PyData.eqv (.list ds) (.list []) = ds.isEmpty := by
  cases ds <;> simp [PyData.eqv, PyData.eqvAll]
theorem hu1 {k : Nat} {A : Around} (hr : Room k A) : A.units < cLine := by
  have := hr.un
  omega
theorem hu64 {k : Nat} {A : Around} (hr : Room k A) : A.units + 64 < cLine := by
  have := hr.un
  omega
def spSift : Sp := fun vs H Q _ => ∃ (p q : Addr) (cs : List Int) (n : Nat) (m : Int), vs = [.ref p, .int m] ∧ 0 < m ∧ m < 1073741824 ∧ n ≤ 100000 ∧ cs.length ≤ 1000 ∧ Sv p q cs n H ∧
  ∀ r H', 0 ≤ r → r < m → But p H H' → Sv p q cs (n + 1) H' → Q (.int r) H'
theorem mulb {x y a b : Int} (x0 : 0 ≤ x) (xa : x ≤ a) (y0 : 0 ≤ y) (yb : y ≤ b) : 0 ≤ x * y ∧ x * y ≤ a * b :=
  ⟨Int.mul_nonneg x0 y0, Int.mul_le_mul xa yb y0 (Int.le_trans x0 xa)⟩
theorem cpow_of {i j : Int} (h0 : 0 ≤ j) (h1 : j ≤ 1000000) (a : -(2 ^ 64) < i) (b : i < 2 ^ 64) : CPow i j := ⟨h0, h1, by omega⟩
/-- some[draw], some a list that stands apart -/
def spOne : Sp := fun vs H Q _ => ∃ (p q : Addr) (cs : List Int) (n : Nat) (s : Addr) (xs : List V), vs = [.ref p, .ref s] ∧ H s = some (.lst xs) ∧ s ≠ p ∧ 0 < xs.length ∧ xs.length ≤ 1000 ∧ n ≤ 100000 ∧ cs.length ≤ 1000 ∧ Sv p q cs n H ∧
  ∀ x H', x ∈ xs → But p H H' → Sv p q cs (n + 1) H' → Q x H'
def spSieve (K : PySem.W.Frag) : Sp := fun vs H Q _ => ∃ (a : Addr) (ns : List Int), vs = [.ref a] ∧ SqL K H a (ns.map V.int) ∧
  ∀ p q cs H', H p = none → Same H H' → cs.length ≤ 63 → Sv p q cs 0 H' → Q (.ref p) H'
theorem map_mem_cut {ns : List Int} {lo hi : Option Int} : ∃ cs : List Int, cutV (ns.map V.int) lo hi = cs.map V.int ∧ cs.length ≤ ns.length := by
  refine ⟨(ns.drop (HT.sIx (ns.map V.int).length 0 lo)).take (HT.sIx (ns.map V.int).length (ns.map V.int).length hi - HT.sIx (ns.map V.int).length 0 lo), ?_, ?_⟩
  · unfold cutV
    rw [← List.map_drop, ← List.map_take]
  · rw [List.length_take, List.length_drop]
    omega
theorem cut_len {ns : List Int} {k : Nat} : (cutV (ns.map V.int) none (some (k : Int))).length ≤ k := by
  unfold cutV
  rw [List.length_take]
  have : HT.sIx (ns.map V.int).length (ns.map V.int).length (some (k : Int)) ≤ k := by
    unfold HT.sIx
    simp only []
    split <;> omega
  omega
/-! ### what is drawn by an expression: from any heap in which n was drawn at most, a value of which R holds, m drawn at most -/
def Dr (p q : Addr) (cs : List Int) (te : TE) (σ : L2.St) (n m : Nat) (H : Hp) (R : Hp → V → Prop) : Prop :=
  ∀ H1, But p H H1 → Sv p q cs n H1 → ∀ Q : VK, (∀ v H2, But p H1 H2 → Sv p q cs m H2 → R H2 v → Q v H2) → te σ H1 Q
def DrA (p q : Addr) (cs : List Int) (ta : TA) (σ : L2.St) (n m : Nat) (H : Hp) (k : Nat) (R : Hp → V → Prop) : Prop :=
  ∀ H1, But p H H1 → Sv p q cs n H1 → ∀ Q : List V → Hp → Prop, (∀ vs H2, But p H1 H2 → Sv p q cs m H2 → vs.length = k → (∀ v ∈ vs, R H2 v) → Q vs H2) → ta σ H1 Q
def Stb (p : Addr) (R : Hp → V → Prop) : Prop := ∀ H H' v, But p H H' → R H v → R H' v
section
variable {p q : Addr} {cs : List Int} {te tr ta tb : TE} {ts : TA} {σ : L2.St} {n m l : Nat} {H : Hp} {k : Nat} {R Ra Rb : Hp → V → Prop}
theorem Dr.imp (h : Dr p q cs te σ n m H Ra) (f : ∀ H v, Ra H v → R H v) : Dr p q cs te σ n m H R := fun H1 b s Q q => h H1 b s Q fun v H2 b2 s2 r => q v H2 b2 s2 (f _ _ r)
theorem DrA.nil : DrA p q cs tNil σ n n H 0 R := fun H1 b s Q q => q [] H1 (But.refl _ _) s rfl (fun v hv => by cases hv)
theorem DrA.cons (st : Stb p R) (h : Dr p q cs te σ n m H R) (t : DrA p q cs ts σ m l H k R) : DrA p q cs (tCons te ts) σ n l H (k + 1) R := fun H1 b s Q q =>
  h H1 b s _ fun v H2 b2 s2 r => t H2 (b.trans b2) s2 _ fun vs H3 b3 s3 lv rs => q (v :: vs) H3 (b2.trans b3) s3 (by rw [List.length_cons, lv]) fun u hu => by
    rcases List.mem_cons.mp hu with e | e
    · subst e
      exact st _ _ _ b3 r
    · exact rs u e
theorem dr_c {v : V} (h : ∀ H1, But p H H1 → R H1 v) : Dr p q cs (tC v) σ n n H R := fun H1 b s Q q => q v H1 (But.refl _ _) s (h H1 b)
theorem dr_v {i : Nat} {v : V} (e : σ[i]? = some (some v)) (h : ∀ H1, But p H H1 → R H1 v) : Dr p q cs (tVar i) σ n n H R := fun H1 b s Q q => ⟨v, e, q v H1 (But.refl _ _) s (h H1 b)⟩
theorem sv_ne {H1 : Hp} {a : Addr} (s : Sv p q cs n H1) (h : H1 a = none) : a ≠ p := by
  obtain ⟨_, _, h1, _⟩ := s
  exact (ne_of_none h1 h).symm
theorem dr_lst (h : DrA p q cs ts σ n m H k Ra) (st : Stb p Ra) (hk : k ≤ 1000) (f : ∀ a xs H1, H1 a = some (.lst xs) → a ≠ p → xs.length = k → (∀ x ∈ xs, Ra H1 x) → R H1 (.ref a)) : Dr p q cs (tLst ts) σ n m H R := fun H1 b s Q q =>
  h H1 b s _ fun vs H2 b2 s2 lv rs => ⟨by rw [lv]; exact Nat.le_trans hk (by decide), fun a ha => q _ _ (b2.new ha) (s2.same (same_new ha)) (f a vs _ upd_same (sv_ne s2 ha) lv fun x hx => st _ _ _ (Same.but (same_new ha)) (rs x hx))⟩
theorem dr_tup (h : DrA p q cs ts σ n m H k Ra) (st : Stb p Ra) (hk : k ≤ 1000) (f : ∀ a xs H1, H1 a = some (.tup xs) → a ≠ p → xs.length = k → (∀ x ∈ xs, Ra H1 x) → R H1 (.ref a)) : Dr p q cs (tTup ts) σ n m H R := fun H1 b s Q q =>
  h H1 b s _ fun vs H2 b2 s2 lv rs => ⟨by rw [lv]; exact Nat.le_trans hk (by decide), fun a ha => q _ _ (b2.new ha) (s2.same (same_new ha)) (f a vs _ upd_same (sv_ne s2 ha) lv fun x hx => st _ _ _ (Same.but (same_new ha)) (rs x hx))⟩
theorem dr_op {r : R2} (st : Stb p Ra) (ha : Dr p q cs ta σ n m H Ra) (hb : Dr p q cs tb σ m l H Rb) (hr : ∀ x y H1, Ra H1 x → Rb H1 y → ∀ Q : VK, (∀ v, R H1 v → Q v H1) → r x y H1 Q) : Dr p q cs (tOp r ta tb) σ n l H R := fun H1 b s Q q =>
  ha H1 b s _ fun x H2 b2 s2 r1 => hb H2 (b.trans b2) s2 _ fun y H3 b3 s3 r2 => hr x y H3 (st _ _ _ b3 r1) r2 Q fun v rv => q v H3 (b2.trans b3) s3 rv
theorem dr_un {r : V → Hp → VK → Prop} (ha : Dr p q cs ta σ n m H Ra) (hr : ∀ x H1, Ra H1 x → ∀ Q : VK, (∀ v, R H1 v → Q v H1) → r x H1 Q) : Dr p q cs (tUn r ta) σ n m H R := fun H1 b s Q q =>
  ha H1 b s _ fun x H2 b2 s2 r1 => hr x H2 r1 Q fun v rv => q v H2 b2 s2 rv
theorem dr_cb {r : List V → Hp → VK → Prop} (ha : Dr p q cs ta σ n m H Ra) (hr : ∀ x H1, Ra H1 x → ∀ Q : VK, (∀ v, R H1 v → Q v H1) → r [x] H1 Q) : Dr p q cs (tCB r (tCons ta tNil)) σ n m H R := fun H1 b s Q q =>
  ha H1 b s _ fun x H2 b2 s2 r1 => hr x H2 r1 Q fun v rv => q v H2 b2 s2 rv
theorem dr_sift {tm : TE} {z : Int} {j : Nat} (e : σ[j]? = some (some (.ref p))) (hm : Dr p q cs tm σ n n H fun _ v => v = .int z) (h0 : 0 < z) (h1 : z < 1073741824) (hn : n ≤ 100000) (hc : cs.length ≤ 1000) :
    Dr p q cs (tCall spSift [] E0 (tCons (tVar j) (tCons tm tNil))) σ n (n + 1) H fun _ v => ∃ r, v = .int r ∧ 0 ≤ r ∧ r < z := fun H1 b s Q k =>
  ⟨_, e, hm H1 b s _ fun v H2 b2 s2 ev => by
    subst ev
    exact ⟨p, q, cs, n, z, rfl, h0, h1, hn, hc, s2, fun r H3 r0 r1 b3 s3 => k _ _ (b2.trans b3) s3 ⟨r, rfl, r0, r1⟩⟩⟩
theorem dr_one {tl : TE} {j : Nat} (e : σ[j]? = some (some (.ref p))) (hl : Dr p q cs tl σ n m H fun H1 v => ∃ a xs, v = .ref a ∧ H1 a = some (.lst xs) ∧ a ≠ p ∧ xs.length = k ∧ ∀ x ∈ xs, R H1 x) (st : Stb p R) (h0 : 0 < k) (h1 : k ≤ 1000) (hn : m ≤ 100000) (hc : cs.length ≤ 1000) :
    Dr p q cs (tCall spOne [] E0 (tCons (tVar j) (tCons tl tNil))) σ n (m + 1) H R := fun H1 b s Q f =>
  ⟨_, e, hl H1 b s _ fun v H2 b2 s2 ev => by
    obtain ⟨a, xs, rfl, ha, hap, hx, hr⟩ := ev
    exact ⟨p, q, cs, m, a, xs, rfl, ha, hap, by omega, by omega, hn, hc, s2, fun x H3 hx b3 s3 => f _ _ (b2.trans b3) s3 (st _ _ _ b3 (hr x hx))⟩⟩
/-- a list of such, as a value -/
theorem dr_lstR (h : DrA p q cs ts σ n m H k R) (st : Stb p R) (hk : k ≤ 1000) : Dr p q cs (tLst ts) σ n m H fun H1 v => ∃ a xs, v = .ref a ∧ H1 a = some (.lst xs) ∧ a ≠ p ∧ xs.length = k ∧ ∀ x ∈ xs, R H1 x :=
  dr_lst h st hk fun a xs H1 e n l r => ⟨a, xs, rfl, e, n, l, r⟩
theorem dr_set {u : TS} {D : Ends} {i : Nat} (h : Dr p q cs te σ n m H R) (s : Sv p q cs n H) (f : ∀ v H2, But p H H2 → Sv p q cs m H2 → R H2 v → u D (σ.set i (some v)) H2) : tSeq (tAsg te (gName i)) u D σ H :=
  h H (But.refl _ _) s _ f
theorem dr_ret {D : Ends} (h : Dr p q cs te σ n m H R) (s : Sv p q cs n H) (f : ∀ v H2, But p H H2 → Sv p q cs m H2 → R H2 v → D.rt v H2) : tRet te D σ H :=
  h H (But.refl _ _) s _ f
end
/-! ### a list against the empty one; what is walked, of one or another kind; the signs of a text -/
theorem op_eqNil {X : Cx} (hu : X.A.units < cLine) : OpR X (compareOp .Eq) (fun x y H Q => ∃ a b xs, x = .ref a ∧ y = .ref b ∧ H a = some (.lst xs) ∧ H b = some (.lst []) ∧ Q (.bl xs.isEmpty) H) := by
  intro pins s σ H x y v u Q I rx ry h
  obtain ⟨a, b, xs, rfl, rfl, ha, hb, q⟩ := h
  cases (show v = Value.ref a from rx)
  cases (show u = Value.ref b from ry)
  obtain ⟨its, rv, pa, _⟩ := I.list (SqL.of ha)
  obtain ⟨jts, rw_, pb, _⟩ := I.list (SqL.of hb)
  cases rw_
  have e := rv.length
  cases xs with
  | nil =>
    have e2 : its.toArray.size = ([] : List Value).toArray.size := by simpa using e.symm
    refine SeqAt.eq_listAt (e := fun _ => true) pa.isList pb.isList e2 hu (fun j h1 h2 => absurd h2 (by simp)) ?_
    refine ⟨.bl true, H, I, ?_, q⟩
    show Value.bool _ = Value.bool true
    congr 1
    simp
  | cons x xs =>
    refine SeqAt.eq_list_lengthsAt pa.isList pb.isList ?_ hu ⟨.bl false, H, I, rfl, q⟩
    have : its.length = xs.length + 1 := by rw [← e, List.length_cons]
    simp [this]
theorem pi_alt {X : Cx} {tg e : Expr} {w1 w2 : TI} (h1 : PI X tg e w1) (h2 : PI X tg e w2) : PI X tg e (fun σ H R => w1 σ H R ∨ w2 σ H R) :=
  ⟨fun pins s σ H R I h => h.elim (h1.run pins s σ H R I) (h2.run pins s σ H R I)⟩
theorem lc_str {z : Str} {g : TG} {tt : TT} {te : TE} {vs : List Nat} {σ : L2.St} {H1 : Hp} {D : Addr} {Qd : Hp → Prop} (Pv : Nat → Hp → Prop) (h0 : Pv 0 (upd H1 D (.lst [])))
    (hs : ∀ i c H, z.cps[i]? = some c → Pv i H → g (.str ⟨#[c]⟩) (wipe σ vs) H fun σ2 H2 => wipe σ2 vs = wipe σ vs ∧ tt σ2 H2 fun b H3 =>
      if b = true then te σ2 H3 fun y H4 => ∃ acc, H4 D = some (.lst acc) ∧ acc.length < sizeLine ∧ Pv (i + 1) (upd H4 D (.lst (acc ++ [y]))) else Pv (i + 1) H3) (hd : ∀ H, Pv z.cps.size H → Qd H) :
    ∃ W : Nat → Nat → Hp → Prop, (∃ m, W 0 m (upd H1 D (.lst []))) ∧ ∀ i m H, W i m H →
      ((Its z).stop i H ∧ Qd H) ∨ ((Its z).go i H ∧ ∃ Nx : Hp → Prop, (∀ H', Nx H' → ∃ m', m' < m ∧ W (i + 1) m' H') ∧ ∀ x H', (Its z).yld i H x H' → g x (wipe σ vs) H' fun σ2 H2 => wipe σ2 vs = wipe σ vs ∧ tt σ2 H2 fun b H3 =>
        if b = true then te σ2 H3 fun y H4 => ∃ acc, H4 D = some (.lst acc) ∧ acc.length < sizeLine ∧ Nx (upd H4 D (.lst (acc ++ [y]))) else Nx H3) := by
  refine ⟨fun i m H => m = z.cps.size - i ∧ i ≤ z.cps.size ∧ Pv i H, ⟨_, rfl, Nat.zero_le _, h0⟩, ?_⟩
  rintro i m H ⟨em, hi, pv_⟩
  subst em
  rcases Nat.lt_or_ge i z.cps.size with lt | ge
  · refine .inr ⟨lt, Pv (i + 1), fun H' pn => ⟨z.cps.size - (i + 1), by omega, rfl, lt, pn⟩, ?_⟩
    rintro x H' ⟨eH, c, hc, ex⟩
    subst eH
    subst ex
    exact hs i c _ hc pv_
  · have : i = z.cps.size := Nat.le_antisymm hi ge
    subst this
    exact .inl ⟨ge, hd _ pv_⟩
/-! ### a text of some signs alone -/
theorem str_empty {z : Str} : z = Str.ofString "" ↔ z.length = 0 := by
  constructor
  · intro h
    subst h
    decide
  · intro h
    obtain ⟨c⟩ := z
    have : c.size = 0 := h
    have e : c = #[] := Array.eq_empty_of_size_eq_zero this
    subst e
    rfl
theorem strip_none (goes : Nat → Bool) (z : Str) : decide (Txt.stripBy goes true true z = Str.ofString "") = z.cps.toList.all goes := by
  obtain ⟨l1, l2, l3⟩ := PyProof.Rows.lo_facts goes z
  obtain ⟨h1, h2, h3, h4⟩ := PyProof.Rows.hi_facts goes z _ l1
  rw [PyProof.Rows.stripBy_eq]
  generalize e1 : PySem.stripLo goes true z = lo at *
  generalize e2 : PySem.stripHi goes true z lo = hi at *
  have len : (Builtin.Str.strSub z lo hi).length = hi - lo := by
    simp only [Builtin.Str.strSub, Str.length, Array.size_extract]
    have : hi ≤ z.cps.size := h2
    omega
  have at_ : ∀ k, k < z.length → z.cps.getD k 0 ∈ z.cps.toList := fun k hk => by
    have hk' : k < z.cps.size := hk
    rw [Array.getD, dif_pos hk']
    exact Array.getElem_mem_toList hk'
  rw [Bool.eq_iff_iff, decide_eq_true_iff, str_empty, len, List.all_eq_true]
  constructor
  · intro e c hc
    obtain ⟨k, hk, rfl⟩ := List.getElem_of_mem hc
    have hk' : k < z.length := by simpa [Str.length] using hk
    have g : goes (z.cps.getD k 0) = true := by
      rcases Nat.lt_or_ge k lo with h | h
      · exact l2 k h
      · exact h3 k (by omega) hk'
    rw [← PyProof.Rows.getD_list] at g
    have e3 : z.cps.toList.getD k 0 = z.cps.toList[k] := by
      rw [List.getD, List.getElem?_eq_getElem hk]
      rfl
    rw [e3] at g
    exact g
  · intro all
    rcases l3 with e | e
    · omega
    · rcases Nat.lt_or_ge lo z.length with h | h
      · rw [all _ (at_ lo h)] at e
        cases e
      · omega
/-- an expression's reading, said in other words -/
theorem pe_imp {X : Cx} {e : Expr} {t t' : TE} (h : PE X e t) (i : ∀ σ H Q, t' σ H Q → t σ H Q) : PE X e t' := ⟨fun pins s σ H Q I q => h.run pins s σ H Q I (i _ _ _ q)⟩
theorem sign0 (c : Nat) : decide (V.str ⟨#[c]⟩ = V.str (Str.ofString "0")) = decide (c = 48) := by
  have : Str.ofString "0" = ⟨#[48]⟩ := by decide
  rw [this]
  simp
theorem sign1 (c : Nat) : decide (V.str ⟨#[c]⟩ = V.str (Str.ofString "1")) = decide (c = 49) := by
  have : Str.ofString "1" = ⟨#[49]⟩ := by decide
  rw [this]
  simp
def badC (c : Nat) : Bool := !decide (c = 48) && !decide (c = 49)
theorem all_signs (l : List Nat) : (l.filter badC).isEmpty = l.all (Str.ofString "01").cps.contains := by
  have e : (Str.ofString "01").cps = #[48, 49] := by decide
  rw [e]
  induction l with
  | nil => rfl
  | cons c l ih =>
    rw [List.all_cons, ← ih, List.filter_cons]
    by_cases h1 : c = 48
    · subst h1; simp [badC]
    · by_cases h2 : c = 49
      · subst h2; simp [badC]
      · simp [badC, h1, h2]
theorem signs_all (z : Str) : decide (Txt.stripChars z (Str.ofString "01") = Str.ofString "") = (z.cps.toList.filter badC).isEmpty := by
  unfold Txt.stripChars
  rw [strip_none, all_signs]
theorem take_filter_no {α β : Type} {xs : List α} {i : Nat} {x : α} {b : α → Bool} (f : α → β) (h : xs[i]? = some x) (hb : b x = false) : ((xs.take (i + 1)).filter b).map f = ((xs.take i).filter b).map f := by
  rw [List.take_succ, h, List.filter_append]
  simp [hb]
theorem take_filter_yes {α β : Type} {xs : List α} {i : Nat} {x : α} {b : α → Bool} (f : α → β) (h : xs[i]? = some x) (hb : b x = true) : ((xs.take (i + 1)).filter b).map f = ((xs.take i).filter b).map f ++ [f x] := by
  rw [List.take_succ, h, List.filter_append]
  simp [hb]
theorem filter_not_empty {α : Type} (xs : List α) (b : α → Bool) : (xs.filter fun x => !b x).isEmpty = xs.all b := by
  induction xs with
  | nil => rfl
  | cons x xs ih =>
    rw [List.all_cons, List.filter_cons, ← ih]
    cases b x <;> simp
theorem seq_set {te : TE} {u : TS} {D : Ends} {i : Nat} {σ : L2.St} {H : Hp} (h : te σ H fun v H1 => u D (σ.set i (some v)) H1) : tSeq (tAsg te (gName i)) u D σ H := h
theorem dr_par {p q : Addr} {cs : List Int} {ts : TA} {σ : L2.St} {n m : Nat} {H : Hp} {R : Hp → V → Prop} {u : TS} {D : Ends} {i j : Nat} (h : DrA p q cs ts σ n m H 2 R) (s : Sv p q cs n H)
    (f : ∀ v w H2, But p H H2 → Sv p q cs m H2 → R H2 v → R H2 w → u D ((σ.set i (some v)).set j (some w)) H2) : tSeq (tPar i j ts) u D σ H := by
  refine h H (But.refl _ _) s _ ?_
  intro vs H2 b sv len r
  match vs, len with
  | [v, w], _ => exact ⟨v, w, rfl, f v w H2 b sv (r v (by simp)) (r w (by simp))⟩
/-- four truths as data -/
def D4 (a b c d : Bool) : PyData := .list [.bool a, .bool b, .bool c, .bool d]
theorem d4_dp {K : PySem.W.Frag} {H : Hp} {p : Addr} {a b c d : Bool} (h : H p = some (.lst [.bl a, .bl b, .bl c, .bl d])) : Dp K H (.ref p) (D4 a b c d) :=
  .lst (SqL.of h) (.cons (.bl a) (.cons (.bl b) (.cons (.bl c) (.cons (.bl d) .nil))))
theorem d4_show : ∀ a b c d : Bool, (D4 a b c d).showable = true ∧ (D4 a b c d).hasDict = false ∧ (D4 a b c d).depth ≤ 60 ∧ (D4 a b c d).shown.length ≤ sizeLine ∧ SeqAt.shaped (D4 a b c d) = true ∧ PyData.eqv (D4 a b c d) (D4 a b c d) = true := by decide +kernel
theorem vals_rev : ∀ {zs : List V} {ws : List Value}, Vals zs ws → Vals zs.reverse ws.reverse
  | _, _, .nil => .nil
  | _, _, .cons r t => by
    rw [List.reverse_cons, List.reverse_cons]
    exact (vals_rev t).append (.cons r .nil)
theorem yes_if {σ : L2.St} {H : Hp} {A B : Hp → Prop} (h : A H) : tYes σ H fun b H3 => if b = true then A H3 else B H3 := by
  show if true = true then A H else B H
  rw [if_pos rfl]
  exact h
theorem But.mut {p D : Addr} {H H' : Hp} {o : HO} (b : But p H H') (h : H D = none) : But p H (L2.upd H' D o) := fun c u n e => by
  rw [upd_ne (ne_of_none e h)]
  exact b c u n e
theorem Sv.but_upd {p q D : Addr} {cs : List Int} {n m : Nat} {H H0 : Hp} {o : HO} (s : Sv p q cs n H) (hD : D ≠ p) (h0 : H0 D = none) (s0 : Sv p q cs m H0) : Sv p q cs n (L2.upd H D o) := by
  obtain ⟨a, r, h1, h2, h3⟩ := s
  obtain ⟨_, _, _, q0, _⟩ := s0
  have hq : q ≠ D := fun e => by
    rw [e, h0] at q0
    cases q0
  exact ⟨a, r, by rw [upd_ne hD.symm]; exact h1, by rw [upd_ne hq]; exact h2, h3⟩
def IsV (u : V) : Hp → V → Prop := fun _ v => v = u
theorem IsV.stb {u : V} {p : Addr} : Stb p (IsV u) := fun _ _ _ _ h => h
section
variable {p q : Addr} {cs : List Int} {σ : L2.St} {n m l : Nat} {H : Hp}
theorem dr_pow {a b : Int} (h : CPow a b) : Dr p q cs (tOp (rI CPow fun i j => .int (i ^ j.toNat)) (tC (.int a)) (tC (.int b))) σ n n H (IsV (.int (a ^ b.toNat))) :=
  dr_op IsV.stb (dr_c (R := IsV (.int a)) fun _ _ => rfl) (dr_c (R := IsV (.int b)) fun _ _ => rfl) fun x y H1 rx ry Q q => ⟨a, b, rx, ry, h, q _ rfl⟩
theorem dr_neg {a : Int} : Dr p q cs (tUn (rU fun i => .int (-i)) (tC (.int a))) σ n n H (IsV (.int (-a))) :=
  dr_un (dr_c (R := IsV (.int a)) fun _ _ => rfl) fun x H1 rx Q q => ⟨a, rx, q _ rfl⟩
theorem dr_addI {ta tb : TE} {a b : Int} (ha : Dr p q cs ta σ n m H (IsV (.int a))) (hb : Dr p q cs tb σ m l H (IsV (.int b))) : Dr p q cs (tOp (rI0 fun i j => .int (i + j)) ta tb) σ n l H (IsV (.int (a + b))) :=
  dr_op IsV.stb ha hb fun x y H1 rx ry Q q => ⟨a, b, rx, ry, q _ rfl⟩
end
end Own
set_option Elab.async false
set_option linter.all false
set_option maxRecDepth 100000
set_option maxHeartbeats 4000000
namespace Own
open PySem PySem.Spec PyProof.Rows L2
theorem law_callG {P : Program} {w : World} {K : PySem.W.Frag} {mg mb : Str → Option Value} {k : Nat} {fa a : Addr} {fd : FuncData} {x : Str} {sp : Sp} {s₁ : Shared} {vs : List Value} {ns : List Int}
    (inK : K.In s₁.heap) (top : s₁.heap.Ns mainGlobals mg) (bi : s₁.heap.Ns builtinsNs mb) (bt : ∀ x : Str, x ≠ "__name__" → mb x = bootBuiltins x) (lim : s₁.heap.NoLimit) (bare : s₁.gens = #[])
    (at_ : s₁.heap.get? a = some { cls := .type "list", data := .seq vs.toArray }) (iv : IntsAre vs ns) (small : ns.length ≤ sizeLine) (room : Room k callerA)
    (F : ∀ base : Heap, K.In base → base.Ns mainGlobals mg → FnG P w K mg base CX0 k fa fd [x] sp) (bnd : ∀ (s : Shared) (u : Value), BindsTo s fd ⟨[u], []⟩ [(x, u)])
    (say : ∀ H : Hp, Only H → SqL K H a (ns.map V.int) → sp [.ref a] H (fun v _ => v = .bl true) fun _ _ _ => False) :
    codeAny (model P w) callerA (.call (.ref fa) ⟨[.ref a], []⟩) (fun r s' => r = .ok (.ret (.bool true)) ∧ OldK s₁.heap s'.heap ∧ s'.os = s₁.os ∧ AllBare s'.gens) s₁ := by
  have rv := vals_ints iv
  have lenV := iv.length
  have main : ∀ H : Hp, Only H → SqL K H a (ns.map V.int) → HOk P w H s₁.heap → (∀ b, H b ≠ none → b = a) → (H a ≠ none → K.lookup a = none) →
      codeAny (model P w) callerA (.call (.ref fa) ⟨[.ref a], []⟩) (fun r s' => r = .ok (.ret (.bool true)) ∧ OldK s₁.heap s'.heap ∧ s'.os = s₁.os ∧ AllBare s'.gens) s₁ := by
    intro H only sq hok just free
    have notA : ∀ {b : Addr} {o : Obj} {es : Array DictEntry} {ep : Nat}, s₁.heap.get? b = some o → o.data = .dict es ep → H b = none := by
      intro b o es ep e d
      by_cases q : H b = none
      · exact q
      · cases just b q
        rw [at_] at e
        cases e
        cases (show Data.seq vs.toArray _ = Data.dict es ep from d)
    have ns_ : ∀ {b : Addr} {m : Str → Option Value}, s₁.heap.Ns b m → (hidT s₁.heap H).Ns b m := by
      rintro b m ⟨o, es, ep, e, d, r⟩
      exact ⟨o, es, ep, hidT_get e (notA e d), d, r⟩
    have k_ : K.In (hidT s₁.heap H) := by
      intro b o e
      refine hidT_get (inK b o e) ?_
      by_cases q : H b = none
      · exact q
      · cases just b q
        rw [free q] at e
        cases e
    obtain ⟨mc, l1, l2⟩ := lim
    have M : Mod K mg (hidT s₁.heap H) := ⟨k_, ns_ top, ⟨mb, ns_ bi, bt⟩, ⟨mc, ns_ l1, l2⟩⟩
    have E0 : Env0 P w K mg (hidT s₁.heap H) callerA [] s₁ H :=
      ⟨rfl, M, fun b o e => of_hidT e, Nat.le_of_eq (hidT_size _ _), trivial, fun b hb => (List.not_mem_nil (show b ∈ ([] : List Addr) from hb)).elim, hok, .of_eq bare⟩
    refine codeAny_mono ((F _ k_ (ns_ top)).run callerA [] s₁ H ⟨[.ref a], []⟩ [.ref a] [.ref a] _ _ room rfl E0 (bnd s₁ (.ref a)) (.cons rfl .nil) (say H only sq)) ?_
    intro r s' h
    match r, h with
    | .error e, h => exact h.elim
    | .ok .next, h => exact h.elim
    | .ok .brk, h => exact h.elim
    | .ok .cont, h => exact h.elim
    | .ok (.ret u), h =>
      obtain ⟨v, G, os, br, un, hk2, r1, q⟩ := h
      cases (show v = V.bl true from q)
      cases (show u = Value.bool true from r1)
      refine ⟨rfl, OldK.of_keep ?_, os, br⟩
      intro b o e
      by_cases q : H b = none
      · exact un.keep b o e q (fun z => (List.not_mem_nil (show b ∈ ([] : List Addr) from z)).elim) (by simp)
      · rcases only b with z | ⟨ob, xs, z⟩
        · exact (q z).elim
        · have y1 := (hok b _ z).1
          have y2 := (hk2 b _ (un.frzs b ob _ z)).1
          rw [e] at y1
          cases y1
          exact y2
  have sz : (ns.map V.int).length ≤ sizeLine := by rw [List.length_map]; exact small
  by_cases hk : K.lookup a = none
  · have T : ∀ b u, (fun b => if b = a then some (HO.frz { cls := .type "list", data := .seq vs.toArray } (.lst (ns.map V.int))) else none) b = some u →
        b = a ∧ u = .frz { cls := .type "list", data := .seq vs.toArray } (.lst (ns.map V.int)) := by
      intro b u z
      by_cases hb : b = a
      · exact ⟨hb, (Option.some.inj ((if_pos hb).symm.trans z)).symm⟩
      · cases (if_neg hb).symm.trans z
    refine main (fun b => if b = a then some (HO.frz { cls := .type "list", data := .seq vs.toArray } (.lst (ns.map V.int))) else none) (fun b => ?_) (.inl (.inr ⟨_, if_pos rfl⟩)) (fun b u z => ?_) (fun b z => ?_) fun _ => hk
    · by_cases hb : b = a
      · exact .inr ⟨_, _, if_pos hb⟩
      · exact .inl (if_neg hb)
    · obtain ⟨rfl, rfl⟩ := T b u z
      exact ⟨at_, sz, vs, _, rv, at_⟩
    · by_cases hb : b = a
      · exact hb
      · exact (z (if_neg hb)).elim
  · obtain ⟨o, ho⟩ := Option.ne_none_iff_exists'.mp hk
    have e := inK a o ho
    rw [at_] at e
    cases e
    exact main (fun _ => none) (fun _ => .inl rfl) (.inr ⟨_, vs.toArray, _, ho, rfl, rfl, rfl, by rw [List.size_toArray, lenV]; exact small, by simpa using rv⟩)
      (fun b u z => by cases (show (none : Option HO) = some u from z)) (fun b z => (z rfl).elim) (fun z => (z rfl).elim)
theorem walk_ofG {l : PySem.W.OpenLaw} {n k : Nat} {q : Program} {loose : List Str} {XP : (Str → Option Value) → Heap → Prop} {YP : World → Heap → Prop} {d : DefRec} {K : Params → PySem.W.Frag} {sp : PySem.W.Frag → Sp} {x : Str}
    (hn : l.most = some n) (hn2 : n ≤ sizeLine) (hdf : d.params.defaults = []) (room : Room k callerA) (hY : ∀ (w : World) (h : Heap), YP w h → (K w.params).In h)
    (F : ∀ (w : World) (mg : Str → Option Value) (fa : Addr) (h : Heap), (K w.params).In h → h.Ns mainGlobals mg → mg d.name = some (.ref fa) →
      ∃ fd : FuncData, (∀ (s : Shared) (u : Value), BindsTo s fd ⟨[u], []⟩ [(x, u)]) ∧
        ∀ base : Heap, (K w.params).In base → base.Ns mainGlobals mg → FnG l.prog w (K w.params) mg base CX0 k fa fd [x] (sp (K w.params)))
    (say : ∀ (K : PySem.W.Frag) (H : Hp) (a : Addr) (ns : List Int), ns.length ≤ n → (∀ z ∈ ns, Builtin.Int.intBits z ≤ 1048576) → Only H → SqL K H a (ns.map V.int) → sp K [.ref a] H (fun v _ => v = .bl true) fun _ _ _ => False) :
    PySem.W.WalkO q loose XP YP l.row.toRowW d [] (fun f vs => PySem.call f vs) := by
  refine Att.attach_callB hn hdf ?_
  intro w s₀ s₁ mg mb fa o pm cd doc a vs ns G Y ho hd hcd hmg hobj iv hlen hbits hg
  have inK := hY w _ Y
  obtain ⟨fd, hb, hF⟩ := F w mg fa _ inK G.T.g hmg
  exact law_callG inK G.T.g G.T.b G.T.builtins G.T.nolimit hg hobj iv (Nat.le_trans hlen hn2) room hF hb (fun H only sq => say _ H a ns hlen hbits only sq)
end Own
set_option Elab.async false
set_option linter.all false
set_option maxRecDepth 100000
set_option maxHeartbeats 4000000
/-! Exceptions of own classes as values: made by place and by name, their fields, what they are. -/
namespace PySem
namespace HandSPX
open PySem.W PySem.Calls PyProof.Rows
section
variable {prog : Program} {w : World} {A : Around} {E : Value → Shared → Prop} {R : Result → Shared → Prop} {h : Heap} {g : Array GenState} {d : Drawn} {t : Nat} {os : OsState} {M : Model}
variable {nm q : Str} {C N : Addr} {bs bm bmB : List Value} {hdct : Bool} {sn : List Str} {sub : List Value} {ab : Bool} {col : Option Bool} {dd : Option Addr} {k0 k1 k2 k3 k5 : Option Value} {B newId initId : String}
theorem own_check_new_kw (F : ExcBaseFacts B newId initId bmB) (hT : ∀ X : String, bm.contains (.type X) = bmB.contains (.type X)) {rest : List Value} {kw : List (Str × Value)} {Q : Unit → Shared → Prop}
    (oC : h.get? C = some (excClassObj nm q C N bs bm hdct sn sub ab col dd k0 k1 k2 k3 k5 newId)) (fin : Q () ⟨h, g, d, t, os⟩) : wpAny M A (checkBuiltinCall newId ⟨.ref C :: rest, kw⟩) Q E ⟨h, g, d, t, os⟩ := by
  have inB : (Value.ref C :: bm).contains (.type B) = true := by
    rw [List.contains_cons, hT, F.hasB]
    exact Bool.or_true _
  have st := F.noStar
  simp only [checkBuiltinCall, F.newKind, F.newSplit, F.newRow]
  repeat (first
    | refine wpAny_loadPart_at oC ?_
    | (refine wpAny_isSubtype_exc oC ?_; rw [inB])
    | refine wpAny_staticBase_exc oC ?_
    | refine wpAny_madeBy_exc oC ?_
    | simp only [bne_self_eq_false, Bool.false_eq_true, if_false]
    | wp_step)
  exact fin
theorem own_new_kw (F : ExcBaseFacts B newId initId bmB) (hT : ∀ X : String, bm.contains (.type X) = bmB.contains (.type X)) {rest : List Value} {kw : List (Str × Value)}
    (oC : h.get? C = some (excClassObj nm q C N bs bm hdct sn sub ab col dd k0 k1 k2 k3 k5 newId))
    (fin : R (.ok (.ret (.ref (h.objs.size + 1)))) ⟨(h.push (W.kdv_tup rest)).push (excO C h.objs.size), g, d, t, os⟩) (few : rest.length ≤ sizeLine) :
    codeAny (model prog w) A (.builtin newId ⟨.ref C :: rest, kw⟩) R ⟨h, g, d, t, os⟩ := by
  have e0 := F.ends
  have inB : (Value.ref C :: bm).contains (.type B) = true := by
    rw [List.contains_cons, hT, F.hasB]
    exact Bool.or_true _
  have inA : (Value.ref C :: bm).contains (.type "AttributeError") = false := by
    rw [List.contains_cons, hT, F.noAttr]
    rfl
  have inN : (Value.ref C :: bm).contains (.type "NameError") = false := by
    rw [List.contains_cons, hT, F.noName]
    rfl
  refine codeAny_builtinAt F.entry ?_
  unfold Builtin.«BaseException.__new__»
  refine wpAt_bind ?_
  show wpAt _ _ _ (stack >>= _) _ _ _
  refine wpAt_bind (wpAt_stack fun p below => wpAt_of_wpAny ?_)
  wp_walk
  refine wpAt_of_wpAny ?_
  rw [F.owner]
  repeat (first
    | with_reducible refine wpAny_madeHere_exc F.canon oC ?_
    | with_reducible refine wpAny_loadPart_at oC ?_
    | (with_reducible refine wpAny_isSubtype_exc oC ?_; first | rw [inB] | rw [inA] | rw [inN])
    | wp_step)
  show R _ _
  rw [Heap.size_push]
  exact fin
theorem own_type_call_kw (F : ExcBaseFacts B newId initId bmB) (hT : ∀ X : String, bm.contains (.type X) = bmB.contains (.type X)) {rest : List Value} {kw : List (Str × Value)} {fI : Addr} {Q : Fin → Shared → Prop}
    (oC : h.get? C = some (excClassObj nm q C N bs bm hdct sn sub ab col dd k0 k1 k2 k3 k5 newId))
    (li : W.Looks (model prog w) h (typeLookup (.ref C) "__init__") (some (.ref fI))) (lb : ∀ self, W.Looks (model prog w) h (bindSpecial (.ref fI) self) (.ref fI, [self])) (few : rest.length ≤ sizeLine)
    (run : codeAny (model prog w) A (.call (.ref fI) ⟨.ref (h.objs.size + 1) :: rest, kw⟩)
      (fun r s' => match r with | .ok (.ret v) => v = .none ∧ Q (.done (.ret (.ref (h.objs.size + 1)))) s' | .ok _ => False | .error e => E e s')
      ⟨(h.push (W.kdv_tup rest)).push (excO C h.objs.size), g, d, t, os⟩) :
    wpAny (model prog w) A (Builtin.«type.__call__» ⟨.ref C :: rest, kw⟩) Q E ⟨h, g, d, t, os⟩ := by
  repeat (first
    | with_reducible refine wpAny_loadPart_at oC ?_
    | with_reducible refine wpAny_madeBy_exc oC ?_
    | wp_step)
  refine codeAny_call_builtin_code (Code.quiet_builtin _ F.quiet) (own_check_new_kw F hT oC ?_)
  refine own_new_kw F hT oC ?_ few
  show wpAny _ _ _ _ _ _
  have kp : ∀ b o, h.get? b = some o → ((h.push (W.kdv_tup rest)).push (excO C h.objs.size)).get? b = some o := fun b o e => Heap.get?_push_of_some _ (Heap.get?_push_of_some _ e)
  have oC1 := kp _ _ oC
  have oE : ((h.push (W.kdv_tup rest)).push (excO C h.objs.size)).get? (h.objs.size + 1) = some (excO C h.objs.size) := by heap_get
  have inC : (Value.ref C :: bm).contains (.ref C) = true := by simp
  have l1 := li.keeps kp
  have l2 := (lb (.ref (h.objs.size + 1))).keeps kp
  unfold isInstance
  repeat (first
    | with_reducible refine wpAny_loadPart_at oE ?_
    | (with_reducible refine wpAny_isSubtype_exc oC1 ?_; rw [inC])
    | wp_step)
  show wpAny _ _ (typeLookup (.ref C) _) _ _ _
  refine l1.at ?_
  refine wpAny_holding (wpAny_bind (l2.at ?_))
  refine wpAny_bind (wpAny_call (codeAny_mono run fun r s' z => ?_))
  rcases r with e | (v | _ | _ | _) <;> first | exact z | exact z.elim | skip
  obtain ⟨rfl, z⟩ := z
  first
    | exact wpAny_pure (wpAny_pure z)
    | (wp_walk; exact z)
theorem own_call_kw (F : ExcBaseFacts B newId initId bmB) (hT : ∀ X : String, bm.contains (.type X) = bmB.contains (.type X)) {rest : List Value} {kw : List (Str × Value)} {fI : Addr}
    (oC : h.get? C = some (excClassObj nm q C N bs bm hdct sn sub ab col dd k0 k1 k2 k3 k5 newId))
    (li : W.Looks (model prog w) h (typeLookup (.ref C) "__init__") (some (.ref fI))) (lb : ∀ self, W.Looks (model prog w) h (bindSpecial (.ref fI) self) (.ref fI, [self])) (few : rest.length ≤ sizeLine)
    (run : codeAny (model prog w) (A.under (.builtin "type.__call__" ⟨.ref C :: rest, kw⟩)) (.call (.ref fI) ⟨.ref (h.objs.size + 1) :: rest, kw⟩) (W.InitBack (h.objs.size + 1) R)
      ⟨(h.push (W.kdv_tup rest)).push (excO C h.objs.size), g, d, t, os⟩) :
    codeAny (model prog w) A (.call (.ref C) ⟨rest, kw⟩) R ⟨h, g, d, t, os⟩ := by
  have f1 := tc_lookup
  have f2 := tc_bind (.ref C)
  have ty : (⟨h, g, d, t, os⟩ : Shared).TypeIs (.ref C) "type" := ⟨_, oC, rfl⟩
  refine codeAny_of_tree ?_
  show wpAny _ _ (callAny (.ref C) _) _ _ _
  repeat (any_goals (first | assumption | with_reducible refine wpAny_loadPart_at oC ?_ | wp_step))
  refine ⟨rfl, ?_⟩
  refine codeAny_call_builtin_at (Code.quiet_builtin _ (by decide +kernel)) entry_typeCall (wpAny_check_type_call_sub oC (own_type_call_kw F hT oC li lb few ?_))
  refine codeAny_mono run fun r s' z => ?_
  rcases r with e | (v | _ | _ | _) <;> exact z
end
end HandSPX
end PySem

set_option Elab.async false
set_option linter.all false
set_option maxRecDepth 100000
set_option maxHeartbeats 4000000

namespace Own
open PySem PySem.Spec PyProof.Rows L2
/-- what the written part says of an exception class of the program's own -/
structure ExC (K : PySem.W.Frag) (C : Addr) : Prop where
  o : OexC K C
  ga : PySem.W.findIn K (.ref C) "__getattribute__" = some (some (.builtin "BaseException.__getattribute__"))
  gg : PySem.W.findIn K (.ref C) "__getattr__" = some none
  hd : PySem.W.hasDictIn K C = true
  cA : PySem.W.findIn K (.ref C) "__class__" = some (some (.builtin "object.__class__"))
  cg : PySem.W.specialIn K (.builtin "object.__class__") "__get__" = some (some (.builtin "getset_descriptor.__get__"))
  ct : PySem.W.takesIn K (.builtin "object.__class__") = some true
  cm : PySem.W.mroIn K C (.type "object") = some true
/-- an exception that was caught and is held, of the class cls, its own dict at d -/
def exv (cls : Value) (d : Option Addr) (a : Addr) : HO := .ext fun h => ∃ (oe : Obj) (vs : Array Value), h.get? a = some oe ∧ Zc cls d oe ∧ oe.data = .fields vs
/-- at a an exception of the class at C, its fields fs (in the dict at d) -/
def ExAt (H : Hp) (a C d : Addr) (fs : List (Str × V)) : Prop := (H a = some (exo a C (some d)) ∨ H a = some (exv (.ref C) (some d) a)) ∧ (H d = some (exd d fs) ∨ H d = some (.xd fs))
theorem ExAt.mono {H H' : Hp} {a C d : Addr} {fs : List (Str × V)} (s : Same H H') (h : ExAt H a C d fs) : ExAt H' a C d fs :=
  ⟨h.1.imp (s _ _) (s _ _), h.2.imp (s _ _) (s _ _)⟩
section
variable {X : Cx} {pins : List (Addr × Obj)} {σ : L2.St} {H : Hp} {s : Shared}
theorem ExAt.inst {a C d : Addr} {fs : List (Str × V)} (I : Inv X pins σ H s) (h : ExAt H a C d fs) :
    ∃ (oe od : Obj), PySem.W.InstAt s.heap a oe C (some od) ∧ ∃ mA : Str → Option Value, (∀ name, PySem.W.lookIn name od = some (mA name)) ∧ ∀ f, RelO (fs.lookup f) (mA f) := by
  obtain ⟨h1, h2⟩ := h
  obtain ⟨mA, hn, rel⟩ : ∃ mA, s.heap.Ns1 d mA ∧ ∀ f, RelO (fs.lookup f) (mA f) := by
    rcases h2 with h2 | h2
    · exact exd_at I.hok h2
    · exact I.hok d _ h2
  obtain ⟨od, ho, hl⟩ := lookIn_ns hn
  obtain ⟨oe, vs, he, hz, hdt⟩ : ∃ (oe : Obj) (vs : Array Value), s.heap.get? a = some oe ∧ Zc (.ref C) (some d) oe ∧ oe.data = .fields vs := by
    rcases h1 with h1 | h1
    · obtain ⟨t1, e⟩ := exo_at I.hok h1
      exact ⟨_, _, e, ⟨rfl, rfl⟩, rfl⟩
    · obtain ⟨q, _, _⟩ := (show ObjOk X.prog X.w H s.heap a (exv (.ref C) (some d) a) from I.hok a _ h1)
      exact q
  refine ⟨oe, od, ⟨he, hz.1, ?_, ?_⟩, mA, hl, rel⟩
  · unfold PySem.W.notCls
    rw [hdt]
  · rw [hz.2]
    exact ho
end
/-- isinstance(e, c) -/
def rIsX (K : PySem.W.Frag) : List V → Hp → VK → Prop := fun xs H Q => ∃ (a C d : Addr) (fs : List (Str × V)) (c : V) (cv : Value) (b : Bool), xs = [.ref a, c] ∧ ExC K C ∧ ExAt H a C d fs ∧ ClsV c cv ∧ PySem.W.kitOne K (.ref C) cv = some b ∧ Q (.bl b) H
theorem call_isX {X : Cx} : CallR X (.builtin "isinstance") (rIsX X.K) := by
  intro pins s σ H xs us Q I r h
  obtain ⟨a, C, d, fs, c, cv, b, rfl, T, he, hc, hk, q⟩ := h
  match us, r with
  | [u1, u2], .cons r1 (.cons r2 .nil) =>
    cases (show u1 = Value.ref a from r1)
    cases hc.eq r2
    obtain ⟨oe, od, J, _⟩ := he.inst I
    have cl : (PySem.W.clsIn X.K C).isSome = true := by
      obtain ⟨cd, z, _⟩ := PySem.W.any_some T.hd
      rw [z]
      rfl
    exact PySem.W.kia_one (PySem.W.kitx_exc (od := some od) cl T.ga T.gg T.o.exC T.cA T.cg T.ct T.cm) I.kIn J hk (fun z => nomatch z) fun tk => ⟨.bl b, H, I.kept (t' := tk) fun _ _ z => z, rfl, q⟩
/-- e.f -/
def tExF (K : PySem.W.Frag) (f : Str) (te : TE) : TE := fun σ H Q => te σ H fun x H1 => ∃ (a C d : Addr) (fs : List (Str × V)) (v : V), x = .ref a ∧ ExC K C ∧ PySem.W.findIn K (.ref C) f = some none ∧ ExAt H1 a C d fs ∧ fs.lookup f = some v ∧ Q v H1
theorem pe_exf {X : Cx} {e : Expr} {f : Str} {te : TE} {pos : Pos} (he : PE X e te) (hb : attributeBase e f X.env (eval e X.env) = eval e X.env := by rfl) : PE X (.Attribute e f pos) (tExF X.K f te) := by
  constructor
  intro pins s σ H Q I h
  refine attr_of hb (thn (he.run pins s σ H _ I h) ?_)
  rintro u s1 ⟨x, H1, I1, rx, a, C, d, fs, v, rfl, T, no, ea, l, q⟩
  cases (show u = Value.ref a from rx)
  obtain ⟨oe, od, J, mA, hl, rel⟩ := ea.inst I1
  obtain ⟨y, hy, ry⟩ := RelO.some_of (v := v) (o := mA f) (by rw [← l]; exact rel f)
  exact HandSPX.exc_get I1.kIn J T.ga T.gg T.o.exC (PySem.W.findObj_own T.hd no rfl (by rw [hl, hy])) (handed_of ry) ⟨v, H1, I1.tok _, ry, q⟩
section
variable {X : Cx} {CX : CXT} {k n : Nat} {fI C : Addr} {fd : FuncData} {ps ks : List Str} {sp : Sp} {x : Str} {p pos : Pos} {e : Expr} {es : List Expr} {kws : List Keyword} {t tk : TA} {g : List Value → List Value → List Value} {gV : List V → List V → List V}
theorem run_exn {pins : List (Addr × Obj)} {σ : L2.St} {H : Hp} {s : Shared} {Q : VK} {us ws : List Value} {vs zs : List V} (T : OexC X.K C) (iC : PySem.W.findIn X.K (.ref C) "__init__" = some (some (.ref fI)))
    (tI : PySem.W.typeIn X.K (.ref fI) = some (.type "function")) (G0 : FnOk X.prog X.w X.K X.mg X.base CX k fI fd ps sp) (room : Room (k + 1) X.A) (hb : KBn X.K fd ps (n + 1) ks g gV) (hx : Passes CX X (fun _ _ _ => False))
    (I : Inv X pins σ H s) (r : Vals vs us) (rz : Vals zs ws) (l1 : vs.length = n) (l2 : zs.length = ks.length) (few : n ≤ 1000)
    (h : ∀ a, H a = none → sp (gV (.ref a :: vs) zs) (upd H a (exo a C none)) (fun v H2 => v = .non ∧ Q (.ref a) H2) (fun _ _ _ => False)) :
    wpAny (model X.prog X.w) X.A (call (.ref C) us (ks.zip ws)) (EP X pins σ Q) X.xe s := by
  obtain ⟨nm, q, N, bs, bm, sn, sub, ab, col, dd, k0, k1, k2, k3, k5, hC, hbm⟩ := T.cls
  obtain ⟨hp, gs, dr, tk, os⟩ := s
  have le : hp.objs.size ≤ hp.objs.size + 1 := Nat.le_succ _
  have want := h (hp.objs.size + 1) (I.hok.fresh le)
  have kp : ∀ b o, hp.get? b = some o → ((hp.push (PySem.W.kdv_tup us)).push (PySem.HandSPX.excO C hp.objs.size)).get? b = some o := fun b o z => Heap.get?_push_of_some _ (Heap.get?_push_of_some _ z)
  have at_ : ((hp.push (PySem.W.kdv_tup us)).push (PySem.HandSPX.excO C hp.objs.size)).get? (hp.objs.size + 1) = some (PySem.HandSPX.excO C hp.objs.size) := by heap_get
  have J : Inv X pins σ (upd H (hp.objs.size + 1) (exo (hp.objs.size + 1) C none)) ⟨(hp.push (PySem.W.kdv_tup us)).push (PySem.HandSPX.excO C hp.objs.size), gs, dr, tk, os⟩ :=
    I.laid (t' := tk) (h' := (hp.push (PySem.W.kdv_tup us)).push (PySem.HandSPX.excO C hp.objs.size)) kp le (exo_ok at_)
  have r1 : Vals (V.ref (hp.objs.size + 1) :: vs) (Value.ref (hp.objs.size + 1) :: us) := .cons rfl r
  have r2 := hb.rel r1 rz
  have n1 : (Value.ref (hp.objs.size + 1) :: us).length = n + 1 := r1.length.symm.trans (congrArg Nat.succ l1)
  have n2 : ws.length = ks.length := rz.length.symm.trans l2
  have fewU : us.length ≤ sizeLine := by
    rw [← Paired.length r, l1, sizeLine_eq]
    omega
  refine wpAny_call (PySem.HandSPX.own_call_kw PySem.F.excBase_ValueError (fun Y => PySem.HandSPX.refsVE_contains Y bm hbm) (I.kIn _ _ hC) (PySem.W.looks_findIn I.kIn iC) (fun self => PySem.W.bind_fn I.kIn self tI) fewU ?_)
  refine codeAny_mono (G0.run _ X.stack _ _ ⟨Value.ref (hp.objs.size + 1) :: us, ks.zip ws⟩ _ _ _ (fun _ _ _ => False) (room.make C us (ks.zip ws)) (J.env0.make C us (ks.zip ws)) (hb.to _ _ ws J.kIn n1 n2) r2 want) ?_
  intro r s' z
  match r, z with
  | .error e, z => exact hx pins σ _ _ e s' J z
  | .ok .next, z => exact z.elim
  | .ok .brk, z => exact z.elim
  | .ok .cont, z => exact z.elim
  | .ok (.ret u), z =>
    obtain ⟨v, H2, J2, rv, ev, q3⟩ := J.after z
    subst ev
    exact ⟨rv, .ref _, H2, J2, rfl, q3⟩
/-- C(e, ..) -/
def tExn (C : Addr) (n : Nat) (sp : Sp) (gV : List V → List V → List V) (t tk : TA) (m : Nat) : TE := fun σ H Q => t σ H fun vs H1 => tk σ H1 fun zs H2 => vs.length = n ∧ zs.length = m ∧ n ≤ 1000 ∧
  ∀ a, H2 a = none → sp (gV (.ref a :: vs) zs) (upd H2 a (exo a C none)) (fun v H3 => v = .non ∧ Q (.ref a) H3) (fun _ _ _ => False)
theorem pe_exn (T : OexC X.K C) (iC : PySem.W.findIn X.K (.ref C) "__init__" = some (some (.ref fI))) (tI : PySem.W.typeIn X.K (.ref fI) = some (.type "function")) (G0 : FnOk X.prog X.w X.K X.mg X.base CX k fI fd ps sp) (room : Room (k + 1) X.A)
    (hb : KBn X.K fd ps (n + 1) [] g gV) (hx : Passes CX X (fun _ _ _ => False)) (hm : X.mg x = some (.ref C)) (ha : PA X (e :: es) t) (hg : Gl X x := by rfl)
    (hdb : (x == ("__debug__" : Str)) = false := by decide) (he : starEach (e :: es) X.env = (false, eval e X.env) :: starEach es X.env := by rfl) (hpl : (backTo pos (starEach es X.env)).any (·.1) = false := by rfl) :
    PE X (.Call (.Name x p) (e :: es) [] pos) (tExn C n sp gV t tNil 0) := by
  constructor
  intro pins s σ H Q I h
  refine wpAny_Call_Name_kw (ld_glob I hg hm ?_ hdb)
  refine PySem.W.callWith_K (h₀ := X.base) I.ok.mod.kin T.kC (thn (ha.run pos pins s σ H _ I h) ?_) he hpl
  rintro us s1 ⟨vs, H1, I1, r, l1, l2, few, q⟩
  exact ⟨I1.kIn, run_exn (ws := []) (zs := []) T iC tI G0 room hb hx I1 r .nil l1 rfl few q⟩
theorem pe_exnK (T : OexC X.K C) (iC : PySem.W.findIn X.K (.ref C) "__init__" = some (some (.ref fI))) (tI : PySem.W.typeIn X.K (.ref fI) = some (.type "function")) (G0 : FnOk X.prog X.w X.K X.mg X.base CX k fI fd ps sp) (room : Room (k + 1) X.A)
    (hb : KBn X.K fd ps 1 ks g gV) (hx : Passes CX X (fun _ _ _ => False)) (hm : X.mg x = some (.ref C)) (hkw : PK X kws tk) (hg : Gl X x := by rfl) (hall : (backToKw pos (keywordEach kws X.env)).all (·.1.isSome) = true := by rfl)
    (hks : (backToKw pos (keywordEach kws X.env)).filterMap (·.1) = ks := by rfl) (hdb : (x == ("__debug__" : Str)) = false := by decide)
    (hpl : ((backTo pos (starEach [] X.env)).any (·.1) || (backToKw pos (keywordEach kws X.env)).any (·.1.isNone)) = false := by rfl) :
    PE X (.Call (.Name x p) [] kws pos) (tExn C 0 sp gV tNil tk ks.length) := by
  constructor
  intro pins s σ H Q I h
  refine wpAny_Call_Name_kw (ld_glob I hg hm ?_ hdb)
  refine PySem.W.callWith_KW0 (h₀ := X.base) I.ok.mod.kin T.kC hall (thn (hkw.run pos pins s σ H _ I h) ?_) hpl
  rintro ws s2 ⟨zs, H2, I2, rz, l1, l2, few, q⟩
  refine ⟨I2.kIn, ?_⟩
  rw [hks]
  exact run_exn (vs := []) (us := []) T iC tI G0 room hb hx I2 .nil rz rfl l2 few q
end
/-- a class of exceptions, with all that making one wants: n fields, by place and by the names ks -/
structure Xcl (P : Program) (w : World) (K : PySem.W.Frag) (mg : Str → Option Value) (base : Heap) (x : Str) (C : Addr) (n : Nat) (ks : List Str) (gV : List V → List V → List V) (sp : Sp) : Prop where
  t : ExC K C
  at_ : mg x = some (.ref C)
  ex : ∃ fI fd ps g gK, PySem.W.findIn K (.ref C) "__init__" = some (some (.ref fI)) ∧ PySem.W.typeIn K (.ref fI) = some (.type "function") ∧ FnOk P w K mg base CX0 1 fI fd ps sp ∧
    KBn K fd ps (n + 1) [] g (fun vs _ => vs) ∧ KBn K fd ps 1 ks gK gV
theorem pe_xcl {X : Cx} {x : Str} {C : Addr} {n : Nat} {ks : List Str} {gV : List V → List V → List V} {sp : Sp} {p pos : Pos} {e : Expr} {es : List Expr} {t : TA} (T : Xcl X.prog X.w X.K X.mg X.base x C n ks gV sp) (room : Room 2 X.A) (ha : PA X (e :: es) t) (hg : Gl X x := by rfl)
    (hdb : (x == ("__debug__" : Str)) = false := by decide) (he : starEach (e :: es) X.env = (false, eval e X.env) :: starEach es X.env := by rfl) (hpl : (backTo pos (starEach es X.env)).any (·.1) = false := by rfl) :
    PE X (.Call (.Name x p) (e :: es) [] pos) (tExn C n sp (fun vs _ => vs) t tNil 0) := by
  obtain ⟨fI, fd, ps, g, gK, iC, tI, F, b1, b2⟩ := T.ex
  exact pe_exn T.t.o iC tI F room b1 pass0 T.at_ ha hg hdb he hpl
theorem pe_xclK {X : Cx} {x : Str} {C : Addr} {n : Nat} {ks : List Str} {gV : List V → List V → List V} {sp : Sp} {p pos : Pos} {kws : List Keyword} {tk : TA} (T : Xcl X.prog X.w X.K X.mg X.base x C n ks gV sp) (room : Room 2 X.A) (hkw : PK X kws tk) (hg : Gl X x := by rfl)
    (hall : (backToKw pos (keywordEach kws X.env)).all (·.1.isSome) = true := by rfl)
    (hks : (backToKw pos (keywordEach kws X.env)).filterMap (·.1) = ks := by rfl) (hdb : (x == ("__debug__" : Str)) = false := by decide)
    (hpl : ((backTo pos (starEach [] X.env)).any (·.1) || (backToKw pos (keywordEach kws X.env)).any (·.1.isNone)) = false := by rfl) :
    PE X (.Call (.Name x p) [] kws pos) (tExn C 0 sp gV tNil tk ks.length) := by
  obtain ⟨fI, fd, ps, g, gK, iC, tI, F, b1, b2⟩ := T.ex
  exact pe_exnK T.t.o iC tI F room b2 pass0 T.at_ hkw hg hall hks hdb hpl
/-- __init__ of one field, of two -/
def spI1 (K : PySem.W.Frag) (f : Str) : Sp := fun vs H Q _ => ∃ (a C : Addr) (y : V), vs = [.ref a, y] ∧ OexC K C ∧ PySem.W.findIn K (.ref C) f = some none ∧ H a = some (exo a C none) ∧
  ∀ dx, H dx = none → dx ≠ a → Q .non (upd (upd H dx (exd dx [(f, y)])) a (exo a C (some dx)))
def spI2 (K : PySem.W.Frag) (f g : Str) : Sp := fun vs H Q _ => ∃ (a C : Addr) (y z : V), vs = [.ref a, y, z] ∧ OexC K C ∧ PySem.W.findIn K (.ref C) f = some none ∧ PySem.W.findIn K (.ref C) g = some none ∧ H a = some (exo a C none) ∧
  ∀ dx, H dx = none → dx ≠ a → Q .non (upd (upd (upd H dx (exd dx [(f, y)])) a (exo a C (some dx))) dx (exd dx [(g, z), (f, y)]))
/-- a class or a def of the top as a value -/
theorem pe_gr {X : Cx} {x : Str} {a : Addr} {pos : Pos} (h : X.mg x = some (.ref a)) (hg : Gl X x := by rfl) (hd : (x == ("__debug__" : Str)) = false := by decide) : PE X (.Name x pos) (tC (.ref a)) := pe_glob hg h rfl hd
end Own
set_option Elab.async false
set_option linter.all false
set_option maxRecDepth 100000
set_option maxHeartbeats 4000000
namespace K00
open PySem PySem.Spec PyProof.Rows L2 Own
def top (i : Nat) : Stmt := PySem.Challenge.pw_duetickers_k00_errors_of_the_package.main.body.getD i (.Pass ⟨0, 0, 0, 0⟩)
abbrev s__law_bell : Stmt := top 14
abbrev N__law_bell : List Str := ["script", "cell"]
theorem sc__law_bell : FnScope N__law_bell ["script"] (defScope s__law_bell) := ⟨rfl, rfl, rfl, by decide +kernel, rfl, by decide +kernel, by decide +kernel⟩
abbrev s__law_toll : Stmt := top 15
abbrev N__law_toll : List Str := ["bell", "many", "rest", "at", "cell", "mixed"]
theorem sc__law_toll : FnScope N__law_toll ["bell", "many"] (defScope s__law_toll) := ⟨rfl, rfl, rfl, by decide +kernel, rfl, by decide +kernel, by decide +kernel⟩
abbrev s__law_one : Stmt := top 16
abbrev N__law_one : List Str := ["bell", "some"]
theorem sc__law_one : FnScope N__law_one ["bell", "some"] (defScope s__law_one) := ⟨rfl, rfl, rfl, by decide +kernel, rfl, by decide +kernel, by decide +kernel⟩
abbrev s__law_value : Stmt := top 17
abbrev N__law_value : List Str := ["bell", "deep", "way", "turn"]
theorem sc__law_value : FnScope N__law_value ["bell", "deep"] (defScope s__law_value) := ⟨rfl, rfl, rfl, by decide +kernel, rfl, by decide +kernel, by decide +kernel⟩
abbrev s__law_kinds : Stmt := top 18
abbrev N__law_kinds : List Str := ["error", "some"]
theorem sc__law_kinds : FnScope N__law_kinds ["error"] (defScope s__law_kinds) := ⟨rfl, rfl, rfl, by decide +kernel, rfl, by decide +kernel, by decide +kernel⟩
abbrev s__law_is_odd : Stmt := top 19
abbrev N__law_is_odd : List Str := ["error"]
theorem sc__law_is_odd : FnScope N__law_is_odd ["error"] (defScope s__law_is_odd) := ⟨rfl, rfl, rfl, by decide +kernel, rfl, by decide +kernel, by decide +kernel⟩
abbrev s_law : Stmt := top 20
abbrev N_law : List Str := ["script", "bell", "one", "other", "made", "named", "error", "many", "text", "at", "its"]
theorem sc_law : FnScope N_law ["script"] (defScope s_law) := ⟨rfl, rfl, rfl, by decide +kernel, rfl, by decide +kernel, by decide +kernel⟩
abbrev s_BadNumber_init : Stmt := inClass (top 2) 0
abbrev N_BadNumber_init : List Str := ["self", "part"]
theorem sc_BadNumber_init : FnScope N_BadNumber_init ["self", "part"] (defScope s_BadNumber_init) := ⟨rfl, rfl, rfl, by decide +kernel, rfl, by decide +kernel, by decide +kernel⟩
abbrev s_BadName_init : Stmt := inClass (top 3) 0
abbrev N_BadName_init : List Str := ["self", "part"]
theorem sc_BadName_init : FnScope N_BadName_init ["self", "part"] (defScope s_BadName_init) := ⟨rfl, rfl, rfl, by decide +kernel, rfl, by decide +kernel, by decide +kernel⟩
abbrev s_BadTongue_init : Stmt := inClass (top 4) 0
abbrev N_BadTongue_init : List Str := ["self", "part"]
theorem sc_BadTongue_init : FnScope N_BadTongue_init ["self", "part"] (defScope s_BadTongue_init) := ⟨rfl, rfl, rfl, by decide +kernel, rfl, by decide +kernel, by decide +kernel⟩
abbrev s_BadProgram_init : Stmt := inClass (top 5) 0
abbrev N_BadProgram_init : List Str := ["self", "part"]
theorem sc_BadProgram_init : FnScope N_BadProgram_init ["self", "part"] (defScope s_BadProgram_init) := ⟨rfl, rfl, rfl, by decide +kernel, rfl, by decide +kernel, by decide +kernel⟩
abbrev s_BadPuzzle_init : Stmt := inClass (top 6) 0
abbrev N_BadPuzzle_init : List Str := ["self", "part"]
theorem sc_BadPuzzle_init : FnScope N_BadPuzzle_init ["self", "part"] (defScope s_BadPuzzle_init) := ⟨rfl, rfl, rfl, by decide +kernel, rfl, by decide +kernel, by decide +kernel⟩
abbrev s_BadFactor_init : Stmt := inClass (top 7) 0
abbrev N_BadFactor_init : List Str := ["self", "part"]
theorem sc_BadFactor_init : FnScope N_BadFactor_init ["self", "part"] (defScope s_BadFactor_init) := ⟨rfl, rfl, rfl, by decide +kernel, rfl, by decide +kernel, by decide +kernel⟩
abbrev s_BadOrder_init : Stmt := inClass (top 8) 0
abbrev N_BadOrder_init : List Str := ["self", "part"]
theorem sc_BadOrder_init : FnScope N_BadOrder_init ["self", "part"] (defScope s_BadOrder_init) := ⟨rfl, rfl, rfl, by decide +kernel, rfl, by decide +kernel, by decide +kernel⟩
abbrev s_BadDealer_init : Stmt := inClass (top 9) 0
abbrev N_BadDealer_init : List Str := ["self", "part"]
theorem sc_BadDealer_init : FnScope N_BadDealer_init ["self", "part"] (defScope s_BadDealer_init) := ⟨rfl, rfl, rfl, by decide +kernel, rfl, by decide +kernel, by decide +kernel⟩
abbrev s_Misfit_init : Stmt := inClass (top 10) 0
abbrev N_Misfit_init : List Str := ["self", "part"]
theorem sc_Misfit_init : FnScope N_Misfit_init ["self", "part"] (defScope s_Misfit_init) := ⟨rfl, rfl, rfl, by decide +kernel, rfl, by decide +kernel, by decide +kernel⟩
abbrev s_TooMany_init : Stmt := inClass (top 11) 0
abbrev N_TooMany_init : List Str := ["self", "what", "most"]
theorem sc_TooMany_init : FnScope N_TooMany_init ["self", "what", "most"] (defScope s_TooMany_init) := ⟨rfl, rfl, rfl, by decide +kernel, rfl, by decide +kernel, by decide +kernel⟩
abbrev s_BadText_init : Stmt := inClass (top 12) 0
abbrev N_BadText_init : List Str := ["self", "line", "item"]
theorem sc_BadText_init : FnScope N_BadText_init ["self", "line", "item"] (defScope s_BadText_init) := ⟨rfl, rfl, rfl, by decide +kernel, rfl, by decide +kernel, by decide +kernel⟩
structure Txt (mg : Str → Option Value) : Prop where
  b_int : mg "int" = none
  b_len : mg "len" = none
  b_abs : mg "abs" = none
  b_range : mg "range" = none
  b_isinstance : mg "isinstance" = none
  b_RuntimeError : mg "RuntimeError" = none
  b_AttributeError : mg "AttributeError" = none
  b_TypeError : mg "TypeError" = none
  b_ArithmeticError : mg "ArithmeticError" = none
  b_LookupError : mg "LookupError" = none
  b_enumerate : mg "enumerate" = none
  b_ValueError : mg "ValueError" = none
  b_repr : mg "repr" = none
/-! ### data that is drawn -/
def Sc (v : V) (d : PyData) : Prop := (v = .non ∧ d = .none) ∨ (∃ b, v = .bl b ∧ d = .bool b) ∨ (∃ i : Int, v = .int i ∧ d = .int i ∧ i.natAbs < 10 ^ 21) ∨ ∃ s : Str, v = .str s ∧ d = .str s ∧ (reprText s).length ≤ 50
/-- data nested n deep at most; each object of it is one of which N holds -/
def Vd (N : Addr → Prop) (H : Hp) : Nat → V → PyData → Prop
  | 0, v, d => Sc v d
  | n + 1, v, d => Sc v d ∨ ∃ a xs ds, v = .ref a ∧ N a ∧ H a = some (.lst xs) ∧ d = .list ds ∧ xs.length ≤ 3 ∧ Paired (Vd N H n) xs ds
theorem paired_imp {α β : Type} {F G : α → β → Prop} (h : ∀ a b, F a b → G a b) : ∀ {xs : List α} {ys : List β}, Paired F xs ys → Paired G xs ys
  | _, _, .nil => .nil
  | _, _, .cons a r => .cons (h _ _ a) (paired_imp h r)
theorem Vd.imp {N N' : Addr → Prop} {H H' : Hp} (hn : ∀ a, N a → N' a) (hs : ∀ a o, N a → H a = some o → H' a = some o) : ∀ {n : Nat} {v : V} {d : PyData}, Vd N H n v d → Vd N' H' n v d
  | 0, _, _, h => h
  | n + 1, _, _, h => by
    rcases h with h | ⟨a, xs, ds, e1, e2, e3, e4, e5, e6⟩
    · exact .inl h
    · exact .inr ⟨a, xs, ds, e1, hn a e2, hs a _ e2 e3, e4, e5, paired_imp (fun _ _ r => Vd.imp hn hs r) e6⟩
theorem Sc.dp {K : PySem.W.Frag} {H : Hp} {v : V} {d : PyData} (h : Sc v d) : Dp K H v d := by
  rcases h with ⟨rfl, rfl⟩ | ⟨b, rfl, rfl⟩ | ⟨i, rfl, rfl, _⟩ | ⟨s, rfl, rfl, _⟩
  · exact .non
  · exact .bl b
  · exact .int i
  · exact .str s
theorem dpAll_of {K : PySem.W.Frag} {H : Hp} : ∀ {xs : List V} {ds : List PyData}, Paired (Dp K H) xs ds → DpAll K H xs ds
  | _, _, .nil => .nil
  | _, _, .cons a r => .cons a (dpAll_of r)
theorem Vd.dp {K : PySem.W.Frag} {N : Addr → Prop} {H : Hp} : ∀ {n : Nat} {v : V} {d : PyData}, Vd N H n v d → Dp K H v d
  | 0, _, _, h => Sc.dp h
  | n + 1, _, _, h => by
    rcases h with h | ⟨a, xs, ds, rfl, e2, e3, rfl, e5, e6⟩
    · exact Sc.dp h
    · exact .lst (SqL.of e3) (dpAll_of (paired_imp (fun _ _ r => Vd.dp r) e6))
/-- what is written of such data -/
structure Sh (n l : Nat) (d : PyData) : Prop where
  s : d.showable = true
  h : d.hasDict = false
  n : d.depth ≤ n
  l : d.shown.length ≤ l
theorem Sc.sh {v : V} {d : PyData} (h : Sc v d) : Sh 0 50 d := by
  rcases h with ⟨rfl, rfl⟩ | ⟨b, rfl, rfl⟩ | ⟨i, rfl, rfl, hi⟩ | ⟨s, rfl, rfl, hs⟩
  · exact ⟨by simp [PyData.showable], by simp [PyData.hasDict], by simp [PyData.depth], by simp only [PyData.shown]; decide⟩
  · exact ⟨by simp [PyData.showable], by simp [PyData.hasDict], by simp [PyData.depth], by simp only [PyData.shown]; cases b <;> decide⟩
  · refine ⟨?_, by simp [PyData.hasDict], by simp [PyData.depth], ?_⟩
    · have : i.natAbs < 2 ^ 80 := by omega
      have := PySem.Flt.log2_lt_of (by decide) this
      simp only [PyData.showable, decide_eq_true_eq]
      omega
    · simp only [PyData.shown]
      rw [show (Str.ofString (toString i)).length = (toString i).length from PySem.ofString_length _]
      have := int_text_length_le10 (a := i) (k := 21) (by decide) hi
      omega
  · exact ⟨by simp [PyData.showable], by simp [PyData.hasDict], by simp [PyData.depth], by simp only [PyData.shown]; exact hs⟩
theorem Sh.mono {n l n' l' : Nat} {d : PyData} (h : Sh n l d) (a : n ≤ n') (b : l ≤ l') : Sh n' l' d := ⟨h.s, h.h, Nat.le_trans h.n a, Nat.le_trans h.l b⟩
theorem Sh.list {n l : Nat} : ∀ {ds : List PyData}, (∀ d ∈ ds, Sh n l d) → PyData.showableAll ds = true ∧ PyData.hasDictAll ds = false ∧ PyData.depthAll ds ≤ n ∧ ((PyData.shownAll ds).map (·.length)).sum ≤ ds.length * l ∧ (PyData.shownAll ds).length = ds.length
  | [], _ => by simp [PyData.showableAll, PyData.hasDictAll, PyData.depthAll, PyData.shownAll]
  | d :: ds, h => by
    obtain ⟨a1, a2, a3, a4, a5⟩ := Sh.list (n := n) (l := l) (ds := ds) fun x hx => h x (List.mem_cons_of_mem _ hx)
    have hd := h d List.mem_cons_self
    refine ⟨by simp [PyData.showableAll, hd.s, a1], by simp [PyData.hasDictAll, hd.h, a2], ?_, ?_, by simp [PyData.shownAll, a5]⟩
    · simp only [PyData.depthAll]
      have := hd.n
      omega
    · simp only [PyData.shownAll, List.map_cons, List.sum_cons, List.length_cons]
      have := hd.l
      rw [Nat.succ_mul]
      omega
theorem Sh.lst {n l k : Nat} {ds : List PyData} (h : ∀ d ∈ ds, Sh n l d) (hk : ds.length ≤ k) : Sh (n + 1) (k * l + 2 * k + 3) (.list ds) := by
  obtain ⟨a1, a2, a3, a4, a5⟩ := Sh.list h
  refine ⟨by simpa [PyData.showable] using a1, by simpa [PyData.hasDict] using a2, by simp only [PyData.depth]; omega, ?_⟩
  simp only [PyData.shown]
  have := listText_len_le (PyData.shownAll ds)
  rw [a5] at this
  have b := Nat.mul_le_mul_right l hk
  omega
theorem paired_mem {α β : Type} {F : α → β → Prop} : ∀ {xs : List α} {ys : List β}, Paired F xs ys → ∀ y ∈ ys, ∃ x, F x y
  | _, _, .cons a r, y, hy => by
    rcases List.mem_cons.mp hy with e | e
    · subst e
      exact ⟨_, a⟩
    · exact paired_mem r y e
theorem Vd.sh {N : Addr → Prop} {H : Hp} : ∀ {n : Nat} {v : V} {d : PyData}, n ≤ 2 → Vd N H n v d → Sh 2 600 d
  | 0, _, _, _, h => (Sc.sh h).mono (by omega) (by omega)
  | 1, _, _, _, h => by
    rcases h with h | ⟨a, xs, ds, rfl, e2, e3, rfl, e5, e6⟩
    · exact (Sc.sh h).mono (by omega) (by omega)
    · refine (Sh.lst (n := 0) (l := 50) (k := 3) (fun d hd => ?_) (by rw [← Paired.length e6]; exact e5)).mono (by omega) (by omega)
      obtain ⟨x, hx⟩ := paired_mem e6 d hd
      exact Sc.sh hx
  | 2, _, _, _, h => by
    rcases h with h | ⟨a, xs, ds, rfl, e2, e3, rfl, e5, e6⟩
    · exact (Sc.sh h).mono (by omega) (by omega)
    · refine (Sh.lst (n := 1) (l := 180) (k := 3) (fun d hd => ?_) (by rw [← Paired.length e6]; exact e5)).mono (by omega) (by omega)
      obtain ⟨x, hx⟩ := paired_mem e6 d hd
      rcases hx with h | ⟨a, xs, ds, rfl, e2, e3, rfl, e5, e6⟩
      · exact (Sc.sh h).mono (by omega) (by omega)
      · refine (Sh.lst (n := 0) (l := 50) (k := 3) (fun d hd => ?_) (by rw [← Paired.length e6]; exact e5)).mono (by omega) (by omega)
        obtain ⟨x, hx⟩ := paired_mem e6 d hd
        exact Sc.sh hx
def Dn : Nat → Nat
  | 0 => 5
  | n + 1 => 5 + 4 * Dn n
def spVal (n : Nat) : Sp := fun vs H Q _ => ∃ (p q : Addr) (cs : List Int) (m : Nat), vs = [.ref p, .int n] ∧ m + 1000 * n ≤ 50000 ∧ cs.length ≤ 1000 ∧ Sv p q cs m H ∧
  ∀ v d H', Vd (fun a => H a = none) H' n v d → But p H H' → Sv p q cs (m + Dn n) H' → Q v H'
def spPrev : Nat → Sp
  | 0 => fun _ _ _ _ => False
  | n + 1 => spVal n
theorem free_back {p : Addr} {H H' : Hp} (b : But p H H') (hp : H' p ≠ none) {a : Addr} (h : H' a = none) : H a = none := by
  cases e : H a with
  | none => rfl
  | some o =>
    by_cases hap : a = p
    · subst hap
      exact absurd h hp
    · rw [b a o hap e] at h
      cases h
theorem sv_some {p q : Addr} {cs : List Int} {n : Nat} {H : Hp} (s : Sv p q cs n H) : H p ≠ none := by
  obtain ⟨_, _, h, _⟩ := s
  rw [h]
  exact fun z => by cases z
section
variable {P : Program} {w : World} {K : PySem.W.Frag} {mg : Str → Option Value} {base : Heap}

/-! ### the law's own draws -/
theorem ok_sift {f : Addr} {fd : FuncData} (F : Fun K "_law_toll" "_law_toll" s__law_toll f fd) (T : Txt mg) : FnOk P w K mg base CX0 1 f fd ["bell", "many"] spSift := by
  refine F.ok sc__law_toll (fun vs H Q E h => ?_) (fun cdv A outer s H vs Q E hr h => ?_)
  · obtain ⟨p, q, cs, n, m, rfl, _⟩ := h
    rfl
  · obtain ⟨p, q, cs, n, m, rfl, hm0, hm1, hn, hcs, ⟨at_, rest, h1, h2, hpq, ha0, han, hr0⟩, k⟩ := h
    refine ⟨_, (pss_cons (ps_if (pt_cmpR op_gt (pe_ix ix_list (pv 0) pe_int (fun _ _ => rfl)) pe_int (nomark _))
  (pss_cons (ps_set (i := 2) sc__law_toll.nd rfl (Or.inl rfl) (pe_callTy call_int1 (by rfl) T.b_int boot_int (pa_cons (pe_ix ix_list (pv 0) pe_int (fun _ _ => rfl)) pa_nil)))
  (pss_cons (ps_asg (pe_op op_fdiv (pv 2) (pv 1)) (pg_sub (pv 0) pe_int set_list))
  (pss_one (ps_ret (pe_op op_mod (pe_callTy call_int1 (by rfl) T.b_int boot_int (pa_cons (pv 2) pa_nil)) (pv 1))))))
  pss_nil)
  (pss_cons (ps_set (i := 3) sc__law_toll.nd rfl (Or.inl rfl) (pe_ix ix_list (pv 0) pe_int (fun _ _ => rfl)))
  (pss_cons (ps_asg (pe_op op_add (pv 3) pe_int) (pg_sub (pv 0) pe_int set_list))
  (pss_cons (ps_set (i := 4) sc__law_toll.nd rfl (Or.inl rfl) (pe_op op_add (pe_op op_mul pe_int (pv 3)) pe_int))
  (C8.pss_cut (ps_if (pt_cmpR (op_neD (hu64 hr)) (pe_ix ix_list (pv 0) pe_int (fun _ _ => rfl)) (pe_lst pa_nil) (nomark _))
  (pss_one (ps_set (i := 4) sc__law_toll.nd rfl (Or.inl rfl) (pe_ix ix_list (pe_ix ix_list (pv 0) pe_int (fun _ _ => rfl)) (pe_op op_mod (pe_callTy call_int1 (by rfl) T.b_int boot_int (pa_cons (pv 3) pa_nil)) (pe_callB call_len_seq (by rfl) T.b_len boot_len (pa_cons (pe_ix ix_list (pv 0) pe_int (fun _ _ => rfl)) pa_nil))) (fun _ _ => rfl))))
  pss_nil)
  (C8.pss_cut (ps_if (PW.pt (pw_and (pt_cmpR op_lt (pv 3) (pe_callB call_len_seq (by rfl) T.b_len boot_len (pa_cons (pe_ix ix_list (pv 0) pe_int (fun _ _ => rfl)) pa_nil)) (nomark _)) (pw_and1 (pt_cmpR op_ge (pe_callB call_abs (by rfl) T.b_abs boot_abs (pa_cons (pv 4) pa_nil)) (pe_op op_pow pe_int pe_int) (nomark _)))))
  (pss_cons (ps_set (i := 2) sc__law_toll.nd rfl (Or.inl rfl) (pe_op op_add (pe_op op_mul pe_int (pe_op op_sub (pe_callB call_abs (by rfl) T.b_abs boot_abs (pa_cons (pv 4) pa_nil)) (pe_op op_pow pe_int pe_int))) (pe_callTy call_int1 (by rfl) T.b_int boot_int (pa_cons (pe_cmpR op_lt (pv 4) pe_int (nomark _)) pa_nil))))
  (pss_cons (ps_asg (pe_op op_fdiv (pe_callTy call_int1 (by rfl) T.b_int boot_int (pa_cons (pv 2) pa_nil)) (pv 1)) (pg_sub (pv 0) pe_int set_list))
  (pss_one (ps_ret (pe_op op_mod (pe_callTy call_int1 (by rfl) T.b_int boot_int (pa_cons (pv 2) pa_nil)) (pv 1))))))
  pss_nil)
  (pss_cons (ps_set (i := 5) sc__law_toll.nd rfl (Or.inl rfl) (pe_op op_mod (pe_callTy call_int1 (by rfl) T.b_int boot_int (pa_cons (pe_op op_pow (pe_op op_add (pe_op op_add (pe_op op_mod (pe_callTy call_int1 (by rfl) T.b_int boot_int (pa_cons (pv 4) pa_nil)) pe_int) (pe_op op_mul pe_int (pv 3))) pe_int) pe_int) pa_nil)) pe_int))
  (pss_cons (ps_set (i := 5) sc__law_toll.nd rfl (Or.inl rfl) (pe_op op_mod (pe_callTy call_int1 (by rfl) T.b_int boot_int (pa_cons (pe_op op_pow (pe_op op_add (pe_op op_add (pe_op op_mul (pv 5) (pe_op op_add (pe_op op_mul pe_int (pv 3)) pe_int)) (pe_op op_mul (pe_op op_mul pe_int (pv 3)) (pv 3))) pe_int) pe_int) pa_nil)) pe_int))
  (pss_one (ps_ret (pe_op op_mod (pe_callTy call_int1 (by rfl) T.b_int boot_int (pa_cons (pe_op op_fdiv (pv 5) pe_int) pa_nil)) (pv 1)))))))))))), ?_⟩
    refine ⟨_, rfl, p, _, 2, .int rest, rfl, rfl, SqL.of h1, rfl, rest, 0, rfl, rfl, _, rfl, ?_⟩
    refine ite2 (fun _ => ?_) (fun _ => ?_)
    · refine ⟨_, rfl, p, _, 2, .int rest, rfl, rfl, SqL.of h1, rfl, .inl ⟨rest, rfl, ?_⟩⟩
      refine ⟨_, rfl, _, rfl, rest, m, rfl, rfl, ⟨hm0, hm1⟩, _, rfl, p, _, 2, 2, rfl, rfl, h1, rfl, ?_⟩
      refine ⟨_, rfl, .inl ⟨rest, rfl, _, rfl, rest, m, rfl, rfl, hm0, ?_⟩⟩
      refine k _ _ (Int.emod_nonneg _ (by omega)) (Int.emod_lt_of_pos _ hm0) (But.refl _ _).upd ⟨at_, rest / m, upd_same, by rw [upd_ne hpq.symm]; exact h2, hpq, ha0, by omega, Int.ediv_nonneg hr0 (by omega)⟩
    · refine ⟨_, rfl, p, _, 1, .int at_, rfl, rfl, SqL.of h1, rfl, ?_⟩
      refine ⟨_, rfl, at_, 1, rfl, rfl, _, rfl, p, _, 1, 1, rfl, rfl, h1, rfl, ?_⟩
      refine ⟨_, rfl, 71333, at_, rfl, rfl, .inl ⟨by decide, by decide⟩, _, _, rfl, rfl, ?_⟩
      generalize e1 : upd H p (HO.lst (List.set [V.ref q, V.int at_, V.int rest] 1 (V.int (at_ + 1)))) = H1
      have p1 : H1 p = some (.lst [.ref q, .int (at_ + 1), .int rest]) := by rw [← e1]; exact upd_same
      have q1 : H1 q = some (.lst (cs.map V.int)) := by rw [← e1, upd_ne hpq.symm]; exact h2
      have b1 : But p H H1 := by rw [← e1]; exact (But.refl _ _).upd
      refine ⟨fun σ' H' => ∃ c : Int, σ' = [some (.ref p), some (.int m), none, some (.int at_), some (.int c), none] ∧ Same H1 H', ?_, ?_⟩
      · refine ⟨_, rfl, p, _, 0, .ref q, rfl, rfl, SqL.of p1, rfl, Nat.zero_le _, fun l hl => ?_⟩
        have s1 : Same H1 (upd H1 l (.lst [])) := same_new hl
        refine ⟨.list (cs.map PyData.int), .list [], .lst (SqL.of (s1 _ _ q1)) (dp_ints cs), .lst (SqL.of upd_same) .nil, shaped_ints cs, shaped_nil, _, rfl, ?_⟩
        rw [eqv_nil]
        refine ite2 (fun hne => ?_) (fun _ => ⟨_, rfl, s1⟩)
        have pos : 0 < cs.length := by
          cases cs with
          | nil => exact absurd hne (by simp)
          | cons c cs => simp
        have i0 := Int.emod_nonneg at_ (b := (cs.length : Int)) (by omega)
        have i1 := Int.emod_lt_of_pos at_ (b := (cs.length : Int)) (by omega)
        obtain ⟨c, hget⟩ : ∃ c, (cs.map V.int)[(at_ % (cs.length : Int)).toNat]? = some (V.int c) :=
          ⟨cs[(at_ % (cs.length : Int)).toNat]'(by omega), by rw [List.getElem?_map, List.getElem?_eq_getElem (by omega)]; rfl⟩
        refine ⟨_, rfl, p, _, 0, .ref q, rfl, rfl, SqL.of (s1 _ _ p1), rfl, _, rfl, .inl ⟨at_, rfl, ?_⟩⟩
        refine ⟨_, rfl, p, _, 0, .ref q, rfl, rfl, SqL.of (s1 _ _ p1), rfl, q, _, rfl, .inl (SqL.of (s1 _ _ q1)), at_, _, rfl, rfl, ?_, ?_⟩
        · rw [List.length_map]; omega
        · rw [List.length_map]
          refine ⟨q, cs.map V.int, at_ % (cs.length : Int), .int c, rfl, rfl, SqL.of (s1 _ _ q1), ?_, ⟨c, rfl, s1⟩⟩
          have := atI_nat hget
          rw [Int.toNat_of_nonneg i0] at this
          exact this
      · rintro σ' H' ⟨c, rfl, sm⟩
        have p2 := sm _ _ p1
        have q2 := sm _ _ q1
        have b2 : But p H H' := b1.trans (Same.but sm)
        refine ⟨fun σ' G => σ' = [some (.ref p), some (.int m), none, some (.int at_), some (.int c), none] ∧ G = H', ?_, ?_⟩
        · refine ⟨_, rfl, _, rfl, p, _, 0, .ref q, rfl, rfl, SqL.of p2, rfl, q, _, rfl, .inl (SqL.of q2), at_, _, rfl, rfl, _, rfl, ?_⟩
          refine ite2 (fun _ => ?_) (fun _ => iteF ⟨rfl, rfl⟩)
          refine ⟨_, rfl, c, rfl, 10, 18, rfl, rfl, cpow_of (by decide) (by decide) (by decide) (by decide), _, _, rfl, rfl, _, rfl, ?_⟩
          refine ite2 (fun hB => ?_) (fun _ => ⟨rfl, rfl⟩)
          have hB' : (10 : Int) ^ (18 : Int).toNat ≤ (if c < 0 then -c else c) := of_decide_eq_true hB
          refine ⟨_, rfl, c, rfl, 10, 18, rfl, rfl, cpow_of (by decide) (by decide) (by decide) (by decide), _, _, rfl, rfl, 2, _, rfl, rfl, .inl ⟨by decide, by decide⟩, ?_⟩
          refine ⟨_, rfl, c, 0, rfl, rfl, .inr ⟨_, rfl, _, _, rfl, rfl, ?_⟩⟩
          have hR : 0 ≤ (2 * ((if c < 0 then -c else c) - (10 : Int) ^ (18 : Int).toNat) + (if decide (c < 0) then 1 else 0) : Int) := by
            have : (0 : Int) ≤ (if decide (c < 0) then 1 else 0) := by split <;> omega
            omega
          refine ⟨_, rfl, .inl ⟨_, rfl, _, rfl, _, m, rfl, rfl, ⟨hm0, hm1⟩, _, rfl, p, _, 2, 2, rfl, rfl, p2, rfl, ?_⟩⟩
          refine ⟨_, rfl, .inl ⟨_, rfl, _, rfl, _, m, rfl, rfl, hm0, ?_⟩⟩
          exact k _ _ (Int.emod_nonneg _ (by omega)) (Int.emod_lt_of_pos _ hm0) b2.upd ⟨at_ + 1, _ / m, upd_same, by rw [upd_ne hpq.symm]; exact q2, hpq, by omega, by omega, Int.ediv_nonneg hR (by omega)⟩
        · rintro σ' G ⟨rfl, rfl⟩
          have c0 := Int.emod_nonneg c (b := 2147483629) (by decide)
          have c1 := Int.emod_lt_of_pos c (b := 2147483629) (by decide)
          refine ⟨_, rfl, .inl ⟨c, rfl, c, 2147483629, rfl, rfl, by show (0 : Int) < 2147483629; decide, ?_⟩⟩
          refine ⟨_, rfl, 31249, at_, rfl, rfl, .inl ⟨by decide, by decide⟩, _, _, rfl, rfl, _, _, rfl, rfl, ?_⟩
          refine ⟨_, 5, rfl, rfl, cpow_of (by decide) (by decide) (by omega) (by omega), .inl ⟨_, rfl, _, 2147483549, rfl, rfl, by show (0 : Int) < 2147483549; decide, ?_⟩⟩
          generalize (c % 2147483629 + 31249 * at_ + 5261 : Int) ^ (5 : Int).toNat = Y
          have y0 := Int.emod_nonneg Y (b := 2147483549) (by decide)
          have y1 := Int.emod_lt_of_pos Y (b := 2147483549) (by decide)
          have mz := mulb (a := 2147483549) (b := 300000) y0 (by omega) (show 0 ≤ 2 * at_ + 2659 by omega) (by omega)
          have ma := mulb (a := 71333 * 100001) (b := 100001) (show 0 ≤ 71333 * at_ by omega) (by omega) ha0 (by omega)
          refine ⟨_, rfl, _, rfl, 2, at_, rfl, rfl, .inl ⟨by decide, by decide⟩, _, _, rfl, rfl, Y % 2147483549, 2 * at_ + 2659, rfl, rfl, .inl ⟨by omega, by omega⟩, ?_⟩
          refine ⟨_, rfl, 71333, at_, rfl, rfl, .inl ⟨by decide, by decide⟩, _, rfl, 71333 * at_, at_, rfl, rfl, .inl ⟨by omega, by omega⟩, _, _, rfl, rfl, _, _, rfl, rfl, ?_⟩
          refine ⟨_, 3, rfl, rfl, cpow_of (by decide) (by decide) (by omega) (by omega), .inl ⟨_, rfl, _, 2147483587, rfl, rfl, by show (0 : Int) < 2147483587; decide, ?_⟩⟩
          refine ⟨_, rfl, _, 64, rfl, rfl, ⟨by decide, by decide⟩, .inl ⟨_, rfl, _, rfl, _, m, rfl, rfl, hm0, ?_⟩⟩
          exact k _ _ (Int.emod_nonneg _ (by omega)) (Int.emod_lt_of_pos _ hm0) b2 ⟨at_ + 1, rest, p2, q2, hpq, by omega, by omega, hr0⟩
theorem ok_one {f : Addr} {fd : FuncData} (F : Fun K "_law_one" "_law_one" s__law_one f fd) (T : Txt mg) (C_sift : Cal P w K mg base 1 "_law_toll" ["bell", "many"] spSift) : FnOk P w K mg base CX0 2 f fd ["bell", "some"] spOne := by
  refine F.ok sc__law_one (fun vs H Q E h => ?_) (fun cdv A outer s H vs Q E hr h => ?_)
  · obtain ⟨p, q, cs, n, s, xs, rfl, _⟩ := h
    rfl
  · obtain ⟨p, q, cs, n, s, xs, rfl, hs, hsp, h0, h1, hn, hcs, sv, k⟩ := h
    refine ⟨_, (pss_one (ps_ret (pe_ix ix_list (pv 1) (pe_cal C_sift (hr.mono (by decide)) (pa_cons (pv 0) (pa_cons (pe_callB call_len_seq (by rfl) T.b_len boot_len (pa_cons (pv 1) pa_nil)) pa_nil))) (fun _ _ => rfl)))), ?_⟩
    refine ⟨_, rfl, _, rfl, _, rfl, s, xs, rfl, .inl (SqL.of hs), p, q, cs, n, (xs.length : Int), rfl, by omega, by omega, hn, hcs, sv, ?_⟩
    intro r H' r0 r1 b sv'
    have hlt : r.toNat < xs.length := by omega
    refine ⟨s, xs, r, xs[r.toNat], rfl, rfl, SqL.of (b _ _ hsp hs), ?_, k _ _ (List.getElem_mem hlt) b sv'⟩
    have := atI_nat (List.getElem?_eq_getElem hlt)
    rw [Int.toNat_of_nonneg r0] at this
    exact this
theorem ok_sieve {f : Addr} {fd : FuncData} (F : Fun K "_law_bell" "_law_bell" s__law_bell f fd) (T : Txt mg) : FnOk P w K mg base CX0 1 f fd ["script"] (spSieve K) := by
  refine F.ok sc__law_bell (fun vs H Q E h => ?_) (fun cdv A outer s H vs Q E hr h => ?_)
  · obtain ⟨a, ns, rfl, _⟩ := h
    rfl
  · obtain ⟨a, ns, rfl, hS, k⟩ := h
    refine ⟨_, (pss_one (ps_ret (pe_lst (pa_cons (pe_lc (own := [("cell", 1)]) (g := gName 1) (tt := tYes) rfl sc__law_bell.nd (pi_list (pe_slice sl_list (pv 0) po_none (po_some pe_int))) (blkOk_by (own := [("cell", 1)]) (N := N__law_bell) (sc := defScope s__law_bell) (by decide +kernel)) (fun _ _ _ _ _ => (pg_name (i := 1) sc__law_bell.nd rfl (Or.inl rfl))) (fun _ _ _ _ _ => pts_nil) (fun _ _ _ _ _ => (pe_callTy call_int1 (by rfl) T.b_int boot_int (pa_cons (pv 1) pa_nil)))) (pa_cons pe_int (pa_cons pe_int pa_nil)))))), ?_⟩
    obtain ⟨cs, ec, _⟩ := map_mem_cut (ns := ns) (lo := none) (hi := some 63)
    have hc : cs.length ≤ 63 := by
      have := cut_len (ns := ns) (k := 63)
      rw [show (((63 : Nat) : Int)) = 63 from rfl, ec, List.length_map] at this
      exact this
    refine ⟨_, rfl, 63, rfl, a, _, rfl, hS, fun c hc0 => ?_⟩
    rw [ec]
    have s1 : Same H (upd H c (.lst (cs.map V.int))) := same_new hc0
    refine ⟨c, rfl, ⟨_, SqL.of upd_same⟩, fun D hD => ?_⟩
    refine lc_list (K := K) (a := c) (xs := cs.map V.int) (fun i H' => Same (upd H c (.lst (cs.map V.int))) H' ∧ H' D = some (.lst ((cs.map V.int).take i))) ⟨same_new hD, by rw [upd_same]; rfl⟩
        (fun i H' _ p => SqL.of (p.1 _ _ upd_same)) (fun i x H' hx ⟨sm, hl⟩ => ?_) (fun H' ⟨sm, hl⟩ => ?_)
    · refine ⟨rfl, yes_if ?_⟩
      obtain ⟨z, rfl⟩ : ∃ z, x = V.int z := by
        rw [List.getElem?_map] at hx
        cases e : cs[i]? with
        | none => rw [e] at hx; cases hx
        | some u => rw [e] at hx; exact ⟨u, (Option.some.inj hx).symm⟩
      refine ⟨_, rfl, .inl ⟨z, rfl, _, hl, ?_, same_mut sm hD, ?_⟩⟩
      · refine Nat.lt_of_le_of_lt (m := 63) ?_ (by decide)
        rw [List.length_take, List.length_map]
        omega
      · rw [upd_same, List.take_succ, hx]
        rfl
    · rw [List.take_length] at hl
      refine ⟨by show 3 ≤ sizeLine; decide, fun p hp => ?_⟩
      have pD : p ≠ D := (ne_of_none hl hp).symm
      have fr : H p = none := s1.free (sm.free hp)
      refine k p D cs _ fr (s1.trans (same_mut sm (sm.free hp))) (by omega) ⟨0, 0, upd_same, by rw [upd_ne pD.symm]; exact hl, pD, by decide, by decide, by decide⟩

theorem ok_value {f : Addr} {fd : FuncData} (F : Fun K "_law_value" "_law_value" s__law_value f fd) (T : Txt mg) (n : Nat) (hn : n ≤ 2) (C__law_toll : Cal P w K mg base 1 "_law_toll" ["bell", "many"] spSift) (C__law_one : Cal P w K mg base 2 "_law_one" ["bell", "some"] spOne)
    (C__law_value : Cal P w K mg base (2 + n) "_law_value" ["bell", "deep"] (spPrev n)) : FnOk P w K mg base CX0 (3 + n) f fd ["bell", "deep"] (spVal n) := by
  rw [show 3 + n = (2 + n) + 1 by omega]
  refine F.ok sc__law_value (fun vs H Q E h => ?_) (fun cdv A outer s H vs Q E hr h => ?_)
  · obtain ⟨p, q, cs, m, rfl, _⟩ := h
    rfl
  · obtain ⟨p, q, cs, m, rfl, hm, hc, sv, k⟩ := h
    have hr2 : Room 2 _ := hr.mono (by omega)
    refine ⟨_, (pss_cons (ps_set (i := 2) sc__law_value.nd rfl (Or.inl rfl) (pe_cal C__law_toll (hr2.mono (by decide)) (pa_cons (pv 0) (pa_cons (pe_ifExp (pt_cmpR op_gt (pv 1) pe_int (nomark _)) pe_int pe_int) pa_nil))))
  (pss_cons (ps_if (pt_cmpR op_gt (pv 2) pe_int (nomark _))
  (pss_one (ps_ret (pe_lc (own := [("turn", 3)]) (g := gName 3) (tt := tYes) rfl sc__law_value.nd (pi_range1 rfl T.b_range (pa_cons (pe_cal C__law_toll (hr2.mono (by decide)) (pa_cons (pv 0) (pa_cons pe_int pa_nil))) pa_nil)) (blkOk_by (own := [("turn", 3)]) (N := N__law_value) (sc := defScope s__law_value) (by decide +kernel)) (fun _ _ _ _ _ => (pg_name (i := 3) sc__law_value.nd rfl (Or.inl rfl))) (fun _ _ _ _ _ => pts_nil) (fun _ _ _ _ _ => (pe_cal C__law_value hr (pa_cons (pv 0) (pa_cons (pe_op op_sub (pv 1) pe_int) pa_nil)))))))
  pss_nil)
  (pss_one (ps_ret (pe_cal C__law_one hr2 (pa_cons (pv 0) (pa_cons (pe_lst (pa_cons pe_non (pa_cons pe_bl (pa_cons pe_int (pa_cons (pe_un un_neg pe_int) (pa_cons pe_str (pa_cons (pe_op op_pow pe_int pe_int) (pa_cons (pe_cal C__law_toll (hr2.mono (by decide)) (pa_cons (pv 0) (pa_cons pe_int pa_nil))) (pa_cons pe_str pa_nil))))))))) pa_nil))))))), ?_⟩
    have sR : Stb p (fun (_ : Hp) v => ∃ d, Sc v d) := fun _ _ _ _ h => h
    -- the leaf: one of eight
    have leaf : ∀ {σ : L2.St} {H1 : Hp} {m1 : Nat}, σ[0]? = some (some (.ref p)) → m1 ≤ 60000 → Sv p q cs m1 H1 → ∀ {tl : TA}, DrA p q cs tl σ m1 (m1 + 1) H1 8 (fun (_ : Hp) v => ∃ d, Sc v d) →
        ∀ Q : VK, (∀ v d H2, Sc v d → But p H1 H2 → Sv p q cs (m1 + 2) H2 → Q v H2) → tCall spOne [] E0 (tCons (tVar 0) (tCons (tLst tl) tNil)) σ H1 Q := by
      intro σ H1 m1 e hm1 s1 tl dl Q q1
      exact dr_one (p := p) (q := q) (cs := cs) (j := 0) (k := 8) (n := m1) (m := m1 + 1) e (dr_lstR dl sR (by decide)) sR (by decide) (by decide) (by omega) hc H1 (But.refl _ _) s1 Q fun v H2 b2 s2 ⟨d, hd⟩ => q1 v d H2 hd b2 s2
    have leafA : ∀ {σ : L2.St} {H1 : Hp} {m1 : Nat}, σ[0]? = some (some (.ref p)) → m1 ≤ 60000 → DrA p q cs (tCons (tC .non) (tCons (tC (.bl true)) (tCons (tC (.int 0)) (tCons (tUn (rU fun i => .int (-i)) (tC (.int 1))) (tCons (tC (.str "part")) (tCons (tOp (rI CPow fun i j => .int (i ^ j.toNat)) (tC (.int 10)) (tC (.int 20)))
        (tCons (tCall spSift [] E0 (tCons (tVar 0) (tCons (tC (.int 9)) tNil))) (tCons (tC (.str "")) tNil)))))))) σ m1 (m1 + 1) H1 8 (fun (_ : Hp) v => ∃ d, Sc v d) := by
      intro σ H1 m1 e hm1
      refine DrA.cons sR (dr_c fun _ _ => ⟨_, .inl ⟨rfl, rfl⟩⟩) ?_
      refine DrA.cons sR (dr_c fun _ _ => ⟨_, .inr (.inl ⟨true, rfl, rfl⟩)⟩) ?_
      refine DrA.cons sR (dr_c fun _ _ => ⟨_, .inr (.inr (.inl ⟨0, rfl, rfl, by decide⟩))⟩) ?_
      refine DrA.cons sR (dr_neg.imp fun _ _ e => ⟨_, .inr (.inr (.inl ⟨-1, e, rfl, by decide⟩))⟩) ?_
      refine DrA.cons sR (dr_c fun _ _ => ⟨_, .inr (.inr (.inr ⟨_, rfl, rfl, by decide +kernel⟩))⟩) ?_
      refine DrA.cons sR ((dr_pow (cpow_of (by decide) (by decide) (by decide) (by decide))).imp fun _ _ e => ⟨_, .inr (.inr (.inl ⟨_, e, rfl, by decide⟩))⟩) ?_
      refine DrA.cons sR ((dr_sift e (dr_c fun _ _ => rfl) (by decide) (by decide) (by omega) hc).imp fun _ _ ⟨r, e, r0, r1⟩ => ⟨_, .inr (.inr (.inl ⟨r, e, rfl, by omega⟩))⟩) ?_
      exact DrA.cons sR (dr_c fun _ _ => ⟨_, .inr (.inr (.inr ⟨_, rfl, rfl, by decide +kernel⟩))⟩) DrA.nil
    refine ⟨_, rfl, _, rfl, _, _, rfl, rfl, _, rfl, ?_⟩
    cases n with
    | zero =>
      refine iteF ⟨p, q, cs, m, 6, rfl, by decide, by decide, by omega, hc, sv, fun r H1 r0 r1 b1 sv1 => ?_⟩
      refine ⟨_, rfl, r, 5, rfl, rfl, _, rfl, ?_⟩
      rw [decide_eq_false (by omega)]
      refine iteF ?_
      refine leaf (m1 := m + 1) rfl (by omega) sv1 (leafA rfl (by omega)) _ fun v d H2 hd b2 s2 => ?_
      exact k v d H2 hd (b1.trans b2) (s2.mono (by show m + 1 + 2 ≤ m + 5; omega))
    | succ n =>
      rw [decide_eq_true (show (0 : Int) < ((n + 1 : Nat) : Int) by omega)]
      refine iteT ⟨p, q, cs, m, 8, rfl, by decide, by decide, by omega, hc, sv, fun r H1 r0 r1 b1 sv1 => ?_⟩
      refine ⟨_, rfl, r, 5, rfl, rfl, _, rfl, ?_⟩
      refine ite2 (fun _ => ?_) (fun _ => ?_)
      · refine ⟨_, rfl, p, q, cs, m + 1, 4, rfl, by decide, by decide, by omega, hc, sv1, fun r H2 r0 r1 b2 sv2 => ?_⟩
        refine ⟨r, rfl, by omega, by omega, fun D hD => ?_⟩
        have hDp : D ≠ p := sv_ne sv2 hD
        have hD0 : H D = none := free_back (b1.trans b2) (sv_some sv2) hD
        refine lc_range (lo := 0) (n := r.toNat) (fun i H' => But p H2 H' ∧ Sv p q cs (m + 2 + i * Dn n) H' ∧ ∃ xs ds, H' D = some (.lst xs) ∧ xs.length = i ∧ Paired (Vd (fun a => a ≠ p ∧ a ≠ D ∧ H a = none) H' n) xs ds)
          ⟨(But.refl _ _).new hD, (sv2.same (same_new hD)).mono (by omega), [], [], upd_same, rfl, .nil⟩ (fun i H' hi ⟨b3, sv3, xs, ds, hl, hx, hp⟩ => ?_) (fun H' ⟨b3, sv3, xs, ds, hl, hx, hp⟩ => ?_)
        · refine ⟨rfl, yes_if ?_⟩
          have hsz : i * Dn n ≤ 3 * Dn n := Nat.mul_le_mul_right _ (by omega)
          have hD1 : Dn n ≤ 25 := by
            have : n = 0 ∨ n = 1 := by omega
            rcases this with rfl | rfl <;> decide
          refine ⟨_, rfl, _, rfl, _, _, rfl, rfl, p, q, cs, m + 2 + i * Dn n, by
            show [V.ref p, V.int (((n + 1 : Nat) : Int) - 1)] = [V.ref p, V.int (n : Int)]
            rw [show (((n + 1 : Nat) : Int) - 1) = (n : Int) by omega], by omega, hc, sv3, fun v d H3 hv b4 sv4 => ?_⟩
          have hl3 := b4 _ _ hDp hl
          refine ⟨xs, hl3, Nat.lt_of_le_of_lt (m := 10) (by omega) (by decide), (b3.trans b4).mut hD, ?_, xs ++ [v], ds ++ [d], upd_same, by rw [List.length_append, hx]; rfl, ?_⟩
          · have := sv4.but_upd hDp (o := .lst (xs ++ [v])) hD sv2
            exact this.mono (by rw [Nat.succ_mul]; omega)
          · have hup : ∀ (a : Addr) (o : HO), a ≠ D → H3 a = some o → upd H3 D (.lst (xs ++ [v])) a = some o := fun a o ha h => by rw [upd_ne ha]; exact h
            refine Paired.snoc (paired_imp (fun _ _ r => r.imp (fun _ z => z) fun a o na h => hup a o na.2.1 (b4 a o na.1 h)) hp) ?_
            refine hv.imp (fun a ha => ?_) fun a o na h => ?_
            · have h0 : H a = none := free_back ((b1.trans b2).trans b3) (sv_some sv3) ha
              refine ⟨fun e => ?_, fun e => ?_, h0⟩
              · subst e
                exact sv_some sv3 ha
              · subst e
                rw [hl] at ha
                cases ha
            · refine hup a o (fun e => ?_) h
              subst e
              rw [hl] at na
              cases na
        · refine k (.ref D) (.list ds) H' ?_ ((b1.trans b2).trans b3) (sv3.mono ?_)
          · refine .inr ⟨D, xs, ds, rfl, hD0, hl, rfl, by omega, paired_imp (fun _ _ r => r.imp (fun a z => z.2.2) fun a o _ h => h) hp⟩
          · have : r.toNat * Dn n ≤ 3 * Dn n := Nat.mul_le_mul_right _ (by omega)
            show m + 2 + r.toNat * Dn n ≤ m + (5 + 4 * Dn n)
            omega
      · refine leaf (m1 := m + 1) rfl (by omega) sv1 (leafA rfl (by omega)) _ fun v d H2 hd b2 s2 => ?_
        exact k v d H2 (.inl hd) (b1.trans b2) (s2.mono (by show m + 1 + 2 ≤ m + (5 + 4 * Dn n); omega))

theorem ok_BadNumber {f : Addr} {fd : FuncData} (F : Fun K "__init__" "BadNumber.__init__" s_BadNumber_init f fd) : FnOk P w K mg base CX0 1 f fd ["self", "part"] (spI1 K "part") := by
  refine F.ok sc_BadNumber_init (fun vs H Q E h => ?_) (fun cdv A outer s H vs Q E hr h => ?_)
  · obtain ⟨a, C, y, rfl, _⟩ := h
    rfl
  · obtain ⟨a, C, y, rfl, T, no, ha, k⟩ := h
    refine ⟨_, pss_one (ps_ost (pv 0) (pv 1)), ?_⟩
    exact ⟨_, rfl, _, rfl, a, C, rfl, T, no, .inl ⟨ha, fun dx n ne => k dx n ne⟩⟩
theorem ok_BadName {f : Addr} {fd : FuncData} (F : Fun K "__init__" "BadName.__init__" s_BadName_init f fd) : FnOk P w K mg base CX0 1 f fd ["self", "part"] (spI1 K "part") := by
  refine F.ok sc_BadName_init (fun vs H Q E h => ?_) (fun cdv A outer s H vs Q E hr h => ?_)
  · obtain ⟨a, C, y, rfl, _⟩ := h
    rfl
  · obtain ⟨a, C, y, rfl, T, no, ha, k⟩ := h
    refine ⟨_, pss_one (ps_ost (pv 0) (pv 1)), ?_⟩
    exact ⟨_, rfl, _, rfl, a, C, rfl, T, no, .inl ⟨ha, fun dx n ne => k dx n ne⟩⟩
theorem ok_BadTongue {f : Addr} {fd : FuncData} (F : Fun K "__init__" "BadTongue.__init__" s_BadTongue_init f fd) : FnOk P w K mg base CX0 1 f fd ["self", "part"] (spI1 K "part") := by
  refine F.ok sc_BadTongue_init (fun vs H Q E h => ?_) (fun cdv A outer s H vs Q E hr h => ?_)
  · obtain ⟨a, C, y, rfl, _⟩ := h
    rfl
  · obtain ⟨a, C, y, rfl, T, no, ha, k⟩ := h
    refine ⟨_, pss_one (ps_ost (pv 0) (pv 1)), ?_⟩
    exact ⟨_, rfl, _, rfl, a, C, rfl, T, no, .inl ⟨ha, fun dx n ne => k dx n ne⟩⟩
theorem ok_BadProgram {f : Addr} {fd : FuncData} (F : Fun K "__init__" "BadProgram.__init__" s_BadProgram_init f fd) : FnOk P w K mg base CX0 1 f fd ["self", "part"] (spI1 K "part") := by
  refine F.ok sc_BadProgram_init (fun vs H Q E h => ?_) (fun cdv A outer s H vs Q E hr h => ?_)
  · obtain ⟨a, C, y, rfl, _⟩ := h
    rfl
  · obtain ⟨a, C, y, rfl, T, no, ha, k⟩ := h
    refine ⟨_, pss_one (ps_ost (pv 0) (pv 1)), ?_⟩
    exact ⟨_, rfl, _, rfl, a, C, rfl, T, no, .inl ⟨ha, fun dx n ne => k dx n ne⟩⟩
theorem ok_BadPuzzle {f : Addr} {fd : FuncData} (F : Fun K "__init__" "BadPuzzle.__init__" s_BadPuzzle_init f fd) : FnOk P w K mg base CX0 1 f fd ["self", "part"] (spI1 K "part") := by
  refine F.ok sc_BadPuzzle_init (fun vs H Q E h => ?_) (fun cdv A outer s H vs Q E hr h => ?_)
  · obtain ⟨a, C, y, rfl, _⟩ := h
    rfl
  · obtain ⟨a, C, y, rfl, T, no, ha, k⟩ := h
    refine ⟨_, pss_one (ps_ost (pv 0) (pv 1)), ?_⟩
    exact ⟨_, rfl, _, rfl, a, C, rfl, T, no, .inl ⟨ha, fun dx n ne => k dx n ne⟩⟩
theorem ok_BadFactor {f : Addr} {fd : FuncData} (F : Fun K "__init__" "BadFactor.__init__" s_BadFactor_init f fd) : FnOk P w K mg base CX0 1 f fd ["self", "part"] (spI1 K "part") := by
  refine F.ok sc_BadFactor_init (fun vs H Q E h => ?_) (fun cdv A outer s H vs Q E hr h => ?_)
  · obtain ⟨a, C, y, rfl, _⟩ := h
    rfl
  · obtain ⟨a, C, y, rfl, T, no, ha, k⟩ := h
    refine ⟨_, pss_one (ps_ost (pv 0) (pv 1)), ?_⟩
    exact ⟨_, rfl, _, rfl, a, C, rfl, T, no, .inl ⟨ha, fun dx n ne => k dx n ne⟩⟩
theorem ok_BadOrder {f : Addr} {fd : FuncData} (F : Fun K "__init__" "BadOrder.__init__" s_BadOrder_init f fd) : FnOk P w K mg base CX0 1 f fd ["self", "part"] (spI1 K "part") := by
  refine F.ok sc_BadOrder_init (fun vs H Q E h => ?_) (fun cdv A outer s H vs Q E hr h => ?_)
  · obtain ⟨a, C, y, rfl, _⟩ := h
    rfl
  · obtain ⟨a, C, y, rfl, T, no, ha, k⟩ := h
    refine ⟨_, pss_one (ps_ost (pv 0) (pv 1)), ?_⟩
    exact ⟨_, rfl, _, rfl, a, C, rfl, T, no, .inl ⟨ha, fun dx n ne => k dx n ne⟩⟩
theorem ok_BadDealer {f : Addr} {fd : FuncData} (F : Fun K "__init__" "BadDealer.__init__" s_BadDealer_init f fd) : FnOk P w K mg base CX0 1 f fd ["self", "part"] (spI1 K "part") := by
  refine F.ok sc_BadDealer_init (fun vs H Q E h => ?_) (fun cdv A outer s H vs Q E hr h => ?_)
  · obtain ⟨a, C, y, rfl, _⟩ := h
    rfl
  · obtain ⟨a, C, y, rfl, T, no, ha, k⟩ := h
    refine ⟨_, pss_one (ps_ost (pv 0) (pv 1)), ?_⟩
    exact ⟨_, rfl, _, rfl, a, C, rfl, T, no, .inl ⟨ha, fun dx n ne => k dx n ne⟩⟩
theorem ok_Misfit {f : Addr} {fd : FuncData} (F : Fun K "__init__" "Misfit.__init__" s_Misfit_init f fd) : FnOk P w K mg base CX0 1 f fd ["self", "part"] (spI1 K "part") := by
  refine F.ok sc_Misfit_init (fun vs H Q E h => ?_) (fun cdv A outer s H vs Q E hr h => ?_)
  · obtain ⟨a, C, y, rfl, _⟩ := h
    rfl
  · obtain ⟨a, C, y, rfl, T, no, ha, k⟩ := h
    refine ⟨_, pss_one (ps_ost (pv 0) (pv 1)), ?_⟩
    exact ⟨_, rfl, _, rfl, a, C, rfl, T, no, .inl ⟨ha, fun dx n ne => k dx n ne⟩⟩
theorem ok_TooMany {f : Addr} {fd : FuncData} (F : Fun K "__init__" "TooMany.__init__" s_TooMany_init f fd) : FnOk P w K mg base CX0 1 f fd ["self", "what", "most"] (spI2 K "what" "most") := by
  refine F.ok sc_TooMany_init (fun vs H Q E h => ?_) (fun cdv A outer s H vs Q E hr h => ?_)
  · obtain ⟨a, C, y, z, rfl, _⟩ := h
    rfl
  · obtain ⟨a, C, y, z, rfl, T, no, no2, ha, k⟩ := h
    refine ⟨_, pss_cons (ps_ost (pv 0) (pv 1)) (pss_one (ps_ost (pv 0) (pv 2))), ?_⟩
    exact ⟨_, rfl, _, rfl, a, C, rfl, T, no, .inl ⟨ha, fun dx n ne => ⟨_, rfl, _, rfl, a, C, rfl, T, no2, .inr ⟨dx, _, upd_same, Eq.trans (upd_ne ne) upd_same, by show 1 ≤ 900; decide, k dx n ne⟩⟩⟩⟩
theorem ok_BadText {f : Addr} {fd : FuncData} (F : Fun K "__init__" "BadText.__init__" s_BadText_init f fd) : FnOk P w K mg base CX0 1 f fd ["self", "line", "item"] (spI2 K "line" "item") := by
  refine F.ok sc_BadText_init (fun vs H Q E h => ?_) (fun cdv A outer s H vs Q E hr h => ?_)
  · obtain ⟨a, C, y, z, rfl, _⟩ := h
    rfl
  · obtain ⟨a, C, y, z, rfl, T, no, no2, ha, k⟩ := h
    refine ⟨_, pss_cons (ps_ost (pv 0) (pv 1)) (pss_one (ps_ost (pv 0) (pv 2))), ?_⟩
    exact ⟨_, rfl, _, rfl, a, C, rfl, T, no, .inl ⟨ha, fun dx n ne => ⟨_, rfl, _, rfl, a, C, rfl, T, no2, .inr ⟨dx, _, upd_same, Eq.trans (upd_ne ne) upd_same, by show 1 ≤ 900; decide, k dx n ne⟩⟩⟩⟩

/-! ### eleven classes -/
structure Cls (K : PySem.W.Frag) (mg : Str → Option Value) (C : Nat → Addr) : Prop where
  at_BadNumber : mg "BadNumber" = some (.ref (C 0))
  at_BadName : mg "BadName" = some (.ref (C 1))
  at_BadTongue : mg "BadTongue" = some (.ref (C 2))
  at_BadProgram : mg "BadProgram" = some (.ref (C 3))
  at_BadPuzzle : mg "BadPuzzle" = some (.ref (C 4))
  at_BadFactor : mg "BadFactor" = some (.ref (C 5))
  at_BadOrder : mg "BadOrder" = some (.ref (C 6))
  at_BadDealer : mg "BadDealer" = some (.ref (C 7))
  at_Misfit : mg "Misfit" = some (.ref (C 8))
  at_TooMany : mg "TooMany" = some (.ref (C 9))
  at_BadText : mg "BadText" = some (.ref (C 10))
  at_TickError : mg "TickError" = some (.ref (C 11))
  ex : ∀ i, i < 11 → ExC K (C i)
  part : ∀ i, i < 9 → PySem.W.findIn K (.ref (C i)) "part" = some none
  what : PySem.W.findIn K (.ref (C 9)) "what" = some none
  most : PySem.W.findIn K (.ref (C 9)) "most" = some none
  line : PySem.W.findIn K (.ref (C 10)) "line" = some none
  item : PySem.W.findIn K (.ref (C 10)) "item" = some none
  kk : ∀ i, i < 11 → ∀ j, j < 11 → PySem.W.kitOne K (.ref (C i)) (.ref (C j)) = some (decide (j = i))
  kt : ∀ i, i < 11 → PySem.W.kitOne K (.ref (C i)) (.ref (C 11)) = some true
  kv : ∀ i, i < 11 → PySem.W.kitOne K (.ref (C i)) (.type "ValueError") = some true
  ko : ∀ i, i < 11 → ∀ n ∈ ["RuntimeError", "AttributeError", "TypeError", "ArithmeticError", "LookupError"], PySem.W.kitOne K (.ref (C i)) (.type n) = some false
def kindsOf (i : Nat) : List Bool := (List.range 11).map fun j => decide (j = i)
def spKinds (C : Nat → Addr) : Sp := fun vs H Q _ => ∃ (a : Addr) (i : Nat) (d : Addr) (fs : List (Str × V)), vs = [.ref a] ∧ i < 11 ∧ ExAt H a (C i) d fs ∧ ∀ L H', Same H H' → H' L = some (.lst ((kindsOf i).map V.bl)) → Q (.ref L) H'
def spOdd (C : Nat → Addr) : Sp := fun vs H Q _ => ∃ (a : Addr) (i : Nat) (d : Addr) (fs : List (Str × V)), vs = [.ref a] ∧ i < 11 ∧ ExAt H a (C i) d fs ∧ Q (.bl false) H
theorem ok_kinds {C : Nat → Addr} {f : Addr} {fd : FuncData} (F : Fun K "_law_kinds" "_law_kinds" s__law_kinds f fd) (T : Txt mg) (Q : Cls K mg C) : FnOk P w K mg base CX0 1 f fd ["error"] (spKinds C) := by
  refine F.ok sc__law_kinds (fun vs H Q E h => ?_) (fun cdv A outer s H vs R E hr h => ?_)
  · obtain ⟨a, i, d, fs, rfl, _⟩ := h
    rfl
  · obtain ⟨a, i, d, fs, rfl, hi, ha, k⟩ := h
    refine ⟨_, (pss_cons (ps_set (i := 1) sc__law_kinds.nd rfl (Or.inl rfl) (pe_lst (pa_cons (pe_callB call_isX (by rfl) T.b_isinstance boot_isinstance (pa_cons (pv 0) (pa_cons (pe_gr Q.at_BadNumber) pa_nil))) (pa_cons (pe_callB call_isX (by rfl) T.b_isinstance boot_isinstance (pa_cons (pv 0) (pa_cons (pe_gr Q.at_BadName) pa_nil))) (pa_cons (pe_callB call_isX (by rfl) T.b_isinstance boot_isinstance (pa_cons (pv 0) (pa_cons (pe_gr Q.at_BadTongue) pa_nil))) (pa_cons (pe_callB call_isX (by rfl) T.b_isinstance boot_isinstance (pa_cons (pv 0) (pa_cons (pe_gr Q.at_BadProgram) pa_nil))) (pa_cons (pe_callB call_isX (by rfl) T.b_isinstance boot_isinstance (pa_cons (pv 0) (pa_cons (pe_gr Q.at_BadPuzzle) pa_nil))) pa_nil)))))))
  (pss_cons (ps_set (i := 1) sc__law_kinds.nd rfl (Or.inl rfl) (pe_op op_cat (pv 1) (pe_lst (pa_cons (pe_callB call_isX (by rfl) T.b_isinstance boot_isinstance (pa_cons (pv 0) (pa_cons (pe_gr Q.at_BadFactor) pa_nil))) (pa_cons (pe_callB call_isX (by rfl) T.b_isinstance boot_isinstance (pa_cons (pv 0) (pa_cons (pe_gr Q.at_BadOrder) pa_nil))) (pa_cons (pe_callB call_isX (by rfl) T.b_isinstance boot_isinstance (pa_cons (pv 0) (pa_cons (pe_gr Q.at_BadDealer) pa_nil))) (pa_cons (pe_callB call_isX (by rfl) T.b_isinstance boot_isinstance (pa_cons (pv 0) (pa_cons (pe_gr Q.at_Misfit) pa_nil))) pa_nil)))))))
  (pss_one (ps_ret (pe_op op_cat (pv 1) (pe_lst (pa_cons (pe_callB call_isX (by rfl) T.b_isinstance boot_isinstance (pa_cons (pv 0) (pa_cons (pe_gr Q.at_TooMany) pa_nil))) (pa_cons (pe_callB call_isX (by rfl) T.b_isinstance boot_isinstance (pa_cons (pv 0) (pa_cons (pe_gr Q.at_BadText) pa_nil))) pa_nil)))))))), ?_⟩
    have ex := Q.ex i hi
    have rx : ∀ (j : Nat), j < 11 → ∀ (σ : L2.St) (H1 : Hp) (R : VK), σ[0]? = some (some (.ref a)) → Same H H1 → R (.bl (decide (j = i))) H1 → tCB (rIsX K) (tCons (tVar 0) (tCons (tC (.ref (C j))) tNil)) σ H1 R :=
      fun j hj σ H1 R e s r => ⟨_, e, a, C i, d, fs, _, _, _, rfl, ex, ha.mono s, .own _, Q.kk i hi j hj, r⟩
    have s0 := Same.refl H
    refine seq_set ?_
    refine rx 0 (by decide) _ _ _ rfl s0 (rx 1 (by decide) _ _ _ rfl s0 (rx 2 (by decide) _ _ _ rfl s0 (rx 3 (by decide) _ _ _ rfl s0 (rx 4 (by decide) _ _ _ rfl s0 ⟨by show 5 ≤ sizeLine; decide, fun l1 h1 => ?_⟩))))
    have s1 := s0.trans (same_new (o := .lst [.bl (decide (0 = i)), .bl (decide (1 = i)), .bl (decide (2 = i)), .bl (decide (3 = i)), .bl (decide (4 = i))]) h1)
    refine seq_set ?_
    refine ⟨_, rfl, rx 5 (by decide) _ _ _ rfl s1 (rx 6 (by decide) _ _ _ rfl s1 (rx 7 (by decide) _ _ _ rfl s1 (rx 8 (by decide) _ _ _ rfl s1 ⟨by show 4 ≤ sizeLine; decide, fun l2 h2 => ?_⟩)))⟩
    have s2 := s1.trans (same_new (o := .lst [.bl (decide (5 = i)), .bl (decide (6 = i)), .bl (decide (7 = i)), .bl (decide (8 = i))]) h2)
    refine ⟨l1, l2, _, _, rfl, rfl, Eq.trans (upd_ne (ne_of_none upd_same h2)) upd_same, upd_same, by show 9 ≤ sizeLine; decide, fun l3 h3 => ?_⟩
    generalize eH3 : upd _ l3 _ = H3
    have s3 : Same H H3 := by rw [← eH3]; exact s2.trans (same_new h3)
    have d3 : H3 l3 = some (.lst [.bl (decide (0 = i)), .bl (decide (1 = i)), .bl (decide (2 = i)), .bl (decide (3 = i)), .bl (decide (4 = i)), .bl (decide (5 = i)), .bl (decide (6 = i)), .bl (decide (7 = i)), .bl (decide (8 = i))]) := by
      rw [← eH3]; exact upd_same
    refine ⟨_, rfl, rx 9 (by decide) _ _ _ rfl s3 (rx 10 (by decide) _ _ _ rfl s3 ⟨by show 2 ≤ sizeLine; decide, fun l4 h4 => ?_⟩)⟩
    have s4 := s3.trans (same_new (o := .lst [.bl (decide (9 = i)), .bl (decide (10 = i))]) h4)
    refine ⟨l3, l4, _, _, rfl, rfl, Eq.trans (upd_ne (ne_of_none d3 h4)) d3, upd_same, by show 11 ≤ sizeLine; decide, fun l5 h5 => ?_⟩
    exact k l5 _ (s4.trans (same_new h5)) upd_same
theorem ok_odd {C : Nat → Addr} {f : Addr} {fd : FuncData} (F : Fun K "_law_is_odd" "_law_is_odd" s__law_is_odd f fd) (T : Txt mg) (Q : Cls K mg C) : FnOk P w K mg base CX0 1 f fd ["error"] (spOdd C) := by
  refine F.ok sc__law_is_odd (fun vs H Q E h => ?_) (fun cdv A outer s H vs R E hr h => ?_)
  · obtain ⟨a, i, d, fs, rfl, _⟩ := h
    rfl
  · obtain ⟨a, i, d, fs, rfl, hi, ha, k⟩ := h
    refine ⟨_, (pss_cons (ps_if (PW.pt (pw_or (pt_val (pe_callB call_isX (by rfl) T.b_isinstance boot_isinstance (pa_cons (pv 0) (pa_cons (pe_ty (n := "RuntimeError") T.b_RuntimeError (by decide +kernel)) pa_nil)))) (pw_or1 (pt_val (pe_callB call_isX (by rfl) T.b_isinstance boot_isinstance (pa_cons (pv 0) (pa_cons (pe_ty (n := "AttributeError") T.b_AttributeError (by decide +kernel)) pa_nil)))))))
  (pss_one (ps_ret pe_bl))
  pss_nil)
  (pss_one (ps_ret (pe_or (pe_callB call_isX (by rfl) T.b_isinstance boot_isinstance (pa_cons (pv 0) (pa_cons (pe_ty (n := "TypeError") T.b_TypeError (by decide +kernel)) pa_nil))) (pe_or (pe_callB call_isX (by rfl) T.b_isinstance boot_isinstance (pa_cons (pv 0) (pa_cons (pe_ty (n := "ArithmeticError") T.b_ArithmeticError (by decide +kernel)) pa_nil))) (pe_one (pe_callB call_isX (by rfl) T.b_isinstance boot_isinstance (pa_cons (pv 0) (pa_cons (pe_ty (n := "LookupError") T.b_LookupError (by decide +kernel)) pa_nil))))))))), ?_⟩
    have ex := Q.ex i hi
    have rx : ∀ (n : String), n ∈ ["RuntimeError", "AttributeError", "TypeError", "ArithmeticError", "LookupError"] → ∀ (R : VK), R (.bl false) H → tCB (rIsX K) (tCons (tVar 0) (tCons (tC (.ty n)) tNil)) (start N__law_is_odd [.ref a]) H R :=
      fun n hn R r => ⟨_, rfl, a, C i, d, fs, _, _, _, rfl, ex, ha, .ty _, Q.ko i hi n hn, r⟩
    refine rx "RuntimeError" (by decide) _ ⟨_, rfl, iteF (rx "AttributeError" (by decide) _ ⟨_, rfl, iteF ?_⟩)⟩
    exact rx "TypeError" (by decide) _ ⟨_, rfl, iteF (rx "ArithmeticError" (by decide) _ ⟨_, rfl, iteF (rx "LookupError" (by decide) _ k)⟩)⟩

/-! ### what is made by an expression, all that stood before staying as it was -/
def Nw (te : TE) (σ : L2.St) (H : Hp) (R : Hp → V → Prop) : Prop := ∀ H1, Same H H1 → ∀ Q : VK, (∀ v H2, Same H1 H2 → R H2 v → Q v H2) → te σ H1 Q
def NwA (ta : TA) (σ : L2.St) (H : Hp) (Rs : List (Hp → V → Prop)) : Prop := ∀ H1, Same H H1 → ∀ Q : List V → Hp → Prop, (∀ vs H2, Same H1 H2 → Paired (fun R v => R H2 v) Rs vs → Q vs H2) → ta σ H1 Q
def StS (R : Hp → V → Prop) : Prop := ∀ H H' v, Same H H' → R H v → R H' v
theorem nwa_nil {σ : L2.St} {H : Hp} : NwA tNil σ H [] := fun H1 _ Q q => q [] H1 (Same.refl _) .nil
theorem nwa_cons {te : TE} {ta : TA} {σ : L2.St} {H : Hp} {R : Hp → V → Prop} {Rs : List (Hp → V → Prop)} (st : StS R) (h : Nw te σ H R) (t : NwA ta σ H Rs) : NwA (tCons te ta) σ H (R :: Rs) := fun H1 s Q q =>
  h H1 s _ fun v H2 s2 r => t H2 (s.trans s2) _ fun vs H3 s3 rs => q (v :: vs) H3 (s2.trans s3) (.cons (st _ _ _ s3 r) rs)
theorem paired_st {H H' : Hp} (s : Same H H') : ∀ {Rs : List (Hp → V → Prop)} {vs : List V}, (∀ R ∈ Rs, StS R) → Paired (fun R v => R H v) Rs vs → Paired (fun (R : Hp → V → Prop) v => R H' v) Rs vs
  | _, _, _, .nil => .nil
  | _, _, st, .cons a r => .cons (st _ List.mem_cons_self _ _ _ s a) (paired_st s (fun R hR => st R (List.mem_cons_of_mem _ hR)) r)
theorem nw_lst {ta : TA} {σ : L2.St} {H : Hp} {Rs : List (Hp → V → Prop)} (h : NwA ta σ H Rs) (st : ∀ R ∈ Rs, StS R) (few : Rs.length ≤ 100) : Nw (tLst ta) σ H fun H1 v => ∃ a xs, v = .ref a ∧ H1 a = some (.lst xs) ∧ Paired (fun R v => R H1 v) Rs xs := fun H1 s Q q =>
  h H1 s _ fun vs H2 s2 rs => ⟨by rw [← Paired.length rs]; exact Nat.le_trans few (by decide), fun a ha => q _ _ (s2.trans (same_new ha)) ⟨a, vs, rfl, upd_same, paired_st (same_new ha) st rs⟩⟩
theorem paired_app {α β : Type} {F : α → β → Prop} : ∀ {xs : List α} {ys : List β} {xs' : List α} {ys' : List β}, Paired F xs ys → Paired F xs' ys' → Paired F (xs ++ xs') (ys ++ ys')
  | _, _, _, _, .nil, r => r
  | _, _, _, _, .cons a r, r' => .cons a (paired_app r r')
theorem paired_get {α β : Type} {F : α → β → Prop} : ∀ {xs : List α} {ys : List β} {i : Nat} {y : β}, Paired F xs ys → ys[i]? = some y → ∃ x, xs[i]? = some x ∧ F x y
  | _, _, _, _, .nil, h => by simp at h
  | x :: _, _, 0, _, .cons a r, h => ⟨x, rfl, by simp at h; subst h; exact a⟩
  | _, _, i + 1, _, .cons a r, h => by
    obtain ⟨x, h1, h2⟩ := paired_get (i := i) r (by simpa using h)
    exact ⟨x, by simpa using h1, h2⟩
/-- an exception of the i-th class with these fields -/
def RX (C : Nat → Addr) (fs : List (Str × V)) (i : Nat) : Hp → V → Prop := fun H v => ∃ a d, v = .ref a ∧ ExAt H a (C i) d fs
theorem RX.st {C : Nat → Addr} {fs : List (Str × V)} {i : Nat} : StS (RX C fs i) := fun H H' v s ⟨a, d, e, h⟩ => ⟨a, d, e, h.mono s⟩
theorem same_two {H : Hp} {a dx : Addr} {o u v : HO} (ha : H a = none) (hd : (L2.upd H a o) dx = none) : Same H (L2.upd (L2.upd (L2.upd H a o) dx u) a v) := fun b z e => by
  have h1 : b ≠ a := ne_of_none e ha
  have h2 : b ≠ dx := fun q => by
    rw [← q, upd_ne h1] at hd
    rw [hd] at e
    cases e
  rw [upd_ne h1, upd_ne h2, upd_ne h1]
  exact e
theorem nw_one {C : Nat → Addr} (Q : Cls K mg C) {i j : Nat} {σ : L2.St} {H : Hp} {y : V} (hi : i < 9) (e : σ[j]? = some (some y)) : Nw (tExn (C i) 1 (spI1 K "part") (fun vs _ => vs) (tCons (tVar j) tNil) tNil 0) σ H (RX C [("part", y)] i) := fun H1 s R r =>
  ⟨y, e, rfl, rfl, by decide, fun a ha => ⟨a, C i, y, rfl, (Q.ex i (by omega)).o, Q.part i hi, upd_same, fun dx hd ne => ⟨rfl, r _ _ (same_two ha hd) ⟨a, dx, rfl, .inl upd_same, .inl (Eq.trans (upd_ne ne) upd_same)⟩⟩⟩⟩
theorem nw_oneK {C : Nat → Addr} (Q : Cls K mg C) {i j : Nat} {σ : L2.St} {H : Hp} {y : V} (hi : i < 9) (e : σ[j]? = some (some y)) : Nw (tExn (C i) 0 (spI1 K "part") (fun vs zs => vs ++ zs) tNil (tCons (tVar j) tNil) 1) σ H (RX C [("part", y)] i) := fun H1 s R r =>
  ⟨y, e, rfl, rfl, by decide, fun a ha => ⟨a, C i, y, rfl, (Q.ex i (by omega)).o, Q.part i hi, upd_same, fun dx hd ne => ⟨rfl, r _ _ (same_two ha hd) ⟨a, dx, rfl, .inl upd_same, .inl (Eq.trans (upd_ne ne) upd_same)⟩⟩⟩⟩
theorem same_three {H : Hp} {a dx : Addr} {o u v t : HO} (ha : H a = none) (hd : (L2.upd H a o) dx = none) : Same H (L2.upd (L2.upd (L2.upd (L2.upd H a o) dx u) a v) dx t) := fun b z e => by
  have h1 : b ≠ a := ne_of_none e ha
  have h2 : b ≠ dx := fun q => by
    rw [← q, upd_ne h1] at hd
    rw [hd] at e
    cases e
  rw [upd_ne h2, upd_ne h1, upd_ne h2, upd_ne h1]
  exact e
theorem nw_two {C : Nat → Addr} (Q : Cls K mg C) {i j l : Nat} {f g : Str} {σ : L2.St} {H : Hp} {y z : V} (hi : i < 11) (hf : PySem.W.findIn K (.ref (C i)) f = some none) (hg : PySem.W.findIn K (.ref (C i)) g = some none) (e : σ[j]? = some (some y)) (e2 : σ[l]? = some (some z)) :
    Nw (tExn (C i) 2 (spI2 K f g) (fun vs _ => vs) (tCons (tVar j) (tCons (tVar l) tNil)) tNil 0) σ H (RX C [(g, z), (f, y)] i) := fun H1 s R r =>
  ⟨y, e, z, e2, rfl, rfl, by decide, fun a ha => ⟨a, C i, y, z, rfl, (Q.ex i hi).o, hf, hg, upd_same, fun dx hd ne => ⟨rfl, r _ _ (same_three ha hd) ⟨a, dx, rfl, .inl (Eq.trans (upd_ne ne.symm) upd_same), .inl upd_same⟩⟩⟩⟩
theorem nw_twoK {C : Nat → Addr} (Q : Cls K mg C) {i j l : Nat} {f g : Str} {σ : L2.St} {H : Hp} {y z : V} (hi : i < 11) (hf : PySem.W.findIn K (.ref (C i)) f = some none) (hg : PySem.W.findIn K (.ref (C i)) g = some none) (e : σ[j]? = some (some y)) (e2 : σ[l]? = some (some z)) :
    Nw (tExn (C i) 0 (spI2 K f g) (fun vs zs => vs ++ zs.reverse) tNil (tCons (tVar l) (tCons (tVar j) tNil)) 2) σ H (RX C [(g, z), (f, y)] i) := fun H1 s R r =>
  ⟨z, e2, y, e, rfl, rfl, by decide, fun a ha => ⟨a, C i, y, z, rfl, (Q.ex i hi).o, hf, hg, upd_same, fun dx hd ne => ⟨rfl, r _ _ (same_three ha hd) ⟨a, dx, rfl, .inl (Eq.trans (upd_ne ne.symm) upd_same), .inl upd_same⟩⟩⟩⟩
theorem call_reprK {X : Cx} {K : PySem.W.Frag} (hK : X.K = K) (hg : X.A.guards = some []) (hu : X.A.units + 64 < cLine) : CallR X (.builtin "repr") (rRepr K) := hK ▸ call_repr hg hu
theorem pe_exfK {X : Cx} {K : PySem.W.Frag} {e : Expr} {f : Str} {te : TE} {pos : Pos} (hK : X.K = K) (he : PE X e te) (hb : attributeBase e f X.env (eval e X.env) = eval e X.env := by rfl) : PE X (.Attribute e f pos) (tExF K f te) := hK ▸ pe_exf he hb
def spLaw (K : PySem.W.Frag) : Sp := fun vs H Q _ => ∃ (a : Addr) (ns : List Int), vs = [.ref a] ∧ SqL K H a (ns.map V.int) ∧ ∀ H', Q (.bl true) H'
end
end K00
set_option Elab.async false
set_option linter.all false
set_option maxRecDepth 100000
set_option maxHeartbeats 4000000
namespace K00
open PySem PySem.Spec PyProof.Rows L2 Own
section
variable {P : Program} {w : World} {K : PySem.W.Frag} {mg : Str → Option Value} {base : Heap}
/-! ### helpers of the law's own def -/
def VT (H : Hp) (v : V) (d : PyData) : Prop := Vd (fun _ => True) H 2 v d
theorem VT.mono {H H' : Hp} {v : V} {d : PyData} (s : Same H H') (h : VT H v d) : VT H' v d := Vd.imp (fun _ z => z) (fun a o _ e => s a o e) h
theorem paired_of_map {α β γ : Type} {F : β → γ → Prop} {g : α → β} : ∀ {is : List α} {xs : List γ}, Paired F (is.map g) xs → Paired (fun i v => F (g i) v) is xs
  | [], _, .nil => .nil
  | _ :: _, _, .cons a r => .cons a (paired_of_map r)
theorem rep_of {K : PySem.W.Frag} {H : Hp} {v : V} {d : PyData} {Q : VK} (h : VT H v d) (q : Q (.str d.shown) H) : rRepr K [v] H Q := by
  have s := Vd.sh (by decide) h
  exact ⟨v, d, rfl, Vd.dp h, s.s, s.h, Nat.le_trans s.n (by decide), Nat.le_trans s.l (by decide), q⟩
theorem rep_two {K : PySem.W.Frag} {H : Hp} {a : Addr} {v u : V} {d e : PyData} {Q : VK} (ha : H a = some (.lst [v, u])) (h : VT H v d) (h2 : VT H u e) (q : Q (.str (PyData.list [d, e]).shown) H) : rRepr K [.ref a] H Q := by
  have s := Vd.sh (by decide) h
  have s2 := Vd.sh (by decide) h2
  have m := Sh.lst (ds := [d, e]) (n := 2) (l := 600) (k := 2) (fun x hx => by
    rcases List.mem_cons.mp hx with rfl | hx
    · exact s
    · rcases List.mem_cons.mp hx with rfl | hx
      · exact s2
      · cases hx) (Nat.le_refl 2)
  exact ⟨.ref a, .list [d, e], rfl, .lst (SqL.of ha) (.cons (Vd.dp h) (.cons (Vd.dp h2) .nil)), m.s, m.h, Nat.le_trans m.n (by decide), Nat.le_trans m.l (by decide), q⟩
theorem len_p {α β : Type} {F : α → β → Prop} {xs : List α} {ys : List β} (h : Paired F xs ys) : ys.length = xs.length := (Paired.length h).symm
theorem lc_none {K : PySem.W.Frag} {al D : Addr} {xs : List V} {g : TG} {tt : TT} {te : TE} {vs : List Nat} {σ : L2.St} {H1 : Hp} {Qd : Hp → Prop} (hl : H1 al = some (.lst xs)) (hD : H1 D = none)
    (hs : ∀ (i : Nat) (x : V) (H' : Hp) (R : L2.St → Bool → Hp → Prop), xs[i]? = some x → Same H1 H' → (∀ σ2 H3, Same H' H3 → R σ2 false H3) → g x (wipe σ vs) H' fun σ2 H2 => wipe σ2 vs = wipe σ vs ∧ tt σ2 H2 (R σ2)) (hd : ∀ H', Same H1 H' → H' D = some (.lst []) → Qd H') :
    ∃ W : Nat → Nat → Hp → Prop, (∃ m, W 0 m (upd H1 D (.lst []))) ∧ ∀ i m H, W i m H →
      ((Itl K al).stop i H ∧ Qd H) ∨ ((Itl K al).go i H ∧ ∃ Nx : Hp → Prop, (∀ H', Nx H' → ∃ m', m' < m ∧ W (i + 1) m' H') ∧ ∀ x H', (Itl K al).yld i H x H' → g x (wipe σ vs) H' fun σ2 H2 => wipe σ2 vs = wipe σ vs ∧ tt σ2 H2 fun b H3 =>
        if b = true then te σ2 H3 fun y H4 => ∃ acc, H4 D = some (.lst acc) ∧ acc.length < sizeLine ∧ Nx (upd H4 D (.lst (acc ++ [y]))) else Nx H3) := by
  have s0 : Same H1 (upd H1 D (.lst [])) := same_new hD
  refine lc_it (walk_list (K := K) (a := al) (xs := xs)) (fun _ H' => Same (upd H1 D (.lst [])) H') (Same.refl _) (fun _ _ _ s => SqL.of ((s0.trans s) _ _ hl)) (fun i x H H' hi s y => ?_) (fun H s => hd H (s0.trans s) (s _ _ upd_same))
  obtain ⟨rfl, hx⟩ := y
  exact hs i x H' (fun σ2 b H3 => if b = true then te σ2 H3 fun y H4 => ∃ acc, H4 D = some (.lst acc) ∧ acc.length < sizeLine ∧ Same (upd H1 D (.lst [])) (upd H4 D (.lst (acc ++ [y]))) else Same (upd H1 D (.lst [])) H3) hx (s0.trans s) fun σ2 H3 s3 => iteF (s.trans s3)
/-- xs is a list of exceptions of the classes is, each with these fields -/
def Exs (C : Nat → Addr) (H : Hp) (fs : List (Str × V)) (is : List Nat) (xs : List V) : Prop := Paired (fun i v => RX C fs i H v) is xs
theorem Exs.mono {C : Nat → Addr} {H H' : Hp} {fs : List (Str × V)} {is : List Nat} {xs : List V} (s : Same H H') (h : Exs C H fs is xs) : Exs C H' fs is xs := paired_imp (fun _ _ r => RX.st _ _ _ s r) h
theorem get_of_paired {α β : Type} {F : α → β → Prop} : ∀ {xs : List α} {ys : List β} {i : Nat} {y : β}, Paired F xs ys → ys[i]? = some y → ∃ x, xs[i]? = some x ∧ F x y
  | _, _, _, _, .nil, h => by simp at h
  | x :: _, _, 0, _, .cons a r, h => ⟨x, rfl, by simp at h; subst h; exact a⟩
  | _, _, i + 1, _, .cons a r, h => by
    obtain ⟨x, h1, h2⟩ := get_of_paired (i := i) r (by simpa using h)
    exact ⟨x, by simpa using h1, h2⟩
theorem Exs.get {C : Nat → Addr} {H : Hp} {fs : List (Str × V)} {is : List Nat} {xs : List V} {i : Nat} {x : V} (h : Exs C H fs is xs) (hx : xs[i]? = some x) : ∃ j a d, is[i]? = some j ∧ j ∈ is ∧ x = .ref a ∧ ExAt H a (C j) d fs := by
  obtain ⟨j, hj, a, d, e, r⟩ := get_of_paired h hx
  exact ⟨j, a, d, hj, List.mem_of_getElem? hj, e, r⟩
theorem ne_rep {K : PySem.W.Frag} {te1 te2 : TE} {σ : L2.St} {H : Hp} {R : Bool → Hp → Prop} (h : te1 σ H fun x H1 => rRepr K [x] H1 fun y H2 => te2 σ H2 fun z H3 => rRepr K [z] H3 fun u H4 => rNe y u H4 (fun b H5 => ∃ k, b = .bl k ∧ R k H5)) :
    tTest (tOp rNe (tCB (rRepr K) (tCons te1 tNil)) (tCB (rRepr K) (tCons te2 tNil))) σ H R := h
theorem nil_ne {K : PySem.W.Frag} {D : Addr} {H' : Hp} {σ : L2.St} {R : Bool → Hp → Prop} (hd : H' D = some (.lst [])) (k : ∀ H2, Same H' H2 → R false H2) :
    tLst tNil σ H' fun y H2 => rNeD K (.ref D) y H2 fun x H3 => ∃ c, x = .bl c ∧ R c H3 :=
  ⟨by show 0 ≤ sizeLine; decide, fun l hl => ⟨.list [], .list [], .lst (SqL.of ((same_new hl) _ _ hd)) .nil, .lst (SqL.of upd_same) .nil, by decide, by decide, false, rfl, k _ (same_new hl)⟩⟩
theorem if_none {K : PySem.W.Frag} {al : Addr} {i : Nat} {xs : List V} {g : TG} {tt : TT} {te : TE} {vs : List Nat} {σ : L2.St} {H : Hp} {ts u : TS} {D : Ends} (e : σ[i]? = some (some (.ref al))) (hl : H al = some (.lst xs))
    (hs : ∀ (i : Nat) (x : V) (H' : Hp) (R : L2.St → Bool → Hp → Prop), xs[i]? = some x → Same H H' → (∀ σ2 H3, Same H' H3 → R σ2 false H3) → g x (wipe σ vs) H' fun σ2 H2 => wipe σ2 vs = wipe σ vs ∧ tt σ2 H2 (R σ2))
    (k : ∀ H', Same H H' → u D σ H') : tSeq (tIfS (tTest (tOp (rNeD K) (tLc (iList K (tVar i)) g tt te vs) (tLst tNil))) ts tNext) u D σ H :=
  ⟨_, e, al, rfl, ⟨_, SqL.of hl⟩, fun D0 hD => lc_none hl hD hs fun H' s hd => nil_ne hd fun H2 s2 => iteF (k H2 (s.trans s2))⟩
theorem seq_par2 {ta tb : TE} {u : TS} {D : Ends} {i j : Nat} {σ : L2.St} {H : Hp} (h : ta σ H fun x H1 => tb σ H1 fun y H2 => ∃ v w, [x, y] = [v, w] ∧ u D ((σ.set i (some v)).set j (some w)) H2) : tSeq (tPar i j (tCons ta (tCons tb tNil))) u D σ H := h
theorem ne_rep2 {K : PySem.W.Frag} {C : Nat → Addr} (Q : Cls K mg C) {i a2 a3 ae : Nat} {f g : Str} {σ : L2.St} {H : Hp} {y z : V} {d1 d2 : PyData} {a d : Addr} {R : Bool → Hp → Prop} (hi : i < 11) (hf : PySem.W.findIn K (.ref (C i)) f = some none) (hg : PySem.W.findIn K (.ref (C i)) g = some none) (ne : f ≠ g)
    (e1 : σ[a2]? = some (some y)) (e2 : σ[a3]? = some (some z)) (e3 : σ[ae]? = some (some (.ref a))) (ea : ExAt H a (C i) d [(g, z), (f, y)]) (w1 : VT H y d1) (w2 : VT H z d2) (k : ∀ H', Same H H' → R false H') :
    tTest (tOp rNe (tCB (rRepr K) (tCons (tLst (tCons (tExF K f (tVar ae)) (tCons (tExF K g (tVar ae)) tNil))) tNil)) (tCB (rRepr K) (tCons (tLst (tCons (tVar a2) (tCons (tVar a3) tNil))) tNil))) σ H R := by
  refine ne_rep ?_
  have lf : List.lookup f [(g, z), (f, y)] = some y := by
    rw [List.lookup_cons, List.lookup_cons, show (f == g) = false by simpa using ne, show (f == f) = true by simp]
  have lg : List.lookup g [(g, z), (f, y)] = some z := by
    rw [List.lookup_cons, show (g == g) = true by simp]
  refine ⟨_, e3, a, C i, d, _, y, rfl, Q.ex i hi, hf, ea, lf, ⟨_, e3, a, C i, d, _, z, rfl, Q.ex i hi, hg, ea, lg, ⟨by show 2 ≤ sizeLine; decide, fun l1 h1 => ?_⟩⟩⟩
  have s1 := same_new (o := HO.lst [y, z]) h1
  refine rep_two upd_same (w1.mono s1) (w2.mono s1) ?_
  refine ⟨y, e1, z, e2, by show 2 ≤ sizeLine; decide, fun l2 h2 => ?_⟩
  have s2 := same_new (o := HO.lst [y, z]) h2
  refine rep_two upd_same (w1.mono (s1.trans s2)) (w2.mono (s1.trans s2)) ?_
  exact ⟨rfl, false, by simp, k _ (s1.trans s2)⟩
theorem dpAll_bl {K : PySem.W.Frag} {H : Hp} : ∀ bs : List Bool, DpAll K H (bs.map V.bl) (bs.map PyData.bool)
  | [] => .nil
  | b :: bs => .cons (.bl b) (dpAll_bl bs)
theorem canLay_bl : ∀ bs : List Bool, PyData.canLayAll0 (bs.map PyData.bool) = true
  | [] => by simp [PyData.canLayAll0]
  | b :: bs => by
    have := canLay_bl bs
    simp [PyData.canLayAll0, PyData.canLay0, this]
theorem depth_bl : ∀ bs : List Bool, PyData.depthAll (bs.map PyData.bool) = 0
  | [] => by simp [PyData.depthAll]
  | b :: bs => by
    have := depth_bl bs
    simp [PyData.depthAll, PyData.depth, this]
theorem shaped_bl (bs : List Bool) : SeqAt.shaped (.list (bs.map PyData.bool)) = true := by
  unfold SeqAt.shaped
  simp [PyData.canLay0, PyData.depth, canLay_bl, depth_bl]
theorem eqv_bl (bs : List Bool) : PyData.eqv (.list (bs.map PyData.bool)) (.list (bs.map PyData.bool)) = true := SeqAt.eqv_refl _ (by simp [PyData.canLay0, canLay_bl])
theorem ne_bl {K : PySem.W.Frag} {H : Hp} {a b : Addr} {bs : List Bool} {Q : VK} (ha : H a = some (.lst (bs.map V.bl))) (hb : H b = some (.lst (bs.map V.bl))) (q : Q (.bl false) H) : rNeD K (.ref a) (.ref b) H Q :=
  ⟨_, _, .lst (SqL.of ha) (dpAll_bl bs), .lst (SqL.of hb) (dpAll_bl bs), shaped_bl bs, shaped_bl bs, by rw [eqv_bl]; exact q⟩
/-- exceptions of the classes is, any fields -/
def Exa (C : Nat → Addr) (H : Hp) (is : List Nat) (xs : List V) : Prop := Paired (fun i v => ∃ a d fs, v = .ref a ∧ ExAt H a (C i) d fs) is xs
theorem Exs.any {C : Nat → Addr} {H : Hp} {fs : List (Str × V)} {is : List Nat} {xs : List V} (h : Exs C H fs is xs) : Exa C H is xs := paired_imp (fun _ _ ⟨a, d, e, r⟩ => ⟨a, d, fs, e, r⟩) h
theorem Exa.mono {C : Nat → Addr} {H H' : Hp} {is : List Nat} {xs : List V} (s : Same H H') (h : Exa C H is xs) : Exa C H' is xs := paired_imp (fun _ _ ⟨a, d, fs, e, r⟩ => ⟨a, d, fs, e, r.mono s⟩) h
theorem nx_in {D : Ends} {σ : L2.St} {H : Hp} (h : D.nx σ H) : tNext D σ H := h
theorem loop_body {C : Nat → Addr} (Q : Cls K mg C) {s0 s1 s2 s3 s4 s5 s7 s8 s10 : Option V} {a' d : Addr} {fs : List (Str × V)} {i : Nat} {H : Hp} {D : Ends} {vs : List Nat} (evs : vs = [10]) (hi : i < 11) (ea : ExAt H a' (C i) d fs)
    (k : ∀ H', Same H H' → D.nx [s0, s1, s2, s3, s4, s5, some (.ref a'), s7, s8, some (.int (i : Nat)), s10] H') :
    tSeq (tIfS (tOr (tTest (tOp (rNeD K) (tCall (spKinds C) [] E0 (tCons (tVar 6) tNil)) (tLc (iRng1 (tCons (tC (V.int 11)) tNil)) (gName 10) tYes (tOp rEq (tVar 10) (tVar 9)) vs)))
      (tOr (tNot (tB (tCB (rIsX K) (tCons (tVar 6) (tCons (tC (V.ref (C 11))) tNil))))) (tNot (tB (tCB (rIsX K) (tCons (tVar 6) (tCons (tC (V.ty "ValueError")) tNil)))))))
      (tRet (tC (V.bl false))) tNext) (tIfS (tB (tCall (spOdd C) [] E0 (tCons (tVar 6) tNil))) (tRet (tC (V.bl false))) tNext) D [s0, s1, s2, s3, s4, s5, some (.ref a'), s7, s8, some (.int (i : Nat)), s10] H := by
  subst evs
  refine ⟨_, rfl, a', i, d, fs, rfl, hi, ea, fun L H2 s2' hL => ?_⟩
  refine ⟨11, rfl, by decide, by decide, fun D0 hD0 => ?_⟩
  refine lc_it (walk_range (lo := 0) (n := 11)) (fun k H' => Same H2 H' ∧ H' D0 = some (.lst ((List.range k).map fun m => V.bl (decide (m = i))))) ⟨same_new hD0, upd_same⟩ (fun _ _ _ _ => trivial) (fun n x H' H'' hk ⟨s, hl⟩ y => ?_) (fun H' ⟨s, hl⟩ => ?_)
  · obtain ⟨rfl, rfl⟩ := y
    refine ⟨rfl, yes_if ?_⟩
    refine ⟨_, rfl, _, rfl, rfl, _, hl, by rw [List.length_map, List.length_range]; exact Nat.lt_of_lt_of_le hk (by decide), same_mut s hD0, ?_⟩
    rw [upd_same, List.range_succ, List.map_append]
    have e : decide (V.int (0 + (n : Int)) = V.int (i : Nat)) = decide (n = i) := by
      rw [decide_eq_decide]
      constructor
      · intro z
        injection z with z
        omega
      · rintro rfl
        rw [Int.zero_add]
    rw [e]
    rfl
  · have hl2 : H' D0 = some (.lst ((kindsOf i).map V.bl)) := by
      rw [hl]
      unfold kindsOf
      rw [List.map_map]
      rfl
    refine ne_bl (s _ _ hL) hl2 ⟨false, rfl, iteF ?_⟩
    have sH := s2'.trans s
    refine ⟨_, rfl, a', C i, d, fs, _, _, true, rfl, Q.ex i hi, ea.mono sH, .own _, Q.kt i hi, true, rfl, iteF ?_⟩
    refine ⟨_, rfl, a', C i, d, fs, _, _, true, rfl, Q.ex i hi, ea.mono sH, .ty _, Q.kv i hi, true, rfl, iteF ?_⟩
    refine nx_in ?_
    dsimp only
    exact ⟨_, rfl, a', i, d, fs, rfl, hi, ea.mono sH, false, rfl, iteF (nx_in (k _ sH))⟩
theorem two_of {α β : Type} {F : α → β → Prop} {a b : α} {ys : List β} (h : Paired F [a, b] ys) : ∃ y z, ys = [y, z] ∧ F a y ∧ F b z := by
  cases h with
  | cons h1 r =>
    cases r with
    | cons h2 r =>
      cases r
      exact ⟨_, _, rfl, h1, h2⟩
theorem ok_law {C : Nat → Addr} {f : Addr} {fd : FuncData} (F : Fun K "law" "law" s_law f fd) (T : Txt mg) (Q : Cls K mg C)
    (X_BadNumber : Xcl P w K mg base "BadNumber" (C 0) 1 ["part"] (fun vs zs => vs ++ zs) (spI1 K "part"))
    (X_BadName : Xcl P w K mg base "BadName" (C 1) 1 ["part"] (fun vs zs => vs ++ zs) (spI1 K "part"))
    (X_BadTongue : Xcl P w K mg base "BadTongue" (C 2) 1 ["part"] (fun vs zs => vs ++ zs) (spI1 K "part"))
    (X_BadProgram : Xcl P w K mg base "BadProgram" (C 3) 1 ["part"] (fun vs zs => vs ++ zs) (spI1 K "part"))
    (X_BadPuzzle : Xcl P w K mg base "BadPuzzle" (C 4) 1 ["part"] (fun vs zs => vs ++ zs) (spI1 K "part"))
    (X_BadFactor : Xcl P w K mg base "BadFactor" (C 5) 1 ["part"] (fun vs zs => vs ++ zs) (spI1 K "part"))
    (X_BadOrder : Xcl P w K mg base "BadOrder" (C 6) 1 ["part"] (fun vs zs => vs ++ zs) (spI1 K "part"))
    (X_BadDealer : Xcl P w K mg base "BadDealer" (C 7) 1 ["part"] (fun vs zs => vs ++ zs) (spI1 K "part"))
    (X_Misfit : Xcl P w K mg base "Misfit" (C 8) 1 ["part"] (fun vs zs => vs ++ zs) (spI1 K "part"))
    (X_TooMany : Xcl P w K mg base "TooMany" (C 9) 2 ["most", "what"] (fun vs zs => vs ++ zs.reverse) (spI2 K "what" "most"))
    (X_BadText : Xcl P w K mg base "BadText" (C 10) 2 ["item", "line"] (fun vs zs => vs ++ zs.reverse) (spI2 K "line" "item"))
    (C__law_bell : Cal P w K mg base 1 "_law_bell" ["script"] (spSieve K)) (C__law_value : Cal P w K mg base 5 "_law_value" ["bell", "deep"] (spVal 2))
    (C__law_kinds : Cal P w K mg base 1 "_law_kinds" ["error"] (spKinds C)) (C__law_is_odd : Cal P w K mg base 1 "_law_is_odd" ["error"] (spOdd C)) : FnG P w K mg base CX0 6 f fd ["script"] (spLaw K) := by
  refine Fun.okG F sc_law (fun vs H Q E h => ?_) (fun cdv A outer s H vs W E hr gd h => ?_)
  · obtain ⟨a, ns, rfl, _⟩ := h
    rfl
  · obtain ⟨a, ns, rfl, hS, k⟩ := h
    refine ⟨_, (pss_cons (ps_set (i := 1) sc_law.nd rfl (Or.inl rfl) (pe_cal C__law_bell (hr.mono (by decide)) (pa_cons (pv 0) pa_nil)))
  (pss_cons (ps_asg (pe_tup (pa_cons (pe_cal C__law_value (hr.mono (by decide)) (pa_cons (pv 1) (pa_cons pe_int pa_nil))) (pa_cons (pe_cal C__law_value (hr.mono (by decide)) (pa_cons (pv 1) (pa_cons pe_int pa_nil))) pa_nil))) (pg_tup rfl (pgs_cons (pg_name (i := 2) sc_law.nd rfl (Or.inr rfl)) (pgs_cons (pg_name (i := 3) sc_law.nd rfl (Or.inr rfl)) pgs_nil))))
  (pss_cons (ps_set (i := 4) sc_law.nd rfl (Or.inl rfl) (pe_lst (pa_cons (pe_xcl X_BadNumber (hr.mono (by decide)) (pa_cons (pv 2) pa_nil)) (pa_cons (pe_xcl X_BadName (hr.mono (by decide)) (pa_cons (pv 2) pa_nil)) (pa_cons (pe_xcl X_BadTongue (hr.mono (by decide)) (pa_cons (pv 2) pa_nil)) (pa_cons (pe_xcl X_BadProgram (hr.mono (by decide)) (pa_cons (pv 2) pa_nil)) (pa_cons (pe_xcl X_BadPuzzle (hr.mono (by decide)) (pa_cons (pv 2) pa_nil)) (pa_cons (pe_xcl X_BadFactor (hr.mono (by decide)) (pa_cons (pv 2) pa_nil)) (pa_cons (pe_xcl X_BadOrder (hr.mono (by decide)) (pa_cons (pv 2) pa_nil)) (pa_cons (pe_xcl X_BadDealer (hr.mono (by decide)) (pa_cons (pv 2) pa_nil)) (pa_cons (pe_xcl X_Misfit (hr.mono (by decide)) (pa_cons (pv 2) pa_nil)) pa_nil)))))))))))
  (pss_cons (ps_set (i := 5) sc_law.nd rfl (Or.inl rfl) (pe_lst (pa_cons (pe_xclK X_BadNumber (hr.mono (by decide)) (pk_cons (pv 2) pk_nil)) (pa_cons (pe_xclK X_BadName (hr.mono (by decide)) (pk_cons (pv 2) pk_nil)) (pa_cons (pe_xclK X_BadTongue (hr.mono (by decide)) (pk_cons (pv 2) pk_nil)) (pa_cons (pe_xclK X_BadProgram (hr.mono (by decide)) (pk_cons (pv 2) pk_nil)) (pa_cons (pe_xclK X_BadPuzzle (hr.mono (by decide)) (pk_cons (pv 2) pk_nil)) (pa_cons (pe_xclK X_BadFactor (hr.mono (by decide)) (pk_cons (pv 2) pk_nil)) pa_nil))))))))
  (pss_cons (ps_set (i := 5) sc_law.nd rfl (Or.inl rfl) (pe_op op_cat (pv 5) (pe_lst (pa_cons (pe_xclK X_BadOrder (hr.mono (by decide)) (pk_cons (pv 2) pk_nil)) (pa_cons (pe_xclK X_BadDealer (hr.mono (by decide)) (pk_cons (pv 2) pk_nil)) (pa_cons (pe_xclK X_Misfit (hr.mono (by decide)) (pk_cons (pv 2) pk_nil)) pa_nil))))))
  (pss_cons (ps_if (pt_cmpR (op_neD (hu64 hr)) (pe_lc (own := [("error", 6)]) (g := gName 6) rfl sc_law.nd (pi_list (pe_op op_cat (pv 4) (pv 5))) (blkOk_by (own := [("error", 6)]) (N := N_law) (sc := defScope s_law) (by decide +kernel)) (fun _ _ _ _ _ => (pg_name (i := 6) sc_law.nd rfl (Or.inl rfl))) (fun _ _ _ _ _ => (pts_one (pt_cmpR op_ne (pe_callB (call_reprK (K := K) (by rfl) gd (hu64 hr)) (by rfl) T.b_repr boot_repr (pa_cons (pe_exfK (K := K) (by rfl) (pv 6)) pa_nil)) (pe_callB (call_reprK (K := K) (by rfl) gd (hu64 hr)) (by rfl) T.b_repr boot_repr (pa_cons (pv 2) pa_nil)) (nomark _)))) (fun _ _ _ _ _ => (pv 6))) (pe_lst pa_nil) (nomark _))
  (pss_one (ps_ret pe_bl))
  pss_nil)
  (pss_cons (ps_par (i := 7) (j := 8) rfl sc_law.nd rfl rfl (by decide) rfl rfl (pa_cons (pe_lst (pa_cons (pe_xcl X_TooMany (hr.mono (by decide)) (pa_cons (pv 2) (pa_cons (pv 3) pa_nil))) (pa_cons (pe_xclK X_TooMany (hr.mono (by decide)) (pk_cons (pv 3) (pk_cons (pv 2) pk_nil))) pa_nil))) (pa_cons (pe_lst (pa_cons (pe_xcl X_BadText (hr.mono (by decide)) (pa_cons (pv 2) (pa_cons (pv 3) pa_nil))) (pa_cons (pe_xclK X_BadText (hr.mono (by decide)) (pk_cons (pv 3) (pk_cons (pv 2) pk_nil))) pa_nil))) pa_nil)) rfl)
  (pss_cons (ps_if (pt_cmpR (op_neD (hu64 hr)) (pe_lc (own := [("error", 6)]) (g := gName 6) rfl sc_law.nd (pi_list (pv 7)) (blkOk_by (own := [("error", 6)]) (N := N_law) (sc := defScope s_law) (by decide +kernel)) (fun _ _ _ _ _ => (pg_name (i := 6) sc_law.nd rfl (Or.inl rfl))) (fun _ _ _ _ _ => (pts_one (pt_cmpR op_ne (pe_callB (call_reprK (K := K) (by rfl) gd (hu64 hr)) (by rfl) T.b_repr boot_repr (pa_cons (pe_lst (pa_cons (pe_exfK (K := K) (by rfl) (pv 6)) (pa_cons (pe_exfK (K := K) (by rfl) (pv 6)) pa_nil))) pa_nil)) (pe_callB (call_reprK (K := K) (by rfl) gd (hu64 hr)) (by rfl) T.b_repr boot_repr (pa_cons (pe_lst (pa_cons (pv 2) (pa_cons (pv 3) pa_nil))) pa_nil)) (nomark _)))) (fun _ _ _ _ _ => (pv 6))) (pe_lst pa_nil) (nomark _))
  (pss_one (ps_ret pe_bl))
  pss_nil)
  (pss_cons (ps_if (pt_cmpR (op_neD (hu64 hr)) (pe_lc (own := [("error", 6)]) (g := gName 6) rfl sc_law.nd (pi_list (pv 8)) (blkOk_by (own := [("error", 6)]) (N := N_law) (sc := defScope s_law) (by decide +kernel)) (fun _ _ _ _ _ => (pg_name (i := 6) sc_law.nd rfl (Or.inl rfl))) (fun _ _ _ _ _ => (pts_one (pt_cmpR op_ne (pe_callB (call_reprK (K := K) (by rfl) gd (hu64 hr)) (by rfl) T.b_repr boot_repr (pa_cons (pe_lst (pa_cons (pe_exfK (K := K) (by rfl) (pv 6)) (pa_cons (pe_exfK (K := K) (by rfl) (pv 6)) pa_nil))) pa_nil)) (pe_callB (call_reprK (K := K) (by rfl) gd (hu64 hr)) (by rfl) T.b_repr boot_repr (pa_cons (pe_lst (pa_cons (pv 2) (pa_cons (pv 3) pa_nil))) pa_nil)) (nomark _)))) (fun _ _ _ _ _ => (pv 6))) (pe_lst pa_nil) (nomark _))
  (pss_one (ps_ret pe_bl))
  pss_nil)
  (pss_cons (ps_for PassesOwn.never rfl (pi_enum rfl T.b_enumerate (pa_cons (pe_op op_cat (pe_op op_cat (pv 4) (pe_slice sl_list (pv 7) po_none (po_some pe_int))) (pe_slice sl_list (pv 8) po_none (po_some pe_int))) pa_nil)) (pg_tup rfl (pgs_cons (pg_name (i := 9) sc_law.nd rfl (Or.inr rfl)) (pgs_cons (pg_name (i := 6) sc_law.nd rfl (Or.inl rfl)) pgs_nil)))
  (pss_cons (ps_if (PW.pt (pw_or (pt_cmpR (op_neD (hu64 hr)) (pe_cal C__law_kinds (hr.mono (by decide)) (pa_cons (pv 6) pa_nil)) (pe_lc (own := [("its", 10)]) (g := gName 10) (tt := tYes) rfl sc_law.nd (pi_range1 rfl T.b_range (pa_cons pe_int pa_nil)) (blkOk_by (own := [("its", 10)]) (N := N_law) (sc := defScope s_law) (by decide +kernel)) (fun _ _ _ _ _ => (pg_name (i := 10) sc_law.nd rfl (Or.inl rfl))) (fun _ _ _ _ _ => pts_nil) (fun _ _ _ _ _ => (pe_cmpR op_eq (pv 10) (pv 9) (nomark _)))) (nomark _)) (pw_or (pt_not (pt_val (pe_callB call_isX (by rfl) T.b_isinstance boot_isinstance (pa_cons (pv 6) (pa_cons (pe_gr Q.at_TickError) pa_nil))))) (pw_or1 (pt_not (pt_val (pe_callB call_isX (by rfl) T.b_isinstance boot_isinstance (pa_cons (pv 6) (pa_cons (pe_ty (n := "ValueError") T.b_ValueError (by decide +kernel)) pa_nil)))))))))
  (pss_one (ps_ret pe_bl))
  pss_nil)
  (pss_one (ps_if (pt_val (pe_cal C__law_is_odd (hr.mono (by decide)) (pa_cons (pv 6) pa_nil)))
  (pss_one (ps_ret pe_bl))
  pss_nil))))
  (pss_one (ps_ret pe_bl)))))))))))), ?R⟩
    case R =>
      refine seq_set ?_
      refine ⟨_, rfl, a, ns, rfl, hS, fun p q cs H1 fr s1 hc sv => ?_⟩
      refine ⟨_, rfl, p, q, cs, 0, rfl, by decide, by omega, sv, fun one d1 H2 v1 b1 sv1 => ?_⟩
      refine ⟨_, rfl, p, q, cs, 0 + Dn 2, rfl, by decide, by omega, sv1, fun oth d2 H3 v2 b2 sv2 => ?_⟩
      refine ⟨by show 2 ≤ sizeLine; decide, fun t ht => ?_⟩
      refine ⟨t, [one, oth], rfl, SqT.of upd_same, rfl, ?_⟩
      refine ⟨_, _, rfl, _, _, rfl, rfl, ?_⟩
      generalize eH4 : upd H3 t _ = H4
      have s34 : Same H3 H4 := by rw [← eH4]; exact same_new ht
      have w1 : VT H4 one d1 := Vd.imp (fun _ _ => trivial) (fun b o nb e => s34 _ _ (b2 b o (sv_ne sv nb) e)) v1
      have w2 : VT H4 oth d2 := Vd.imp (fun _ _ => trivial) (fun b o nb e => s34 _ _ e) v2
      clear v1 v2 b1 b2 sv1 sv2 sv eH4 ht s34
      -- made
      dsimp only
      refine seq_set ?_
      refine nw_lst (Rs := [0, 1, 2, 3, 4, 5, 6, 7, 8].map (RX C [("part", one)])) (nwa_cons RX.st (nw_one Q (i := 0) (by decide) rfl) (nwa_cons RX.st (nw_one Q (i := 1) (by decide) rfl) (nwa_cons RX.st (nw_one Q (i := 2) (by decide) rfl) (nwa_cons RX.st (nw_one Q (i := 3) (by decide) rfl) (nwa_cons RX.st (nw_one Q (i := 4) (by decide) rfl) (nwa_cons RX.st (nw_one Q (i := 5) (by decide) rfl) (nwa_cons RX.st (nw_one Q (i := 6) (by decide) rfl) (nwa_cons RX.st (nw_one Q (i := 7) (by decide) rfl) (nwa_cons RX.st (nw_one Q (i := 8) (by decide) rfl) nwa_nil))))))))) (fun R hR => by obtain ⟨i, _, rfl⟩ := List.mem_map.mp hR; exact RX.st) (by show 9 ≤ 100; decide) H4 (Same.refl _) _ fun v H5 s5 ⟨am, xs, ev, hm, pm⟩ => ?_
      subst ev
      have pm := paired_of_map pm
      -- named
      refine seq_set ?_
      refine nw_lst (Rs := [0, 1, 2, 3, 4, 5].map (RX C [("part", one)])) (nwa_cons RX.st (nw_oneK Q (i := 0) (by decide) rfl) (nwa_cons RX.st (nw_oneK Q (i := 1) (by decide) rfl) (nwa_cons RX.st (nw_oneK Q (i := 2) (by decide) rfl) (nwa_cons RX.st (nw_oneK Q (i := 3) (by decide) rfl) (nwa_cons RX.st (nw_oneK Q (i := 4) (by decide) rfl) (nwa_cons RX.st (nw_oneK Q (i := 5) (by decide) rfl) nwa_nil)))))) (fun R hR => by obtain ⟨i, _, rfl⟩ := List.mem_map.mp hR; exact RX.st) (by show 6 ≤ 100; decide) H5 (Same.refl _) _ fun v H6 s6 ⟨an, ys, ev, hn, pn⟩ => ?_
      subst ev
      have pn := paired_of_map pn
      refine seq_set ?_
      refine ⟨_, rfl, nw_lst (Rs := [6, 7, 8].map (RX C [("part", one)])) (nwa_cons RX.st (nw_oneK Q (i := 6) (by decide) rfl) (nwa_cons RX.st (nw_oneK Q (i := 7) (by decide) rfl) (nwa_cons RX.st (nw_oneK Q (i := 8) (by decide) rfl) nwa_nil))) (fun R hR => by obtain ⟨i, _, rfl⟩ := List.mem_map.mp hR; exact RX.st) (by show 3 ≤ 100; decide) H6 (Same.refl _) _ fun v H7 s7 ⟨ao, zs, ev, ho, po⟩ => ?_⟩
      subst ev
      have po := paired_of_map po
      refine ⟨an, ao, ys, zs, rfl, rfl, s7 _ _ hn, ho, by rw [len_p pn, len_p po]; decide, fun al hal => ?_⟩
      have s8 := same_new (o := HO.lst (ys ++ zs)) hal
      have hl8 : upd H7 al (.lst (ys ++ zs)) al = some (.lst (ys ++ zs)) := upd_same
      generalize upd H7 al (.lst (ys ++ zs)) = H8 at s8 hl8 ⊢
      -- made + named, none of them odd
      have m5 : Exs C H5 [("part", one)] [0, 1, 2, 3, 4, 5, 6, 7, 8] xs := pm
      have n8 : Exs C H8 [("part", one)] ([0, 1, 2, 3, 4, 5] ++ [6, 7, 8]) (ys ++ zs) := paired_app (Exs.mono (s7.trans s8) pn) (Exs.mono s8 po)
      have m8 := m5.mono ((s6.trans s7).trans s8)
      have hm8 := ((s6.trans s7).trans s8) _ _ hm
      have w18 := w1.mono (((s5.trans s6).trans s7).trans s8)
      have w28 := w2.mono (((s5.trans s6).trans s7).trans s8)
      clear pm pn po m5 s6 s7 s8 hal hn ho hm w1 w2 s5
      refine ⟨_, rfl, _, rfl, am, al, xs, ys ++ zs, rfl, rfl, hm8, hl8, by rw [len_p m8, len_p n8]; decide, fun ab hab => ⟨ab, rfl, ⟨_, SqL.of upd_same⟩, fun D hD => ?_⟩⟩
      have s9 := same_new (o := HO.lst (xs ++ (ys ++ zs))) hab
      have b9 : upd H8 ab (.lst (xs ++ (ys ++ zs))) ab = some (.lst (xs ++ (ys ++ zs))) := upd_same
      generalize upd H8 ab (.lst (xs ++ (ys ++ zs))) = H9 at s9 b9 hD ⊢
      have both : Exs C H9 [("part", one)] ([0, 1, 2, 3, 4, 5, 6, 7, 8] ++ ([0, 1, 2, 3, 4, 5] ++ [6, 7, 8])) (xs ++ (ys ++ zs)) := paired_app (m8.mono s9) (n8.mono s9)
      refine lc_none b9 hD (fun i x H' R hx s R0 => ?_) (fun H' s hd => ?_)
      · obtain ⟨j, a', d', hj, hj2, ex, ea⟩ := (both.mono s).get hx
        subst ex
        have j9 : j < 9 := (show ∀ j ∈ ([0, 1, 2, 3, 4, 5, 6, 7, 8] ++ ([0, 1, 2, 3, 4, 5] ++ [6, 7, 8])), j < 9 by decide) j hj2
        refine ⟨rfl, ne_rep ?_⟩
        refine ⟨_, rfl, a', C j, d', _, one, rfl, Q.ex j (by omega), Q.part j j9, ea, rfl, ?_⟩
        refine rep_of (w18.mono (s9.trans s)) ?_
        refine ⟨_, rfl, ?_⟩
        refine rep_of (w18.mono (s9.trans s)) ?_
        exact ⟨rfl, false, by simp, R0 _ _ (Same.refl _)⟩
      · refine nil_ne hd fun H10 s10 => iteF ?_
        have m10 := m8.mono ((s9.trans s).trans s10)
        have hm10 := ((s9.trans s).trans s10) _ _ hm8
        have w11 := w18.mono ((s9.trans s).trans s10)
        have w21 := w28.mono ((s9.trans s).trans s10)
        clear hd s10 s both hD b9 s9 hab w18 w28 hm8 m8 n8 hl8 pm pn po
        refine nx_in ?_
        dsimp only
        refine seq_par2 ?_
        refine nw_lst (Rs := [9, 9].map (RX C [("most", oth), ("what", one)])) (nwa_cons RX.st (nw_two Q (i := 9) (by decide) Q.what Q.most rfl rfl) (nwa_cons RX.st (nw_twoK Q (i := 9) (by decide) Q.what Q.most rfl rfl) nwa_nil)) (fun R hR => by obtain ⟨i, _, rfl⟩ := List.mem_map.mp hR; exact RX.st) (by show 2 ≤ 100; decide) H10 (Same.refl _) _ fun v H11 s11 ⟨bm, ms, ev, hbm, pbm⟩ => ?_
        subst ev
        have pbm := paired_of_map pbm
        refine nw_lst (Rs := [10, 10].map (RX C [("item", oth), ("line", one)])) (nwa_cons RX.st (nw_two Q (i := 10) (by decide) Q.line Q.item rfl rfl) (nwa_cons RX.st (nw_twoK Q (i := 10) (by decide) Q.line Q.item rfl rfl) nwa_nil)) (fun R hR => by obtain ⟨i, _, rfl⟩ := List.mem_map.mp hR; exact RX.st) (by show 2 ≤ 100; decide) H11 (Same.refl _) _ fun v H12 s12 ⟨bt, ts, ev, hbt, pbt⟩ => ?_
        subst ev
        have pbt := paired_of_map pbt
        refine ⟨_, _, rfl, ?_⟩
        have e9 : Exs C H12 [("most", oth), ("what", one)] [9, 9] ms := Exs.mono s12 pbm
        have e10 : Exs C H12 [("item", oth), ("line", one)] [10, 10] ts := pbt
        have m12 := m10.mono (s11.trans s12)
        have hm12 := (s11.trans s12) _ _ hm10
        have hb12 := s12 _ _ hbm
        have w12 := w11.mono (s11.trans s12)
        have w22 := w21.mono (s11.trans s12)
        clear pbm pbt hbm w11 w21 hm10 m10 s11 s12
        -- many
        refine if_none (xs := ms) rfl hb12 (fun i x H' R hx s R0 => ?_) (fun H13 s13 => ?_)
        · obtain ⟨j, a', d', hj, hj2, ex, ea⟩ := (e9.mono s).get hx
          subst ex
          have j9 : j = 9 := (show ∀ j ∈ [9, 9], j = 9 by decide) j hj2
          subst j9
          refine ⟨rfl, ?_⟩
          exact ne_rep2 Q (by decide) Q.what Q.most (by decide) rfl rfl rfl ea (w12.mono s) (w22.mono s) (fun H2 s2 => R0 _ _ s2)
        -- text
        refine if_none (xs := ts) rfl (s13 _ _ hbt) (fun i x H' R hx s R0 => ?_) (fun H14 s14 => ?_)
        · obtain ⟨j, a', d', hj, hj2, ex, ea⟩ := (e10.mono (s13.trans s)).get hx
          subst ex
          have j9 : j = 10 := (show ∀ j ∈ [10, 10], j = 10 by decide) j hj2
          subst j9
          refine ⟨rfl, ?_⟩
          exact ne_rep2 Q (by decide) Q.line Q.item (by decide) rfl rfl rfl ea (w12.mono (s13.trans s)) (w22.mono (s13.trans s)) (fun H2 s2 => R0 _ _ s2)
        have sl := s13.trans s14
        have x14 := (m12.mono sl).any
        have y14 := (e9.mono sl).any
        have z14 := (e10.mono sl).any
        have hm14 := sl _ _ hm12
        have hb14 := sl _ _ hb12
        have ht14 := sl _ _ hbt
        clear m12 e9 e10 hm12 hb12 hbt w12 w22 s13 s14 sl
        obtain ⟨m0, m1, em, f0, f1⟩ := two_of y14
        subst em
        obtain ⟨t0, t1, et, g0, g1⟩ := two_of z14
        subst et
        refine ⟨_, rfl, _, rfl, 1, rfl, bm, _, rfl, SqL.of hb14, fun p1 h1 => ?_⟩
        have c1 : cutV [m0, m1] none (some 1) = [m0] := rfl
        rw [c1]
        have n1 := same_new (o := HO.lst [m0]) h1
        have l1 : upd H14 p1 (.lst [m0]) p1 = some (.lst [m0]) := upd_same
        generalize upd H14 p1 (.lst [m0]) = H15 at n1 l1 ⊢
        refine ⟨am, p1, xs, [m0], rfl, rfl, n1 _ _ hm14, l1, by rw [len_p x14]; show 10 ≤ sizeLine; decide, fun p2 h2 => ?_⟩
        have n2 := same_new (o := HO.lst (xs ++ [m0])) h2
        have l2 : upd H15 p2 (.lst (xs ++ [m0])) p2 = some (.lst (xs ++ [m0])) := upd_same
        generalize upd H15 p2 (.lst (xs ++ [m0])) = H16 at n2 l2 ⊢
        refine ⟨_, rfl, 1, rfl, bt, _, rfl, SqL.of ((n1.trans n2) _ _ ht14), fun p3 h3 => ?_⟩
        have c2 : cutV [t0, t1] none (some 1) = [t0] := rfl
        rw [c2]
        have n3 := same_new (o := HO.lst [t0]) h3
        have l3 : upd H16 p3 (.lst [t0]) p3 = some (.lst [t0]) := upd_same
        generalize upd H16 p3 (.lst [t0]) = H17 at n3 l3 ⊢
        refine ⟨p2, p3, xs ++ [m0], [t0], rfl, rfl, n3 _ _ l2, l3, by rw [List.length_append, len_p x14]; show 11 ≤ sizeLine; decide, fun p4 h4 => ?_⟩
        have n4 := same_new (o := HO.lst (xs ++ [m0] ++ [t0])) h4
        have l4 : upd H17 p4 (.lst (xs ++ [m0] ++ [t0])) p4 = some (.lst (xs ++ [m0] ++ [t0])) := upd_same
        generalize upd H17 p4 (.lst (xs ++ [m0] ++ [t0])) = H18 at n4 l4 ⊢
        have all : Exa C H18 ([0, 1, 2, 3, 4, 5, 6, 7, 8] ++ [9] ++ [10]) (xs ++ [m0] ++ [t0]) := Exa.mono ((((n1.trans n2).trans n3).trans n4)) (paired_app (paired_app x14 (.cons f0 .nil)) (.cons g0 .nil))
        refine ⟨p4, _, rfl, SqL.of l4, ?_⟩
        refine for_it (walk_enum (K := K) (a := p4) (xs := xs ++ [m0] ++ [t0])) (fun _ σ' H' => Same H18 H' ∧ ∃ v6 v9, σ' = [some (.ref a), some (.ref p), some one, some oth, some (.ref am), some (.ref al), v6, some (.ref bm), some (.ref bt), v9, none]) ⟨Same.refl _, _, _, rfl⟩ (fun _ _ _ _ ⟨s, _⟩ => SqL.of (s _ _ l4)) (fun i x σ' H' H'' hi ⟨s, v6, v9, es⟩ y => ?_) (fun σ' H' ⟨s, _⟩ => k H')
        subst es
        obtain ⟨Tt, x1, x2, rfl, hT, rfl, e1, e2⟩ := y
        cases e1
        obtain ⟨j, hj, a', d', fs, ev, ea⟩ := get_of_paired (all.mono s) e2
        subst ev
        have hlt : i < 11 := by
          have := hi
          rw [len_p all] at this
          exact this
        have ji : j = i := by
          have : ∀ i, i < 11 → ([0, 1, 2, 3, 4, 5, 6, 7, 8] ++ [9] ++ [10])[i]? = some i := by decide
          rw [this i hlt] at hj
          exact (Option.some.inj hj).symm
        subst ji
        have sT := same_new (o := HO.tup [.int (j : Nat), .ref a']) hT
        refine ⟨Tt, _, rfl, SqT.of upd_same, rfl, _, _, rfl, _, _, rfl, rfl, ?_⟩
        exact loop_body Q rfl hlt (ea.mono sT) fun H3 s3 => ⟨(s.trans sT).trans s3, _, _, rfl⟩
end
end K00
set_option Elab.async false
set_option linter.all false
set_option maxRecDepth 100000
set_option maxHeartbeats 4000000
namespace K00
open PySem PySem.Spec PyProof.Rows L2 Own
def cAt (l : List Addr) (i : Nat) : Addr := l.getD i 0
theorem Fun.kb2 {K : PySem.W.Frag} {x qual : Str} {st : Stmt} {f : Addr} {fd : FuncData} {ps : List Str} (F : Fun K x qual st f fd) (n : Nat) (ks : List Str) (g : {α : Type} → List α → List α → List α)
    (rel : ∀ {vs : List V} {us : List Value} {zs : List V} {ws : List Value}, Vals vs us → Vals zs ws → Vals (g vs zs) (g us ws))
    (h : ∀ (kV doc pm : Value) (an : Option Addr) (cdv ct : Value) (us ws : List Value), us.length = n → ws.length = ks.length → bindArgs (PySem.W.fnOf x qual (defArgs st) (defBody st) (defScope st) .none kV doc pm an cdv ct) ⟨us, ks.zip ws⟩ = pure (ps.zip (g us ws))) :
    KBn K fd ps n ks (fun us ws => g us ws) (fun vs zs => g vs zs) := by
  obtain ⟨oc, od, kV, doc, pm, an, cdv, ct, osl, rfl, lk, hcd⟩ := F.ex
  exact ⟨fun s us ws _ l1 l2 => .of_eq (h kV doc pm an cdv ct us ws l1 l2), fun a b => rel a b⟩
section
variable {P : Program} {w : World} {K : PySem.W.Frag} {mg : Str → Option Value} {base : Heap}
theorem fnOk_false {f : Addr} {fd : FuncData} (F : Fun K "_law_value" "_law_value" s__law_value f fd) : FnOk P w K mg base CX0 2 f fd ["bell", "deep"] (spPrev 0) := by
  refine F.ok sc__law_value (fun vs H Q E h => ?_) (fun cdv A outer s H vs Q E hr h => ?_)
  · exact h.elim
  · exact h.elim
end
theorem all_mk {l : PySem.W.OpenLaw} {w : World} {K : PySem.W.Frag} {h : Heap} {mg : Str → Option Value} {fa : Addr} (X : K.In h) (G : h.Ns mainGlobals mg) (hfa : mg "law" = some (.ref fa))
    {od__law_bell an__law_bell : Option Addr} {sl__law_bell : Array (Option Value)} {oc__law_bell kV__law_bell dc__law_bell pm__law_bell cd__law_bell ct__law_bell : Value} {f__law_bell : Addr}
    (a__law_bell : PySem.W.nsIn K mainGlobals "_law_bell" = some (some (.ref f__law_bell))) (l__law_bell : K.lookup f__law_bell = some ⟨oc__law_bell, od__law_bell, .func (PySem.W.fnOf "_law_bell" "_law_bell" (defArgs s__law_bell) (defBody s__law_bell) (defScope s__law_bell) .none kV__law_bell dc__law_bell pm__law_bell an__law_bell cd__law_bell ct__law_bell), sl__law_bell⟩) (c__law_bell : PySem.W.codeIn K cd__law_bell "_law_bell" = true) (k__law_bell : PySem.W.keepIn K (.ref f__law_bell) = true)
    {od__law_toll an__law_toll : Option Addr} {sl__law_toll : Array (Option Value)} {oc__law_toll kV__law_toll dc__law_toll pm__law_toll cd__law_toll ct__law_toll : Value} {f__law_toll : Addr}
    (a__law_toll : PySem.W.nsIn K mainGlobals "_law_toll" = some (some (.ref f__law_toll))) (l__law_toll : K.lookup f__law_toll = some ⟨oc__law_toll, od__law_toll, .func (PySem.W.fnOf "_law_toll" "_law_toll" (defArgs s__law_toll) (defBody s__law_toll) (defScope s__law_toll) .none kV__law_toll dc__law_toll pm__law_toll an__law_toll cd__law_toll ct__law_toll), sl__law_toll⟩) (c__law_toll : PySem.W.codeIn K cd__law_toll "_law_toll" = true) (k__law_toll : PySem.W.keepIn K (.ref f__law_toll) = true)
    {od__law_one an__law_one : Option Addr} {sl__law_one : Array (Option Value)} {oc__law_one kV__law_one dc__law_one pm__law_one cd__law_one ct__law_one : Value} {f__law_one : Addr}
    (a__law_one : PySem.W.nsIn K mainGlobals "_law_one" = some (some (.ref f__law_one))) (l__law_one : K.lookup f__law_one = some ⟨oc__law_one, od__law_one, .func (PySem.W.fnOf "_law_one" "_law_one" (defArgs s__law_one) (defBody s__law_one) (defScope s__law_one) .none kV__law_one dc__law_one pm__law_one an__law_one cd__law_one ct__law_one), sl__law_one⟩) (c__law_one : PySem.W.codeIn K cd__law_one "_law_one" = true) (k__law_one : PySem.W.keepIn K (.ref f__law_one) = true)
    {od__law_value an__law_value : Option Addr} {sl__law_value : Array (Option Value)} {oc__law_value kV__law_value dc__law_value pm__law_value cd__law_value ct__law_value : Value} {f__law_value : Addr}
    (a__law_value : PySem.W.nsIn K mainGlobals "_law_value" = some (some (.ref f__law_value))) (l__law_value : K.lookup f__law_value = some ⟨oc__law_value, od__law_value, .func (PySem.W.fnOf "_law_value" "_law_value" (defArgs s__law_value) (defBody s__law_value) (defScope s__law_value) .none kV__law_value dc__law_value pm__law_value an__law_value cd__law_value ct__law_value), sl__law_value⟩) (c__law_value : PySem.W.codeIn K cd__law_value "_law_value" = true) (k__law_value : PySem.W.keepIn K (.ref f__law_value) = true)
    {od__law_kinds an__law_kinds : Option Addr} {sl__law_kinds : Array (Option Value)} {oc__law_kinds kV__law_kinds dc__law_kinds pm__law_kinds cd__law_kinds ct__law_kinds : Value} {f__law_kinds : Addr}
    (a__law_kinds : PySem.W.nsIn K mainGlobals "_law_kinds" = some (some (.ref f__law_kinds))) (l__law_kinds : K.lookup f__law_kinds = some ⟨oc__law_kinds, od__law_kinds, .func (PySem.W.fnOf "_law_kinds" "_law_kinds" (defArgs s__law_kinds) (defBody s__law_kinds) (defScope s__law_kinds) .none kV__law_kinds dc__law_kinds pm__law_kinds an__law_kinds cd__law_kinds ct__law_kinds), sl__law_kinds⟩) (c__law_kinds : PySem.W.codeIn K cd__law_kinds "_law_kinds" = true) (k__law_kinds : PySem.W.keepIn K (.ref f__law_kinds) = true)
    {od__law_is_odd an__law_is_odd : Option Addr} {sl__law_is_odd : Array (Option Value)} {oc__law_is_odd kV__law_is_odd dc__law_is_odd pm__law_is_odd cd__law_is_odd ct__law_is_odd : Value} {f__law_is_odd : Addr}
    (a__law_is_odd : PySem.W.nsIn K mainGlobals "_law_is_odd" = some (some (.ref f__law_is_odd))) (l__law_is_odd : K.lookup f__law_is_odd = some ⟨oc__law_is_odd, od__law_is_odd, .func (PySem.W.fnOf "_law_is_odd" "_law_is_odd" (defArgs s__law_is_odd) (defBody s__law_is_odd) (defScope s__law_is_odd) .none kV__law_is_odd dc__law_is_odd pm__law_is_odd an__law_is_odd cd__law_is_odd ct__law_is_odd), sl__law_is_odd⟩) (c__law_is_odd : PySem.W.codeIn K cd__law_is_odd "_law_is_odd" = true) (k__law_is_odd : PySem.W.keepIn K (.ref f__law_is_odd) = true)
    {od_law an_law : Option Addr} {sl_law : Array (Option Value)} {oc_law kV_law dc_law pm_law cd_law ct_law : Value} {f_law : Addr}
    (a_law : PySem.W.nsIn K mainGlobals "law" = some (some (.ref f_law))) (l_law : K.lookup f_law = some ⟨oc_law, od_law, .func (PySem.W.fnOf "law" "law" (defArgs s_law) (defBody s_law) (defScope s_law) .none kV_law dc_law pm_law an_law cd_law ct_law), sl_law⟩) (c_law : PySem.W.codeIn K cd_law "law" = true) (k_law : PySem.W.keepIn K (.ref f_law) = true)
    (z_int : PySem.W.nsIn K mainGlobals "int" = some none)
    (z_len : PySem.W.nsIn K mainGlobals "len" = some none)
    (z_abs : PySem.W.nsIn K mainGlobals "abs" = some none)
    (z_range : PySem.W.nsIn K mainGlobals "range" = some none)
    (z_isinstance : PySem.W.nsIn K mainGlobals "isinstance" = some none)
    (z_RuntimeError : PySem.W.nsIn K mainGlobals "RuntimeError" = some none)
    (z_AttributeError : PySem.W.nsIn K mainGlobals "AttributeError" = some none)
    (z_TypeError : PySem.W.nsIn K mainGlobals "TypeError" = some none)
    (z_ArithmeticError : PySem.W.nsIn K mainGlobals "ArithmeticError" = some none)
    (z_LookupError : PySem.W.nsIn K mainGlobals "LookupError" = some none)
    (z_enumerate : PySem.W.nsIn K mainGlobals "enumerate" = some none)
    (z_ValueError : PySem.W.nsIn K mainGlobals "ValueError" = some none)
    (z_repr : PySem.W.nsIn K mainGlobals "repr" = some none)
    (cg : PySem.W.specialIn K (.builtin "object.__class__") "__get__" = some (some (.builtin "getset_descriptor.__get__")))
    (ct : PySem.W.takesIn K (.builtin "object.__class__") = some true)
    {c_TickError : Addr}
    (at_TickError : PySem.W.nsIn K mainGlobals "TickError" = some (some (.ref c_TickError)))
    {nm_BadNumber q_BadNumber : Str} {N_BadNumber_ : Addr} {bs_BadNumber bm_BadNumber : List Value} {sn_BadNumber : List Str} {sub_BadNumber : List Value} {ab_BadNumber : Bool} {col_BadNumber : Option Bool} {dd_BadNumber : Option Addr} {m0_BadNumber m1_BadNumber m2_BadNumber m3_BadNumber m5_BadNumber : Option Value} {c_BadNumber f_BadNumber : Addr}
    {od_BadNumber an_BadNumber : Option Addr} {sl_BadNumber : Array (Option Value)} {oc_BadNumber kV_BadNumber dc_BadNumber pm_BadNumber cd_BadNumber ct_BadNumber : Value}
    (at_BadNumber : PySem.W.nsIn K mainGlobals "BadNumber" = some (some (.ref c_BadNumber)))
    (xL_BadNumber : K.lookup c_BadNumber = some (excClassObj nm_BadNumber q_BadNumber c_BadNumber N_BadNumber_ bs_BadNumber bm_BadNumber true sn_BadNumber sub_BadNumber ab_BadNumber col_BadNumber dd_BadNumber m0_BadNumber m1_BadNumber m2_BadNumber m3_BadNumber m5_BadNumber "ValueError.__new__"))
    (rv_BadNumber : PySem.HandSPX.refsVE bm_BadNumber = true)
    (sa_BadNumber : PySem.W.findIn K (.ref c_BadNumber) "__setattr__" = some (some (.builtin "object.__setattr__")))
    (eC_BadNumber : PySem.W.subIn K (.ref c_BadNumber) (.type "BaseException") = some true)
    (tC_BadNumber : PySem.W.typeIn K (.ref c_BadNumber) = some (.type "type"))
    (kC_BadNumber : PySem.W.keepIn K (.ref c_BadNumber) = true)
    (ga_BadNumber : PySem.W.findIn K (.ref c_BadNumber) "__getattribute__" = some (some (.builtin "BaseException.__getattribute__")))
    (gg_BadNumber : PySem.W.findIn K (.ref c_BadNumber) "__getattr__" = some none)
    (hd_BadNumber : PySem.W.hasDictIn K c_BadNumber = true)
    (cA_BadNumber : PySem.W.findIn K (.ref c_BadNumber) "__class__" = some (some (.builtin "object.__class__")))
    (cm_BadNumber : PySem.W.mroIn K c_BadNumber (.type "object") = some true)
    (no_BadNumber_part : PySem.W.findIn K (.ref c_BadNumber) "part" = some none)
    (ai_BadNumber : PySem.W.findIn K (.ref c_BadNumber) "__init__" = some (some (.ref f_BadNumber)))
    (ti_BadNumber : PySem.W.typeIn K (.ref f_BadNumber) = some (.type "function"))
    (li_BadNumber : K.lookup f_BadNumber = some ⟨oc_BadNumber, od_BadNumber, .func (PySem.W.fnOf "__init__" "BadNumber.__init__" (defArgs s_BadNumber_init) (defBody s_BadNumber_init) (defScope s_BadNumber_init) .none kV_BadNumber dc_BadNumber pm_BadNumber an_BadNumber cd_BadNumber ct_BadNumber), sl_BadNumber⟩)
    (ci_BadNumber : PySem.W.codeIn K cd_BadNumber "BadNumber.__init__" = true)
    (ki_BadNumber : PySem.W.keepIn K (.ref f_BadNumber) = true)
    {nm_BadName q_BadName : Str} {N_BadName_ : Addr} {bs_BadName bm_BadName : List Value} {sn_BadName : List Str} {sub_BadName : List Value} {ab_BadName : Bool} {col_BadName : Option Bool} {dd_BadName : Option Addr} {m0_BadName m1_BadName m2_BadName m3_BadName m5_BadName : Option Value} {c_BadName f_BadName : Addr}
    {od_BadName an_BadName : Option Addr} {sl_BadName : Array (Option Value)} {oc_BadName kV_BadName dc_BadName pm_BadName cd_BadName ct_BadName : Value}
    (at_BadName : PySem.W.nsIn K mainGlobals "BadName" = some (some (.ref c_BadName)))
    (xL_BadName : K.lookup c_BadName = some (excClassObj nm_BadName q_BadName c_BadName N_BadName_ bs_BadName bm_BadName true sn_BadName sub_BadName ab_BadName col_BadName dd_BadName m0_BadName m1_BadName m2_BadName m3_BadName m5_BadName "ValueError.__new__"))
    (rv_BadName : PySem.HandSPX.refsVE bm_BadName = true)
    (sa_BadName : PySem.W.findIn K (.ref c_BadName) "__setattr__" = some (some (.builtin "object.__setattr__")))
    (eC_BadName : PySem.W.subIn K (.ref c_BadName) (.type "BaseException") = some true)
    (tC_BadName : PySem.W.typeIn K (.ref c_BadName) = some (.type "type"))
    (kC_BadName : PySem.W.keepIn K (.ref c_BadName) = true)
    (ga_BadName : PySem.W.findIn K (.ref c_BadName) "__getattribute__" = some (some (.builtin "BaseException.__getattribute__")))
    (gg_BadName : PySem.W.findIn K (.ref c_BadName) "__getattr__" = some none)
    (hd_BadName : PySem.W.hasDictIn K c_BadName = true)
    (cA_BadName : PySem.W.findIn K (.ref c_BadName) "__class__" = some (some (.builtin "object.__class__")))
    (cm_BadName : PySem.W.mroIn K c_BadName (.type "object") = some true)
    (no_BadName_part : PySem.W.findIn K (.ref c_BadName) "part" = some none)
    (ai_BadName : PySem.W.findIn K (.ref c_BadName) "__init__" = some (some (.ref f_BadName)))
    (ti_BadName : PySem.W.typeIn K (.ref f_BadName) = some (.type "function"))
    (li_BadName : K.lookup f_BadName = some ⟨oc_BadName, od_BadName, .func (PySem.W.fnOf "__init__" "BadName.__init__" (defArgs s_BadName_init) (defBody s_BadName_init) (defScope s_BadName_init) .none kV_BadName dc_BadName pm_BadName an_BadName cd_BadName ct_BadName), sl_BadName⟩)
    (ci_BadName : PySem.W.codeIn K cd_BadName "BadName.__init__" = true)
    (ki_BadName : PySem.W.keepIn K (.ref f_BadName) = true)
    {nm_BadTongue q_BadTongue : Str} {N_BadTongue_ : Addr} {bs_BadTongue bm_BadTongue : List Value} {sn_BadTongue : List Str} {sub_BadTongue : List Value} {ab_BadTongue : Bool} {col_BadTongue : Option Bool} {dd_BadTongue : Option Addr} {m0_BadTongue m1_BadTongue m2_BadTongue m3_BadTongue m5_BadTongue : Option Value} {c_BadTongue f_BadTongue : Addr}
    {od_BadTongue an_BadTongue : Option Addr} {sl_BadTongue : Array (Option Value)} {oc_BadTongue kV_BadTongue dc_BadTongue pm_BadTongue cd_BadTongue ct_BadTongue : Value}
    (at_BadTongue : PySem.W.nsIn K mainGlobals "BadTongue" = some (some (.ref c_BadTongue)))
    (xL_BadTongue : K.lookup c_BadTongue = some (excClassObj nm_BadTongue q_BadTongue c_BadTongue N_BadTongue_ bs_BadTongue bm_BadTongue true sn_BadTongue sub_BadTongue ab_BadTongue col_BadTongue dd_BadTongue m0_BadTongue m1_BadTongue m2_BadTongue m3_BadTongue m5_BadTongue "ValueError.__new__"))
    (rv_BadTongue : PySem.HandSPX.refsVE bm_BadTongue = true)
    (sa_BadTongue : PySem.W.findIn K (.ref c_BadTongue) "__setattr__" = some (some (.builtin "object.__setattr__")))
    (eC_BadTongue : PySem.W.subIn K (.ref c_BadTongue) (.type "BaseException") = some true)
    (tC_BadTongue : PySem.W.typeIn K (.ref c_BadTongue) = some (.type "type"))
    (kC_BadTongue : PySem.W.keepIn K (.ref c_BadTongue) = true)
    (ga_BadTongue : PySem.W.findIn K (.ref c_BadTongue) "__getattribute__" = some (some (.builtin "BaseException.__getattribute__")))
    (gg_BadTongue : PySem.W.findIn K (.ref c_BadTongue) "__getattr__" = some none)
    (hd_BadTongue : PySem.W.hasDictIn K c_BadTongue = true)
    (cA_BadTongue : PySem.W.findIn K (.ref c_BadTongue) "__class__" = some (some (.builtin "object.__class__")))
    (cm_BadTongue : PySem.W.mroIn K c_BadTongue (.type "object") = some true)
    (no_BadTongue_part : PySem.W.findIn K (.ref c_BadTongue) "part" = some none)
    (ai_BadTongue : PySem.W.findIn K (.ref c_BadTongue) "__init__" = some (some (.ref f_BadTongue)))
    (ti_BadTongue : PySem.W.typeIn K (.ref f_BadTongue) = some (.type "function"))
    (li_BadTongue : K.lookup f_BadTongue = some ⟨oc_BadTongue, od_BadTongue, .func (PySem.W.fnOf "__init__" "BadTongue.__init__" (defArgs s_BadTongue_init) (defBody s_BadTongue_init) (defScope s_BadTongue_init) .none kV_BadTongue dc_BadTongue pm_BadTongue an_BadTongue cd_BadTongue ct_BadTongue), sl_BadTongue⟩)
    (ci_BadTongue : PySem.W.codeIn K cd_BadTongue "BadTongue.__init__" = true)
    (ki_BadTongue : PySem.W.keepIn K (.ref f_BadTongue) = true)
    {nm_BadProgram q_BadProgram : Str} {N_BadProgram_ : Addr} {bs_BadProgram bm_BadProgram : List Value} {sn_BadProgram : List Str} {sub_BadProgram : List Value} {ab_BadProgram : Bool} {col_BadProgram : Option Bool} {dd_BadProgram : Option Addr} {m0_BadProgram m1_BadProgram m2_BadProgram m3_BadProgram m5_BadProgram : Option Value} {c_BadProgram f_BadProgram : Addr}
    {od_BadProgram an_BadProgram : Option Addr} {sl_BadProgram : Array (Option Value)} {oc_BadProgram kV_BadProgram dc_BadProgram pm_BadProgram cd_BadProgram ct_BadProgram : Value}
    (at_BadProgram : PySem.W.nsIn K mainGlobals "BadProgram" = some (some (.ref c_BadProgram)))
    (xL_BadProgram : K.lookup c_BadProgram = some (excClassObj nm_BadProgram q_BadProgram c_BadProgram N_BadProgram_ bs_BadProgram bm_BadProgram true sn_BadProgram sub_BadProgram ab_BadProgram col_BadProgram dd_BadProgram m0_BadProgram m1_BadProgram m2_BadProgram m3_BadProgram m5_BadProgram "ValueError.__new__"))
    (rv_BadProgram : PySem.HandSPX.refsVE bm_BadProgram = true)
    (sa_BadProgram : PySem.W.findIn K (.ref c_BadProgram) "__setattr__" = some (some (.builtin "object.__setattr__")))
    (eC_BadProgram : PySem.W.subIn K (.ref c_BadProgram) (.type "BaseException") = some true)
    (tC_BadProgram : PySem.W.typeIn K (.ref c_BadProgram) = some (.type "type"))
    (kC_BadProgram : PySem.W.keepIn K (.ref c_BadProgram) = true)
    (ga_BadProgram : PySem.W.findIn K (.ref c_BadProgram) "__getattribute__" = some (some (.builtin "BaseException.__getattribute__")))
    (gg_BadProgram : PySem.W.findIn K (.ref c_BadProgram) "__getattr__" = some none)
    (hd_BadProgram : PySem.W.hasDictIn K c_BadProgram = true)
    (cA_BadProgram : PySem.W.findIn K (.ref c_BadProgram) "__class__" = some (some (.builtin "object.__class__")))
    (cm_BadProgram : PySem.W.mroIn K c_BadProgram (.type "object") = some true)
    (no_BadProgram_part : PySem.W.findIn K (.ref c_BadProgram) "part" = some none)
    (ai_BadProgram : PySem.W.findIn K (.ref c_BadProgram) "__init__" = some (some (.ref f_BadProgram)))
    (ti_BadProgram : PySem.W.typeIn K (.ref f_BadProgram) = some (.type "function"))
    (li_BadProgram : K.lookup f_BadProgram = some ⟨oc_BadProgram, od_BadProgram, .func (PySem.W.fnOf "__init__" "BadProgram.__init__" (defArgs s_BadProgram_init) (defBody s_BadProgram_init) (defScope s_BadProgram_init) .none kV_BadProgram dc_BadProgram pm_BadProgram an_BadProgram cd_BadProgram ct_BadProgram), sl_BadProgram⟩)
    (ci_BadProgram : PySem.W.codeIn K cd_BadProgram "BadProgram.__init__" = true)
    (ki_BadProgram : PySem.W.keepIn K (.ref f_BadProgram) = true)
    {nm_BadPuzzle q_BadPuzzle : Str} {N_BadPuzzle_ : Addr} {bs_BadPuzzle bm_BadPuzzle : List Value} {sn_BadPuzzle : List Str} {sub_BadPuzzle : List Value} {ab_BadPuzzle : Bool} {col_BadPuzzle : Option Bool} {dd_BadPuzzle : Option Addr} {m0_BadPuzzle m1_BadPuzzle m2_BadPuzzle m3_BadPuzzle m5_BadPuzzle : Option Value} {c_BadPuzzle f_BadPuzzle : Addr}
    {od_BadPuzzle an_BadPuzzle : Option Addr} {sl_BadPuzzle : Array (Option Value)} {oc_BadPuzzle kV_BadPuzzle dc_BadPuzzle pm_BadPuzzle cd_BadPuzzle ct_BadPuzzle : Value}
    (at_BadPuzzle : PySem.W.nsIn K mainGlobals "BadPuzzle" = some (some (.ref c_BadPuzzle)))
    (xL_BadPuzzle : K.lookup c_BadPuzzle = some (excClassObj nm_BadPuzzle q_BadPuzzle c_BadPuzzle N_BadPuzzle_ bs_BadPuzzle bm_BadPuzzle true sn_BadPuzzle sub_BadPuzzle ab_BadPuzzle col_BadPuzzle dd_BadPuzzle m0_BadPuzzle m1_BadPuzzle m2_BadPuzzle m3_BadPuzzle m5_BadPuzzle "ValueError.__new__"))
    (rv_BadPuzzle : PySem.HandSPX.refsVE bm_BadPuzzle = true)
    (sa_BadPuzzle : PySem.W.findIn K (.ref c_BadPuzzle) "__setattr__" = some (some (.builtin "object.__setattr__")))
    (eC_BadPuzzle : PySem.W.subIn K (.ref c_BadPuzzle) (.type "BaseException") = some true)
    (tC_BadPuzzle : PySem.W.typeIn K (.ref c_BadPuzzle) = some (.type "type"))
    (kC_BadPuzzle : PySem.W.keepIn K (.ref c_BadPuzzle) = true)
    (ga_BadPuzzle : PySem.W.findIn K (.ref c_BadPuzzle) "__getattribute__" = some (some (.builtin "BaseException.__getattribute__")))
    (gg_BadPuzzle : PySem.W.findIn K (.ref c_BadPuzzle) "__getattr__" = some none)
    (hd_BadPuzzle : PySem.W.hasDictIn K c_BadPuzzle = true)
    (cA_BadPuzzle : PySem.W.findIn K (.ref c_BadPuzzle) "__class__" = some (some (.builtin "object.__class__")))
    (cm_BadPuzzle : PySem.W.mroIn K c_BadPuzzle (.type "object") = some true)
    (no_BadPuzzle_part : PySem.W.findIn K (.ref c_BadPuzzle) "part" = some none)
    (ai_BadPuzzle : PySem.W.findIn K (.ref c_BadPuzzle) "__init__" = some (some (.ref f_BadPuzzle)))
    (ti_BadPuzzle : PySem.W.typeIn K (.ref f_BadPuzzle) = some (.type "function"))
    (li_BadPuzzle : K.lookup f_BadPuzzle = some ⟨oc_BadPuzzle, od_BadPuzzle, .func (PySem.W.fnOf "__init__" "BadPuzzle.__init__" (defArgs s_BadPuzzle_init) (defBody s_BadPuzzle_init) (defScope s_BadPuzzle_init) .none kV_BadPuzzle dc_BadPuzzle pm_BadPuzzle an_BadPuzzle cd_BadPuzzle ct_BadPuzzle), sl_BadPuzzle⟩)
    (ci_BadPuzzle : PySem.W.codeIn K cd_BadPuzzle "BadPuzzle.__init__" = true)
    (ki_BadPuzzle : PySem.W.keepIn K (.ref f_BadPuzzle) = true)
    {nm_BadFactor q_BadFactor : Str} {N_BadFactor_ : Addr} {bs_BadFactor bm_BadFactor : List Value} {sn_BadFactor : List Str} {sub_BadFactor : List Value} {ab_BadFactor : Bool} {col_BadFactor : Option Bool} {dd_BadFactor : Option Addr} {m0_BadFactor m1_BadFactor m2_BadFactor m3_BadFactor m5_BadFactor : Option Value} {c_BadFactor f_BadFactor : Addr}
    {od_BadFactor an_BadFactor : Option Addr} {sl_BadFactor : Array (Option Value)} {oc_BadFactor kV_BadFactor dc_BadFactor pm_BadFactor cd_BadFactor ct_BadFactor : Value}
    (at_BadFactor : PySem.W.nsIn K mainGlobals "BadFactor" = some (some (.ref c_BadFactor)))
    (xL_BadFactor : K.lookup c_BadFactor = some (excClassObj nm_BadFactor q_BadFactor c_BadFactor N_BadFactor_ bs_BadFactor bm_BadFactor true sn_BadFactor sub_BadFactor ab_BadFactor col_BadFactor dd_BadFactor m0_BadFactor m1_BadFactor m2_BadFactor m3_BadFactor m5_BadFactor "ValueError.__new__"))
    (rv_BadFactor : PySem.HandSPX.refsVE bm_BadFactor = true)
    (sa_BadFactor : PySem.W.findIn K (.ref c_BadFactor) "__setattr__" = some (some (.builtin "object.__setattr__")))
    (eC_BadFactor : PySem.W.subIn K (.ref c_BadFactor) (.type "BaseException") = some true)
    (tC_BadFactor : PySem.W.typeIn K (.ref c_BadFactor) = some (.type "type"))
    (kC_BadFactor : PySem.W.keepIn K (.ref c_BadFactor) = true)
    (ga_BadFactor : PySem.W.findIn K (.ref c_BadFactor) "__getattribute__" = some (some (.builtin "BaseException.__getattribute__")))
    (gg_BadFactor : PySem.W.findIn K (.ref c_BadFactor) "__getattr__" = some none)
    (hd_BadFactor : PySem.W.hasDictIn K c_BadFactor = true)
    (cA_BadFactor : PySem.W.findIn K (.ref c_BadFactor) "__class__" = some (some (.builtin "object.__class__")))
    (cm_BadFactor : PySem.W.mroIn K c_BadFactor (.type "object") = some true)
    (no_BadFactor_part : PySem.W.findIn K (.ref c_BadFactor) "part" = some none)
    (ai_BadFactor : PySem.W.findIn K (.ref c_BadFactor) "__init__" = some (some (.ref f_BadFactor)))
    (ti_BadFactor : PySem.W.typeIn K (.ref f_BadFactor) = some (.type "function"))
    (li_BadFactor : K.lookup f_BadFactor = some ⟨oc_BadFactor, od_BadFactor, .func (PySem.W.fnOf "__init__" "BadFactor.__init__" (defArgs s_BadFactor_init) (defBody s_BadFactor_init) (defScope s_BadFactor_init) .none kV_BadFactor dc_BadFactor pm_BadFactor an_BadFactor cd_BadFactor ct_BadFactor), sl_BadFactor⟩)
    (ci_BadFactor : PySem.W.codeIn K cd_BadFactor "BadFactor.__init__" = true)
    (ki_BadFactor : PySem.W.keepIn K (.ref f_BadFactor) = true)
    {nm_BadOrder q_BadOrder : Str} {N_BadOrder_ : Addr} {bs_BadOrder bm_BadOrder : List Value} {sn_BadOrder : List Str} {sub_BadOrder : List Value} {ab_BadOrder : Bool} {col_BadOrder : Option Bool} {dd_BadOrder : Option Addr} {m0_BadOrder m1_BadOrder m2_BadOrder m3_BadOrder m5_BadOrder : Option Value} {c_BadOrder f_BadOrder : Addr}
    {od_BadOrder an_BadOrder : Option Addr} {sl_BadOrder : Array (Option Value)} {oc_BadOrder kV_BadOrder dc_BadOrder pm_BadOrder cd_BadOrder ct_BadOrder : Value}
    (at_BadOrder : PySem.W.nsIn K mainGlobals "BadOrder" = some (some (.ref c_BadOrder)))
    (xL_BadOrder : K.lookup c_BadOrder = some (excClassObj nm_BadOrder q_BadOrder c_BadOrder N_BadOrder_ bs_BadOrder bm_BadOrder true sn_BadOrder sub_BadOrder ab_BadOrder col_BadOrder dd_BadOrder m0_BadOrder m1_BadOrder m2_BadOrder m3_BadOrder m5_BadOrder "ValueError.__new__"))
    (rv_BadOrder : PySem.HandSPX.refsVE bm_BadOrder = true)
    (sa_BadOrder : PySem.W.findIn K (.ref c_BadOrder) "__setattr__" = some (some (.builtin "object.__setattr__")))
    (eC_BadOrder : PySem.W.subIn K (.ref c_BadOrder) (.type "BaseException") = some true)
    (tC_BadOrder : PySem.W.typeIn K (.ref c_BadOrder) = some (.type "type"))
    (kC_BadOrder : PySem.W.keepIn K (.ref c_BadOrder) = true)
    (ga_BadOrder : PySem.W.findIn K (.ref c_BadOrder) "__getattribute__" = some (some (.builtin "BaseException.__getattribute__")))
    (gg_BadOrder : PySem.W.findIn K (.ref c_BadOrder) "__getattr__" = some none)
    (hd_BadOrder : PySem.W.hasDictIn K c_BadOrder = true)
    (cA_BadOrder : PySem.W.findIn K (.ref c_BadOrder) "__class__" = some (some (.builtin "object.__class__")))
    (cm_BadOrder : PySem.W.mroIn K c_BadOrder (.type "object") = some true)
    (no_BadOrder_part : PySem.W.findIn K (.ref c_BadOrder) "part" = some none)
    (ai_BadOrder : PySem.W.findIn K (.ref c_BadOrder) "__init__" = some (some (.ref f_BadOrder)))
    (ti_BadOrder : PySem.W.typeIn K (.ref f_BadOrder) = some (.type "function"))
    (li_BadOrder : K.lookup f_BadOrder = some ⟨oc_BadOrder, od_BadOrder, .func (PySem.W.fnOf "__init__" "BadOrder.__init__" (defArgs s_BadOrder_init) (defBody s_BadOrder_init) (defScope s_BadOrder_init) .none kV_BadOrder dc_BadOrder pm_BadOrder an_BadOrder cd_BadOrder ct_BadOrder), sl_BadOrder⟩)
    (ci_BadOrder : PySem.W.codeIn K cd_BadOrder "BadOrder.__init__" = true)
    (ki_BadOrder : PySem.W.keepIn K (.ref f_BadOrder) = true)
    {nm_BadDealer q_BadDealer : Str} {N_BadDealer_ : Addr} {bs_BadDealer bm_BadDealer : List Value} {sn_BadDealer : List Str} {sub_BadDealer : List Value} {ab_BadDealer : Bool} {col_BadDealer : Option Bool} {dd_BadDealer : Option Addr} {m0_BadDealer m1_BadDealer m2_BadDealer m3_BadDealer m5_BadDealer : Option Value} {c_BadDealer f_BadDealer : Addr}
    {od_BadDealer an_BadDealer : Option Addr} {sl_BadDealer : Array (Option Value)} {oc_BadDealer kV_BadDealer dc_BadDealer pm_BadDealer cd_BadDealer ct_BadDealer : Value}
    (at_BadDealer : PySem.W.nsIn K mainGlobals "BadDealer" = some (some (.ref c_BadDealer)))
    (xL_BadDealer : K.lookup c_BadDealer = some (excClassObj nm_BadDealer q_BadDealer c_BadDealer N_BadDealer_ bs_BadDealer bm_BadDealer true sn_BadDealer sub_BadDealer ab_BadDealer col_BadDealer dd_BadDealer m0_BadDealer m1_BadDealer m2_BadDealer m3_BadDealer m5_BadDealer "ValueError.__new__"))
    (rv_BadDealer : PySem.HandSPX.refsVE bm_BadDealer = true)
    (sa_BadDealer : PySem.W.findIn K (.ref c_BadDealer) "__setattr__" = some (some (.builtin "object.__setattr__")))
    (eC_BadDealer : PySem.W.subIn K (.ref c_BadDealer) (.type "BaseException") = some true)
    (tC_BadDealer : PySem.W.typeIn K (.ref c_BadDealer) = some (.type "type"))
    (kC_BadDealer : PySem.W.keepIn K (.ref c_BadDealer) = true)
    (ga_BadDealer : PySem.W.findIn K (.ref c_BadDealer) "__getattribute__" = some (some (.builtin "BaseException.__getattribute__")))
    (gg_BadDealer : PySem.W.findIn K (.ref c_BadDealer) "__getattr__" = some none)
    (hd_BadDealer : PySem.W.hasDictIn K c_BadDealer = true)
    (cA_BadDealer : PySem.W.findIn K (.ref c_BadDealer) "__class__" = some (some (.builtin "object.__class__")))
    (cm_BadDealer : PySem.W.mroIn K c_BadDealer (.type "object") = some true)
    (no_BadDealer_part : PySem.W.findIn K (.ref c_BadDealer) "part" = some none)
    (ai_BadDealer : PySem.W.findIn K (.ref c_BadDealer) "__init__" = some (some (.ref f_BadDealer)))
    (ti_BadDealer : PySem.W.typeIn K (.ref f_BadDealer) = some (.type "function"))
    (li_BadDealer : K.lookup f_BadDealer = some ⟨oc_BadDealer, od_BadDealer, .func (PySem.W.fnOf "__init__" "BadDealer.__init__" (defArgs s_BadDealer_init) (defBody s_BadDealer_init) (defScope s_BadDealer_init) .none kV_BadDealer dc_BadDealer pm_BadDealer an_BadDealer cd_BadDealer ct_BadDealer), sl_BadDealer⟩)
    (ci_BadDealer : PySem.W.codeIn K cd_BadDealer "BadDealer.__init__" = true)
    (ki_BadDealer : PySem.W.keepIn K (.ref f_BadDealer) = true)
    {nm_Misfit q_Misfit : Str} {N_Misfit_ : Addr} {bs_Misfit bm_Misfit : List Value} {sn_Misfit : List Str} {sub_Misfit : List Value} {ab_Misfit : Bool} {col_Misfit : Option Bool} {dd_Misfit : Option Addr} {m0_Misfit m1_Misfit m2_Misfit m3_Misfit m5_Misfit : Option Value} {c_Misfit f_Misfit : Addr}
    {od_Misfit an_Misfit : Option Addr} {sl_Misfit : Array (Option Value)} {oc_Misfit kV_Misfit dc_Misfit pm_Misfit cd_Misfit ct_Misfit : Value}
    (at_Misfit : PySem.W.nsIn K mainGlobals "Misfit" = some (some (.ref c_Misfit)))
    (xL_Misfit : K.lookup c_Misfit = some (excClassObj nm_Misfit q_Misfit c_Misfit N_Misfit_ bs_Misfit bm_Misfit true sn_Misfit sub_Misfit ab_Misfit col_Misfit dd_Misfit m0_Misfit m1_Misfit m2_Misfit m3_Misfit m5_Misfit "ValueError.__new__"))
    (rv_Misfit : PySem.HandSPX.refsVE bm_Misfit = true)
    (sa_Misfit : PySem.W.findIn K (.ref c_Misfit) "__setattr__" = some (some (.builtin "object.__setattr__")))
    (eC_Misfit : PySem.W.subIn K (.ref c_Misfit) (.type "BaseException") = some true)
    (tC_Misfit : PySem.W.typeIn K (.ref c_Misfit) = some (.type "type"))
    (kC_Misfit : PySem.W.keepIn K (.ref c_Misfit) = true)
    (ga_Misfit : PySem.W.findIn K (.ref c_Misfit) "__getattribute__" = some (some (.builtin "BaseException.__getattribute__")))
    (gg_Misfit : PySem.W.findIn K (.ref c_Misfit) "__getattr__" = some none)
    (hd_Misfit : PySem.W.hasDictIn K c_Misfit = true)
    (cA_Misfit : PySem.W.findIn K (.ref c_Misfit) "__class__" = some (some (.builtin "object.__class__")))
    (cm_Misfit : PySem.W.mroIn K c_Misfit (.type "object") = some true)
    (no_Misfit_part : PySem.W.findIn K (.ref c_Misfit) "part" = some none)
    (ai_Misfit : PySem.W.findIn K (.ref c_Misfit) "__init__" = some (some (.ref f_Misfit)))
    (ti_Misfit : PySem.W.typeIn K (.ref f_Misfit) = some (.type "function"))
    (li_Misfit : K.lookup f_Misfit = some ⟨oc_Misfit, od_Misfit, .func (PySem.W.fnOf "__init__" "Misfit.__init__" (defArgs s_Misfit_init) (defBody s_Misfit_init) (defScope s_Misfit_init) .none kV_Misfit dc_Misfit pm_Misfit an_Misfit cd_Misfit ct_Misfit), sl_Misfit⟩)
    (ci_Misfit : PySem.W.codeIn K cd_Misfit "Misfit.__init__" = true)
    (ki_Misfit : PySem.W.keepIn K (.ref f_Misfit) = true)
    {nm_TooMany q_TooMany : Str} {N_TooMany_ : Addr} {bs_TooMany bm_TooMany : List Value} {sn_TooMany : List Str} {sub_TooMany : List Value} {ab_TooMany : Bool} {col_TooMany : Option Bool} {dd_TooMany : Option Addr} {m0_TooMany m1_TooMany m2_TooMany m3_TooMany m5_TooMany : Option Value} {c_TooMany f_TooMany : Addr}
    {od_TooMany an_TooMany : Option Addr} {sl_TooMany : Array (Option Value)} {oc_TooMany kV_TooMany dc_TooMany pm_TooMany cd_TooMany ct_TooMany : Value}
    (at_TooMany : PySem.W.nsIn K mainGlobals "TooMany" = some (some (.ref c_TooMany)))
    (xL_TooMany : K.lookup c_TooMany = some (excClassObj nm_TooMany q_TooMany c_TooMany N_TooMany_ bs_TooMany bm_TooMany true sn_TooMany sub_TooMany ab_TooMany col_TooMany dd_TooMany m0_TooMany m1_TooMany m2_TooMany m3_TooMany m5_TooMany "ValueError.__new__"))
    (rv_TooMany : PySem.HandSPX.refsVE bm_TooMany = true)
    (sa_TooMany : PySem.W.findIn K (.ref c_TooMany) "__setattr__" = some (some (.builtin "object.__setattr__")))
    (eC_TooMany : PySem.W.subIn K (.ref c_TooMany) (.type "BaseException") = some true)
    (tC_TooMany : PySem.W.typeIn K (.ref c_TooMany) = some (.type "type"))
    (kC_TooMany : PySem.W.keepIn K (.ref c_TooMany) = true)
    (ga_TooMany : PySem.W.findIn K (.ref c_TooMany) "__getattribute__" = some (some (.builtin "BaseException.__getattribute__")))
    (gg_TooMany : PySem.W.findIn K (.ref c_TooMany) "__getattr__" = some none)
    (hd_TooMany : PySem.W.hasDictIn K c_TooMany = true)
    (cA_TooMany : PySem.W.findIn K (.ref c_TooMany) "__class__" = some (some (.builtin "object.__class__")))
    (cm_TooMany : PySem.W.mroIn K c_TooMany (.type "object") = some true)
    (no_TooMany_what : PySem.W.findIn K (.ref c_TooMany) "what" = some none)
    (no_TooMany_most : PySem.W.findIn K (.ref c_TooMany) "most" = some none)
    (ai_TooMany : PySem.W.findIn K (.ref c_TooMany) "__init__" = some (some (.ref f_TooMany)))
    (ti_TooMany : PySem.W.typeIn K (.ref f_TooMany) = some (.type "function"))
    (li_TooMany : K.lookup f_TooMany = some ⟨oc_TooMany, od_TooMany, .func (PySem.W.fnOf "__init__" "TooMany.__init__" (defArgs s_TooMany_init) (defBody s_TooMany_init) (defScope s_TooMany_init) .none kV_TooMany dc_TooMany pm_TooMany an_TooMany cd_TooMany ct_TooMany), sl_TooMany⟩)
    (ci_TooMany : PySem.W.codeIn K cd_TooMany "TooMany.__init__" = true)
    (ki_TooMany : PySem.W.keepIn K (.ref f_TooMany) = true)
    {nm_BadText q_BadText : Str} {N_BadText_ : Addr} {bs_BadText bm_BadText : List Value} {sn_BadText : List Str} {sub_BadText : List Value} {ab_BadText : Bool} {col_BadText : Option Bool} {dd_BadText : Option Addr} {m0_BadText m1_BadText m2_BadText m3_BadText m5_BadText : Option Value} {c_BadText f_BadText : Addr}
    {od_BadText an_BadText : Option Addr} {sl_BadText : Array (Option Value)} {oc_BadText kV_BadText dc_BadText pm_BadText cd_BadText ct_BadText : Value}
    (at_BadText : PySem.W.nsIn K mainGlobals "BadText" = some (some (.ref c_BadText)))
    (xL_BadText : K.lookup c_BadText = some (excClassObj nm_BadText q_BadText c_BadText N_BadText_ bs_BadText bm_BadText true sn_BadText sub_BadText ab_BadText col_BadText dd_BadText m0_BadText m1_BadText m2_BadText m3_BadText m5_BadText "ValueError.__new__"))
    (rv_BadText : PySem.HandSPX.refsVE bm_BadText = true)
    (sa_BadText : PySem.W.findIn K (.ref c_BadText) "__setattr__" = some (some (.builtin "object.__setattr__")))
    (eC_BadText : PySem.W.subIn K (.ref c_BadText) (.type "BaseException") = some true)
    (tC_BadText : PySem.W.typeIn K (.ref c_BadText) = some (.type "type"))
    (kC_BadText : PySem.W.keepIn K (.ref c_BadText) = true)
    (ga_BadText : PySem.W.findIn K (.ref c_BadText) "__getattribute__" = some (some (.builtin "BaseException.__getattribute__")))
    (gg_BadText : PySem.W.findIn K (.ref c_BadText) "__getattr__" = some none)
    (hd_BadText : PySem.W.hasDictIn K c_BadText = true)
    (cA_BadText : PySem.W.findIn K (.ref c_BadText) "__class__" = some (some (.builtin "object.__class__")))
    (cm_BadText : PySem.W.mroIn K c_BadText (.type "object") = some true)
    (no_BadText_line : PySem.W.findIn K (.ref c_BadText) "line" = some none)
    (no_BadText_item : PySem.W.findIn K (.ref c_BadText) "item" = some none)
    (ai_BadText : PySem.W.findIn K (.ref c_BadText) "__init__" = some (some (.ref f_BadText)))
    (ti_BadText : PySem.W.typeIn K (.ref f_BadText) = some (.type "function"))
    (li_BadText : K.lookup f_BadText = some ⟨oc_BadText, od_BadText, .func (PySem.W.fnOf "__init__" "BadText.__init__" (defArgs s_BadText_init) (defBody s_BadText_init) (defScope s_BadText_init) .none kV_BadText dc_BadText pm_BadText an_BadText cd_BadText ct_BadText), sl_BadText⟩)
    (ci_BadText : PySem.W.codeIn K cd_BadText "BadText.__init__" = true)
    (ki_BadText : PySem.W.keepIn K (.ref f_BadText) = true)
    (kt_0 : PySem.W.kitOne K (.ref c_BadNumber) (.ref c_TickError) = some true)
    (kv_0 : PySem.W.kitOne K (.ref c_BadNumber) (.type "ValueError") = some true)
    (ko_0_0 : PySem.W.kitOne K (.ref c_BadNumber) (.type "RuntimeError") = some false)
    (ko_0_1 : PySem.W.kitOne K (.ref c_BadNumber) (.type "AttributeError") = some false)
    (ko_0_2 : PySem.W.kitOne K (.ref c_BadNumber) (.type "TypeError") = some false)
    (ko_0_3 : PySem.W.kitOne K (.ref c_BadNumber) (.type "ArithmeticError") = some false)
    (ko_0_4 : PySem.W.kitOne K (.ref c_BadNumber) (.type "LookupError") = some false)
    (kk_0_0 : PySem.W.kitOne K (.ref c_BadNumber) (.ref c_BadNumber) = some true)
    (kk_0_1 : PySem.W.kitOne K (.ref c_BadNumber) (.ref c_BadName) = some false)
    (kk_0_2 : PySem.W.kitOne K (.ref c_BadNumber) (.ref c_BadTongue) = some false)
    (kk_0_3 : PySem.W.kitOne K (.ref c_BadNumber) (.ref c_BadProgram) = some false)
    (kk_0_4 : PySem.W.kitOne K (.ref c_BadNumber) (.ref c_BadPuzzle) = some false)
    (kk_0_5 : PySem.W.kitOne K (.ref c_BadNumber) (.ref c_BadFactor) = some false)
    (kk_0_6 : PySem.W.kitOne K (.ref c_BadNumber) (.ref c_BadOrder) = some false)
    (kk_0_7 : PySem.W.kitOne K (.ref c_BadNumber) (.ref c_BadDealer) = some false)
    (kk_0_8 : PySem.W.kitOne K (.ref c_BadNumber) (.ref c_Misfit) = some false)
    (kk_0_9 : PySem.W.kitOne K (.ref c_BadNumber) (.ref c_TooMany) = some false)
    (kk_0_10 : PySem.W.kitOne K (.ref c_BadNumber) (.ref c_BadText) = some false)
    (kt_1 : PySem.W.kitOne K (.ref c_BadName) (.ref c_TickError) = some true)
    (kv_1 : PySem.W.kitOne K (.ref c_BadName) (.type "ValueError") = some true)
    (ko_1_0 : PySem.W.kitOne K (.ref c_BadName) (.type "RuntimeError") = some false)
    (ko_1_1 : PySem.W.kitOne K (.ref c_BadName) (.type "AttributeError") = some false)
    (ko_1_2 : PySem.W.kitOne K (.ref c_BadName) (.type "TypeError") = some false)
    (ko_1_3 : PySem.W.kitOne K (.ref c_BadName) (.type "ArithmeticError") = some false)
    (ko_1_4 : PySem.W.kitOne K (.ref c_BadName) (.type "LookupError") = some false)
    (kk_1_0 : PySem.W.kitOne K (.ref c_BadName) (.ref c_BadNumber) = some false)
    (kk_1_1 : PySem.W.kitOne K (.ref c_BadName) (.ref c_BadName) = some true)
    (kk_1_2 : PySem.W.kitOne K (.ref c_BadName) (.ref c_BadTongue) = some false)
    (kk_1_3 : PySem.W.kitOne K (.ref c_BadName) (.ref c_BadProgram) = some false)
    (kk_1_4 : PySem.W.kitOne K (.ref c_BadName) (.ref c_BadPuzzle) = some false)
    (kk_1_5 : PySem.W.kitOne K (.ref c_BadName) (.ref c_BadFactor) = some false)
    (kk_1_6 : PySem.W.kitOne K (.ref c_BadName) (.ref c_BadOrder) = some false)
    (kk_1_7 : PySem.W.kitOne K (.ref c_BadName) (.ref c_BadDealer) = some false)
    (kk_1_8 : PySem.W.kitOne K (.ref c_BadName) (.ref c_Misfit) = some false)
    (kk_1_9 : PySem.W.kitOne K (.ref c_BadName) (.ref c_TooMany) = some false)
    (kk_1_10 : PySem.W.kitOne K (.ref c_BadName) (.ref c_BadText) = some false)
    (kt_2 : PySem.W.kitOne K (.ref c_BadTongue) (.ref c_TickError) = some true)
    (kv_2 : PySem.W.kitOne K (.ref c_BadTongue) (.type "ValueError") = some true)
    (ko_2_0 : PySem.W.kitOne K (.ref c_BadTongue) (.type "RuntimeError") = some false)
    (ko_2_1 : PySem.W.kitOne K (.ref c_BadTongue) (.type "AttributeError") = some false)
    (ko_2_2 : PySem.W.kitOne K (.ref c_BadTongue) (.type "TypeError") = some false)
    (ko_2_3 : PySem.W.kitOne K (.ref c_BadTongue) (.type "ArithmeticError") = some false)
    (ko_2_4 : PySem.W.kitOne K (.ref c_BadTongue) (.type "LookupError") = some false)
    (kk_2_0 : PySem.W.kitOne K (.ref c_BadTongue) (.ref c_BadNumber) = some false)
    (kk_2_1 : PySem.W.kitOne K (.ref c_BadTongue) (.ref c_BadName) = some false)
    (kk_2_2 : PySem.W.kitOne K (.ref c_BadTongue) (.ref c_BadTongue) = some true)
    (kk_2_3 : PySem.W.kitOne K (.ref c_BadTongue) (.ref c_BadProgram) = some false)
    (kk_2_4 : PySem.W.kitOne K (.ref c_BadTongue) (.ref c_BadPuzzle) = some false)
    (kk_2_5 : PySem.W.kitOne K (.ref c_BadTongue) (.ref c_BadFactor) = some false)
    (kk_2_6 : PySem.W.kitOne K (.ref c_BadTongue) (.ref c_BadOrder) = some false)
    (kk_2_7 : PySem.W.kitOne K (.ref c_BadTongue) (.ref c_BadDealer) = some false)
    (kk_2_8 : PySem.W.kitOne K (.ref c_BadTongue) (.ref c_Misfit) = some false)
    (kk_2_9 : PySem.W.kitOne K (.ref c_BadTongue) (.ref c_TooMany) = some false)
    (kk_2_10 : PySem.W.kitOne K (.ref c_BadTongue) (.ref c_BadText) = some false)
    (kt_3 : PySem.W.kitOne K (.ref c_BadProgram) (.ref c_TickError) = some true)
    (kv_3 : PySem.W.kitOne K (.ref c_BadProgram) (.type "ValueError") = some true)
    (ko_3_0 : PySem.W.kitOne K (.ref c_BadProgram) (.type "RuntimeError") = some false)
    (ko_3_1 : PySem.W.kitOne K (.ref c_BadProgram) (.type "AttributeError") = some false)
    (ko_3_2 : PySem.W.kitOne K (.ref c_BadProgram) (.type "TypeError") = some false)
    (ko_3_3 : PySem.W.kitOne K (.ref c_BadProgram) (.type "ArithmeticError") = some false)
    (ko_3_4 : PySem.W.kitOne K (.ref c_BadProgram) (.type "LookupError") = some false)
    (kk_3_0 : PySem.W.kitOne K (.ref c_BadProgram) (.ref c_BadNumber) = some false)
    (kk_3_1 : PySem.W.kitOne K (.ref c_BadProgram) (.ref c_BadName) = some false)
    (kk_3_2 : PySem.W.kitOne K (.ref c_BadProgram) (.ref c_BadTongue) = some false)
    (kk_3_3 : PySem.W.kitOne K (.ref c_BadProgram) (.ref c_BadProgram) = some true)
    (kk_3_4 : PySem.W.kitOne K (.ref c_BadProgram) (.ref c_BadPuzzle) = some false)
    (kk_3_5 : PySem.W.kitOne K (.ref c_BadProgram) (.ref c_BadFactor) = some false)
    (kk_3_6 : PySem.W.kitOne K (.ref c_BadProgram) (.ref c_BadOrder) = some false)
    (kk_3_7 : PySem.W.kitOne K (.ref c_BadProgram) (.ref c_BadDealer) = some false)
    (kk_3_8 : PySem.W.kitOne K (.ref c_BadProgram) (.ref c_Misfit) = some false)
    (kk_3_9 : PySem.W.kitOne K (.ref c_BadProgram) (.ref c_TooMany) = some false)
    (kk_3_10 : PySem.W.kitOne K (.ref c_BadProgram) (.ref c_BadText) = some false)
    (kt_4 : PySem.W.kitOne K (.ref c_BadPuzzle) (.ref c_TickError) = some true)
    (kv_4 : PySem.W.kitOne K (.ref c_BadPuzzle) (.type "ValueError") = some true)
    (ko_4_0 : PySem.W.kitOne K (.ref c_BadPuzzle) (.type "RuntimeError") = some false)
    (ko_4_1 : PySem.W.kitOne K (.ref c_BadPuzzle) (.type "AttributeError") = some false)
    (ko_4_2 : PySem.W.kitOne K (.ref c_BadPuzzle) (.type "TypeError") = some false)
    (ko_4_3 : PySem.W.kitOne K (.ref c_BadPuzzle) (.type "ArithmeticError") = some false)
    (ko_4_4 : PySem.W.kitOne K (.ref c_BadPuzzle) (.type "LookupError") = some false)
    (kk_4_0 : PySem.W.kitOne K (.ref c_BadPuzzle) (.ref c_BadNumber) = some false)
    (kk_4_1 : PySem.W.kitOne K (.ref c_BadPuzzle) (.ref c_BadName) = some false)
    (kk_4_2 : PySem.W.kitOne K (.ref c_BadPuzzle) (.ref c_BadTongue) = some false)
    (kk_4_3 : PySem.W.kitOne K (.ref c_BadPuzzle) (.ref c_BadProgram) = some false)
    (kk_4_4 : PySem.W.kitOne K (.ref c_BadPuzzle) (.ref c_BadPuzzle) = some true)
    (kk_4_5 : PySem.W.kitOne K (.ref c_BadPuzzle) (.ref c_BadFactor) = some false)
    (kk_4_6 : PySem.W.kitOne K (.ref c_BadPuzzle) (.ref c_BadOrder) = some false)
    (kk_4_7 : PySem.W.kitOne K (.ref c_BadPuzzle) (.ref c_BadDealer) = some false)
    (kk_4_8 : PySem.W.kitOne K (.ref c_BadPuzzle) (.ref c_Misfit) = some false)
    (kk_4_9 : PySem.W.kitOne K (.ref c_BadPuzzle) (.ref c_TooMany) = some false)
    (kk_4_10 : PySem.W.kitOne K (.ref c_BadPuzzle) (.ref c_BadText) = some false)
    (kt_5 : PySem.W.kitOne K (.ref c_BadFactor) (.ref c_TickError) = some true)
    (kv_5 : PySem.W.kitOne K (.ref c_BadFactor) (.type "ValueError") = some true)
    (ko_5_0 : PySem.W.kitOne K (.ref c_BadFactor) (.type "RuntimeError") = some false)
    (ko_5_1 : PySem.W.kitOne K (.ref c_BadFactor) (.type "AttributeError") = some false)
    (ko_5_2 : PySem.W.kitOne K (.ref c_BadFactor) (.type "TypeError") = some false)
    (ko_5_3 : PySem.W.kitOne K (.ref c_BadFactor) (.type "ArithmeticError") = some false)
    (ko_5_4 : PySem.W.kitOne K (.ref c_BadFactor) (.type "LookupError") = some false)
    (kk_5_0 : PySem.W.kitOne K (.ref c_BadFactor) (.ref c_BadNumber) = some false)
    (kk_5_1 : PySem.W.kitOne K (.ref c_BadFactor) (.ref c_BadName) = some false)
    (kk_5_2 : PySem.W.kitOne K (.ref c_BadFactor) (.ref c_BadTongue) = some false)
    (kk_5_3 : PySem.W.kitOne K (.ref c_BadFactor) (.ref c_BadProgram) = some false)
    (kk_5_4 : PySem.W.kitOne K (.ref c_BadFactor) (.ref c_BadPuzzle) = some false)
    (kk_5_5 : PySem.W.kitOne K (.ref c_BadFactor) (.ref c_BadFactor) = some true)
    (kk_5_6 : PySem.W.kitOne K (.ref c_BadFactor) (.ref c_BadOrder) = some false)
    (kk_5_7 : PySem.W.kitOne K (.ref c_BadFactor) (.ref c_BadDealer) = some false)
    (kk_5_8 : PySem.W.kitOne K (.ref c_BadFactor) (.ref c_Misfit) = some false)
    (kk_5_9 : PySem.W.kitOne K (.ref c_BadFactor) (.ref c_TooMany) = some false)
    (kk_5_10 : PySem.W.kitOne K (.ref c_BadFactor) (.ref c_BadText) = some false)
    (kt_6 : PySem.W.kitOne K (.ref c_BadOrder) (.ref c_TickError) = some true)
    (kv_6 : PySem.W.kitOne K (.ref c_BadOrder) (.type "ValueError") = some true)
    (ko_6_0 : PySem.W.kitOne K (.ref c_BadOrder) (.type "RuntimeError") = some false)
    (ko_6_1 : PySem.W.kitOne K (.ref c_BadOrder) (.type "AttributeError") = some false)
    (ko_6_2 : PySem.W.kitOne K (.ref c_BadOrder) (.type "TypeError") = some false)
    (ko_6_3 : PySem.W.kitOne K (.ref c_BadOrder) (.type "ArithmeticError") = some false)
    (ko_6_4 : PySem.W.kitOne K (.ref c_BadOrder) (.type "LookupError") = some false)
    (kk_6_0 : PySem.W.kitOne K (.ref c_BadOrder) (.ref c_BadNumber) = some false)
    (kk_6_1 : PySem.W.kitOne K (.ref c_BadOrder) (.ref c_BadName) = some false)
    (kk_6_2 : PySem.W.kitOne K (.ref c_BadOrder) (.ref c_BadTongue) = some false)
    (kk_6_3 : PySem.W.kitOne K (.ref c_BadOrder) (.ref c_BadProgram) = some false)
    (kk_6_4 : PySem.W.kitOne K (.ref c_BadOrder) (.ref c_BadPuzzle) = some false)
    (kk_6_5 : PySem.W.kitOne K (.ref c_BadOrder) (.ref c_BadFactor) = some false)
    (kk_6_6 : PySem.W.kitOne K (.ref c_BadOrder) (.ref c_BadOrder) = some true)
    (kk_6_7 : PySem.W.kitOne K (.ref c_BadOrder) (.ref c_BadDealer) = some false)
    (kk_6_8 : PySem.W.kitOne K (.ref c_BadOrder) (.ref c_Misfit) = some false)
    (kk_6_9 : PySem.W.kitOne K (.ref c_BadOrder) (.ref c_TooMany) = some false)
    (kk_6_10 : PySem.W.kitOne K (.ref c_BadOrder) (.ref c_BadText) = some false)
    (kt_7 : PySem.W.kitOne K (.ref c_BadDealer) (.ref c_TickError) = some true)
    (kv_7 : PySem.W.kitOne K (.ref c_BadDealer) (.type "ValueError") = some true)
    (ko_7_0 : PySem.W.kitOne K (.ref c_BadDealer) (.type "RuntimeError") = some false)
    (ko_7_1 : PySem.W.kitOne K (.ref c_BadDealer) (.type "AttributeError") = some false)
    (ko_7_2 : PySem.W.kitOne K (.ref c_BadDealer) (.type "TypeError") = some false)
    (ko_7_3 : PySem.W.kitOne K (.ref c_BadDealer) (.type "ArithmeticError") = some false)
    (ko_7_4 : PySem.W.kitOne K (.ref c_BadDealer) (.type "LookupError") = some false)
    (kk_7_0 : PySem.W.kitOne K (.ref c_BadDealer) (.ref c_BadNumber) = some false)
    (kk_7_1 : PySem.W.kitOne K (.ref c_BadDealer) (.ref c_BadName) = some false)
    (kk_7_2 : PySem.W.kitOne K (.ref c_BadDealer) (.ref c_BadTongue) = some false)
    (kk_7_3 : PySem.W.kitOne K (.ref c_BadDealer) (.ref c_BadProgram) = some false)
    (kk_7_4 : PySem.W.kitOne K (.ref c_BadDealer) (.ref c_BadPuzzle) = some false)
    (kk_7_5 : PySem.W.kitOne K (.ref c_BadDealer) (.ref c_BadFactor) = some false)
    (kk_7_6 : PySem.W.kitOne K (.ref c_BadDealer) (.ref c_BadOrder) = some false)
    (kk_7_7 : PySem.W.kitOne K (.ref c_BadDealer) (.ref c_BadDealer) = some true)
    (kk_7_8 : PySem.W.kitOne K (.ref c_BadDealer) (.ref c_Misfit) = some false)
    (kk_7_9 : PySem.W.kitOne K (.ref c_BadDealer) (.ref c_TooMany) = some false)
    (kk_7_10 : PySem.W.kitOne K (.ref c_BadDealer) (.ref c_BadText) = some false)
    (kt_8 : PySem.W.kitOne K (.ref c_Misfit) (.ref c_TickError) = some true)
    (kv_8 : PySem.W.kitOne K (.ref c_Misfit) (.type "ValueError") = some true)
    (ko_8_0 : PySem.W.kitOne K (.ref c_Misfit) (.type "RuntimeError") = some false)
    (ko_8_1 : PySem.W.kitOne K (.ref c_Misfit) (.type "AttributeError") = some false)
    (ko_8_2 : PySem.W.kitOne K (.ref c_Misfit) (.type "TypeError") = some false)
    (ko_8_3 : PySem.W.kitOne K (.ref c_Misfit) (.type "ArithmeticError") = some false)
    (ko_8_4 : PySem.W.kitOne K (.ref c_Misfit) (.type "LookupError") = some false)
    (kk_8_0 : PySem.W.kitOne K (.ref c_Misfit) (.ref c_BadNumber) = some false)
    (kk_8_1 : PySem.W.kitOne K (.ref c_Misfit) (.ref c_BadName) = some false)
    (kk_8_2 : PySem.W.kitOne K (.ref c_Misfit) (.ref c_BadTongue) = some false)
    (kk_8_3 : PySem.W.kitOne K (.ref c_Misfit) (.ref c_BadProgram) = some false)
    (kk_8_4 : PySem.W.kitOne K (.ref c_Misfit) (.ref c_BadPuzzle) = some false)
    (kk_8_5 : PySem.W.kitOne K (.ref c_Misfit) (.ref c_BadFactor) = some false)
    (kk_8_6 : PySem.W.kitOne K (.ref c_Misfit) (.ref c_BadOrder) = some false)
    (kk_8_7 : PySem.W.kitOne K (.ref c_Misfit) (.ref c_BadDealer) = some false)
    (kk_8_8 : PySem.W.kitOne K (.ref c_Misfit) (.ref c_Misfit) = some true)
    (kk_8_9 : PySem.W.kitOne K (.ref c_Misfit) (.ref c_TooMany) = some false)
    (kk_8_10 : PySem.W.kitOne K (.ref c_Misfit) (.ref c_BadText) = some false)
    (kt_9 : PySem.W.kitOne K (.ref c_TooMany) (.ref c_TickError) = some true)
    (kv_9 : PySem.W.kitOne K (.ref c_TooMany) (.type "ValueError") = some true)
    (ko_9_0 : PySem.W.kitOne K (.ref c_TooMany) (.type "RuntimeError") = some false)
    (ko_9_1 : PySem.W.kitOne K (.ref c_TooMany) (.type "AttributeError") = some false)
    (ko_9_2 : PySem.W.kitOne K (.ref c_TooMany) (.type "TypeError") = some false)
    (ko_9_3 : PySem.W.kitOne K (.ref c_TooMany) (.type "ArithmeticError") = some false)
    (ko_9_4 : PySem.W.kitOne K (.ref c_TooMany) (.type "LookupError") = some false)
    (kk_9_0 : PySem.W.kitOne K (.ref c_TooMany) (.ref c_BadNumber) = some false)
    (kk_9_1 : PySem.W.kitOne K (.ref c_TooMany) (.ref c_BadName) = some false)
    (kk_9_2 : PySem.W.kitOne K (.ref c_TooMany) (.ref c_BadTongue) = some false)
    (kk_9_3 : PySem.W.kitOne K (.ref c_TooMany) (.ref c_BadProgram) = some false)
    (kk_9_4 : PySem.W.kitOne K (.ref c_TooMany) (.ref c_BadPuzzle) = some false)
    (kk_9_5 : PySem.W.kitOne K (.ref c_TooMany) (.ref c_BadFactor) = some false)
    (kk_9_6 : PySem.W.kitOne K (.ref c_TooMany) (.ref c_BadOrder) = some false)
    (kk_9_7 : PySem.W.kitOne K (.ref c_TooMany) (.ref c_BadDealer) = some false)
    (kk_9_8 : PySem.W.kitOne K (.ref c_TooMany) (.ref c_Misfit) = some false)
    (kk_9_9 : PySem.W.kitOne K (.ref c_TooMany) (.ref c_TooMany) = some true)
    (kk_9_10 : PySem.W.kitOne K (.ref c_TooMany) (.ref c_BadText) = some false)
    (kt_10 : PySem.W.kitOne K (.ref c_BadText) (.ref c_TickError) = some true)
    (kv_10 : PySem.W.kitOne K (.ref c_BadText) (.type "ValueError") = some true)
    (ko_10_0 : PySem.W.kitOne K (.ref c_BadText) (.type "RuntimeError") = some false)
    (ko_10_1 : PySem.W.kitOne K (.ref c_BadText) (.type "AttributeError") = some false)
    (ko_10_2 : PySem.W.kitOne K (.ref c_BadText) (.type "TypeError") = some false)
    (ko_10_3 : PySem.W.kitOne K (.ref c_BadText) (.type "ArithmeticError") = some false)
    (ko_10_4 : PySem.W.kitOne K (.ref c_BadText) (.type "LookupError") = some false)
    (kk_10_0 : PySem.W.kitOne K (.ref c_BadText) (.ref c_BadNumber) = some false)
    (kk_10_1 : PySem.W.kitOne K (.ref c_BadText) (.ref c_BadName) = some false)
    (kk_10_2 : PySem.W.kitOne K (.ref c_BadText) (.ref c_BadTongue) = some false)
    (kk_10_3 : PySem.W.kitOne K (.ref c_BadText) (.ref c_BadProgram) = some false)
    (kk_10_4 : PySem.W.kitOne K (.ref c_BadText) (.ref c_BadPuzzle) = some false)
    (kk_10_5 : PySem.W.kitOne K (.ref c_BadText) (.ref c_BadFactor) = some false)
    (kk_10_6 : PySem.W.kitOne K (.ref c_BadText) (.ref c_BadOrder) = some false)
    (kk_10_7 : PySem.W.kitOne K (.ref c_BadText) (.ref c_BadDealer) = some false)
    (kk_10_8 : PySem.W.kitOne K (.ref c_BadText) (.ref c_Misfit) = some false)
    (kk_10_9 : PySem.W.kitOne K (.ref c_BadText) (.ref c_TooMany) = some false)
    (kk_10_10 : PySem.W.kitOne K (.ref c_BadText) (.ref c_BadText) = some true)
    : ∃ fd : FuncData, (∀ (s : Shared) (v : Value), BindsTo s fd ⟨[v], []⟩ [("script", v)]) ∧ ∀ base : Heap, K.In base → base.Ns mainGlobals mg → FnG l.prog w K mg base CX0 6 fa fd ["script"] (spLaw K) := by
  have e := hfa.symm.trans (PySem.W.mg_of X G a_law)
  cases e
  have T : Txt mg := ⟨PySem.W.mg_none_of X G z_int, PySem.W.mg_none_of X G z_len, PySem.W.mg_none_of X G z_abs, PySem.W.mg_none_of X G z_range, PySem.W.mg_none_of X G z_isinstance, PySem.W.mg_none_of X G z_RuntimeError, PySem.W.mg_none_of X G z_AttributeError, PySem.W.mg_none_of X G z_TypeError, PySem.W.mg_none_of X G z_ArithmeticError, PySem.W.mg_none_of X G z_LookupError, PySem.W.mg_none_of X G z_enumerate, PySem.W.mg_none_of X G z_ValueError, PySem.W.mg_none_of X G z_repr⟩
  have F__law_bell := fun_mk (st := s__law_bell) l__law_bell c__law_bell k__law_bell
  have b__law_bell := F__law_bell.binds (ps := ["script"]) fun _ _ _ _ _ _ us hl => match us, hl with | [_], _ => rfl
  have m__law_bell := PySem.W.mg_of X G a__law_bell
  have F__law_toll := fun_mk (st := s__law_toll) l__law_toll c__law_toll k__law_toll
  have b__law_toll := F__law_toll.binds (ps := ["bell", "many"]) fun _ _ _ _ _ _ us hl => match us, hl with | [_, _], _ => rfl
  have m__law_toll := PySem.W.mg_of X G a__law_toll
  have F__law_one := fun_mk (st := s__law_one) l__law_one c__law_one k__law_one
  have b__law_one := F__law_one.binds (ps := ["bell", "some"]) fun _ _ _ _ _ _ us hl => match us, hl with | [_, _], _ => rfl
  have m__law_one := PySem.W.mg_of X G a__law_one
  have F__law_value := fun_mk (st := s__law_value) l__law_value c__law_value k__law_value
  have b__law_value := F__law_value.binds (ps := ["bell", "deep"]) fun _ _ _ _ _ _ us hl => match us, hl with | [_, _], _ => rfl
  have m__law_value := PySem.W.mg_of X G a__law_value
  have F__law_kinds := fun_mk (st := s__law_kinds) l__law_kinds c__law_kinds k__law_kinds
  have b__law_kinds := F__law_kinds.binds (ps := ["error"]) fun _ _ _ _ _ _ us hl => match us, hl with | [_], _ => rfl
  have m__law_kinds := PySem.W.mg_of X G a__law_kinds
  have F__law_is_odd := fun_mk (st := s__law_is_odd) l__law_is_odd c__law_is_odd k__law_is_odd
  have b__law_is_odd := F__law_is_odd.binds (ps := ["error"]) fun _ _ _ _ _ _ us hl => match us, hl with | [_], _ => rfl
  have m__law_is_odd := PySem.W.mg_of X G a__law_is_odd
  have F_law := fun_mk (st := s_law) l_law c_law k_law
  refine ⟨PySem.W.fnOf "law" "law" (defArgs s_law) (defBody s_law) (defScope s_law) .none kV_law dc_law pm_law an_law cd_law ct_law, fun s v => .of_eq rfl, fun base _ _ => ?_⟩
  have E_BadNumber : ExC K c_BadNumber := ⟨⟨⟨nm_BadNumber, q_BadNumber, N_BadNumber_, bs_BadNumber, bm_BadNumber, sn_BadNumber, sub_BadNumber, ab_BadNumber, col_BadNumber, dd_BadNumber, m0_BadNumber, m1_BadNumber, m2_BadNumber, m3_BadNumber, m5_BadNumber, xL_BadNumber, rv_BadNumber⟩, sa_BadNumber, eC_BadNumber, tC_BadNumber, kC_BadNumber⟩, ga_BadNumber, gg_BadNumber, hd_BadNumber, cA_BadNumber, cg, ct, cm_BadNumber⟩
  have F_BadNumber := fun_mk (st := s_BadNumber_init) li_BadNumber ci_BadNumber ki_BadNumber
  have M_BadNumber := PySem.W.mg_of X G at_BadNumber
  have E_BadName : ExC K c_BadName := ⟨⟨⟨nm_BadName, q_BadName, N_BadName_, bs_BadName, bm_BadName, sn_BadName, sub_BadName, ab_BadName, col_BadName, dd_BadName, m0_BadName, m1_BadName, m2_BadName, m3_BadName, m5_BadName, xL_BadName, rv_BadName⟩, sa_BadName, eC_BadName, tC_BadName, kC_BadName⟩, ga_BadName, gg_BadName, hd_BadName, cA_BadName, cg, ct, cm_BadName⟩
  have F_BadName := fun_mk (st := s_BadName_init) li_BadName ci_BadName ki_BadName
  have M_BadName := PySem.W.mg_of X G at_BadName
  have E_BadTongue : ExC K c_BadTongue := ⟨⟨⟨nm_BadTongue, q_BadTongue, N_BadTongue_, bs_BadTongue, bm_BadTongue, sn_BadTongue, sub_BadTongue, ab_BadTongue, col_BadTongue, dd_BadTongue, m0_BadTongue, m1_BadTongue, m2_BadTongue, m3_BadTongue, m5_BadTongue, xL_BadTongue, rv_BadTongue⟩, sa_BadTongue, eC_BadTongue, tC_BadTongue, kC_BadTongue⟩, ga_BadTongue, gg_BadTongue, hd_BadTongue, cA_BadTongue, cg, ct, cm_BadTongue⟩
  have F_BadTongue := fun_mk (st := s_BadTongue_init) li_BadTongue ci_BadTongue ki_BadTongue
  have M_BadTongue := PySem.W.mg_of X G at_BadTongue
  have E_BadProgram : ExC K c_BadProgram := ⟨⟨⟨nm_BadProgram, q_BadProgram, N_BadProgram_, bs_BadProgram, bm_BadProgram, sn_BadProgram, sub_BadProgram, ab_BadProgram, col_BadProgram, dd_BadProgram, m0_BadProgram, m1_BadProgram, m2_BadProgram, m3_BadProgram, m5_BadProgram, xL_BadProgram, rv_BadProgram⟩, sa_BadProgram, eC_BadProgram, tC_BadProgram, kC_BadProgram⟩, ga_BadProgram, gg_BadProgram, hd_BadProgram, cA_BadProgram, cg, ct, cm_BadProgram⟩
  have F_BadProgram := fun_mk (st := s_BadProgram_init) li_BadProgram ci_BadProgram ki_BadProgram
  have M_BadProgram := PySem.W.mg_of X G at_BadProgram
  have E_BadPuzzle : ExC K c_BadPuzzle := ⟨⟨⟨nm_BadPuzzle, q_BadPuzzle, N_BadPuzzle_, bs_BadPuzzle, bm_BadPuzzle, sn_BadPuzzle, sub_BadPuzzle, ab_BadPuzzle, col_BadPuzzle, dd_BadPuzzle, m0_BadPuzzle, m1_BadPuzzle, m2_BadPuzzle, m3_BadPuzzle, m5_BadPuzzle, xL_BadPuzzle, rv_BadPuzzle⟩, sa_BadPuzzle, eC_BadPuzzle, tC_BadPuzzle, kC_BadPuzzle⟩, ga_BadPuzzle, gg_BadPuzzle, hd_BadPuzzle, cA_BadPuzzle, cg, ct, cm_BadPuzzle⟩
  have F_BadPuzzle := fun_mk (st := s_BadPuzzle_init) li_BadPuzzle ci_BadPuzzle ki_BadPuzzle
  have M_BadPuzzle := PySem.W.mg_of X G at_BadPuzzle
  have E_BadFactor : ExC K c_BadFactor := ⟨⟨⟨nm_BadFactor, q_BadFactor, N_BadFactor_, bs_BadFactor, bm_BadFactor, sn_BadFactor, sub_BadFactor, ab_BadFactor, col_BadFactor, dd_BadFactor, m0_BadFactor, m1_BadFactor, m2_BadFactor, m3_BadFactor, m5_BadFactor, xL_BadFactor, rv_BadFactor⟩, sa_BadFactor, eC_BadFactor, tC_BadFactor, kC_BadFactor⟩, ga_BadFactor, gg_BadFactor, hd_BadFactor, cA_BadFactor, cg, ct, cm_BadFactor⟩
  have F_BadFactor := fun_mk (st := s_BadFactor_init) li_BadFactor ci_BadFactor ki_BadFactor
  have M_BadFactor := PySem.W.mg_of X G at_BadFactor
  have E_BadOrder : ExC K c_BadOrder := ⟨⟨⟨nm_BadOrder, q_BadOrder, N_BadOrder_, bs_BadOrder, bm_BadOrder, sn_BadOrder, sub_BadOrder, ab_BadOrder, col_BadOrder, dd_BadOrder, m0_BadOrder, m1_BadOrder, m2_BadOrder, m3_BadOrder, m5_BadOrder, xL_BadOrder, rv_BadOrder⟩, sa_BadOrder, eC_BadOrder, tC_BadOrder, kC_BadOrder⟩, ga_BadOrder, gg_BadOrder, hd_BadOrder, cA_BadOrder, cg, ct, cm_BadOrder⟩
  have F_BadOrder := fun_mk (st := s_BadOrder_init) li_BadOrder ci_BadOrder ki_BadOrder
  have M_BadOrder := PySem.W.mg_of X G at_BadOrder
  have E_BadDealer : ExC K c_BadDealer := ⟨⟨⟨nm_BadDealer, q_BadDealer, N_BadDealer_, bs_BadDealer, bm_BadDealer, sn_BadDealer, sub_BadDealer, ab_BadDealer, col_BadDealer, dd_BadDealer, m0_BadDealer, m1_BadDealer, m2_BadDealer, m3_BadDealer, m5_BadDealer, xL_BadDealer, rv_BadDealer⟩, sa_BadDealer, eC_BadDealer, tC_BadDealer, kC_BadDealer⟩, ga_BadDealer, gg_BadDealer, hd_BadDealer, cA_BadDealer, cg, ct, cm_BadDealer⟩
  have F_BadDealer := fun_mk (st := s_BadDealer_init) li_BadDealer ci_BadDealer ki_BadDealer
  have M_BadDealer := PySem.W.mg_of X G at_BadDealer
  have E_Misfit : ExC K c_Misfit := ⟨⟨⟨nm_Misfit, q_Misfit, N_Misfit_, bs_Misfit, bm_Misfit, sn_Misfit, sub_Misfit, ab_Misfit, col_Misfit, dd_Misfit, m0_Misfit, m1_Misfit, m2_Misfit, m3_Misfit, m5_Misfit, xL_Misfit, rv_Misfit⟩, sa_Misfit, eC_Misfit, tC_Misfit, kC_Misfit⟩, ga_Misfit, gg_Misfit, hd_Misfit, cA_Misfit, cg, ct, cm_Misfit⟩
  have F_Misfit := fun_mk (st := s_Misfit_init) li_Misfit ci_Misfit ki_Misfit
  have M_Misfit := PySem.W.mg_of X G at_Misfit
  have E_TooMany : ExC K c_TooMany := ⟨⟨⟨nm_TooMany, q_TooMany, N_TooMany_, bs_TooMany, bm_TooMany, sn_TooMany, sub_TooMany, ab_TooMany, col_TooMany, dd_TooMany, m0_TooMany, m1_TooMany, m2_TooMany, m3_TooMany, m5_TooMany, xL_TooMany, rv_TooMany⟩, sa_TooMany, eC_TooMany, tC_TooMany, kC_TooMany⟩, ga_TooMany, gg_TooMany, hd_TooMany, cA_TooMany, cg, ct, cm_TooMany⟩
  have F_TooMany := fun_mk (st := s_TooMany_init) li_TooMany ci_TooMany ki_TooMany
  have M_TooMany := PySem.W.mg_of X G at_TooMany
  have E_BadText : ExC K c_BadText := ⟨⟨⟨nm_BadText, q_BadText, N_BadText_, bs_BadText, bm_BadText, sn_BadText, sub_BadText, ab_BadText, col_BadText, dd_BadText, m0_BadText, m1_BadText, m2_BadText, m3_BadText, m5_BadText, xL_BadText, rv_BadText⟩, sa_BadText, eC_BadText, tC_BadText, kC_BadText⟩, ga_BadText, gg_BadText, hd_BadText, cA_BadText, cg, ct, cm_BadText⟩
  have F_BadText := fun_mk (st := s_BadText_init) li_BadText ci_BadText ki_BadText
  have M_BadText := PySem.W.mg_of X G at_BadText
  have Q : Cls K mg (cAt [c_BadNumber, c_BadName, c_BadTongue, c_BadProgram, c_BadPuzzle, c_BadFactor, c_BadOrder, c_BadDealer, c_Misfit, c_TooMany, c_BadText, c_TickError]) := by
    refine { at_BadNumber := PySem.W.mg_of X G at_BadNumber, at_BadName := PySem.W.mg_of X G at_BadName, at_BadTongue := PySem.W.mg_of X G at_BadTongue, at_BadProgram := PySem.W.mg_of X G at_BadProgram, at_BadPuzzle := PySem.W.mg_of X G at_BadPuzzle, at_BadFactor := PySem.W.mg_of X G at_BadFactor, at_BadOrder := PySem.W.mg_of X G at_BadOrder, at_BadDealer := PySem.W.mg_of X G at_BadDealer, at_Misfit := PySem.W.mg_of X G at_Misfit, at_TooMany := PySem.W.mg_of X G at_TooMany, at_BadText := PySem.W.mg_of X G at_BadText, at_TickError := PySem.W.mg_of X G at_TickError, ex := ?ex, part := ?part, what := no_TooMany_what, most := no_TooMany_most, line := no_BadText_line, item := no_BadText_item, kk := ?kk, kt := ?kt, kv := ?kv, ko := ?ko }
    case ex => exact fun i hi => by match i, hi with | 0, _ => exact E_BadNumber | 1, _ => exact E_BadName | 2, _ => exact E_BadTongue | 3, _ => exact E_BadProgram | 4, _ => exact E_BadPuzzle | 5, _ => exact E_BadFactor | 6, _ => exact E_BadOrder | 7, _ => exact E_BadDealer | 8, _ => exact E_Misfit | 9, _ => exact E_TooMany | 10, _ => exact E_BadText | _ + 11, h => exact absurd h (by omega)
    case part => exact fun i hi => by match i, hi with | 0, _ => exact no_BadNumber_part | 1, _ => exact no_BadName_part | 2, _ => exact no_BadTongue_part | 3, _ => exact no_BadProgram_part | 4, _ => exact no_BadPuzzle_part | 5, _ => exact no_BadFactor_part | 6, _ => exact no_BadOrder_part | 7, _ => exact no_BadDealer_part | 8, _ => exact no_Misfit_part | _ + 9, h => exact absurd h (by omega)
    case kt => exact fun i hi => by match i, hi with | 0, _ => exact kt_0 | 1, _ => exact kt_1 | 2, _ => exact kt_2 | 3, _ => exact kt_3 | 4, _ => exact kt_4 | 5, _ => exact kt_5 | 6, _ => exact kt_6 | 7, _ => exact kt_7 | 8, _ => exact kt_8 | 9, _ => exact kt_9 | 10, _ => exact kt_10 | _ + 11, h => exact absurd h (by omega)
    case kv => exact fun i hi => by match i, hi with | 0, _ => exact kv_0 | 1, _ => exact kv_1 | 2, _ => exact kv_2 | 3, _ => exact kv_3 | 4, _ => exact kv_4 | 5, _ => exact kv_5 | 6, _ => exact kv_6 | 7, _ => exact kv_7 | 8, _ => exact kv_8 | 9, _ => exact kv_9 | 10, _ => exact kv_10 | _ + 11, h => exact absurd h (by omega)
    case ko =>
      intro i hi n hn
      simp only [List.mem_cons, List.not_mem_nil, or_false] at hn
      rcases hn with rfl | rfl | rfl | rfl | rfl
      · match i, hi with | 0, _ => exact ko_0_0 | 1, _ => exact ko_1_0 | 2, _ => exact ko_2_0 | 3, _ => exact ko_3_0 | 4, _ => exact ko_4_0 | 5, _ => exact ko_5_0 | 6, _ => exact ko_6_0 | 7, _ => exact ko_7_0 | 8, _ => exact ko_8_0 | 9, _ => exact ko_9_0 | 10, _ => exact ko_10_0 | _ + 11, h => exact absurd h (by omega)
      · match i, hi with | 0, _ => exact ko_0_1 | 1, _ => exact ko_1_1 | 2, _ => exact ko_2_1 | 3, _ => exact ko_3_1 | 4, _ => exact ko_4_1 | 5, _ => exact ko_5_1 | 6, _ => exact ko_6_1 | 7, _ => exact ko_7_1 | 8, _ => exact ko_8_1 | 9, _ => exact ko_9_1 | 10, _ => exact ko_10_1 | _ + 11, h => exact absurd h (by omega)
      · match i, hi with | 0, _ => exact ko_0_2 | 1, _ => exact ko_1_2 | 2, _ => exact ko_2_2 | 3, _ => exact ko_3_2 | 4, _ => exact ko_4_2 | 5, _ => exact ko_5_2 | 6, _ => exact ko_6_2 | 7, _ => exact ko_7_2 | 8, _ => exact ko_8_2 | 9, _ => exact ko_9_2 | 10, _ => exact ko_10_2 | _ + 11, h => exact absurd h (by omega)
      · match i, hi with | 0, _ => exact ko_0_3 | 1, _ => exact ko_1_3 | 2, _ => exact ko_2_3 | 3, _ => exact ko_3_3 | 4, _ => exact ko_4_3 | 5, _ => exact ko_5_3 | 6, _ => exact ko_6_3 | 7, _ => exact ko_7_3 | 8, _ => exact ko_8_3 | 9, _ => exact ko_9_3 | 10, _ => exact ko_10_3 | _ + 11, h => exact absurd h (by omega)
      · match i, hi with | 0, _ => exact ko_0_4 | 1, _ => exact ko_1_4 | 2, _ => exact ko_2_4 | 3, _ => exact ko_3_4 | 4, _ => exact ko_4_4 | 5, _ => exact ko_5_4 | 6, _ => exact ko_6_4 | 7, _ => exact ko_7_4 | 8, _ => exact ko_8_4 | 9, _ => exact ko_9_4 | 10, _ => exact ko_10_4 | _ + 11, h => exact absurd h (by omega)
    case kk =>
      intro i hi j hj
      match i, hi with
      | 0, _ => match j, hj with | 0, _ => exact kk_0_0 | 1, _ => exact kk_0_1 | 2, _ => exact kk_0_2 | 3, _ => exact kk_0_3 | 4, _ => exact kk_0_4 | 5, _ => exact kk_0_5 | 6, _ => exact kk_0_6 | 7, _ => exact kk_0_7 | 8, _ => exact kk_0_8 | 9, _ => exact kk_0_9 | 10, _ => exact kk_0_10 | _ + 11, h => exact absurd h (by omega)
      | 1, _ => match j, hj with | 0, _ => exact kk_1_0 | 1, _ => exact kk_1_1 | 2, _ => exact kk_1_2 | 3, _ => exact kk_1_3 | 4, _ => exact kk_1_4 | 5, _ => exact kk_1_5 | 6, _ => exact kk_1_6 | 7, _ => exact kk_1_7 | 8, _ => exact kk_1_8 | 9, _ => exact kk_1_9 | 10, _ => exact kk_1_10 | _ + 11, h => exact absurd h (by omega)
      | 2, _ => match j, hj with | 0, _ => exact kk_2_0 | 1, _ => exact kk_2_1 | 2, _ => exact kk_2_2 | 3, _ => exact kk_2_3 | 4, _ => exact kk_2_4 | 5, _ => exact kk_2_5 | 6, _ => exact kk_2_6 | 7, _ => exact kk_2_7 | 8, _ => exact kk_2_8 | 9, _ => exact kk_2_9 | 10, _ => exact kk_2_10 | _ + 11, h => exact absurd h (by omega)
      | 3, _ => match j, hj with | 0, _ => exact kk_3_0 | 1, _ => exact kk_3_1 | 2, _ => exact kk_3_2 | 3, _ => exact kk_3_3 | 4, _ => exact kk_3_4 | 5, _ => exact kk_3_5 | 6, _ => exact kk_3_6 | 7, _ => exact kk_3_7 | 8, _ => exact kk_3_8 | 9, _ => exact kk_3_9 | 10, _ => exact kk_3_10 | _ + 11, h => exact absurd h (by omega)
      | 4, _ => match j, hj with | 0, _ => exact kk_4_0 | 1, _ => exact kk_4_1 | 2, _ => exact kk_4_2 | 3, _ => exact kk_4_3 | 4, _ => exact kk_4_4 | 5, _ => exact kk_4_5 | 6, _ => exact kk_4_6 | 7, _ => exact kk_4_7 | 8, _ => exact kk_4_8 | 9, _ => exact kk_4_9 | 10, _ => exact kk_4_10 | _ + 11, h => exact absurd h (by omega)
      | 5, _ => match j, hj with | 0, _ => exact kk_5_0 | 1, _ => exact kk_5_1 | 2, _ => exact kk_5_2 | 3, _ => exact kk_5_3 | 4, _ => exact kk_5_4 | 5, _ => exact kk_5_5 | 6, _ => exact kk_5_6 | 7, _ => exact kk_5_7 | 8, _ => exact kk_5_8 | 9, _ => exact kk_5_9 | 10, _ => exact kk_5_10 | _ + 11, h => exact absurd h (by omega)
      | 6, _ => match j, hj with | 0, _ => exact kk_6_0 | 1, _ => exact kk_6_1 | 2, _ => exact kk_6_2 | 3, _ => exact kk_6_3 | 4, _ => exact kk_6_4 | 5, _ => exact kk_6_5 | 6, _ => exact kk_6_6 | 7, _ => exact kk_6_7 | 8, _ => exact kk_6_8 | 9, _ => exact kk_6_9 | 10, _ => exact kk_6_10 | _ + 11, h => exact absurd h (by omega)
      | 7, _ => match j, hj with | 0, _ => exact kk_7_0 | 1, _ => exact kk_7_1 | 2, _ => exact kk_7_2 | 3, _ => exact kk_7_3 | 4, _ => exact kk_7_4 | 5, _ => exact kk_7_5 | 6, _ => exact kk_7_6 | 7, _ => exact kk_7_7 | 8, _ => exact kk_7_8 | 9, _ => exact kk_7_9 | 10, _ => exact kk_7_10 | _ + 11, h => exact absurd h (by omega)
      | 8, _ => match j, hj with | 0, _ => exact kk_8_0 | 1, _ => exact kk_8_1 | 2, _ => exact kk_8_2 | 3, _ => exact kk_8_3 | 4, _ => exact kk_8_4 | 5, _ => exact kk_8_5 | 6, _ => exact kk_8_6 | 7, _ => exact kk_8_7 | 8, _ => exact kk_8_8 | 9, _ => exact kk_8_9 | 10, _ => exact kk_8_10 | _ + 11, h => exact absurd h (by omega)
      | 9, _ => match j, hj with | 0, _ => exact kk_9_0 | 1, _ => exact kk_9_1 | 2, _ => exact kk_9_2 | 3, _ => exact kk_9_3 | 4, _ => exact kk_9_4 | 5, _ => exact kk_9_5 | 6, _ => exact kk_9_6 | 7, _ => exact kk_9_7 | 8, _ => exact kk_9_8 | 9, _ => exact kk_9_9 | 10, _ => exact kk_9_10 | _ + 11, h => exact absurd h (by omega)
      | 10, _ => match j, hj with | 0, _ => exact kk_10_0 | 1, _ => exact kk_10_1 | 2, _ => exact kk_10_2 | 3, _ => exact kk_10_3 | 4, _ => exact kk_10_4 | 5, _ => exact kk_10_5 | 6, _ => exact kk_10_6 | 7, _ => exact kk_10_7 | 8, _ => exact kk_10_8 | 9, _ => exact kk_10_9 | 10, _ => exact kk_10_10 | _ + 11, h => exact absurd h (by omega)
      | _ + 11, h => exact absurd h (by omega)
  have C__law_bell : Cal l.prog w K mg base 1 "_law_bell" ["script"] (spSieve K) := ⟨_, _, ok_sieve F__law_bell T, m__law_bell, k__law_bell, b__law_bell⟩
  have C__law_toll : Cal l.prog w K mg base 1 "_law_toll" ["bell", "many"] (spSift) := ⟨_, _, ok_sift F__law_toll T, m__law_toll, k__law_toll, b__law_toll⟩
  have C__law_one : Cal l.prog w K mg base 2 "_law_one" ["bell", "some"] (spOne) := ⟨_, _, ok_one F__law_one T C__law_toll, m__law_one, k__law_one, b__law_one⟩
  have Z2 : Cal l.prog w K mg base 2 "_law_value" ["bell", "deep"] (spPrev 0) := ⟨_, _, fnOk_false F__law_value, m__law_value, k__law_value, b__law_value⟩
  have V0 : Cal l.prog w K mg base 3 "_law_value" ["bell", "deep"] (spVal 0) := ⟨_, _, ok_value (n := 0) F__law_value T (by decide) C__law_toll C__law_one Z2, m__law_value, k__law_value, b__law_value⟩
  have V1 : Cal l.prog w K mg base 4 "_law_value" ["bell", "deep"] (spVal 1) := ⟨_, _, ok_value (n := 1) F__law_value T (by decide) C__law_toll C__law_one V0, m__law_value, k__law_value, b__law_value⟩
  have C5 : Cal l.prog w K mg base 5 "_law_value" ["bell", "deep"] (spVal 2) := ⟨_, _, ok_value (n := 2) F__law_value T (by decide) C__law_toll C__law_one V1, m__law_value, k__law_value, b__law_value⟩
  have C__law_kinds : Cal l.prog w K mg base 1 "_law_kinds" ["error"] (spKinds (cAt [c_BadNumber, c_BadName, c_BadTongue, c_BadProgram, c_BadPuzzle, c_BadFactor, c_BadOrder, c_BadDealer, c_Misfit, c_TooMany, c_BadText, c_TickError])) := ⟨_, _, ok_kinds F__law_kinds T Q, m__law_kinds, k__law_kinds, b__law_kinds⟩
  have C__law_is_odd : Cal l.prog w K mg base 1 "_law_is_odd" ["error"] (spOdd (cAt [c_BadNumber, c_BadName, c_BadTongue, c_BadProgram, c_BadPuzzle, c_BadFactor, c_BadOrder, c_BadDealer, c_Misfit, c_TooMany, c_BadText, c_TickError])) := ⟨_, _, ok_odd F__law_is_odd T Q, m__law_is_odd, k__law_is_odd, b__law_is_odd⟩
  have X_BadNumber : Xcl l.prog w K mg base "BadNumber" (cAt [c_BadNumber, c_BadName, c_BadTongue, c_BadProgram, c_BadPuzzle, c_BadFactor, c_BadOrder, c_BadDealer, c_Misfit, c_TooMany, c_BadText, c_TickError] 0) 1 ["part"] (fun vs zs => vs ++ zs) (spI1 K "part") := ⟨E_BadNumber, M_BadNumber, f_BadNumber, _, _, _, _, ai_BadNumber, ti_BadNumber, ok_BadNumber F_BadNumber,
    Fun.kb2 F_BadNumber 2 [] (fun vs _ => vs) (fun r _ => r) (fun _ _ _ _ _ _ us ws h1 h2 => match us, h1, ws, h2 with | [_, _], _, [], _ => rfl), Fun.kb2 F_BadNumber 1 ["part"] (fun vs zs => vs ++ zs) (fun r z => paired_app r z) (fun _ _ _ _ _ _ us ws h1 h2 => match us, h1, ws, h2 with | [_], _, [_], _ => rfl)⟩
  have X_BadName : Xcl l.prog w K mg base "BadName" (cAt [c_BadNumber, c_BadName, c_BadTongue, c_BadProgram, c_BadPuzzle, c_BadFactor, c_BadOrder, c_BadDealer, c_Misfit, c_TooMany, c_BadText, c_TickError] 1) 1 ["part"] (fun vs zs => vs ++ zs) (spI1 K "part") := ⟨E_BadName, M_BadName, f_BadName, _, _, _, _, ai_BadName, ti_BadName, ok_BadName F_BadName,
    Fun.kb2 F_BadName 2 [] (fun vs _ => vs) (fun r _ => r) (fun _ _ _ _ _ _ us ws h1 h2 => match us, h1, ws, h2 with | [_, _], _, [], _ => rfl), Fun.kb2 F_BadName 1 ["part"] (fun vs zs => vs ++ zs) (fun r z => paired_app r z) (fun _ _ _ _ _ _ us ws h1 h2 => match us, h1, ws, h2 with | [_], _, [_], _ => rfl)⟩
  have X_BadTongue : Xcl l.prog w K mg base "BadTongue" (cAt [c_BadNumber, c_BadName, c_BadTongue, c_BadProgram, c_BadPuzzle, c_BadFactor, c_BadOrder, c_BadDealer, c_Misfit, c_TooMany, c_BadText, c_TickError] 2) 1 ["part"] (fun vs zs => vs ++ zs) (spI1 K "part") := ⟨E_BadTongue, M_BadTongue, f_BadTongue, _, _, _, _, ai_BadTongue, ti_BadTongue, ok_BadTongue F_BadTongue,
    Fun.kb2 F_BadTongue 2 [] (fun vs _ => vs) (fun r _ => r) (fun _ _ _ _ _ _ us ws h1 h2 => match us, h1, ws, h2 with | [_, _], _, [], _ => rfl), Fun.kb2 F_BadTongue 1 ["part"] (fun vs zs => vs ++ zs) (fun r z => paired_app r z) (fun _ _ _ _ _ _ us ws h1 h2 => match us, h1, ws, h2 with | [_], _, [_], _ => rfl)⟩
  have X_BadProgram : Xcl l.prog w K mg base "BadProgram" (cAt [c_BadNumber, c_BadName, c_BadTongue, c_BadProgram, c_BadPuzzle, c_BadFactor, c_BadOrder, c_BadDealer, c_Misfit, c_TooMany, c_BadText, c_TickError] 3) 1 ["part"] (fun vs zs => vs ++ zs) (spI1 K "part") := ⟨E_BadProgram, M_BadProgram, f_BadProgram, _, _, _, _, ai_BadProgram, ti_BadProgram, ok_BadProgram F_BadProgram,
    Fun.kb2 F_BadProgram 2 [] (fun vs _ => vs) (fun r _ => r) (fun _ _ _ _ _ _ us ws h1 h2 => match us, h1, ws, h2 with | [_, _], _, [], _ => rfl), Fun.kb2 F_BadProgram 1 ["part"] (fun vs zs => vs ++ zs) (fun r z => paired_app r z) (fun _ _ _ _ _ _ us ws h1 h2 => match us, h1, ws, h2 with | [_], _, [_], _ => rfl)⟩
  have X_BadPuzzle : Xcl l.prog w K mg base "BadPuzzle" (cAt [c_BadNumber, c_BadName, c_BadTongue, c_BadProgram, c_BadPuzzle, c_BadFactor, c_BadOrder, c_BadDealer, c_Misfit, c_TooMany, c_BadText, c_TickError] 4) 1 ["part"] (fun vs zs => vs ++ zs) (spI1 K "part") := ⟨E_BadPuzzle, M_BadPuzzle, f_BadPuzzle, _, _, _, _, ai_BadPuzzle, ti_BadPuzzle, ok_BadPuzzle F_BadPuzzle,
    Fun.kb2 F_BadPuzzle 2 [] (fun vs _ => vs) (fun r _ => r) (fun _ _ _ _ _ _ us ws h1 h2 => match us, h1, ws, h2 with | [_, _], _, [], _ => rfl), Fun.kb2 F_BadPuzzle 1 ["part"] (fun vs zs => vs ++ zs) (fun r z => paired_app r z) (fun _ _ _ _ _ _ us ws h1 h2 => match us, h1, ws, h2 with | [_], _, [_], _ => rfl)⟩
  have X_BadFactor : Xcl l.prog w K mg base "BadFactor" (cAt [c_BadNumber, c_BadName, c_BadTongue, c_BadProgram, c_BadPuzzle, c_BadFactor, c_BadOrder, c_BadDealer, c_Misfit, c_TooMany, c_BadText, c_TickError] 5) 1 ["part"] (fun vs zs => vs ++ zs) (spI1 K "part") := ⟨E_BadFactor, M_BadFactor, f_BadFactor, _, _, _, _, ai_BadFactor, ti_BadFactor, ok_BadFactor F_BadFactor,
    Fun.kb2 F_BadFactor 2 [] (fun vs _ => vs) (fun r _ => r) (fun _ _ _ _ _ _ us ws h1 h2 => match us, h1, ws, h2 with | [_, _], _, [], _ => rfl), Fun.kb2 F_BadFactor 1 ["part"] (fun vs zs => vs ++ zs) (fun r z => paired_app r z) (fun _ _ _ _ _ _ us ws h1 h2 => match us, h1, ws, h2 with | [_], _, [_], _ => rfl)⟩
  have X_BadOrder : Xcl l.prog w K mg base "BadOrder" (cAt [c_BadNumber, c_BadName, c_BadTongue, c_BadProgram, c_BadPuzzle, c_BadFactor, c_BadOrder, c_BadDealer, c_Misfit, c_TooMany, c_BadText, c_TickError] 6) 1 ["part"] (fun vs zs => vs ++ zs) (spI1 K "part") := ⟨E_BadOrder, M_BadOrder, f_BadOrder, _, _, _, _, ai_BadOrder, ti_BadOrder, ok_BadOrder F_BadOrder,
    Fun.kb2 F_BadOrder 2 [] (fun vs _ => vs) (fun r _ => r) (fun _ _ _ _ _ _ us ws h1 h2 => match us, h1, ws, h2 with | [_, _], _, [], _ => rfl), Fun.kb2 F_BadOrder 1 ["part"] (fun vs zs => vs ++ zs) (fun r z => paired_app r z) (fun _ _ _ _ _ _ us ws h1 h2 => match us, h1, ws, h2 with | [_], _, [_], _ => rfl)⟩
  have X_BadDealer : Xcl l.prog w K mg base "BadDealer" (cAt [c_BadNumber, c_BadName, c_BadTongue, c_BadProgram, c_BadPuzzle, c_BadFactor, c_BadOrder, c_BadDealer, c_Misfit, c_TooMany, c_BadText, c_TickError] 7) 1 ["part"] (fun vs zs => vs ++ zs) (spI1 K "part") := ⟨E_BadDealer, M_BadDealer, f_BadDealer, _, _, _, _, ai_BadDealer, ti_BadDealer, ok_BadDealer F_BadDealer,
    Fun.kb2 F_BadDealer 2 [] (fun vs _ => vs) (fun r _ => r) (fun _ _ _ _ _ _ us ws h1 h2 => match us, h1, ws, h2 with | [_, _], _, [], _ => rfl), Fun.kb2 F_BadDealer 1 ["part"] (fun vs zs => vs ++ zs) (fun r z => paired_app r z) (fun _ _ _ _ _ _ us ws h1 h2 => match us, h1, ws, h2 with | [_], _, [_], _ => rfl)⟩
  have X_Misfit : Xcl l.prog w K mg base "Misfit" (cAt [c_BadNumber, c_BadName, c_BadTongue, c_BadProgram, c_BadPuzzle, c_BadFactor, c_BadOrder, c_BadDealer, c_Misfit, c_TooMany, c_BadText, c_TickError] 8) 1 ["part"] (fun vs zs => vs ++ zs) (spI1 K "part") := ⟨E_Misfit, M_Misfit, f_Misfit, _, _, _, _, ai_Misfit, ti_Misfit, ok_Misfit F_Misfit,
    Fun.kb2 F_Misfit 2 [] (fun vs _ => vs) (fun r _ => r) (fun _ _ _ _ _ _ us ws h1 h2 => match us, h1, ws, h2 with | [_, _], _, [], _ => rfl), Fun.kb2 F_Misfit 1 ["part"] (fun vs zs => vs ++ zs) (fun r z => paired_app r z) (fun _ _ _ _ _ _ us ws h1 h2 => match us, h1, ws, h2 with | [_], _, [_], _ => rfl)⟩
  have X_TooMany : Xcl l.prog w K mg base "TooMany" (cAt [c_BadNumber, c_BadName, c_BadTongue, c_BadProgram, c_BadPuzzle, c_BadFactor, c_BadOrder, c_BadDealer, c_Misfit, c_TooMany, c_BadText, c_TickError] 9) 2 ["most", "what"] (fun vs zs => vs ++ zs.reverse) (spI2 K "what" "most") := ⟨E_TooMany, M_TooMany, f_TooMany, _, _, _, _, ai_TooMany, ti_TooMany, ok_TooMany F_TooMany,
    Fun.kb2 F_TooMany 3 [] (fun vs _ => vs) (fun r _ => r) (fun _ _ _ _ _ _ us ws h1 h2 => match us, h1, ws, h2 with | [_, _, _], _, [], _ => rfl), Fun.kb2 F_TooMany 1 ["most", "what"] (fun vs zs => vs ++ zs.reverse) (fun r z => paired_app r (vals_rev z)) (fun _ _ _ _ _ _ us ws h1 h2 => match us, h1, ws, h2 with | [_], _, [_, _], _ => rfl)⟩
  have X_BadText : Xcl l.prog w K mg base "BadText" (cAt [c_BadNumber, c_BadName, c_BadTongue, c_BadProgram, c_BadPuzzle, c_BadFactor, c_BadOrder, c_BadDealer, c_Misfit, c_TooMany, c_BadText, c_TickError] 10) 2 ["item", "line"] (fun vs zs => vs ++ zs.reverse) (spI2 K "line" "item") := ⟨E_BadText, M_BadText, f_BadText, _, _, _, _, ai_BadText, ti_BadText, ok_BadText F_BadText,
    Fun.kb2 F_BadText 3 [] (fun vs _ => vs) (fun r _ => r) (fun _ _ _ _ _ _ us ws h1 h2 => match us, h1, ws, h2 with | [_, _, _], _, [], _ => rfl), Fun.kb2 F_BadText 1 ["item", "line"] (fun vs zs => vs ++ zs.reverse) (fun r z => paired_app r (vals_rev z)) (fun _ _ _ _ _ _ us ws h1 h2 => match us, h1, ws, h2 with | [_], _, [_, _], _ => rfl)⟩
  exact ok_law F_law T Q X_BadNumber X_BadName X_BadTongue X_BadProgram X_BadPuzzle X_BadFactor X_BadOrder X_BadDealer X_Misfit X_TooMany X_BadText C__law_bell C5 C__law_kinds C__law_is_odd
theorem walk {l : PySem.W.OpenLaw} {q : Program} {loose : List Str} {XP : (Str → Option Value) → Heap → Prop} {YP : World → Heap → Prop} {d : DefRec} {K : Params → PySem.W.Frag} (hn : l.most = some 63) (hdf : d.params.defaults = [])
    (hY : ∀ (w : World) (h : Heap), YP w h → (K w.params).In h)
    (F : ∀ (w : World) (mg : Str → Option Value) (fa : Addr) (h : Heap), (K w.params).In h → h.Ns mainGlobals mg → mg d.name = some (.ref fa) →
      ∃ fd : FuncData, (∀ (s : Shared) (u : Value), BindsTo s fd ⟨[u], []⟩ [("script", u)]) ∧ ∀ base : Heap, (K w.params).In base → base.Ns mainGlobals mg → FnG l.prog w (K w.params) mg base CX0 6 fa fd ["script"] (spLaw (K w.params))) :
    PySem.W.WalkO q loose XP YP l.row.toRowW d [] (fun f vs => PySem.call f vs) :=
  Own.walk_ofG (n := 63) (k := 6) (x := "script") (sp := fun K => spLaw K) hn (by decide) hdf ⟨rfl, by decide, by decide⟩ hY F fun _ _ a ns hl hb _ hS => ⟨a, ns, rfl, hS, fun _ => rfl⟩
end K00

open PySem PySem.W PyProof.Rows in
set_option maxRecDepth 100000 in
set_option maxHeartbeats 0 in
theorem PySem.Challenge.cw_duetickers_k00_errors_of_the_package_holds : PySem.Challenge.rw_duetickers_k00_errors_of_the_package.Holds := by
  w_on; o_law; k_head; (case hw => w_witness2)
  k_fill
  refine K00.walk (l := PySem.Challenge.rw_duetickers_k00_errors_of_the_package) rfl rfl (fun w h Y => PySem.W.kIn_of Y) ?F
  case F =>
    intro w mg fa h KX G hmg
    refine' K00.all_mk KX G hmg ?a__law_bell ?l__law_bell ?c__law_bell ?k__law_bell ?a__law_toll ?l__law_toll ?c__law_toll ?k__law_toll ?a__law_one ?l__law_one ?c__law_one ?k__law_one ?a__law_value ?l__law_value ?c__law_value ?k__law_value ?a__law_kinds ?l__law_kinds ?c__law_kinds ?k__law_kinds ?a__law_is_odd ?l__law_is_odd ?c__law_is_odd ?k__law_is_odd ?a_law ?l_law ?c_law ?k_law ?z_int ?z_len ?z_abs ?z_range ?z_isinstance ?z_RuntimeError ?z_AttributeError ?z_TypeError ?z_ArithmeticError ?z_LookupError ?z_enumerate ?z_ValueError ?z_repr ?cg ?ct ?at_TickError ?at_BadNumber ?xL_BadNumber ?rv_BadNumber ?sa_BadNumber ?eC_BadNumber ?tC_BadNumber ?kC_BadNumber ?ga_BadNumber ?gg_BadNumber ?hd_BadNumber ?cA_BadNumber ?cm_BadNumber ?no_BadNumber_part ?ai_BadNumber ?ti_BadNumber ?li_BadNumber ?ci_BadNumber ?ki_BadNumber ?at_BadName ?xL_BadName ?rv_BadName ?sa_BadName ?eC_BadName ?tC_BadName ?kC_BadName ?ga_BadName ?gg_BadName ?hd_BadName ?cA_BadName ?cm_BadName ?no_BadName_part ?ai_BadName ?ti_BadName ?li_BadName ?ci_BadName ?ki_BadName ?at_BadTongue ?xL_BadTongue ?rv_BadTongue ?sa_BadTongue ?eC_BadTongue ?tC_BadTongue ?kC_BadTongue ?ga_BadTongue ?gg_BadTongue ?hd_BadTongue ?cA_BadTongue ?cm_BadTongue ?no_BadTongue_part ?ai_BadTongue ?ti_BadTongue ?li_BadTongue ?ci_BadTongue ?ki_BadTongue ?at_BadProgram ?xL_BadProgram ?rv_BadProgram ?sa_BadProgram ?eC_BadProgram ?tC_BadProgram ?kC_BadProgram ?ga_BadProgram ?gg_BadProgram ?hd_BadProgram ?cA_BadProgram ?cm_BadProgram ?no_BadProgram_part ?ai_BadProgram ?ti_BadProgram ?li_BadProgram ?ci_BadProgram ?ki_BadProgram ?at_BadPuzzle ?xL_BadPuzzle ?rv_BadPuzzle ?sa_BadPuzzle ?eC_BadPuzzle ?tC_BadPuzzle ?kC_BadPuzzle ?ga_BadPuzzle ?gg_BadPuzzle ?hd_BadPuzzle ?cA_BadPuzzle ?cm_BadPuzzle ?no_BadPuzzle_part ?ai_BadPuzzle ?ti_BadPuzzle ?li_BadPuzzle ?ci_BadPuzzle ?ki_BadPuzzle ?at_BadFactor ?xL_BadFactor ?rv_BadFactor ?sa_BadFactor ?eC_BadFactor ?tC_BadFactor ?kC_BadFactor ?ga_BadFactor ?gg_BadFactor ?hd_BadFactor ?cA_BadFactor ?cm_BadFactor ?no_BadFactor_part ?ai_BadFactor ?ti_BadFactor ?li_BadFactor ?ci_BadFactor ?ki_BadFactor ?at_BadOrder ?xL_BadOrder ?rv_BadOrder ?sa_BadOrder ?eC_BadOrder ?tC_BadOrder ?kC_BadOrder ?ga_BadOrder ?gg_BadOrder ?hd_BadOrder ?cA_BadOrder ?cm_BadOrder ?no_BadOrder_part ?ai_BadOrder ?ti_BadOrder ?li_BadOrder ?ci_BadOrder ?ki_BadOrder ?at_BadDealer ?xL_BadDealer ?rv_BadDealer ?sa_BadDealer ?eC_BadDealer ?tC_BadDealer ?kC_BadDealer ?ga_BadDealer ?gg_BadDealer ?hd_BadDealer ?cA_BadDealer ?cm_BadDealer ?no_BadDealer_part ?ai_BadDealer ?ti_BadDealer ?li_BadDealer ?ci_BadDealer ?ki_BadDealer ?at_Misfit ?xL_Misfit ?rv_Misfit ?sa_Misfit ?eC_Misfit ?tC_Misfit ?kC_Misfit ?ga_Misfit ?gg_Misfit ?hd_Misfit ?cA_Misfit ?cm_Misfit ?no_Misfit_part ?ai_Misfit ?ti_Misfit ?li_Misfit ?ci_Misfit ?ki_Misfit ?at_TooMany ?xL_TooMany ?rv_TooMany ?sa_TooMany ?eC_TooMany ?tC_TooMany ?kC_TooMany ?ga_TooMany ?gg_TooMany ?hd_TooMany ?cA_TooMany ?cm_TooMany ?no_TooMany_what ?no_TooMany_most ?ai_TooMany ?ti_TooMany ?li_TooMany ?ci_TooMany ?ki_TooMany ?at_BadText ?xL_BadText ?rv_BadText ?sa_BadText ?eC_BadText ?tC_BadText ?kC_BadText ?ga_BadText ?gg_BadText ?hd_BadText ?cA_BadText ?cm_BadText ?no_BadText_line ?no_BadText_item ?ai_BadText ?ti_BadText ?li_BadText ?ci_BadText ?ki_BadText ?kt_0 ?kv_0 ?ko_0_0 ?ko_0_1 ?ko_0_2 ?ko_0_3 ?ko_0_4 ?kk_0_0 ?kk_0_1 ?kk_0_2 ?kk_0_3 ?kk_0_4 ?kk_0_5 ?kk_0_6 ?kk_0_7 ?kk_0_8 ?kk_0_9 ?kk_0_10 ?kt_1 ?kv_1 ?ko_1_0 ?ko_1_1 ?ko_1_2 ?ko_1_3 ?ko_1_4 ?kk_1_0 ?kk_1_1 ?kk_1_2 ?kk_1_3 ?kk_1_4 ?kk_1_5 ?kk_1_6 ?kk_1_7 ?kk_1_8 ?kk_1_9 ?kk_1_10 ?kt_2 ?kv_2 ?ko_2_0 ?ko_2_1 ?ko_2_2 ?ko_2_3 ?ko_2_4 ?kk_2_0 ?kk_2_1 ?kk_2_2 ?kk_2_3 ?kk_2_4 ?kk_2_5 ?kk_2_6 ?kk_2_7 ?kk_2_8 ?kk_2_9 ?kk_2_10 ?kt_3 ?kv_3 ?ko_3_0 ?ko_3_1 ?ko_3_2 ?ko_3_3 ?ko_3_4 ?kk_3_0 ?kk_3_1 ?kk_3_2 ?kk_3_3 ?kk_3_4 ?kk_3_5 ?kk_3_6 ?kk_3_7 ?kk_3_8 ?kk_3_9 ?kk_3_10 ?kt_4 ?kv_4 ?ko_4_0 ?ko_4_1 ?ko_4_2 ?ko_4_3 ?ko_4_4 ?kk_4_0 ?kk_4_1 ?kk_4_2 ?kk_4_3 ?kk_4_4 ?kk_4_5 ?kk_4_6 ?kk_4_7 ?kk_4_8 ?kk_4_9 ?kk_4_10 ?kt_5 ?kv_5 ?ko_5_0 ?ko_5_1 ?ko_5_2 ?ko_5_3 ?ko_5_4 ?kk_5_0 ?kk_5_1 ?kk_5_2 ?kk_5_3 ?kk_5_4 ?kk_5_5 ?kk_5_6 ?kk_5_7 ?kk_5_8 ?kk_5_9 ?kk_5_10 ?kt_6 ?kv_6 ?ko_6_0 ?ko_6_1 ?ko_6_2 ?ko_6_3 ?ko_6_4 ?kk_6_0 ?kk_6_1 ?kk_6_2 ?kk_6_3 ?kk_6_4 ?kk_6_5 ?kk_6_6 ?kk_6_7 ?kk_6_8 ?kk_6_9 ?kk_6_10 ?kt_7 ?kv_7 ?ko_7_0 ?ko_7_1 ?ko_7_2 ?ko_7_3 ?ko_7_4 ?kk_7_0 ?kk_7_1 ?kk_7_2 ?kk_7_3 ?kk_7_4 ?kk_7_5 ?kk_7_6 ?kk_7_7 ?kk_7_8 ?kk_7_9 ?kk_7_10 ?kt_8 ?kv_8 ?ko_8_0 ?ko_8_1 ?ko_8_2 ?ko_8_3 ?ko_8_4 ?kk_8_0 ?kk_8_1 ?kk_8_2 ?kk_8_3 ?kk_8_4 ?kk_8_5 ?kk_8_6 ?kk_8_7 ?kk_8_8 ?kk_8_9 ?kk_8_10 ?kt_9 ?kv_9 ?ko_9_0 ?ko_9_1 ?ko_9_2 ?ko_9_3 ?ko_9_4 ?kk_9_0 ?kk_9_1 ?kk_9_2 ?kk_9_3 ?kk_9_4 ?kk_9_5 ?kk_9_6 ?kk_9_7 ?kk_9_8 ?kk_9_9 ?kk_9_10 ?kt_10 ?kv_10 ?ko_10_0 ?ko_10_1 ?ko_10_2 ?ko_10_3 ?ko_10_4 ?kk_10_0 ?kk_10_1 ?kk_10_2 ?kk_10_3 ?kk_10_4 ?kk_10_5 ?kk_10_6 ?kk_10_7 ?kk_10_8 ?kk_10_9 ?kk_10_10
    (case a__law_bell => k_is)
    (case l__law_bell => k_is)
    (case c__law_bell => k_is)
    (case k__law_bell => k_is)
    (case a__law_toll => k_is)
    (case l__law_toll => k_is)
    (case c__law_toll => k_is)
    (case k__law_toll => k_is)
    (case a__law_one => k_is)
    (case l__law_one => k_is)
    (case c__law_one => k_is)
    (case k__law_one => k_is)
    (case a__law_value => k_is)
    (case l__law_value => k_is)
    (case c__law_value => k_is)
    (case k__law_value => k_is)
    (case a__law_kinds => k_is)
    (case l__law_kinds => k_is)
    (case c__law_kinds => k_is)
    (case k__law_kinds => k_is)
    (case a__law_is_odd => k_is)
    (case l__law_is_odd => k_is)
    (case c__law_is_odd => k_is)
    (case k__law_is_odd => k_is)
    (case a_law => k_is)
    (case l_law => k_is)
    (case c_law => k_is)
    (case k_law => k_is)
    (case z_int => k_is)
    (case z_len => k_is)
    (case z_abs => k_is)
    (case z_range => k_is)
    (case z_isinstance => k_is)
    (case z_RuntimeError => k_is)
    (case z_AttributeError => k_is)
    (case z_TypeError => k_is)
    (case z_ArithmeticError => k_is)
    (case z_LookupError => k_is)
    (case z_enumerate => k_is)
    (case z_ValueError => k_is)
    (case z_repr => k_is)
    (case cg => k_is)
    (case ct => k_is)
    (case at_TickError => k_is)
    (case at_BadNumber => k_is)
    (case xL_BadNumber => k_is)
    (case rv_BadNumber => first | decide +kernel | rfl)
    (case sa_BadNumber => k_is)
    (case eC_BadNumber => k_is)
    (case tC_BadNumber => k_is)
    (case kC_BadNumber => k_is)
    (case ga_BadNumber => k_is)
    (case gg_BadNumber => k_is)
    (case hd_BadNumber => k_is)
    (case cA_BadNumber => k_is)
    (case cm_BadNumber => k_is)
    (case no_BadNumber_part => k_is)
    (case ai_BadNumber => k_is)
    (case ti_BadNumber => k_is)
    (case li_BadNumber => k_is)
    (case ci_BadNumber => k_is)
    (case ki_BadNumber => k_is)
    (case at_BadName => k_is)
    (case xL_BadName => k_is)
    (case rv_BadName => first | decide +kernel | rfl)
    (case sa_BadName => k_is)
    (case eC_BadName => k_is)
    (case tC_BadName => k_is)
    (case kC_BadName => k_is)
    (case ga_BadName => k_is)
    (case gg_BadName => k_is)
    (case hd_BadName => k_is)
    (case cA_BadName => k_is)
    (case cm_BadName => k_is)
    (case no_BadName_part => k_is)
    (case ai_BadName => k_is)
    (case ti_BadName => k_is)
    (case li_BadName => k_is)
    (case ci_BadName => k_is)
    (case ki_BadName => k_is)
    (case at_BadTongue => k_is)
    (case xL_BadTongue => k_is)
    (case rv_BadTongue => first | decide +kernel | rfl)
    (case sa_BadTongue => k_is)
    (case eC_BadTongue => k_is)
    (case tC_BadTongue => k_is)
    (case kC_BadTongue => k_is)
    (case ga_BadTongue => k_is)
    (case gg_BadTongue => k_is)
    (case hd_BadTongue => k_is)
    (case cA_BadTongue => k_is)
    (case cm_BadTongue => k_is)
    (case no_BadTongue_part => k_is)
    (case ai_BadTongue => k_is)
    (case ti_BadTongue => k_is)
    (case li_BadTongue => k_is)
    (case ci_BadTongue => k_is)
    (case ki_BadTongue => k_is)
    (case at_BadProgram => k_is)
    (case xL_BadProgram => k_is)
    (case rv_BadProgram => first | decide +kernel | rfl)
    (case sa_BadProgram => k_is)
    (case eC_BadProgram => k_is)
    (case tC_BadProgram => k_is)
    (case kC_BadProgram => k_is)
    (case ga_BadProgram => k_is)
    (case gg_BadProgram => k_is)
    (case hd_BadProgram => k_is)
    (case cA_BadProgram => k_is)
    (case cm_BadProgram => k_is)
    (case no_BadProgram_part => k_is)
    (case ai_BadProgram => k_is)
    (case ti_BadProgram => k_is)
    (case li_BadProgram => k_is)
    (case ci_BadProgram => k_is)
    (case ki_BadProgram => k_is)
    (case at_BadPuzzle => k_is)
    (case xL_BadPuzzle => k_is)
    (case rv_BadPuzzle => first | decide +kernel | rfl)
    (case sa_BadPuzzle => k_is)
    (case eC_BadPuzzle => k_is)
    (case tC_BadPuzzle => k_is)
    (case kC_BadPuzzle => k_is)
    (case ga_BadPuzzle => k_is)
    (case gg_BadPuzzle => k_is)
    (case hd_BadPuzzle => k_is)
    (case cA_BadPuzzle => k_is)
    (case cm_BadPuzzle => k_is)
    (case no_BadPuzzle_part => k_is)
    (case ai_BadPuzzle => k_is)
    (case ti_BadPuzzle => k_is)
    (case li_BadPuzzle => k_is)
    (case ci_BadPuzzle => k_is)
    (case ki_BadPuzzle => k_is)
    (case at_BadFactor => k_is)
    (case xL_BadFactor => k_is)
    (case rv_BadFactor => first | decide +kernel | rfl)
    (case sa_BadFactor => k_is)
    (case eC_BadFactor => k_is)
    (case tC_BadFactor => k_is)
    (case kC_BadFactor => k_is)
    (case ga_BadFactor => k_is)
    (case gg_BadFactor => k_is)
    (case hd_BadFactor => k_is)
    (case cA_BadFactor => k_is)
    (case cm_BadFactor => k_is)
    (case no_BadFactor_part => k_is)
    (case ai_BadFactor => k_is)
    (case ti_BadFactor => k_is)
    (case li_BadFactor => k_is)
    (case ci_BadFactor => k_is)
    (case ki_BadFactor => k_is)
    (case at_BadOrder => k_is)
    (case xL_BadOrder => k_is)
    (case rv_BadOrder => first | decide +kernel | rfl)
    (case sa_BadOrder => k_is)
    (case eC_BadOrder => k_is)
    (case tC_BadOrder => k_is)
    (case kC_BadOrder => k_is)
    (case ga_BadOrder => k_is)
    (case gg_BadOrder => k_is)
    (case hd_BadOrder => k_is)
    (case cA_BadOrder => k_is)
    (case cm_BadOrder => k_is)
    (case no_BadOrder_part => k_is)
    (case ai_BadOrder => k_is)
    (case ti_BadOrder => k_is)
    (case li_BadOrder => k_is)
    (case ci_BadOrder => k_is)
    (case ki_BadOrder => k_is)
    (case at_BadDealer => k_is)
    (case xL_BadDealer => k_is)
    (case rv_BadDealer => first | decide +kernel | rfl)
    (case sa_BadDealer => k_is)
    (case eC_BadDealer => k_is)
    (case tC_BadDealer => k_is)
    (case kC_BadDealer => k_is)
    (case ga_BadDealer => k_is)
    (case gg_BadDealer => k_is)
    (case hd_BadDealer => k_is)
    (case cA_BadDealer => k_is)
    (case cm_BadDealer => k_is)
    (case no_BadDealer_part => k_is)
    (case ai_BadDealer => k_is)
    (case ti_BadDealer => k_is)
    (case li_BadDealer => k_is)
    (case ci_BadDealer => k_is)
    (case ki_BadDealer => k_is)
    (case at_Misfit => k_is)
    (case xL_Misfit => k_is)
    (case rv_Misfit => first | decide +kernel | rfl)
    (case sa_Misfit => k_is)
    (case eC_Misfit => k_is)
    (case tC_Misfit => k_is)
    (case kC_Misfit => k_is)
    (case ga_Misfit => k_is)
    (case gg_Misfit => k_is)
    (case hd_Misfit => k_is)
    (case cA_Misfit => k_is)
    (case cm_Misfit => k_is)
    (case no_Misfit_part => k_is)
    (case ai_Misfit => k_is)
    (case ti_Misfit => k_is)
    (case li_Misfit => k_is)
    (case ci_Misfit => k_is)
    (case ki_Misfit => k_is)
    (case at_TooMany => k_is)
    (case xL_TooMany => k_is)
    (case rv_TooMany => first | decide +kernel | rfl)
    (case sa_TooMany => k_is)
    (case eC_TooMany => k_is)
    (case tC_TooMany => k_is)
    (case kC_TooMany => k_is)
    (case ga_TooMany => k_is)
    (case gg_TooMany => k_is)
    (case hd_TooMany => k_is)
    (case cA_TooMany => k_is)
    (case cm_TooMany => k_is)
    (case no_TooMany_what => k_is)
    (case no_TooMany_most => k_is)
    (case ai_TooMany => k_is)
    (case ti_TooMany => k_is)
    (case li_TooMany => k_is)
    (case ci_TooMany => k_is)
    (case ki_TooMany => k_is)
    (case at_BadText => k_is)
    (case xL_BadText => k_is)
    (case rv_BadText => first | decide +kernel | rfl)
    (case sa_BadText => k_is)
    (case eC_BadText => k_is)
    (case tC_BadText => k_is)
    (case kC_BadText => k_is)
    (case ga_BadText => k_is)
    (case gg_BadText => k_is)
    (case hd_BadText => k_is)
    (case cA_BadText => k_is)
    (case cm_BadText => k_is)
    (case no_BadText_line => k_is)
    (case no_BadText_item => k_is)
    (case ai_BadText => k_is)
    (case ti_BadText => k_is)
    (case li_BadText => k_is)
    (case ci_BadText => k_is)
    (case ki_BadText => k_is)
    (case kt_0 => kit_is)
    (case kv_0 => kit_is)
    (case ko_0_0 => kit_is)
    (case ko_0_1 => kit_is)
    (case ko_0_2 => kit_is)
    (case ko_0_3 => kit_is)
    (case ko_0_4 => kit_is)
    (case kk_0_0 => kit_is)
    (case kk_0_1 => kit_is)
    (case kk_0_2 => kit_is)
    (case kk_0_3 => kit_is)
    (case kk_0_4 => kit_is)
    (case kk_0_5 => kit_is)
    (case kk_0_6 => kit_is)
    (case kk_0_7 => kit_is)
    (case kk_0_8 => kit_is)
    (case kk_0_9 => kit_is)
    (case kk_0_10 => kit_is)
    (case kt_1 => kit_is)
    (case kv_1 => kit_is)
    (case ko_1_0 => kit_is)
    (case ko_1_1 => kit_is)
    (case ko_1_2 => kit_is)
    (case ko_1_3 => kit_is)
    (case ko_1_4 => kit_is)
    (case kk_1_0 => kit_is)
    (case kk_1_1 => kit_is)
    (case kk_1_2 => kit_is)
    (case kk_1_3 => kit_is)
    (case kk_1_4 => kit_is)
    (case kk_1_5 => kit_is)
    (case kk_1_6 => kit_is)
    (case kk_1_7 => kit_is)
    (case kk_1_8 => kit_is)
    (case kk_1_9 => kit_is)
    (case kk_1_10 => kit_is)
    (case kt_2 => kit_is)
    (case kv_2 => kit_is)
    (case ko_2_0 => kit_is)
    (case ko_2_1 => kit_is)
    (case ko_2_2 => kit_is)
    (case ko_2_3 => kit_is)
    (case ko_2_4 => kit_is)
    (case kk_2_0 => kit_is)
    (case kk_2_1 => kit_is)
    (case kk_2_2 => kit_is)
    (case kk_2_3 => kit_is)
    (case kk_2_4 => kit_is)
    (case kk_2_5 => kit_is)
    (case kk_2_6 => kit_is)
    (case kk_2_7 => kit_is)
    (case kk_2_8 => kit_is)
    (case kk_2_9 => kit_is)
    (case kk_2_10 => kit_is)
    (case kt_3 => kit_is)
    (case kv_3 => kit_is)
    (case ko_3_0 => kit_is)
    (case ko_3_1 => kit_is)
    (case ko_3_2 => kit_is)
    (case ko_3_3 => kit_is)
    (case ko_3_4 => kit_is)
    (case kk_3_0 => kit_is)
    (case kk_3_1 => kit_is)
    (case kk_3_2 => kit_is)
    (case kk_3_3 => kit_is)
    (case kk_3_4 => kit_is)
    (case kk_3_5 => kit_is)
    (case kk_3_6 => kit_is)
    (case kk_3_7 => kit_is)
    (case kk_3_8 => kit_is)
    (case kk_3_9 => kit_is)
    (case kk_3_10 => kit_is)
    (case kt_4 => kit_is)
    (case kv_4 => kit_is)
    (case ko_4_0 => kit_is)
    (case ko_4_1 => kit_is)
    (case ko_4_2 => kit_is)
    (case ko_4_3 => kit_is)
    (case ko_4_4 => kit_is)
    (case kk_4_0 => kit_is)
    (case kk_4_1 => kit_is)
    (case kk_4_2 => kit_is)
    (case kk_4_3 => kit_is)
    (case kk_4_4 => kit_is)
    (case kk_4_5 => kit_is)
    (case kk_4_6 => kit_is)
    (case kk_4_7 => kit_is)
    (case kk_4_8 => kit_is)
    (case kk_4_9 => kit_is)
    (case kk_4_10 => kit_is)
    (case kt_5 => kit_is)
    (case kv_5 => kit_is)
    (case ko_5_0 => kit_is)
    (case ko_5_1 => kit_is)
    (case ko_5_2 => kit_is)
    (case ko_5_3 => kit_is)
    (case ko_5_4 => kit_is)
    (case kk_5_0 => kit_is)
    (case kk_5_1 => kit_is)
    (case kk_5_2 => kit_is)
    (case kk_5_3 => kit_is)
    (case kk_5_4 => kit_is)
    (case kk_5_5 => kit_is)
    (case kk_5_6 => kit_is)
    (case kk_5_7 => kit_is)
    (case kk_5_8 => kit_is)
    (case kk_5_9 => kit_is)
    (case kk_5_10 => kit_is)
    (case kt_6 => kit_is)
    (case kv_6 => kit_is)
    (case ko_6_0 => kit_is)
    (case ko_6_1 => kit_is)
    (case ko_6_2 => kit_is)
    (case ko_6_3 => kit_is)
    (case ko_6_4 => kit_is)
    (case kk_6_0 => kit_is)
    (case kk_6_1 => kit_is)
    (case kk_6_2 => kit_is)
    (case kk_6_3 => kit_is)
    (case kk_6_4 => kit_is)
    (case kk_6_5 => kit_is)
    (case kk_6_6 => kit_is)
    (case kk_6_7 => kit_is)
    (case kk_6_8 => kit_is)
    (case kk_6_9 => kit_is)
    (case kk_6_10 => kit_is)
    (case kt_7 => kit_is)
    (case kv_7 => kit_is)
    (case ko_7_0 => kit_is)
    (case ko_7_1 => kit_is)
    (case ko_7_2 => kit_is)
    (case ko_7_3 => kit_is)
    (case ko_7_4 => kit_is)
    (case kk_7_0 => kit_is)
    (case kk_7_1 => kit_is)
    (case kk_7_2 => kit_is)
    (case kk_7_3 => kit_is)
    (case kk_7_4 => kit_is)
    (case kk_7_5 => kit_is)
    (case kk_7_6 => kit_is)
    (case kk_7_7 => kit_is)
    (case kk_7_8 => kit_is)
    (case kk_7_9 => kit_is)
    (case kk_7_10 => kit_is)
    (case kt_8 => kit_is)
    (case kv_8 => kit_is)
    (case ko_8_0 => kit_is)
    (case ko_8_1 => kit_is)
    (case ko_8_2 => kit_is)
    (case ko_8_3 => kit_is)
    (case ko_8_4 => kit_is)
    (case kk_8_0 => kit_is)
    (case kk_8_1 => kit_is)
    (case kk_8_2 => kit_is)
    (case kk_8_3 => kit_is)
    (case kk_8_4 => kit_is)
    (case kk_8_5 => kit_is)
    (case kk_8_6 => kit_is)
    (case kk_8_7 => kit_is)
    (case kk_8_8 => kit_is)
    (case kk_8_9 => kit_is)
    (case kk_8_10 => kit_is)
    (case kt_9 => kit_is)
    (case kv_9 => kit_is)
    (case ko_9_0 => kit_is)
    (case ko_9_1 => kit_is)
    (case ko_9_2 => kit_is)
    (case ko_9_3 => kit_is)
    (case ko_9_4 => kit_is)
    (case kk_9_0 => kit_is)
    (case kk_9_1 => kit_is)
    (case kk_9_2 => kit_is)
    (case kk_9_3 => kit_is)
    (case kk_9_4 => kit_is)
    (case kk_9_5 => kit_is)
    (case kk_9_6 => kit_is)
    (case kk_9_7 => kit_is)
    (case kk_9_8 => kit_is)
    (case kk_9_9 => kit_is)
    (case kk_9_10 => kit_is)
    (case kt_10 => kit_is)
    (case kv_10 => kit_is)
    (case ko_10_0 => kit_is)
    (case ko_10_1 => kit_is)
    (case ko_10_2 => kit_is)
    (case ko_10_3 => kit_is)
    (case ko_10_4 => kit_is)
    (case kk_10_0 => kit_is)
    (case kk_10_1 => kit_is)
    (case kk_10_2 => kit_is)
    (case kk_10_3 => kit_is)
    (case kk_10_4 => kit_is)
    (case kk_10_5 => kit_is)
    (case kk_10_6 => kit_is)
    (case kk_10_7 => kit_is)
    (case kk_10_8 => kit_is)
    (case kk_10_9 => kit_is)
    (case kk_10_10 => kit_is)
