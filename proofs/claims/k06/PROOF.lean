import PyProof.Rows.All
import Wide.All
import OpenK.AllK
import Wide.FinOn
import HandS.Base
import HandS.Call
import HandS.List
import HandS.Comp
import HandS.Ends
import HandS.Dict
import HandS.Iter
import HandS.Text
import HandS.Words
import HandS.WordsList
import HandS.IsInst
import HandS.StrMore
import HandS.Defaults
import HandS.Codes
import HandS.EndBits
import KE.KExcIs
import HandS.Exc
import HandS.ExcInit
import HandS.Lambda
import HandS.EndTab
import HandS.WordsExc
import HandS.ExcOwn
import HandS.SortInts
import PyProof.TupleOfSeq
import HandS.Walk
import HandS.DictComp
import KE.GoesMore
import PyProof.ReprLen
import HandS.Style
import KE.KDflt
import KE.KNestM
import PySem.Challenge.RW_duetickers_k06_texts_cut_into_names
set_option Elab.async false
set_option linter.all false
set_option maxRecDepth 100000
set_option maxHeartbeats 4000000
/-! Rules of our own: repr of data, identity with a truth, a text times a number, calls where nothing guards. -/
namespace Own
open PySem PySem.Spec PyProof.Rows L2

/-! ### repr(x), x data of any depth -/
def rRepr (K : PySem.W.Frag) : List V → Hp → VK → Prop := fun xs H Q =>
  ∃ x d, xs = [x] ∧ Dp K H x d ∧ d.showable = true ∧ d.hasDict = false ∧ d.depth ≤ 60 ∧ d.shown.length ≤ sizeLine ∧ Q (.str d.shown) H
theorem call_repr {X : Cx} (hg : X.A.guards = some []) (hu : X.A.units + 64 < cLine) : CallR X (.builtin "repr") (rRepr X.K) := by
  intro pins s σ H xs us Q I r h
  obtain ⟨x, d, rfl, hd, hs, hn, hdep, hsz, q⟩ := h
  cases r with
  | cons rx rn =>
    rename_i v us'
    cases rn
    cases hd with
    | non =>
      cases (show v = Value.none from rx)
      exact P.repr_of_none ⟨.str _, H, I.tok _, ⟨_, rfl⟩, q⟩
    | bl b =>
      cases (show v = Value.bool b from rx)
      exact P.repr_of_bool ⟨.str _, H, I.tok _, ⟨_, by cases b <;> rfl⟩, q⟩
    | int i =>
      obtain ⟨t, rfl⟩ := (show ∃ t, v = Value.int i t from rx)
      exact P.repr_of_int (of_decide_eq_true (by simpa only [PyData.showable] using hs)) ⟨.str _, H, I.tok _, ⟨_, rfl⟩, q⟩
    | str z =>
      obtain ⟨t, rfl⟩ := (show ∃ t, v = Value.str z t from rx)
      exact P.repr_of_str ⟨.str _, H, I.tok _, ⟨_, rfl⟩, q⟩ hsz
    | @lst a ys ds hl ha =>
      cases (show v = Value.ref a from rx)
      obtain ⟨as, rd⟩ := Dp.reads I (.list ds) (.ref a) _ (.lst hl ha) rfl
      exact repr_of_reads' rd hs (fun z => by rw [hn] at z; cases z) hg (by omega) (fun _ _ e => e) (fun h' u tk k => ⟨.str _, H, I.kept k, ⟨_, rfl⟩, q⟩) hsz
    | @tup a ys ds hl ha =>
      cases (show v = Value.ref a from rx)
      obtain ⟨as, rd⟩ := Dp.reads I (.tuple ds) (.ref a) _ (.tup hl ha) rfl
      exact repr_of_reads' rd hs (fun z => by rw [hn] at z; cases z) hg (by omega) (fun _ _ e => e) (fun h' u tk k => ⟨.str _, H, I.kept k, ⟨_, rfl⟩, q⟩) hsz

/-! ### x is not True -/
theorem op_notTrue {X : Cx} : OpR X (compareOp .IsNot) (fun x y H Q => ∃ b : Bool, y = .bl b ∧ Q (.bl (!decide (x = .bl b))) H) := by
  intro pins s σ H x y v u Q I rx ry h
  obtain ⟨b, rfl, q⟩ := h
  cases (show u = Value.bool b from ry)
  by_cases e : x = V.bl b
  · subst e
    cases (show v = Value.bool b from rx)
    exact wpAny_isNot_self rfl ⟨.bl false, H, I, rfl, by simpa using q⟩
  · refine wpAny_isNot_other ?_ ?_ ⟨.bl true, H, I, rfl, by simpa [e] using q⟩
    · cases x <;> first
        | (cases rx; rfl)
        | (obtain ⟨t, rfl⟩ := rx; rfl)
    · rintro rfl
      cases x <;> first
        | (cases rx; done)
        | (obtain ⟨t, z⟩ := rx; cases z; done)
        | (cases rx; exact e rfl)

/-! ### a text times a number -/
theorem op_mulS {X : Cx} : OpR X (binaryOp .Mult) (fun x y H Q => ∃ z i, x = .str z ∧ y = .int i ∧ z.length ≤ 1 ∧ 0 ≤ i ∧ i ≤ 100000 ∧ Q (.str (Txt.mul z i)) H) := by
  intro pins s σ H x y v u Q I rx ry h
  obtain ⟨z, i, rfl, rfl, hz, h0, h1, q⟩ := h
  obtain ⟨t, rfl⟩ := rx
  obtain ⟨t2, rfl⟩ := ry
  refine SB.mul ⟨?_, ?_, ?_⟩ fun t' k => ⟨.str _, H, I.tok _, ⟨_, rfl⟩, q⟩
  · have a : ¬ i < -(2 ^ 63 : Int) := by omega
    have b : ¬ i ≥ 2 ^ 63 := by omega
    simp [a, b]
    omega
  · intro h2 _
    have : (2 : Int) ^ 63 - 1 = 9223372036854775807 := by decide
    rw [this]
    have c : (1 : Int) ≤ 9223372036854775807 / i := by
      apply Int.le_ediv_of_mul_le (by omega); omega
    omega
  · intro h2 _
    unfold Builtin.Str.tooLong
    have e := sizeLine_eq
    have : z.length * i.toNat ≤ 1 * i.toNat := Nat.mul_le_mul_right _ hz
    first
      | (simp only [decide_eq_false_iff_not]; omega)
      | (simp; omega)

/-! ### a def that is called where no walk over data is under way (no guard) -/
structure FnG (P : Program) (w : World) (K : PySem.W.Frag) (mg : Str → Option Value) (base : Heap) (CX : CXT) (k : Nat) (f : Addr) (fd : FuncData) (ps : List Str) (sp : Sp) : Prop where
  len : ∀ vs H Q E, sp vs H Q E → vs.length = ps.length
  run : ∀ (A : Around) (outer : List Env) (s : Shared) (H : Hp) (args : Args) (us : List Value) (vs : List V) (Q : VK) (E : XK),
    Room k A → A.guards = some [] → Env0 P w K mg base A outer s H → BindsTo s fd args (ps.zip us) → Vals vs us → sp vs H Q E →
    codeAny (model P w) A (.call (.ref f) args) (CR CX outer P w H s Q E) s

section
variable {P : Program} {w : World} {K : PySem.W.Frag} {mg : Str → Option Value} {base : Heap} {CX : CXT} {k : Nat} {f : Addr} {fd : FuncData} {ps : List Str} {sp : Sp}
theorem FnG.of (F : FnOk P w K mg base CX k f fd ps sp) : FnG P w K mg base CX k f fd ps sp :=
  ⟨F.len, fun A outer s H args us vs Q E hr _ => F.run A outer s H args us vs Q E hr⟩
/-- a def by its body, which knows that nothing guards -/
theorem Fun.okG {x qual : Str} {st : Stmt} {N : List Str} (F : Fun K x qual st f fd) (S : FnScope N ps (defScope st)) (len : ∀ vs H Q E, sp vs H Q E → vs.length = ps.length)
    (body : ∀ (cdv : Value) (A : Around) (outer : List Env) (s : Shared) (H : Hp) (vs : List V) (Q : VK) (E : XK), Room k (A.deeper (envOfC qual (defScope st) s.heap.objs.size f cdv)) →
      A.guards = some [] → sp vs H Q E → ∃ t, PSs (cxOf CX0 P w K mg base N qual (defScope st) f cdv A outer s H E).nox (defBody st) t ∧ t { nx := fun _ H' => Q .non H', rt := Q } (start N vs) H) :
    FnG P w K mg base CX0 (k + 1) f fd ps sp := by
  obtain ⟨oc, od, kV, doc, pm, an, cdv, ct, osl, rfl, lk, hcd⟩ := F.ex
  refine ⟨len, ?_⟩
  intro A outer s H args us vs Q E room gd e0 bnd rel want
  have size := len vs H Q E want
  have inK : K.In s.heap := e0.mod.kin.keeps fun b o z => And.left (e0.bs b o z)
  have room0 : s.heap.NoLimit := e0.mod.nolimit.keeps fun b o z => And.left (e0.bs b o z)
  have slots : ∀ y ∈ ps.zip us, (defScope st).names.lookup y.1 = some .local ∨ ((defScope st).names.lookup y.1 = some .cell ∧
      ((cellsFrom (s.heap.objs.size + 1) (defScope st).names []).lookup y.1).isSome = true) := by
    rintro ⟨n, v⟩ z
    refine (S.par n (List.of_mem_zip z).1).imp id fun c => ⟨c, ?_⟩
    exact PySem.W.cellsFrom_some _ _ _ (.inl c)
  refine codeAny_call_function room.depth (inK _ _ lk) rfl S.co S.gen rfl (PySem.W.codeRec_of inK hcd) (bnd _ _ _ _ ?_)
  refine wpAny_newFunctionEnv_cells S.kind slots ?_
  rintro env rfl s1 x
  refine ⟨room0.keeps x.toInCall.keep, codeAny_func ?_⟩
  obtain ⟨t, walk, say⟩ := body cdv A outer s H vs Q E (room.deeper _) gd want
  have I := inv_start (CX := CX0) (E := E) S room.hd e0 size rel x
  refine wpAny_mono (walk.nox.run [] s1 (start N vs) H _ I say) (fun r s' z => ?_) (fun _ _ z => z)
  have last : ∀ {τ : L2.St} {G : Hp} {v : V} {u : Value}, Inv (cxOf CX0 P w K mg base N qual (defScope st) f cdv A outer s H E) [] τ G s' →
      RelV v u → Q v G → CE outer P w H s Q u s' := fun J r q => ⟨_, _, J.os, J.bare, J.base, J.hok, r, q⟩
  match r, z with
  | .ret u, z =>
    obtain ⟨v, τ, G, J, r1, q⟩ := z
    exact last J r1 q
  | .next, z =>
    obtain ⟨τ, G, J, q⟩ := z
    exact last (v := .non) (u := .none) J rfl q
  | .brk, z =>
    obtain ⟨τ, G, J, q⟩ := z
    exact q.elim
  | .cont, z =>
    obtain ⟨τ, G, J, q⟩ := z
    exact q.elim
end
section
variable {X : Cx} {CX : CXT} {k : Nat} {f : Addr} {fd : FuncData} {ps : List Str} {sp : Sp} {dvs : List V} {ds : List Value} {E : XK} {x : Str} {p pos : Pos} {e : Expr} {es : List Expr} {t : TA}
theorem run_fnG {pins : List (Addr × Obj)} {σ : L2.St} {H : Hp} {s : Shared} {Q : VK} {us : List Value} {vs : List V} (F : FnG X.prog X.w X.K X.mg X.base CX k f fd ps sp) (room : Room k X.A) (gd : X.A.guards = some [])
    (hb : Binds X.K fd ps ds) (hd : Vals dvs ds) (hx : Passes CX X E) (I : Inv X pins σ H s) (r : Vals vs us) (h : sp (vs ++ dvs) H Q E) : wpAny (model X.prog X.w) X.A (call (.ref f) us) (EP X pins σ Q) X.xe s := by
  have rel := r.append hd
  have size : (us ++ ds).length = ps.length := rel.length.symm.trans (F.len _ _ _ _ h)
  refine wpAny_call (codeAny_mono (F.run X.A X.stack s H ⟨us, []⟩ _ _ Q E room gd I.env0 (hb s us I.kIn size) rel h) ?_)
  intro r s' z
  match r, z with
  | .error e, z => exact hx pins σ H s e s' I z
  | .ok (.ret u), z => exact I.after z
  | .ok .next, z => exact z.elim
  | .ok .brk, z => exact z.elim
  | .ok .cont, z => exact z.elim
theorem pe_callG (F : FnG X.prog X.w X.K X.mg X.base CX k f fd ps sp) (room : Room k X.A) (gd : X.A.guards = some []) (hg : Gl X x) (hm : X.mg x = some (.ref f)) (hk : PySem.W.keepIn X.K (.ref f) = true)
    (hb : Binds X.K fd ps ds) (hd : Vals dvs ds) (hx : Passes CX X E) (ha : PA X (e :: es) t) (hdb : (x == ("__debug__" : Str)) = false := by decide)
    (he : starEach (e :: es) X.env = (false, eval e X.env) :: starEach es X.env := by rfl) (hpl : (backTo pos (starEach es X.env)).any (·.1) = false := by rfl) :
    PE X (.Call (.Name x p) (e :: es) [] pos) (tCall sp dvs E t) := by
  constructor
  intro pins s σ H Q I h
  refine wpAny_Call_Name_kw (ld_glob I hg hm ?_ hdb)
  refine PySem.W.callWith_K (h₀ := X.base) I.ok.mod.kin hk (thn (ha.run pos pins s σ H _ I h) ?_) he hpl
  rintro us s1 ⟨vs, H1, I1, r, q⟩
  exact ⟨I1.kIn, run_fnG F room gd hb hd hx I1 r q⟩
end
end Own
namespace Own
open PySem PySem.Spec PyProof.Rows L2
/-! ### a def of the top, with all that its callers want -/
structure Cal (P : Program) (w : World) (K : PySem.W.Frag) (mg : Str → Option Value) (base : Heap) (k : Nat) (x : Str) (ps : List Str) (sp : Sp) : Prop where
  ex : ∃ f fd, FnOk P w K mg base CX0 k f fd ps sp ∧ mg x = some (.ref f) ∧ PySem.W.keepIn K (.ref f) = true ∧ Binds K fd ps []
structure CalG (P : Program) (w : World) (K : PySem.W.Frag) (mg : Str → Option Value) (base : Heap) (k : Nat) (x : Str) (ps : List Str) (sp : Sp) : Prop where
  ex : ∃ f fd, FnG P w K mg base CX0 k f fd ps sp ∧ mg x = some (.ref f) ∧ PySem.W.keepIn K (.ref f) = true ∧ Binds K fd ps []
/-- the same, called by keywords alone -/
structure CalK (P : Program) (w : World) (K : PySem.W.Frag) (mg : Str → Option Value) (base : Heap) (k : Nat) (x : Str) (ps ks : List Str) (gV : List V → List V) (sp : Sp) : Prop where
  ex : ∃ f fd g, FnOk P w K mg base CX0 k f fd ps sp ∧ mg x = some (.ref f) ∧ PySem.W.keepIn K (.ref f) = true ∧ KBn K fd ps 0 ks g (fun _ zs => gV zs)
section
variable {X : Cx} {k : Nat} {x : Str} {ps ks : List Str} {sp : Sp} {p pos : Pos} {e : Expr} {es : List Expr} {kws : List Keyword} {t tk : TA} {gV : List V → List V}
theorem pe_cal (C : Cal X.prog X.w X.K X.mg X.base k x ps sp) (room : Room k X.A) (ha : PA X (e :: es) t) (hg : Gl X x := by rfl) (hdb : (x == ("__debug__" : Str)) = false := by decide)
    (he : starEach (e :: es) X.env = (false, eval e X.env) :: starEach es X.env := by rfl) (hpl : (backTo pos (starEach es X.env)).any (·.1) = false := by rfl) :
    PE X (.Call (.Name x p) (e :: es) [] pos) (tCall sp [] E0 t) := by
  obtain ⟨f, fd, F, m, kp, b⟩ := C.ex
  exact pe_call F room hg m kp b .nil pass0 ha hdb he hpl
theorem pe_cal0 (C : Cal X.prog X.w X.K X.mg X.base k x ps sp) (room : Room k X.A) (hg : Gl X x := by rfl) (hdb : (x == ("__debug__" : Str)) = false := by decide) :
    PE X (.Call (.Name x p) [] [] pos) (tCall sp [] E0 tNil) := by
  obtain ⟨f, fd, F, m, kp, b⟩ := C.ex
  exact pe_call0 F room hg m kp b .nil pass0 hdb
theorem pe_calG (C : CalG X.prog X.w X.K X.mg X.base k x ps sp) (room : Room k X.A) (gd : X.A.guards = some []) (ha : PA X (e :: es) t) (hg : Gl X x := by rfl) (hdb : (x == ("__debug__" : Str)) = false := by decide)
    (he : starEach (e :: es) X.env = (false, eval e X.env) :: starEach es X.env := by rfl) (hpl : (backTo pos (starEach es X.env)).any (·.1) = false := by rfl) :
    PE X (.Call (.Name x p) (e :: es) [] pos) (tCall sp [] E0 t) := by
  obtain ⟨f, fd, F, m, kp, b⟩ := C.ex
  exact pe_callG F room gd hg m kp b .nil pass0 ha hdb he hpl
/-- f(k = v, ..) -/
def tKw (m : Nat) (sp : Sp) (gV : List V → List V) (tk : TA) : TE := fun σ H Q => tk σ H fun zs H2 => zs.length = m ∧ sp (gV zs) H2 Q E0
theorem pe_calK (C : CalK X.prog X.w X.K X.mg X.base k x ps ks gV sp) (room : Room k X.A) (hkw : PK X kws tk) (hg : Gl X x := by rfl) (hall : (backToKw pos (keywordEach kws X.env)).all (·.1.isSome) = true := by rfl)
    (hks : (backToKw pos (keywordEach kws X.env)).filterMap (·.1) = ks := by rfl) (hdb : (x == ("__debug__" : Str)) = false := by decide)
    (hpl : ((backTo pos (starEach [] X.env)).any (·.1) || (backToKw pos (keywordEach kws X.env)).any (·.1.isNone)) = false := by rfl) :
    PE X (.Call (.Name x p) [] kws pos) (tKw ks.length sp gV tk) := by
  obtain ⟨f, fd, g, F, m, kp, b⟩ := C.ex
  constructor
  intro pins s σ H Q I h
  refine wpAny_Call_Name_kw (ld_glob I hg m ?_ hdb)
  refine PySem.W.callWith_KW0 (h₀ := X.base) I.ok.mod.kin kp hall (thn (hkw.run pos pins s σ H _ I h) ?_) hpl
  rintro ws s2 ⟨zs, H2, I2, rz, l, q⟩
  refine ⟨I2.kIn, ?_⟩
  rw [hks]
  exact run_fnN (vs := []) (us := []) F room b pass0 I2 .nil rz rfl l q
end
theorem Fun.kb {K : PySem.W.Frag} {x qual : Str} {st : Stmt} {f : Addr} {fd : FuncData} {ps ks : List Str} (F : Fun K x qual st f fd) (g : {α : Type} → List α → List α)
    (rel : ∀ {zs : List V} {ws : List Value}, Vals zs ws → Vals (g zs) (g ws))
    (h : ∀ (kV doc pm : Value) (an : Option Addr) (cdv ct : Value) (ws : List Value), ws.length = ks.length → bindArgs (PySem.W.fnOf x qual (defArgs st) (defBody st) (defScope st) .none kV doc pm an cdv ct) ⟨[], ks.zip ws⟩ = pure (ps.zip (g ws))) :
    KBn K fd ps 0 ks (fun _ ws => g ws) (fun _ zs => g zs) := by
  obtain ⟨oc, od, kV, doc, pm, an, cdv, ct, osl, rfl, lk, hcd⟩ := F.ex
  refine ⟨fun s us ws _ l1 l2 => ?_, fun _ r => rel r⟩
  cases List.length_eq_zero_iff.mp l1
  exact .of_eq (h kV doc pm an cdv ct ws l2)
/-- a number that stands at the top -/
theorem pe_gi {X : Cx} {x : Str} {i : Int} {pos : Pos} (h : ∃ t, X.mg x = some (.int i t)) (hg : Gl X x := by rfl) (hd : (x == ("__debug__" : Str)) = false := by decide) : PE X (.Name x pos) (tC (.int i)) := by
  obtain ⟨t, e⟩ := h
  exact pe_glob hg e ⟨t, rfl⟩ hd
/-- a built-in class as a value -/
theorem pe_ty {X : Cx} {x : Str} {n : String} {pos : Pos} (hm : X.mg x = none) (hv : bootBuiltins x = some (.type n)) (hg : Gl X x := by rfl) (hn : x ≠ "__name__" := by decide) (hd : (x == ("__debug__" : Str)) = false := by decide) : PE X (.Name x pos) (tC (.ty n)) :=
  pe_bltn hg hm hv rfl hn hd
/-! ### heaps -/
theorem same_new {H : Hp} {p : Addr} {o : HO} (h : H p = none) : Same H (upd H p o) := fun b u e => by
  rw [upd_ne (ne_of_none e h)]
  exact e
theorem same_mut {H H' : Hp} {p : Addr} {o : HO} (s : Same H H') (h : H p = none) : Same H (upd H' p o) := fun b u e => by
  rw [upd_ne (ne_of_none e h)]
  exact s b u e
theorem take_map_succ {α β : Type} {xs : List α} {i : Nat} {x : α} (f : α → β) (h : xs[i]? = some x) : (xs.take (i + 1)).map f = (xs.take i).map f ++ [f x] := by
  rw [List.take_succ, h, List.map_append]
  rfl
/-! ### the drawing list [cells, turn, rest] -/
/-- all but p stays -/
def But (p : Addr) (H H' : Hp) : Prop := ∀ b o, b ≠ p → H b = some o → H' b = some o
theorem But.refl (p : Addr) (H : Hp) : But p H H := fun _ _ _ h => h
theorem But.trans {p : Addr} {H H1 H2 : Hp} (a : But p H H1) (b : But p H1 H2) : But p H H2 := fun c o n h => b c o n (a c o n h)
theorem Same.but {p : Addr} {H H' : Hp} (s : Same H H') : But p H H' := fun b o _ h => s b o h
theorem But.upd {p : Addr} {H H' : Hp} {o : HO} (b : But p H H') : But p H (upd H' p o) := fun c u n h => by
  rw [upd_ne n]
  exact b c u n h
theorem But.new {p q : Addr} {H H' : Hp} {o : HO} (b : But p H H') (h : H' q = none) : But p H (L2.upd H' q o) := fun c u n e => by
  have z := b c u n e
  rw [upd_ne (ne_of_none z h)]
  exact z
/-- the list at p: the cells at q, how often was drawn (n at most), what is left of a great cell -/
def Sv (p q : Addr) (cs : List Int) (n : Nat) (H : Hp) : Prop :=
  ∃ at_ rest : Int, H p = some (.lst [.ref q, .int at_, .int rest]) ∧ H q = some (.lst (cs.map V.int)) ∧ p ≠ q ∧ 0 ≤ at_ ∧ at_ ≤ n ∧ 0 ≤ rest
theorem Sv.mono {p q : Addr} {cs : List Int} {n m : Nat} {H : Hp} (h : Sv p q cs n H) (le : n ≤ m) : Sv p q cs m H := by
  obtain ⟨a, r, h1, h2, h3, h4, h5, h6⟩ := h
  exact ⟨a, r, h1, h2, h3, h4, by omega, h6⟩
theorem Sv.same {p q : Addr} {cs : List Int} {n : Nat} {H H' : Hp} (h : Sv p q cs n H) (s : Same H H') : Sv p q cs n H' := by
  obtain ⟨a, r, h1, h2, h3⟩ := h
  exact ⟨a, r, s _ _ h1, s _ _ h2, h3⟩
theorem dp_ints {K : PySem.W.Frag} {H : Hp} : ∀ cs : List Int, DpAll K H (cs.map V.int) (cs.map PyData.int)
  | [] => .nil
  | c :: cs => .cons (.int c) (dp_ints cs)
theorem lay_ints : ∀ cs : List Int, PyData.canLayAll0 (cs.map PyData.int) = true
  | [] => by simp [PyData.canLayAll0]
  | c :: cs => by simp [PyData.canLayAll0, PyData.canLay0, lay_ints cs]
theorem dep_ints : ∀ cs : List Int, PyData.depthAll (cs.map PyData.int) = 0
  | [] => by simp [PyData.depthAll]
  | c :: cs => by simp [PyData.depthAll, PyData.depth, dep_ints cs]
theorem shaped_ints (cs : List Int) : SeqAt.shaped (.list (cs.map PyData.int)) = true := by
  simp [SeqAt.shaped, PyData.canLay0, PyData.depth, lay_ints, dep_ints]
theorem shaped_nil : SeqAt.shaped (.list []) = true := by
  simp [SeqAt.shaped, PyData.canLay0, PyData.depth, PyData.canLayAll0, PyData.depthAll]
theorem eqv_nil (ds : List PyData) : PyData.eqv (.list ds) (.list []) = ds.isEmpty := by
  cases ds <;> simp [PyData.eqv, PyData.eqvAll]
theorem hu1 {k : Nat} {A : Around} (hr : Room k A) : A.units < cLine := by
  have := hr.un
  omega
theorem hu64 {k : Nat} {A : Around} (hr : Room k A) : A.units + 64 < cLine := by
  have := hr.un
  omega
def spSift : Sp := fun vs H Q _ => ∃ (p q : Addr) (cs : List Int) (n : Nat) (m : Int), vs = [.ref p, .int m] ∧ 0 < m ∧ m < 1073741824 ∧ n ≤ 100000 ∧ cs.length ≤ 1000 ∧ Sv p q cs n H ∧
  ∀ r H', 0 ≤ r → r < m → But p H H' → Sv p q cs (n + 1) H' → Q (.int r) H'
theorem mulb {x y a b : Int} (x0 : 0 ≤ x) (xa : x ≤ a) (y0 : 0 ≤ y) (yb : y ≤ b) : 0 ≤ x * y ∧ x * y ≤ a * b :=
  ⟨Int.mul_nonneg x0 y0, Int.mul_le_mul xa yb y0 (Int.le_trans x0 xa)⟩
theorem cpow_of {i j : Int} (h0 : 0 ≤ j) (h1 : j ≤ 1000000) (a : -(2 ^ 64) < i) (b : i < 2 ^ 64) : CPow i j := ⟨h0, h1, by omega⟩
/-- some[draw], some a list that stands apart -/
def spOne : Sp := fun vs H Q _ => ∃ (p q : Addr) (cs : List Int) (n : Nat) (s : Addr) (xs : List V), vs = [.ref p, .ref s] ∧ H s = some (.lst xs) ∧ s ≠ p ∧ 0 < xs.length ∧ xs.length ≤ 1000 ∧ n ≤ 100000 ∧ cs.length ≤ 1000 ∧ Sv p q cs n H ∧
  ∀ x H', x ∈ xs → But p H H' → Sv p q cs (n + 1) H' → Q x H'
def spSieve (K : PySem.W.Frag) : Sp := fun vs H Q _ => ∃ (a : Addr) (ns : List Int), vs = [.ref a] ∧ SqL K H a (ns.map V.int) ∧
  ∀ p q cs H', H p = none → Same H H' → cs.length ≤ 63 → Sv p q cs 0 H' → Q (.ref p) H'
theorem map_mem_cut {ns : List Int} {lo hi : Option Int} : ∃ cs : List Int, cutV (ns.map V.int) lo hi = cs.map V.int ∧ cs.length ≤ ns.length := by
  refine ⟨(ns.drop (HT.sIx (ns.map V.int).length 0 lo)).take (HT.sIx (ns.map V.int).length (ns.map V.int).length hi - HT.sIx (ns.map V.int).length 0 lo), ?_, ?_⟩
  · unfold cutV
    rw [← List.map_drop, ← List.map_take]
  · rw [List.length_take, List.length_drop]
    omega
theorem cut_len {ns : List Int} {k : Nat} : (cutV (ns.map V.int) none (some (k : Int))).length ≤ k := by
  unfold cutV
  rw [List.length_take]
  have : HT.sIx (ns.map V.int).length (ns.map V.int).length (some (k : Int)) ≤ k := by
    unfold HT.sIx
    simp only []
    split <;> omega
  omega
/-! ### what is drawn by an expression: from any heap in which n was drawn at most, a value of which R holds, m drawn at most -/
def Dr (p q : Addr) (cs : List Int) (te : TE) (σ : L2.St) (n m : Nat) (H : Hp) (R : Hp → V → Prop) : Prop :=
  ∀ H1, But p H H1 → Sv p q cs n H1 → ∀ Q : VK, (∀ v H2, But p H1 H2 → Sv p q cs m H2 → R H2 v → Q v H2) → te σ H1 Q
def DrA (p q : Addr) (cs : List Int) (ta : TA) (σ : L2.St) (n m : Nat) (H : Hp) (k : Nat) (R : Hp → V → Prop) : Prop :=
  ∀ H1, But p H H1 → Sv p q cs n H1 → ∀ Q : List V → Hp → Prop, (∀ vs H2, But p H1 H2 → Sv p q cs m H2 → vs.length = k → (∀ v ∈ vs, R H2 v) → Q vs H2) → ta σ H1 Q
def Stb (p : Addr) (R : Hp → V → Prop) : Prop := ∀ H H' v, But p H H' → R H v → R H' v
section
variable {p q : Addr} {cs : List Int} {te tr ta tb : TE} {ts : TA} {σ : L2.St} {n m l : Nat} {H : Hp} {k : Nat} {R Ra Rb : Hp → V → Prop}
theorem Dr.imp (h : Dr p q cs te σ n m H Ra) (f : ∀ H v, Ra H v → R H v) : Dr p q cs te σ n m H R := fun H1 b s Q q => h H1 b s Q fun v H2 b2 s2 r => q v H2 b2 s2 (f _ _ r)
theorem DrA.nil : DrA p q cs tNil σ n n H 0 R := fun H1 b s Q q => q [] H1 (But.refl _ _) s rfl (fun v hv => by cases hv)
theorem DrA.cons (st : Stb p R) (h : Dr p q cs te σ n m H R) (t : DrA p q cs ts σ m l H k R) : DrA p q cs (tCons te ts) σ n l H (k + 1) R := fun H1 b s Q q =>
  h H1 b s _ fun v H2 b2 s2 r => t H2 (b.trans b2) s2 _ fun vs H3 b3 s3 lv rs => q (v :: vs) H3 (b2.trans b3) s3 (by rw [List.length_cons, lv]) fun u hu => by
    rcases List.mem_cons.mp hu with e | e
    · subst e
      exact st _ _ _ b3 r
    · exact rs u e
theorem dr_c {v : V} (h : ∀ H1, But p H H1 → R H1 v) : Dr p q cs (tC v) σ n n H R := fun H1 b s Q q => q v H1 (But.refl _ _) s (h H1 b)
theorem dr_v {i : Nat} {v : V} (e : σ[i]? = some (some v)) (h : ∀ H1, But p H H1 → R H1 v) : Dr p q cs (tVar i) σ n n H R := fun H1 b s Q q => ⟨v, e, q v H1 (But.refl _ _) s (h H1 b)⟩
theorem sv_ne {H1 : Hp} {a : Addr} (s : Sv p q cs n H1) (h : H1 a = none) : a ≠ p := by
  obtain ⟨_, _, h1, _⟩ := s
  exact (ne_of_none h1 h).symm
theorem dr_lst (h : DrA p q cs ts σ n m H k Ra) (st : Stb p Ra) (hk : k ≤ 1000) (f : ∀ a xs H1, H1 a = some (.lst xs) → a ≠ p → xs.length = k → (∀ x ∈ xs, Ra H1 x) → R H1 (.ref a)) : Dr p q cs (tLst ts) σ n m H R := fun H1 b s Q q =>
  h H1 b s _ fun vs H2 b2 s2 lv rs => ⟨by rw [lv]; exact Nat.le_trans hk (by decide), fun a ha => q _ _ (b2.new ha) (s2.same (same_new ha)) (f a vs _ upd_same (sv_ne s2 ha) lv fun x hx => st _ _ _ (Same.but (same_new ha)) (rs x hx))⟩
theorem dr_tup (h : DrA p q cs ts σ n m H k Ra) (st : Stb p Ra) (hk : k ≤ 1000) (f : ∀ a xs H1, H1 a = some (.tup xs) → a ≠ p → xs.length = k → (∀ x ∈ xs, Ra H1 x) → R H1 (.ref a)) : Dr p q cs (tTup ts) σ n m H R := fun H1 b s Q q =>
  h H1 b s _ fun vs H2 b2 s2 lv rs => ⟨by rw [lv]; exact Nat.le_trans hk (by decide), fun a ha => q _ _ (b2.new ha) (s2.same (same_new ha)) (f a vs _ upd_same (sv_ne s2 ha) lv fun x hx => st _ _ _ (Same.but (same_new ha)) (rs x hx))⟩
theorem dr_op {r : R2} (st : Stb p Ra) (ha : Dr p q cs ta σ n m H Ra) (hb : Dr p q cs tb σ m l H Rb) (hr : ∀ x y H1, Ra H1 x → Rb H1 y → ∀ Q : VK, (∀ v, R H1 v → Q v H1) → r x y H1 Q) : Dr p q cs (tOp r ta tb) σ n l H R := fun H1 b s Q q =>
  ha H1 b s _ fun x H2 b2 s2 r1 => hb H2 (b.trans b2) s2 _ fun y H3 b3 s3 r2 => hr x y H3 (st _ _ _ b3 r1) r2 Q fun v rv => q v H3 (b2.trans b3) s3 rv
theorem dr_un {r : V → Hp → VK → Prop} (ha : Dr p q cs ta σ n m H Ra) (hr : ∀ x H1, Ra H1 x → ∀ Q : VK, (∀ v, R H1 v → Q v H1) → r x H1 Q) : Dr p q cs (tUn r ta) σ n m H R := fun H1 b s Q q =>
  ha H1 b s _ fun x H2 b2 s2 r1 => hr x H2 r1 Q fun v rv => q v H2 b2 s2 rv
theorem dr_cb {r : List V → Hp → VK → Prop} (ha : Dr p q cs ta σ n m H Ra) (hr : ∀ x H1, Ra H1 x → ∀ Q : VK, (∀ v, R H1 v → Q v H1) → r [x] H1 Q) : Dr p q cs (tCB r (tCons ta tNil)) σ n m H R := fun H1 b s Q q =>
  ha H1 b s _ fun x H2 b2 s2 r1 => hr x H2 r1 Q fun v rv => q v H2 b2 s2 rv
theorem dr_sift {tm : TE} {z : Int} {j : Nat} (e : σ[j]? = some (some (.ref p))) (hm : Dr p q cs tm σ n n H fun _ v => v = .int z) (h0 : 0 < z) (h1 : z < 1073741824) (hn : n ≤ 100000) (hc : cs.length ≤ 1000) :
    Dr p q cs (tCall spSift [] E0 (tCons (tVar j) (tCons tm tNil))) σ n (n + 1) H fun _ v => ∃ r, v = .int r ∧ 0 ≤ r ∧ r < z := fun H1 b s Q k =>
  ⟨_, e, hm H1 b s _ fun v H2 b2 s2 ev => by
    subst ev
    exact ⟨p, q, cs, n, z, rfl, h0, h1, hn, hc, s2, fun r H3 r0 r1 b3 s3 => k _ _ (b2.trans b3) s3 ⟨r, rfl, r0, r1⟩⟩⟩
theorem dr_one {tl : TE} {j : Nat} (e : σ[j]? = some (some (.ref p))) (hl : Dr p q cs tl σ n m H fun H1 v => ∃ a xs, v = .ref a ∧ H1 a = some (.lst xs) ∧ a ≠ p ∧ xs.length = k ∧ ∀ x ∈ xs, R H1 x) (st : Stb p R) (h0 : 0 < k) (h1 : k ≤ 1000) (hn : m ≤ 100000) (hc : cs.length ≤ 1000) :
    Dr p q cs (tCall spOne [] E0 (tCons (tVar j) (tCons tl tNil))) σ n (m + 1) H R := fun H1 b s Q f =>
  ⟨_, e, hl H1 b s _ fun v H2 b2 s2 ev => by
    obtain ⟨a, xs, rfl, ha, hap, hx, hr⟩ := ev
    exact ⟨p, q, cs, m, a, xs, rfl, ha, hap, by omega, by omega, hn, hc, s2, fun x H3 hx b3 s3 => f _ _ (b2.trans b3) s3 (st _ _ _ b3 (hr x hx))⟩⟩
/-- a list of such, as a value -/
theorem dr_lstR (h : DrA p q cs ts σ n m H k R) (st : Stb p R) (hk : k ≤ 1000) : Dr p q cs (tLst ts) σ n m H fun H1 v => ∃ a xs, v = .ref a ∧ H1 a = some (.lst xs) ∧ a ≠ p ∧ xs.length = k ∧ ∀ x ∈ xs, R H1 x :=
  dr_lst h st hk fun a xs H1 e n l r => ⟨a, xs, rfl, e, n, l, r⟩
theorem dr_set {u : TS} {D : Ends} {i : Nat} (h : Dr p q cs te σ n m H R) (s : Sv p q cs n H) (f : ∀ v H2, But p H H2 → Sv p q cs m H2 → R H2 v → u D (σ.set i (some v)) H2) : tSeq (tAsg te (gName i)) u D σ H :=
  h H (But.refl _ _) s _ f
theorem dr_ret {D : Ends} (h : Dr p q cs te σ n m H R) (s : Sv p q cs n H) (f : ∀ v H2, But p H H2 → Sv p q cs m H2 → R H2 v → D.rt v H2) : tRet te D σ H :=
  h H (But.refl _ _) s _ f
end
/-! ### a list against the empty one; what is walked, of one or another kind; the signs of a text -/
theorem op_eqNil {X : Cx} (hu : X.A.units < cLine) : OpR X (compareOp .Eq) (fun x y H Q => ∃ a b xs, x = .ref a ∧ y = .ref b ∧ H a = some (.lst xs) ∧ H b = some (.lst []) ∧ Q (.bl xs.isEmpty) H) := by
  intro pins s σ H x y v u Q I rx ry h
  obtain ⟨a, b, xs, rfl, rfl, ha, hb, q⟩ := h
  cases (show v = Value.ref a from rx)
  cases (show u = Value.ref b from ry)
  obtain ⟨its, rv, pa, _⟩ := I.list (SqL.of ha)
  obtain ⟨jts, rw_, pb, _⟩ := I.list (SqL.of hb)
  cases rw_
  have e := rv.length
  cases xs with
  | nil =>
    have e2 : its.toArray.size = ([] : List Value).toArray.size := by simpa using e.symm
    refine SeqAt.eq_listAt (e := fun _ => true) pa.isList pb.isList e2 hu (fun j h1 h2 => absurd h2 (by simp)) ?_
    refine ⟨.bl true, H, I, ?_, q⟩
    show Value.bool _ = Value.bool true
    congr 1
    simp
  | cons x xs =>
    refine SeqAt.eq_list_lengthsAt pa.isList pb.isList ?_ hu ⟨.bl false, H, I, rfl, q⟩
    have : its.length = xs.length + 1 := by rw [← e, List.length_cons]
    simp [this]
theorem pi_alt {X : Cx} {tg e : Expr} {w1 w2 : TI} (h1 : PI X tg e w1) (h2 : PI X tg e w2) : PI X tg e (fun σ H R => w1 σ H R ∨ w2 σ H R) :=
  ⟨fun pins s σ H R I h => h.elim (h1.run pins s σ H R I) (h2.run pins s σ H R I)⟩
theorem lc_str {z : Str} {g : TG} {tt : TT} {te : TE} {vs : List Nat} {σ : L2.St} {H1 : Hp} {D : Addr} {Qd : Hp → Prop} (Pv : Nat → Hp → Prop) (h0 : Pv 0 (upd H1 D (.lst [])))
    (hs : ∀ i c H, z.cps[i]? = some c → Pv i H → g (.str ⟨#[c]⟩) (wipe σ vs) H fun σ2 H2 => wipe σ2 vs = wipe σ vs ∧ tt σ2 H2 fun b H3 =>
      if b = true then te σ2 H3 fun y H4 => ∃ acc, H4 D = some (.lst acc) ∧ acc.length < sizeLine ∧ Pv (i + 1) (upd H4 D (.lst (acc ++ [y]))) else Pv (i + 1) H3) (hd : ∀ H, Pv z.cps.size H → Qd H) :
    ∃ W : Nat → Nat → Hp → Prop, (∃ m, W 0 m (upd H1 D (.lst []))) ∧ ∀ i m H, W i m H →
      ((Its z).stop i H ∧ Qd H) ∨ ((Its z).go i H ∧ ∃ Nx : Hp → Prop, (∀ H', Nx H' → ∃ m', m' < m ∧ W (i + 1) m' H') ∧ ∀ x H', (Its z).yld i H x H' → g x (wipe σ vs) H' fun σ2 H2 => wipe σ2 vs = wipe σ vs ∧ tt σ2 H2 fun b H3 =>
        if b = true then te σ2 H3 fun y H4 => ∃ acc, H4 D = some (.lst acc) ∧ acc.length < sizeLine ∧ Nx (upd H4 D (.lst (acc ++ [y]))) else Nx H3) := by
  refine ⟨fun i m H => m = z.cps.size - i ∧ i ≤ z.cps.size ∧ Pv i H, ⟨_, rfl, Nat.zero_le _, h0⟩, ?_⟩
  rintro i m H ⟨em, hi, pv_⟩
  subst em
  rcases Nat.lt_or_ge i z.cps.size with lt | ge
  · refine .inr ⟨lt, Pv (i + 1), fun H' pn => ⟨z.cps.size - (i + 1), by omega, rfl, lt, pn⟩, ?_⟩
    rintro x H' ⟨eH, c, hc, ex⟩
    subst eH
    subst ex
    exact hs i c _ hc pv_
  · have : i = z.cps.size := Nat.le_antisymm hi ge
    subst this
    exact .inl ⟨ge, hd _ pv_⟩
/-! ### a text of some signs alone -/
theorem str_empty {z : Str} : z = Str.ofString "" ↔ z.length = 0 := by
  constructor
  · intro h
    subst h
    decide
  · intro h
    obtain ⟨c⟩ := z
    have : c.size = 0 := h
    have e : c = #[] := Array.eq_empty_of_size_eq_zero this
    subst e
    rfl
theorem strip_none (goes : Nat → Bool) (z : Str) : decide (Txt.stripBy goes true true z = Str.ofString "") = z.cps.toList.all goes := by
  obtain ⟨l1, l2, l3⟩ := PyProof.Rows.lo_facts goes z
  obtain ⟨h1, h2, h3, h4⟩ := PyProof.Rows.hi_facts goes z _ l1
  rw [PyProof.Rows.stripBy_eq]
  generalize e1 : PySem.stripLo goes true z = lo at *
  generalize e2 : PySem.stripHi goes true z lo = hi at *
  have len : (Builtin.Str.strSub z lo hi).length = hi - lo := by
    simp only [Builtin.Str.strSub, Str.length, Array.size_extract]
    have : hi ≤ z.cps.size := h2
    omega
  have at_ : ∀ k, k < z.length → z.cps.getD k 0 ∈ z.cps.toList := fun k hk => by
    have hk' : k < z.cps.size := hk
    rw [Array.getD, dif_pos hk']
    exact Array.getElem_mem_toList hk'
  rw [Bool.eq_iff_iff, decide_eq_true_iff, str_empty, len, List.all_eq_true]
  constructor
  · intro e c hc
    obtain ⟨k, hk, rfl⟩ := List.getElem_of_mem hc
    have hk' : k < z.length := by simpa [Str.length] using hk
    have g : goes (z.cps.getD k 0) = true := by
      rcases Nat.lt_or_ge k lo with h | h
      · exact l2 k h
      · exact h3 k (by omega) hk'
    rw [← PyProof.Rows.getD_list] at g
    have e3 : z.cps.toList.getD k 0 = z.cps.toList[k] := by
      rw [List.getD, List.getElem?_eq_getElem hk]
      rfl
    rw [e3] at g
    exact g
  · intro all
    rcases l3 with e | e
    · omega
    · rcases Nat.lt_or_ge lo z.length with h | h
      · rw [all _ (at_ lo h)] at e
        cases e
      · omega
/-- an expression's reading, said in other words -/
theorem pe_imp {X : Cx} {e : Expr} {t t' : TE} (h : PE X e t) (i : ∀ σ H Q, t' σ H Q → t σ H Q) : PE X e t' := ⟨fun pins s σ H Q I q => h.run pins s σ H Q I (i _ _ _ q)⟩
theorem sign0 (c : Nat) : decide (V.str ⟨#[c]⟩ = V.str (Str.ofString "0")) = decide (c = 48) := by
  have : Str.ofString "0" = ⟨#[48]⟩ := by decide
  rw [this]
  simp
theorem sign1 (c : Nat) : decide (V.str ⟨#[c]⟩ = V.str (Str.ofString "1")) = decide (c = 49) := by
  have : Str.ofString "1" = ⟨#[49]⟩ := by decide
  rw [this]
  simp
def badC (c : Nat) : Bool := !decide (c = 48) && !decide (c = 49)
theorem all_signs (l : List Nat) : (l.filter badC).isEmpty = l.all (Str.ofString "01").cps.contains := by
  have e : (Str.ofString "01").cps = #[48, 49] := by decide
  rw [e]
  induction l with
  | nil => rfl
  | cons c l ih =>
    rw [List.all_cons, ← ih, List.filter_cons]
    by_cases h1 : c = 48
    · subst h1; simp [badC]
    · by_cases h2 : c = 49
      · subst h2; simp [badC]
      · simp [badC, h1, h2]
theorem signs_all (z : Str) : decide (Txt.stripChars z (Str.ofString "01") = Str.ofString "") = (z.cps.toList.filter badC).isEmpty := by
  unfold Txt.stripChars
  rw [strip_none, all_signs]
theorem take_filter_no {α β : Type} {xs : List α} {i : Nat} {x : α} {b : α → Bool} (f : α → β) (h : xs[i]? = some x) (hb : b x = false) : ((xs.take (i + 1)).filter b).map f = ((xs.take i).filter b).map f := by
  rw [List.take_succ, h, List.filter_append]
  simp [hb]
theorem take_filter_yes {α β : Type} {xs : List α} {i : Nat} {x : α} {b : α → Bool} (f : α → β) (h : xs[i]? = some x) (hb : b x = true) : ((xs.take (i + 1)).filter b).map f = ((xs.take i).filter b).map f ++ [f x] := by
  rw [List.take_succ, h, List.filter_append]
  simp [hb]
theorem filter_not_empty {α : Type} (xs : List α) (b : α → Bool) : (xs.filter fun x => !b x).isEmpty = xs.all b := by
  induction xs with
  | nil => rfl
  | cons x xs ih =>
    rw [List.all_cons, List.filter_cons, ← ih]
    cases b x <;> simp
theorem seq_set {te : TE} {u : TS} {D : Ends} {i : Nat} {σ : L2.St} {H : Hp} (h : te σ H fun v H1 => u D (σ.set i (some v)) H1) : tSeq (tAsg te (gName i)) u D σ H := h
theorem dr_par {p q : Addr} {cs : List Int} {ts : TA} {σ : L2.St} {n m : Nat} {H : Hp} {R : Hp → V → Prop} {u : TS} {D : Ends} {i j : Nat} (h : DrA p q cs ts σ n m H 2 R) (s : Sv p q cs n H)
    (f : ∀ v w H2, But p H H2 → Sv p q cs m H2 → R H2 v → R H2 w → u D ((σ.set i (some v)).set j (some w)) H2) : tSeq (tPar i j ts) u D σ H := by
  refine h H (But.refl _ _) s _ ?_
  intro vs H2 b sv len r
  match vs, len with
  | [v, w], _ => exact ⟨v, w, rfl, f v w H2 b sv (r v (by simp)) (r w (by simp))⟩
/-- four truths as data -/
def D4 (a b c d : Bool) : PyData := .list [.bool a, .bool b, .bool c, .bool d]
theorem d4_dp {K : PySem.W.Frag} {H : Hp} {p : Addr} {a b c d : Bool} (h : H p = some (.lst [.bl a, .bl b, .bl c, .bl d])) : Dp K H (.ref p) (D4 a b c d) :=
  .lst (SqL.of h) (.cons (.bl a) (.cons (.bl b) (.cons (.bl c) (.cons (.bl d) .nil))))
theorem d4_show : ∀ a b c d : Bool, (D4 a b c d).showable = true ∧ (D4 a b c d).hasDict = false ∧ (D4 a b c d).depth ≤ 60 ∧ (D4 a b c d).shown.length ≤ sizeLine ∧ SeqAt.shaped (D4 a b c d) = true ∧ PyData.eqv (D4 a b c d) (D4 a b c d) = true := by decide +kernel
theorem vals_rev : ∀ {zs : List V} {ws : List Value}, Vals zs ws → Vals zs.reverse ws.reverse
  | _, _, .nil => .nil
  | _, _, .cons r t => by
    rw [List.reverse_cons, List.reverse_cons]
    exact (vals_rev t).append (.cons r .nil)
theorem yes_if {σ : L2.St} {H : Hp} {A B : Hp → Prop} (h : A H) : tYes σ H fun b H3 => if b = true then A H3 else B H3 := by
  show if true = true then A H else B H
  rw [if_pos rfl]
  exact h
theorem But.mut {p D : Addr} {H H' : Hp} {o : HO} (b : But p H H') (h : H D = none) : But p H (L2.upd H' D o) := fun c u n e => by
  rw [upd_ne (ne_of_none e h)]
  exact b c u n e
theorem Sv.but_upd {p q D : Addr} {cs : List Int} {n m : Nat} {H H0 : Hp} {o : HO} (s : Sv p q cs n H) (hD : D ≠ p) (h0 : H0 D = none) (s0 : Sv p q cs m H0) : Sv p q cs n (L2.upd H D o) := by
  obtain ⟨a, r, h1, h2, h3⟩ := s
  obtain ⟨_, _, _, q0, _⟩ := s0
  have hq : q ≠ D := fun e => by
    rw [e, h0] at q0
    cases q0
  exact ⟨a, r, by rw [upd_ne hD.symm]; exact h1, by rw [upd_ne hq]; exact h2, h3⟩
def IsV (u : V) : Hp → V → Prop := fun _ v => v = u
theorem IsV.stb {u : V} {p : Addr} : Stb p (IsV u) := fun _ _ _ _ h => h
section
variable {p q : Addr} {cs : List Int} {σ : L2.St} {n m l : Nat} {H : Hp}
theorem dr_pow {a b : Int} (h : CPow a b) : Dr p q cs (tOp (rI CPow fun i j => .int (i ^ j.toNat)) (tC (.int a)) (tC (.int b))) σ n n H (IsV (.int (a ^ b.toNat))) :=
  dr_op IsV.stb (dr_c (R := IsV (.int a)) fun _ _ => rfl) (dr_c (R := IsV (.int b)) fun _ _ => rfl) fun x y H1 rx ry Q q => ⟨a, b, rx, ry, h, q _ rfl⟩
theorem dr_neg {a : Int} : Dr p q cs (tUn (rU fun i => .int (-i)) (tC (.int a))) σ n n H (IsV (.int (-a))) :=
  dr_un (dr_c (R := IsV (.int a)) fun _ _ => rfl) fun x H1 rx Q q => ⟨a, rx, q _ rfl⟩
theorem dr_addI {ta tb : TE} {a b : Int} (ha : Dr p q cs ta σ n m H (IsV (.int a))) (hb : Dr p q cs tb σ m l H (IsV (.int b))) : Dr p q cs (tOp (rI0 fun i j => .int (i + j)) ta tb) σ n l H (IsV (.int (a + b))) :=
  dr_op IsV.stb ha hb fun x y H1 rx ry Q q => ⟨a, b, rx, ry, q _ rfl⟩
end
end Own
set_option Elab.async false
set_option linter.all false
set_option maxRecDepth 100000
set_option maxHeartbeats 4000000
namespace Own
open PySem PySem.Spec PyProof.Rows L2
theorem law_callG {P : Program} {w : World} {K : PySem.W.Frag} {mg mb : Str → Option Value} {k : Nat} {fa a : Addr} {fd : FuncData} {x : Str} {sp : Sp} {s₁ : Shared} {vs : List Value} {ns : List Int}
    (inK : K.In s₁.heap) (top : s₁.heap.Ns mainGlobals mg) (bi : s₁.heap.Ns builtinsNs mb) (bt : ∀ x : Str, x ≠ "__name__" → mb x = bootBuiltins x) (lim : s₁.heap.NoLimit) (bare : s₁.gens = #[])
    (at_ : s₁.heap.get? a = some { cls := .type "list", data := .seq vs.toArray }) (iv : IntsAre vs ns) (small : ns.length ≤ sizeLine) (room : Room k callerA)
    (F : ∀ base : Heap, K.In base → base.Ns mainGlobals mg → FnG P w K mg base CX0 k fa fd [x] sp) (bnd : ∀ (s : Shared) (u : Value), BindsTo s fd ⟨[u], []⟩ [(x, u)])
    (say : ∀ H : Hp, Only H → SqL K H a (ns.map V.int) → sp [.ref a] H (fun v _ => v = .bl true) fun _ _ _ => False) :
    codeAny (model P w) callerA (.call (.ref fa) ⟨[.ref a], []⟩) (fun r s' => r = .ok (.ret (.bool true)) ∧ OldK s₁.heap s'.heap ∧ s'.os = s₁.os ∧ AllBare s'.gens) s₁ := by
  have rv := vals_ints iv
  have lenV := iv.length
  have main : ∀ H : Hp, Only H → SqL K H a (ns.map V.int) → HOk P w H s₁.heap → (∀ b, H b ≠ none → b = a) → (H a ≠ none → K.lookup a = none) →
      codeAny (model P w) callerA (.call (.ref fa) ⟨[.ref a], []⟩) (fun r s' => r = .ok (.ret (.bool true)) ∧ OldK s₁.heap s'.heap ∧ s'.os = s₁.os ∧ AllBare s'.gens) s₁ := by
    intro H only sq hok just free
    have notA : ∀ {b : Addr} {o : Obj} {es : Array DictEntry} {ep : Nat}, s₁.heap.get? b = some o → o.data = .dict es ep → H b = none := by
      intro b o es ep e d
      by_cases q : H b = none
      · exact q
      · cases just b q
        rw [at_] at e
        cases e
        cases (show Data.seq vs.toArray _ = Data.dict es ep from d)
    have ns_ : ∀ {b : Addr} {m : Str → Option Value}, s₁.heap.Ns b m → (hidT s₁.heap H).Ns b m := by
      rintro b m ⟨o, es, ep, e, d, r⟩
      exact ⟨o, es, ep, hidT_get e (notA e d), d, r⟩
    have k_ : K.In (hidT s₁.heap H) := by
      intro b o e
      refine hidT_get (inK b o e) ?_
      by_cases q : H b = none
      · exact q
      · cases just b q
        rw [free q] at e
        cases e
    obtain ⟨mc, l1, l2⟩ := lim
    have M : Mod K mg (hidT s₁.heap H) := ⟨k_, ns_ top, ⟨mb, ns_ bi, bt⟩, ⟨mc, ns_ l1, l2⟩⟩
    have E0 : Env0 P w K mg (hidT s₁.heap H) callerA [] s₁ H :=
      ⟨rfl, M, fun b o e => of_hidT e, Nat.le_of_eq (hidT_size _ _), trivial, fun b hb => (List.not_mem_nil (show b ∈ ([] : List Addr) from hb)).elim, hok, .of_eq bare⟩
    refine codeAny_mono ((F _ k_ (ns_ top)).run callerA [] s₁ H ⟨[.ref a], []⟩ [.ref a] [.ref a] _ _ room rfl E0 (bnd s₁ (.ref a)) (.cons rfl .nil) (say H only sq)) ?_
    intro r s' h
    match r, h with
    | .error e, h => exact h.elim
    | .ok .next, h => exact h.elim
    | .ok .brk, h => exact h.elim
    | .ok .cont, h => exact h.elim
    | .ok (.ret u), h =>
      obtain ⟨v, G, os, br, un, hk2, r1, q⟩ := h
      cases (show v = V.bl true from q)
      cases (show u = Value.bool true from r1)
      refine ⟨rfl, OldK.of_keep ?_, os, br⟩
      intro b o e
      by_cases q : H b = none
      · exact un.keep b o e q (fun z => (List.not_mem_nil (show b ∈ ([] : List Addr) from z)).elim) (by simp)
      · rcases only b with z | ⟨ob, xs, z⟩
        · exact (q z).elim
        · have y1 := (hok b _ z).1
          have y2 := (hk2 b _ (un.frzs b ob _ z)).1
          rw [e] at y1
          cases y1
          exact y2
  have sz : (ns.map V.int).length ≤ sizeLine := by rw [List.length_map]; exact small
  by_cases hk : K.lookup a = none
  · have T : ∀ b u, (fun b => if b = a then some (HO.frz { cls := .type "list", data := .seq vs.toArray } (.lst (ns.map V.int))) else none) b = some u →
        b = a ∧ u = .frz { cls := .type "list", data := .seq vs.toArray } (.lst (ns.map V.int)) := by
      intro b u z
      by_cases hb : b = a
      · exact ⟨hb, (Option.some.inj ((if_pos hb).symm.trans z)).symm⟩
      · cases (if_neg hb).symm.trans z
    refine main (fun b => if b = a then some (HO.frz { cls := .type "list", data := .seq vs.toArray } (.lst (ns.map V.int))) else none) (fun b => ?_) (.inl (.inr ⟨_, if_pos rfl⟩)) (fun b u z => ?_) (fun b z => ?_) fun _ => hk
    · by_cases hb : b = a
      · exact .inr ⟨_, _, if_pos hb⟩
      · exact .inl (if_neg hb)
    · obtain ⟨rfl, rfl⟩ := T b u z
      exact ⟨at_, sz, vs, _, rv, at_⟩
    · by_cases hb : b = a
      · exact hb
      · exact (z (if_neg hb)).elim
  · obtain ⟨o, ho⟩ := Option.ne_none_iff_exists'.mp hk
    have e := inK a o ho
    rw [at_] at e
    cases e
    exact main (fun _ => none) (fun _ => .inl rfl) (.inr ⟨_, vs.toArray, _, ho, rfl, rfl, rfl, by rw [List.size_toArray, lenV]; exact small, by simpa using rv⟩)
      (fun b u z => by cases (show (none : Option HO) = some u from z)) (fun b z => (z rfl).elim) (fun z => (z rfl).elim)
theorem walk_ofG {l : PySem.W.OpenLaw} {n k : Nat} {q : Program} {loose : List Str} {XP : (Str → Option Value) → Heap → Prop} {YP : World → Heap → Prop} {d : DefRec} {K : Params → PySem.W.Frag} {sp : PySem.W.Frag → Sp} {x : Str}
    (hn : l.most = some n) (hn2 : n ≤ sizeLine) (hdf : d.params.defaults = []) (room : Room k callerA) (hY : ∀ (w : World) (h : Heap), YP w h → (K w.params).In h)
    (F : ∀ (w : World) (mg : Str → Option Value) (fa : Addr) (h : Heap), (K w.params).In h → h.Ns mainGlobals mg → mg d.name = some (.ref fa) →
      ∃ fd : FuncData, (∀ (s : Shared) (u : Value), BindsTo s fd ⟨[u], []⟩ [(x, u)]) ∧
        ∀ base : Heap, (K w.params).In base → base.Ns mainGlobals mg → FnG l.prog w (K w.params) mg base CX0 k fa fd [x] (sp (K w.params)))
    (say : ∀ (K : PySem.W.Frag) (H : Hp) (a : Addr) (ns : List Int), ns.length ≤ n → (∀ z ∈ ns, Builtin.Int.intBits z ≤ 1048576) → Only H → SqL K H a (ns.map V.int) → sp K [.ref a] H (fun v _ => v = .bl true) fun _ _ _ => False) :
    PySem.W.WalkO q loose XP YP l.row.toRowW d [] (fun f vs => PySem.call f vs) := by
  refine Att.attach_callB hn hdf ?_
  intro w s₀ s₁ mg mb fa o pm cd doc a vs ns G Y ho hd hcd hmg hobj iv hlen hbits hg
  have inK := hY w _ Y
  obtain ⟨fd, hb, hF⟩ := F w mg fa _ inK G.T.g hmg
  exact law_callG inK G.T.g G.T.b G.T.builtins G.T.nolimit hg hobj iv (Nat.le_trans hlen hn2) room hF hb (fun H only sq => say _ H a ns hlen hbits only sq)
end Own
set_option Elab.async false
set_option linter.all false
set_option maxRecDepth 100000
set_option maxHeartbeats 4000000
/-! Exceptions of own classes as values: made by place and by name, their fields, what they are. -/
namespace PySem
namespace HandSPX
open PySem.W PySem.Calls PyProof.Rows
section
variable {prog : Program} {w : World} {A : Around} {E : Value → Shared → Prop} {R : Result → Shared → Prop} {h : Heap} {g : Array GenState} {d : Drawn} {t : Nat} {os : OsState} {M : Model}
variable {nm q : Str} {C N : Addr} {bs bm bmB : List Value} {hdct : Bool} {sn : List Str} {sub : List Value} {ab : Bool} {col : Option Bool} {dd : Option Addr} {k0 k1 k2 k3 k5 : Option Value} {B newId initId : String}
theorem own_check_new_kw (F : ExcBaseFacts B newId initId bmB) (hT : ∀ X : String, bm.contains (.type X) = bmB.contains (.type X)) {rest : List Value} {kw : List (Str × Value)} {Q : Unit → Shared → Prop}
    (oC : h.get? C = some (excClassObj nm q C N bs bm hdct sn sub ab col dd k0 k1 k2 k3 k5 newId)) (fin : Q () ⟨h, g, d, t, os⟩) : wpAny M A (checkBuiltinCall newId ⟨.ref C :: rest, kw⟩) Q E ⟨h, g, d, t, os⟩ := by
  have inB : (Value.ref C :: bm).contains (.type B) = true := by
    rw [List.contains_cons, hT, F.hasB]
    exact Bool.or_true _
  have st := F.noStar
  simp only [checkBuiltinCall, F.newKind, F.newSplit, F.newRow]
  repeat (first
    | refine wpAny_loadPart_at oC ?_
    | (refine wpAny_isSubtype_exc oC ?_; rw [inB])
    | refine wpAny_staticBase_exc oC ?_
    | refine wpAny_madeBy_exc oC ?_
    | simp only [bne_self_eq_false, Bool.false_eq_true, if_false]
    | wp_step)
  exact fin
theorem own_new_kw (F : ExcBaseFacts B newId initId bmB) (hT : ∀ X : String, bm.contains (.type X) = bmB.contains (.type X)) {rest : List Value} {kw : List (Str × Value)}
    (oC : h.get? C = some (excClassObj nm q C N bs bm hdct sn sub ab col dd k0 k1 k2 k3 k5 newId))
    (fin : R (.ok (.ret (.ref (h.objs.size + 1)))) ⟨(h.push (W.kdv_tup rest)).push (excO C h.objs.size), g, d, t, os⟩) (few : rest.length ≤ sizeLine) :
    codeAny (model prog w) A (.builtin newId ⟨.ref C :: rest, kw⟩) R ⟨h, g, d, t, os⟩ := by
  have e0 := F.ends
  have inB : (Value.ref C :: bm).contains (.type B) = true := by
    rw [List.contains_cons, hT, F.hasB]
    exact Bool.or_true _
  have inA : (Value.ref C :: bm).contains (.type "AttributeError") = false := by
    rw [List.contains_cons, hT, F.noAttr]
    rfl
  have inN : (Value.ref C :: bm).contains (.type "NameError") = false := by
    rw [List.contains_cons, hT, F.noName]
    rfl
  refine codeAny_builtinAt F.entry ?_
  unfold Builtin.«BaseException.__new__»
  refine wpAt_bind ?_
  show wpAt _ _ _ (stack >>= _) _ _ _
  refine wpAt_bind (wpAt_stack fun p below => wpAt_of_wpAny ?_)
  wp_walk
  refine wpAt_of_wpAny ?_
  rw [F.owner]
  repeat (first
    | with_reducible refine wpAny_madeHere_exc F.canon oC ?_
    | with_reducible refine wpAny_loadPart_at oC ?_
    | (with_reducible refine wpAny_isSubtype_exc oC ?_; first | rw [inB] | rw [inA] | rw [inN])
    | wp_step)
  show R _ _
  rw [Heap.size_push]
  exact fin
theorem own_type_call_kw (F : ExcBaseFacts B newId initId bmB) (hT : ∀ X : String, bm.contains (.type X) = bmB.contains (.type X)) {rest : List Value} {kw : List (Str × Value)} {fI : Addr} {Q : Fin → Shared → Prop}
    (oC : h.get? C = some (excClassObj nm q C N bs bm hdct sn sub ab col dd k0 k1 k2 k3 k5 newId))
    (li : W.Looks (model prog w) h (typeLookup (.ref C) "__init__") (some (.ref fI))) (lb : ∀ self, W.Looks (model prog w) h (bindSpecial (.ref fI) self) (.ref fI, [self])) (few : rest.length ≤ sizeLine)
    (run : codeAny (model prog w) A (.call (.ref fI) ⟨.ref (h.objs.size + 1) :: rest, kw⟩)
      (fun r s' => match r with | .ok (.ret v) => v = .none ∧ Q (.done (.ret (.ref (h.objs.size + 1)))) s' | .ok _ => False | .error e => E e s')
      ⟨(h.push (W.kdv_tup rest)).push (excO C h.objs.size), g, d, t, os⟩) :
    wpAny (model prog w) A (Builtin.«type.__call__» ⟨.ref C :: rest, kw⟩) Q E ⟨h, g, d, t, os⟩ := by
  repeat (first
    | with_reducible refine wpAny_loadPart_at oC ?_
    | with_reducible refine wpAny_madeBy_exc oC ?_
    | wp_step)
  refine codeAny_call_builtin_code (Code.quiet_builtin _ F.quiet) (own_check_new_kw F hT oC ?_)
  refine own_new_kw F hT oC ?_ few
  show wpAny _ _ _ _ _ _
  have kp : ∀ b o, h.get? b = some o → ((h.push (W.kdv_tup rest)).push (excO C h.objs.size)).get? b = some o := fun b o e => Heap.get?_push_of_some _ (Heap.get?_push_of_some _ e)
  have oC1 := kp _ _ oC
  have oE : ((h.push (W.kdv_tup rest)).push (excO C h.objs.size)).get? (h.objs.size + 1) = some (excO C h.objs.size) := by heap_get
  have inC : (Value.ref C :: bm).contains (.ref C) = true := by simp
  have l1 := li.keeps kp
  have l2 := (lb (.ref (h.objs.size + 1))).keeps kp
  unfold isInstance
  repeat (first
    | with_reducible refine wpAny_loadPart_at oE ?_
    | (with_reducible refine wpAny_isSubtype_exc oC1 ?_; rw [inC])
    | wp_step)
  show wpAny _ _ (typeLookup (.ref C) _) _ _ _
  refine l1.at ?_
  refine wpAny_holding (wpAny_bind (l2.at ?_))
  refine wpAny_bind (wpAny_call (codeAny_mono run fun r s' z => ?_))
  rcases r with e | (v | _ | _ | _) <;> first | exact z | exact z.elim | skip
  obtain ⟨rfl, z⟩ := z
  first
    | exact wpAny_pure (wpAny_pure z)
    | (wp_walk; exact z)
theorem own_call_kw (F : ExcBaseFacts B newId initId bmB) (hT : ∀ X : String, bm.contains (.type X) = bmB.contains (.type X)) {rest : List Value} {kw : List (Str × Value)} {fI : Addr}
    (oC : h.get? C = some (excClassObj nm q C N bs bm hdct sn sub ab col dd k0 k1 k2 k3 k5 newId))
    (li : W.Looks (model prog w) h (typeLookup (.ref C) "__init__") (some (.ref fI))) (lb : ∀ self, W.Looks (model prog w) h (bindSpecial (.ref fI) self) (.ref fI, [self])) (few : rest.length ≤ sizeLine)
    (run : codeAny (model prog w) (A.under (.builtin "type.__call__" ⟨.ref C :: rest, kw⟩)) (.call (.ref fI) ⟨.ref (h.objs.size + 1) :: rest, kw⟩) (W.InitBack (h.objs.size + 1) R)
      ⟨(h.push (W.kdv_tup rest)).push (excO C h.objs.size), g, d, t, os⟩) :
    codeAny (model prog w) A (.call (.ref C) ⟨rest, kw⟩) R ⟨h, g, d, t, os⟩ := by
  have f1 := tc_lookup
  have f2 := tc_bind (.ref C)
  have ty : (⟨h, g, d, t, os⟩ : Shared).TypeIs (.ref C) "type" := ⟨_, oC, rfl⟩
  refine codeAny_of_tree ?_
  show wpAny _ _ (callAny (.ref C) _) _ _ _
  repeat (any_goals (first | assumption | with_reducible refine wpAny_loadPart_at oC ?_ | wp_step))
  refine ⟨rfl, ?_⟩
  refine codeAny_call_builtin_at (Code.quiet_builtin _ (by decide +kernel)) entry_typeCall (wpAny_check_type_call_sub oC (own_type_call_kw F hT oC li lb few ?_))
  refine codeAny_mono run fun r s' z => ?_
  rcases r with e | (v | _ | _ | _) <;> exact z
end
end HandSPX
end PySem

set_option Elab.async false
set_option linter.all false
set_option maxRecDepth 100000
set_option maxHeartbeats 4000000

namespace Own
open PySem PySem.Spec PyProof.Rows L2
/-- what the written part says of an exception class of the program's own -/
structure ExC (K : PySem.W.Frag) (C : Addr) : Prop where
  o : OexC K C
  ga : PySem.W.findIn K (.ref C) "__getattribute__" = some (some (.builtin "BaseException.__getattribute__"))
  gg : PySem.W.findIn K (.ref C) "__getattr__" = some none
  hd : PySem.W.hasDictIn K C = true
  cA : PySem.W.findIn K (.ref C) "__class__" = some (some (.builtin "object.__class__"))
  cg : PySem.W.specialIn K (.builtin "object.__class__") "__get__" = some (some (.builtin "getset_descriptor.__get__"))
  ct : PySem.W.takesIn K (.builtin "object.__class__") = some true
  cm : PySem.W.mroIn K C (.type "object") = some true
/-- an exception that was caught and is held, of the class cls, its own dict at d -/
def exv (cls : Value) (d : Option Addr) (a : Addr) : HO := .ext fun h => ∃ (oe : Obj) (vs : Array Value), h.get? a = some oe ∧ Zc cls d oe ∧ oe.data = .fields vs
/-- at a an exception of the class at C, its fields fs (in the dict at d) -/
def ExAt (H : Hp) (a C d : Addr) (fs : List (Str × V)) : Prop := (H a = some (exo a C (some d)) ∨ H a = some (exv (.ref C) (some d) a)) ∧ (H d = some (exd d fs) ∨ H d = some (.xd fs))
theorem ExAt.mono {H H' : Hp} {a C d : Addr} {fs : List (Str × V)} (s : Same H H') (h : ExAt H a C d fs) : ExAt H' a C d fs :=
  ⟨h.1.imp (s _ _) (s _ _), h.2.imp (s _ _) (s _ _)⟩
section
variable {X : Cx} {pins : List (Addr × Obj)} {σ : L2.St} {H : Hp} {s : Shared}
theorem ExAt.inst {a C d : Addr} {fs : List (Str × V)} (I : Inv X pins σ H s) (h : ExAt H a C d fs) :
    ∃ (oe od : Obj), PySem.W.InstAt s.heap a oe C (some od) ∧ ∃ mA : Str → Option Value, (∀ name, PySem.W.lookIn name od = some (mA name)) ∧ ∀ f, RelO (fs.lookup f) (mA f) := by
  obtain ⟨h1, h2⟩ := h
  obtain ⟨mA, hn, rel⟩ : ∃ mA, s.heap.Ns1 d mA ∧ ∀ f, RelO (fs.lookup f) (mA f) := by
    rcases h2 with h2 | h2
    · exact exd_at I.hok h2
    · exact I.hok d _ h2
  obtain ⟨od, ho, hl⟩ := lookIn_ns hn
  obtain ⟨oe, vs, he, hz, hdt⟩ : ∃ (oe : Obj) (vs : Array Value), s.heap.get? a = some oe ∧ Zc (.ref C) (some d) oe ∧ oe.data = .fields vs := by
    rcases h1 with h1 | h1
    · obtain ⟨t1, e⟩ := exo_at I.hok h1
      exact ⟨_, _, e, ⟨rfl, rfl⟩, rfl⟩
    · obtain ⟨q, _, _⟩ := (show ObjOk X.prog X.w H s.heap a (exv (.ref C) (some d) a) from I.hok a _ h1)
      exact q
  refine ⟨oe, od, ⟨he, hz.1, ?_, ?_⟩, mA, hl, rel⟩
  · unfold PySem.W.notCls
    rw [hdt]
  · rw [hz.2]
    exact ho
end
/-- isinstance(e, c) -/
def rIsX (K : PySem.W.Frag) : List V → Hp → VK → Prop := fun xs H Q => ∃ (a C d : Addr) (fs : List (Str × V)) (c : V) (cv : Value) (b : Bool), xs = [.ref a, c] ∧ ExC K C ∧ ExAt H a C d fs ∧ ClsV c cv ∧ PySem.W.kitOne K (.ref C) cv = some b ∧ Q (.bl b) H
theorem call_isX {X : Cx} : CallR X (.builtin "isinstance") (rIsX X.K) := by
  intro pins s σ H xs us Q I r h
  obtain ⟨a, C, d, fs, c, cv, b, rfl, T, he, hc, hk, q⟩ := h
  match us, r with
  | [u1, u2], .cons r1 (.cons r2 .nil) =>
    cases (show u1 = Value.ref a from r1)
    cases hc.eq r2
    obtain ⟨oe, od, J, _⟩ := he.inst I
    have cl : (PySem.W.clsIn X.K C).isSome = true := by
      obtain ⟨cd, z, _⟩ := PySem.W.any_some T.hd
      rw [z]
      rfl
    exact PySem.W.kia_one (PySem.W.kitx_exc (od := some od) cl T.ga T.gg T.o.exC T.cA T.cg T.ct T.cm) I.kIn J hk (fun z => nomatch z) fun tk => ⟨.bl b, H, I.kept (t' := tk) fun _ _ z => z, rfl, q⟩
/-- e.f -/
def tExF (K : PySem.W.Frag) (f : Str) (te : TE) : TE := fun σ H Q => te σ H fun x H1 => ∃ (a C d : Addr) (fs : List (Str × V)) (v : V), x = .ref a ∧ ExC K C ∧ PySem.W.findIn K (.ref C) f = some none ∧ ExAt H1 a C d fs ∧ fs.lookup f = some v ∧ Q v H1
theorem pe_exf {X : Cx} {e : Expr} {f : Str} {te : TE} {pos : Pos} (he : PE X e te) (hb : attributeBase e f X.env (eval e X.env) = eval e X.env := by rfl) : PE X (.Attribute e f pos) (tExF X.K f te) := by
  constructor
  intro pins s σ H Q I h
  refine attr_of hb (thn (he.run pins s σ H _ I h) ?_)
  rintro u s1 ⟨x, H1, I1, rx, a, C, d, fs, v, rfl, T, no, ea, l, q⟩
  cases (show u = Value.ref a from rx)
  obtain ⟨oe, od, J, mA, hl, rel⟩ := ea.inst I1
  obtain ⟨y, hy, ry⟩ := RelO.some_of (v := v) (o := mA f) (by rw [← l]; exact rel f)
  exact HandSPX.exc_get I1.kIn J T.ga T.gg T.o.exC (PySem.W.findObj_own T.hd no rfl (by rw [hl, hy])) (handed_of ry) ⟨v, H1, I1.tok _, ry, q⟩
section
variable {X : Cx} {CX : CXT} {k n : Nat} {fI C : Addr} {fd : FuncData} {ps ks : List Str} {sp : Sp} {x : Str} {p pos : Pos} {e : Expr} {es : List Expr} {kws : List Keyword} {t tk : TA} {g : List Value → List Value → List Value} {gV : List V → List V → List V}
theorem run_exn {pins : List (Addr × Obj)} {σ : L2.St} {H : Hp} {s : Shared} {Q : VK} {us ws : List Value} {vs zs : List V} (T : OexC X.K C) (iC : PySem.W.findIn X.K (.ref C) "__init__" = some (some (.ref fI)))
    (tI : PySem.W.typeIn X.K (.ref fI) = some (.type "function")) (G0 : FnOk X.prog X.w X.K X.mg X.base CX k fI fd ps sp) (room : Room (k + 1) X.A) (hb : KBn X.K fd ps (n + 1) ks g gV) (hx : Passes CX X (fun _ _ _ => False))
    (I : Inv X pins σ H s) (r : Vals vs us) (rz : Vals zs ws) (l1 : vs.length = n) (l2 : zs.length = ks.length) (few : n ≤ 1000)
    (h : ∀ a, H a = none → sp (gV (.ref a :: vs) zs) (upd H a (exo a C none)) (fun v H2 => v = .non ∧ Q (.ref a) H2) (fun _ _ _ => False)) :
    wpAny (model X.prog X.w) X.A (call (.ref C) us (ks.zip ws)) (EP X pins σ Q) X.xe s := by
  obtain ⟨nm, q, N, bs, bm, sn, sub, ab, col, dd, k0, k1, k2, k3, k5, hC, hbm⟩ := T.cls
  obtain ⟨hp, gs, dr, tk, os⟩ := s
  have le : hp.objs.size ≤ hp.objs.size + 1 := Nat.le_succ _
  have want := h (hp.objs.size + 1) (I.hok.fresh le)
  have kp : ∀ b o, hp.get? b = some o → ((hp.push (PySem.W.kdv_tup us)).push (PySem.HandSPX.excO C hp.objs.size)).get? b = some o := fun b o z => Heap.get?_push_of_some _ (Heap.get?_push_of_some _ z)
  have at_ : ((hp.push (PySem.W.kdv_tup us)).push (PySem.HandSPX.excO C hp.objs.size)).get? (hp.objs.size + 1) = some (PySem.HandSPX.excO C hp.objs.size) := by heap_get
  have J : Inv X pins σ (upd H (hp.objs.size + 1) (exo (hp.objs.size + 1) C none)) ⟨(hp.push (PySem.W.kdv_tup us)).push (PySem.HandSPX.excO C hp.objs.size), gs, dr, tk, os⟩ :=
    I.laid (t' := tk) (h' := (hp.push (PySem.W.kdv_tup us)).push (PySem.HandSPX.excO C hp.objs.size)) kp le (exo_ok at_)
  have r1 : Vals (V.ref (hp.objs.size + 1) :: vs) (Value.ref (hp.objs.size + 1) :: us) := .cons rfl r
  have r2 := hb.rel r1 rz
  have n1 : (Value.ref (hp.objs.size + 1) :: us).length = n + 1 := r1.length.symm.trans (congrArg Nat.succ l1)
  have n2 : ws.length = ks.length := rz.length.symm.trans l2
  have fewU : us.length ≤ sizeLine := by
    rw [← Paired.length r, l1, sizeLine_eq]
    omega
  refine wpAny_call (PySem.HandSPX.own_call_kw PySem.F.excBase_ValueError (fun Y => PySem.HandSPX.refsVE_contains Y bm hbm) (I.kIn _ _ hC) (PySem.W.looks_findIn I.kIn iC) (fun self => PySem.W.bind_fn I.kIn self tI) fewU ?_)
  refine codeAny_mono (G0.run _ X.stack _ _ ⟨Value.ref (hp.objs.size + 1) :: us, ks.zip ws⟩ _ _ _ (fun _ _ _ => False) (room.make C us (ks.zip ws)) (J.env0.make C us (ks.zip ws)) (hb.to _ _ ws J.kIn n1 n2) r2 want) ?_
  intro r s' z
  match r, z with
  | .error e, z => exact hx pins σ _ _ e s' J z
  | .ok .next, z => exact z.elim
  | .ok .brk, z => exact z.elim
  | .ok .cont, z => exact z.elim
  | .ok (.ret u), z =>
    obtain ⟨v, H2, J2, rv, ev, q3⟩ := J.after z
    subst ev
    exact ⟨rv, .ref _, H2, J2, rfl, q3⟩
/-- C(e, ..) -/
def tExn (C : Addr) (n : Nat) (sp : Sp) (gV : List V → List V → List V) (t tk : TA) (m : Nat) : TE := fun σ H Q => t σ H fun vs H1 => tk σ H1 fun zs H2 => vs.length = n ∧ zs.length = m ∧ n ≤ 1000 ∧
  ∀ a, H2 a = none → sp (gV (.ref a :: vs) zs) (upd H2 a (exo a C none)) (fun v H3 => v = .non ∧ Q (.ref a) H3) (fun _ _ _ => False)
theorem pe_exn (T : OexC X.K C) (iC : PySem.W.findIn X.K (.ref C) "__init__" = some (some (.ref fI))) (tI : PySem.W.typeIn X.K (.ref fI) = some (.type "function")) (G0 : FnOk X.prog X.w X.K X.mg X.base CX k fI fd ps sp) (room : Room (k + 1) X.A)
    (hb : KBn X.K fd ps (n + 1) [] g gV) (hx : Passes CX X (fun _ _ _ => False)) (hm : X.mg x = some (.ref C)) (ha : PA X (e :: es) t) (hg : Gl X x := by rfl)
    (hdb : (x == ("__debug__" : Str)) = false := by decide) (he : starEach (e :: es) X.env = (false, eval e X.env) :: starEach es X.env := by rfl) (hpl : (backTo pos (starEach es X.env)).any (·.1) = false := by rfl) :
    PE X (.Call (.Name x p) (e :: es) [] pos) (tExn C n sp gV t tNil 0) := by
  constructor
  intro pins s σ H Q I h
  refine wpAny_Call_Name_kw (ld_glob I hg hm ?_ hdb)
  refine PySem.W.callWith_K (h₀ := X.base) I.ok.mod.kin T.kC (thn (ha.run pos pins s σ H _ I h) ?_) he hpl
  rintro us s1 ⟨vs, H1, I1, r, l1, l2, few, q⟩
  exact ⟨I1.kIn, run_exn (ws := []) (zs := []) T iC tI G0 room hb hx I1 r .nil l1 rfl few q⟩
theorem pe_exnK (T : OexC X.K C) (iC : PySem.W.findIn X.K (.ref C) "__init__" = some (some (.ref fI))) (tI : PySem.W.typeIn X.K (.ref fI) = some (.type "function")) (G0 : FnOk X.prog X.w X.K X.mg X.base CX k fI fd ps sp) (room : Room (k + 1) X.A)
    (hb : KBn X.K fd ps 1 ks g gV) (hx : Passes CX X (fun _ _ _ => False)) (hm : X.mg x = some (.ref C)) (hkw : PK X kws tk) (hg : Gl X x := by rfl) (hall : (backToKw pos (keywordEach kws X.env)).all (·.1.isSome) = true := by rfl)
    (hks : (backToKw pos (keywordEach kws X.env)).filterMap (·.1) = ks := by rfl) (hdb : (x == ("__debug__" : Str)) = false := by decide)
    (hpl : ((backTo pos (starEach [] X.env)).any (·.1) || (backToKw pos (keywordEach kws X.env)).any (·.1.isNone)) = false := by rfl) :
    PE X (.Call (.Name x p) [] kws pos) (tExn C 0 sp gV tNil tk ks.length) := by
  constructor
  intro pins s σ H Q I h
  refine wpAny_Call_Name_kw (ld_glob I hg hm ?_ hdb)
  refine PySem.W.callWith_KW0 (h₀ := X.base) I.ok.mod.kin T.kC hall (thn (hkw.run pos pins s σ H _ I h) ?_) hpl
  rintro ws s2 ⟨zs, H2, I2, rz, l1, l2, few, q⟩
  refine ⟨I2.kIn, ?_⟩
  rw [hks]
  exact run_exn (vs := []) (us := []) T iC tI G0 room hb hx I2 .nil rz rfl l2 few q
end
/-- a class of exceptions, with all that making one wants: n fields, by place and by the names ks -/
structure Xcl (P : Program) (w : World) (K : PySem.W.Frag) (mg : Str → Option Value) (base : Heap) (x : Str) (C : Addr) (n : Nat) (ks : List Str) (gV : List V → List V → List V) (sp : Sp) : Prop where
  t : ExC K C
  at_ : mg x = some (.ref C)
  ex : ∃ fI fd ps g gK, PySem.W.findIn K (.ref C) "__init__" = some (some (.ref fI)) ∧ PySem.W.typeIn K (.ref fI) = some (.type "function") ∧ FnOk P w K mg base CX0 1 fI fd ps sp ∧
    KBn K fd ps (n + 1) [] g (fun vs _ => vs) ∧ KBn K fd ps 1 ks gK gV
theorem pe_xcl {X : Cx} {x : Str} {C : Addr} {n : Nat} {ks : List Str} {gV : List V → List V → List V} {sp : Sp} {p pos : Pos} {e : Expr} {es : List Expr} {t : TA} (T : Xcl X.prog X.w X.K X.mg X.base x C n ks gV sp) (room : Room 2 X.A) (ha : PA X (e :: es) t) (hg : Gl X x := by rfl)
    (hdb : (x == ("__debug__" : Str)) = false := by decide) (he : starEach (e :: es) X.env = (false, eval e X.env) :: starEach es X.env := by rfl) (hpl : (backTo pos (starEach es X.env)).any (·.1) = false := by rfl) :
    PE X (.Call (.Name x p) (e :: es) [] pos) (tExn C n sp (fun vs _ => vs) t tNil 0) := by
  obtain ⟨fI, fd, ps, g, gK, iC, tI, F, b1, b2⟩ := T.ex
  exact pe_exn T.t.o iC tI F room b1 pass0 T.at_ ha hg hdb he hpl
theorem pe_xclK {X : Cx} {x : Str} {C : Addr} {n : Nat} {ks : List Str} {gV : List V → List V → List V} {sp : Sp} {p pos : Pos} {kws : List Keyword} {tk : TA} (T : Xcl X.prog X.w X.K X.mg X.base x C n ks gV sp) (room : Room 2 X.A) (hkw : PK X kws tk) (hg : Gl X x := by rfl)
    (hall : (backToKw pos (keywordEach kws X.env)).all (·.1.isSome) = true := by rfl)
    (hks : (backToKw pos (keywordEach kws X.env)).filterMap (·.1) = ks := by rfl) (hdb : (x == ("__debug__" : Str)) = false := by decide)
    (hpl : ((backTo pos (starEach [] X.env)).any (·.1) || (backToKw pos (keywordEach kws X.env)).any (·.1.isNone)) = false := by rfl) :
    PE X (.Call (.Name x p) [] kws pos) (tExn C 0 sp gV tNil tk ks.length) := by
  obtain ⟨fI, fd, ps, g, gK, iC, tI, F, b1, b2⟩ := T.ex
  exact pe_exnK T.t.o iC tI F room b2 pass0 T.at_ hkw hg hall hks hdb hpl
/-- __init__ of one field, of two -/
def spI1 (K : PySem.W.Frag) (f : Str) : Sp := fun vs H Q _ => ∃ (a C : Addr) (y : V), vs = [.ref a, y] ∧ OexC K C ∧ PySem.W.findIn K (.ref C) f = some none ∧ H a = some (exo a C none) ∧
  ∀ dx, H dx = none → dx ≠ a → Q .non (upd (upd H dx (exd dx [(f, y)])) a (exo a C (some dx)))
def spI2 (K : PySem.W.Frag) (f g : Str) : Sp := fun vs H Q _ => ∃ (a C : Addr) (y z : V), vs = [.ref a, y, z] ∧ OexC K C ∧ PySem.W.findIn K (.ref C) f = some none ∧ PySem.W.findIn K (.ref C) g = some none ∧ H a = some (exo a C none) ∧
  ∀ dx, H dx = none → dx ≠ a → Q .non (upd (upd (upd H dx (exd dx [(f, y)])) a (exo a C (some dx))) dx (exd dx [(g, z), (f, y)]))
/-- a class or a def of the top as a value -/
theorem pe_gr {X : Cx} {x : Str} {a : Addr} {pos : Pos} (h : X.mg x = some (.ref a)) (hg : Gl X x := by rfl) (hd : (x == ("__debug__" : Str)) = false := by decide) : PE X (.Name x pos) (tC (.ref a)) := pe_glob hg h rfl hd
end Own
set_option Elab.async false
set_option linter.all false
set_option maxRecDepth 100000
set_option maxHeartbeats 4000000
namespace Own
open PySem PySem.Spec PyProof.Rows L2
section
variable {X : Cx}
/-- behind the suite: the exception at a, that was caught, is known from now on -/
theorem lay_exc {pins pinsI : List (Addr × Obj)} {σ σI : L2.St} {H HI : Hp} {s sI : Shared} {a : Addr} {oe : Obj} {cls : Value} {d : Option Addr} {vs : Array Value}
    (S : Inv (X.suite a ((a, oe) :: (X.pn ++ pins))) [] σ H s) (ok : X.Ok) (hz : Zc cls d oe) (hd : oe.data = .fields vs) (hex : X.ex = []) (I : Inv X pinsI σI HI sI) (hI : ∀ p ∈ X.pn ++ pins, ∃ o, sI.heap.get? p.1 = some o) (no : sI.heap.get? a = none) :
    Inv X pins σ (upd H a (exv cls d a)) s := by
  have J := S.unsuite ok
  obtain ⟨ha, na, nL, nF, _⟩ := S.pin (a, oe) (List.mem_append_left _ List.mem_cons_self)
  have ne0 : ∀ b o, X.s_0.heap.get? b = some o → b ≠ a := by
    intro b o e q
    obtain ⟨o2, e2⟩ := I.base.there b o e (by rw [hex]; exact List.not_mem_nil)
    rw [q, no] at e2
    cases e2
  have stays : ∀ b u, H b = some u → upd H a (exv cls d a) b = some u := fun b u e => (upd_ne (ne_of_none e na)).trans e
  have gone : ∀ b, b ≠ a → H b = none → upd H a (exv cls d a) b = none := fun b nb e => (upd_ne nb).trans e
  refine ⟨ok, J.os, J.bare, ?base, J.loc, J.cell, gone _ (Ne.symm nL) J.free, ?cells, ?pins, ?hok, J.len⟩
  case base =>
    obtain ⟨k1, k2, k3, k4, k5, k6, k7⟩ := J.base
    refine ⟨k1, k2, fun b o e n x => gone b (ne0 b o e) (k3 b o e n x), k4, fun b xs e => stays _ _ (k5 b xs e), fun b o u e => stays _ _ (k6 b o u e), fun b ps e => ?_⟩
    obtain ⟨more, em⟩ := k7 b ps e
    exact ⟨more, stays _ _ em⟩
  case cells =>
    intro y c e
    refine gone c (fun q => ?_) (J.freeC y c e)
    obtain ⟨v, o, ho, _⟩ := I.cell y c e
    rw [q, no] at ho
    cases ho
  case pins =>
    intro p hp
    obtain ⟨p1, p2, p3, p4, p5⟩ := J.pin p hp
    refine ⟨p1, gone _ (fun q => ?_) p2, p3, p4, p5⟩
    obtain ⟨o, ho⟩ := hI p hp
    rw [q, no] at ho
    cases ho
  case hok =>
    intro b u e
    by_cases hb : b = a
    · subst hb
      rw [upd_same] at e
      cases e
      exact ⟨⟨oe, vs, ha, hz, hd⟩, ⟨oe, ha⟩, fun h1 h2 ⟨o, ws, e1, e2, e3⟩ st => ⟨o, ws, st _ e1, e2, e3⟩⟩
    · rw [upd_ne hb] at e
      exact (J.hok b u e).stay (fun _ _ _ q => q) (fun c q => stays _ _ q) fun c xs q => stays _ _ q
end
/-- what 'except x as n: suite' wishes of an exception: behind the suite it is known where it lies -/
def wKeep (K : PySem.W.Frag) (c : Value) (i : Nat) (ts : Addr → Value → Option Addr → TS) (Wo : WX) (D : Ends) : WX := fun cls d σ H => ∃ b, PySem.W.exmOne K cls c = some b ∧ (b = false → Wo cls d σ H) ∧
  (b = true → ∀ a, H a = none → ts a cls d { nx := fun σ2 H2 => D.nx (σ2.set i none) (upd H2 a (exv cls d a)), rt := fun _ _ => False, bk := fun _ _ => False, ct := fun _ _ => False } (σ.set i (some (.ref a))) H)
section
variable {X : Cx} {x n : Str} {c : Value} {i : Nat} {body suite : List Stmt} {b0 : Stmt} {np pos pos' : Pos} {tb : WX → TS} {ts : Addr → Value → Option Addr → TS} {Wo : WX}
theorem ps_try_keep (hs : X.stack = X.env :: X.outer) (hf : X.env.frame = some X.env.locals) (hN : X.N.Nodup) (hi : X.N[i]? = some n) (hln : X.env.kindOf n = some .local) (hc : Names X x c) (tk : Takes X Wo) (hex : X.ex = [])
    (hb : ∀ (W : WX) (pn : List (Addr × Obj)) (xe : Value → Shared → Prop), Takes (X.tr pn xe) W → PassesOwn (model X.prog X.w) X.A X.env xe → PSs (X.tr pn xe) body (tb W))
    (hsu : ∀ (a : Addr) (oe : Obj) (cls : Value) (d : Option Addr) (pn : List (Addr × Obj)), Zc cls d oe → (∃ vs, oe.data = .fields vs) → PSs (X.suite a ((a, oe) :: pn)) (b0 :: suite) (ts a cls d)) :
    PS X (.Try body [.ExceptHandler (some (.Name x np)) (some n) (b0 :: suite) pos'] [] [] pos) (fun D σ H => tb (wKeep X.K c i ts Wo D) D σ H) := by
  constructor
  intro pins s σ H D I h
  have ok := I.ok
  have frames : X.A.frames = some (X.env :: X.outer) := ok.frames.trans (by rw [hs])
  refine wpAny_Try_except ?_
  have run := (hb (wKeep X.K c i ts Wo D) (X.pn ++ pins)
    (fun e s1 => wpAny (model X.prog X.w) X.A (noteFrame e X.env)
      (fun _ s2 => wpAny (model X.prog X.w) X.A (setFlight e none)
        (fun _ s3 => wpAny (model X.prog X.w) X.A (handleBy e X.env [.ExceptHandler (some (.Name x np)) (some n) (b0 :: suite) pos']) (SP X pins D) X.xe s3) X.xe s2) X.xe s1)
    ?takes PassesOwn.looking).run [] s σ H D (I.toTry _) h
  case takes =>
    rintro u sE ⟨a, B, sI, pinsI, σI, HI, cls, d, rfl, JI, nb, up, sky, na, os, ag, b, hb1, hno, hyes⟩
    have J : Inv X pins σI HI sI := JI.ofTry ok
    rw [hs] at sky
    show wpAny (model X.prog X.w) X.A (noteFrame (.ref a) X.env) _ _ _
    refine Sky.land Zc.steady frames hf sky fun hA flA upA => ?_
    have upA' := up.trans upA
    have JA : Inv X pins σI HI { sE with heap := hA } := J.landed nb flA.1 upA' os ag
    obtain ⟨oA, vA, getA, zA, dA⟩ := flA.there
    have offFrames : a ∉ frs (X.env :: X.outer) := by
      intro hm
      obtain ⟨_, o2, e2, nofld⟩ := flA.2.2.1.mem hm
      rw [getA] at e2
      cases e2
      exact nofld _ dA
    have nL : a ≠ X.env.locals := fun q => offFrames (List.mem_filterMap.mpr ⟨X.env, List.mem_cons_self, hf.trans (by rw [q])⟩)
    have nF : a ∉ X.fs := fun hm => by
      obtain ⟨ev, hev, q⟩ := List.mem_filterMap.mp hm
      exact offFrames (List.mem_filterMap.mpr ⟨ev, List.mem_cons_of_mem _ hev, q⟩)
    have notI : sI.heap.get? a = none := by
      cases q : sI.heap.get? a with
      | none => rfl
      | some o =>
        have := nb a o q (by rw [hs]; exact offFrames)
        rw [flA.2.1] at this
        cases this
    have SA := JA.suite getA dA na nL nF
    have ty : PySem.W.Looks (model X.prog X.w) hA (typeOf (.ref a)) cls := fun A' Q' E' s' k q => wpAny_typeOf_ref (k _ _ getA) (by rw [zA.1]; exact q)
    have match_ := PySem.W.exm_one (M := model X.prog X.w) JA.kIn ty hb1
    have cls_ : ∀ {Q' : Value → Shared → Prop} {E' : Value → Shared → Prop}, Q' c { sE with heap := hA } → wpAny (model X.prog X.w) (X.A.mark (some (.ref a))) (eval (.Name x np) X.env) Q' E' { sE with heap := hA } := by
      intro Q' E' q
      obtain ⟨hg, hdbg, hm | ⟨hm, hv, hnn⟩⟩ := hc
      · exact ld_glob (X := X.suite a ((a, oA) :: (X.pn ++ pins))) SA hg hm q hdbg
      · exact ld_blt (X := X.suite a ((a, oA) :: (X.pn ++ pins))) SA hg hm hv q hnn hdbg
    refine wpAny_handleBy_cons (codeAny_handlers_test (cls_ (match_.here ?_))) (fun q => by cases q)
    cases b with
    | false =>
      show wpAny _ X.A (handleBy (.ref a) X.env []) _ _ _
      refine wpAny_handleBy_nil ?_
      have on : wpAny (model X.prog X.w) X.A (setFlight (.ref a) X.env.frame) (fun _ s4 => wpAny (model X.prog X.w) X.A (throw (.ref a) : Sem Flow) (SP X pins D) X.xe s4) X.xe { sE with heap := hA } := by
        rw [hf]
        refine HandSPX.setFlight_upZ flA fun hB heldB upB => wpAny_throw (tk _ _ ?_)
        exact ⟨a, B, sI, pins, σI, HI, cls, d, rfl, J, nb, upA'.trans upB, .inr (.inr (by rw [hs]; exact heldB)), na, os, ag, hno rfl⟩
      obtain ⟨_, _, _, o5, v5, T5, _, _, e5, _, d5, n5, _⟩ := id flA
      unfold PySem.passOn
      refine wpAny_bind (wpAny_field e5 d5 n5 ?_)
      rw [if_neg (by simp : ¬ ((Value.ref T5 == Value.none) = true))]
      first
        | exact wpAny_bind on
        | exact wpAny_bind (wpAny_pure (wpAny_bind on))
    | true =>
      refine codeAny_handlers_suite_as ?_
      refine HandSPX.lands_againZ flA fun hB flB upB => ?_
      have JB : Inv X pins σI HI { sE with heap := hB } := J.landed nb flB.1 (upA'.trans upB) os ag
      obtain ⟨oB, vB, getB, zB, dB⟩ := flB.there
      refine store_ok (X := X.suite a ((a, oB) :: (X.pn ++ pins))) (v := .ref a) (JB.suite getB dB na nL nF) hN hi (.inl hln) rfl (fun sC SC => ?_) (.inr hln)
      refine wpAny_mono ((hsu a oB cls d (X.pn ++ pins) zB ⟨_, dB⟩).run [] sC _ HI _ SC (hyes rfl a na)) (fun f sD out => ?_) (fun _ _ z => z.elim)
      cases f with
      | brk =>
        obtain ⟨_, _, _, q⟩ := out
        exact q.elim
      | cont =>
        obtain ⟨_, _, _, q⟩ := out
        exact q.elim
      | ret u =>
        obtain ⟨_, _, _, _, _, q⟩ := out
        exact q.elim
      | next =>
        obtain ⟨σD, HD, SD, qD⟩ := out
        refine gone_ok (X := X.suite a ((a, oB) :: (X.pn ++ pins))) SD hN hi hln fun sF SF => ?_
        exact ⟨_, _, lay_exc SF ok zB dB hex J (fun p hp => ⟨_, (J.pin p hp).1⟩) notI, qD⟩
  refine wpAny_mono run (fun f s1 out => ?_) fun _ _ z => z
  cases f with
  | next =>
    obtain ⟨σ2, H2, J2, q⟩ := out
    exact wpAny_execs_nil ⟨σ2, H2, J2.ofTry ok, q⟩
  | ret u =>
    obtain ⟨v, σ2, H2, J2, r, q⟩ := out
    exact ⟨v, σ2, H2, J2.ofTry ok, r, q⟩
  | brk =>
    obtain ⟨σ2, H2, J2, q⟩ := out
    exact ⟨σ2, H2, J2.ofTry ok, q⟩
  | cont =>
    obtain ⟨σ2, H2, J2, q⟩ := out
    exact ⟨σ2, H2, J2.ofTry ok, q⟩
end
end Own
set_option Elab.async false
set_option linter.all false
set_option maxRecDepth 100000
set_option maxHeartbeats 4000000
namespace Own
open PySem PySem.Spec PyProof.Rows L2 LamX
/-- the exceptions that leave a state of so many slots -/
theorem takes_len {X : Cx} {W : WX} (tk : Takes X W) : Takes X fun cls d σ H => σ.length = X.N.length → W cls d σ H := by
  rintro u s' ⟨a, B, sI, pins, σ, H, cls, d, e, I, nb, up, sky, na, os, ag, w⟩
  exact tk u s' ⟨a, B, sI, pins, σ, H, cls, d, e, I, nb, up, sky, na, os, ag, w I.len⟩
/-- what a def makes of the lambda that it calls within try: Rer is its reading behind an error that was caught, Rok that behind none -/
def TTh (K : PySem.W.Frag) (CS : Addr) (Rok : Hp → VK → Prop) (Rer : Value → Option Addr → Addr → Hp → VK → Prop) : (XK → Hp → VK → Prop) → Hp → VK → Prop := fun tl H Q =>
  tl (fun cls d H' => PySem.W.exmOne K cls (.ref CS) = some true ∧ ∀ a, H' a = none → Rer cls d a (upd H' a (exv cls d a)) Q) H fun _ H' => Rok H' Q
theorem pe_mono {X : Cx} {e : Expr} {te : TE} (h : PE X e te) : PE X e (fun σ H Q => ∃ Qa : VK, (∀ v H', Qa v H' → Q v H') ∧ te σ H Qa) := by
  constructor
  rintro pins s σ H Q I ⟨Qa, m, t⟩
  exact thn (h.run pins s σ H Qa I t) fun v s1 ⟨y, H1, I1, r, z⟩ => ⟨y, H1, I1, r, m _ _ z⟩
section
variable {X : Cx}
theorem heard_gives {Ng : List Str} {x a e q caught err : Str} {sg : Scope} {g CS : Addr} {cdg : Value} {i j : Nat} {pk p0 p1 p2 p3 p4 p5 p6 p7 p8 p9 pa : Pos} {rest : List Stmt} {tr : TS} {Rok : Hp → VK → Prop} {Rer : Value → Option Addr → Addr → Hp → VK → Prop}
    (hge : sg.names.lookup e = some .globalImplicit) (hme : X.mg e = some (.ref CS)) (hde : (e == ("__debug__" : Str)) = false) (h0 : ∀ f : Addr, (L2.start Ng [V.ref f])[0]? = some (some (V.ref f))) (j0 : j ≠ 0) (ij : i ≠ j) (lj : j < Ng.length) (li : i < Ng.length)
    (hN : Ng.Nodup) (hi : Ng[i]? = some err) (hj : Ng[j]? = some caught) (kj : sg.names.lookup caught = some .local) (ki : sg.names.lookup err = some .local) (sz : ∀ f : Addr, (L2.start Ng [V.ref f]).length = Ng.length)
    (hde2 : (err == ("__debug__" : Str)) = false) (hcd2 : (err == ("__classdict__" : Str)) = false)
    (hrest : ∀ (s : Shared) (H : Hp), PSs (cxOf C8.CX0 X.prog X.w X.K X.mg X.base Ng x sg g cdg X.A X.stack s H C8.E0).nox rest tr)
    (hok : ∀ (σ : L2.St) (H : Hp) (Q : VK), σ.length = Ng.length → σ[j]? = some (some .non) → Rok H Q → tr { nx := fun _ H' => Q .non H', rt := Q } σ H)
    (her : ∀ (σ : L2.St) (H : Hp) (Q : VK) (cls : Value) (d : Option Addr) (b : Addr), σ.length = Ng.length → σ[j]? = some (some (.ref b)) → H b = some (exv cls d b) → Rer cls d b H Q → tr { nx := fun _ H' => Q .non H', rt := Q } σ H) :
    GivesTo X Ng x sg g cdg (.Assign [.Name caught p0] (.Constant .none 0 pk) p1 :: .Try [.Expr (.Call (.Name a p2) [] [] p3) p4] [.ExceptHandler (some (.Name e p5)) (some err) [.Assign [.Name caught p6] (.Name err p7) p8] p9] [] [] pa :: rest) a q (TTh X.K CS Rok Rer) := by
  intro f c' s H Q tl act hc h
  have hgl : Gl (cxOf C8.CX0 X.prog X.w X.K X.mg X.base Ng x sg g cdg X.A X.stack s H C8.E0).nox e := hge
  refine ⟨_, pss_cons (ps_set (X := (cxOf C8.CX0 X.prog X.w X.K X.mg X.base Ng x sg g cdg X.A X.stack s H C8.E0).nox) (i := j) hN hj (Or.inl kj) pe_non)
    (pss_cons (ps_try_keep (X := (cxOf C8.CX0 X.prog X.w X.K X.mg X.base Ng x sg g cdg X.A X.stack s H C8.E0).nox) (c := .ref CS) (i := i)
      (tb := fun W D σ H => ∃ (Ex : XK) (Qa : VK), (∀ cls d σ' H', Ex cls d H' → σ'.length = Ng.length → W cls d σ' H') ∧ (∀ v H', Qa v H' → D.nx σ H') ∧ σ[0]? = some (some (.ref f)) ∧ H c' = some (CodeO c' q) ∧ tl Ex H Qa)
      (ts := fun b cls d => tAsg (tVar i) (gName j)) rfl rfl hN hi ki ⟨hgl, hde, .inl hme⟩ LamX.takes0 rfl (fun W pn xe tk _ => ?body) (fun b oe cls d pn _ _ => ?suite)) (hrest s H)), ?say⟩
  case body =>
    constructor
    rintro pins s' σ H' D I ⟨Ex, Qa, hW, hQ, h1, h2, h3⟩
    have hp := act _ pn xe Ex p2 p3 (takes_len tk) hW
    exact (pss_one (ps_expr (pos := p4) (pe_mono hp))).run pins s' σ H' D I ⟨Qa, fun v H1 z => hQ v H1 z, h1, h2, h3⟩
  case suite => exact pss_one (ps_set (i := j) hN hj (Or.inl kj) (pe_var (i := i) hi (Or.inl ki) hde2 hcd2))
  case say =>
    have n0 : j < (L2.start Ng [V.ref f]).length := by
      rw [sz]
      exact lj
    refine ⟨_, _, fun cls d σ' H' hE len => ⟨true, hE.1, fun z => (nomatch z), fun _ b hb => ?_⟩, fun v H' hv => ?_, ?_, hc, h⟩
    · refine ⟨.ref b, by rw [List.getElem?_set_self (by omega)], ?_⟩
      refine her _ _ Q cls d b (by simp [len]) ?_ upd_same (hE.2 b hb)
      rw [List.getElem?_set_ne ij, List.getElem?_set_self (by rw [List.length_set]; omega)]
    · exact hok _ H' Q (by rw [List.length_set, sz]) (by rw [List.getElem?_set_self n0]) hv
    · rw [List.getElem?_set_ne j0]
      exact h0 f
end
end Own
set_option Elab.async false
set_option linter.all false
set_option maxRecDepth 100000
set_option maxHeartbeats 4000000
namespace Own
open PySem PySem.Spec PyProof.Rows L2 LamX
abbrev emptyTab : Obj := { cls := .none, data := .fields #[] }
/-- b is one of the tables -/
def IsTab (cs : List (Addr × Addr)) (b : Addr) : Prop := b ∈ cs.map Prod.snd
instance (cs : List (Addr × Addr)) (b : Addr) : Decidable (IsTab cs b) := inferInstanceAs (Decidable (b ∈ cs.map Prod.snd))
theorem IsTab.ex {cs : List (Addr × Addr)} {b : Addr} (h : IsTab cs b) : ∃ p ∈ cs, p.2 = b := List.mem_map.mp h
theorem IsTab.of {cs : List (Addr × Addr)} {p : Addr × Addr} (h : p ∈ cs) : IsTab cs p.2 := List.mem_map.mpr ⟨p, h, rfl⟩
theorem law_callTG {P : Program} {w : World} {K : PySem.W.Frag} {mg mb : Str → Option Value} {k : Nat} {fa a : Addr} {cs : List (Addr × Addr)} {fd : FuncData} {x : Str} {sp : Sp} {s₁ : Shared} {vs : List Value} {ns : List Int}
    (inK : K.In s₁.heap) (top : s₁.heap.Ns mainGlobals mg) (bi : s₁.heap.Ns builtinsNs mb) (bt : ∀ x : Str, x ≠ "__name__" → mb x = bootBuiltins x) (lim : s₁.heap.NoLimit) (bare : s₁.gens = #[])
    (tabs : ∀ p ∈ cs, s₁.heap.get? p.2 = some emptyTab) (noK : ∀ p ∈ cs, K.lookup p.2 = none) (heads : ∀ p ∈ cs, PySem.W.CodeHd s₁.heap p.1 p.2)
    (bmod : ∃ (bm : Addr) (ob : Obj), mg "__builtins__" = some (.ref bm) ∧ bm ≠ builtinsNs ∧ s₁.heap.get? bm = some ob ∧ ob.cls = .type "module" ∧ ob.dict = some builtinsNs ∧ ob.data = .plain)
    (at_ : s₁.heap.get? a = some { cls := .type "list", data := .seq vs.toArray }) (iv : IntsAre vs ns) (small : ns.length ≤ sizeLine) (room : Room k callerA)
    (F : ∀ base : Heap, K.In base → base.Ns mainGlobals mg → (∀ p ∈ cs, TabB base mg p.1 p.2) → FnG P w K mg base CX0 k fa fd [x] sp) (bnd : ∀ (s : Shared) (u : Value), BindsTo s fd ⟨[u], []⟩ [(x, u)])
    (say : ∀ H : Hp, (∀ p ∈ cs, H p.2 = some (.tbl #[])) → SqL K H a (ns.map V.int) → sp [.ref a] H (fun v _ => v = .bl true) fun _ _ _ => False) :
    codeAny (model P w) callerA (.call (.ref fa) ⟨[.ref a], []⟩) (fun r s' => r = .ok (.ret (.bool true)) ∧ OldK s₁.heap s'.heap ∧ s'.os = s₁.os ∧ AllBare s'.gens) s₁ := by
  have rv := vals_ints iv
  have lenV := iv.length
  have tabAt : ∀ b, IsTab cs b → s₁.heap.get? b = some emptyTab := by
    intro b hb
    obtain ⟨p, hp, rfl⟩ := hb.ex
    exact tabs p hp
  have aNot : ¬ IsTab cs a := by
    intro z
    have e := at_.symm.trans (tabAt a z)
    cases Option.some.inj e
  have main : ∀ H : Hp, (∀ p ∈ cs, H p.2 = some (.tbl #[])) → (∀ b, H b = none ∨ IsTab cs b ∨ ∃ o xs, H b = some (.frz o (.lst xs))) → SqL K H a (ns.map V.int) → HOk P w H s₁.heap → (∀ b, H b ≠ none → b = a ∨ IsTab cs b) → (H a ≠ none → K.lookup a = none) →
      codeAny (model P w) callerA (.call (.ref fa) ⟨[.ref a], []⟩) (fun r s' => r = .ok (.ret (.bool true)) ∧ OldK s₁.heap s'.heap ∧ s'.os = s₁.os ∧ AllBare s'.gens) s₁ := by
    intro H hT shape sq hok just free
    -- what is neither a list nor an empty record is not told
    have not_ : ∀ {b : Addr} {o : Obj}, s₁.heap.get? b = some o → (∀ us m, o.data ≠ .seq us m) → o.data ≠ .fields #[] → H b = none := by
      intro b o e n1 n2
      by_cases q : H b = none
      · exact q
      · rcases just b q with rfl | q
        · rw [at_] at e
          cases e
          exact (n1 _ _ rfl).elim
        · rw [tabAt b q] at e
          cases e
          exact (n2 rfl).elim
    have notD : ∀ {b : Addr} {o : Obj} {es : Array DictEntry} {ep : Nat}, s₁.heap.get? b = some o → o.data = .dict es ep → H b = none := by
      intro b o es ep e d
      refine not_ e (fun us m z => ?_) fun z => ?_ <;> · rw [d] at z; cases z
    have ns_ : ∀ {b : Addr} {m : Str → Option Value}, s₁.heap.Ns b m → (hidT s₁.heap H).Ns b m := by
      rintro b m ⟨o, es, ep, e, d, r⟩
      exact ⟨o, es, ep, hidT_get e (notD e d), d, r⟩
    have k_ : K.In (hidT s₁.heap H) := by
      intro b o e
      refine hidT_get (inK b o e) ?_
      by_cases q : H b = none
      · exact q
      · rcases just b q with rfl | z
        · rw [free q] at e
          cases e
        · obtain ⟨p, hp, rfl⟩ := z.ex
          rw [noK p hp] at e
          cases e
    obtain ⟨mc, l1, l2⟩ := lim
    have M : Mod K mg (hidT s₁.heap H) := ⟨k_, ns_ top, ⟨mb, ns_ bi, bt⟩, ⟨mc, ns_ l1, l2⟩⟩
    have TB : ∀ p ∈ cs, TabB (hidT s₁.heap H) mg p.1 p.2 := by
      intro p hp
      have pT := tabs p hp
      obtain ⟨oG, esG, epG, eG, dG, _⟩ := id top
      refine ⟨?code, ?mod, fun z => ?_⟩
      case code =>
        obtain ⟨o, us, file, tf, flags, tg, inF, text, tt, e1, r1, r2, r3, more⟩ := heads p hp
        refine ⟨o, us, file, tf, flags, tg, inF, text, tt, hidT_get e1 (not_ e1 (fun vs m z => ?_) fun z => ?_), r1, r2, r3, more⟩
        · exact Data.noConfusion (r2.symm.trans z)
        · have z2 := r2.symm.trans z
          cases z2
          simp at r3
      case mod =>
        obtain ⟨bm, ob, b1, b2, b3, b4, b5, b6⟩ := bmod
        refine ⟨bm, ob, b1, b2, ?_, ?_, hidT_get b3 (not_ b3 (fun vs m z => Data.noConfusion (b6.symm.trans z)) fun z => Data.noConfusion (b6.symm.trans z)), b4, b5, b6⟩
        · rintro rfl
          rw [eG] at b3
          cases b3
          exact Data.noConfusion (dG.symm.trans b6)
        · rintro rfl
          rw [pT] at b3
          cases b3
          cases b6
      · rw [z, pT] at eG
        cases eG
        cases dG
    have E0 : Env0 P w K mg (hidT s₁.heap H) callerA [] s₁ H :=
      ⟨rfl, M, fun b o e => of_hidT e, Nat.le_of_eq (hidT_size _ _), trivial, fun b hb => (List.not_mem_nil (show b ∈ ([] : List Addr) from hb)).elim, hok, .of_eq bare⟩
    refine codeAny_mono ((F _ k_ (ns_ top) TB).run callerA [] s₁ H ⟨[.ref a], []⟩ [.ref a] [.ref a] _ _ room rfl E0 (bnd s₁ (.ref a)) (.cons rfl .nil) (say H hT sq)) ?_
    intro r s' h
    match r, h with
    | .error e, h => exact h.elim
    | .ok .next, h => exact h.elim
    | .ok .brk, h => exact h.elim
    | .ok .cont, h => exact h.elim
    | .ok (.ret u), h =>
      obtain ⟨v, G, os, br, un, hk2, r1, q⟩ := h
      cases (show v = V.bl true from q)
      cases (show u = Value.bool true from r1)
      have kept : ∀ b o, ¬ IsTab cs b → s₁.heap.get? b = some o → s'.heap.get? b = some o := by
        intro b o nb e
        by_cases q : H b = none
        · exact un.keep b o e q (fun z => (List.not_mem_nil (show b ∈ ([] : List Addr) from z)).elim) (by simp)
        · rcases shape b with z | z | ⟨ob, xs, z⟩
          · exact (q z).elim
          · exact (nb z).elim
          · have y1 := (hok b _ z).1
            have y2 := (hk2 b _ (un.frzs b ob _ z)).1
            rw [e] at y1
            cases y1
            exact y2
      have grown : ∀ p ∈ cs, ∃ more : Array Value, s'.heap.get? p.2 = some { cls := .none, data := .fields more } := by
        intro p hp
        obtain ⟨more, z⟩ := un.tbls p.2 #[] (hT p hp)
        exact ⟨_, hk2 p.2 _ z⟩
      refine ⟨rfl, ⟨fun b o e => ?_, fun b o e => ?_⟩, os, br⟩
      · by_cases hb : IsTab cs b
        · obtain ⟨p, hp, rfl⟩ := hb.ex
          obtain ⟨more, hm⟩ := grown p hp
          have e' := (tabs p hp).symm.trans e
          cases Option.some.inj e'
          refine .inr (.inl ⟨((heads p hp).tab (tabs p hp)).isCodeTable, rfl, #[], more, rfl, ?_⟩)
          rw [Array.empty_append]
          exact hm
        · exact .inl (kept b o hb e)
      · by_cases hb : IsTab cs b
        · obtain ⟨p, hp, rfl⟩ := hb.ex
          obtain ⟨more, hm⟩ := grown p hp
          exact ⟨_, hm⟩
        · exact ⟨o, kept b o hb e⟩
  have lenOk : (ns.map V.int).length ≤ sizeLine := by rw [List.length_map]; exact small
  by_cases hk : K.lookup a = none
  · refine main (fun b => if b = a then some (HO.frz { cls := .type "list", data := .seq vs.toArray } (.lst (ns.map V.int))) else if IsTab cs b then some (.tbl #[]) else none) (fun p hp => ?_) (fun b => ?_) (.inl (.inr ⟨_, if_pos rfl⟩)) (fun b u z => ?_) (fun b z => ?_) fun _ => hk
    · show (if p.2 = a then _ else _) = _
      rw [if_neg (fun z => aNot (by rw [← z]; exact IsTab.of hp)), if_pos (IsTab.of hp)]
    · show (if b = a then _ else _) = none ∨ _ ∨ ∃ o xs, (if b = a then _ else _) = _
      by_cases hb : b = a
      · exact .inr (.inr ⟨_, _, if_pos hb⟩)
      · by_cases hb2 : IsTab cs b
        · exact .inr (.inl hb2)
        · exact .inl (by rw [if_neg hb, if_neg hb2])
    · have z' : (if b = a then some (HO.frz { cls := .type "list", data := .seq vs.toArray } (.lst (ns.map V.int))) else if IsTab cs b then some (.tbl #[]) else none) = some u := z
      by_cases hb : b = a
      · subst hb
        rw [if_pos rfl] at z'
        cases z'
        exact ⟨at_, lenOk, vs, _, rv, at_⟩
      · rw [if_neg hb] at z'
        by_cases hb2 : IsTab cs b
        · rw [if_pos hb2] at z'
          cases z'
          exact tabAt b hb2
        · rw [if_neg hb2] at z'
          cases z'
    · by_cases hb : b = a
      · exact .inl hb
      · by_cases hb2 : IsTab cs b
        · exact .inr hb2
        · exact (z (show (if b = a then _ else _) = none by rw [if_neg hb, if_neg hb2])).elim
  · obtain ⟨o, ho⟩ := Option.ne_none_iff_exists'.mp hk
    have e := inK a o ho
    rw [at_] at e
    cases e
    refine main (fun b => if IsTab cs b then some (.tbl #[]) else none) (fun p hp => if_pos (IsTab.of hp)) (fun b => ?_) (.inr ⟨_, vs.toArray, _, ho, rfl, rfl, rfl, by rw [List.size_toArray, lenV]; exact small, by simpa using rv⟩) (fun b u z => ?_) (fun b z => ?_)
      (fun z => (z (if_neg aNot)).elim)
    · by_cases hb : IsTab cs b
      · exact .inr (.inl hb)
      · exact .inl (if_neg hb)
    · have z' : (if IsTab cs b then some (HO.tbl #[]) else none) = some u := z
      by_cases hb : IsTab cs b
      · rw [if_pos hb] at z'
        cases z'
        exact tabAt b hb
      · rw [if_neg hb] at z'
        cases z'
    · by_cases hb : IsTab cs b
      · exact .inr hb
      · exact (z (if_neg hb)).elim
/-- what is known of the law's own def where it is called, tables told -/
def LawTG (l : PySem.W.OpenLaw) (w : World) (K : PySem.W.Frag) (k n : Nat) (x : Str) (mg : Str → Option Value) (fa : Addr) (h : Heap) : Prop :=
  ∃ (fd : FuncData) (cs : List (Addr × Addr)) (sp : Sp), (∀ p ∈ cs, h.get? p.2 = some emptyTab) ∧ (∀ p ∈ cs, K.lookup p.2 = none) ∧ (∀ p ∈ cs, PySem.W.CodeHd h p.1 p.2) ∧ (∀ (s : Shared) (u : Value), BindsTo s fd ⟨[u], []⟩ [(x, u)]) ∧
    (∀ (H : Hp) (a : Addr) (ns : List Int), ns.length ≤ n → (∀ z ∈ ns, Builtin.Int.intBits z ≤ 1048576) → (∀ p ∈ cs, H p.2 = some (.tbl #[])) → SqL K H a (ns.map V.int) → sp [.ref a] H (fun v _ => v = .bl true) fun _ _ _ => False) ∧
    ∀ base : Heap, K.In base → base.Ns mainGlobals mg → (∀ p ∈ cs, TabB base mg p.1 p.2) → FnG l.prog w K mg base CX0 k fa fd [x] sp
theorem walk_ofTG {l : PySem.W.OpenLaw} {n k : Nat} {q : Program} {loose : List Str} {XP : (Str → Option Value) → Heap → Prop} {YP : World → Heap → Prop} {d : DefRec} {K : Params → PySem.W.Frag} {x : Str}
    (hn : l.most = some n) (hn2 : n ≤ sizeLine) (hdf : d.params.defaults = []) (room : Room k callerA) (hY : ∀ (w : World) (h : Heap), YP w h → (K w.params).In h)
    (F : ∀ (w : World) (mg : Str → Option Value) (fa : Addr) (h : Heap), YP w h → (K w.params).In h → h.Ns mainGlobals mg → mg d.name = some (.ref fa) → LawTG l w (K w.params) k n x mg fa h) :
    PySem.W.WalkO q loose XP YP l.row.toRowW d [] (fun f vs => PySem.call f vs) := by
  refine Att.attach_callB hn hdf ?_
  intro w s₀ s₁ mg mb fa o pm cd doc a vs ns G Y ho hd hcd hmg hobj iv hlen hbits hg
  have inK := hY w _ Y
  obtain ⟨fd, cs, sp, hT, nT, C, hb, hsp, hF⟩ := F w mg fa _ Y inK G.T.g hmg
  exact law_callTG inK G.T.g G.T.b G.T.builtins G.T.nolimit hg hT nT C G.T.bmain hobj iv (Nat.le_trans hlen hn2) room hF hb fun H hH hS => hsp H a ns hlen hbits hH hS
end Own
set_option Elab.async false
set_option linter.all false
set_option maxRecDepth 100000
set_option maxHeartbeats 4000000
/-! calls of defs that may raise -/
namespace Own
open PySem PySem.Spec PyProof.Rows L2
/-- a def of the top that may raise, with all that a call wants -/
structure CalX (P : Program) (w : World) (K : PySem.W.Frag) (mg : Str → Option Value) (base : Heap) (k : Nat) (x : Str) (ps : List Str) (sp : Sp) : Prop where
  ex : ∃ f fd, FnOk P w K mg base (L2.CX P w) k f fd ps sp ∧ mg x = some (.ref f) ∧ PySem.W.keepIn K (.ref f) = true ∧ Binds K fd ps []
/-- .. called by keyword only -/
structure CalXK (P : Program) (w : World) (K : PySem.W.Frag) (mg : Str → Option Value) (base : Heap) (k : Nat) (x : Str) (ps ks : List Str) (gV : List V → List V) (sp : Sp) : Prop where
  ex : ∃ f fd g, FnOk P w K mg base (L2.CX P w) k f fd ps sp ∧ mg x = some (.ref f) ∧ PySem.W.keepIn K (.ref f) = true ∧ KBn K fd ps 0 ks g (fun _ zs => gV zs)
theorem pass_no {X : Cx} (σ : L2.St) : PassesAt (L2.CX X.prog X.w) X σ (fun _ _ _ => False) := by
  intro pins H s e s' I c
  obtain ⟨_, _, _, _, _, _, _, _, _, _, _, _, z⟩ := c
  exact z.elim
section
variable {X : Cx} {k : Nat} {x : Str} {ps ks : List Str} {sp : Sp} {p pos : Pos} {e : Expr} {es : List Expr} {kws : List Keyword} {t tk : TA} {W : WX} {gV : List V → List V}
/-- f(e, ..) where it is known that nothing is raised -/
theorem pe_calX (C : CalX X.prog X.w X.K X.mg X.base k x ps sp) (room : Room k X.A) (ha : PA X (e :: es) t) (hg : Gl X x := by rfl) (hdb : (x == ("__debug__" : Str)) = false := by decide)
    (he : starEach (e :: es) X.env = (false, eval e X.env) :: starEach es X.env := by rfl) (hpl : (backTo pos (starEach es X.env)).any (·.1) = false := by rfl) :
    PE X (.Call (.Name x p) (e :: es) [] pos) (tCallS sp (fun _ _ _ _ => False) t) := by
  obtain ⟨f, fd, F, m, kp, b⟩ := C.ex
  exact pe_callS F room hg m kp b (fun σ => pass_no σ) ha hdb he hpl
/-- f(e, ..) where the context takes what is raised -/
theorem pe_calE (C : CalX X.prog X.w X.K X.mg X.base k x ps sp) (tk : Takes X W) (room : Room k X.A) (ha : PA X (e :: es) t) (hg : Gl X x := by rfl) (hdb : (x == ("__debug__" : Str)) = false := by decide)
    (he : starEach (e :: es) X.env = (false, eval e X.env) :: starEach es X.env := by rfl) (hpl : (backTo pos (starEach es X.env)).any (·.1) = false := by rfl) :
    PE X (.Call (.Name x p) (e :: es) [] pos) (tCallS sp (fun σ => WE W σ) t) := by
  obtain ⟨f, fd, F, m, kp, b⟩ := C.ex
  exact pe_callS F room hg m kp b (fun σ => passAt tk σ) ha hdb he hpl
end
theorem passes_no {X : Cx} : Passes (L2.CX X.prog X.w) X (fun _ _ _ => False) := by
  intro pins σ H s e s' I c
  obtain ⟨_, _, _, _, _, _, _, _, _, _, _, _, z⟩ := c
  exact z.elim
section
variable {X : Cx} {k : Nat} {x : Str} {ps ks : List Str} {sp : Sp} {p pos : Pos} {kws : List Keyword} {tk : TA} {gV : List V → List V}
/-- f(k = v, ..) where it is known that nothing is raised -/
theorem pe_calXK (C : CalXK X.prog X.w X.K X.mg X.base k x ps ks gV sp) (room : Room k X.A) (hkw : PK X kws tk) (hg : Gl X x := by rfl) (hall : (backToKw pos (keywordEach kws X.env)).all (·.1.isSome) = true := by rfl)
    (hks : (backToKw pos (keywordEach kws X.env)).filterMap (·.1) = ks := by rfl) (hdb : (x == ("__debug__" : Str)) = false := by decide)
    (hpl : ((backTo pos (starEach [] X.env)).any (·.1) || (backToKw pos (keywordEach kws X.env)).any (·.1.isNone)) = false := by rfl) :
    PE X (.Call (.Name x p) [] kws pos) (tKw ks.length sp gV tk) := by
  obtain ⟨f, fd, g, F, m, kp, b⟩ := C.ex
  constructor
  intro pins s σ H Q I h
  refine wpAny_Call_Name_kw (ld_glob I hg m ?_ hdb)
  refine PySem.W.callWith_KW0 (h₀ := X.base) I.ok.mod.kin kp hall (thn (hkw.run pos pins s σ H _ I h) ?_) hpl
  rintro ws s2 ⟨zs, H2, I2, rz, l, q⟩
  refine ⟨I2.kIn, ?_⟩
  rw [hks]
  exact run_fnN (vs := []) (us := []) F room b passes_no I2 .nil rz rfl l q
end
/-- an exception class of one field, as a raise wants it -/
structure Rcl (P : Program) (w : World) (K : PySem.W.Frag) (mg : Str → Option Value) (base : Heap) (x : Str) (C : Addr) (fld : Str) : Prop where
  o : OexC K C
  at_ : mg x = some (.ref C)
  no : PySem.W.findIn K (.ref C) fld = some none
  ex : ∃ fI fd ps, PySem.W.findIn K (.ref C) "__init__" = some (some (.ref fI)) ∧ PySem.W.typeIn K (.ref fI) = some (.type "function") ∧ FnOk P w K mg base CX0 1 fI fd ps (spI1 K fld) ∧ Binds K fd ps []
theorem upd_del {H : Hp} {a d : Addr} {o1 o2 o3 u : HO} (ha : H a = none) (hd : d ≠ a) : L2.upd (L2.del (L2.upd (L2.upd (L2.upd H a o1) d o2) a o3) a) d u = L2.upd H d u := by
  funext b
  by_cases hb : b = d
  · subst hb
    rw [upd_same, upd_same]
  · rw [upd_ne hb, upd_ne hb]
    by_cases h : b = a
    · subst h
      rw [del_same, ha]
    · rw [del_ne h, upd_ne h, upd_ne hb, upd_ne h]
section
variable {X : Cx} {x fld : Str} {C : Addr} {p pos pos2 : Pos} {e : Expr} {te : TE} {W : WX}
/-- raise C(e) -/
theorem ps_raise1 (R : Rcl X.prog X.w X.K X.mg X.base x C fld) (hc : X.calm = true) (tk : Takes X W) (room : Room 2 X.A) (he : PE X e te) (hg : Gl X x := by rfl) (hdb : (x == ("__debug__" : Str)) = false := by decide)
    (hst : starEach [e] X.env = (false, eval e X.env) :: starEach [] X.env := by rfl) (hpl : (backTo pos (starEach [] X.env)).any (·.1) = false := by rfl) :
    PS X (.Raise (some (.Call (.Name x p) [e] [] pos)) none pos2) (fun _ σ H => te σ H fun y H1 => ∀ d, H1 d = none → W (.ref C) (some d) σ (upd H1 d (.xd [(fld, y)]))) := by
  obtain ⟨fI, fd, ps, iC, tI, F1, hb⟩ := R.ex
  have mk := pmk_oex (p := p) (pos := pos) R.o iC tI F1 room hb .nil pass0 hg R.at_ (pa_cons (pe_mono he) pa_nil hst) hdb hst hpl
  constructor
  intro pins s σ H D I h
  refine (ps_raise (pos := pos2) hc tk mk).run pins s σ H D I ⟨_, fun y H1 q => ?_, h⟩
  refine ⟨by show 1 ≤ 1000; decide, fun a ha => ?_⟩
  refine ⟨a, C, y, rfl, R.o, R.no, upd_same, fun dx hdx ne => ⟨rfl, dx, [(fld, y)], upd_same, Eq.trans (upd_ne ne) upd_same, ?_, ?_⟩⟩
  · rw [upd_ne ne] at hdx
    exact hdx
  · rw [upd_ne ne] at hdx
    rw [upd_del ha ne]
    exact q dx hdx
end
/-! rules whose reading names the written part, for another context than the def's own -/
theorem call_isXK {X : Cx} {K : PySem.W.Frag} (hK : X.K = K) : CallR X (.builtin "isinstance") (rIsX K) := hK ▸ call_isX
theorem call_isiK {X : Cx} {K : PySem.W.Frag} (hK : X.K = K) : CallR X (.builtin "isinstance") (rIsi K) := hK ▸ call_isi
theorem pe_exfL {X : Cx} {K : PySem.W.Frag} {e : Expr} {f : Str} {te : TE} {pos : Pos} (hK : X.K = K) (he : PE X e te) (hb : attributeBase e f X.env (eval e X.env) = eval e X.env := by rfl) : PE X (.Attribute e f pos) (tExF K f te) := hK ▸ pe_exf he hb
end Own
set_option Elab.async false
set_option linter.all false
set_option maxRecDepth 100000
set_option maxHeartbeats 4000000
/-! values of any kind, and what the checks tell of them -/
namespace Own
open PySem PySem.Spec PyProof.Rows L2
inductive An (H : Hp) : V → Prop
  | non : An H .non
  | bl (b : Bool) : An H (.bl b)
  | int (i : Int) : An H (.int i)
  | str {s : Str} (h : s.length ≤ 100000) : An H (.str s)
  | lst {a : Addr} {xs : List V} (h : H a = some (.lst xs)) : An H (.ref a)
  | tup {a : Addr} {xs : List V} (h : H a = some (.tup xs)) : An H (.ref a)
  | dK {a : Addr} {kvs : List (Key × V)} (h : H a = some (.dK kvs)) : An H (.ref a)
def tn (H : Hp) : V → String
  | .non => "NoneType"
  | .bl _ => "bool"
  | .int _ => "int"
  | .str _ => "str"
  | .ref a => match H a with
    | some (.lst _) => "list"
    | some (.tup _) => "tuple"
    | some (.dK _) => "dict"
    | _ => "?"
  | _ => "?"
def isT (n : String) (H : Hp) (v : V) : Bool := (tn H v == n) || ((n == "int") && (tn H v == "bool"))
theorem An.tyx {K : PySem.W.Frag} {H : Hp} {v : V} (h : An H v) : TyX K H v (.type (tn H v)) := by
  cases h with
  | non => exact .base .non
  | bl b => exact .base (.bl b)
  | int i => exact .base (.int i)
  | str h => exact .base (.str _)
  | @lst a xs h =>
    have e : tn H (.ref a) = "list" := by simp only [tn, h]
    rw [e]; exact .base (.lst h)
  | @tup a xs h =>
    have e : tn H (.ref a) = "tuple" := by simp only [tn, h]
    rw [e]; exact .base (.tup h)
  | @dK a kvs h =>
    have e : tn H (.ref a) = "dict" := by simp only [tn, h]
    rw [e]; exact .base (.dK h)
theorem tn_in {H : Hp} {v : V} (h : An H v) : tn H v ∈ ["NoneType", "bool", "int", "str", "list", "tuple", "dict"] := by
  cases h with
  | non => simp [tn]
  | bl b => simp [tn]
  | int i => simp [tn]
  | str h => simp [tn]
  | lst h => simp [tn, h]
  | tup h => simp [tn, h]
  | dK h => simp [tn, h]
theorem kits : ∀ a ∈ ["NoneType", "bool", "int", "str", "list", "tuple", "dict"], ∀ n ∈ ["int", "bool", "str", "list", "tuple"], kitB a n = some ((a == n) || ((n == "int") && (a == "bool"))) := by decide +kernel
theorem An.kit {K : PySem.W.Frag} {H : Hp} {v : V} {n : String} (h : An H v) (hn : n ∈ ["int", "bool", "str", "list", "tuple"]) : PySem.W.kitOne K (.type (tn H v)) (.type n) = some (isT n H v) := kit_ty (kits _ (tn_in h) _ hn)
def isI : V → Bool
  | .int _ => true
  | _ => false
theorem isI_an {H : Hp} {v : V} (h : An H v) : isI v = (isT "int" H v && !isT "bool" H v) := by
  cases h with
  | non => simp [isI, isT, tn]
  | bl b => simp [isI, isT, tn]
  | int i => simp [isI, isT, tn]
  | str h => simp [isI, isT, tn]
  | lst h => simp [isI, isT, tn, h]
  | tup h => simp [isI, isT, tn, h]
  | dK h => simp [isI, isT, tn, h]
theorem An.mono {H H' : Hp} {v : V} (s : Same H H') (h : An H v) : An H' v := by
  cases h with
  | non => exact .non
  | bl b => exact .bl b
  | int i => exact .int i
  | str h => exact .str h
  | lst h => exact .lst (s _ _ h)
  | tup h => exact .tup (s _ _ h)
  | dK h => exact .dK (s _ _ h)
theorem tn_mono {H H' : Hp} {v : V} (s : Same H H') (h : An H v) : tn H' v = tn H v := by
  cases h with
  | non => rfl
  | bl b => rfl
  | int i => rfl
  | str h => rfl
  | lst h => simp only [tn, h, s _ _ h]
  | tup h => simp only [tn, h, s _ _ h]
  | dK h => simp only [tn, h, s _ _ h]
def leB : V → V → Bool
  | .int i, .int j => decide (i ≤ j)
  | _, _ => true
def inB (v lo hi : V) : Bool := isI v && (leB lo v && leB v hi)
def Bd (v : V) : Prop := v = .non ∨ ∃ i, v = .int i
theorem ite_and {c : Bool} {A : Prop} {Q : VK} {b : Bool} {H : Hp} (q : Q (.bl (c && b)) H) (h : c = true → Q (.bl b) H → A) : if c = true then A else Q (.bl false) H := by
  cases c with
  | false => exact q
  | true => exact h rfl q
theorem isI_or {v : V} : (∃ i, v = .int i) ∨ isI v = false := by
  cases v <;> first | exact .inl ⟨_, rfl⟩ | exact .inr rfl
def rowB (H : Hp) (v : V) (a b : Int) : Bool := match v with
  | .ref p => match H p with
    | some (.lst xs) => decide (a ≤ xs.length) && decide ((xs.length : Int) ≤ b)
    | some (.tup xs) => decide (a ≤ xs.length) && decide ((xs.length : Int) ≤ b)
    | _ => false
  | _ => false
def sigB : V → Int → Int → Bool
  | .str s, a, b => decide (a ≤ s.length) && (decide ((s.length : Int) ≤ b) && decide (Txt.stripChars s "01" = ""))
  | _, _, _ => false
theorem isT_str {H : Hp} {v : V} (ha : An H v) : (∃ s : Str, v = .str s ∧ s.length ≤ 100000 ∧ isT "str" H v = true) ∨ (isT "str" H v = false ∧ ∀ a b, sigB v a b = false) := by
  cases ha with
  | str h => exact .inl ⟨_, rfl, h, rfl⟩
  | non => exact .inr ⟨rfl, fun _ _ => rfl⟩
  | bl b => exact .inr ⟨rfl, fun _ _ => rfl⟩
  | int i => exact .inr ⟨rfl, fun _ _ => rfl⟩
  | lst h => exact .inr ⟨by simp [isT, tn, h], fun _ _ => rfl⟩
  | tup h => exact .inr ⟨by simp [isT, tn, h], fun _ _ => rfl⟩
  | dK h => exact .inr ⟨by simp [isT, tn, h], fun _ _ => rfl⟩
def nameB (v : V) : Bool := sigB v 1 60
def items (H : Hp) : V → List V
  | .ref p => match H p with
    | some (.lst xs) => xs
    | some (.tup xs) => xs
    | _ => []
  | _ => []
structure An2 (H : Hp) (v : V) : Prop where
  an : An H v
  it : ∀ x ∈ items H v, An H x
theorem items_mono {H H' : Hp} {v : V} (s : Same H H') (h : An H v) : items H' v = items H v := by
  cases h with
  | non => rfl
  | bl b => rfl
  | int i => rfl
  | str h => rfl
  | lst h => simp only [items, h, s _ _ h]
  | tup h => simp only [items, h, s _ _ h]
  | dK h => simp only [items, h, s _ _ h]
theorem An2.mono {H H' : Hp} {v : V} (s : Same H H') (h : An2 H v) : An2 H' v :=
  ⟨h.an.mono s, fun x hx => (h.it x (by rw [items_mono s h.an] at hx; exact hx)).mono s⟩
def partB (x : V) : Bool := inB x (.int 1) (.int 1000000)
def pairB (H : Hp) (v : V) : Bool := rowB H v 2 2 && (items H v).all partB
def spIsInt : Sp := fun vs H Q _ => ∃ v, vs = [v] ∧ An H v ∧ Q (.bl (isI v)) H
def spWithin : Sp := fun vs H Q _ => ∃ v lo hi, vs = [v, lo, hi] ∧ An H v ∧ Bd lo ∧ Bd hi ∧ Q (.bl (inB v lo hi)) H
def spRow : Sp := fun vs H Q _ => ∃ v a b, vs = [v, .int a, .int b] ∧ An H v ∧ ∀ H', Same H H' → Q (.bl (rowB H v a b)) H'

def spSig : Sp := fun vs H Q _ => ∃ v a b, vs = [v, .int a, .int b] ∧ An H v ∧ Q (.bl (sigB v a b)) H
def spAny1 (r : Hp → V → Bool) : Sp := fun vs H Q _ => ∃ v, vs = [v] ∧ An H v ∧ Q (.bl (r H v)) H
def spPair : Sp := fun vs H Q _ => ∃ v, vs = [v] ∧ An2 H v ∧ ∀ H', Same H H' → Q (.bl (pairB H v)) H'
end Own
set_option Elab.async false
set_option linter.all false
set_option maxRecDepth 100000
set_option maxHeartbeats 4000000
/-! sorted of texts, any number of them -/
namespace Own
open PySem PySem.Spec PyProof.Rows L2
def txV : Value → Str
  | .str z _ => z
  | _ => ""
def ltV (v u : Value) : Bool := decide ((txV v).cps.toList < (txV u).cps.toList)
theorem swo_txt : SrtO.Swo ltV := by
  constructor
  · intro v u h
    have h1 := of_decide_eq_true h
    exact decide_eq_false (List.lt_asymm h1)
  · intro x y z h1 h2
    have a := of_decide_eq_false h1
    have b := of_decide_eq_false h2
    refine decide_eq_false ?_
    rw [List.not_lt] at a b ⊢
    exact List.le_trans a b
theorem strs_all : ∀ {vs : List Value} {zs : List Str}, StrsAre vs zs → ∀ v ∈ vs, ∃ z t, v = Value.str z t
  | _, _, .nil, _, h => nomatch h
  | _, _, .cons z t r, v, h => by
    cases h with
    | head => exact ⟨z, t, rfl⟩
    | tail _ h => exact strs_all r v h
theorem strs_of : ∀ {vs : List Value}, (∀ v ∈ vs, ∃ z t, v = Value.str z t) → StrsAre vs (vs.map txV)
  | [], _ => .nil
  | v :: vs, h => by
    obtain ⟨z, t, rfl⟩ := h v (.head _)
    exact .cons z t (strs_of fun u hu => h u (.tail _ hu))
theorem strs_txV : ∀ {vs : List Value} {zs : List Str}, StrsAre vs zs → vs.map txV = zs
  | _, _, .nil => rfl
  | _, _, .cons z t r => congrArg (z :: ·) (strs_txV r)
/-- sorted(xs), texts, any number of them -/
def rSortedL (K : PySem.W.Frag) : List V → Hp → VK → Prop := fun vs H Q => ∃ (a : Addr) (xs : List Str), vs = [V.ref a] ∧ SqL K H a (xs.map V.str) ∧
  ∀ (ys : List Str) (p : Addr), ys.Perm xs → ys.Pairwise (fun x y => ¬ y.cps.toList < x.cps.toList) → H p = none → Q (.ref p) (upd H p (.lst (ys.map V.str)))
theorem cr_sortedL {X : Cx} : CallR X (.builtin "sorted") (rSortedL X.K) := by
  intro pins s σ H vs us Q I r h
  obtain ⟨a, xs, rfl, hs, q⟩ := h
  obtain ⟨its, rv, hl, hz⟩ := I.list hs
  rw [Vals.ref1 r]
  have hS := rv.strs
  refine SrtO.sorted_ord swo_txt hl.isList (by rw [← rv.length]; exact hz) (fun h2 h₁ a' _ _ => ?_) fun out h1 h2 => ?_
  · intro h' _
    refine ⟨oneType', fun Q E hq => ?_, fun p q hp hq => ?_⟩
    · match its, hS, h2 with
      | v1 :: v2 :: rest, hS, _ =>
        rw [keyKind_strs hS]
        exact wpAny_pure hq
      | [v], _, h => exact absurd h (by simp)
      | [], _, h => exact absurd h (by simp)
    · obtain ⟨z, t, e⟩ := strs_all hS _ hp
      obtain ⟨z', t', e'⟩ := strs_all hS _ hq
      show wpAny _ _ (keyLt' oneType' p.1 q.1) (fun r s' => s' = _ ∧ r = ltV p.1 q.1) _ _
      rw [e, e', keyLt'_oneType]
      exact oneLt_str ⟨rfl, rfl⟩
  · have all := strs_all hS
    have k1 : StrsAre out (out.map txV) := strs_of fun v hv => all v (h2.perm.mem_iff.mp hv)
    have k2 : (out.map txV).Perm xs := by
      have e := h2.perm.map txV
      rw [strs_txV hS] at e
      exact e
    have k3 : (out.map txV).Pairwise (fun x y => ¬ y.cps.toList < x.cps.toList) := List.pairwise_map.mpr (h1.imp fun {x y} h => of_decide_eq_false (p := (txV y).cps.toList < (txV x).cps.toList) h)
    obtain ⟨ep, at_⟩ := PyProof.Rows.sortedAll_at s.heap its out.toArray
    have few : ((out.map txV).map V.str).length ≤ sizeLine := by
      rw [List.length_map] at hz ⊢
      rw [k2.length_eq]
      exact hz
    exact ⟨.ref _, upd H (s.heap.objs.size + 1) (.lst ((out.map txV).map V.str)), I.laid (t' := s.toks) (fun _ _ => PyProof.Rows.sortedAll_old) (Nat.le_succ _) ⟨few, out, ep, vals_of_strs k1, at_⟩, rfl, q _ _ k2 k3 (I.hok.fresh (Nat.le_succ _))⟩
/-- what sorted answers of the texts at a -/
def SortsTo (xs : List Str) (H : Hp) (Q : VK) : Prop := ∀ (ys : List Str) (p : Addr), ys.Perm xs → ys.Pairwise (fun x y => ¬ y.cps.toList < x.cps.toList) → H p = none → Q (.ref p) (upd H p (.lst (ys.map V.str)))
theorem txt_sortable {prog : Program} {w : World} {A : Around} {s : Shared} {a : Addr} {its : List Value} {zs : List Str} (hS : StrsAre its zs) (h2 : 2 ≤ its.length) : SrtO.SortableO prog w A s a its ltV := by
  intro h' _
  refine ⟨oneType', fun Q E hq => ?_, fun p q hp hq => ?_⟩
  · match its, hS, h2 with
    | v1 :: v2 :: rest, hS, _ =>
      rw [keyKind_strs hS]
      exact wpAny_pure hq
    | [v], _, h => exact absurd h (by simp)
    | [], _, h => exact absurd h (by simp)
  · obtain ⟨z, t, e⟩ := strs_all hS _ hp
    obtain ⟨z', t', e'⟩ := strs_all hS _ hq
    show wpAny _ _ (keyLt' oneType' p.1 q.1) (fun r s' => s' = _ ∧ r = ltV p.1 q.1) _ _
    rw [e, e', keyLt'_oneType]
    exact oneLt_str ⟨rfl, rfl⟩
theorem txt_out {its out : List Value} {xs : List Str} (hS : StrsAre its xs) (h1 : SrtO.Srtd ltV out) (h2 : SrtO.Stb ltV out its) :
    StrsAre out (out.map txV) ∧ (out.map txV).Perm xs ∧ (out.map txV).Pairwise (fun x y => ¬ y.cps.toList < x.cps.toList) := by
  have all := strs_all hS
  refine ⟨strs_of fun v hv => all v (h2.perm.mem_iff.mp hv), ?_, ?_⟩
  · have e := h2.perm.map txV
    rw [strs_txV hS] at e
    exact e
  · exact List.pairwise_map.mpr (h1.imp fun {x y} h => of_decide_eq_false (p := (txV y).cps.toList < (txV x).cps.toList) h)
/-- the items of a list or a tuple, gathered: the heap behind it -/
theorem gather {prog : Program} {w : World} {A : Around} {E : Value → Shared → Prop} {s : Shared} {Q : List Value → Shared → Prop} (it : Addr) {T : String} {o : Obj} {items : Array Value} {n : Nat} (hT : T = "list" ∨ T = "tuple")
    (ho : s.heap.get? it = some o) (hc : o.cls = .type T) (hd : o.data = .seq items n) (hsz : items.size ≤ sizeLine)
    (hQ : ∀ h', s.heap.objs.size ≤ h'.objs.size → (∀ b u, s.heap.get? b = some u → h'.get? b = some u) → Q items.toList { s with heap := h' }) : wpAny (model prog w) A (collect (.ref it)) Q E s := by
  let new : Obj := { cls := .type "list", data := .seq ([] : List Value).toArray }
  let h2 : Heap := (s.heap.push new).update s.heap.objs.size (Obj.mapSeq (· ++ items))
  have at0 : (s.heap.push new).get? s.heap.objs.size = some { cls := .type "list", data := .seq #[] 0 } := Heap.get?_push_size _ rfl
  have at2 := Heap.get?_update_self (Obj.mapSeq (· ++ items)) at0 rfl
  have sz2 : s.heap.objs.size ≤ h2.objs.size := by
    show s.heap.objs.size ≤ ((s.heap.push new).update s.heap.objs.size (Obj.mapSeq (· ++ items))).objs.size
    rw [Heap.size_update, Heap.size_push]
    exact Nat.le_succ _
  have keep2 : ∀ b u, s.heap.get? b = some u → h2.get? b = some u := fun b u e =>
    (Heap.get?_update_other _ _ (Nat.ne_of_gt (Heap.lt_size e))).trans (Heap.get?_push_of_some _ e)
  unfold collect
  refine wpAny_bind (wpAny_runValue (codeAny_builtin F.entry_proto_collect ?_))
  rw [Around.under_plainId (A := A) F.plain_proto_collect _]
  show wpAny _ A.in1 (newList [] >>= fun l => again (.builtin "list.__iadd__" ⟨[l, .ref it], []⟩)) _ _ s
  refine wpAny_bind (wpAny_newObj_type (wpAny_pure ⟨plainId_quiet F.plain_list_iadd _, codeAny_builtin F.entry_list_iadd ?_⟩))
  rw [Around.under_plainId (A := A) F.plain_list_iadd _]
  show wpAny _ A.in1 (Builtin.List.listExtendWith (.ref s.heap.objs.size) (.ref it) (.ref s.heap.objs.size)) _ _ { s with heap := s.heap.push new }
  have last : wpAny (model prog w) A (do
      match (← load s.heap.objs.size).data with
      | .seq xs _ => pure xs.toList
      | _ => unsupported "internal:collect") Q E { s with heap := h2 } := by
    refine wpAny_bind (wpAny_load at2 (wpAny_pure ?_))
    have e : ((#[] : Array Value) ++ items).toList = items.toList := by simp
    show Q ((#[] : Array Value) ++ items).toList _
    rw [e]
    exact hQ _ sz2 keep2
  refine wpAny_mono (wpAny_extend_seq (hsz := hsz) (A := A) (R := fun r s' => r = .ok (.ret (.ref s.heap.objs.size)) ∧ s' = { s with heap := h2 }) (s := { s with heap := s.heap.push new })
    _ it _ 0 hT at0 (Heap.get?_push_of_some _ ho) hc hd ⟨rfl, rfl⟩) (fun fin s' z => ?_) (fun e s' z => by cases z.1)
  match fin, z with
  | .done f, z =>
    obtain ⟨e, rfl⟩ := z
    cases e
    exact last
  | .again c, z =>
    refine ⟨z.1, codeAny_mono z.2 fun r s2 q => ?_⟩
    obtain ⟨rfl, rfl⟩ := q
    exact last
/-- sorted(xs), a list or a tuple of texts -/
def rSortedA (K : PySem.W.Frag) : List V → Hp → VK → Prop := fun vs H Q => ∃ (a : Addr) (xs : List Str), vs = [V.ref a] ∧ (SqL K H a (xs.map V.str) ∨ SqT K H a (xs.map V.str)) ∧ SortsTo xs H Q
theorem cr_sortedA {X : Cx} : CallR X (.builtin "sorted") (rSortedA X.K) := by
  intro pins s σ H vs us Q I r h
  obtain ⟨a, xs, rfl, hs | hs, q⟩ := h
  · exact cr_sortedL pins s σ H _ us Q I r ⟨a, xs, rfl, hs, q⟩
  · obtain ⟨its, rv, ⟨o, ho, hc, n, hd⟩, hz⟩ := I.tuple hs
    rw [Vals.ref1 r]
    have hS := rv.strs
    have len : its.length = xs.length := by rw [← rv.length, List.length_map]
    have zl : its.length ≤ sizeLine := by rw [len]; rw [List.length_map] at hz; exact hz
    refine Calls.call_function_entry kind_sorted plain_sorted entry_sorted (args_sorted1 _) ?_
    unfold Builtin.«sorted»
    refine wpAny_bind (m := checkCount "sorted" 1 1 _) (wpAny_pure ?_)
    refine wpAny_bind (gather a (.inr rfl) ho hc hd (by rw [List.size_toArray]; exact zl) fun h1 big keep1 => ?_)
    have hz1 : its.toArray.toList.length ≤ sizeLine := zl
    refine wpAny_bind (wpAny_newList ?_ hz1)
    have at1 : (h1.push (seqObj "list" its.toArray 0)).get? h1.objs.size = some (seqObj "list" its.toArray 0) := Heap.get?_push_size _ rfl
    refine wpAny_bind (wpAny_holding (wpAny_call_entry slot_list_sort ⟨_, at1, rfl⟩ entry_list_sort (SrtO.list_sort_ord (vs := its) swo_txt at1 zl (fun h2 => txt_sortable hS h2) fun out o1 o2 => ⟨_, rfl, ?_⟩) (args_list_sort _)))
    obtain ⟨k1, k2, k3⟩ := txt_out hS o1 o2
    obtain ⟨ep, at_⟩ := PyProof.Rows.sortedHeap_at (vs := its) (out := out.toArray) at1
    have few : ((out.map txV).map V.str).length ≤ sizeLine := by
      rw [List.length_map, k2.length_eq]
      rw [len] at zl
      exact zl
    refine wpAny_pure ⟨_, rfl, .ref h1.objs.size, upd H h1.objs.size (.lst ((out.map txV).map V.str)), I.laid (t' := s.toks) (fun b u e => ?_) big ⟨few, out, ep, vals_of_strs k1, at_⟩, rfl, q _ _ k2 k3 (I.hok.fresh big)⟩
    have lt : b < h1.objs.size := Heap.lt_size (keep1 b u e)
    rw [PyProof.Rows.sortedHeap_old (Nat.ne_of_lt lt) (Heap.lt_size (Heap.get?_push_of_some _ (keep1 b u e)))]
    exact Heap.get?_push_of_some _ (keep1 b u e)
end Own
set_option Elab.async false
set_option linter.all false
set_option maxRecDepth 100000
set_option maxHeartbeats 4000000
/-! texts as lists of signs: none of which begins another one -/
namespace Own
open PySem PySem.Spec PyProof.Rows
def ApartL (l : List (List Nat)) : Prop := l.Pairwise fun a b => ¬ a <+: b ∧ ¬ b <+: a
theorem ApartL.perm {l m : List (List Nat)} (p : l.Perm m) : ApartL l ↔ ApartL m := p.pairwise_iff fun ⟨h1, h2⟩ => ⟨h2, h1⟩
theorem pre_le : ∀ {a b : List Nat}, a <+: b → ¬ b < a
  | [], _, _ => List.not_lt_nil _
  | x :: a, b, h => by
    cases b with
    | nil => simp at h
    | cons y b =>
      rw [List.cons_prefix_cons] at h
      obtain ⟨rfl, h⟩ := h
      intro z
      rcases List.cons_lt_cons_iff.mp z with q | ⟨_, q⟩
      · exact Nat.lt_irrefl _ q
      · exact pre_le h q
theorem le_pre : ∀ {a b c : List Nat}, ¬ b < a → ¬ c < b → a <+: c → a <+: b
  | [], b, _, _, _, _ => List.nil_prefix
  | x :: a, b, c, h1, h2, h => by
    cases c with
    | nil => simp at h
    | cons y c =>
      rw [List.cons_prefix_cons] at h
      obtain ⟨rfl, h⟩ := h
      cases b with
      | nil => exact (h1 (List.nil_lt_cons _ _)).elim
      | cons z b =>
        rw [List.cons_lt_cons_iff, not_or] at h1 h2
        have e : x = z := by omega
        subst e
        rw [List.cons_prefix_cons]
        exact ⟨rfl, le_pre (fun q => h1.2 ⟨rfl, q⟩) (fun q => h2.2 ⟨rfl, q⟩) h⟩
theorem le_anti {a b : List Nat} (h1 : ¬ b < a) (h2 : ¬ a < b) : a = b := by
  rw [List.not_lt] at h1 h2
  exact List.le_antisymm h1 h2
/-- of each two neighbours the first begins the second somewhere -/
def adj : List (List Nat) → Bool
  | a :: b :: r => a.isPrefixOf b || adj (b :: r)
  | _ => false
theorem adj_iff : ∀ {l : List (List Nat)}, l.Pairwise (fun x y => ¬ y < x) → (adj l = true ↔ ¬ ApartL l)
  | [], _ => by simp [adj, ApartL]
  | [a], _ => by simp [adj, ApartL]
  | a :: b :: r, h => by
    have h' := List.pairwise_cons.mp h
    have ih := adj_iff h'.2
    have hb := (List.pairwise_cons.mp h'.2).1
    have key : (∀ y ∈ b :: r, ¬ a <+: y ∧ ¬ y <+: a) ↔ ¬ a <+: b := by
      constructor
      · intro k
        exact (k b List.mem_cons_self).1
      · intro k y hy
        have up : ¬ y < b := by
          rcases List.mem_cons.mp hy with rfl | hy
          · exact List.lt_irrefl _
          · exact hb y hy
        have one : ¬ a <+: y := fun z => k (le_pre (h'.1 b List.mem_cons_self) up z)
        refine ⟨one, fun z => one ?_⟩
        have e := le_anti (h'.1 y hy) (pre_le z)
        rw [← e]
        exact List.prefix_rfl
    have eq : ApartL (a :: b :: r) ↔ ¬ a <+: b ∧ ApartL (b :: r) := by
      unfold ApartL
      rw [List.pairwise_cons, key]
    rw [eq]
    show (a.isPrefixOf b || adj (b :: r)) = true ↔ _
    rw [Bool.or_eq_true, List.isPrefixOf_iff_prefix, ih, Classical.not_and_iff_not_or_not, Classical.not_not]
theorem adj_range : ∀ l : List (List Nat), adj l = ((List.range (l.length - 1)).map fun i => (l.getD i []).isPrefixOf (l.getD (i + 1) [])).any id
  | [] => rfl
  | [_] => rfl
  | a :: b :: r => by
    have ih := adj_range (b :: r)
    show (a.isPrefixOf b || adj (b :: r)) = _
    rw [ih, show (a :: b :: r).length - 1 = ((b :: r).length - 1) + 1 by simp, List.range_succ_eq_map]
    simp [List.any_map, Function.comp_def]
end Own
namespace Own
open PySem PySem.Spec PyProof.Rows
theorem starts_pre (x y : Str) : Txt.startswith x y = (y.cps.toList).isPrefixOf x.cps.toList := by
  have lx : x.cps.toList.length = x.length := by simp [Str.length]
  have ly : y.cps.toList.length = y.length := by simp [Str.length]
  unfold Txt.startswith
  rw [StrLaws.subAt_eq, List.drop_zero, Bool.eq_iff_iff, Bool.and_eq_true, decide_eq_true_eq, beq_iff_eq, List.isPrefixOf_iff_prefix, List.prefix_iff_eq_take, ly]
  constructor
  · intro h
    exact h.2.symm
  · intro h
    refine ⟨?_, h.symm⟩
    have e := congrArg List.length h
    rw [List.length_take, lx, ly] at e
    omega
end Own
set_option Elab.async false
set_option linter.all false
set_option maxRecDepth 100000
set_option maxHeartbeats 4000000
/-! [f(x) for x in xs], where nothing that stood before is changed -/
namespace Own
open PySem PySem.Spec PyProof.Rows L2
theorem same_app {H H' : Hp} {D : Addr} {o o' : HO} (s : Same (upd H D o) H') (hD : H D = none) : Same H (upd H' D o') := fun b u e => by
  have nb := ne_of_none e hD
  rw [upd_ne nb]
  exact s b u ((upd_ne nb).trans e)
theorem lc_map {J : It} {xs : List V} {G : Hp → Prop} {f : V → V} {te : TE} {vs : List Nat} {σ : L2.St} {H1 : Hp} {D : Addr} {Qd : Hp → Prop} {j : Nat} (w : Walk J xs.length G (YAt xs)) (hD : H1 D = none) (hG : ∀ H', Same H1 H' → G H') (few : xs.length ≤ sizeLine)
    (wp : ∀ x : V, wipe ((wipe σ vs).set j (some x)) vs = wipe σ vs)
    (hs : ∀ (i : Nat) (x : V) (H' : Hp) (R : VK), xs[i]? = some x → Same H1 H' → (∀ H'', Same H' H'' → R (f x) H'') → te ((wipe σ vs).set j (some x)) H' R) (hd : ∀ H', Same H1 H' → H' D = some (.lst (xs.map f)) → Qd H') :
    ∃ W : Nat → Nat → Hp → Prop, (∃ m, W 0 m (upd H1 D (.lst []))) ∧ ∀ i m H, W i m H →
      (J.stop i H ∧ Qd H) ∨ (J.go i H ∧ ∃ Nx : Hp → Prop, (∀ H', Nx H' → ∃ m', m' < m ∧ W (i + 1) m' H') ∧ ∀ x H', J.yld i H x H' → gName j x (wipe σ vs) H' fun σ2 H2 => wipe σ2 vs = wipe σ vs ∧ tYes σ2 H2 fun b H3 =>
        if b = true then te σ2 H3 fun y H4 => ∃ acc, H4 D = some (.lst acc) ∧ acc.length < sizeLine ∧ Nx (upd H4 D (.lst (acc ++ [y]))) else Nx H3) := by
  refine lc_it w (fun i H' => Same H1 H' ∧ H' D = some (.lst ((xs.take i).map f))) ⟨same_new hD, by rw [upd_same]; rfl⟩ (fun _ _ _ p => hG _ p.1) (fun i x H H' hi ⟨s, hl⟩ y => ?_) (fun H' ⟨s, hl⟩ => hd H' s (by rw [hl, List.take_length]))
  obtain ⟨rfl, hx⟩ := y
  refine ⟨wp x, yes_if ?_⟩
  refine hs i x H' _ hx s fun H2 s2 => ?_
  refine ⟨_, s2 _ _ hl, ?_, same_mut (s.trans s2) hD, ?_⟩
  · rw [List.length_map, List.length_take]
    omega
  · rw [upd_same, take_map_succ _ hx]
end Own
namespace Own
open PySem PySem.Spec PyProof.Rows L2
theorem take_rng {n i : Nat} (f : Nat → V) (_h : i < n) : (List.range (i + 1)).map f = (List.range i).map f ++ [f i] := by
  rw [List.range_succ, List.map_append]
  rfl
/-- .. over what yields f0 0, f0 1, .. -/
theorem lc_rng {J : It} {n : Nat} {G : Hp → Prop} {f0 f : Nat → V} {te : TE} {vs : List Nat} {σ : L2.St} {H1 : Hp} {D : Addr} {Qd : Hp → Prop} {j : Nat} (w : Walk J n G (YFn f0)) (hD : H1 D = none) (hG : ∀ H', Same H1 H' → G H') (few : n ≤ sizeLine)
    (wp : ∀ x : V, wipe ((wipe σ vs).set j (some x)) vs = wipe σ vs)
    (hs : ∀ (i : Nat) (H' : Hp) (R : VK), i < n → Same H1 H' → (∀ H'', Same H' H'' → R (f i) H'') → te ((wipe σ vs).set j (some (f0 i))) H' R) (hd : ∀ H', Same H1 H' → H' D = some (.lst ((List.range n).map f)) → Qd H') :
    ∃ W : Nat → Nat → Hp → Prop, (∃ m, W 0 m (upd H1 D (.lst []))) ∧ ∀ i m H, W i m H →
      (J.stop i H ∧ Qd H) ∨ (J.go i H ∧ ∃ Nx : Hp → Prop, (∀ H', Nx H' → ∃ m', m' < m ∧ W (i + 1) m' H') ∧ ∀ x H', J.yld i H x H' → gName j x (wipe σ vs) H' fun σ2 H2 => wipe σ2 vs = wipe σ vs ∧ tYes σ2 H2 fun b H3 =>
        if b = true then te σ2 H3 fun y H4 => ∃ acc, H4 D = some (.lst acc) ∧ acc.length < sizeLine ∧ Nx (upd H4 D (.lst (acc ++ [y]))) else Nx H3) := by
  refine lc_it w (fun i H' => Same H1 H' ∧ H' D = some (.lst ((List.range i).map f))) ⟨same_new hD, by rw [upd_same]; rfl⟩ (fun _ _ _ p => hG _ p.1) (fun i x H H' hi ⟨s, hl⟩ y => ?_) (fun H' ⟨s, hl⟩ => hd H' s hl)
  obtain ⟨rfl, rfl⟩ := y
  refine ⟨wp _, yes_if ?_⟩
  refine hs i H' _ hi s fun H2 s2 => ?_
  refine ⟨_, s2 _ _ hl, ?_, same_mut (s.trans s2) hD, ?_⟩
  · rw [List.length_map, List.length_range]
    omega
  · rw [upd_same, take_rng f hi]
end Own
namespace Own
open PySem PySem.Spec PyProof.Rows L2
/-! rules whose reading names the written part, for a comprehension's own context -/
theorem ix_listK {X : Cx} {K : PySem.W.Frag} (hK : X.K = K) : IxR X (rIxL K) := hK ▸ ix_list
theorem pe_bmK {X : Cx} {K : PySem.W.Frag} {o e : Expr} {es : List Expr} {to : TE} {t : TA} {name : Str} {apos cpos : Pos} {T id : String} {r : V → List V → Hp → VK → Prop} (hK : X.K = K) (pa : PlainAttrs T) (slot : Slot T name id) (hty : typeOf (.builtin id) = pure (.type "method_descriptor")) (hm : MtR X id r) (ho : PE X o to) (ha : PA X (e :: es) t)
    (hbase : attributeBase o name X.env (eval o X.env) = eval o X.env := by rfl)
    (hfew : ((backTo cpos (starEach (e :: es) X.env)).all (fun x => !x.1) && (backToKw cpos (keywordEach [] X.env)).all (fun x => x.1.isSome)
      && decide ((e :: es).length + ([] : List Keyword).length + (if ([] : List Keyword).isEmpty then 0 else 1) < 30)) = true := by rfl)
    (hline : (apos.endLine == cpos.line) = true := by rfl) (hs : starEach (e :: es) X.env = (false, eval e X.env) :: starEach es X.env := by rfl) (hplain : (backTo cpos (starEach es X.env)).any (·.1) = false := by rfl) :
    PE X (.Call (.Attribute o name apos) (e :: es) [] cpos) (tBM K T r to t) := hK ▸ pe_bm pa slot hty hm ho ha hbase hfew hline hs hplain
end Own
set_option Elab.async false
set_option linter.all false
set_option maxRecDepth 100000
set_option maxHeartbeats 4000000
namespace K06
open PySem PySem.Spec PyProof.Rows L2 Own
def top (i : Nat) : Stmt := PySem.Challenge.pw_duetickers_k06_texts_cut_into_names.main.body.getD i (.Pass ⟨0, 0, 0, 0⟩)
abbrev s_is_row : Stmt := top 6
abbrev N_is_row : List Str := ["value", "least", "most"]
theorem sc_is_row : FnScope N_is_row ["value", "least", "most"] (defScope s_is_row) := ⟨rfl, rfl, rfl, by decide +kernel, rfl, by decide +kernel, by decide +kernel⟩
abbrev s_is_signs : Stmt := top 7
abbrev N_is_signs : List Str := ["value", "least", "most"]
theorem sc_is_signs : FnScope N_is_signs ["value", "least", "most"] (defScope s_is_signs) := ⟨rfl, rfl, rfl, by decide +kernel, rfl, by decide +kernel, by decide +kernel⟩
abbrev s_is_name : Stmt := top 8
abbrev N_is_name : List Str := ["value"]
theorem sc_is_name : FnScope N_is_name ["value"] (defScope s_is_name) := ⟨rfl, rfl, rfl, by decide +kernel, rfl, by decide +kernel, by decide +kernel⟩
abbrev s_need_names : Stmt := top 12
abbrev N_need_names : List Str := ["names", "name"]
theorem sc_need_names : FnScope N_need_names ["names"] (defScope s_need_names) := ⟨rfl, rfl, rfl, by decide +kernel, rfl, by decide +kernel, by decide +kernel⟩
abbrev s_need_apart : Stmt := top 13
abbrev N_need_apart : List Str := ["names"]
theorem sc_need_apart : FnScope N_need_apart ["names"] (defScope s_need_apart) := ⟨rfl, rfl, rfl, by decide +kernel, rfl, by decide +kernel, by decide +kernel⟩
abbrev s_are_apart : Stmt := top 14
abbrev N_are_apart : List Str := ["names", "ordered", "place"]
theorem sc_are_apart : FnScope N_are_apart ["names"] (defScope s_are_apart) := ⟨rfl, rfl, rfl, by decide +kernel, rfl, by decide +kernel, by decide +kernel⟩
abbrev s_cut_text : Stmt := top 15
abbrev N_cut_text : List Str := ["names", "text", "name", "places", "found", "start", "place"]
theorem sc_cut_text : FnScope N_cut_text ["names", "text"] (defScope s_cut_text) := ⟨rfl, rfl, rfl, by decide +kernel, rfl, by decide +kernel, by decide +kernel⟩
abbrev s_name_at : Stmt := top 16
abbrev N_name_at : List Str := ["text", "start", "places", "length", "piece"]
theorem sc_name_at : FnScope N_name_at ["text", "start", "places"] (defScope s_name_at) := ⟨rfl, rfl, rfl, by decide +kernel, rfl, by decide +kernel, by decide +kernel⟩
abbrev s__law_tailor : Stmt := top 18
abbrev N__law_tailor : List Str := ["script", "cell"]
theorem sc__law_tailor : FnScope N__law_tailor ["script"] (defScope s__law_tailor) := ⟨rfl, rfl, rfl, by decide +kernel, rfl, by decide +kernel, by decide +kernel⟩
abbrev s__law_shear : Stmt := top 19
abbrev N__law_shear : List Str := ["tailor", "many", "left", "turn", "cell", "mixed"]
theorem sc__law_shear : FnScope N__law_shear ["tailor", "many"] (defScope s__law_shear) := ⟨rfl, rfl, rfl, by decide +kernel, rfl, by decide +kernel, by decide +kernel⟩
abbrev s__law_cloth : Stmt := top 20
abbrev N__law_cloth : List Str := ["tailor", "some"]
theorem sc__law_cloth : FnScope N__law_cloth ["tailor", "some"] (defScope s__law_cloth) := ⟨rfl, rfl, rfl, by decide +kernel, rfl, by decide +kernel, by decide +kernel⟩
abbrev s__law_ends : Stmt := top 21
abbrev N__law_ends : List Str := ["tailor", "begin", "deep", "way"]
theorem sc__law_ends : FnScope N__law_ends ["tailor", "begin", "deep"] (defScope s__law_ends) := ⟨rfl, rfl, rfl, by decide +kernel, rfl, by decide +kernel, by decide +kernel⟩
abbrev s__law_names : Stmt := top 22
abbrev N__law_names : List Str := ["tailor", "left", "found", "one", "turn"]
theorem sc__law_names : FnScope N__law_names ["tailor"] (defScope s__law_names) := ⟨rfl, rfl, rfl, by decide +kernel, rfl, by decide +kernel, by decide +kernel⟩
abbrev s__law_cut : Stmt := top 23
abbrev N__law_cut : List Str := ["names", "text", "found", "at", "turn", "fit", "place", "name"]
theorem sc__law_cut : FnScope N__law_cut ["names", "text"] (defScope s__law_cut) := ⟨rfl, rfl, rfl, by decide +kernel, rfl, by decide +kernel, by decide +kernel⟩
abbrev s__law_bent : Stmt := top 24
abbrev N__law_bent : List Str := ["tailor", "text", "at", "way", "turn"]
theorem sc__law_bent : FnScope N__law_bent ["tailor", "text"] (defScope s__law_bent) := ⟨rfl, rfl, rfl, by decide +kernel, rfl, by decide +kernel, by decide +kernel⟩
abbrev s__law_heard : Stmt := top 25
abbrev N__law_heard : List Str := ["ask", "caught", "error", "word", "is_so"]
theorem sc__law_heard : FnScope N__law_heard ["ask"] (defScope s__law_heard) := ⟨rfl, rfl, rfl, by decide +kernel, rfl, by decide +kernel, by decide +kernel⟩
abbrev s__law_refused_right : Stmt := top 26
abbrev N__law_refused_right : List Str := ["tailor", "names", "heard", "close", "none", "odd"]
theorem sc__law_refused_right : FnScope N__law_refused_right ["tailor", "names"] (defScope s__law_refused_right) := ⟨rfl, rfl, rfl, by decide +kernel, rfl, by decide +kernel, by decide +kernel⟩
abbrev s_law : Stmt := top 27
abbrev N_law : List Str := ["script", "tailor", "turn", "names", "kept", "row", "text", "step", "place", "lap", "bent"]
theorem sc_law : FnScope N_law ["script"] (defScope s_law) := ⟨rfl, rfl, rfl, by decide +kernel, rfl, by decide +kernel, by decide +kernel⟩
abbrev s_BadName_init : Stmt := inClass (top 2) 0
abbrev N_BadName_init : List Str := ["self", "part"]
theorem sc_BadName_init : FnScope N_BadName_init ["self", "part"] (defScope s_BadName_init) := ⟨rfl, rfl, rfl, by decide +kernel, rfl, by decide +kernel, by decide +kernel⟩
abbrev s_Misfit_init : Stmt := inClass (top 3) 0
abbrev N_Misfit_init : List Str := ["self", "part"]
theorem sc_Misfit_init : FnScope N_Misfit_init ["self", "part"] (defScope s_Misfit_init) := ⟨rfl, rfl, rfl, by decide +kernel, rfl, by decide +kernel, by decide +kernel⟩
structure Txt (mg : Str → Option Value) : Prop where
  b_isinstance : mg "isinstance" = none
  b_list : mg "list" = none
  b_tuple : mg "tuple" = none
  b_len : mg "len" = none
  b_str : mg "str" = none
  b_all : mg "all" = none
  b_sorted : mg "sorted" = none
  b_any : mg "any" = none
  b_range : mg "range" = none
  b_enumerate : mg "enumerate" = none
  b_int : mg "int" = none
  b_abs : mg "abs" = none
  b_repr : mg "repr" = none
  b_ValueError : mg "ValueError" = none
  g_MOST_SIGNS : ∃ t, mg "MOST_SIGNS" = some (.int 60 t)
  g_MOST_NAMES : ∃ t, mg "MOST_NAMES" = some (.int 200 t)
  g_MOST_TEXT : ∃ t, mg "MOST_TEXT" = some (.int 2000 t)
section
variable {P : Program} {w : World} {K : PySem.W.Frag} {mg : Str → Option Value} {base : Heap}
theorem ok_is_row {f : Addr} {fd : FuncData} (F : Fun K "is_row" "is_row" s_is_row f fd) (T : Txt mg) : FnOk P w K mg base CX0 1 f fd ["value", "least", "most"] spRow := by
  refine F.ok sc_is_row (fun vs H Q E h => ?_) (fun cdv A outer s H vs Q E hr h => ?_)
  · obtain ⟨v, lo, hi, rfl, _⟩ := h
    rfl
  · obtain ⟨v, lo, hi, rfl, ha, q⟩ := h
    refine ⟨_, (pss_one (ps_ret (pe_and (pe_callB call_isiT (by rfl) T.b_isinstance boot_isinstance (pa_cons (pv 0) (pa_cons (pe_tup (pa_cons (pe_ty T.b_list boot_list) (pa_cons (pe_ty T.b_tuple boot_tuple) pa_nil))) pa_nil))) (pe_one (pe_chain op_le op_le (pv 1) (pe_callB call_len_seq (by rfl) T.b_len boot_len (pa_cons (pv 0) pa_nil)) (pv 2)))))), ?_⟩
    refine ⟨v, rfl, by show 2 ≤ sizeLine; decide, fun tp htp => ?_⟩
    have sm : Same H (upd H tp (.tup [.ty "list", .ty "tuple"])) := fun b o e => by
      rw [upd_ne (ne_of_none e htp)]
      exact e
    refine ⟨v, tp, _, _, [.type "list", .type "tuple"], isT "list" H v || isT "tuple" H v, rfl, upd_same, .cons (.ty _) (.cons (.ty _) .nil), (ha.mono sm).tyx, ?_, _, rfl, ?_⟩
    · have e : tn (upd H tp (.tup [.ty "list", .ty "tuple"])) v = tn H v := tn_mono sm ha
      rw [e]
      refine kitAny_cons (b := isT "list" H v) (ha.kit (by decide)) (fun h => ?_) (fun h => by rw [h]; rfl)
      rw [h]
      exact kitAny_cons (b := isT "tuple" H v) (ha.kit (by decide)) (fun h => by rw [h]; rfl) (fun h => by rw [h]; rfl)
    · have q1 := q _ sm
      cases ha with
      | @lst a xs h =>
        have e : (isT "list" H (.ref a) || isT "tuple" H (.ref a)) = true := by simp [isT, tn, h]
        rw [e]
        have e2 : rowB H (.ref a) lo hi = (decide (lo ≤ xs.length) && decide ((xs.length : Int) ≤ hi)) := by simp [rowB, h]
        rw [e2] at q1
        refine iteT ⟨_, rfl, _, rfl, a, xs, rfl, .inl (SqL.of (sm _ _ h)), _, _, rfl, rfl, _, rfl, ?_⟩
        exact ite_and q1 fun _ q => ⟨_, rfl, _, _, rfl, rfl, q⟩
      | @tup a xs h =>
        have e : (isT "list" H (.ref a) || isT "tuple" H (.ref a)) = true := by simp [isT, tn, h]
        rw [e]
        have e2 : rowB H (.ref a) lo hi = (decide (lo ≤ xs.length) && decide ((xs.length : Int) ≤ hi)) := by simp [rowB, h]
        rw [e2] at q1
        refine iteT ⟨_, rfl, _, rfl, a, xs, rfl, .inr (SqT.of (sm _ _ h)), _, _, rfl, rfl, _, rfl, ?_⟩
        exact ite_and q1 fun _ q => ⟨_, rfl, _, _, rfl, rfl, q⟩
      | @dK a kvs h =>
        have e : (isT "list" H (.ref a) || isT "tuple" H (.ref a)) = false := by simp [isT, tn, h]
        rw [e]
        have e2 : rowB H (.ref a) lo hi = false := by simp [rowB, h]
        rw [e2] at q1
        exact iteF q1
      | non => exact q1
      | bl b => exact q1
      | int i => exact q1
      | str h => exact q1
theorem ok_is_signs {f : Addr} {fd : FuncData} (F : Fun K "is_signs" "is_signs" s_is_signs f fd) (T : Txt mg) : FnOk P w K mg base CX0 1 f fd ["value", "least", "most"] spSig := by
  refine F.ok sc_is_signs (fun vs H Q E h => ?_) (fun cdv A outer s H vs Q E hr h => ?_)
  · obtain ⟨v, lo, hi, rfl, _⟩ := h
    rfl
  · obtain ⟨v, lo, hi, rfl, ha, q⟩ := h
    refine ⟨_, (pss_one (ps_ret (pe_and (pe_callB call_isi (by rfl) T.b_isinstance boot_isinstance (pa_cons (pv 0) (pa_cons (pe_ty T.b_str boot_str) pa_nil))) (pe_and (pe_chain op_le op_le (pv 1) (pe_callB call_len_str (by rfl) T.b_len boot_len (pa_cons (pv 0) pa_nil)) (pv 2)) (pe_one (pe_cmpR op_eq (pe_bm PySem.F.plainAttrs_str PySem.F.slot_str_strip PySem.F.type_str_strip mt_stripChars (pv 0) (pa_cons pe_str pa_nil)) pe_str (nomark _))))))), ?_⟩
    refine ⟨v, rfl, v, .ty "str", _, _, _, rfl, .ty _, ha.tyx, ha.kit (by decide), _, rfl, ?_⟩
    rcases isT_str ha with ⟨z, rfl, hz, e⟩ | ⟨e, e2⟩
    · rw [e]
      have zl : z.length ≤ sizeLine := Nat.le_trans hz (by decide)
      refine iteT ⟨_, rfl, _, rfl, z, rfl, zl, _, _, rfl, rfl, _, rfl, ?_⟩
      have q' : Q (.bl (decide (lo ≤ (z.length : Int)) && (decide ((z.length : Int) ≤ hi) && decide (Txt.stripChars z "01" = "")))) H := q
      cases e1 : decide (lo ≤ (z.length : Int)) with
      | false =>
        rw [e1] at q'
        exact ⟨_, rfl, q'⟩
      | true =>
        rw [e1] at q'
        refine iteT ⟨_, rfl, _, _, rfl, rfl, _, rfl, ?_⟩
        refine ite_and q' fun _ q => ?_
        refine ⟨_, rfl, rfl, _, _, rfl, rfl, zl, rfl, ?_⟩
        have e3 : decide (V.str (Txt.stripChars z "01") = V.str "") = decide (Txt.stripChars z "01" = "") := by simp
        show Q (.bl (decide (V.str (Txt.stripChars z "01") = V.str ""))) H
        rw [e3]
        exact q
    · rw [e]
      rw [e2] at q
      exact iteF q
theorem ok_is_name {f : Addr} {fd : FuncData} (F : Fun K "is_name" "is_name" s_is_name f fd) (T : Txt mg) (C_is_signs : Cal P w K mg base 1 "is_signs" ["value", "least", "most"] spSig) : FnOk P w K mg base CX0 2 f fd ["value"] (spAny1 fun _ v => nameB v) := by
  refine F.ok sc_is_name (fun vs H Q E h => ?_) (fun cdv A outer s H vs Q E hr h => ?_)
  · obtain ⟨v, rfl, _⟩ := h
    rfl
  · obtain ⟨v, rfl, ha, q⟩ := h
    refine ⟨_, (pss_one (ps_ret (pe_cal C_is_signs (hr.mono (by decide)) (pa_cons (pv 0) (pa_cons pe_int (pa_cons (pe_gi T.g_MOST_SIGNS) pa_nil)))))), ?_⟩
    exact ⟨v, rfl, v, _, _, rfl, ha, q⟩


/-! ### the law's own draws -/
theorem ok_sift {f : Addr} {fd : FuncData} (F : Fun K "_law_shear" "_law_shear" s__law_shear f fd) (T : Txt mg) : FnOk P w K mg base CX0 1 f fd ["tailor", "many"] spSift := by
  refine F.ok sc__law_shear (fun vs H Q E h => ?_) (fun cdv A outer s H vs Q E hr h => ?_)
  · obtain ⟨p, q, cs, n, m, rfl, _⟩ := h
    rfl
  · obtain ⟨p, q, cs, n, m, rfl, hm0, hm1, hn, hcs, ⟨at_, rest, h1, h2, hpq, ha0, han, hr0⟩, k⟩ := h
    refine ⟨_, (pss_cons (ps_if (pt_cmpR op_gt (pe_ix ix_list (pv 0) pe_int (fun _ _ => rfl)) pe_int (nomark _))
  (pss_cons (ps_set (i := 2) sc__law_shear.nd rfl (Or.inl rfl) (pe_callTy call_int1 (by rfl) T.b_int boot_int (pa_cons (pe_ix ix_list (pv 0) pe_int (fun _ _ => rfl)) pa_nil)))
  (pss_cons (ps_asg (pe_op op_fdiv (pv 2) (pv 1)) (pg_sub (pv 0) pe_int set_list))
  (pss_one (ps_ret (pe_op op_mod (pe_callTy call_int1 (by rfl) T.b_int boot_int (pa_cons (pv 2) pa_nil)) (pv 1))))))
  pss_nil)
  (pss_cons (ps_set (i := 3) sc__law_shear.nd rfl (Or.inl rfl) (pe_ix ix_list (pv 0) pe_int (fun _ _ => rfl)))
  (pss_cons (ps_asg (pe_op op_add (pv 3) pe_int) (pg_sub (pv 0) pe_int set_list))
  (pss_cons (ps_set (i := 4) sc__law_shear.nd rfl (Or.inl rfl) (pe_op op_add (pe_op op_mul pe_int (pv 3)) pe_int))
  (C8.pss_cut (ps_if (pt_cmpR (op_neD (hu64 hr)) (pe_ix ix_list (pv 0) pe_int (fun _ _ => rfl)) (pe_lst pa_nil) (nomark _))
  (pss_one (ps_set (i := 4) sc__law_shear.nd rfl (Or.inl rfl) (pe_ix ix_list (pe_ix ix_list (pv 0) pe_int (fun _ _ => rfl)) (pe_op op_mod (pe_callTy call_int1 (by rfl) T.b_int boot_int (pa_cons (pv 3) pa_nil)) (pe_callB call_len_seq (by rfl) T.b_len boot_len (pa_cons (pe_ix ix_list (pv 0) pe_int (fun _ _ => rfl)) pa_nil))) (fun _ _ => rfl))))
  pss_nil)
  (C8.pss_cut (ps_if (PW.pt (pw_and (pt_cmpR op_lt (pv 3) (pe_callB call_len_seq (by rfl) T.b_len boot_len (pa_cons (pe_ix ix_list (pv 0) pe_int (fun _ _ => rfl)) pa_nil)) (nomark _)) (pw_and1 (pt_cmpR op_ge (pe_callB call_abs (by rfl) T.b_abs boot_abs (pa_cons (pv 4) pa_nil)) (pe_op op_pow pe_int pe_int) (nomark _)))))
  (pss_cons (ps_set (i := 2) sc__law_shear.nd rfl (Or.inl rfl) (pe_op op_add (pe_op op_mul pe_int (pe_op op_sub (pe_callB call_abs (by rfl) T.b_abs boot_abs (pa_cons (pe_callTy call_int1 (by rfl) T.b_int boot_int (pa_cons (pv 4) pa_nil)) pa_nil)) (pe_op op_pow pe_int pe_int))) (pe_callTy call_int1 (by rfl) T.b_int boot_int (pa_cons (pe_cmpR op_lt (pv 4) pe_int (nomark _)) pa_nil))))
  (pss_cons (ps_asg (pe_op op_fdiv (pv 2) (pv 1)) (pg_sub (pv 0) pe_int set_list))
  (pss_one (ps_ret (pe_op op_mod (pe_callTy call_int1 (by rfl) T.b_int boot_int (pa_cons (pv 2) pa_nil)) (pv 1))))))
  pss_nil)
  (pss_cons (ps_set (i := 5) sc__law_shear.nd rfl (Or.inl rfl) (pe_op op_mod (pe_callTy call_int1 (by rfl) T.b_int boot_int (pa_cons (pe_op op_pow (pe_op op_add (pe_op op_add (pe_op op_mod (pe_callTy call_int1 (by rfl) T.b_int boot_int (pa_cons (pv 4) pa_nil)) pe_int) (pe_op op_mul pe_int (pv 3))) pe_int) pe_int) pa_nil)) pe_int))
  (pss_cons (ps_set (i := 5) sc__law_shear.nd rfl (Or.inl rfl) (pe_op op_mod (pe_callTy call_int1 (by rfl) T.b_int boot_int (pa_cons (pe_op op_pow (pe_op op_add (pe_op op_add (pe_op op_mul (pv 5) (pe_op op_add (pe_op op_mul pe_int (pv 3)) pe_int)) (pe_op op_mul (pe_op op_mul pe_int (pv 3)) (pv 3))) pe_int) pe_int) pa_nil)) pe_int))
  (pss_one (ps_ret (pe_op op_mod (pe_callTy call_int1 (by rfl) T.b_int boot_int (pa_cons (pe_op op_fdiv (pv 5) pe_int) pa_nil)) (pv 1)))))))))))), ?_⟩
    refine ⟨_, rfl, p, _, 2, .int rest, rfl, rfl, SqL.of h1, rfl, rest, 0, rfl, rfl, _, rfl, ?_⟩
    refine ite2 (fun _ => ?_) (fun _ => ?_)
    · refine ⟨_, rfl, p, _, 2, .int rest, rfl, rfl, SqL.of h1, rfl, .inl ⟨rest, rfl, ?_⟩⟩
      refine ⟨_, rfl, _, rfl, rest, m, rfl, rfl, ⟨hm0, hm1⟩, _, rfl, p, _, 2, 2, rfl, rfl, h1, rfl, ?_⟩
      refine ⟨_, rfl, .inl ⟨rest, rfl, _, rfl, rest, m, rfl, rfl, hm0, ?_⟩⟩
      refine k _ _ (Int.emod_nonneg _ (by omega)) (Int.emod_lt_of_pos _ hm0) (But.refl _ _).upd ⟨at_, rest / m, upd_same, by rw [upd_ne hpq.symm]; exact h2, hpq, ha0, by omega, Int.ediv_nonneg hr0 (by omega)⟩
    · refine ⟨_, rfl, p, _, 1, .int at_, rfl, rfl, SqL.of h1, rfl, ?_⟩
      refine ⟨_, rfl, at_, 1, rfl, rfl, _, rfl, p, _, 1, 1, rfl, rfl, h1, rfl, ?_⟩
      refine ⟨_, rfl, 204821, at_, rfl, rfl, .inl ⟨by decide, by decide⟩, _, _, rfl, rfl, ?_⟩
      generalize e1 : upd H p (HO.lst (List.set [V.ref q, V.int at_, V.int rest] 1 (V.int (at_ + 1)))) = H1
      have p1 : H1 p = some (.lst [.ref q, .int (at_ + 1), .int rest]) := by rw [← e1]; exact upd_same
      have q1 : H1 q = some (.lst (cs.map V.int)) := by rw [← e1, upd_ne hpq.symm]; exact h2
      have b1 : But p H H1 := by rw [← e1]; exact (But.refl _ _).upd
      refine ⟨fun σ' H' => ∃ c : Int, σ' = [some (.ref p), some (.int m), none, some (.int at_), some (.int c), none] ∧ Same H1 H', ?_, ?_⟩
      · refine ⟨_, rfl, p, _, 0, .ref q, rfl, rfl, SqL.of p1, rfl, Nat.zero_le _, fun l hl => ?_⟩
        have s1 : Same H1 (upd H1 l (.lst [])) := same_new hl
        refine ⟨.list (cs.map PyData.int), .list [], .lst (SqL.of (s1 _ _ q1)) (dp_ints cs), .lst (SqL.of upd_same) .nil, shaped_ints cs, shaped_nil, _, rfl, ?_⟩
        rw [eqv_nil]
        refine ite2 (fun hne => ?_) (fun _ => ⟨_, rfl, s1⟩)
        have pos : 0 < cs.length := by
          cases cs with
          | nil => exact absurd hne (by simp)
          | cons c cs => simp
        have i0 := Int.emod_nonneg at_ (b := (cs.length : Int)) (by omega)
        have i1 := Int.emod_lt_of_pos at_ (b := (cs.length : Int)) (by omega)
        obtain ⟨c, hget⟩ : ∃ c, (cs.map V.int)[(at_ % (cs.length : Int)).toNat]? = some (V.int c) :=
          ⟨cs[(at_ % (cs.length : Int)).toNat]'(by omega), by rw [List.getElem?_map, List.getElem?_eq_getElem (by omega)]; rfl⟩
        refine ⟨_, rfl, p, _, 0, .ref q, rfl, rfl, SqL.of (s1 _ _ p1), rfl, _, rfl, .inl ⟨at_, rfl, ?_⟩⟩
        refine ⟨_, rfl, p, _, 0, .ref q, rfl, rfl, SqL.of (s1 _ _ p1), rfl, q, _, rfl, .inl (SqL.of (s1 _ _ q1)), at_, _, rfl, rfl, ?_, ?_⟩
        · rw [List.length_map]; omega
        · rw [List.length_map]
          refine ⟨q, cs.map V.int, at_ % (cs.length : Int), .int c, rfl, rfl, SqL.of (s1 _ _ q1), ?_, ⟨c, rfl, s1⟩⟩
          have := atI_nat hget
          rw [Int.toNat_of_nonneg i0] at this
          exact this
      · rintro σ' H' ⟨c, rfl, sm⟩
        have p2 := sm _ _ p1
        have q2 := sm _ _ q1
        have b2 : But p H H' := b1.trans (Same.but sm)
        refine ⟨fun σ' G => σ' = [some (.ref p), some (.int m), none, some (.int at_), some (.int c), none] ∧ G = H', ?_, ?_⟩
        · refine ⟨_, rfl, _, rfl, p, _, 0, .ref q, rfl, rfl, SqL.of p2, rfl, q, _, rfl, .inl (SqL.of q2), at_, _, rfl, rfl, _, rfl, ?_⟩
          refine ite2 (fun _ => ?_) (fun _ => iteF ⟨rfl, rfl⟩)
          refine ⟨_, rfl, c, rfl, 10, 18, rfl, rfl, cpow_of (by decide) (by decide) (by decide) (by decide), _, _, rfl, rfl, _, rfl, ?_⟩
          refine ite2 (fun hB => ?_) (fun _ => ⟨rfl, rfl⟩)
          have hB' : (10 : Int) ^ (18 : Int).toNat ≤ (if c < 0 then -c else c) := of_decide_eq_true hB
          refine ⟨_, rfl, .inl ⟨c, rfl, c, rfl, 10, 18, rfl, rfl, cpow_of (by decide) (by decide) (by decide) (by decide), _, _, rfl, rfl, 2, _, rfl, rfl, .inl ⟨by decide, by decide⟩, ?_⟩⟩
          refine ⟨_, rfl, c, 0, rfl, rfl, .inr ⟨_, rfl, _, _, rfl, rfl, ?_⟩⟩
          have hR : 0 ≤ (2 * ((if c < 0 then -c else c) - (10 : Int) ^ (18 : Int).toNat) + (if decide (c < 0) then 1 else 0) : Int) := by
            have : (0 : Int) ≤ (if decide (c < 0) then 1 else 0) := by split <;> omega
            omega
          refine ⟨_, rfl, _, rfl, _, m, rfl, rfl, ⟨hm0, hm1⟩, _, rfl, p, _, 2, 2, rfl, rfl, p2, rfl, ?_⟩
          refine ⟨_, rfl, .inl ⟨_, rfl, _, rfl, _, m, rfl, rfl, hm0, ?_⟩⟩
          exact k _ _ (Int.emod_nonneg _ (by omega)) (Int.emod_lt_of_pos _ hm0) b2.upd ⟨at_ + 1, _ / m, upd_same, by rw [upd_ne hpq.symm]; exact q2, hpq, by omega, by omega, Int.ediv_nonneg hR (by omega)⟩
        · rintro σ' G ⟨rfl, rfl⟩
          have c0 := Int.emod_nonneg c (b := 2147483629) (by decide)
          have c1 := Int.emod_lt_of_pos c (b := 2147483629) (by decide)
          refine ⟨_, rfl, .inl ⟨c, rfl, c, 2147483629, rfl, rfl, by show (0 : Int) < 2147483629; decide, ?_⟩⟩
          refine ⟨_, rfl, 62719, at_, rfl, rfl, .inl ⟨by decide, by decide⟩, _, _, rfl, rfl, _, _, rfl, rfl, ?_⟩
          refine ⟨_, 5, rfl, rfl, cpow_of (by decide) (by decide) (by omega) (by omega), .inl ⟨_, rfl, _, 2147483549, rfl, rfl, by show (0 : Int) < 2147483549; decide, ?_⟩⟩
          generalize (c % 2147483629 + 62719 * at_ + 7219 : Int) ^ (5 : Int).toNat = Y
          have y0 := Int.emod_nonneg Y (b := 2147483549) (by decide)
          have y1 := Int.emod_lt_of_pos Y (b := 2147483549) (by decide)
          have mz := mulb (a := 2147483549) (b := 300000) y0 (by omega) (show 0 ≤ 2 * at_ + 6529 by omega) (by omega)
          have ma := mulb (a := 204821 * 100001) (b := 100001) (show 0 ≤ 204821 * at_ by omega) (by omega) ha0 (by omega)
          refine ⟨_, rfl, _, rfl, 2, at_, rfl, rfl, .inl ⟨by decide, by decide⟩, _, _, rfl, rfl, Y % 2147483549, 2 * at_ + 6529, rfl, rfl, .inl ⟨by omega, by omega⟩, ?_⟩
          refine ⟨_, rfl, 204821, at_, rfl, rfl, .inl ⟨by decide, by decide⟩, _, rfl, 204821 * at_, at_, rfl, rfl, .inl ⟨by omega, by omega⟩, _, _, rfl, rfl, _, _, rfl, rfl, ?_⟩
          refine ⟨_, 3, rfl, rfl, cpow_of (by decide) (by decide) (by omega) (by omega), .inl ⟨_, rfl, _, 2147483563, rfl, rfl, by show (0 : Int) < 2147483563; decide, ?_⟩⟩
          refine ⟨_, rfl, _, 64, rfl, rfl, ⟨by decide, by decide⟩, .inl ⟨_, rfl, _, rfl, _, m, rfl, rfl, hm0, ?_⟩⟩
          exact k _ _ (Int.emod_nonneg _ (by omega)) (Int.emod_lt_of_pos _ hm0) b2 ⟨at_ + 1, rest, p2, q2, hpq, by omega, by omega, hr0⟩
theorem ok_one {f : Addr} {fd : FuncData} (F : Fun K "_law_cloth" "_law_cloth" s__law_cloth f fd) (T : Txt mg) (C_sift : Cal P w K mg base 1 "_law_shear" ["tailor", "many"] spSift) : FnOk P w K mg base CX0 2 f fd ["tailor", "some"] spOne := by
  refine F.ok sc__law_cloth (fun vs H Q E h => ?_) (fun cdv A outer s H vs Q E hr h => ?_)
  · obtain ⟨p, q, cs, n, s, xs, rfl, _⟩ := h
    rfl
  · obtain ⟨p, q, cs, n, s, xs, rfl, hs, hsp, h0, h1, hn, hcs, sv, k⟩ := h
    refine ⟨_, (pss_one (ps_ret (pe_ix ix_list (pv 1) (pe_cal C_sift (hr.mono (by decide)) (pa_cons (pv 0) (pa_cons (pe_callB call_len_seq (by rfl) T.b_len boot_len (pa_cons (pv 1) pa_nil)) pa_nil))) (fun _ _ => rfl)))), ?_⟩
    refine ⟨_, rfl, _, rfl, _, rfl, s, xs, rfl, .inl (SqL.of hs), p, q, cs, n, (xs.length : Int), rfl, by omega, by omega, hn, hcs, sv, ?_⟩
    intro r H' r0 r1 b sv'
    have hlt : r.toNat < xs.length := by omega
    refine ⟨s, xs, r, xs[r.toNat], rfl, rfl, SqL.of (b _ _ hsp hs), ?_, k _ _ (List.getElem_mem hlt) b sv'⟩
    have := atI_nat (List.getElem?_eq_getElem hlt)
    rw [Int.toNat_of_nonneg r0] at this
    exact this
theorem ok_sieve {f : Addr} {fd : FuncData} (F : Fun K "_law_tailor" "_law_tailor" s__law_tailor f fd) (T : Txt mg) : FnOk P w K mg base CX0 1 f fd ["script"] (spSieve K) := by
  refine F.ok sc__law_tailor (fun vs H Q E h => ?_) (fun cdv A outer s H vs Q E hr h => ?_)
  · obtain ⟨a, ns, rfl, _⟩ := h
    rfl
  · obtain ⟨a, ns, rfl, hS, k⟩ := h
    refine ⟨_, (pss_one (ps_ret (pe_lst (pa_cons (pe_lc (own := [("cell", 1)]) (g := gName 1) (tt := tYes) rfl sc__law_tailor.nd (pi_list (pe_slice sl_list (pv 0) po_none (po_some pe_int))) (blkOk_by (own := [("cell", 1)]) (N := N__law_tailor) (sc := defScope s__law_tailor) (by decide +kernel)) (fun _ _ _ _ _ => (pg_name (i := 1) sc__law_tailor.nd rfl (Or.inl rfl))) (fun _ _ _ _ _ => pts_nil) (fun _ _ _ _ _ => (pe_callTy call_int1 (by rfl) T.b_int boot_int (pa_cons (pv 1) pa_nil)))) (pa_cons pe_int (pa_cons pe_int pa_nil)))))), ?_⟩
    obtain ⟨cs, ec, _⟩ := map_mem_cut (ns := ns) (lo := none) (hi := some 60)
    have hc : cs.length ≤ 60 := by
      have := cut_len (ns := ns) (k := 60)
      rw [show (((60 : Nat) : Int)) = 60 from rfl, ec, List.length_map] at this
      exact this
    refine ⟨_, rfl, 60, rfl, a, _, rfl, hS, fun c hc0 => ?_⟩
    rw [ec]
    have s1 : Same H (upd H c (.lst (cs.map V.int))) := same_new hc0
    refine ⟨c, rfl, ⟨_, SqL.of upd_same⟩, fun D hD => ?_⟩
    refine lc_list (K := K) (a := c) (xs := cs.map V.int) (fun i H' => Same (upd H c (.lst (cs.map V.int))) H' ∧ H' D = some (.lst ((cs.map V.int).take i))) ⟨same_new hD, by rw [upd_same]; rfl⟩
        (fun i H' _ p => SqL.of (p.1 _ _ upd_same)) (fun i x H' hx ⟨sm, hl⟩ => ?_) (fun H' ⟨sm, hl⟩ => ?_)
    · refine ⟨rfl, yes_if ?_⟩
      obtain ⟨z, rfl⟩ : ∃ z, x = V.int z := by
        rw [List.getElem?_map] at hx
        cases e : cs[i]? with
        | none => rw [e] at hx; cases hx
        | some u => rw [e] at hx; exact ⟨u, (Option.some.inj hx).symm⟩
      refine ⟨_, rfl, .inl ⟨z, rfl, _, hl, ?_, same_mut sm hD, ?_⟩⟩
      · refine Nat.lt_of_le_of_lt (m := 63) ?_ (by decide)
        rw [List.length_take, List.length_map]
        omega
      · rw [upd_same, List.take_succ, hx]
        rfl
    · rw [List.take_length] at hl
      refine ⟨by show 3 ≤ sizeLine; decide, fun p hp => ?_⟩
      have pD : p ≠ D := (ne_of_none hl hp).symm
      have fr : H p = none := s1.free (sm.free hp)
      refine k p D cs _ fr (s1.trans (same_mut sm (sm.free hp))) (by omega) ⟨0, 0, upd_same, by rw [upd_ne pD.symm]; exact hl, pD, by decide, by decide, by decide⟩

/-! ### need_names -/
def namesB (H : Hp) (v : V) : Bool := rowB H v 0 200 && (items H v).all nameB
def spNeed (C : Addr) : Sp := fun vs H Q E => ∃ v, vs = [v] ∧ An2 H v ∧ (namesB H v = true → ∀ H', Same H H' → Q .non H') ∧ (namesB H v = false → ∀ H' d, Same H H' → H' d = none → E (.ref C) (some d) (upd H' d (.xd [("part", .str "names")])))
theorem ok_need_names {C f : Addr} {fd : FuncData} (F : Fun K "need_names" "need_names" s_need_names f fd) (T : Txt mg) (R_BadName : Rcl P w K mg base "BadName" C "part")
    (C_is_row : Cal P w K mg base 1 "is_row" ["value", "least", "most"] spRow) (C_is_name : Cal P w K mg base 2 "is_name" ["value"] (spAny1 fun _ v => nameB v)) : FnOk P w K mg base (L2.CX P w) 3 f fd ["names"] (spNeed C) := by
  refine F.okX sc_need_names (fun vs H Q E h => ?_) (fun cdv A outer s H vs Q E hr h => ?_)
  · obtain ⟨v, rfl, _⟩ := h
    rfl
  · obtain ⟨v, rfl, h2, kq, ke⟩ := h
    cases hrow : rowB H v 0 200 with
    | false =>
      have nb : namesB H v = false := by unfold namesB; rw [hrow, Bool.false_and]
      refine ⟨_, (pss_one (ps_if (PW.pt (pw_or (pt_not (pt_val (pe_cal C_is_row (hr.mono (by decide)) (pa_cons (pv 0) (pa_cons pe_int (pa_cons (pe_gi T.g_MOST_NAMES) pa_nil)))))) (pw_or1 (pt_not (pt_val (pe_callB (cr_all rfl) (by rfl) T.b_all boot_all (pa_cons (pe_lc (own := [("name", 1)]) (g := gName 1) (tt := tYes) rfl sc_need_names.nd (pi_list (pv 0)) (blkOk_by (own := [("name", 1)]) (N := N_need_names) (sc := defScope s_need_names) (by decide +kernel)) (fun _ _ _ _ _ => (pg_name (i := 1) sc_need_names.nd rfl (Or.inl rfl))) (fun _ _ _ _ _ => pts_nil) (fun _ _ _ _ _ => (pe_cal C_is_name (hr.mono (by decide)) (pa_cons (pv 1) pa_nil)))) pa_nil)))))))
  (pss_one (ps_raise1 R_BadName rfl (takes_of rfl rfl rfl rfl) (hr.mono (by decide)) pe_str))
  pss_nil)), ?_⟩
      refine ⟨_, rfl, v, 0, 200, rfl, h2.an, fun H1 s1 => ⟨_, rfl, ?_⟩⟩
      rw [hrow]
      exact iteT (iteT fun d hd => ke nb H1 d s1 hd)
    | true =>
      cases h2.an with
      | @lst a xs h =>
        have e1 : rowB H (.ref a) 0 200 = (decide ((0 : Int) ≤ xs.length) && decide ((xs.length : Int) ≤ 200)) := by simp [rowB, h]
        have e2 : items H (.ref a) = xs := by simp [items, h]
        have nm : namesB H (.ref a) = xs.all nameB := by unfold namesB; rw [hrow, e2, Bool.true_and]
        have few : xs.length ≤ 200 := by
          rw [hrow] at e1
          have := e1.symm
          simp only [Bool.and_eq_true, decide_eq_true_eq] at this
          omega
        refine ⟨_, (pss_one (ps_if (PW.pt (pw_or (pt_not (pt_val (pe_cal C_is_row (hr.mono (by decide)) (pa_cons (pv 0) (pa_cons pe_int (pa_cons (pe_gi T.g_MOST_NAMES) pa_nil)))))) (pw_or1 (pt_not (pt_val (pe_callB (cr_all rfl) (by rfl) T.b_all boot_all (pa_cons (pe_lc (own := [("name", 1)]) (g := gName 1) (tt := tYes) rfl sc_need_names.nd (pi_list (pv 0)) (blkOk_by (own := [("name", 1)]) (N := N_need_names) (sc := defScope s_need_names) (by decide +kernel)) (fun _ _ _ _ _ => (pg_name (i := 1) sc_need_names.nd rfl (Or.inl rfl))) (fun _ _ _ _ _ => pts_nil) (fun _ _ _ _ _ => (pe_cal C_is_name (hr.mono (by decide)) (pa_cons (pv 1) pa_nil)))) pa_nil)))))))
  (pss_one (ps_raise1 R_BadName rfl (takes_of rfl rfl rfl rfl) (hr.mono (by decide)) pe_str))
  pss_nil)), ?_⟩
        refine ⟨_, rfl, .ref a, 0, 200, rfl, h2.an, fun H1 s1 => ⟨_, rfl, ?_⟩⟩
        rw [hrow]
        refine iteF ?_
        refine ⟨_, rfl, a, rfl, ⟨xs, SqL.of (s1 _ _ h)⟩, fun D hD => ?_⟩
        refine lc_map (f := fun x => .bl (nameB x)) (walk_list (K := K)) hD (fun H' s => SqL.of ((s1.trans s) _ _ h)) (Nat.le_trans few (by decide)) (fun _ => rfl) (fun i x H' R hx s r => ?_) (fun H' s hl => ?_)
        · exact ⟨x, rfl, x, rfl, (h2.it x (by rw [e2]; exact List.mem_of_getElem? hx)).mono (s1.trans s), r H' (Same.refl _)⟩
        · refine ⟨D, xs.map nameB, rfl, SqL.of (by rw [hl, List.map_map]; rfl), _, rfl, ?_⟩
          rw [List.all_map, show (id ∘ nameB) = nameB from rfl, ← nm]
          cases hn : namesB H (.ref a) with
          | false => exact iteT fun d hd => ke hn H' d (s1.trans s) hd
          | true => exact iteF (kq hn H' (s1.trans s))
      | @tup a xs h =>
        have e1 : rowB H (.ref a) 0 200 = (decide ((0 : Int) ≤ xs.length) && decide ((xs.length : Int) ≤ 200)) := by simp [rowB, h]
        have e2 : items H (.ref a) = xs := by simp [items, h]
        have nm : namesB H (.ref a) = xs.all nameB := by unfold namesB; rw [hrow, e2, Bool.true_and]
        have few : xs.length ≤ 200 := by
          rw [hrow] at e1
          have := e1.symm
          simp only [Bool.and_eq_true, decide_eq_true_eq] at this
          omega
        refine ⟨_, (pss_one (ps_if (PW.pt (pw_or (pt_not (pt_val (pe_cal C_is_row (hr.mono (by decide)) (pa_cons (pv 0) (pa_cons pe_int (pa_cons (pe_gi T.g_MOST_NAMES) pa_nil)))))) (pw_or1 (pt_not (pt_val (pe_callB (cr_all rfl) (by rfl) T.b_all boot_all (pa_cons (pe_lc (own := [("name", 1)]) (g := gName 1) (tt := tYes) rfl sc_need_names.nd (pi_tup (pv 0)) (blkOk_by (own := [("name", 1)]) (N := N_need_names) (sc := defScope s_need_names) (by decide +kernel)) (fun _ _ _ _ _ => (pg_name (i := 1) sc_need_names.nd rfl (Or.inl rfl))) (fun _ _ _ _ _ => pts_nil) (fun _ _ _ _ _ => (pe_cal C_is_name (hr.mono (by decide)) (pa_cons (pv 1) pa_nil)))) pa_nil)))))))
  (pss_one (ps_raise1 R_BadName rfl (takes_of rfl rfl rfl rfl) (hr.mono (by decide)) pe_str))
  pss_nil)), ?_⟩
        refine ⟨_, rfl, .ref a, 0, 200, rfl, h2.an, fun H1 s1 => ⟨_, rfl, ?_⟩⟩
        rw [hrow]
        refine iteF ?_
        refine ⟨_, rfl, a, rfl, ⟨xs, SqT.of (s1 _ _ h)⟩, fun D hD => ?_⟩
        refine lc_map (f := fun x => .bl (nameB x)) (walk_tup (K := K)) hD (fun H' s => SqT.of ((s1.trans s) _ _ h)) (Nat.le_trans few (by decide)) (fun _ => rfl) (fun i x H' R hx s r => ?_) (fun H' s hl => ?_)
        · exact ⟨x, rfl, x, rfl, (h2.it x (by rw [e2]; exact List.mem_of_getElem? hx)).mono (s1.trans s), r H' (Same.refl _)⟩
        · refine ⟨D, xs.map nameB, rfl, SqL.of (by rw [hl, List.map_map]; rfl), _, rfl, ?_⟩
          rw [List.all_map, show (id ∘ nameB) = nameB from rfl, ← nm]
          cases hn : namesB H (.ref a) with
          | false => exact iteT fun d hd => ke hn H' d (s1.trans s) hd
          | true => exact iteF (kq hn H' (s1.trans s))
      | non => simp [rowB] at hrow
      | bl b => simp [rowB] at hrow
      | int i => simp [rowB] at hrow
      | str h => simp [rowB] at hrow
      | dK h => simp [rowB, h] at hrow

/-! ### are_apart -/
def tx (v : V) : Str := match v with | .str z => z | _ => ""
theorem nameB_str {v : V} (h : nameB v = true) : v = .str (tx v) := by
  cases v <;> first | rfl | (simp [nameB, sigB] at h)
theorem names_map : ∀ {xs : List V}, xs.all nameB = true → xs = (xs.map tx).map V.str
  | [], _ => rfl
  | x :: xs, h => by
    rw [List.all_cons, Bool.and_eq_true] at h
    rw [List.map_cons, List.map_cons, ← names_map h.2, ← nameB_str h.1]
/-- the names as lists of signs -/
def sgs (H : Hp) (v : V) : List (List Nat) := (items H v).map fun x => (tx x).cps.toList
open Classical in
noncomputable def apB (H : Hp) (v : V) : Bool := decide (ApartL (sgs H v))
theorem apB_iff {H : Hp} {v : V} : apB H v = true ↔ ApartL (sgs H v) := by
  unfold apB
  simp only [decide_eq_true_eq]
def spApart (C : Addr) : Sp := fun vs H Q E => ∃ v, vs = [v] ∧ An2 H v ∧ (namesB H v = true → ∀ H', Same H H' → Q (.bl (apB H v)) H') ∧ (namesB H v = false → ∀ H' d, Same H H' → H' d = none → E (.ref C) (some d) (upd H' d (.xd [("part", .str "names")])))
theorem names_at {H : Hp} {v : V} (h : An H v) (hn : namesB H v = true) : ∃ (a : Addr) (zs : List Str), v = .ref a ∧ items H v = zs.map V.str ∧ zs.length ≤ 200 ∧ (H a = some (.lst (zs.map V.str)) ∨ H a = some (.tup (zs.map V.str))) ∧ sgs H v = zs.map fun z => z.cps.toList := by
  unfold namesB at hn
  rw [Bool.and_eq_true] at hn
  obtain ⟨h1, h2⟩ := hn
  have fin : ∀ xs : List V, items H v = xs → xs = ((items H v).map tx).map V.str ∧ sgs H v = ((items H v).map tx).map fun z => z.cps.toList := by
    intro xs e
    refine ⟨by rw [← e]; exact names_map h2, ?_⟩
    unfold sgs
    rw [List.map_map]
    rfl
  cases h with
  | @lst a xs h =>
    have e2 : items H (.ref a) = xs := by simp [items, h]
    obtain ⟨f1, f2⟩ := fin xs e2
    have : rowB H (.ref a) 0 200 = (decide ((0 : Int) ≤ xs.length) && decide ((xs.length : Int) ≤ 200)) := by simp [rowB, h]
    rw [this] at h1
    simp only [Bool.and_eq_true, decide_eq_true_eq] at h1
    refine ⟨a, (items H (.ref a)).map tx, rfl, by rw [← f1]; exact e2, by rw [List.length_map, e2]; omega, .inl (by rw [← f1]; exact h), f2⟩
  | @tup a xs h =>
    have e2 : items H (.ref a) = xs := by simp [items, h]
    obtain ⟨f1, f2⟩ := fin xs e2
    have : rowB H (.ref a) 0 200 = (decide ((0 : Int) ≤ xs.length) && decide ((xs.length : Int) ≤ 200)) := by simp [rowB, h]
    rw [this] at h1
    simp only [Bool.and_eq_true, decide_eq_true_eq] at h1
    refine ⟨a, (items H (.ref a)).map tx, rfl, by rw [← f1]; exact e2, by rw [List.length_map, e2]; omega, .inr (by rw [← f1]; exact h), f2⟩
  | non => simp [rowB] at h1
  | bl b => simp [rowB] at h1
  | int i => simp [rowB] at h1
  | str h => simp [rowB] at h1
  | dK h => simp [rowB, h] at h1
theorem ok_are_apart {C f : Addr} {fd : FuncData} (F : Fun K "are_apart" "are_apart" s_are_apart f fd) (T : Txt mg) (C_need_names : CalX P w K mg base 3 "need_names" ["names"] (spNeed C)) : FnOk P w K mg base (L2.CX P w) 4 f fd ["names"] (spApart C) := by
  refine F.okX sc_are_apart (fun vs H Q E h => ?_) (fun cdv A outer s H vs Q E hr h => ?_)
  · obtain ⟨v, rfl, _⟩ := h
    rfl
  · obtain ⟨v, rfl, h2, kq, ke⟩ := h
    refine ⟨_, (pss_cons (ps_expr (pe_calE C_need_names (takes_of rfl rfl rfl rfl) (hr.mono (by decide)) (pa_cons (pv 0) pa_nil)))
  (pss_cons (ps_set (i := 1) sc_are_apart.nd rfl (Or.inr rfl) (pe_callB cr_sortedA (by rfl) T.b_sorted boot_sorted (pa_cons (pv 0) pa_nil)))
  (pss_one (ps_ret (pe_not (pe_callB (cr_any rfl) (by rfl) T.b_any boot_any (pa_cons (pe_lc (own := [("place", 2)]) (g := gName 2) (tt := tYes) rfl sc_are_apart.nd (pi_range2 rfl T.b_range (pa_cons pe_int (pa_cons (pe_callB call_len_seq (by rfl) T.b_len boot_len (pa_cons (pv 1) pa_nil)) pa_nil))) (blkOk_by (own := [("place", 2)]) (N := N_are_apart) (sc := defScope s_are_apart) (by decide +kernel)) (fun _ _ _ _ _ => (pg_name (i := 2) sc_are_apart.nd rfl (Or.inl rfl))) (fun _ _ _ _ _ => pts_nil) (fun _ _ _ _ _ => (pe_bmK (K := K) (by rfl) PySem.F.plainAttrs_str PySem.F.slot_str_startswith PySem.F.type_str_startswith mt_startswith (pe_ix (ix_listK (K := K) (by rfl)) (pv 1) (pv 2) (fun _ _ => rfl)) (pa_cons (pe_ix (ix_listK (K := K) (by rfl)) (pv 1) (pe_op op_sub (pv 2) pe_int) (fun _ _ => rfl)) pa_nil)))) pa_nil))))))), ?_⟩
    refine ⟨v, rfl, v, rfl, h2, fun hn H1 s1 => ?_, fun hn H1 d s1 hd => ke hn H1 d s1 hd⟩
    obtain ⟨a, zs, rfl, e2, few, at_, eS⟩ := names_at h2.an hn
    refine ⟨_, rfl, a, zs, rfl, at_.imp (fun z => SqL.of (s1 _ _ z)) (fun z => SqT.of (s1 _ _ z)), fun ys p perm srt hp => ?_⟩
    have s2 := s1.trans (same_new (o := HO.lst (ys.map V.str)) hp)
    have l2 : upd H1 p (.lst (ys.map V.str)) p = some (.lst (ys.map V.str)) := upd_same
    generalize upd H1 p (.lst (ys.map V.str)) = H2 at s2 l2 ⊢
    have leny := perm.length_eq
    generalize eL : ys.map (fun z => z.cps.toList) = L
    have lenL : L.length = ys.length := by rw [← eL, List.length_map]
    have srtL : L.Pairwise (fun x y => ¬ y < x) := by rw [← eL]; exact List.pairwise_map.mpr srt
    have val : (!adj L) = apB H (.ref a) := by
      have h1 := adj_iff srtL
      have h2 : ApartL L ↔ ApartL (sgs H (.ref a)) := by
        rw [eS, ← eL]
        exact ApartL.perm (perm.map _)
      rw [Bool.eq_iff_iff, apB_iff, Bool.not_eq_true', ← Bool.not_eq_true, h1, Classical.not_not, h2]
    dsimp only [gName]
    refine ⟨_, rfl, p, ys.map V.str, rfl, .inl (SqL.of l2), 1, _, rfl, ⟨by decide, by decide, by omega, by rw [List.length_map]; omega⟩, fun D hD => ?_⟩
    have en : (((ys.map V.str).length : Int) - 1).toNat = L.length - 1 := by rw [List.length_map, lenL]; omega
    rw [en]
    have get : ∀ i, i < ys.length → (ys.map V.str)[i]? = some (.str ⟨(L.getD i []).toArray⟩) := by
      intro i hi
      rw [List.getElem?_map, List.getElem?_eq_getElem hi, ← eL]
      simp [List.getD_eq_getElem?_getD, List.getElem?_map, List.getElem?_eq_getElem hi]
    refine lc_rng (f0 := fun i => .int (1 + (i : Nat))) (f := fun i => .bl ((L.getD i []).isPrefixOf (L.getD (i + 1) []))) walk_range hD (fun _ _ => trivial) (Nat.le_trans (m := 200) (by omega) (by decide)) (fun _ => rfl) (fun i H' R hi s r => ?_) (fun H' s hl => ?_)
    · have i1 : i + 1 < ys.length := by omega
      have c1 : (1 + (i : Int)) = ((i + 1 : Nat) : Int) := by omega
      have c0 : (((i + 1 : Nat) : Int) - 1) = (i : Int) := by omega
      rw [c1]
      refine ⟨_, rfl, _, rfl, p, ys.map V.str, _, _, rfl, rfl, SqL.of (s _ _ l2), atI_nat (get _ i1), rfl, ?_⟩
      refine ⟨_, rfl, ⟨_, rfl, _, _, rfl, rfl, p, ys.map V.str, _, _, rfl, rfl, SqL.of (s _ _ l2), by rw [c0]; exact atI_nat (get _ (by omega)), ?_⟩⟩
      refine ⟨_, _, rfl, rfl, ?_⟩
      rw [starts_pre]
      exact r H' (Same.refl _)
    · refine ⟨D, (List.range (L.length - 1)).map fun i => (L.getD i []).isPrefixOf (L.getD (i + 1) []), rfl, SqL.of (by rw [hl, List.map_map]; rfl), _, rfl, ?_⟩
      rw [← adj_range, val]
      exact kq hn H' (s2.trans s)

/-! ### need_apart -/
def eBad (C : Addr) (w : Str) : Hp → XK → Prop := fun H E => ∀ H' d, Same H H' → H' d = none → E (.ref C) (some d) (upd H' d (.xd [("part", .str w)]))
def spNeedAp (C D : Addr) : Sp := fun vs H Q E => ∃ v, vs = [v] ∧ An2 H v ∧ (namesB H v = false → eBad C "names" H E) ∧ (namesB H v = true → apB H v = false → eBad D "names" H E) ∧ (namesB H v = true → apB H v = true → ∀ H', Same H H' → Q .non H')
theorem ok_need_apart {C D f : Addr} {fd : FuncData} (F : Fun K "need_apart" "need_apart" s_need_apart f fd) (T : Txt mg) (R_Misfit : Rcl P w K mg base "Misfit" D "part") (C_are_apart : CalX P w K mg base 4 "are_apart" ["names"] (spApart C)) : FnOk P w K mg base (L2.CX P w) 5 f fd ["names"] (spNeedAp C D) := by
  refine F.okX sc_need_apart (fun vs H Q E h => ?_) (fun cdv A outer s H vs Q E hr h => ?_)
  · obtain ⟨v, rfl, _⟩ := h
    rfl
  · obtain ⟨v, rfl, h2, ke, km, kq⟩ := h
    refine ⟨_, (pss_one (ps_if (pt_not (pt_val (pe_calE C_are_apart (takes_of rfl rfl rfl rfl) (hr.mono (by decide)) (pa_cons (pv 0) pa_nil))))
  (pss_one (ps_raise1 R_Misfit rfl (takes_of rfl rfl rfl rfl) (hr.mono (by decide)) pe_str))
  pss_nil)), ?_⟩
    refine ⟨v, rfl, v, rfl, h2, fun hn H1 s1 => ⟨_, rfl, ?_⟩, fun hn H1 d s1 hd => ke hn H1 d s1 hd⟩
    cases ha : apB H v with
    | true => exact iteF (kq hn ha H1 s1)
    | false => exact iteT fun d hd => km hn ha H1 d s1 hd
end
end K06
set_option Elab.async false
set_option linter.all false
set_option maxRecDepth 100000
set_option maxHeartbeats 4000000
/-! enumerate of a tuple; a dict comprehension over any walk -/
namespace Own
open PySem PySem.Spec PyProof.Rows L2
set_option maxHeartbeats 8000000 in
theorem own_meets_enum {v : Value} {o : Obj} {H : Heap → Prop} (B : Begins v o H) :
    Meets (Builtin.«enumerate.__new__» ⟨[.type "enumerate", v], []⟩) (fun _ R s => H s.heap ∧
      R (.ok (.ret (.ref (s.heap.push o).objs.size))) { s with heap := (s.heap.push o).push { cls := .type "enumerate", data := .fields #[.none, .bool false, .ref s.heap.objs.size, rawInt 0, .none, .none] } }) :=
  .of_wp fun prog w A R s h => by
    obtain ⟨hp, g, d, tk, os⟩ := s; obtain ⟨h1, h⟩ := h
    have hsub := sub_enumerate
    have q1 : ∀ {A' : Around} {E : Value → Shared → Prop} {Q : Value → Shared → Prop}, Q (.ref hp.objs.size) ⟨hp.push o, g, d, tk, os⟩ → wpAny (model prog w) A' (pyIter v) Q E ⟨hp, g, d, tk, os⟩ :=
      fun q => B.iter prog w _ _ ⟨hp, g, d, tk, os⟩ _ h1 q
    wp_walk using q1
    refine wpAny_stack_any fun st => wpAny_pure ?_
    split
    · rename_i c _ _ _ _ _
      cases (c == Value.type "enumerate")
      · wp_walk using q1
        exact ⟨_, rfl, h⟩
      · wp_walk using q1
        exact ⟨_, rfl, h⟩
    · wp_walk using q1
      exact ⟨_, rfl, h⟩
section
variable {prog : Program} {w : World} {A : Around} {E : Value → Shared → Prop} {s : Shared}
theorem own_enum_begins {v : Value} {o : Obj} {H : Heap → Prop} {Q : Value → Shared → Prop} (B : Begins v o H) (h1 : H s.heap)
    (h : ∀ h', IsEnum h' (s.heap.objs.size + 1) s.heap.objs.size 0 .none → h'.get? s.heap.objs.size = some o → h'.objs.size = s.heap.objs.size + 2 →
      (∀ b o, s.heap.get? b = some o → h'.get? b = some o) → Q (.ref (s.heap.objs.size + 1)) { s with heap := h' }) :
    wpAny (model prog w) A (call (.type "enumerate") [v]) Q E s := by
  refine callType_new F.called_enumerate (by decide) (F.typeCall_enumerate_1 _) (F.newCall_enumerate_1 _) (fun obj => F.args_object_init_2 obj _) F.entry_enumerate_new
    (own_meets_enum B) ⟨h1, ?_⟩
  have hz : (s.heap.push o).objs.size = s.heap.objs.size + 1 := Heap.size_push ..
  show _ ∧ _
  rw [hz]
  have he : IsEnum ((s.heap.push o).push { cls := .type "enumerate", data := .fields #[.none, .bool false, .ref s.heap.objs.size, rawInt 0, .none, .none] }) (s.heap.objs.size + 1) s.heap.objs.size 0 .none := by
    have := Heap.get?_push_size (s.heap.push o) (o := { cls := .type "enumerate", data := .fields #[.none, .bool false, .ref s.heap.objs.size, rawInt 0, .none, .none] }) rfl
    rw [hz] at this; exact this
  refine ⟨⟨_, he, rfl⟩, h _ he (Heap.get?_push_of_some _ (Heap.get?_push_size _ B.free)) (by rw [Heap.size_push, hz]) fun b o x => Heap.get?_push_of_some _ (Heap.get?_push_of_some _ x)⟩
end
def IteT (K : PySem.W.Frag) (a : Addr) : It :=
  ⟨fun i H => ∃ (xs : List V) (x : V), SqT K H a xs ∧ xs[i]? = some x, fun i H v H' => ∃ T x, v = .ref T ∧ H T = none ∧ H' = upd H T (.tup [.int (i : Nat), x]) ∧ ∀ xs, SqT K H a xs → xs[i]? = some x, fun i H => ∃ xs : List V, SqT K H a xs ∧ xs.length ≤ i⟩
theorem iter_ne {h : Heap} {it a : Addr} {i : Nat} {its : Array Value} (x : h.IsTupleIter it a i) (p : h.IsTuple a its) : a ≠ it := by
  rintro rfl
  obtain ⟨o, e, c, _⟩ := x
  obtain ⟨o', e', c', _⟩ := p
  rw [e] at e'
  cases e'
  rw [c] at c'
  exact absurd c' (by decide)
theorem enum_neT {h : Heap} {e it a : Addr} {c : Int} {old : Value} {its : Array Value} (x : IsEnum h e it c old) (p : h.IsTuple a its) : e ≠ a := by
  rintro rfl
  obtain ⟨o', e', c', _⟩ := p
  rw [x] at e'
  cases e'
  exact absurd (show Value.type "enumerate" = Value.type "tuple" from c') (by decide)
theorem turn_enumT {P : Program} {w : World} {K : PySem.W.Frag} {elts : List Expr} {kk : Nat} {tpos : Pos} (a e it : Addr) :
    Turn P w K (.Tuple elts kk tpos) (IteT K a) [e, it] e (fun i h => (∃ old, IsEnum h e it ((i : Nat) : Int) old) ∧ h.IsTupleIter it a i ∧ e ≠ it) where
  mem := by simp
  obj := fun i h st b hb => by
    obtain ⟨⟨old, he⟩, ⟨o, ho, hc, hd⟩, _⟩ := st
    have e' : b = e ∨ b = it := by simpa using hb
    rcases e' with z | z
    · rw [z]; exact ⟨_, he, fun v q => nomatch q⟩
    · rw [z]; exact ⟨o, ho, fun v q => by rw [hd] at q; cases q⟩
  keep := fun i h h' st k => let ⟨⟨old, he⟩, hi, hne⟩ := st; ⟨⟨old, k e (by simp) _ he⟩, hi.at fun o q => k it (by simp) o q, hne⟩
  item := by
    intro X hP hw hK hc i pins s σ H E I hf st hg
    subst hP hw hK
    obtain ⟨⟨old, he⟩, hit, hne⟩ := st
    obtain ⟨xs, x, hq, hx⟩ := hg
    obtain ⟨its, rv, p, hz⟩ := I.tuple hq
    have p : s.heap.IsTuple a its.toArray := p
    obtain ⟨u, hu, ru⟩ := rv.get hx
    have hel : e < s.heap.objs.size := Heap.lt_size he
    have hil : it < s.heap.objs.size := by obtain ⟨_, q, _⟩ := hit; exact Heap.lt_size q
    have ilt : i < its.toArray.size := by
      have := (List.getElem?_eq_some_iff.mp hu).1
      simpa using this
    refine wpAny_pyNext_enum_itemD (Draws.tuple (prog := X.prog) (w := X.w) (A := X.A.in1) (I.ok.hd hc) it a (iter_ne hit p) its.toArray) he ⟨hit, p⟩ ilt hne (by simp [hne, enum_neT he p]) fun x' h' tk hP ho hst hT hsz hk => ?_
    have xu : x' = u := by
      have hP : its.toArray[i]? = some x' := hP
      rw [List.getElem?_toArray, hu] at hP
      cases hP
      rfl
    subst xu
    obtain ⟨hit', p'⟩ := hst
    refine ⟨_, rfl, wpAny_letOwnedTupleGo_enum (s := { s with heap := h', toks := tk + 1 }) ho fun h'' he' sb => ?_⟩
    have hT2 : h''.get? s.heap.objs.size = some { cls := .type "tuple", data := .seq #[.int i tk, x'] } := (sb.2 _ (Nat.ne_of_gt hel)).trans hT
    have new : ObjOk X.prog X.w (upd H s.heap.objs.size (.tup [.int (i : Nat), x])) h'' s.heap.objs.size (.tup [.int (i : Nat), x]) :=
      ⟨by show 2 ≤ sizeLine; decide, [.int i tk, x'], .cons ⟨_, rfl⟩ (.cons ru .nil), ⟨_, hT2, rfl, _, rfl⟩⟩
    have I1 : Inv X pins σ (upd H s.heap.objs.size (.tup [.int (i : Nat), x])) { s with heap := h'', toks := tk + 1 } :=
      I.turnedNew (ch := [e, it]) (fun b ob hb q => (sb.2 b (fun z => hb (by simp [z]))).trans (hk b ob (fun z => hb (by simp [z])) (fun z => hb (by simp [z])) q)) hf (Nat.le_refl _) new
    refine ⟨.ref s.heap.objs.size, _, I1, rfl, ⟨_, x, rfl, I.hok.fresh (Nat.le_refl _), rfl, fun ys hy => by rw [I.tuple_inj hy hq]; exact hx⟩, ⟨⟨x', ?_⟩, hit'.at fun o q => (sb.2 it (Ne.symm hne)).trans q, hne⟩, fun b hb => ?_⟩
    · have e1 : ((i + 1 : Nat) : Int) = (i : Int) + 1 := by omega
      rw [e1]; exact he'
    · have hb' : b < s.heap.objs.size := by
        have e' : b = e ∨ b = it := by simpa using hb
        rcases e' with z | z
        · rw [z]; exact hel
        · rw [z]; exact hil
      rw [upd_ne (Nat.ne_of_lt hb')]
      exact (hf b hb).1
  done := by
    intro X hP hw hK hc i pins s σ H E I hf st hg
    subst hP hw hK
    obtain ⟨⟨old, he⟩, hit, hne⟩ := st
    obtain ⟨xs, hq, hx⟩ := hg
    obtain ⟨its, rv, p, hz⟩ := I.tuple hq
    have p : s.heap.IsTuple a its.toArray := p
    obtain ⟨f0, f1, f2, f3, f4, f5⟩ := hf it (by simp)
    have hl := rv.length
    have hT : s.TypeIs (.ref e) "enumerate" := ⟨_, he, rfl⟩
    unfold pyNext
    refine wpAny_bind (wpAny_attempt (wpAny_callSpecial?_slot (name := Str.ofString "__next__") hT F.slot_enumerate_next
      (wpAny_call_entry F.slot_enumerate_next hT F.entry_enumerate_next ?_ (F.args_enumerate_next_1 _))))
    show wpAny _ _ (field (.ref e) 2 >>= _) _ _ _
    refine wpAny_bind (wpAny_field he rfl (x := .ref it) rfl ?_)
    refine wpAny_bind (wpAny_nextOf_tuple_end (I.ok.hd hc) hit p (by simp; omega) fun h' x he' hx' => ?_)
    obtain ⟨o, ho, hc⟩ := hx'
    refine wpAny_bind (wpAny_isInstance (T := "StopIteration") (b := true) ⟨o, ho, hc⟩ isSubtype_stop ?_)
    exact wpAny_pure ⟨rfl, I.turned (t' := s.toks) (fun b o hb q => he' b o hb q) f0 f1 f3 f4 f5⟩
  self := fun A i s Q E st h => let ⟨⟨_, he⟩, _⟩ := st; wpAny_pyIter_enum he h
def iEnumT (K : PySem.W.Frag) (ta : TA) : TI := fun σ H R => ta σ H fun vs H1 => ∃ a xs, vs = [.ref a] ∧ SqT K H1 a xs ∧ R (IteT K a) H1
theorem pi_enumT {X : Cx} {e : Expr} {ta : TA} {p pos tpos : Pos} {elts : List Expr} {kk : Nat} (hg : Gl X "enumerate") (hm : X.mg "enumerate" = none) (ha : PA X [e] ta) (hs : starEach [e] X.env = [(false, eval e X.env)] := by rfl) :
    PI X (.Tuple elts kk tpos) (.Call (.Name "enumerate" p) [e] [] pos) (iEnumT X.K ta) := by
  refine ⟨fun pins s σ H R I h => ?_⟩
  refine Call_ (ld_blt I hg hm boot_enumerate (PyProof.Rows.callWith_type1 (thn (ha.run pos pins s σ H _ I h) fun us s1 ⟨vs, H1, I1, r1, q1⟩ => ?_) hs rfl))
  obtain ⟨a, xs, ex, hq, q⟩ := q1
  subst ex
  cases r1 with
  | cons r rr =>
    cases rr
    cases r
    obtain ⟨its, rv, p', hz⟩ := I1.tuple hq
    refine own_enum_begins (begins_tuple a its.toArray) (show s1.heap.IsTuple a its.toArray from p') fun h' he hit hsz hk => wpAny_pyIter_enum he ?_
    have I2 : Inv X pins σ H1 { s1 with heap := h' } := I1.kept (t' := s1.toks) hk
    refine ⟨s1.heap.objs.size + 1, [s1.heap.objs.size + 1, s1.heap.objs.size], _, _, H1, rfl, I2, turn_enumT a (s1.heap.objs.size + 1) s1.heap.objs.size, ⟨⟨.none, he⟩, ⟨_, hit, rfl, rfl⟩, Nat.succ_ne_self _⟩, fun b hb => ?_, q⟩
    have e' : b = s1.heap.objs.size + 1 ∨ b = s1.heap.objs.size := by simpa using hb
    have hle : s1.heap.objs.size ≤ b := by
      rcases e' with z | z
      · rw [z]; exact Nat.le_add_right _ _
      · rw [z]; exact Nat.le_refl _
    exact I1.fpOk hle (I1.hok.fresh hle)
theorem walk_enumT {K : PySem.W.Frag} {a : Addr} {xs : List V} : Walk (IteT K a) xs.length (fun H => SqT K H a xs) (YPair (fun i => some (.int (i : Nat))) (fun i => xs[i]?)) := by
  refine ⟨fun i _ hi q => ⟨xs, xs[i], q, by simp [hi]⟩, fun _ q => ⟨xs, q, Nat.le_refl _⟩, fun i H v H' _ q y => ?_⟩
  obtain ⟨T, x, h1, h2, h3, h4⟩ := y
  exact ⟨T, .int (i : Nat), x, h1, h2, h3, rfl, h4 xs q⟩
theorem dc_it {J : It} {n : Nat} {G : Hp → Prop} {Y : Nat → Hp → V → Hp → Prop} (w : Walk J n G Y) {g : TG} {tt : TT} {tk tv : TE} {vs : List Nat} {σ : L2.St} {H1 : Hp} {D : Addr} {Qd : Hp → Prop} (Pv : Nat → Hp → Prop) (h0 : Pv 0 (upd H1 D (.dK []))) (hG : ∀ i H, i ≤ n → Pv i H → G H)
    (hs : ∀ i x H H', i < n → Pv i H → Y i H x H' → g x (wipe σ vs) H' fun σ2 H2 => wipe σ2 vs = wipe σ vs ∧ tt σ2 H2 fun b H3 =>
      if b = true then tk σ2 H3 fun y H4 => tv σ2 H4 fun z H5 => ∃ kvs k, y = kV k ∧ H5 D = some (.dK kvs) ∧ kvs.length < sizeLine ∧ Pv (i + 1) (upd H5 D (.dK (putK kvs k z))) else Pv (i + 1) H3) (hd : ∀ H, Pv n H → Qd H) :
    ∃ W : Nat → Nat → Hp → Prop, (∃ m, W 0 m (upd H1 D (.dK []))) ∧ ∀ i m H, W i m H →
      (J.stop i H ∧ Qd H) ∨ (J.go i H ∧ ∃ Nx : Hp → Prop, (∀ H', Nx H' → ∃ m', m' < m ∧ W (i + 1) m' H') ∧ ∀ x H', J.yld i H x H' → g x (wipe σ vs) H' fun σ2 H2 => wipe σ2 vs = wipe σ vs ∧ tt σ2 H2 fun b H3 =>
        if b = true then tk σ2 H3 fun y H4 => tv σ2 H4 fun z H5 => ∃ kvs k, y = kV k ∧ H5 D = some (.dK kvs) ∧ kvs.length < sizeLine ∧ Nx (upd H5 D (.dK (putK kvs k z))) else Nx H3) := by
  refine ⟨fun i m H => m = n - i ∧ i ≤ n ∧ Pv i H, ⟨n, by simp, Nat.zero_le _, h0⟩, ?_⟩
  rintro i m H ⟨rfl, hi, p⟩
  have q := hG i H hi p
  by_cases hlt : i < n
  · exact .inr ⟨w.goes i H hlt q, Pv (i + 1), fun H' p' => ⟨n - (i + 1), by omega, rfl, hlt, p'⟩, fun x H' y => hs i x H H' hlt p (w.yields i H x H' hlt q y)⟩
  · have e : i = n := by omega
    subst e
    exact .inl ⟨w.stops H q, hd H p⟩

theorem sw_trueD {kx vx : Expr} {gs : List Comprehension} {scope : Scope} {pos py : Pos} {y : Str} {l : Nat} {env : Env} (hk : env.scope.kind = .function) (hy : env.scope.names.lookup y = some .local) (hl : (py.line == pos.line) = true)
    (ha : (scope.names.any fun (n, k) => n == y && (k == .local || k == .cell)) = false) : swapsWith (.DictComp kx vx gs scope pos) (some (.Name y py)) l env = pure true := by
  have ky : env.kindOf y = some .local := hy
  have hb : env.blockKind = .function := by unfold Env.blockKind; rw [hk]; rfl
  unfold swapsWith
  simp only [hb, ky, ha, Expr.pos, hl]
  rfl
theorem ps_setDc {X : Cx} {i : Nat} {y : Str} {py : Pos} {kx vx tg iter : Expr} {ifs : List Expr} {scope : Scope} {own : List (Str × Nat)} {pos spos : Pos} {wi : TI} {g : TG} {tt : TT} {tk tv : TE} (hc : X.calm = true) (hN : X.N.Nodup) (hy : X.N[i]? = some y) (hyl : X.env.scope.names.lookup y = some .local)
    (hsw : swapsWith (.DictComp kx vx [⟨tg, iter, ifs, 0⟩] scope pos) (some (.Name y py)) spos.line X.env = pure true) (hi : PI X tg iter wi) (ok : BlkOk X.N X.env.scope scope own)
    (hg : ∀ (s : Shared) (H : Hp) (C : Addr) (cl : List (Str × Addr)) (fp : List Addr), PG (X.blk s H scope (compEnvC scope cl C X.env) fp) tg g) (ht : ∀ (s : Shared) (H : Hp) (C : Addr) (cl : List (Str × Addr)) (fp : List Addr), PTs (X.blk s H scope (compEnvC scope cl C X.env) fp) ifs tt)
    (hk : ∀ (s : Shared) (H : Hp) (C : Addr) (cl : List (Str × Addr)) (fp : List Addr), PE (X.blk s H scope (compEnvC scope cl C X.env) fp) kx tk)
    (he : ∀ (s : Shared) (H : Hp) (C : Addr) (cl : List (Str × Addr)) (fp : List Addr), PE (X.blk s H scope (compEnvC scope cl C X.env) fp) vx tv) (hs : ∀ x, foldedSetIterable iter X.env x = pure x := by intro _; rfl) :
    PS X (.Assign [.Name y py] (.DictComp kx vx [⟨tg, iter, ifs, 0⟩] scope pos) spos) (tAsg (tDc wi g tt tk tv (own.map (·.2))) (gName i)) := by
  refine ⟨fun pins s σ H D I h => ?_⟩
  rw [exec_Assign_Name_used _ _ _ _ hsw]
  refine wpAny_bind (wpAny_standAt (wpAny_bind ?_))
  show wpAny _ X.A (do let _ ← comprehension (.DictComp kx vx [⟨tg, iter, ifs, 0⟩] scope pos) scope X.env (firstIterPos [⟨tg, iter, ifs, 0⟩] pos) newDict false (eval iter X.env) (some (assign (.Name y py) X.env))) _ _ s
  have h : tDc wi g tt tk tv (own.map (·.2)) σ H (fun x H1 => gName i x σ H1 D.nx) := h
  refine wpAny_bind (thn (dc_core (Qf := fun _ s' => SP X pins D .next s') hc hN I hi ok hg ht hk he hs h fun L C s' m H' I' q hn f => ?_) fun _ s' hq => wpAny_pure (wpAny_pure hq))
  show wpAny _ _ (assign (.Name y py) X.env (.ref L)) _ _ _
  refine wpAny_assign_Name (store_ok2 (v := V.ref L) I' hN hy (.inl hyl) rfl (fun s2 I2 ⟨a, sb, ha⟩ => ?_) (.inr hyl))
  obtain ⟨f0, f1, f2, f3, f4, f5⟩ := f
  have haC : C ≠ a := by
    rcases ha with z | z
    · rw [z]; exact f1
    · exact fun e => f4 y a z e.symm
  refine ⟨m, hn.sameBut sb haC, fun h3 sb3 => ?_⟩
  exact ⟨_, H', I2.turned (t' := s2.toks) (fun b o hb e => (sb3.2 b hb).trans e) f0 f1 f3 f4 f5, q⟩
theorem pg_tupK {X : Cx} {K : PySem.W.Frag} {es : List Expr} {k : Nat} {t : TGs} {n : Nat} {pos : Pos} (hK : X.K = K) (hc : X.calm = true) (h : PGs X es t)
    (hn : (assignEach es X.env).length = n := by rfl) (hst : (assignEach es X.env).findIdx? (·.1) = none := by rfl) : PG X (.Tuple es k pos) (gTup K n t) := hK ▸ pg_tup hc h hn hst
end Own
namespace Own
open PySem PySem.Spec PyProof.Rows L2
theorem mt_joinK {X : Cx} {K : PySem.W.Frag} (hK : X.K = K) : MtR X "str.join" (fun x xs H Q => ∃ (a : Str) (p : Addr) (ys : List Str), x = V.str a ∧ xs = [V.ref p] ∧ (SqL K H p (ys.map V.str) ∨ SqT K H p (ys.map V.str)) ∧ (ys.map (·.length)).sum + ys.length * a.length ≤ 16777216 ∧ Q (V.str (Txt.join a ys)) H) := hK ▸ mt_join
theorem erase_perm {α : Type} : ∀ (l : List α) (i : Nat) (h : i < l.length), l.Perm (l[i] :: l.eraseIdx i)
  | x :: l, 0, _ => .refl _
  | x :: l, i + 1, h => by
    have := erase_perm l i (Nat.lt_of_succ_lt_succ h)
    exact (this.cons x).trans (.swap _ _ _)
end Own
set_option Elab.async false
set_option linter.all false
set_option maxRecDepth 100000
set_option maxHeartbeats 4000000
/-! texts put together of names that are apart -/
namespace Own
open PySem PySem.Spec PyProof.Rows
def flat (L : List (List Nat)) (row : List Nat) : List Nat := (row.map fun i => L.getD i []).flatten
def Joins (L : List (List Nat)) (t : List Nat) (row : List Nat) : Prop := (∀ i ∈ row, i < L.length) ∧ flat L row = t
theorem flat_nil (L : List (List Nat)) : flat L [] = [] := rfl
theorem flat_cons (L : List (List Nat)) (i : Nat) (row : List Nat) : flat L (i :: row) = L.getD i [] ++ flat L row := rfl
theorem flat_app (L : List (List Nat)) (a b : List Nat) : flat L (a ++ b) = flat L a ++ flat L b := by
  unfold flat
  rw [List.map_append, List.flatten_append]
theorem ap_pre {L : List (List Nat)} (ap : ApartL L) {i j : Nat} {t : List Nat} (hi : i < L.length) (hj : j < L.length) (h1 : L.getD i [] <+: t) (h2 : L.getD j [] <+: t) : i = j := by
  have ei : L.getD i [] = L[i] := by simp [List.getD_eq_getElem?_getD, List.getElem?_eq_getElem hi]
  have ej : L.getD j [] = L[j] := by simp [List.getD_eq_getElem?_getD, List.getElem?_eq_getElem hj]
  rw [ei] at h1
  rw [ej] at h2
  unfold ApartL at ap
  rw [List.pairwise_iff_getElem] at ap
  have or_ := List.prefix_or_prefix_of_prefix h1 h2
  rcases Nat.lt_trichotomy i j with z | z | z
  · have := ap i j hi hj z
    rcases or_ with q | q
    · exact absurd q this.1
    · exact absurd q this.2
  · exact z
  · have := ap j i hj hi z
    rcases or_ with q | q
    · exact absurd q this.2
    · exact absurd q this.1
theorem getD_ne {L : List (List Nat)} (ne : ∀ x ∈ L, x ≠ []) {i : Nat} (hi : i < L.length) : L.getD i [] ≠ [] := by
  have ei : L.getD i [] = L[i] := by simp [List.getD_eq_getElem?_getD, List.getElem?_eq_getElem hi]
  rw [ei]
  exact ne _ (List.getElem_mem hi)
theorem joins_split {L : List (List Nat)} (ap : ApartL L) (ne : ∀ x ∈ L, x ≠ []) : ∀ (fs rest row : List Nat), (∀ i ∈ fs, i < L.length) → (∀ i ∈ row, i < L.length) → flat L row = flat L fs ++ rest → ∃ row', row = fs ++ row' ∧ flat L row' = rest
  | [], rest, row, _, _, e => ⟨row, rfl, e⟩
  | i :: fs, rest, row, hf, hr, e => by
    have hi := hf i List.mem_cons_self
    cases row with
    | nil =>
      rw [flat_nil, flat_cons, List.append_assoc] at e
      have : L.getD i [] = [] := (List.append_eq_nil_iff.mp e.symm).1
      exact absurd this (getD_ne ne hi)
    | cons j row =>
      have hj := hr j List.mem_cons_self
      rw [flat_cons, flat_cons, List.append_assoc] at e
      have p1 : L.getD j [] <+: L.getD i [] ++ (flat L fs ++ rest) := ⟨flat L row, e⟩
      have p2 : L.getD i [] <+: L.getD i [] ++ (flat L fs ++ rest) := List.prefix_append _ _
      have eij := ap_pre ap hj hi p1 p2
      subst eij
      have e' := List.append_cancel_left e
      obtain ⟨row', h1, h2⟩ := joins_split ap ne fs rest row (fun k hk => hf k (List.mem_cons_of_mem _ hk)) (fun k hk => hr k (List.mem_cons_of_mem _ hk)) e'
      exact ⟨row', by rw [h1]; rfl, h2⟩
theorem joins_uniq {L : List (List Nat)} (ap : ApartL L) (ne : ∀ x ∈ L, x ≠ []) {t r1 r2 : List Nat} (h1 : Joins L t r1) (h2 : Joins L t r2) : r1 = r2 := by
  obtain ⟨r', e, f⟩ := joins_split ap ne r1 [] r2 h1.1 h2.1 (by rw [List.append_nil, h1.2, h2.2])
  cases r' with
  | nil => rw [e, List.append_nil]
  | cons j r' =>
    have hj : j < L.length := h2.1 j (by rw [e]; simp)
    rw [flat_cons] at f
    exact absurd (List.append_eq_nil_iff.mp f).1 (getD_ne ne hj)
/-- where no name goes on nothing is put together -/
theorem joins_stop {L : List (List Nat)} (ap : ApartL L) (ne : ∀ x ∈ L, x ≠ []) {t fs rest row : List Nat} (hf : ∀ i ∈ fs, i < L.length) (e : t = flat L fs ++ rest) (hr : rest ≠ []) (no : ∀ i, i < L.length → ¬ L.getD i [] <+: rest) : ¬ Joins L t row := by
  rintro ⟨h1, h2⟩
  obtain ⟨r', e1, f⟩ := joins_split ap ne fs rest row hf h1 (by rw [h2, e])
  cases r' with
  | nil => exact hr f.symm
  | cons j r' =>
    refine no j (h1 j (by rw [e1]; simp)) ⟨flat L r', ?_⟩
    rw [← f, flat_cons]
theorem getD_map {zs : List Str} {i : Nat} {z : Str} (h : zs[i]? = some z) : (zs.map fun z => z.cps.toList).getD i [] = z.cps.toList := by
  rw [List.getD_eq_getElem?_getD, List.getElem?_map, h]
  rfl
theorem apart_nodup {zs : List Str} (ap : ApartL (zs.map fun z => z.cps.toList)) : ∀ (i j : Nat) (z : Str), zs[i]? = some z → zs[j]? = some z → i = j := by
  intro i j z hi hj
  refine ap_pre ap (t := z.cps.toList) ?_ ?_ ?_ ?_
  · rw [List.length_map]; exact (List.getElem?_eq_some_iff.mp hi).1
  · rw [List.length_map]; exact (List.getElem?_eq_some_iff.mp hj).1
  · rw [getD_map hi]; exact List.prefix_refl _
  · rw [getD_map hj]; exact List.prefix_refl _
end Own
set_option Elab.async false
set_option linter.all false
set_option maxRecDepth 100000
set_option maxHeartbeats 4000000
namespace K06
open PySem PySem.Spec PyProof.Rows L2 Own

theorem hu2 {k : Nat} {A : Around} (hr : Room k A) : A.units + 1 < cLine := by
  have := hr.un
  omega
theorem cut_mid {t : Str} {i l : Nat} : cutS t (some (i : Int)) (some ((i : Int) + (l : Int))) = SX.S ((t.cps.toList.drop i).take l) := by
  have a1 : HT.sIx t.length 0 (some (i : Int)) = min i t.length := by
    show (if ((i : Nat) : Int) < 0 then (((i : Nat) : Int) + (t.length : Int)).toNat else min (i : Int).toNat t.length) = _
    rw [if_neg (by omega), Int.toNat_natCast]
  have a2 : HT.sIx t.length t.length (some ((i : Int) + (l : Int))) = min (i + l) t.length := by
    show (if (i : Int) + (l : Int) < 0 then ((i : Int) + (l : Int) + (t.length : Int)).toNat else min ((i : Int) + (l : Int)).toNat t.length) = _
    rw [if_neg (by omega), show ((i : Int) + (l : Int)).toNat = i + l by omega]
  have lt : t.cps.toList.length = t.length := by simp [Str.length]
  unfold cutS
  rw [a1, a2]
  congr 1
  by_cases h : i ≤ t.length
  · rw [Nat.min_eq_left h]
    by_cases h2 : i + l ≤ t.length
    · rw [Nat.min_eq_left h2, show i + l - i = l by omega]
    · rw [Nat.min_eq_right (by omega), List.take_of_length_le (by rw [List.length_drop]; omega), List.take_of_length_le (by rw [List.length_drop]; omega)]
  · rw [List.drop_eq_nil_of_le (by omega), List.drop_eq_nil_of_le (by omega), List.take_nil, List.take_nil]
/-- the places of names in a dict -/
structure Plc (kvs : List (Key × V)) (zs : List Str) (n : Nat) : Prop where
  at_ : ∀ (j : Nat) (z : Str), j < n → zs[j]? = some z → valV kvs (.inr z) = some (.int (j : Nat))
  of_ : ∀ (y : Str) (v : V), valV kvs (.inr y) = some v → y ∈ zs
  le : kvs.length ≤ n
theorem plc_nil (zs : List Str) : Plc [] zs 0 := ⟨fun j z h => absurd h (Nat.not_lt_zero _), fun y v h => by simp [valV_nil] at h, Nat.zero_le _⟩
theorem plc_put {kvs : List (Key × V)} {zs : List Str} {n : Nat} {z : Str} (p : Plc kvs zs n) (h : zs[n]? = some z) (nd : ∀ (i j : Nat) (z : Str), zs[i]? = some z → zs[j]? = some z → i = j) : Plc (putK kvs (.inr z) (.int (n : Nat))) zs (n + 1) := by
  refine ⟨fun j y lt hy => ?_, fun y v hv => ?_, (by have := length_putK kvs (.inr z) (V.int (n : Nat)); have := p.le; omega)⟩
  · rw [valV_put]
    by_cases e : (Sum.inr y : Key) = .inr z
    · have e' : y = z := by injection e
      subst e'
      rw [if_pos rfl, nd j n y hy h]
    · rw [if_neg e]
      refine p.at_ j y (Nat.lt_of_le_of_ne (Nat.le_of_lt_succ lt) fun q => e ?_) hy
      rw [q, h] at hy
      cases hy
      rfl
  · rw [valV_put] at hv
    by_cases e : (Sum.inr y : Key) = .inr z
    · have e' : y = z := by injection e
      rw [e']
      exact List.mem_of_getElem? h
    · rw [if_neg e] at hv
      exact p.of_ y v hv
theorem Plc.some_iff {kvs : List (Key × V)} {zs : List Str} (p : Plc kvs zs zs.length) (y : Str) : (valV kvs (.inr y)).isSome = true ↔ y ∈ zs := by
  constructor
  · intro h
    obtain ⟨v, hv⟩ := Option.isSome_iff_exists.mp h
    exact p.of_ y v hv
  · intro h
    obtain ⟨j, hj⟩ := List.getElem?_of_mem h
    rw [p.at_ j y (List.getElem?_eq_some_iff.mp hj).1 hj]
    rfl
/-! ### name_at -/
def spNameAt : Sp := fun vs H Q _ => ∃ (t : Str) (start : Nat) (d : Addr) (kvs : List (Key × V)) (zs : List Str), vs = [.str t, .int (start : Nat), .ref d] ∧ H d = some (.dK kvs) ∧ t.length ≤ 2000 ∧ start ≤ 2000 ∧ (∀ z ∈ zs, 1 ≤ z.length ∧ z.length ≤ 60) ∧ (∀ y, (valV kvs (.inr y)).isSome = true ↔ y ∈ zs) ∧
  (∀ z ∈ zs, z.cps.toList <+: t.cps.toList.drop start → Q (.str z) H) ∧ ((∀ z ∈ zs, ¬ z.cps.toList <+: t.cps.toList.drop start) → Q .non H)
section
variable {P : Program} {w : World} {K : PySem.W.Frag} {mg : Str → Option Value} {base : Heap}

theorem ok_name_at {f : Addr} {fd : FuncData} (F : Fun K "name_at" "name_at" s_name_at f fd) (T : Txt mg) : FnOk P w K mg base CX0 1 f fd ["text", "start", "places"] spNameAt := by
  refine F.ok sc_name_at (fun vs H Q E h => ?_) (fun cdv A outer s H vs Q E hr h => ?_)
  · obtain ⟨t, start, d, kvs, zs, rfl, _⟩ := h
    rfl
  · obtain ⟨t, start, d, kvs, zs, rfl, hd, ht, hs, hz, hk, ky, kn⟩ := h
    have hr0 := hr
    refine ⟨_, (pss_cons (ps_for PassesOwn.never rfl (pi_range2 rfl T.b_range (pa_cons pe_int (pa_cons (pe_op op_add (pe_gi T.g_MOST_SIGNS) pe_int) pa_nil))) (pg_name (i := 3) sc_name_at.nd rfl (Or.inl rfl))
  (pss_cons (ps_set (i := 4) sc_name_at.nd rfl (Or.inl rfl) (pe_slice sl_str (pv 0) (po_some (pv 1)) (po_some (pe_op op_add (pv 1) (pv 3)))))
  (pss_one (ps_if (pt_cmp (pc_din (hu2 hr) (pv 4) (pv 2)))
  (pss_one (ps_ret (pv 4)))
  pss_nil))))
  (pss_one (ps_ret pe_non))), ?_⟩
    refine ⟨_, _, rfl, rfl, 1, 61, rfl, ⟨by decide, by decide, by decide, by decide⟩, ?_⟩
    refine for_it (walk_range (lo := 1) (n := 60)) (fun i σ' H' => H' = H ∧ (∃ o3 o4, σ' = [some (.str t), some (.int (start : Nat)), some (.ref d), o3, o4]) ∧ ∀ z ∈ zs, z.length ≤ i → ¬ z.cps.toList <+: t.cps.toList.drop start)
      ⟨rfl, ⟨_, _, rfl⟩, fun z hz' le => by have := (hz z hz').1; omega⟩ (fun _ _ _ _ _ => trivial) (fun i x σ' H' H2 hi ⟨e, ⟨o3, o4, es⟩, no⟩ y => ?_) (fun σ' H' ⟨e, ⟨o3, o4, es⟩, no⟩ => ?_)
    · subst es
      obtain ⟨rfl, rfl⟩ := y
      subst e
      refine ⟨_, rfl, _, rfl, _, rfl, _, rfl, _, rfl, _, _, rfl, rfl, _, rfl, t, rfl, Nat.le_trans ht (by decide), ?_⟩
      rw [show ((start : Nat) : Int) + (1 + (i : Int)) = ((start : Nat) : Int) + ((i + 1 : Nat) : Int) by omega, cut_mid]
      refine ⟨_, rfl, _, rfl, d, _, rfl, DGet.k (k := .inr (SX.S ((t.cps.toList.drop start).take (i + 1)))) hd, _, rfl, ?_⟩
      cases hv : (valV kvs (.inr (SX.S ((t.cps.toList.drop start).take (i + 1))))).isSome with
      | true =>
        have mem := (hk _).mp hv
        have pre : (SX.S ((t.cps.toList.drop start).take (i + 1))).cps.toList <+: t.cps.toList.drop start := by
          show ((t.cps.toList.drop start).take (i + 1)).toArray.toList <+: _
          rw [List.toList_toArray]
          exact List.take_prefix _ _
        exact iteT ⟨_, rfl, ky _ mem pre⟩
      | false =>
        refine iteF ⟨rfl, ⟨_, _, rfl⟩, fun z hz' le => ?_⟩
        by_cases q : z.length ≤ i
        · exact no z hz' q
        · intro pre
          have e1 : z = SX.S ((t.cps.toList.drop start).take (i + 1)) := by
            have zl : z.cps.toList.length = i + 1 := by
              have : z.cps.toList.length = z.length := by simp [Str.length]
              omega
            have e2 := List.prefix_iff_eq_take.mp pre
            rw [zl] at e2
            rw [← e2, SX.S_tl]
          have : (valV kvs (.inr (SX.S ((t.cps.toList.drop start).take (i + 1))))).isSome = true := (hk _).mpr (by rw [← e1]; exact hz')
          rw [hv] at this
          cases this
    · subst es
      subst e
      exact kn fun z hz' => no z hz' (hz z hz').2
end
/-! ### cut_text -/
theorem namesB_same {H H' : Hp} {v : V} (s : Same H H') (h : An H v) : namesB H' v = namesB H v ∧ apB H' v = apB H v ∧ sgs H' v = sgs H v := by
  have e := items_mono s h
  have r : rowB H' v 0 200 = rowB H v 0 200 := by
    cases h with
    | non => rfl
    | bl b => rfl
    | int i => rfl
    | str h => rfl
    | lst h => simp [rowB, h, s _ _ h]
    | tup h => simp [rowB, h, s _ _ h]
    | dK h => simp [rowB, h, s _ _ h]
  have e3 : sgs H' v = sgs H v := by unfold sgs; rw [e]
  refine ⟨by unfold namesB; rw [e, r], ?_, e3⟩
  rw [Bool.eq_iff_iff, apB_iff, apB_iff, e3]
theorem names_len {H : Hp} {v : V} {zs : List Str} (hn : namesB H v = true) (e : items H v = zs.map V.str) : ∀ z ∈ zs, 1 ≤ z.length ∧ z.length ≤ 60 := by
  intro z hz
  unfold namesB at hn
  rw [Bool.and_eq_true, e] at hn
  have hb := List.all_eq_true.mp hn.2 (.str z) (List.mem_map.mpr ⟨z, hz, rfl⟩)
  have hb : (decide ((1 : Int) ≤ z.length) && (decide ((z.length : Int) ≤ 60) && decide (Txt.stripChars z "01" = ""))) = true := hb
  simp only [Bool.and_eq_true, decide_eq_true_eq] at hb
  omega
theorem sig_str {v : V} (h : sigB v 0 2000 = true) : ∃ t, v = .str t ∧ t.length ≤ 2000 := by
  cases v with
  | str t =>
    have h : (decide ((0 : Int) ≤ t.length) && (decide ((t.length : Int) ≤ 2000) && decide (Txt.stripChars t "01" = ""))) = true := h
    simp only [Bool.and_eq_true, decide_eq_true_eq] at h
    exact ⟨t, rfl, by omega⟩
  | _ => cases h
theorem dcn {K : PySem.W.Frag} {σ : L2.St} {H : Hp} {Q : VK} {a : Addr} {zs : List Str} (at_ : H a = some (.lst (zs.map V.str)) ∨ H a = some (.tup (zs.map V.str))) (few : zs.length ≤ 200) (nd : ∀ (i j : Nat) (z : Str), zs[i]? = some z → zs[j]? = some z → i = j)
    (e0 : σ[0]? = some (some (.ref a))) (l7 : σ.length = 7)
    (k : ∀ D H3 kvs, H D = none → Same H H3 → H3 D = some (.dK kvs) → Plc kvs zs zs.length → Q (.ref D) H3) :
    tDc (fun σ H R => iEnum K (tCons (tVar 0) tNil) σ H R ∨ iEnumT K (tCons (tVar 0) tNil) σ H R) (gTup K 2 (gCons (gName 6) (gCons (gName 2) gNil))) tYes (tVar 2) (tVar 6) [6, 2] σ H Q := by
  have wl : (wipe σ [6, 2]).length = 7 := by rw [wipe_length, l7]
  have turn : ∀ (D : Addr), H D = none → ∀ (i : Nat) (x : V) (H1 H' : Hp), i < (zs.map V.str).length → (Same H H1 ∧ ∃ kvs, H1 D = some (.dK kvs) ∧ Plc kvs zs i) → YPair (fun i => some (.int (i : Nat))) (fun i => (zs.map V.str)[i]?) i H1 x H' →
      gTup K 2 (gCons (gName 6) (gCons (gName 2) gNil)) x (wipe σ [6, 2]) H' fun σ2 H2 => wipe σ2 [6, 2] = wipe σ [6, 2] ∧ tYes σ2 H2 fun b H3 =>
        if b = true then tVar 2 σ2 H3 fun y H4 => tVar 6 σ2 H4 fun z H5 => ∃ kvs k, y = kV k ∧ H5 D = some (.dK kvs) ∧ kvs.length < sizeLine ∧ (Same H (upd H5 D (.dK (putK kvs k z))) ∧ ∃ kvs', (upd H5 D (.dK (putK kvs k z))) D = some (.dK kvs') ∧ Plc kvs' zs (i + 1)) else (Same H H3 ∧ ∃ kvs, H3 D = some (.dK kvs) ∧ Plc kvs zs (i + 1)) := by
    rintro D hD i x H1 H' hi ⟨s, kvs, hd, p⟩ ⟨Tt, x1, x2, rfl, hT, rfl, e1, e2⟩
    injection e1 with e1
    subst e1
    have e2 : (zs.map V.str)[i]? = some x2 := e2
    rw [List.getElem?_map] at e2
    obtain ⟨z, hz, rfl⟩ := Option.map_eq_some_iff.mp e2
    have sT := s.trans (same_new (o := HO.tup [.int (i : Nat), .str z]) hT)
    have hd2 : upd H1 Tt (HO.tup [.int (i : Nat), .str z]) D = some (.dK kvs) := (upd_ne (ne_of_none hd hT)).trans hd
    refine ⟨Tt, _, rfl, SqT.of upd_same, rfl, _, _, rfl, _, _, rfl, rfl, ?_⟩
    generalize upd H1 Tt (HO.tup [.int (i : Nat), .str z]) = H3 at sT hd2 ⊢
    have g6 : (((wipe σ [6, 2]).set 6 (some (V.int (i : Nat)))).set 2 (some (V.str z)))[2]? = some (some (V.str z)) := by rw [List.getElem?_set_self (by simp [wl])]
    have g2 : (((wipe σ [6, 2]).set 6 (some (V.int (i : Nat)))).set 2 (some (V.str z)))[6]? = some (some (V.int (i : Nat))) := by
      rw [List.getElem?_set_ne (by decide), List.getElem?_set_self (by simp [wl])]
    refine ⟨?_, yes_if ⟨_, g6, _, g2, kvs, .inr z, rfl, hd2, Nat.lt_of_le_of_lt p.le (Nat.lt_of_lt_of_le (m := 201) (by rw [List.length_map] at hi; omega) (by decide)), same_mut sT hD, _, upd_same, plc_put p hz nd⟩⟩
    match σ, l7 with
    | [_, _, _, _, _, _, _], _ => rfl
  rcases at_ with h | h
  · refine .inl ⟨_, e0, a, zs.map V.str, rfl, SqL.of h, fun D hD => ?_⟩
    refine dc_it (walk_enum (K := K) (a := a) (xs := zs.map V.str)) (fun i H1 => Same H H1 ∧ ∃ kvs, H1 D = some (.dK kvs) ∧ Plc kvs zs i) ⟨same_new hD, _, upd_same, plc_nil zs⟩ (fun i H1 _ p => SqL.of (p.1 _ _ h)) (fun i x H1 H' hi p y => turn D hD i x H1 H' hi p y) (fun H1 ⟨s, kvs, hd, p⟩ => k D H1 kvs hD s hd (by rw [List.length_map] at p; exact p))
  · refine .inr ⟨_, e0, a, zs.map V.str, rfl, SqT.of h, fun D hD => ?_⟩
    refine dc_it (walk_enumT (K := K) (a := a) (xs := zs.map V.str)) (fun i H1 => Same H H1 ∧ ∃ kvs, H1 D = some (.dK kvs) ∧ Plc kvs zs i) ⟨same_new hD, _, upd_same, plc_nil zs⟩ (fun i H1 _ p => SqT.of (p.1 _ _ h)) (fun i x H1 H' hi p y => turn D hD i x H1 H' hi p y) (fun H1 ⟨s, kvs, hd, p⟩ => k D H1 kvs hD s hd (by rw [List.length_map] at p; exact p))
def spCut (CB CM : Addr) : Sp := fun vs H Q E => ∃ v tv, vs = [v, tv] ∧ An2 H v ∧ An H tv ∧ (namesB H v = false → eBad CB "names" H E) ∧ (namesB H v = true → sigB tv 0 2000 = false → eBad CB "text" H E) ∧
  (namesB H v = true → sigB tv 0 2000 = true → apB H v = false → eBad CM "names" H E) ∧
  (namesB H v = true → sigB tv 0 2000 = true → apB H v = true → (∀ row, Joins (sgs H v) (tx tv).cps.toList row → ∀ H' p, Same H H' → H' p = none → Q (.ref p) (upd H' p (.tup (row.map fun (i : Nat) => V.int i)))) ∧ ((∀ row, ¬ Joins (sgs H v) (tx tv).cps.toList row) → ∀ H', Same H H' → Q .non H'))
def Wcut (H : Hp) (a D fo : Addr) (t : Str) (kvs : List (Key × V)) (zs : List Str) : Nat → L2.St → Hp → Prop := fun m σ' H' => ∃ (fs : List Nat) (start : Nat) (o2 : Option V), m = t.length - start ∧ σ' = [some (.ref a), some (.str t), o2, some (.ref D), some (.ref fo), some (.int (start : Nat)), none] ∧ Same H H' ∧ H' D = some (.dK kvs) ∧
  H' fo = some (.lst (fs.map fun (i : Nat) => V.int i)) ∧ start ≤ t.length ∧ (∀ i ∈ fs, i < zs.length) ∧ flat (zs.map fun z => z.cps.toList) fs = t.cps.toList.take start ∧ fs.length ≤ start
section
variable {P : Program} {w : World} {K : PySem.W.Frag} {mg : Str → Option Value} {base : Heap}
theorem ok_cut_text {CB CM f : Addr} {fd : FuncData} (F : Fun K "cut_text" "cut_text" s_cut_text f fd) (T : Txt mg) (R_BadName : Rcl P w K mg base "BadName" CB "part") (C_need_names : CalX P w K mg base 3 "need_names" ["names"] (spNeed CB)) (C_is_signs : Cal P w K mg base 1 "is_signs" ["value", "least", "most"] spSig)
    (C_need_apart : CalX P w K mg base 5 "need_apart" ["names"] (spNeedAp CB CM)) (C_name_at : Cal P w K mg base 1 "name_at" ["text", "start", "places"] spNameAt) : FnOk P w K mg base (L2.CX P w) 6 f fd ["names", "text"] (spCut CB CM) := by
  refine F.okX sc_cut_text (fun vs H Q E h => ?_) (fun cdv A outer s H vs Q E hr h => ?_)
  · obtain ⟨v, tv, rfl, _⟩ := h
    rfl
  · obtain ⟨v, tv, rfl, h2, ta, ke, kt, km, kq⟩ := h
    refine ⟨_, (pss_cons (ps_expr (pe_calE C_need_names (takes_of rfl rfl rfl rfl) (hr.mono (by decide)) (pa_cons (pv 0) pa_nil)))
  (pss_cons (ps_if (pt_not (pt_val (pe_cal C_is_signs (hr.mono (by decide)) (pa_cons (pv 1) (pa_cons pe_int (pa_cons (pe_gi T.g_MOST_TEXT) pa_nil))))))
  (pss_one (ps_raise1 R_BadName rfl (takes_of rfl rfl rfl rfl) (hr.mono (by decide)) pe_str))
  pss_nil)
  (pss_cons (ps_expr (pe_calE C_need_apart (takes_of rfl rfl rfl rfl) (hr.mono (by decide)) (pa_cons (pv 0) pa_nil)))
  (pss_cons (ps_setDc (i := 3) (own := [("place", 6), ("name", 2)]) (tt := tYes) rfl sc_cut_text.nd rfl rfl (sw_trueD rfl rfl rfl (by decide +kernel)) (pi_alt (pi_enum rfl T.b_enumerate (pa_cons (pv 0) pa_nil)) (pi_enumT rfl T.b_enumerate (pa_cons (pv 0) pa_nil))) (blkOk_by (own := [("place", 6), ("name", 2)]) (N := N_cut_text) (sc := defScope s_cut_text) (by decide +kernel)) (fun _ _ _ _ _ => (pg_tupK (K := K) (n := 2) (by rfl) rfl (pgs_cons (pg_name (i := 6) sc_cut_text.nd rfl (Or.inl rfl)) (pgs_cons (pg_name (i := 2) sc_cut_text.nd rfl (Or.inl rfl)) pgs_nil)))) (fun _ _ _ _ _ => pts_nil) (fun _ _ _ _ _ => (pv 2)) (fun _ _ _ _ _ => (pv 6)))
  (pss_cons (ps_set (i := 4) sc_cut_text.nd rfl (Or.inl rfl) (pe_lst pa_nil))
  (pss_cons (ps_set (i := 5) sc_cut_text.nd rfl (Or.inl rfl) pe_int)
  (pss_cons (ps_while (passes_of rfl) (pt_cmpR op_lt (pv 5) (pe_callB call_len_str (by rfl) T.b_len boot_len (pa_cons (pv 1) pa_nil)) (nomark _))
  (pss_cons (ps_set (i := 2) sc_cut_text.nd rfl (Or.inl rfl) (pe_cal C_name_at (hr.mono (by decide)) (pa_cons (pv 1) (pa_cons (pv 5) (pa_cons (pv 3) pa_nil)))))
  (pss_cons (ps_if (pt_cmpR op_isN (pv 2) pe_non (nomark _))
  (pss_one (ps_ret pe_non))
  pss_nil)
  (pss_cons (ps_expr (pe_bm PySem.F.plainAttrs_list PySem.F.slot_list_append PySem.F.type_list_append mt_append (pv 4) (pa_cons (pe_dget (hu2 hr) (pv 3) (pv 2) (fun _ _ => rfl)) pa_nil)))
  (pss_one (ps_aug (i := 5) sc_cut_text.nd rfl (Or.inl rfl) (pe_callB call_len_str (by rfl) T.b_len boot_len (pa_cons (pv 2) pa_nil)) ip_add))))))
  (pss_one (ps_ret (pe_callTy call_tuple_of (by rfl) T.b_tuple boot_tuple (pa_cons (pv 4) pa_nil))))))))))), ?_⟩
    refine ⟨v, rfl, v, rfl, h2, fun hn H1 s1 => ?_, fun hn H1 d s1 hd => ke hn H1 d s1 hd⟩
    refine ⟨tv, rfl, tv, 0, 2000, rfl, ta.mono s1, ⟨_, rfl, ?_⟩⟩
    cases hsg : sigB tv 0 2000 with
    | false => exact iteT fun d hd => kt hn hsg H1 d s1 hd
    | true =>
      refine iteF ?_
      obtain ⟨n1, n2, n3⟩ := namesB_same s1 h2.an
      refine ⟨v, rfl, v, rfl, h2.mono s1, fun z => (by rw [n1, hn] at z; cases z), fun _ ha H2 d s2 hd => km hn hsg (n2 ▸ ha) H2 d (s1.trans s2) hd, fun _ ha H2 s2 => ?_⟩
      have ha' : apB H v = true := n2 ▸ ha
      obtain ⟨a, zs, rfl, e2, few, at_, eS⟩ := names_at h2.an hn
      have s12 := s1.trans s2
      have ap := apB_iff.mp ha'
      rw [eS] at ap
      have nd := apart_nodup ap
      have zl := names_len hn e2
      obtain ⟨t, rfl, tl⟩ := sig_str hsg
      obtain ⟨kr, kno⟩ := kq hn hsg ha'
      rw [eS] at kr kno
      have ne : ∀ x ∈ zs.map (fun z : Str => z.cps.toList), x ≠ [] := by
        intro x hx
        obtain ⟨z, hz, rfl⟩ := List.mem_map.mp hx
        intro q
        have := (zl z hz).1
        have e : z.cps.toList.length = z.length := by simp [Str.length]
        rw [q] at e
        simp at e
        omega
      have lt : t.cps.toList.length = t.length := by simp [Str.length]
      refine seq_set (dcn (at_.imp (fun z => s12 _ _ z) (fun z => s12 _ _ z)) few nd rfl rfl fun D H3 kvs fD s3 hD hp => ?_)
      have sA := s12.trans s3
      refine ⟨by show 0 ≤ sizeLine; decide, fun fo hfo => ?_⟩
      have sB := sA.trans (same_new (o := HO.lst []) hfo)
      have hD2 : upd H3 fo (HO.lst []) D = some (.dK kvs) := (upd_ne (ne_of_none hD hfo)).trans hD
      have foD : fo ≠ D := fun z => by rw [z, hD] at hfo; cases hfo
      have foN : H fo = none := by
        cases e : H fo with
        | none => rfl
        | some o =>
          have := sA _ _ e
          rw [hfo] at this
          cases this
      have ho2 : upd H3 fo (HO.lst []) fo = some (.lst []) := upd_same
      generalize upd H3 fo (HO.lst []) = H4 at sB hD2 ho2 ⊢
      dsimp only [gName]
      refine ⟨Wcut H a D fo t kvs zs, ⟨_, [], 0, none, rfl, rfl, sB, hD2, ho2, Nat.zero_le _, fun i h => (nomatch h), by rw [List.take_zero]; rfl, Nat.le_refl _⟩, ?_⟩
      rintro m σ' H5 ⟨fs, start, o2, rfl, rfl, s5, hD5, ho5, le, hf, fl, fle⟩
      have hf' : ∀ i ∈ fs, i < (zs.map fun z : Str => z.cps.toList).length := fun i hi => by rw [List.length_map]; exact hf i hi
      refine ⟨_, rfl, _, rfl, t, rfl, Nat.le_trans tl (by decide), _, _, rfl, rfl, _, rfl, ?_⟩
      by_cases lt' : start < t.length
      · rw [decide_eq_true (show ((start : Nat) : Int) < ((t.length : Nat) : Int) by omega)]
        refine iteT ⟨fun σ2 H6 => ∃ m', m' < t.length - start ∧ Wcut H a D fo t kvs zs m' σ2 H6, fun _ _ h => h, ?_⟩
        refine ⟨_, rfl, _, rfl, _, rfl, t, start, D, kvs, zs, rfl, hD5, tl, by omega, zl, hp.some_iff, fun z hz pre => ?_, fun no => ?_⟩
        · obtain ⟨j, hj⟩ := List.getElem?_of_mem hz
          have jl := (List.getElem?_eq_some_iff.mp hj).1
          have z1 := zl z hz
          have dg : DGet H5 D (.str z) (some (.int (j : Nat))) := by
            have := DGet.k (k := .inr z) hD5
            rw [hp.at_ j z jl hj] at this
            exact this
          have zlen : z.cps.toList.length = z.length := by simp [Str.length]
          have tk := (List.prefix_iff_eq_take.mp pre)
          have le2 : z.length ≤ t.length - start := by
            have := pre.length_le
            rw [List.length_drop] at this
            omega
          dsimp only [gName]
          refine ⟨_, rfl, rfl, _, rfl, iteF ?_⟩
          refine ⟨_, rfl, .inl ⟨rfl, _, SqL.of ho5⟩, _, rfl, _, rfl, D, _, rfl, dg, fo, _, _, rfl, rfl, ho5, Nat.lt_of_le_of_lt (m := 2000) (by rw [List.length_map]; omega) (by decide), ?_⟩
          refine ⟨_, rfl, _, rfl, z, rfl, Nat.le_trans z1.2 (by decide), _, _, rfl, rfl, ?_⟩
          refine ⟨t.length - (start + z.length), by omega, fs ++ [j], start + z.length, some (.str z), rfl, ?_, same_mut s5 foN, (upd_ne foD.symm).trans hD5, by rw [upd_same, List.map_append]; rfl, by omega, fun i hi => ?_, ?_, ?_⟩
          · rw [Int.natCast_add]
            rfl
          · rcases List.mem_append.mp hi with hi | hi
            · exact hf i hi
            · rw [List.mem_singleton.mp hi]
              exact jl
          · rw [flat_app, fl, List.take_add, flat_cons, getD_map hj, flat_nil, List.append_nil, ← zlen, ← tk]
          · rw [List.length_append]
            show fs.length + 1 ≤ _
            omega
        · dsimp only [gName]
          refine ⟨_, rfl, rfl, _, rfl, iteT ?_⟩
          refine kno (fun row hj => joins_stop ap ne hf' (rest := t.cps.toList.drop start) ?_ ?_ (fun i hi => ?_) hj) H5 s5
          · rw [fl, List.take_append_drop]
            rfl
          · intro q
            have := congrArg List.length q
            rw [List.length_drop, List.length_nil] at this
            omega
          · rw [List.length_map] at hi
            have hz := List.getElem?_eq_getElem hi
            rw [getD_map hz]
            exact no _ (List.getElem_mem hi)
      · rw [decide_eq_false (show ¬ ((start : Nat) : Int) < ((t.length : Nat) : Int) by omega)]
        refine iteF ?_
        have e : start = t.length := by omega
        refine ⟨_, rfl, fo, _, rfl, .inl ⟨SqL.of ho5, fun p hp' => kr fs ⟨hf', ?_⟩ H5 p s5 hp'⟩⟩
        rw [fl, e, List.take_of_length_le (by omega)]
        rfl
end
end K06
set_option Elab.async false
set_option linter.all false
set_option maxRecDepth 100000
set_option maxHeartbeats 4000000
/-! texts of the signs 0 and 1 -/
namespace Own
open PySem PySem.Spec PyProof.Rows L2
theorem takeWhile_all {p : Nat → Bool} : ∀ {l : List Nat}, (∀ c ∈ l, p c = true) → l.takeWhile p = l
  | [], _ => rfl
  | c :: l, h => by
    rw [List.takeWhile_cons, if_pos (h c List.mem_cons_self), takeWhile_all fun d hd => h d (List.mem_cons_of_mem _ hd)]
theorem strip_all {goes : Nat → Bool} {x : Str} (h : ∀ c ∈ x.cps.toList, goes c = true) : Txt.stripBy goes true true x = "" := by
  have lx : x.cps.toList.length = x.length := by simp [Str.length]
  have lo : stripLo goes true x = x.length := by
    unfold stripLo
    rw [if_pos rfl, takeWhile_all h, lx]
  have hi : stripHi goes true x x.length = x.length := by
    unfold stripHi
    rw [if_pos rfl, ← lx, List.drop_length]
    rfl
  unfold Txt.stripBy stripSame
  rw [lo, hi]
  by_cases h0 : x.length = 0
  · rw [h0]
    have : x.cps = #[] := by
      have := h0
      simp only [Str.length, Array.size_eq_zero_iff] at this
      exact this
    have e : x = "" := by
      cases x
      cases this
      rfl
    rw [if_pos (by rfl), e]
  · rw [if_neg (by simp [h0])]
    unfold stripped
    rw [lo, hi]
    unfold Builtin.Str.strSub
    have e : x.cps.extract x.length x.length = #[] := Array.extract_empty_of_stop_le_start (Nat.le_refl _)
    rw [e]
    rfl
/-- of the signs 0 and 1 alone -/
def Sg (z : Str) : Prop := ∀ c ∈ z.cps.toList, c = 48 ∨ c = 49
theorem Sg.strip {z : Str} (h : Sg z) : Txt.stripChars z "01" = "" := strip_all fun c hc => by
  rcases h c hc with rfl | rfl <;> decide +kernel
theorem Sg.name {z : Str} (h : Sg z) (h1 : 1 ≤ z.length) (h2 : z.length ≤ 60) : nameB (.str z) = true := by
  show (decide ((1 : Int) ≤ z.length) && (decide ((z.length : Int) ≤ 60) && decide (Txt.stripChars z "01" = ""))) = true
  rw [h.strip]
  simp only [Bool.and_eq_true, decide_eq_true_eq]
  exact ⟨by omega, by omega, trivial⟩
end Own
namespace Own
open PySem PySem.Spec PyProof.Rows L2
theorem joinL_nil : ∀ ys : List (List Nat), TL.joinL [] ys = ys.flatten
  | [] => rfl
  | [p] => by simp [TL.joinL]
  | p :: q :: r => by
    have ih := joinL_nil (q :: r)
    show p ++ ([] ++ TL.joinL [] (q :: r)) = _
    rw [ih, List.nil_append]
    simp
theorem join_empty (ys : List Str) : Txt.join "" ys = SX.S ((ys.map fun y => y.cps.toList).flatten) := by
  have h := SX.join_S [] (ys.map fun y => y.cps.toList)
  rw [joinL_nil] at h
  have e : (ys.map fun y => y.cps.toList).map SX.S = ys := by
    rw [List.map_map]
    conv => rhs; rw [← List.map_id ys]
    exact List.map_congr_left fun y _ => SX.S_tl y
  rw [e] at h
  exact h
/-- one sign each -/
theorem join_signs : ∀ {ys : List Str}, (∀ y ∈ ys, y = "0" ∨ y = "1") → (Txt.join "" ys).length = ys.length ∧ Sg (Txt.join "" ys) := by
  intro ys h
  rw [join_empty]
  have key : ∀ ys : List Str, (∀ y ∈ ys, y = "0" ∨ y = "1") → ((ys.map fun y => y.cps.toList).flatten).length = ys.length ∧ ∀ c ∈ (ys.map fun y => y.cps.toList).flatten, c = 48 ∨ c = 49 := by
    intro ys
    induction ys with
    | nil => intro _; exact ⟨rfl, fun c hc => by cases hc⟩
    | cons y ys ih =>
      intro h
      obtain ⟨a, b⟩ := ih fun z hz => h z (List.mem_cons_of_mem _ hz)
      have e : y.cps.toList = [48] ∨ y.cps.toList = [49] := by
        rcases h y List.mem_cons_self with rfl | rfl
        · exact .inl (by decide +kernel)
        · exact .inr (by decide +kernel)
      rw [List.map_cons, List.flatten_cons]
      rcases e with e | e <;> rw [e]
      · exact ⟨by simp [a], fun c hc => by rcases List.mem_cons.mp hc with rfl | hc; exact .inl rfl; exact b c hc⟩
      · exact ⟨by simp [a], fun c hc => by rcases List.mem_cons.mp hc with rfl | hc; exact .inr rfl; exact b c hc⟩
  obtain ⟨a, b⟩ := key ys h
  exact ⟨by rw [SX.S_len]; exact a, by simpa [Sg] using b⟩
end Own
set_option Elab.async false
set_option linter.all false
set_option maxRecDepth 100000
set_option maxHeartbeats 4000000
/-! how long what repr writes is -/
namespace Own
open PySem PySem.Spec PyProof.Rows L2
section
variable {K : PySem.W.Frag}
/-- what is written of such data -/
structure Sh (n l : Nat) (d : PyData) : Prop where
  s : d.showable = true
  h : d.hasDict = false
  n : d.depth ≤ n
  l : d.shown.length ≤ l
theorem Sh.mono {n l n' l' : Nat} {d : PyData} (h : Sh n l d) (a : n ≤ n') (b : l ≤ l') : Sh n' l' d := ⟨h.s, h.h, Nat.le_trans h.n a, Nat.le_trans h.l b⟩
theorem Sh.list {n l : Nat} : ∀ {ds : List PyData}, (∀ d ∈ ds, Sh n l d) → PyData.showableAll ds = true ∧ PyData.hasDictAll ds = false ∧ PyData.depthAll ds ≤ n ∧ ((PyData.shownAll ds).map (·.length)).sum ≤ ds.length * l ∧ (PyData.shownAll ds).length = ds.length
  | [], _ => by simp [PyData.showableAll, PyData.hasDictAll, PyData.depthAll, PyData.shownAll]
  | d :: ds, h => by
    obtain ⟨a1, a2, a3, a4, a5⟩ := Sh.list (n := n) (l := l) (ds := ds) fun x hx => h x (List.mem_cons_of_mem _ hx)
    have hd := h d List.mem_cons_self
    refine ⟨by simp [PyData.showableAll, hd.s, a1], by simp [PyData.hasDictAll, hd.h, a2], ?_, ?_, by simp [PyData.shownAll, a5]⟩
    · simp only [PyData.depthAll]
      have := hd.n
      omega
    · simp only [PyData.shownAll, List.map_cons, List.sum_cons, List.length_cons]
      have := hd.l
      rw [Nat.succ_mul]
      omega
theorem Sh.lst {n l k : Nat} {ds : List PyData} (h : ∀ d ∈ ds, Sh n l d) (hk : ds.length ≤ k) : Sh (n + 1) (k * l + 2 * k + 3) (.list ds) := by
  obtain ⟨a1, a2, a3, a4, a5⟩ := Sh.list h
  refine ⟨by simpa [PyData.showable] using a1, by simpa [PyData.hasDict] using a2, by simp only [PyData.depth]; omega, ?_⟩
  simp only [PyData.shown]
  have := listText_len_le (PyData.shownAll ds)
  rw [a5] at this
  have b := Nat.mul_le_mul_right l hk
  omega
theorem paired_mem {α β : Type} {F : α → β → Prop} : ∀ {xs : List α} {ys : List β}, Paired F xs ys → ∀ y ∈ ys, ∃ x, F x y
  | _, _, .cons a r, y, hy => by
    rcases List.mem_cons.mp hy with e | e
    · subst e
      exact ⟨_, a⟩
    · exact paired_mem r y e

theorem Sh.two {d e : PyData} (hd : Sh 0 50 d) (he : Sh 0 50 e) : Sh 1 200 (.tuple [d, e]) := by
  refine ⟨by simp [PyData.showable, PyData.showableAll, hd.s, he.s], by simp [PyData.hasDict, PyData.hasDictAll, hd.h, he.h], ?_, ?_⟩
  · have := hd.n
    have := he.n
    simp only [PyData.depth, PyData.depthAll]
    omega
  · have h1 := hd.l
    have h2 := he.l
    simp only [PyData.shown, PyData.shownAll]
    have := tupleText_len_le [d.shown, e.shown]
    simp at this
    omega
theorem sh_int {i : Int} (h : i.natAbs < 10 ^ 21) : Sh 0 50 (.int i) := by
  refine ⟨?_, by simp [PyData.hasDict], by simp [PyData.depth], ?_⟩
  · have : i.natAbs < 2 ^ 80 := by omega
    have := PySem.Flt.log2_lt_of (by decide) this
    simp only [PyData.showable, decide_eq_true_eq]
    omega
  · simp only [PyData.shown]
    rw [show (Str.ofString (toString i)).length = (toString i).length from PySem.ofString_length _]
    have := int_text_length_le10 (a := i) (k := 21) (by decide) h
    omega
theorem ne_rep {te1 te2 : TE} {σ : L2.St} {H : Hp} {R : Bool → Hp → Prop} (h : te1 σ H fun x H1 => rRepr K [x] H1 fun y H2 => te2 σ H2 fun z H3 => rRepr K [z] H3 fun u H4 => rNe y u H4 (fun b H5 => ∃ k, b = .bl k ∧ R k H5)) :
    tTest (tOp rNe (tCB (rRepr K) (tCons te1 tNil)) (tCB (rRepr K) (tCons te2 tNil))) σ H R := h
theorem nx_in {D : Ends} {σ : L2.St} {H : Hp} (h : D.nx σ H) : tNext D σ H := h
theorem ret_eq {te1 te2 tb : TE} {σ : L2.St} {H : Hp} {D : Ends} (h : te1 σ H fun x H1 => rRepr K [x] H1 fun y H2 => te2 σ H2 fun z H3 => rRepr K [z] H3 fun u H4 => rEq y u H4 (fun b H5 => ∃ c, b = .bl c ∧ if c = true then tb σ H5 D.rt else D.rt (.bl false) H5)) :
    tRet (tAndV (tOp rEq (tCB (rRepr K) (tCons te1 tNil)) (tCB (rRepr K) (tCons te2 tNil))) tb) D σ H := h
theorem rep_bl {b : Bool} {H : Hp} {Q : VK} (q : Q (.str (PyData.bool b).shown) H) : rRepr K [.bl b] H Q :=
  ⟨.bl b, .bool b, rfl, .bl b, by simp [PyData.showable], by simp [PyData.hasDict], by simp [PyData.depth], by simp only [PyData.shown]; cases b <;> decide, q⟩

theorem Sh.tup {n l k : Nat} {ds : List PyData} (h : ∀ d ∈ ds, Sh n l d) (hk : ds.length ≤ k) : Sh (n + 1) (k * l + 2 * k + 3) (.tuple ds) := by
  obtain ⟨a1, a2, a3, a4, a5⟩ := Sh.list h
  refine ⟨by simpa [PyData.showable] using a1, by simpa [PyData.hasDict] using a2, by simp only [PyData.depth]; omega, ?_⟩
  simp only [PyData.shown]
  have := tupleText_len_le (PyData.shownAll ds)
  rw [a5] at this
  have b := Nat.mul_le_mul_right l hk
  omega
theorem sh_non : Sh 0 50 .none := ⟨by simp [PyData.showable], by simp [PyData.hasDict], by simp [PyData.depth], by simp only [PyData.shown]; decide⟩
theorem rep_of {x : V} {d : PyData} {n l : Nat} {H : Hp} {Q : VK} (hd : Dp K H x d) (s : Sh n l d) (hn : n ≤ 60) (hl : l ≤ 2 ^ 24) (q : Q (.str d.shown) H) : rRepr K [x] H Q :=
  ⟨x, d, rfl, hd, s.s, s.h, Nat.le_trans s.n hn, Nat.le_trans s.l hl, q⟩
theorem dp_rows {H : Hp} : ∀ row : List Nat, DpAll K H (row.map fun (i : Nat) => V.int i) (row.map fun (i : Nat) => PyData.int i)
  | [] => .nil
  | i :: row => .cons (.int _) (dp_rows row)
theorem sh_row {row : List Nat} (h : ∀ i ∈ row, i < 10 ^ 20) (hl : row.length ≤ 2000) : Sh 1 (2000 * 50 + 2 * 2000 + 3) (.tuple (row.map fun (i : Nat) => PyData.int i)) := by
  refine Sh.tup (fun d hd => ?_) (by rw [List.length_map]; exact hl)
  obtain ⟨i, hi, rfl⟩ := List.mem_map.mp hd
  have := h i hi
  exact sh_int (by rw [Int.natAbs_natCast]; omega)
end
end Own
set_option Elab.async false
set_option linter.all false
set_option maxRecDepth 100000
set_option maxHeartbeats 4000000
namespace K06
open PySem PySem.Spec PyProof.Rows L2 Own
section
variable {P : Program} {w : World} {K : PySem.W.Frag} {mg : Str → Option Value} {base : Heap}

structure EndsAp (b : Str) (zs : List Str) : Prop where
  pre : ∀ z ∈ zs, b.cps.toList <+: z.cps.toList
  ap : ApartL (zs.map fun z => z.cps.toList)
theorem ends_nil (b : Str) : EndsAp b [] := ⟨fun z h => (nomatch h), List.Pairwise.nil⟩
theorem ends_one (b : Str) : EndsAp b [b] := ⟨fun z h => by rw [List.mem_singleton.mp h]; exact List.prefix_refl _, by unfold ApartL; simp⟩
theorem tl_app (a b : Str) : (a ++ b).cps.toList = a.cps.toList ++ b.cps.toList := by rw [Str.cps_append, Array.toList_append]
theorem ends_cat {b : Str} {zs1 zs2 : List Str} (h1 : EndsAp (b ++ "0") zs1) (h2 : EndsAp (b ++ "1") zs2) : EndsAp b (zs1 ++ zs2) := by
  have p0 : ∀ z ∈ zs1, b.cps.toList ++ [48] <+: z.cps.toList := fun z hz => by
    have := h1.pre z hz
    rw [tl_app, show ("0" : Str).cps.toList = [48] from by decide +kernel] at this
    exact this
  have p1 : ∀ z ∈ zs2, b.cps.toList ++ [49] <+: z.cps.toList := fun z hz => by
    have := h2.pre z hz
    rw [tl_app, show ("1" : Str).cps.toList = [49] from by decide +kernel] at this
    exact this
  have no : ∀ t : List Nat, b.cps.toList ++ [48] <+: t → b.cps.toList ++ [49] <+: t → False := fun t a c => by
    have e1 := List.prefix_iff_eq_take.mp a
    have e2 := List.prefix_iff_eq_take.mp c
    rw [List.length_append] at e1 e2
    have e := e1.trans (show _ = b.cps.toList ++ [49] from e2.symm)
    have := List.append_cancel_left e
    cases this
  refine ⟨fun z hz => ?_, ?_⟩
  · rcases List.mem_append.mp hz with hz | hz
    · exact (List.prefix_append _ _).trans (p0 z hz)
    · exact (List.prefix_append _ _).trans (p1 z hz)
  · rw [List.map_append]
    unfold ApartL
    rw [List.pairwise_append]
    refine ⟨h1.ap, h2.ap, fun x hx y hy => ?_⟩
    obtain ⟨z, hz, rfl⟩ := List.mem_map.mp hx
    obtain ⟨u, hu, rfl⟩ := List.mem_map.mp hy
    exact ⟨fun q => no _ ((p0 z hz).trans q) (p1 u hu), fun q => no _ (p0 z hz) ((p1 u hu).trans q)⟩

/-! ### ends of a tree -/
def En : Nat → Nat
  | 0 => 1
  | n + 1 => 1 + 2 * En n
structure EndsOf (b : Str) (d : Nat) (zs : List Str) : Prop where
  few : zs.length ≤ 2 ^ d
  sg : ∀ z ∈ zs, Sg z
  lo : ∀ z ∈ zs, 1 ≤ z.length
  hi : ∀ z ∈ zs, z.length ≤ b.length + d
def spEnds (d : Nat) : Sp := fun vs H Q _ => ∃ (p q : Addr) (cs : List Int) (n : Nat) (b : Str), vs = [.ref p, .str b, .int (d : Nat)] ∧ (b = "" → 1 ≤ d) ∧ b.length + d ≤ 60 ∧ Sg b ∧ n + En d ≤ 50000 ∧ cs.length ≤ 1000 ∧ Sv p q cs n H ∧
  ∀ l zs H', H l = none → H' l = some (.lst (zs.map V.str)) → EndsOf b d zs → EndsAp b zs → But p H H' → Sv p q cs (n + En d) H' → Q (.ref l) H'
def spEPrev : Nat → Sp
  | 0 => fun _ _ _ _ => False
  | n + 1 => spEnds n
theorem free_of {p : Addr} {H H' : Hp} (b : But p H H') (hp : H' p ≠ none) {a : Addr} (h : H' a = none) : H a = none := by
  cases e : H a with
  | none => rfl
  | some o =>
    by_cases q : a = p
    · subst q
      exact absurd h hp
    · rw [b a o q e] at h
      cases h
theorem sv_is {p q : Addr} {cs : List Int} {n : Nat} {H : Hp} (s : Sv p q cs n H) : H p ≠ none := by
  obtain ⟨_, _, h, _⟩ := s
  rw [h]
  exact fun z => by cases z
theorem len0 {b : Str} (h : b.length = 0) : b = "" := by
  cases b with
  | mk a =>
    have : a = #[] := Array.size_eq_zero_iff.mp h
    subst this
    rfl
theorem str_ne {b c : Str} : (!decide (V.str b = V.str c)) = !decide (b = c) := by
  congr 1
  rw [decide_eq_decide]
  exact ⟨fun z => by injection z, fun z => by rw [z]⟩
theorem sg_add {b : Str} {c : Str} (h : Sg b) (hc : c = "0" ∨ c = "1") : Sg (b ++ c) ∧ (b ++ c).length = b.length + 1 := by
  have e : c.cps.toList = [48] ∨ c.cps.toList = [49] := by
    rcases hc with rfl | rfl
    · exact .inl (by decide +kernel)
    · exact .inr (by decide +kernel)
  have ap : (b ++ c).cps.toList = b.cps.toList ++ c.cps.toList := by
    rw [Str.cps_append, Array.toList_append]
  constructor
  · intro x hx
    rw [ap] at hx
    rcases List.mem_append.mp hx with hx | hx
    · exact h x hx
    · rcases e with e | e <;> rw [e] at hx <;> simp at hx
      · exact .inl hx
      · exact .inr hx
  · have l : ∀ z : Str, z.cps.toList.length = z.length := fun z => by simp [Str.length]
    rw [← l, ap, List.length_append, l, l]
    rcases hc with rfl | rfl <;> rfl
theorem dI {a b : Int} : decide (V.int a = V.int b) = decide (a = b) := by
  rw [decide_eq_decide]
  exact ⟨fun z => by injection z, fun z => by rw [z]⟩
theorem En_pos (n : Nat) : 1 ≤ En n := by
  cases n with
  | zero => decide
  | succ n => show 1 ≤ 1 + 2 * En n; omega
theorem En_le : ∀ n, n ≤ 4 → En n ≤ 50 := by decide
theorem ok_ends {f : Addr} {fd : FuncData} (F : Fun K "_law_ends" "_law_ends" s__law_ends f fd) (T : Txt mg) (n : Nat) (hn : n ≤ 4) (C__law_shear : Cal P w K mg base 1 "_law_shear" ["tailor", "many"] spSift)
    (C__law_ends : Cal P w K mg base (2 + n) "_law_ends" ["tailor", "begin", "deep"] (spEPrev n)) : FnOk P w K mg base CX0 (3 + n) f fd ["tailor", "begin", "deep"] (spEnds n) := by
  rw [show 3 + n = (2 + n) + 1 by omega]
  refine F.ok sc__law_ends (fun vs H Q E h => ?_) (fun cdv A outer s H vs Q E hr h => ?_)
  · obtain ⟨p, q, cs, m, b, rfl, _⟩ := h
    rfl
  · obtain ⟨p, q, cs, m, b, rfl, hb, hl, hsg, hm, hc, sv, k⟩ := h
    refine ⟨_, (pss_cons (ps_set (i := 3) sc__law_ends.nd rfl (Or.inl rfl) (pe_cal C__law_shear (hr.mono (by omega)) (pa_cons (pv 0) (pa_cons pe_int pa_nil))))
  (pss_cons (ps_if (PW.pt (pw_and (pt_cmpR op_ne (pv 1) pe_str (nomark _)) (pw_and1 (PW.pt (pw_or (pt_cmpR op_eq (pv 2) pe_int (nomark _)) (pw_or1 (pt_cmpR op_eq (pv 3) pe_int (nomark _))))))))
  (pss_one (ps_ret (pe_lst (pa_cons (pv 1) pa_nil))))
  pss_nil)
  (pss_cons (ps_if (PW.pt (pw_and (pt_cmpR op_ne (pv 1) pe_str (nomark _)) (pw_and1 (pt_cmpR op_eq (pv 3) pe_int (nomark _)))))
  (pss_one (ps_ret (pe_lst pa_nil)))
  pss_nil)
  (pss_one (ps_ret (pe_op op_cat (pe_cal C__law_ends hr (pa_cons (pv 0) (pa_cons (pe_op op_add_str (pv 1) pe_str) (pa_cons (pe_op op_sub (pv 2) pe_int) pa_nil)))) (pe_cal C__law_ends hr (pa_cons (pv 0) (pa_cons (pe_op op_add_str (pv 1) pe_str) (pa_cons (pe_op op_sub (pv 2) pe_int) pa_nil)))))))))), ?_⟩
    refine seq_set ?_
    refine ⟨_, rfl, p, q, cs, m, 5, rfl, by decide, by decide, by omega, hc, sv, fun r H1 r0 r1 b1 sv1 => ?_⟩
    have e50 := En_le n hn
    have rec_ : 1 ≤ n → ∀ (σ : L2.St) (D : Ends), σ[0]? = some (some (.ref p)) → σ[1]? = some (some (.str b)) → σ[2]? = some (some (.int (n : Nat))) → D.rt = Q →
        tRet (tOp rCat (tCall (spEPrev n) [] E0 (tCons (tVar 0) (tCons (tOp (fun x y H Q => ∃ i j, x = V.str i ∧ y = V.str j ∧ i.length + j.length ≤ sizeLine ∧ Q (V.str (i ++ j)) H) (tVar 1) (tC (V.str "0"))) (tCons (tOp (rI0 fun i j => V.int (i - j)) (tVar 2) (tC (V.int 1))) tNil))))
          (tCall (spEPrev n) [] E0 (tCons (tVar 0) (tCons (tOp (fun x y H Q => ∃ i j, x = V.str i ∧ y = V.str j ∧ i.length + j.length ≤ sizeLine ∧ Q (V.str (i ++ j)) H) (tVar 1) (tC (V.str "1"))) (tCons (tOp (rI0 fun i j => V.int (i - j)) (tVar 2) (tC (V.int 1))) tNil))))) D σ H1 := by
      intro h1 σ D e0 e1 e2 rt
      obtain ⟨n', rfl⟩ : ∃ n', n = n' + 1 := ⟨n - 1, by omega⟩
      have en : En (n' + 1) = 1 + 2 * En n' := rfl
      rw [en] at hm
      have vs_ : ∀ c : Str, [V.ref p, V.str (b ++ c), V.int (((n' + 1 : Nat) : Int) - 1)] = [V.ref p, V.str (b ++ c), V.int (n' : Nat)] := fun c => by rw [show ((n' + 1 : Nat) : Int) - 1 = (n' : Nat) by omega]
      obtain ⟨sg0, len0_⟩ := sg_add hsg (c := "0") (.inl rfl)
      obtain ⟨sg1, len1_⟩ := sg_add hsg (c := "1") (.inr rfl)
      have big : ∀ c : Str, b.length + (1 : Nat) ≤ sizeLine := fun _ => Nat.le_trans (m := 61) (by omega) (by decide)
      refine ⟨_, e0, _, e1, b, "0", rfl, rfl, big "0", _, e2, _, _, rfl, rfl, ?_⟩
      refine ⟨p, q, cs, m + 1, b ++ "0", vs_ "0", fun z => (by rw [z] at len0_; cases len0_), by rw [len0_]; omega, sg0, by omega, hc, sv1, fun l1 zs1 H2 f1 a1 E1 P1 b2 sv2 => ?_⟩
      refine ⟨_, e0, _, e1, b, "1", rfl, rfl, big "1", _, e2, _, _, rfl, rfl, ?_⟩
      refine ⟨p, q, cs, m + 1 + En n', b ++ "1", vs_ "1", fun z => (by rw [z] at len1_; cases len1_), by rw [len1_]; omega, sg1, by omega, hc, sv2, fun l2 zs2 H3 f2 a2 E2 P2 b3 sv3 => ?_⟩
      have l1p : l1 ≠ p := fun z => sv_is sv1 (by rw [← z]; exact f1)
      have p4 : 2 ^ n' ≤ 2 ^ 4 := Nat.pow_le_pow_right (by decide) (by omega)
      refine ⟨l1, l2, _, _, rfl, rfl, b3 _ _ l1p a1, a2, Nat.le_trans (m := 32) (by rw [List.length_map, List.length_map]; have := E1.few; have := E2.few; omega) (by decide), fun l hl => ?_⟩
      rw [rt]
      refine k l (zs1 ++ zs2) _ (free_of ((b1.trans b2).trans b3) (sv_is sv3) hl) (by rw [upd_same, List.map_append]) ?_ (ends_cat P1 P2) (((b1.trans b2).trans b3).new hl) ((sv3.same (same_new hl)).mono (by rw [en]; omega))
      refine ⟨by rw [List.length_append, Nat.pow_succ]; have := E1.few; have := E2.few; omega, fun z hz => ?_, fun z hz => ?_, fun z hz => ?_⟩
      · rcases List.mem_append.mp hz with hz | hz
        · exact E1.sg z hz
        · exact E2.sg z hz
      · rcases List.mem_append.mp hz with hz | hz
        · exact E1.lo z hz
        · exact E2.lo z hz
      · rcases List.mem_append.mp hz with hz | hz
        · have := E1.hi z hz
          rw [len0_] at this
          omega
        · have := E2.hi z hz
          rw [len1_] at this
          omega
    have one : b ≠ "" → ∀ (σ : L2.St) (D : Ends), σ[1]? = some (some (.str b)) → D.rt = Q → tRet (tLst (tCons (tVar 1) tNil)) D σ H1 := by
      intro nb σ D e1 rt
      refine ⟨_, e1, by show 1 ≤ sizeLine; decide, fun l hl' => ?_⟩
      rw [rt]
      refine k l [b] _ (free_of b1 (sv_is sv1) hl') upd_same ⟨Nat.one_le_two_pow, fun z hz => ?_, fun z hz => ?_, fun z hz => ?_⟩ (ends_one b) (b1.new hl') ((sv1.same (same_new hl')).mono (by have := En_pos n; omega))
      all_goals
        rcases List.mem_cons.mp hz with rfl | hz
        · first
          | exact hsg
          | omega
          | (by_cases q0 : z.length = 0
             · exact absurd (len0 q0) nb
             · omega)
        · cases hz
    have no_ : ∀ (σ : L2.St) (D : Ends), D.rt = Q → tRet (tLst tNil) D σ H1 := by
      intro σ D rt
      refine ⟨by show 0 ≤ sizeLine; decide, fun l hl' => ?_⟩
      rw [rt]
      exact k l [] _ (free_of b1 (sv_is sv1) hl') upd_same ⟨Nat.zero_le _, fun z hz => (nomatch hz), fun z hz => (nomatch hz), fun z hz => (nomatch hz)⟩ (ends_nil b) (b1.new hl') ((sv1.same (same_new hl')).mono (by have := En_pos n; omega))
    dsimp only
    by_cases nb : b = ""
    · have eb : (!decide (V.str b = V.str "")) = false := by rw [str_ne, decide_eq_true nb]; rfl
      refine ⟨_, rfl, rfl, _, rfl, ?_⟩
      rw [eb]
      refine iteF (iteF ?_)
      refine ⟨_, rfl, rfl, _, rfl, ?_⟩
      rw [eb]
      refine iteF (iteF ?_)
      exact rec_ (hb nb) _ _ rfl rfl rfl rfl
    · have eb : (!decide (V.str b = V.str "")) = true := by rw [str_ne, decide_eq_false nb]; rfl
      refine ⟨_, rfl, rfl, _, rfl, ?_⟩
      rw [eb]
      refine iteT ⟨_, rfl, rfl, _, rfl, ?_⟩
      rw [dI]
      by_cases hd0 : ((n : Nat) : Int) = 0
      · rw [decide_eq_true hd0]
        exact iteT (iteT (one nb _ _ rfl rfl))
      · rw [decide_eq_false hd0]
        refine iteF ⟨_, rfl, rfl, _, rfl, ?_⟩
        rw [dI]
        by_cases hr0 : r = 0
        · rw [decide_eq_true hr0]
          exact iteT (one nb _ _ rfl rfl)
        · rw [decide_eq_false hr0]
          refine iteF ⟨_, rfl, rfl, _, rfl, ?_⟩
          rw [eb]
          refine iteT ⟨_, rfl, rfl, _, rfl, ?_⟩
          rw [dI]
          by_cases hr1 : r = 1
          · rw [decide_eq_true hr1]
            exact iteT (no_ _ _ rfl)
          · rw [decide_eq_false hr1]
            exact iteF (rec_ (by omega) _ _ rfl rfl rfl rfl)
theorem fnOk_any {CX : CXT} {f : Addr} {fd : FuncData} {ps : List Str} (h : ∀ d, d ≤ 4 → FnOk P w K mg base CX (3 + d) f fd ps (spEnds d)) : FnOk P w K mg base CX 7 f fd ps (fun vs H Q E => ∃ d, d ≤ 4 ∧ spEnds d vs H Q E) := by
  refine ⟨fun vs H Q E z => ?_, fun A outer s H args us vs Q E room e0 b r z => ?_⟩
  · obtain ⟨d, hd, z⟩ := z
    exact (h d hd).len vs H Q E z
  · obtain ⟨d, hd, z⟩ := z
    exact (h d hd).run A outer s H args us vs Q E (room.mono (by omega)) e0 b r z
def spAnyEnds : Sp := fun vs H Q E => ∃ d, d ≤ 4 ∧ spEnds d vs H Q E
structure Good (zs : List Str) : Prop where
  sg : ∀ z ∈ zs, Sg z
  lo : ∀ z ∈ zs, 1 ≤ z.length
  hi : ∀ z ∈ zs, z.length ≤ 60
theorem dpAll_tx {H : Hp} : ∀ zs : List Str, DpAll K H (zs.map V.str) (zs.map PyData.str)
  | [] => .nil
  | z :: zs => .cons (.str z) (dpAll_tx zs)
theorem sg_ok {z : Str} (h : Sg z) : PyData.strOk z = true := by
  unfold PyData.strOk
  rw [← Array.all_toList, List.all_eq_true]
  intro c hc
  rcases h c hc with rfl | rfl <;> decide
theorem canLay_tx : ∀ zs : List Str, (∀ z ∈ zs, Sg z) → PyData.canLayAll0 (zs.map PyData.str) = true
  | [], _ => by simp [PyData.canLayAll0]
  | z :: zs, h => by
    have := canLay_tx zs fun y hy => h y (List.mem_cons_of_mem _ hy)
    simp [PyData.canLayAll0, PyData.canLay0, this, sg_ok (h z List.mem_cons_self)]
theorem depth_tx : ∀ zs : List Str, PyData.depthAll (zs.map PyData.str) = 0
  | [] => by simp [PyData.depthAll]
  | z :: zs => by
    have := depth_tx zs
    simp [PyData.depthAll, PyData.depth, this]
theorem shaped_tx {zs : List Str} (h : ∀ z ∈ zs, Sg z) : SeqAt.shaped (.list (zs.map PyData.str)) = true := by
  unfold SeqAt.shaped
  simp [PyData.canLay0, PyData.depth, canLay_tx zs h, depth_tx]
theorem ne_nil {H : Hp} {a b : Addr} {zs : List Str} {Q : VK} (hg : ∀ z ∈ zs, Sg z) (ha : H a = some (.lst (zs.map V.str))) (hb : H b = some (.lst [])) (q : Q (.bl (!zs.isEmpty)) H) : rNeD K (.ref a) (.ref b) H Q := by
  refine ⟨_, .list [], .lst (SqL.of ha) (dpAll_tx zs), .lst (SqL.of hb) .nil, shaped_tx hg, by decide, ?_⟩
  have e : PyData.eqv (.list (zs.map PyData.str)) (.list []) = zs.isEmpty := by
    cases zs with
    | nil => rfl
    | cons z zs => rfl
  rw [e]
  exact q
theorem map_er {α β : Type} (f : α → β) : ∀ (l : List α) (i : Nat), (l.eraseIdx i).map f = (l.map f).eraseIdx i
  | [], _ => by simp
  | _ :: _, 0 => by simp
  | x :: l, i + 1 => by
    rw [List.eraseIdx_cons_succ, List.map_cons, List.map_cons, List.eraseIdx_cons_succ, map_er f l i]
theorem sg_nil : Sg "" := fun c hc => by
  have h : c ∈ ([] : List Nat) := hc
  cases h
theorem vsE (p : Addr) (s : Str) (r : Int) (h : 0 ≤ r) : [V.ref p, V.str s, V.int (1 + r)] = [V.ref p, V.str s, V.int ((1 + r.toNat : Nat) : Int)] := by
  rw [show (1 + r : Int) = ((1 + r.toNat : Nat) : Int) by omega]
theorem sg_app {a b : Str} (ha : Sg a) (hb : Sg b) : Sg (a ++ b) := by
  intro c hc
  rw [Str.cps_append, Array.toList_append] at hc
  rcases List.mem_append.mp hc with h | h
  · exact ha c h
  · exact hb c h
theorem ix_of {n : Nat} {i : Int} (h0 : 0 ≤ i) (h1 : i < n) : seqIndex? i n = some i.toNat := by
  refine (ixN_seq ?_).1
  unfold ixN
  rw [if_pos h0, if_pos h1]
end
end K06
set_option Elab.async false
set_option linter.all false
set_option maxRecDepth 100000
set_option maxHeartbeats 4000000
namespace K06
open PySem PySem.Spec PyProof.Rows L2 Own
section
variable {P : Program} {w : World} {K : PySem.W.Frag} {mg : Str → Option Value} {base : Heap}
/-! ### drawn names -/
def scN1 : Scope := { kind := ScopeKind.function, names := [(".0", NameKind.local), ("one", NameKind.local), ("range", NameKind.globalImplicit), ("tailor", NameKind.cell)], isGenerator := false, isCoroutine := false }
def ApL (zs : List Str) : Prop := ApartL (zs.map fun z => z.cps.toList)
theorem ApL.perm {zs ys : List Str} (h : ApL zs) (p : zs.Perm ys) : ApL ys := (ApartL.perm (p.map _)).mp h
theorem ApL.move {zs fs : List Str} {i : Nat} (hi : i < zs.length) (h : ApL (zs ++ fs)) : ApL (zs.eraseIdx i ++ (fs ++ [zs[i]])) := by
  refine h.perm ?_
  have p1 : zs.Perm (zs[i] :: zs.eraseIdx i) := erase_perm zs i hi
  refine (p1.append_right fs).trans ?_
  rw [← List.append_assoc]
  exact (List.perm_append_singleton _ _).symm
theorem ApL.swap {z0 w : Str} {zr : List Str} (h : ApL (z0 :: zr)) : ApL (zr ++ [z0 ++ w]) := by
  unfold ApL ApartL at h ⊢
  rw [List.map_cons, List.pairwise_cons] at h
  rw [List.map_append, List.map_cons, List.map_nil, List.pairwise_append]
  refine ⟨h.2, List.pairwise_singleton _ _, fun x hx y hy => ?_⟩
  rw [List.mem_singleton.mp hy, tl_app]
  have := h.1 x hx
  refine ⟨fun q => ?_, fun q => this.1 ((List.prefix_append _ _).trans q)⟩
  rcases List.prefix_or_prefix_of_prefix q (List.prefix_append z0.cps.toList w.cps.toList) with r | r
  · exact this.2 r
  · exact this.1 r
def spNames : Sp := fun vs H Q _ => ∃ (p q : Addr) (cs : List Int) (n : Nat), vs = [.ref p] ∧ n ≤ 40000 ∧ cs.length ≤ 1000 ∧ Sv p q cs n H ∧
  ∀ l zs H', H l = none → H' l = some (.lst (zs.map V.str)) → zs.length ≤ 40 → Good zs → ApL zs → But p H H' → Sv p q cs (n + 300) H' → Q (.ref l) H'
def Wn (p q : Addr) (cs : List Int) (n : Nat) (fo : Addr) (H : Hp) : Nat → L2.St → Hp → Prop := fun m σ' H' => ∃ (l : Addr) (zs fs : List Str) (o3 o4 : Option V), m = zs.length ∧ σ' = [some (.ref p), some (.ref l), some (.ref fo), o3, o4] ∧ But p H H' ∧ Sv p q cs (n + 200 + fs.length) H' ∧
  H l = none ∧ H' l = some (.lst (zs.map V.str)) ∧ l ≠ fo ∧ zs.length + fs.length ≤ 40 ∧ Good zs ∧ Good fs ∧ ApL (zs ++ fs) ∧ H' fo = some (.lst (fs.map V.str))
theorem cut_1 (xs : List V) : cutV xs none (some 1) = xs.take 1 := by
  unfold cutV
  have a1 : HT.sIx xs.length 0 none = 0 := rfl
  have a2 : HT.sIx xs.length xs.length (some 1) = min 1 xs.length := rfl
  rw [a1, a2, List.drop_zero, Nat.sub_zero]
  cases xs with
  | nil => rfl
  | cons x xs => rw [List.length_cons, Nat.min_eq_left (by omega)]
theorem cut_d1 (xs : List V) : cutV xs (some 1) none = xs.drop 1 := by
  unfold cutV
  have a1 : HT.sIx xs.length 0 (some 1) = min 1 xs.length := rfl
  have a2 : HT.sIx xs.length xs.length none = xs.length := rfl
  rw [a1, a2]
  cases xs with
  | nil => rfl
  | cons x xs =>
    rw [List.length_cons, Nat.min_eq_left (by omega)]
    exact List.take_of_length_le (by rw [List.length_drop, List.length_cons]; omega)
theorem vsE1 (p : Addr) (s : Str) (r : Int) (h : 0 ≤ r) : [V.ref p, V.str s, V.int (1 + r)] = [V.ref p, V.str s, V.int ((1 + r.toNat : Nat) : Int)] := by
  rw [show (1 + r : Int) = ((1 + r.toNat : Nat) : Int) by omega]
theorem g1_nil : Good [] := ⟨fun y hy => (nomatch hy), fun y hy => (nomatch hy), fun y hy => (nomatch hy)⟩
theorem nx_in {D : Ends} {σ : L2.St} {H : Hp} (h : D.nx σ H) : tNext D σ H := h
theorem ok_names {f : Addr} {fd : FuncData} (F : Fun K "_law_names" "_law_names" s__law_names f fd) (T : Txt mg) (C__law_shear : Cal P w K mg base 1 "_law_shear" ["tailor", "many"] spSift) (C__law_cloth : Cal P w K mg base 2 "_law_cloth" ["tailor", "some"] spOne)
    (C__law_ends : Cal P w K mg base 7 "_law_ends" ["tailor", "begin", "deep"] spAnyEnds) : FnOk P w K mg base CX0 8 f fd ["tailor"] spNames := by
  refine F.ok sc__law_names (fun vs H Q E h => ?_) (fun cdv A outer s H vs Q E hr h => ?_)
  · obtain ⟨p, q, cs, n, rfl, _⟩ := h
    rfl
  · obtain ⟨p, q, cs, n, rfl, hn, hc, sv, k⟩ := h
    refine ⟨_, (pss_cons (ps_par (i := 1) (j := 2) rfl sc__law_names.nd rfl rfl (by decide) rfl rfl (pa_cons (pe_cal C__law_ends (hr.mono (by decide)) (pa_cons (pv 0) (pa_cons pe_str (pa_cons (pe_op op_add pe_int (pe_cal C__law_shear (hr.mono (by decide)) (pa_cons (pv 0) (pa_cons pe_int pa_nil)))) pa_nil)))) (pa_cons (pe_lst pa_nil) pa_nil)) rfl)
  (C8.pss_cut (ps_if (pt_cmpR op_eq (pe_cal C__law_shear (hr.mono (by decide)) (pa_cons (pv 0) (pa_cons pe_int pa_nil))) pe_int (nomark _))
  (pss_cons (ps_set (i := 1) sc__law_names.nd rfl (Or.inl rfl) (pe_op op_cat (pv 1) (pe_lc (own := [("one", 3)]) (g := gName 3) (tt := tYes) rfl sc__law_names.nd (pi_list (pe_slice sl_list (pv 1) po_none (po_some pe_int))) (blkOk_by (own := [("one", 3)]) (N := N__law_names) (sc := defScope s__law_names) (by decide +kernel)) (fun _ _ _ _ _ => (pg_name (i := 3) sc__law_names.nd rfl (Or.inl rfl))) (fun _ _ _ _ _ => pts_nil) (fun _ _ _ _ _ => (pe_op op_add_str (pv 3) (pe_bmK (K := K) (by rfl) PySem.F.plainAttrs_str PySem.F.slot_str_join PySem.F.type_str_join (mt_joinK (K := K) (by rfl)) pe_str (pa_cons (pe_lc (own := [("turn", 4)]) (g := gName 4) (tt := tYes) rfl sc__law_names.nd (pi_range1 rfl T.b_range (pa_cons pe_int pa_nil)) (blkOk_by (own := [("turn", 4)]) (N := N__law_names) (sc := scN1) (by decide +kernel)) (fun _ _ _ _ _ => (pg_name (i := 4) sc__law_names.nd rfl (Or.inl rfl))) (fun _ _ _ _ _ => pts_nil) (fun _ _ _ _ _ => (pe_cal C__law_cloth (hr.mono (by decide)) (pa_cons (pv 0) (pa_cons (pe_lst (pa_cons pe_str (pa_cons pe_str pa_nil))) pa_nil))))) pa_nil)))))))
  (pss_one (ps_set (i := 1) sc__law_names.nd rfl (Or.inl rfl) (pe_slice sl_list (pv 1) (po_some pe_int) po_none))))
  pss_nil)
  (pss_cons (ps_while PassesOwn.never (pt_cmpR (op_neD (hu64 hr)) (pv 1) (pe_lst pa_nil) (nomark _))
  (pss_one (ps_expr (pe_bm PySem.F.plainAttrs_list PySem.F.slot_list_append PySem.F.type_list_append mt_append (pv 2) (pa_cons (pe_bm PySem.F.plainAttrs_list PySem.F.slot_list_pop PySem.F.type_list_pop mt_popAt (pv 1) (pa_cons (pe_cal C__law_shear (hr.mono (by decide)) (pa_cons (pv 0) (pa_cons (pe_callB call_len_seq (by rfl) T.b_len boot_len (pa_cons (pv 1) pa_nil)) pa_nil))) pa_nil)) pa_nil)))))
  (pss_one (ps_ret (pv 2)))))), ?_⟩
    refine ⟨_, rfl, _, rfl, p, q, cs, n, 4, rfl, by decide, by decide, by omega, hc, sv, fun r2 H3 r20 r21 b3 s3 => ⟨_, _, rfl, rfl, ?_⟩⟩
    have d4 : 1 + r2.toNat ≤ 4 := by omega
    have e50 := En_le (1 + r2.toNat) d4
    have z0 : ("" : Str).length = 0 := by decide +kernel
    refine ⟨1 + r2.toNat, d4, p, q, cs, n + 1, "", vsE1 p "" r2 r20, fun _ => by omega, by rw [z0]; omega, sg_nil, by omega, hc, s3, fun l zs H4 f4 a4 E4 P4 b4 s4 => ?_⟩
    have p4 : 2 ^ (1 + r2.toNat) ≤ 2 ^ 4 := Nat.pow_le_pow_right (by decide) d4
    have lH : H l = none := free_of b3 (sv_is s3) f4
    have lP : l ≠ p := sv_ne s3 f4
    refine ⟨by show 0 ≤ sizeLine; decide, fun fo hfo => ?_⟩
    refine ⟨_, _, rfl, ?_⟩
    have foP : fo ≠ p := sv_ne s4 hfo
    have foH : H fo = none := free_of (b3.trans b4) (sv_is s4) hfo
    have lfo : l ≠ fo := ne_of_none a4 hfo
    have s5 := s4.same (same_new (o := HO.lst []) hfo)
    have b5 : But p H (upd H4 fo (.lst [])) := (b3.trans b4).new hfo
    have a5 : upd H4 fo (.lst []) l = some (.lst (zs.map V.str)) := (upd_ne lfo).trans a4
    have f5 : upd H4 fo (.lst []) fo = some (.lst []) := upd_same
    generalize upd H4 fo (HO.lst []) = H5 at s5 b5 a5 f5 ⊢
    have few : zs.length ≤ 16 := Nat.le_trans E4.few p4
    have zhi : ∀ z ∈ zs, z.length ≤ 4 := fun z hz => by have := E4.hi z hz; omega
    have good : Good zs := ⟨E4.sg, E4.lo, fun z hz => Nat.le_trans (zhi z hz) (by decide)⟩
    have apz : ApL zs := P4.ap
    dsimp only
    refine ⟨fun σ' H' => ∃ (l : Addr) (zs : List Str) (o3 o4 : Option V), σ' = [some (.ref p), some (.ref l), some (.ref fo), o3, o4] ∧ But p H H' ∧ Sv p q cs (n + 200) H' ∧ H l = none ∧ H' l = some (.lst (zs.map V.str)) ∧ l ≠ fo ∧ zs.length ≤ 17 ∧ Good zs ∧ ApL zs ∧ H' fo = some (.lst []), ?_, ?_⟩
    · refine ⟨_, rfl, p, q, cs, n + 1 + En (1 + r2.toNat), 4, rfl, by decide, by decide, by omega, hc, s5, fun r H6 r0 r1 b6 s6 => ?_⟩
      have a6 := b6 _ _ lP a5
      have f6 := b6 _ _ foP f5
      refine ⟨rfl, _, rfl, ?_⟩
      refine ite2 (fun _ => ?_) (fun _ => ?_)
      · refine ⟨_, rfl, ?_⟩
        refine ⟨_, rfl, _, rfl, l, _, rfl, SqL.of a6, fun t ht => ?_⟩
        rw [cut_1]
        have tP : t ≠ p := sv_ne s6 ht
        have s7 := s6.same (same_new (o := HO.lst ((zs.map V.str).take 1)) ht)
        have b7 : But p H6 (upd H6 t (.lst ((zs.map V.str).take 1))) := (But.refl _ _).new ht
        have t7 : upd H6 t (.lst ((zs.map V.str).take 1)) t = some (.lst ((zs.take 1).map V.str)) := by rw [upd_same, List.map_take]
        generalize upd H6 t (HO.lst ((zs.map V.str).take 1)) = H7 at s7 b7 t7 ⊢
        have len1 : (zs.take 1).length ≤ 1 := by rw [List.length_take]; omega
        refine ⟨t, rfl, ⟨_, SqL.of t7⟩, fun D hD => ?_⟩
        have DP : D ≠ p := sv_ne s7 hD
        refine lc_it (walk_list (K := K) (xs := (zs.take 1).map V.str)) (fun i H' => But p H7 H' ∧ Sv p q cs (n + 1 + En (1 + r2.toNat) + 1 + 50 * i) H' ∧ ∃ ys : List Str, H' D = some (.lst (ys.map V.str)) ∧ ys.length = i ∧ ∀ (k : Nat) (y : Str), ys[k]? = some y → ∃ (z v : Str), zs[k]? = some z ∧ y = z ++ v ∧ v.length = 50 ∧ Sg v)
          ⟨(But.refl _ _).new hD, (s7.same (same_new hD)).mono (by omega), [], upd_same, rfl, fun k y h => by simp at h⟩ (fun i H' _ pv => SqL.of (pv.1 _ _ tP t7)) (fun i x H' H2 hi ⟨b, s', ys, hl, hy, hg⟩ y => ?_) (fun H' ⟨b, s', ys, hl, hy, hg⟩ => ?_)
        · obtain ⟨rfl, hx⟩ := y
          rw [List.getElem?_map] at hx
          obtain ⟨z, hz, rfl⟩ := Option.map_eq_some_iff.mp hx
          have hz' : zs[i]? = some z := by
            have : (zs.take 1)[i]? = some z := hz
            rw [List.getElem?_take] at this
            split at this
            · exact this
            · cases this
          have i0 : i = 0 := by rw [List.length_map] at hi; omega
          have zl := zhi z (List.mem_of_getElem? hz')
          refine ⟨rfl, yes_if ?_⟩
          refine ⟨_, rfl, rfl, ?_⟩
          refine ⟨50, rfl, by decide, by decide, fun J hJ => ?_⟩
          have hJp : J ≠ p := sv_ne s' hJ
          have JD : D ≠ J := ne_of_none hl hJ
          rw [show ((50 : Int)).toNat = 50 from rfl]
          have st : Stb p (fun (_ : Hp) v => v = .str "0" ∨ v = .str "1") := fun _ _ _ _ h => h
          refine lc_range (lo := 0) (n := 50) (fun j HJ => But p H2 HJ ∧ Sv p q cs (n + 1 + En (1 + r2.toNat) + 1 + 50 * i + j) HJ ∧ ∃ us : List Str, HJ J = some (.lst (us.map V.str)) ∧ us.length = j ∧ ∀ y ∈ us, y = "0" ∨ y = "1")
            ⟨(But.refl _ _).new hJ, s'.same (same_new hJ), [], upd_same, rfl, fun y hy => by cases hy⟩ (fun j HJ hj ⟨bJ, sJ, us, hu, hus, h01⟩ => ?_) (fun HJ ⟨bJ, sJ, us, hu, hus, h01⟩ => ?_)
          · refine ⟨rfl, yes_if ?_⟩
            refine dr_one (p := p) (q := q) (cs := cs) (j := 0) (k := 2) (n := n + 1 + En (1 + r2.toNat) + 1 + 50 * i + j) (m := n + 1 + En (1 + r2.toNat) + 1 + 50 * i + j) (H := HJ) (R := fun _ v => v = .str "0" ∨ v = .str "1") rfl
              (dr_lstR (DrA.cons st (dr_c fun _ _ => .inl rfl) (DrA.cons st (dr_c fun _ _ => .inr rfl) DrA.nil)) st (by decide)) st (by decide) (by decide) (by omega) hc HJ (But.refl _ _) sJ _ fun v H9 b9 s9 hv => ?_
            obtain ⟨y, rfl, h1⟩ : ∃ y : Str, v = .str y ∧ (y = "0" ∨ y = "1") := by
              rcases hv with rfl | rfl
              · exact ⟨_, rfl, .inl rfl⟩
              · exact ⟨_, rfl, .inr rfl⟩
            have hl2 := b9 _ _ hJp hu
            refine ⟨_, hl2, Nat.lt_of_lt_of_le (m := 60) (by rw [List.length_map]; omega) (by decide), (bJ.trans b9).mut hJ, s9.but_upd hJp hJ s', us ++ [y], ?_, by rw [List.length_append, hus]; rfl, fun z hz => ?_⟩
            · rw [upd_same, List.map_append]
              rfl
            · rcases List.mem_append.mp hz with hz | hz
              · exact h01 z hz
              · rcases List.mem_cons.mp hz with rfl | hz
                · exact h1
                · cases hz
          · obtain ⟨j1, j2⟩ := join_signs h01
            have all1 : ∀ ys : List Str, (∀ y ∈ ys, y = "0" ∨ y = "1") → (ys.map (·.length)).sum = ys.length := by
              intro ys
              induction ys with
              | nil => intro _; rfl
              | cons y ys ih =>
                intro h
                have e : y.length = 1 := by rcases h y List.mem_cons_self with rfl | rfl <;> decide +kernel
                rw [List.map_cons, List.sum_cons, e, ih fun z hz => h z (List.mem_cons_of_mem _ hz), List.length_cons, Nat.add_comm]
            refine ⟨"", J, us, rfl, rfl, .inl (SqL.of hu), ?_, ?_⟩
            · rw [all1 us h01, z0]
              omega
            have hl2 := bJ _ _ DP hl
            refine ⟨z, Txt.join "" us, rfl, rfl, Nat.le_trans (m := 100) (by rw [j1]; omega) (by decide), ?_⟩
            refine ⟨_, hl2, Nat.lt_of_lt_of_le (m := 60) (by rw [List.length_map]; omega) (by decide), (b.trans bJ).mut hD, (sJ.but_upd DP hD s7).mono (by omega), ys ++ [z ++ Txt.join "" us], by rw [upd_same, List.map_append]; rfl, by rw [List.length_append, hy]; rfl, fun k y hk => ?_⟩
            by_cases q0 : k < ys.length
            · rw [List.getElem?_append_left q0] at hk
              exact hg k y hk
            · rw [List.getElem?_append_right (by omega)] at hk
              have k0 : k - ys.length = 0 := by
                by_cases q1 : k - ys.length = 0
                · exact q1
                · rw [List.getElem?_eq_none (by simp; omega)] at hk
                  cases hk
              rw [k0] at hk
              cases hk
              exact ⟨z, Txt.join "" us, by rw [show k = i by omega]; exact hz', rfl, by rw [j1, hus], j2⟩
        · have ylen : ys.length = (zs.take 1).length := by rw [hy, List.length_map]
          have a8 := b _ _ lP (b7 _ _ lP a6)
          have f8 := b _ _ foP (b7 _ _ foP f6)
          refine ⟨l, D, _, _, rfl, rfl, a8, hl, Nat.le_trans (m := 100) (by rw [List.length_map, List.length_map]; omega) (by decide), fun l2 hl2 => ?_⟩
          rw [← List.map_append]
          have bb := ((b5.trans b6).trans b7).trans b
          have l2H : H l2 = none := free_of bb (sv_is s') hl2
          have s9 := s'.same (same_new (o := HO.lst ((zs ++ ys).map V.str)) hl2)
          have b9 : But p H (upd H' l2 (.lst ((zs ++ ys).map V.str))) := bb.new hl2
          have a9 : upd H' l2 (.lst ((zs ++ ys).map V.str)) l2 = some (.lst ((zs ++ ys).map V.str)) := upd_same
          have f9 : upd H' l2 (.lst ((zs ++ ys).map V.str)) fo = some (.lst []) := (upd_ne (ne_of_none f8 hl2)).trans f8
          generalize upd H' l2 (HO.lst ((zs ++ ys).map V.str)) = H9 at s9 b9 a9 f9 ⊢
          dsimp only [gName]
          refine ⟨_, rfl, _, rfl, l2, _, rfl, SqL.of a9, fun l3 hl3 => ?_⟩
          rw [cut_d1, ← List.map_drop]
          dsimp only [gName]
          refine ⟨l3, (zs ++ ys).drop 1, _, _, rfl, b9.new hl3, (s9.same (same_new hl3)).mono ?_, free_of b9 (sv_is s9) hl3, upd_same, ?_, ?_, ?_, ?_, (upd_ne (ne_of_none f9 hl3)).trans f9⟩
          · rw [List.length_map]
            omega
          · exact fun z => ne_of_none f9 hl3 z.symm
          · rw [List.length_drop, List.length_append]
            omega
          · cases zs with
            | nil =>
              have : ys = [] := List.eq_nil_of_length_eq_zero (by simpa using ylen)
              subst this
              exact g1_nil
            | cons z0 zr =>
              obtain ⟨y, rfl⟩ : ∃ y, ys = [y] := List.length_eq_one_iff.mp (by rw [ylen]; rfl)
              obtain ⟨z, v, hz, rfl, hv, sgv⟩ := hg 0 y rfl
              cases hz
              have zm : z0 ∈ z0 :: zr := List.mem_cons_self
              have := zhi z0 zm
              have := good.lo z0 zm
              refine ⟨fun y hy => ?_, fun y hy => ?_, fun y hy => ?_⟩ <;> rcases List.mem_append.mp (show y ∈ zr ++ [z0 ++ v] from hy) with hy | hy
              · exact good.sg y (List.mem_cons_of_mem _ hy)
              · rw [List.mem_singleton.mp hy]; exact sg_app (good.sg z0 zm) sgv
              · exact good.lo y (List.mem_cons_of_mem _ hy)
              · rw [List.mem_singleton.mp hy, Str.length_append]; omega
              · exact good.hi y (List.mem_cons_of_mem _ hy)
              · rw [List.mem_singleton.mp hy, Str.length_append]; omega
          · cases zs with
            | nil =>
              have : ys = [] := List.eq_nil_of_length_eq_zero (by simpa using ylen)
              subst this
              exact apz
            | cons z0 zr =>
              obtain ⟨y, rfl⟩ : ∃ y, ys = [y] := List.length_eq_one_iff.mp (by rw [ylen]; rfl)
              obtain ⟨z, v, hz, rfl, hv, sgv⟩ := hg 0 y rfl
              cases hz
              exact apz.swap
      · refine nx_in ?_
        exact ⟨l, zs, _, _, rfl, b5.trans b6, s6.mono (by omega), lH, a6, lfo, by omega, good, apz, f6⟩
    · rintro σ' H' ⟨l, zs, o3, o4, rfl, bH, sH, lH, aH, lfo, few, good, apz, foH'⟩
      refine ⟨Wn p q cs n fo H, ⟨_, l, zs, [], o3, o4, rfl, rfl, bH, sH, lH, aH, lfo, by simp; omega, good, g1_nil, by rw [List.append_nil]; exact apz, foH'⟩, ?_⟩
      rintro m σ' H2 ⟨l, zs, fs, o3, o4, rfl, rfl, b2, s2, l2, a2, lfo, few, gz, gf, apz, f2⟩
      have lP : l ≠ p := fun z => by
        rw [z] at l2
        obtain ⟨_, _, h, _⟩ := sv
        rw [h] at l2
        cases l2
      refine ⟨_, rfl, by show 0 ≤ sizeLine; decide, fun lz hlz => ?_⟩
      have sz := same_new (o := HO.lst []) hlz
      refine ne_nil gz.sg (sz _ _ a2) upd_same ⟨_, rfl, ?_⟩
      have b3 := b2.new (o := HO.lst []) hlz
      have s3 := s2.same sz
      have a3 := sz _ _ a2
      have f3 := sz _ _ f2
      generalize upd H2 lz (HO.lst []) = H3 at sz b3 s3 a3 f3 ⊢
      cases zs with
      | nil => exact iteF ⟨_, rfl, k fo fs H3 foH f3 (by simpa using few) gf apz b3 (s3.mono (by simp at few; omega))⟩
      | cons z0 zr =>
        refine iteT ⟨fun σ2 H4 => ∃ m', m' < (z0 :: zr).length ∧ Wn p q cs n fo H m' σ2 H4, fun _ _ h => h, ?_⟩
        refine ⟨_, rfl, .inl ⟨rfl, _, SqL.of f3⟩, _, rfl, .inl ⟨rfl, _, SqL.of a3⟩, ?_⟩
        have lenI : (((z0 :: zr).map V.str).length : Int) ≤ 40 := by rw [List.length_map]; omega
        refine ⟨_, rfl, _, rfl, l, _, rfl, .inl (SqL.of a3), p, q, cs, _, _, rfl, by rw [List.length_map, List.length_cons]; omega, by omega, by omega, hc, s3, fun i H4 i0 i1 b4 s4 => ?_⟩
        have il : i.toNat < (z0 :: zr).length := by rw [List.length_map] at i1; omega
        have a4 := b4 _ _ lP a3
        have f4 := b4 _ _ foP f3
        refine ⟨l, (z0 :: zr).map V.str, i, i.toNat, .str ((z0 :: zr)[i.toNat]), rfl, rfl, a4, by omega, by omega, ix_of i0 i1, by rw [List.getElem?_map, List.getElem?_eq_getElem il]; rfl, ?_⟩
        refine ⟨fo, fs.map V.str, _, rfl, rfl, Eq.trans (upd_ne lfo.symm) f4, Nat.lt_of_lt_of_le (m := 41) (by rw [List.length_map]; omega) (by decide), ?_⟩
        have mem : (z0 :: zr)[i.toNat] ∈ z0 :: zr := List.getElem_mem il
        have le := List.length_eraseIdx_of_lt il
        refine ⟨zr.length, by simp, l, (z0 :: zr).eraseIdx i.toNat, fs ++ [(z0 :: zr)[i.toNat]], o3, o4, by rw [le]; rfl, rfl, ((b3.trans b4).mut l2).mut foH, ((s4.but_upd lP l2 sv).but_upd foP foH sv).mono (by rw [List.length_append]; show n + 200 + fs.length + 1 ≤ n + 200 + (fs.length + 1); omega), l2, ?_, lfo, by rw [le, List.length_append]; simp at few ⊢; omega, ?_, ?_, apz.move il, by rw [upd_same, List.map_append]; rfl⟩
        · rw [upd_ne lfo, upd_same, map_er]
        · exact ⟨fun y hy => gz.sg y (List.mem_of_mem_eraseIdx hy), fun y hy => gz.lo y (List.mem_of_mem_eraseIdx hy), fun y hy => gz.hi y (List.mem_of_mem_eraseIdx hy)⟩
        · refine ⟨fun y hm => ?_, fun y hm => ?_, fun y hm => ?_⟩ <;> rcases List.mem_append.mp hm with hm2 | hm2
          · exact gf.sg y hm2
          · rcases List.mem_cons.mp hm2 with rfl | hm3
            · exact gz.sg _ mem
            · cases hm3
          · exact gf.lo y hm2
          · rcases List.mem_cons.mp hm2 with rfl | hm3
            · exact gz.lo _ mem
            · cases hm3
          · exact gf.hi y hm2
          · rcases List.mem_cons.mp hm2 with rfl | hm3
            · exact gz.hi _ mem
            · cases hm3
end
end K06
set_option Elab.async false
set_option linter.all false
set_option maxRecDepth 100000
set_option maxHeartbeats 4000000
namespace K06
open PySem PySem.Spec PyProof.Rows L2 Own
section
variable {P : Program} {w : World} {K : PySem.W.Frag} {mg : Str → Option Value} {base : Heap}
/-! ### the law's own cutting -/
def spOwnCut : Sp := fun vs H Q _ => ∃ (a : Addr) (zs : List Str) (t : Str), vs = [.ref a, .str t] ∧ H a = some (.lst (zs.map V.str)) ∧ zs.length ≤ 200 ∧ (∀ z ∈ zs, 1 ≤ z.length ∧ z.length ≤ 60) ∧ ApL zs ∧ t.length ≤ 2000 ∧
  (∀ row, Joins (zs.map fun z => z.cps.toList) t.cps.toList row → ∀ H' p, Same H H' → H' p = none → Q (.ref p) (upd H' p (.tup (row.map fun (i : Nat) => V.int i)))) ∧ ((∀ row, ¬ Joins (zs.map fun z => z.cps.toList) t.cps.toList row) → ∀ H', Same H H' → Q .non H')
theorem pre_piece {t z : Str} {i : Nat} : decide (V.str (SX.S ((t.cps.toList.drop i).take z.length)) = V.str z) = decide (z.cps.toList <+: t.cps.toList.drop i) := by
  have zl : z.cps.toList.length = z.length := by simp [Str.length]
  rw [decide_eq_decide, List.prefix_iff_eq_take, zl]
  constructor
  · intro h
    injection h with h
    have h2 : (SX.S ((t.cps.toList.drop i).take z.length)).cps.toList = z.cps.toList := congrArg (fun z : Str => z.cps.toList) h
    have h3 : (SX.S ((t.cps.toList.drop i).take z.length)).cps.toList = (t.cps.toList.drop i).take z.length := by
      show ((t.cps.toList.drop i).take z.length).toArray.toList = _
      rw [List.toList_toArray]
    exact h2.symm.trans h3
  · intro h
    rw [← h, SX.S_tl]
theorem ok_own_cut {f : Addr} {fd : FuncData} (F : Fun K "_law_cut" "_law_cut" s__law_cut f fd) (T : Txt mg) : FnOk P w K mg base CX0 1 f fd ["names", "text"] spOwnCut := by
  refine F.ok sc__law_cut (fun vs H Q E h => ?_) (fun cdv A outer s H vs Q E hr h => ?_)
  · obtain ⟨a, zs, t, rfl, _⟩ := h
    rfl
  · obtain ⟨a, zs, t, rfl, ha, few, zl, ap, tl, kr, kno⟩ := h
    have tl2 : t.length ≤ sizeLine := Nat.le_trans tl (by decide)
    have ne : ∀ x ∈ zs.map (fun z : Str => z.cps.toList), x ≠ [] := by
      intro x hx
      obtain ⟨z, hz, rfl⟩ := List.mem_map.mp hx
      intro q
      have := (zl z hz).1
      have e : z.cps.toList.length = z.length := by simp [Str.length]
      rw [q] at e
      simp at e
      omega
    have ltx : t.cps.toList.length = t.length := by simp [Str.length]
    refine ⟨_, (pss_cons (ps_asg (pe_tup (pa_cons (pe_lst pa_nil) (pa_cons pe_int pa_nil))) (pg_tup rfl (pgs_cons (pg_name (i := 2) sc__law_cut.nd rfl (Or.inl rfl)) (pgs_cons (pg_name (i := 3) sc__law_cut.nd rfl (Or.inr rfl)) pgs_nil))))
  (pss_cons (ps_for PassesOwn.never rfl (pi_range1 rfl T.b_range (pa_cons (pe_callB call_len_str (by rfl) T.b_len boot_len (pa_cons (pv 1) pa_nil)) pa_nil)) (pg_name (i := 4) sc__law_cut.nd rfl (Or.inl rfl))
  (pss_cons (ps_if (pt_cmpR op_eq (pv 3) (pe_callB call_len_str (by rfl) T.b_len boot_len (pa_cons (pv 1) pa_nil)) (nomark _))
  (pss_one ps_break)
  pss_nil)
  (pss_cons (ps_setLc (i := 5) (own := [("place", 6), ("name", 7)]) rfl sc__law_cut.nd rfl rfl (sw_true rfl rfl rfl (by decide +kernel)) (pi_enum rfl T.b_enumerate (pa_cons (pv 0) pa_nil)) (blkOk_by (own := [("place", 6), ("name", 7)]) (N := N__law_cut) (sc := defScope s__law_cut) (by decide +kernel)) (fun _ _ _ _ _ => (pg_tupK (K := K) (n := 2) (by rfl) rfl (pgs_cons (pg_name (i := 6) sc__law_cut.nd rfl (Or.inl rfl)) (pgs_cons (pg_name (i := 7) sc__law_cut.nd rfl (Or.inl rfl)) pgs_nil)))) (fun _ _ _ _ _ => (pts_one (pt_cmpR op_eq (pe_slice sl_str (pv 1) (po_some (pv 3)) (po_some (pe_op op_add (pv 3) (pe_callB call_len_str (by rfl) T.b_len boot_len (pa_cons (pv 7) pa_nil))))) (pv 7) (nomark _)))) (fun _ _ _ _ _ => (pv 6)))
  (pss_cons (ps_if (pt_cmpR (op_eqNil (hu1 hr)) (pv 5) (pe_lst pa_nil) (nomark _))
  (pss_one (ps_ret pe_non))
  pss_nil)
  (pss_cons (ps_expr (pe_bm PySem.F.plainAttrs_list PySem.F.slot_list_append PySem.F.type_list_append mt_append (pv 2) (pa_cons (pe_ix ix_list (pv 5) pe_int (fun _ _ => rfl)) pa_nil)))
  (pss_one (ps_set (i := 3) sc__law_cut.nd rfl (Or.inr rfl) (pe_op op_add (pv 3) (pe_callB call_len_str (by rfl) T.b_len boot_len (pa_cons (pe_ix ix_list (pv 0) (pe_ix ix_list (pv 5) pe_int (fun _ _ => rfl)) (fun _ _ => rfl)) pa_nil))))))))))
  (pss_one (ps_ret (pe_callTy call_tuple_of (by rfl) T.b_tuple boot_tuple (pa_cons (pv 2) pa_nil)))))), ?_⟩
    refine ⟨by show 0 ≤ sizeLine; decide, fun fo hfo => ⟨by show 2 ≤ sizeLine; decide, fun tp htp => ⟨tp, _, rfl, SqT.of upd_same, rfl, _, _, rfl, _, _, rfl, rfl, ?_⟩⟩⟩
    have sB : Same H (upd (upd H fo (.lst [])) tp (.tup [.ref fo, .int 0])) := (same_new hfo).trans (same_new htp)
    have ho2 : upd (upd H fo (.lst [])) tp (.tup [.ref fo, .int 0]) fo = some (.lst []) := (upd_ne (ne_of_none upd_same htp)).trans upd_same
    generalize upd (upd H fo (HO.lst [])) tp (HO.tup [V.ref fo, V.int 0]) = H0 at sB ho2 ⊢
    have fin : ∀ (fs : List Nat) (start : Nat) (H' : Hp), Same H H' → H' fo = some (.lst (fs.map fun (i : Nat) => V.int i)) → (∀ i ∈ fs, i < zs.length) → flat (zs.map fun z => z.cps.toList) fs = t.cps.toList.take start → start = t.length → ∀ p, H' p = none → Q (.ref p) (upd H' p (.tup (fs.map fun (i : Nat) => V.int i))) := by
      intro fs start H' s ho hf fl e p hp
      refine kr fs ⟨fun i hi => by rw [List.length_map]; exact hf i hi, ?_⟩ H' p s hp
      rw [fl, e, List.take_of_length_le (by omega)]
    refine ⟨_, rfl, t, rfl, tl2, _, rfl, by omega, by omega, ?_⟩
    refine for_range (n := t.length) (fun i σ' H' => ∃ (fs : List Nat) (start : Nat) (o4 o5 o6 o7 : Option V), σ' = [some (.ref a), some (.str t), some (.ref fo), some (.int (start : Nat)), o4, o5, o6, o7] ∧ Same H H' ∧ H' fo = some (.lst (fs.map fun (i : Nat) => V.int i)) ∧ start ≤ t.length ∧ (∀ i ∈ fs, i < zs.length) ∧ flat (zs.map fun z => z.cps.toList) fs = t.cps.toList.take start ∧ fs.length ≤ start ∧ i ≤ start)
      ⟨[], 0, _, _, _, _, rfl, sB, ho2, Nat.zero_le _, fun i h => (nomatch h), by rw [List.take_zero]; rfl, Nat.le_refl _, Nat.le_refl _⟩ (fun i σ' H1 hi h2 => ?_) (fun σ' H1 h2 => ?_)
    · obtain ⟨fs, start, o4, o5, o6, o7, rfl, s1, ho, le, hf, fl, fle, ile⟩ := h2
      have hf' : ∀ i ∈ fs, i < (zs.map fun z : Str => z.cps.toList).length := fun i hi => by rw [List.length_map]; exact hf i hi
      refine ⟨_, rfl, _, rfl, t, rfl, tl2, rfl, _, rfl, ?_⟩
      rw [dI]
      by_cases e : start = t.length
      · rw [decide_eq_true (show ((start : Nat) : Int) = ((t.length : Nat) : Int) by omega)]
        exact iteT ⟨_, rfl, fo, _, rfl, .inl ⟨SqL.of ho, fin fs start H1 s1 ho hf fl e⟩⟩
      · rw [decide_eq_false (show ¬ ((start : Nat) : Int) = ((t.length : Nat) : Int) by omega)]
        refine iteF ?_
        have lt' : start < t.length := by omega
        refine nx_in ?_
        dsimp only
        refine seq_set ?_
        refine ⟨_, rfl, a, _, rfl, SqL.of (s1 _ _ ha), fun D hD => ?_⟩
        have Dfo : D ≠ fo := (ne_of_none ho hD).symm
        refine lc_it (walk_enum (K := K) (a := a) (xs := zs.map V.str)) (fun i H' => Same H1 H' ∧ ∃ js : List Nat, H' D = some (.lst (js.map fun (j : Nat) => V.int j)) ∧ js.length ≤ i ∧ ∀ j, j ∈ js ↔ j < i ∧ ∃ z, zs[j]? = some z ∧ z.cps.toList <+: t.cps.toList.drop start)
          ⟨same_new hD, [], upd_same, Nat.le_refl _, fun j => by simp⟩ (fun i H' _ p => SqL.of (p.1 _ _ (s1 _ _ ha))) (fun i x H2 H' hi ⟨s2, js, hl, jl, hj⟩ y => ?_) (fun H2 ⟨s2, js, hl, jl, hj⟩ => ?_)
        · obtain ⟨Tt, x1, x2, rfl, hT, rfl, e1, e2⟩ := y
          injection e1 with e1
          subst e1
          have e2 : (zs.map V.str)[i]? = some x2 := e2
          rw [List.getElem?_map] at e2
          obtain ⟨z, hz, rfl⟩ := Option.map_eq_some_iff.mp e2
          have z6 := (zl z (List.mem_of_getElem? hz)).2
          have zlen : z.length ≤ sizeLine := Nat.le_trans z6 (by decide)
          have sT := s2.trans (same_new (o := HO.tup [.int (i : Nat), .str z]) hT)
          have hl2 : upd H2 Tt (HO.tup [.int (i : Nat), .str z]) D = some (.lst (js.map fun (j : Nat) => V.int j)) := (upd_ne (ne_of_none hl hT)).trans hl
          refine ⟨Tt, _, rfl, SqT.of upd_same, rfl, _, _, rfl, _, _, rfl, rfl, ?_⟩
          generalize upd H2 Tt (HO.tup [.int (i : Nat), .str z]) = H3 at sT hl2 ⊢
          refine ⟨rfl, _, rfl, _, rfl, _, rfl, _, rfl, _, rfl, z, rfl, zlen, _, _, rfl, rfl, _, rfl, t, rfl, tl2, _, rfl, rfl, _, rfl, ?_⟩
          rw [cut_mid]
          show if decide (V.str (SX.S ((t.cps.toList.drop start).take z.length)) = V.str z) = true then _ else _
          rw [pre_piece]
          have il : i < 200 := by rw [List.length_map] at hi; omega
          by_cases pr : z.cps.toList <+: t.cps.toList.drop start
          · rw [decide_eq_true pr]
            refine iteT ⟨_, rfl, _, hl2, Nat.lt_of_lt_of_le (m := 300) (by rw [List.length_map]; omega) (by decide), same_mut sT hD, js ++ [i], by rw [upd_same, List.map_append]; rfl, by rw [List.length_append]; exact Nat.succ_le_succ jl, fun j => ?_⟩
            rw [List.mem_append, hj j, List.mem_singleton]
            constructor
            · rintro (⟨h1, h2⟩ | rfl)
              · exact ⟨Nat.lt_succ_of_lt h1, h2⟩
              · exact ⟨Nat.lt_succ_self _, z, hz, pr⟩
            · rintro ⟨h1, h2⟩
              by_cases q : j = i
              · exact .inr q
              · exact .inl ⟨by omega, h2⟩
          · rw [decide_eq_false pr]
            refine iteF ⟨sT, js, hl2, Nat.le_succ_of_le jl, fun j => ?_⟩
            rw [hj j]
            constructor
            · rintro ⟨h1, h2⟩
              exact ⟨Nat.lt_succ_of_lt h1, h2⟩
            · rintro ⟨h1, u, hu, h2⟩
              refine ⟨Nat.lt_of_le_of_ne (Nat.le_of_lt_succ h1) fun q => ?_, u, hu, h2⟩
              rw [q, hz] at hu
              cases hu
              exact pr h2
        · have s3 := s1.trans s2
          have ho3 := s2 _ _ ho
          have ha3 := s3 _ _ ha
          rw [List.length_map] at jl hj
          refine ⟨_, rfl, by show 0 ≤ sizeLine; decide, fun le hle => ?_⟩
          have sE := same_new (o := HO.lst []) hle
          refine ⟨D, le, _, rfl, rfl, sE _ _ hl, upd_same, _, rfl, ?_⟩
          have s4 := s3.trans sE
          have ho4 := sE _ _ ho3
          have ha4 := sE _ _ ha3
          have hl4 := sE _ _ hl
          generalize upd H2 le (HO.lst []) = H4 at s4 ho4 ha4 hl4 ⊢
          cases js with
          | nil =>
            refine iteT ?_
            refine kno (fun row hjn => joins_stop ap ne hf' (rest := t.cps.toList.drop start) ?_ ?_ (fun i hi => ?_) hjn) H4 s4
            · rw [fl, List.take_append_drop]
            · intro q
              have := congrArg List.length q
              rw [List.length_drop, List.length_nil] at this
              omega
            · rw [List.length_map] at hi
              have hz := List.getElem?_eq_getElem hi
              rw [getD_map hz]
              intro q
              exact absurd ((hj i).mpr ⟨hi, _, hz, q⟩) (by simp)
          | cons j jr =>
            refine iteF ?_
            obtain ⟨jn, z, hz, pr⟩ := (hj j).mp List.mem_cons_self
            have z1 := zl z (List.mem_of_getElem? hz)
            have zlen : z.cps.toList.length = z.length := by simp [Str.length]
            have tk := (List.prefix_iff_eq_take.mp pr)
            have le2 : z.length ≤ t.length - start := by
              have := pr.length_le
              rw [List.length_drop] at this
              omega
            have g0 : atI ((j :: jr).map fun (j : Nat) => V.int j) ((0 : Nat) : Int) = some (.int (j : Nat)) := atI_nat rfl
            have gz : atI (zs.map V.str) ((j : Nat) : Int) = some (.str z) := atI_nat (by rw [List.getElem?_map, hz]; rfl)
            refine nx_in ?_
            dsimp only
            refine ⟨_, rfl, .inl ⟨rfl, _, SqL.of ho4⟩, _, rfl, D, _, 0, _, rfl, rfl, SqL.of hl4, g0, fo, _, _, rfl, rfl, ho4, Nat.lt_of_le_of_lt (m := 2000) (by rw [List.length_map]; omega) (by decide), ?_⟩
            have foH : H fo = none := hfo
            have afo : a ≠ fo := ne_of_none ha hfo
            have hl5 : upd H4 fo (.lst ((fs.map fun (i : Nat) => V.int i) ++ [.int (j : Nat)])) D = some (.lst ((j :: jr).map fun (j : Nat) => V.int j)) := (upd_ne Dfo).trans hl4
            have ha5 : upd H4 fo (.lst ((fs.map fun (i : Nat) => V.int i) ++ [.int (j : Nat)])) a = some (.lst (zs.map V.str)) := (upd_ne afo).trans ha4
            refine ⟨_, rfl, _, rfl, _, rfl, D, _, 0, _, rfl, rfl, SqL.of hl5, g0, a, _, _, _, rfl, rfl, SqL.of ha5, gz, z, rfl, Nat.le_trans z1.2 (by decide), _, _, rfl, rfl, ?_⟩
            refine ⟨fs ++ [j], start + z.length, some (.int (0 + (i : Int))), some (.ref D), o6, o7, ?_, same_mut s4 foH, by rw [upd_same, List.map_append]; rfl, by omega, fun i hi => ?_, ?_, ?_, by omega⟩
            · rw [Int.natCast_add]
              rfl
            · rcases List.mem_append.mp hi with hi | hi
              · exact hf i hi
              · rw [List.mem_singleton.mp hi]
                exact jn
            · rw [flat_app, fl, List.take_add, flat_cons, getD_map hz, flat_nil, List.append_nil, ← zlen, ← tk]
            · rw [List.length_append]
              show fs.length + 1 ≤ _
              omega
    · obtain ⟨fs, start, o4, o5, o6, o7, rfl, s1, ho, le, hf, fl, fle, ile⟩ := h2
      exact ⟨_, rfl, fo, _, rfl, .inl ⟨SqL.of ho, fin fs start H1 s1 ho hf fl (by omega)⟩⟩
end
end K06
set_option Elab.async false
set_option linter.all false
set_option maxRecDepth 100000
set_option maxHeartbeats 4000000
namespace K06
open PySem PySem.Spec PyProof.Rows L2 Own
section
variable {P : Program} {w : World} {K : PySem.W.Frag} {mg : Str → Option Value} {base : Heap}
/-! ### bent texts -/
theorem sg_cut {t : Str} (h : Sg t) (lo hi : Option Int) : Sg (cutS t lo hi) := by
  intro c hc
  have hc : c ∈ ((t.cps.toList.drop (HT.sIx t.length 0 lo)).take (HT.sIx t.length t.length hi - HT.sIx t.length 0 lo)) := by
    have : (cutS t lo hi).cps.toList = ((t.cps.toList.drop (HT.sIx t.length 0 lo)).take (HT.sIx t.length t.length hi - HT.sIx t.length 0 lo)) := by
      show (List.toArray _).toList = _
      rw [List.toList_toArray]
    rw [← this]
    exact hc
  exact h c (List.mem_of_mem_drop (List.mem_of_mem_take hc))
theorem sg_01 {z : Str} (h : z = "0" ∨ z = "1") : Sg z ∧ z.length = 1 := by
  rcases h with rfl | rfl
  · exact ⟨fun c hc => .inl (by have : c ∈ [48] := hc; simpa using this), by decide +kernel⟩
  · exact ⟨fun c hc => .inr (by have : c ∈ [49] := hc; simpa using this), by decide +kernel⟩
def spBent : Sp := fun vs H Q _ => ∃ (p q : Addr) (cs : List Int) (n : Nat) (t : Str), vs = [.ref p, .str t] ∧ n ≤ 40000 ∧ cs.length ≤ 1000 ∧ Sv p q cs n H ∧ Sg t ∧ t.length ≤ 2000 ∧ ∀ z H', Sg z → z.length ≤ 5000 → But p H H' → Sv p q cs (n + 40) H' → Q (.str z) H'
theorem ok_bent {f : Addr} {fd : FuncData} (F : Fun K "_law_bent" "_law_bent" s__law_bent f fd) (T : Txt mg) (C__law_shear : Cal P w K mg base 1 "_law_shear" ["tailor", "many"] spSift) (C__law_cloth : Cal P w K mg base 2 "_law_cloth" ["tailor", "some"] spOne) : FnOk P w K mg base CX0 3 f fd ["tailor", "text"] spBent := by
  refine F.ok sc__law_bent (fun vs H Q E h => ?_) (fun cdv A outer s H vs Q E hr h => ?_)
  · obtain ⟨p, q, cs, n, t, rfl, _⟩ := h
    rfl
  · obtain ⟨p, q, cs, n, t, rfl, hn, hc, sv, sgt, tl, k⟩ := h
    have tl2 : t.length ≤ sizeLine := Nat.le_trans tl (by decide)
    refine ⟨_, (pss_cons (ps_par (i := 2) (j := 3) rfl sc__law_bent.nd rfl rfl (by decide) rfl rfl (pa_cons (pe_cal C__law_shear (hr.mono (by decide)) (pa_cons (pv 0) (pa_cons (pe_op op_add (pe_callB call_len_str (by rfl) T.b_len boot_len (pa_cons (pv 1) pa_nil)) pe_int) pa_nil))) (pa_cons (pe_cal C__law_shear (hr.mono (by decide)) (pa_cons (pv 0) (pa_cons pe_int pa_nil))) pa_nil)) rfl)
  (pss_cons (ps_if (pt_cmpR op_eq (pv 3) pe_int (nomark _))
  (pss_one (ps_ret (pe_op op_add_str (pe_op op_add_str (pe_slice sl_str (pv 1) po_none (po_some (pv 2))) (pe_ifExp (pt_cmpR op_eq (pe_slice sl_str (pv 1) (po_some (pv 2)) (po_some (pe_op op_add (pv 2) pe_int))) pe_str (nomark _)) pe_str pe_str)) (pe_slice sl_str (pv 1) (po_some (pe_op op_add (pv 2) pe_int)) po_none))))
  pss_nil)
  (pss_cons (ps_if (pt_cmpR op_eq (pv 3) pe_int (nomark _))
  (pss_one (ps_ret (pe_op op_add_str (pe_slice sl_str (pv 1) po_none (po_some (pv 2))) (pe_slice sl_str (pv 1) (po_some (pe_op op_add (pv 2) pe_int)) po_none))))
  pss_nil)
  (pss_cons (ps_if (pt_cmpR op_eq (pv 3) pe_int (nomark _))
  (pss_one (ps_ret (pe_op op_add_str (pe_op op_add_str (pe_slice sl_str (pv 1) po_none (po_some (pv 2))) (pe_cal C__law_cloth (hr.mono (by decide)) (pa_cons (pv 0) (pa_cons (pe_lst (pa_cons pe_str (pa_cons pe_str pa_nil))) pa_nil)))) (pe_slice sl_str (pv 1) (po_some (pv 2)) po_none))))
  pss_nil)
  (pss_cons (ps_if (pt_cmpR op_eq (pv 3) pe_int (nomark _))
  (pss_one (ps_ret (pe_slice sl_str (pv 1) po_none (po_some (pv 2)))))
  pss_nil)
  (pss_one (ps_ret (pe_ifExp (pt_cmpR op_eq (pv 3) pe_int (nomark _)) (pe_bm PySem.F.plainAttrs_str PySem.F.slot_str_join PySem.F.type_str_join mt_join pe_str (pa_cons (pe_lc (own := [("turn", 4)]) (g := gName 4) (tt := tYes) rfl sc__law_bent.nd (pi_range1 rfl T.b_range (pa_cons (pe_cal C__law_shear (hr.mono (by decide)) (pa_cons (pv 0) (pa_cons pe_int pa_nil))) pa_nil)) (blkOk_by (own := [("turn", 4)]) (N := N__law_bent) (sc := defScope s__law_bent) (by decide +kernel)) (fun _ _ _ _ _ => (pg_name (i := 4) sc__law_bent.nd rfl (Or.inl rfl))) (fun _ _ _ _ _ => pts_nil) (fun _ _ _ _ _ => (pe_cal C__law_cloth (hr.mono (by decide)) (pa_cons (pv 0) (pa_cons (pe_lst (pa_cons pe_str (pa_cons pe_str pa_nil))) pa_nil))))) pa_nil)) (pv 1))))))))), ?_⟩
    refine ⟨_, rfl, _, rfl, t, rfl, tl2, _, _, rfl, rfl, p, q, cs, n, _, rfl, by omega, by omega, by omega, hc, sv, fun at_ H1 a0 a1 b1 s1 => ?_⟩
    refine ⟨_, rfl, p, q, cs, n + 1, 6, rfl, by decide, by decide, by omega, hc, s1, fun way H2 w0 w1 b2 s2 => ?_⟩
    refine ⟨_, _, rfl, ?_⟩
    dsimp only
    have b12 := b1.trans b2
    have st : Stb p (fun (_ : Hp) v => v = .str "0" ∨ v = .str "1") := fun _ _ _ _ h => h
    have lc : ∀ lo hi, (cutS t lo hi).length ≤ t.length := fun lo hi => cutS_length t lo hi
    have fin : ∀ z, Sg z → z.length ≤ 5000 → Q (.str z) H2 := fun z h1 h2 => k z H2 h1 h2 b12 (s2.mono (by omega))
    have big : ∀ {n : Nat}, n ≤ 5000 → n ≤ sizeLine := fun h => Nat.le_trans h (by decide)
    have l1 := lc none (some at_)
    have l2 := lc (some (at_ + 1)) none
    have l3 := lc (some at_) none
    refine ⟨_, rfl, rfl, _, rfl, ?_⟩
    refine ite2 (fun _ => ?_) (fun _ => nx_in ?_)
    · refine ⟨_, rfl, _, rfl, _, rfl, t, rfl, tl2, ?_⟩
      refine ⟨_, rfl, _, rfl, _, rfl, _, rfl, _, _, rfl, rfl, _, rfl, t, rfl, tl2, rfl, _, rfl, ?_⟩
      have ends : ∀ x : Str, (x = "0" ∨ x = "1") → Sg (cutS t none (some at_) ++ x ++ cutS t (some (at_ + 1)) none) ∧ (cutS t none (some at_)).length + x.length ≤ sizeLine ∧ (cutS t none (some at_) ++ x).length + (cutS t (some (at_ + 1)) none).length ≤ sizeLine ∧ (cutS t none (some at_) ++ x ++ cutS t (some (at_ + 1)) none).length ≤ 5000 := by
        intro x hx
        obtain ⟨e1, e2⟩ := sg_01 hx
        exact ⟨sg_app (sg_app (sg_cut sgt _ _) e1) (sg_cut sgt _ _), big (by omega), big (by rw [Str.length_append]; omega), by rw [Str.length_append, Str.length_append]; omega⟩
      refine ite2 (fun _ => ?_) (fun _ => ?_)
      · obtain ⟨e1, e2, e3, e4⟩ := ends "1" (.inr rfl)
        exact ⟨_, _, rfl, rfl, e2, _, rfl, _, rfl, _, _, rfl, rfl, _, rfl, t, rfl, tl2, _, _, rfl, rfl, e3, fin _ e1 e4⟩
      · obtain ⟨e1, e2, e3, e4⟩ := ends "0" (.inl rfl)
        exact ⟨_, _, rfl, rfl, e2, _, rfl, _, rfl, _, _, rfl, rfl, _, rfl, t, rfl, tl2, _, _, rfl, rfl, e3, fin _ e1 e4⟩
    · dsimp only
      refine ⟨_, rfl, rfl, _, rfl, ?_⟩
      refine ite2 (fun _ => ?_) (fun _ => nx_in ?_)
      · exact ⟨_, rfl, _, rfl, _, rfl, t, rfl, tl2, _, rfl, _, rfl, _, _, rfl, rfl, _, rfl, t, rfl, tl2, _, _, rfl, rfl, big (by omega), fin _ (sg_app (sg_cut sgt _ _) (sg_cut sgt _ _)) (by rw [Str.length_append]; omega)⟩
      dsimp only
      refine ⟨_, rfl, rfl, _, rfl, ?_⟩
      refine ite2 (fun _ => ?_) (fun _ => nx_in ?_)
      · refine ⟨_, rfl, _, rfl, _, rfl, t, rfl, tl2, ?_⟩
        refine dr_one (p := p) (q := q) (cs := cs) (j := 0) (k := 2) (n := n + 2) (m := n + 2) (H := H2) (R := fun _ v => v = .str "0" ∨ v = .str "1") rfl
          (dr_lstR (DrA.cons st (dr_c fun _ _ => .inl rfl) (DrA.cons st (dr_c fun _ _ => .inr rfl) DrA.nil)) st (by decide)) st (by decide) (by decide) (by omega) hc H2 (But.refl _ _) s2 _ fun v H3 b3 s3 hv => ?_
        obtain ⟨y, rfl, h1⟩ : ∃ y : Str, v = .str y ∧ (y = "0" ∨ y = "1") := by
          rcases hv with rfl | rfl
          · exact ⟨_, rfl, .inl rfl⟩
          · exact ⟨_, rfl, .inr rfl⟩
        obtain ⟨e1, e2⟩ := sg_01 h1
        exact ⟨_, _, rfl, rfl, big (by omega), _, rfl, _, rfl, _, rfl, t, rfl, tl2, _, _, rfl, rfl, big (by rw [Str.length_append]; omega), k _ H3 (sg_app (sg_app (sg_cut sgt _ _) e1) (sg_cut sgt _ _)) (by rw [Str.length_append, Str.length_append]; omega) (b12.trans b3) (s3.mono (by omega))⟩
      dsimp only
      refine ⟨_, rfl, rfl, _, rfl, ?_⟩
      refine ite2 (fun _ => ?_) (fun _ => nx_in ?_)
      · exact ⟨_, rfl, _, rfl, _, rfl, t, rfl, tl2, fin _ (sg_cut sgt _ _) (by omega)⟩
      dsimp only
      refine ⟨_, rfl, rfl, _, rfl, ?_⟩
      refine ite2 (fun _ => ?_) (fun _ => ?_)
      · refine ⟨rfl, ?_⟩
        refine ⟨_, rfl, p, q, cs, n + 2, 12, rfl, by decide, by decide, by omega, hc, s2, fun r H3 r0 r1 b3 s3 => ?_⟩
        refine ⟨_, rfl, by omega, by omega, fun D hD => ?_⟩
        have hDp : D ≠ p := sv_ne s3 hD
        refine lc_range (lo := 0) (n := r.toNat) (fun i H' => But p H3 H' ∧ Sv p q cs (n + 3 + i) H' ∧ ∃ ys : List Str, H' D = some (.lst (ys.map V.str)) ∧ ys.length = i ∧ ∀ y ∈ ys, y = "0" ∨ y = "1")
          ⟨(But.refl _ _).new hD, s3.same (same_new hD), [], upd_same, rfl, fun y hy => by cases hy⟩ (fun i H' hi ⟨b, s', ys, hl, hy, h01⟩ => ?_) (fun H' ⟨b, s', ys, hl, hy, h01⟩ => ?_)
        · refine ⟨rfl, yes_if ?_⟩
          refine dr_one (p := p) (q := q) (cs := cs) (j := 0) (k := 2) (n := n + 3 + i) (m := n + 3 + i) (H := H') (R := fun _ v => v = .str "0" ∨ v = .str "1") rfl
            (dr_lstR (DrA.cons st (dr_c fun _ _ => .inl rfl) (DrA.cons st (dr_c fun _ _ => .inr rfl) DrA.nil)) st (by decide)) st (by decide) (by decide) (by omega) hc H' (But.refl _ _) s' _ fun v H9 b9 s9 hv => ?_
          obtain ⟨y, rfl, h1⟩ : ∃ y : Str, v = .str y ∧ (y = "0" ∨ y = "1") := by
            rcases hv with rfl | rfl
            · exact ⟨_, rfl, .inl rfl⟩
            · exact ⟨_, rfl, .inr rfl⟩
          have hl2 := b9 _ _ hDp hl
          refine ⟨_, hl2, Nat.lt_of_lt_of_le (m := 60) (by rw [List.length_map]; omega) (by decide), (b.trans b9).mut hD, s9.but_upd hDp hD s3, ys ++ [y], ?_, by rw [List.length_append, hy]; rfl, fun z hz => ?_⟩
          · rw [upd_same, List.map_append]
            rfl
          · rcases List.mem_append.mp hz with hz | hz
            · exact h01 z hz
            · rcases List.mem_cons.mp hz with rfl | hz
              · exact h1
              · cases hz
        · obtain ⟨j1, j2⟩ := join_signs h01
          have all1 : ∀ ys : List Str, (∀ y ∈ ys, y = "0" ∨ y = "1") → (ys.map (·.length)).sum = ys.length := by
            intro ys
            induction ys with
            | nil => intro _; rfl
            | cons y ys ih =>
              intro h
              have e : y.length = 1 := by rcases h y List.mem_cons_self with rfl | rfl <;> decide +kernel
              rw [List.map_cons, List.sum_cons, e, ih fun z hz => h z (List.mem_cons_of_mem _ hz), List.length_cons, Nat.add_comm]
          refine ⟨"", D, ys, rfl, rfl, .inl (SqL.of hl), ?_, k _ H' j2 (by rw [j1]; omega) (b12.trans (b3.trans b)) (s'.mono (by omega))⟩
          rw [all1 ys h01, show ("" : Str).length = 0 from by decide +kernel]
          omega
      · exact ⟨_, rfl, fin _ sgt (by omega)⟩
end
end K06
set_option Elab.async false
set_option linter.all false
set_option maxRecDepth 100000
set_option maxHeartbeats 4000000
/-! a lambda of one parameter with a default, handed to a def that calls it with nothing -/
namespace Own
open PySem PySem.Spec PyProof.Rows L2 LamX
/-- its names: the parameter a0, captured ones, globals -/
structure Lm1 (a0 : Str) (mine scope : Scope) : Prop where
  fun_ : scope.kind = .function
  plain : scope.isCoroutine = false ∧ scope.isGenerator = false
  par : scope.names.lookup a0 = some .local
  only : ∀ y k, (y, k) ∈ scope.names → k ≠ .cell ∧ (k = .local → y = a0) ∧ (k = .free → mine.names.lookup y = some .cell ∨ mine.names.lookup y = some .free)
def lm1B (a0 : Str) (mine scope : Scope) : Bool :=
  (decide (scope.kind = .function) && !scope.isCoroutine) && (!scope.isGenerator && decide (scope.names.lookup a0 = some .local)) && scope.names.all fun (y, k) => match k with
    | .cell => false
    | .local => decide (y = a0)
    | .free => decide (mine.names.lookup y = some .cell) || decide (mine.names.lookup y = some .free)
    | _ => true
theorem lm1_of {a0 : Str} {mine scope : Scope} (b : lm1B a0 mine scope = true) : Lm1 a0 mine scope := by
  simp only [lm1B, Bool.and_eq_true, Bool.not_eq_true', decide_eq_true_eq, List.all_eq_true] at b
  obtain ⟨⟨⟨k, co⟩, ge, at0⟩, all⟩ := b
  refine { fun_ := k, plain := ⟨co, ge⟩, par := at0, only := fun y k m => ?_ }
  have z := all (y, k) m
  cases k <;> simp_all
/-- what is captured is the maker's own cell -/
theorem cap_in {X : Cx} {a0 : Str} {scope : Scope} (L : Lm1 a0 X.env.scope scope) (ok : X.Ok) (y : Str) (k : scope.names.lookup y = some .free) :
    ∃ c, X.env.cells.lookup y = some c ∧ (cloFrom X.env.cells scope.names []).lookup y = some c := by
  have m := PySem.mem_of_lookup k
  obtain ⟨c, e⟩ : ∃ c, X.env.cells.lookup y = some c := ok.has y ((L.only y _ m).2.2 rfl)
  obtain ⟨c', e'⟩ := mem_lookup (cloFrom_has (cells := X.env.cells) (acc := []) m)
  rcases cloFrom_mem (PySem.mem_of_lookup e') with no | ⟨_, is⟩
  · exact nomatch no
  · rw [e] at is
    obtain rfl : c' = c := is
    exact ⟨c', e, e'⟩
theorem cap_of {X : Cx} {a0 : Str} {scope : Scope} (L : Lm1 a0 X.env.scope scope) (ok : X.Ok) (y : Str) (c : Addr) (e : (cloFrom X.env.cells scope.names []).lookup y = some c) : X.env.cells.lookup y = some c := by
  rcases cloFrom_mem (PySem.mem_of_lookup e) with no | ⟨m, is⟩
  · exact nomatch no
  · obtain ⟨d, hd⟩ : ∃ d, X.env.cells.lookup y = some d := ok.has y ((L.only y _ m).2.2 rfl)
    rw [is, hd]
    rfl
/-- a table grown by one code object -/
theorem tabs_more {T : List (Addr × Str)} {H : Hp} {B c : Addr} {q : Str} {ps : Array Value} {u v : Value} (t : Tabs T H) (hB : H B = some (.tbl ps)) (u1 : ∀ r ∈ T, r.1 = B → r.2 = q) (ok3 : TriplesOk (ps ++ #[u, v, .ref c]).toList)
    (old : ∀ pos cv, codeAmong pos (ps ++ #[u, v, .ref c]).toList = some cv → codeAmong pos ps.toList = some cv ∨ cv = .ref c) (nc : H c = none) :
    ExtN H (upd (upd H B (.tbl (ps ++ #[u, v, .ref c]))) c (CodeO c q)) ∧ Tabs T (upd (upd H B (.tbl (ps ++ #[u, v, .ref c]))) c (CodeO c q)) := by
  have bc : B ≠ c := ne_of_none hB nc
  have ext : ExtN H (upd (upd H B (.tbl (ps ++ #[u, v, .ref c]))) c (CodeO c q)) := by
    intro b o is nt
    by_cases bB : b = B
    · subst bB
      exact absurd (Option.some.inj (is.symm.trans hB)) (nt ps)
    · exact (upd_ne (ne_of_none is nc)).trans ((upd_ne bB).trans is)
  refine ⟨ext, fun r hr => ?_⟩
  obtain ⟨rs, r1, r2, r3⟩ := t r hr
  by_cases rB : r.1 = B
  · rw [rB, u1 r hr rB]
    rw [rB, hB] at r1
    obtain rfl : ps = rs := by injection Option.some.inj r1
    refine ⟨_, (upd_ne bc).trans upd_same, ok3, fun pos cv is => ?_⟩
    rcases old pos cv is with is | is
    · obtain ⟨d, e1, e2⟩ := r3 pos cv is
      rw [u1 r hr rB] at e2
      exact ⟨d, e1, ext _ _ e2 codeO_ne⟩
    · exact ⟨c, is, upd_same⟩
  · refine ⟨rs, (upd_ne (ne_of_none r1 nc)).trans ((upd_ne rB).trans r1), r2, fun pos cv is => ?_⟩
    obtain ⟨d, e1, e2⟩ := r3 pos cv is
    exact ⟨d, e1, ext _ _ e2 codeO_ne⟩
/-- the lambda stands at f, its defaults at t, its code object at c' -/
structure Born (X : Cx) (T : List (Addr × Str)) (params : Arguments) (body : Expr) (scope : Scope) (u0 : Value) (H H1 : Hp) (s' : Shared) (f t c' : Addr) (doc pm ctv : Value) : Prop where
  ext : ExtN H H1
  tabs : Tabs T H1
  fn : s'.heap.get? f = some (PySem.W.kdv_obj "<lambda>" (X.env.qual ++ "<lambda>") params (.expr body) scope (cloFrom X.env.cells scope.names []) (.ref t) doc pm c' ctv)
  tup : s'.heap.get? t = some (PySem.W.kdv_tup [u0])
  off : (H1 f = none ∧ f ∉ frs X.stack) ∧ H1 t = none ∧ t ∉ frs X.stack
  code : H1 c' = some (CodeO c' (X.env.qual ++ "<lambda>"))
section
variable {X : Cx} {pins : List (Addr × Obj)} {σ : L2.St} {H : Hp} {s : Shared}
theorem off_new (I : Inv X pins σ H s) {b : Addr} (le : s.heap.objs.size ≤ b) : H b = none ∧ b ∉ frs X.stack := by
  refine ⟨I.hok.fresh le, fun m => ?_⟩
  cases I.stkSub b m with
  | head => exact absurd I.lt (Nat.not_lt.mpr le)
  | tail _ m => exact I.nofs le m
/-- the making -/
theorem lam_born {T : List (Addr × Str)} {cC PT : Addr} {params : Arguments} {body e0 : Expr} {scope : Scope} {pos : Pos} {a0 : Str} {v0 : V} {Q : Value → Shared → Prop} (I : Inv X pins σ H s) (TB : TabB X.base X.mg cC PT) (hcode : X.env.code = .ref cC)
    (hm : (PT, X.env.qual ++ "<lambda>") ∈ T) (hu : ∀ r ∈ T, r.1 = PT → r.2 = X.env.qual ++ "<lambda>") (hT : Tabs T H) (one : params.defaults = [e0]) (none_ : params.kw_defaults = []) (he : PE X e0 (tC v0)) (L : Lm1 a0 X.env.scope scope)
    (k : ∀ f t c' doc pm ctv u0 H1 s', Inv X pins σ H1 s' → RelV v0 u0 → Born X T params body scope u0 H H1 s' f t c' doc pm ctv → Q (.ref f) s') :
    wpAny (model X.prog X.w) X.A (eval (.Lambda params body scope pos) X.env) Q X.xe s := by
  refine PySem.W.kdv_lam (one ▸ rfl) none_ (one.symm ▸ PySem.W.kdv_all1 (thn (he.run pins s σ H (fun v H1 => v = v0 ∧ H1 = H) I ⟨rfl, rfl⟩) fun u0 s0 w0 => PySem.W.kdv_all0 ?_))
  obtain ⟨v, G, I0, r0, isV, isG⟩ := w0
  rw [isG] at I0
  rw [isV] at r0
  rw [makeFunction_eq]
  simp only [List.zip_nil_right, List.filterMap_nil, List.isEmpty_nil, List.isEmpty_cons, Bool.false_eq_true, if_true, if_false, pure_bind]
  refine wpAny_bind (wpAny_newTextTuple ?_)
  have tOff := off_new I0 (Nat.le_refl _)
  obtain ⟨S, hS⟩ : ∃ S : Shared, S = { s0 with heap := s0.heap.push (PySem.W.kdv_tup [u0]) } := ⟨_, rfl⟩
  have tIs : S.heap.get? s0.heap.objs.size = some (PySem.W.kdv_tup [u0]) := by
    rw [hS]
    exact Heap.get?_push_size _ rfl
  have J : Inv X pins σ H S := by
    rw [hS]
    exact I0.kept (t' := s0.toks) fun b o e => Heap.get?_push_of_some _ e
  rw [← hS]
  generalize s0.heap.objs.size = t at tOff tIs
  clear hS I0 I
  obtain ⟨ps, atP, trip, told⟩ := hT _ hm
  have atP' : S.heap.get? PT = some { cls := .none, data := .fields ps } := J.hok PT _ atP
  have clo := closure_ok (env := X.env) (scope := scope) fun y m e => J.ok.has y.1 ((L.only y.1 y.2 m).2.2 e)
  have mod := J.mod.glob.keeps J.bk
  have blt : S.heap.BuiltinsAt X.mg PT := TB.bm.keeps J.bk
  have hd := TB.code.keeps J.bk
  cases among : codeAmong pos ps.toList with
  | some cv =>
    obtain ⟨c', rfl, isC⟩ := told pos cv among
    refine PySem.W.kdv_makeTailHit (mg := X.mg) clo J.ok.glob mod hcode hd atP' trip among blt fun ctv doc h' tk kp le => ?_
    have fOff := off_new J le
    exact k _ t c' doc _ ctv u0 H _ (J.kept (t' := tk) fun b o e => Heap.get?_push_of_some _ (kp b o e)) r0 ⟨ExtN.refl H, hT, Heap.get?_push_size _ rfl, Heap.get?_push_of_some _ (kp _ _ tIs), ⟨fOff, tOff⟩, isC⟩
  | none =>
    refine PySem.W.kdv_makeTail (mg := X.mg) clo J.ok.glob mod hcode hd atP' trip among TB.gP blt fun c' ctv doc h' tk kp ge lt isCode tab => ?_
    obtain ⟨c2, oc, vs, tq, same, oc1, oc2, oc3⟩ := isCode
    cases same
    have cOff := off_new J ge
    have fOff := off_new J (Nat.le_trans ge (Nat.le_of_lt lt))
    have tLt : t < S.heap.objs.size := Heap.lt_size tIs
    have pLt : PT < S.heap.objs.size := Heap.lt_size atP'
    have tP : t ≠ PT := fun z => by
      rw [z, atP] at tOff
      exact nomatch tOff.1
    obtain ⟨ext, tabs⟩ := tabs_more (u := rawInt pos.line) (v := rawInt pos.col) (c := c') hT atP hu
      (by simpa using PySem.TriplesOk_snoc _ _ _ _ trip) (fun p cv is => among_app (pos := pos) _ trip (by simpa using is)) cOff.1
    have apart : ∀ b, b ≠ c' → b ≠ PT → H b = none → upd (upd H PT (.tbl (ps ++ #[rawInt pos.line, rawInt pos.col, .ref c']))) c' (CodeO c' (X.env.qual ++ "<lambda>")) b = none := fun b b1 b2 n => (upd_ne b1).trans ((upd_ne b2).trans n)
    refine k _ t c' doc _ ctv u0 _ _ (inv_table (t' := tk) (c := c') J atP (fun b o nb e => Heap.get?_push_of_some _ (kp b o nb e)) (Heap.get?_push_of_some _ tab) ge ⟨oc, vs, tq, Heap.get?_push_of_some _ oc1, oc2, oc3⟩) r0
      ⟨ext, tabs, Heap.get?_push_size _ rfl, Heap.get?_push_of_some _ (kp _ _ tP tIs), ⟨⟨apart _ (Nat.ne_of_gt lt) (Nat.ne_of_gt (Nat.lt_of_lt_of_le pLt (Nat.le_trans ge (Nat.le_of_lt lt)))) fOff.1, fOff.2⟩, apart _ (Nat.ne_of_lt (Nat.lt_of_lt_of_le tLt ge)) tP tOff.1, tOff.2⟩, upd_same⟩
/-- its frame: what the maker's slots hold, but the parameter's own slot i0 -/
theorem lam_frame {a0 : Str} {i0 : Nat} {v0 : V} {u0 : Value} {HZ : Hp} {S : Shared} {A : Around} {outer : List Env} {E : XK} {scope : Scope} {f c' : Addr} {h₁ : Heap} {tk : Nat} (I : Inv X pins σ H s) (L : Lm1 a0 X.env.scope scope) (z0 : Env0 X.prog X.w X.K X.mg X.base A outer S HZ) (calm : A.handled = none)
    (here : ∀ i y, X.N[i]? = some y → (y = a0 ↔ i = i0)) (r0 : RelV v0 u0) (un : Un (frs X.stack) [] H HZ s.heap S.heap) (own : h₁.Ns S.heap.objs.size fun y => [(a0, u0)].reverse.lookup y) (kp : ∀ b o, S.heap.get? b = some o → h₁.get? b = some o) :
    Inv (lamCx X A outer S HZ E scope f c') [] (σ.set i0 (some v0)) HZ { S with heap := h₁, toks := tk } := by
  have cell : ∀ y c v, X.env.cells.lookup y = some c → s.heap.IsCell c v → h₁.IsCell c v := by
    rintro y c v e ⟨o, o1, o2⟩
    obtain ⟨sl, z⟩ := un.any o1 (I.freeC y c e) (by simp)
    exact ⟨_, kp _ _ z, o2⟩
  have nx : ∀ {p : Prop} {b : Addr}, b ∈ (lamCx X A outer S HZ E scope f c').ex → p := fun m => (nomatch (show _ ∈ ([] : List Addr) from m))
  have ok : (lamCx X A outer S HZ E scope f c').Ok := {
    mod := z0.mod, kind := L.fun_, glob := rfl, blt := rfl, above := Nat.le_refl _
    inj := fun y z c m1 m2 => I.ok.inj y z c (cap_of L I.ok y c m1) (cap_of L I.ok z c m2)
    has := fun y m => by
      rcases m with m | m
      · exact absurd rfl (L.only y _ (PySem.mem_of_lookup (show scope.names.lookup y = some .cell from m))).1
      · exact (cap_in L I.ok y m).imp fun c z => z.2
    cab := fun y c no _ => (nomatch (show false = true from no))
    hd := fun _ => calm, frames := Around.frames_deeper z0.frames, stk := .inr ⟨rfl, rfl⟩
    exf := fun b m => nx m, bs := z0.bs, bsz := z0.bsz, noex := fun b o _ m => nx m, exfs := fun b m => nx m, funs := z0.funs, frf := z0.frf }
  refine { ok := ok, os := rfl, bare := z0.bare, base := Un.kept kp, loc := ⟨_, own, ?loc⟩, cell := ?cell, free := z0.hok.fresh (Nat.le_refl _), freeC := ?freeC, pin := fun r m => (nomatch (show r ∈ ([] : List (Addr × Obj)) from m)), hok := z0.hok.kept kp, len := by rw [List.length_set]; exact I.len }
  case cell =>
    intro y c e
    have e := cap_of L I.ok y c e
    exact (I.cell y c e).imp fun v z => cell y c v e z
  case freeC =>
    intro y c e
    have e := cap_of L I.ok y c e
    obtain ⟨v, o, o1, _⟩ := I.cell y c e
    exact un.free c o o1 (I.freeC y c e) (by simp)
  case loc =>
    intro i y v at_ is vis
    have at_ : X.N[i]? = some y := at_
    have big : i < σ.length := by
      have := (List.getElem?_eq_some_iff.mp is).1
      simpa using this
    by_cases ya : y = a0
    · have ii := (here i y at_).mp ya
      subst ya ii
      rw [List.getElem?_set_self big] at is
      injection is with is
      injection is with is
      subst is
      exact ⟨u0, r0, .inl ⟨L.par, by simp [List.lookup]⟩⟩
    · have ii : i0 ≠ i := fun z => ya ((here i y at_).mpr z.symm)
      rw [List.getElem?_set_ne ii] at is
      have fr : scope.names.lookup y = some .free := by
        rcases vis with m | m | m
        · exact absurd ((L.only y _ (PySem.mem_of_lookup m)).2.1 rfl) ya
        · exact absurd rfl (L.only y _ (PySem.mem_of_lookup m)).1
        · exact m
      have up := (L.only y _ (PySem.mem_of_lookup fr)).2.2 rfl
      obtain ⟨m, _, look⟩ := I.loc
      obtain ⟨u, ru, w⟩ := look i y v at_ is (.inr up)
      obtain ⟨c, c1, c2⟩ := cap_in L I.ok y fr
      refine ⟨u, ru, .inr ⟨.inr fr, c, c2, ?_⟩⟩
      rcases w with ⟨no, _⟩ | ⟨_, d, d1, d2⟩
      · have no : X.env.scope.names.lookup y = some .local := no
        rw [no] at up
        exact nomatch up
      · rw [c1] at d1
        injection d1 with d1
        exact cell y c _ c1 (d1 ▸ d2)
/-- the lambda called: from the state S on, the heap as HZ tells -/
theorem lam_runs {a0 : Str} {i0 : Nat} {v0 : V} {u0 : Value} {T : List (Addr × Str)} {params : Arguments} {body : Expr} {scope : Scope} {tb : TE} {k : Nat} {H1 HZ : Hp} {S : Shared} {f t c' : Addr} {doc pm ctv : Value} {A : Around} {outer : List Env} {Q : VK} {E : XK}
    (I : Inv X pins σ H1 s) (B : Born X T params body scope u0 H H1 s f t c' doc pm ctv) (L : Lm1 a0 X.env.scope scope) (here : ∀ i y, X.N[i]? = some y → (y = a0 ↔ i = i0)) (r0 : RelV v0 u0)
    (bind : ∀ G : Shared, G.heap.get? t = some (PySem.W.kdv_tup [u0]) → BindsTo G (PySem.W.kdv_fn "<lambda>" (X.env.qual ++ "<lambda>") params (.expr body) scope (cloFrom X.env.cells scope.names []) (.ref t) doc pm (.ref c') ctv) ⟨[], []⟩ [(a0, u0)])
    (hb : ∀ (A : Around) (outer : List Env) (s : Shared) (H : Hp), Room k (A.deeper (lamEnv X scope s.heap.objs.size f c')) → PE (lamCx X A outer s H E scope f c') body tb)
    (room : Room (k + 1) A) (z0 : Env0 X.prog X.w X.K X.mg X.base A outer S HZ) (lim : S.heap.NoLimit) (un : Un (frs X.stack) [] H1 HZ s.heap S.heap) (isC : HZ c' = some (CodeO c' (X.env.qual ++ "<lambda>"))) (ht : tb (σ.set i0 (some v0)) HZ Q) :
    codeAny (model X.prog X.w) A (.call (.ref f) ⟨[], []⟩) (CR (L2.CX X.prog X.w) outer X.prog X.w HZ S Q E) S := by
  have no : ∀ b : Addr, b ∉ ([] : List Addr) := fun b m => nomatch m
  obtain ⟨⟨oc, vs, tq, o1, o2, o3⟩, _, _⟩ := z0.hok c' _ isC
  refine PySem.W.kla_callFunE room.depth (un.keep f _ B.fn B.off.1.1 B.off.1.2 (no f)) rfl L.plain.1 L.plain.2 rfl ⟨c', oc, vs, tq, rfl, o1, o2, o3⟩ ?_
  refine bind S (un.keep t _ B.tup B.off.2.1 B.off.2.2 (no t)) _ _ _ _ ?_
  refine wpAny_newFunctionEnv (fun y m => (L.only y.1 y.2 m).1) (fun y m => by rw [List.mem_singleton.mp m]; exact L.par) (fun h₁ own sb => ⟨lim.fresh _ sb, ?_⟩) L.fun_
  have J := lam_frame (E := E) (f := f) (c' := c') (tk := S.toks + 1) I L z0 room.hd here r0 un own fun b o e => sb.extBut b o (Nat.ne_of_lt (Heap.lt_size e)) (Heap.get?_push_of_some _ e)
  refine PySem.W.kla_codeExpr (wpAny_mono ((hb A outer S HZ (room.deeper _)).run [] _ _ HZ Q J ht) ?_ fun _ _ z => z)
  rintro u G ⟨v, H', J', rv, q⟩
  exact ⟨v, H', J'.os, J'.bare, J'.base, J'.hok, rv, q⟩
end
def tLam1 (T : List (Addr × Str)) (TT : (XK → Hp → VK → Prop) → Hp → VK → Prop) (i0 : Nat) (v0 : V) (t : XK → TE) : TE := fun σ H Q => Tabs T H ∧ ∀ H1, ExtN H H1 → Tabs T H1 → TT (fun E H' Q' => t E (σ.set i0 (some v0)) H' Q') H1 Q
theorem calls_of {X : Cx} {pins : List (Addr × Obj)} {σ : L2.St} {H : Hp} {s : Shared} {CXg : CXT} {E : XK} {f : Addr} {us : List Value} {Q : VK} (I : Inv X pins σ H s) (run : codeAny (model X.prog X.w) X.A (.call (.ref f) ⟨us, []⟩) (CR CXg X.stack X.prog X.w H s Q E) s)
    (out : ∀ e s', CXg X.stack H s E e s' → X.xe e s') : wpAny (model X.prog X.w) X.A (call (.ref f) us) (EP X pins σ Q) X.xe s := by
  refine wpAny_call (codeAny_mono run fun r s' z => ?_)
  match r, z with
  | .error e, z => exact out e s' z
  | .ok (.ret u), z => exact I.after z
  | .ok .next, z => exact z.elim
  | .ok .brk, z => exact z.elim
  | .ok .cont, z => exact z.elim
section
variable {X : Cx}
/-- x(lambda a0=e0: body) -/
theorem pe_lamcall1 {a0 : Str} {i0 : Nat} {v0 : V} {e0 : Expr} {T : List (Addr × Str)} {TT : (XK → Hp → VK → Prop) → Hp → VK → Prop} {x a : Str} {g cC PT : Addr} {k : Nat} {fdg : FuncData} {st : Stmt} {N : List Str} {params : Arguments} {body : Expr} {scope : Scope} {t : XK → TE} {p lpos pos : Pos} (hg : Gl X x) (hm : X.mg x = some (.ref g))
    (hk : PySem.W.keepIn X.K (.ref g) = true) (Fg : Fun X.K x x st g fdg) (bg : Binds X.K fdg [a] []) (Sg : FnScope N [a] (defScope st)) (at0 : N[0]? = some a) (vis : Vis (defScope st) a) (gives : ∀ cdv, GivesTo X N x (defScope st) g cdv (defBody st) a (X.env.qual ++ "<lambda>") TT)
    (TB : TabB X.base X.mg cC PT) (hcode : X.env.code = .ref cC) (hmT : (PT, X.env.qual ++ "<lambda>") ∈ T) (hu : ∀ r ∈ T, r.1 = PT → r.2 = X.env.qual ++ "<lambda>") (room : Room (k + 2) X.A) (L : Lm1 a0 X.env.scope scope) (one : params.defaults = [e0]) (none_ : params.kw_defaults = []) (he : PE X e0 (tC v0))
    (here : ∀ i y, X.N[i]? = some y → (y = a0 ↔ i = i0))
    (bind : ∀ (q : Str) (cl : List (Str × Addr)) (t : Addr) (doc pm cv ctv u0 : Value) (G : Shared), G.heap.get? t = some (PySem.W.kdv_tup [u0]) → BindsTo G (PySem.W.kdv_fn "<lambda>" q params (.expr body) scope cl (.ref t) doc pm cv ctv) ⟨[], []⟩ [(a0, u0)])
    (hb : ∀ (A : Around) (outer : List Env) (s : Shared) (H : Hp) (E : XK) (f c' : Addr), Room k (A.deeper (lamEnv X scope s.heap.objs.size f c')) → PE (lamCx X A outer s H E scope f c') body (t E))
    (hdb : (x == ("__debug__" : Str)) = false := by decide) (hd : (a == ("__debug__" : Str)) = false := by decide) (hcd : (a == ("__classdict__" : Str)) = false := by decide) :
    PE X (.Call (.Name x p) [.Lambda params body scope lpos] [] pos) (tLam1 T TT i0 v0 t) := by
  obtain ⟨oc, od, kV, dd, pg, an, cdv, ct, osl, rfl, lk, isG⟩ := Fg.ex
  constructor
  rintro pins s σ H Q I ⟨hT, told⟩
  refine wpAny_Call_Name_kw (ld_glob I hg hm (PySem.W.callWith_K (h₀ := X.base) I.ok.mod.kin hk ?_ (by rfl) (by rfl)) hdb)
  show wpAny _ _ (spliced ((false, eval (.Lambda params body scope lpos) X.env) :: backTo pos (starEach [] X.env))) _ _ s
  refine Calls.spliced_cons (lam_born I TB hcode hmT hu hT one none_ he L ?_)
  intro f tA c' doc pm ctv u0 H1 s1 I1 r0 B
  refine Calls.spliced_nil ⟨I1.kIn, calls_of (CXg := C8.CX0) (E := C8.E0) I1 ?_ fun _ _ z => (show False from z).elim⟩
  refine run_ofS (us := [.ref f]) (vs := [.ref f]) lk isG Sg room I1.env0 (bg s1 [.ref f] I1.kIn rfl) (.cons rfl .nil) rfl fun room' => ?_
  refine Exists.elim (gives cdv f c' s1 H1 Q _ (fun W pn xe E_ p1 p2 tk hW => ⟨?_⟩) B.code (told H1 B.ext B.tabs)) fun tr z => ⟨tr, z.1.nox, z.2⟩
  rintro pinsZ sZ σZ HZ QZ IZ ⟨is, isC, ht⟩
  refine wpAny_Call_Name_kw (thn ((pe_var (pos := p1) (i := 0) at0 vis hd hcd).run pinsZ sZ σZ HZ (fun v G => v = .ref f ∧ G = HZ) IZ ⟨_, is, rfl, rfl⟩) ?_)
  rintro u S ⟨v, G, J, ru, isV, isG⟩
  rw [isG] at J
  rw [isV] at ru
  obtain rfl : u = Value.ref f := ru
  have un : Un (frs X.stack) [] H1 HZ s1.heap S.heap := J.base
  have runs := lam_runs (X := X) (E := E_) (Q := QZ) I1 B L here r0 (fun G => bind _ _ _ _ _ _ _ _ G) (fun A outer s H => hb A outer s H E_ f c') room' J.env0 J.nolimit un isC ht
  refine PySem.W.callWith_F0 ⟨_, _, _, _, un.keep f _ B.fn B.off.1.1 B.off.1.2 (fun m => nomatch m)⟩ (calls_of (X := (cxOf C8.CX0 X.prog X.w X.K X.mg X.base N x (defScope st) g cdv X.A X.stack s1 H1 C8.E0).tr pn xe) J ?_ fun e s' => passes_call tk hW pinsZ σZ HZ S e s' J)
  exact runs
end
end Own
set_option Elab.async false
set_option linter.all false
set_option maxRecDepth 100000
set_option maxHeartbeats 4000000
namespace K06
open PySem PySem.Spec PyProof.Rows L2 Own
theorem pi_listK {X : Cx} {K : PySem.W.Frag} {tg e : Expr} {te : TE} (hK : X.K = K) (he : PE X e te) : PI X tg e (iList K te) := hK ▸ pi_list he
/-! ### the law's ear -/
def Rok : Hp → VK → Prop := fun _ _ => False
def heardQ (word : Str) (v : V) (H : Hp) (Q : VK) : Prop := ∀ H' p, Same H H' → H' p = none → Q (.ref p) (upd H' p (.tup [.str word, v]))
def Rer (CB CM : Addr) : Value → Option Addr → Addr → Hp → VK → Prop := fun cls d a H Q => ∃ (dd : Addr) (v : V), d = some dd ∧ H dd = some (.xd [("part", v)]) ∧ ((cls = .ref CB ∧ heardQ "name" v H Q) ∨ (cls = .ref CM ∧ heardQ "misfit" v H Q))
theorem five {σ : L2.St} (h : σ.length = 5) : ∃ o0 o1 o2 o3 o4, σ = [o0, o1, o2, o3, o4] := by
  match σ, h with
  | [o0, o1, o2, o3, o4], _ => exact ⟨o0, o1, o2, o3, o4, rfl⟩
theorem heard_ok {X : Cx} {CB CM CS g : Addr} {cdg : Value} {q : Str} (T : Txt X.mg) (xB : ExC X.K CB) (xM : ExC X.K CM) (atB : X.mg "BadName" = some (.ref CB)) (atM : X.mg "Misfit" = some (.ref CM)) (atT : X.mg "TickError" = some (.ref CS)) (noB : PySem.W.findIn X.K (.ref CB) "part" = some none) (noM : PySem.W.findIn X.K (.ref CM) "part" = some none)
    (kBB : PySem.W.kitOne X.K (.ref CB) (.ref CB) = some true) (kBM : PySem.W.kitOne X.K (.ref CB) (.ref CM) = some false) (kMB : PySem.W.kitOne X.K (.ref CM) (.ref CB) = some false) (kMM : PySem.W.kitOne X.K (.ref CM) (.ref CM) = some true) :
    LamX.GivesTo X N__law_heard "_law_heard" (defScope s__law_heard) g cdg (defBody s__law_heard) "ask" q (TTh X.K CS Rok (Rer CB CM)) := by
  refine heard_gives (i := 2) (j := 1) rfl atT (by decide) (fun _ => rfl) (by decide) (by decide) (by decide) (by decide) sc__law_heard.nd rfl rfl rfl rfl (fun _ => rfl) (by decide) (by decide)
    (fun s H => (pss_cons (ps_for PassesOwn.never rfl (pi_listK (K := X.K) (by rfl) (pe_lst (pa_cons (pe_tup (pa_cons pe_str (pa_cons (pe_callB (call_isXK (K := X.K) (by rfl)) (by rfl) T.b_isinstance boot_isinstance (pa_cons (pv 1) (pa_cons (pe_gr atB) pa_nil))) pa_nil))) (pa_cons (pe_tup (pa_cons pe_str (pa_cons (pe_callB (call_isXK (K := X.K) (by rfl)) (by rfl) T.b_isinstance boot_isinstance (pa_cons (pv 1) (pa_cons (pe_gr atM) pa_nil))) pa_nil))) pa_nil)))) (pg_tupK (K := X.K) (n := 2) (by rfl) rfl (pgs_cons (pg_name (i := 3) sc__law_heard.nd rfl (Or.inl rfl)) (pgs_cons (pg_name (i := 4) sc__law_heard.nd rfl (Or.inl rfl)) pgs_nil)))
  (pss_one (ps_if (pt_val (pv 4))
  (pss_one (ps_ret (pe_tup (pa_cons (pv 3) (pa_cons (pe_exfL (K := X.K) (by rfl) (pv 1)) pa_nil)))))
  pss_nil)))
  (pss_one (ps_ret (pe_ifExp (pt_cmpR op_isN (pv 1) pe_non (nomark _)) pe_non (pe_tup (pa_cons pe_str (pa_cons pe_non pa_nil)))))))) (fun σ H Q len e h => h.elim) (fun σ H Q cls d b len e hb h => ?_)
  obtain ⟨o0, o1, o2, o3, o4, rfl⟩ := five len
  have e : o1 = some (V.ref b) := Option.some.inj e
  subst e
  obtain ⟨dd, v, rfl, hd, h⟩ := h
  rcases h with ⟨rfl, h⟩ | ⟨rfl, h⟩
  · have ea : ExAt H b CB dd [("part", v)] := ⟨.inr hb, .inr hd⟩
    refine ⟨_, rfl, b, CB, dd, _, _, _, true, rfl, xB, ea, .own _, kBB, by show 2 ≤ sizeLine; decide, fun t1 ht1 => ?_⟩
    have s1 := same_new (o := HO.tup [V.str "name", V.bl true]) ht1
    have h1 : upd H t1 (HO.tup [V.str "name", V.bl true]) t1 = some (.tup [V.str "name", V.bl true]) := upd_same
    generalize upd H t1 (HO.tup [V.str "name", V.bl true]) = H1 at s1 h1 ⊢
    refine ⟨_, rfl, b, CB, dd, _, _, _, false, rfl, xB, ea.mono s1, .own _, kBM, by show 2 ≤ sizeLine; decide, fun t2 ht2 => ?_⟩
    have s2 := same_new (o := HO.tup [V.str "misfit", V.bl false]) ht2
    have h12 := s2 _ _ h1
    generalize upd H1 t2 (HO.tup [V.str "misfit", V.bl false]) = H2 at s2 h12 ⊢
    refine ⟨by show 2 ≤ sizeLine; decide, fun l hl => ?_⟩
    have s3 := (s1.trans s2).trans (same_new (o := HO.lst [V.ref t1, V.ref t2]) hl)
    have h13 := (same_new (o := HO.lst [V.ref t1, V.ref t2]) hl) _ _ h12
    have hll : upd H2 l (HO.lst [V.ref t1, V.ref t2]) l = some (.lst [V.ref t1, V.ref t2]) := upd_same
    generalize upd H2 l (HO.lst [V.ref t1, V.ref t2]) = H3 at s3 h13 hll ⊢
    refine ⟨l, rfl, ⟨_, SqL.of hll⟩, ?_⟩
    refine for_list (K := X.K) (a := l) (xs := [V.ref t1, V.ref t2]) (fun i σ' H' => i = 0 ∧ σ' = [o0, some (.ref b), o2, o3, o4] ∧ H' = H3) ⟨rfl, rfl, rfl⟩ (fun i σ' H' _ p => by rw [p.2.2]; exact SqL.of hll) (fun i x σ' H' hx p => ?_) (fun σ' H' p => by have := p.1; cases this)
    obtain ⟨rfl, rfl, rfl⟩ := p
    cases hx
    refine ⟨t1, _, rfl, SqT.of h13, rfl, _, _, rfl, _, _, rfl, rfl, ?_⟩
    refine ⟨_, rfl, true, rfl, iteT ?_⟩
    exact ⟨_, rfl, _, rfl, b, CB, dd, _, v, rfl, xB, noB, ea.mono s3, rfl, by show 2 ≤ sizeLine; decide, fun p hp => h _ p s3 hp⟩
  · have ea : ExAt H b CM dd [("part", v)] := ⟨.inr hb, .inr hd⟩
    refine ⟨_, rfl, b, CM, dd, _, _, _, false, rfl, xM, ea, .own _, kMB, by show 2 ≤ sizeLine; decide, fun t1 ht1 => ?_⟩
    have s1 := same_new (o := HO.tup [V.str "name", V.bl false]) ht1
    have h1 : upd H t1 (HO.tup [V.str "name", V.bl false]) t1 = some (.tup [V.str "name", V.bl false]) := upd_same
    generalize upd H t1 (HO.tup [V.str "name", V.bl false]) = H1 at s1 h1 ⊢
    refine ⟨_, rfl, b, CM, dd, _, _, _, true, rfl, xM, ea.mono s1, .own _, kMM, by show 2 ≤ sizeLine; decide, fun t2 ht2 => ?_⟩
    have s2 := same_new (o := HO.tup [V.str "misfit", V.bl true]) ht2
    have h12 := s2 _ _ h1
    have h22 : upd H1 t2 (HO.tup [V.str "misfit", V.bl true]) t2 = some (.tup [V.str "misfit", V.bl true]) := upd_same
    generalize upd H1 t2 (HO.tup [V.str "misfit", V.bl true]) = H2 at s2 h12 h22 ⊢
    refine ⟨by show 2 ≤ sizeLine; decide, fun l hl => ?_⟩
    have sl := same_new (o := HO.lst [V.ref t1, V.ref t2]) hl
    have s3 := (s1.trans s2).trans sl
    have h13 := sl _ _ h12
    have h23 := sl _ _ h22
    have hll : upd H2 l (HO.lst [V.ref t1, V.ref t2]) l = some (.lst [V.ref t1, V.ref t2]) := upd_same
    generalize upd H2 l (HO.lst [V.ref t1, V.ref t2]) = H3 at s3 h13 h23 hll ⊢
    refine ⟨l, rfl, ⟨_, SqL.of hll⟩, ?_⟩
    refine for_list (K := X.K) (a := l) (xs := [V.ref t1, V.ref t2]) (fun i σ' H' => i ≤ 1 ∧ (∃ o3 o4, σ' = [o0, some (.ref b), o2, o3, o4]) ∧ H' = H3) ⟨by omega, ⟨_, _, rfl⟩, rfl⟩ (fun i σ' H' _ p => by rw [p.2.2]; exact SqL.of hll) (fun i x σ' H' hx p => ?_) (fun σ' H' p => absurd p.1 (by show ¬ 2 ≤ 1; decide))
    obtain ⟨i1, ⟨o3, o4, rfl⟩, rfl⟩ := p
    rcases (show i = 0 ∨ i = 1 by omega) with rfl | rfl
    · cases hx
      refine ⟨t1, _, rfl, SqT.of h13, rfl, _, _, rfl, _, _, rfl, rfl, ?_⟩
      refine ⟨_, rfl, false, rfl, iteF ?_⟩
      exact ⟨by omega, ⟨_, _, rfl⟩, rfl⟩
    · cases hx
      refine ⟨t2, _, rfl, SqT.of h23, rfl, _, _, rfl, _, _, rfl, rfl, ?_⟩
      refine ⟨_, rfl, true, rfl, iteT ?_⟩
      exact ⟨_, rfl, _, rfl, b, CM, dd, _, v, rfl, xM, noM, ea.mono s3, rfl, by show 2 ≤ sizeLine; decide, fun p hp => h _ p s3 hp⟩
end K06
set_option Elab.async false
set_option linter.all false
set_option maxRecDepth 100000
set_option maxHeartbeats 4000000
namespace K06
open PySem PySem.Spec PyProof.Rows L2 Own LamX
section
variable {P : Program} {w : World} {K : PySem.W.Frag} {mg : Str → Option Value} {base : Heap} {k : Nat} {f : Addr} {fd : FuncData} {ps : List Str} {sp : Sp}
/-- a def by its body, which knows that nothing guards, and its code -/
theorem okG_code {x qual : Str} {st : Stmt} {N : List Str} (F : Fun K x qual st f fd) (S : FnScope N ps (defScope st)) (len : ∀ vs H Q E, sp vs H Q E → vs.length = ps.length)
    (body : ∀ (cdv : Value) (_ : fd.code = cdv) (A : Around) (outer : List Env) (s : Shared) (H : Hp) (vs : List V) (Q : VK) (E : XK), Room k (A.deeper (envOfC qual (defScope st) s.heap.objs.size f cdv)) →
      A.guards = some [] → sp vs H Q E → ∃ t, PSs (cxOf CX0 P w K mg base N qual (defScope st) f cdv A outer s H E).nox (defBody st) t ∧ t { nx := fun _ H' => Q .non H', rt := Q } (start N vs) H) :
    FnG P w K mg base CX0 (k + 1) f fd ps sp := by
  obtain ⟨oc, od, kV, doc, pm, an, cdv, ct, osl, rfl, lk, hcd⟩ := F.ex
  refine ⟨len, ?_⟩
  intro A outer s H args us vs Q E room gd e0 bnd rel want
  have size := len vs H Q E want
  have inK : K.In s.heap := e0.mod.kin.keeps fun b o z => And.left (e0.bs b o z)
  have room0 : s.heap.NoLimit := e0.mod.nolimit.keeps fun b o z => And.left (e0.bs b o z)
  have slots : ∀ y ∈ ps.zip us, (defScope st).names.lookup y.1 = some .local ∨ ((defScope st).names.lookup y.1 = some .cell ∧
      ((cellsFrom (s.heap.objs.size + 1) (defScope st).names []).lookup y.1).isSome = true) := by
    rintro ⟨n, v⟩ z
    refine (S.par n (List.of_mem_zip z).1).imp id fun c => ⟨c, ?_⟩
    exact PySem.W.cellsFrom_some _ _ _ (.inl c)
  refine codeAny_call_function room.depth (inK _ _ lk) rfl S.co S.gen rfl (PySem.W.codeRec_of inK hcd) (bnd _ _ _ _ ?_)
  refine wpAny_newFunctionEnv_cells S.kind slots ?_
  rintro env rfl s1 x
  refine ⟨room0.keeps x.toInCall.keep, codeAny_func ?_⟩
  obtain ⟨t, walk, say⟩ := body cdv rfl A outer s H vs Q E (room.deeper _) gd want
  have I := inv_start (CX := CX0) (E := E) S room.hd e0 size rel x
  refine wpAny_mono (walk.nox.run [] s1 (start N vs) H _ I say) (fun r s' z => ?_) (fun _ _ z => z)
  have last : ∀ {τ : L2.St} {G : Hp} {v : V} {u : Value}, Inv (cxOf CX0 P w K mg base N qual (defScope st) f cdv A outer s H E) [] τ G s' →
      RelV v u → Q v G → CE outer P w H s Q u s' := fun J r q => ⟨_, _, J.os, J.bare, J.base, J.hok, r, q⟩
  match r, z with
  | .ret u, z =>
    obtain ⟨v, τ, G, J, r1, q⟩ := z
    exact last J r1 q
  | .next, z =>
    obtain ⟨τ, G, J, q⟩ := z
    exact last (v := .non) (u := .none) J rfl q
  | .brk, z =>
    obtain ⟨τ, G, J, q⟩ := z
    exact q.elim
  | .cont, z =>
    obtain ⟨τ, G, J, q⟩ := z
    exact q.elim
end
/-! ### what the law keeps -/
def TL (PT : Addr) : List (Addr × Str) := [(PT, ("_law_refused_right" : Str) ++ ".<locals>." ++ "<lambda>")]
theorem tl_hu {PT : Addr} : ∀ p ∈ TL PT, p.1 = PT → p.2 = ("_law_refused_right" : Str) ++ ".<locals>." ++ "<lambda>" := fun p hp _ => by
  rw [List.mem_singleton.mp hp]
structure LS (p q : Addr) (cs : List Int) (PT : Addr) (n : Nat) (H : Hp) : Prop where
  sv : Sv p q cs n H
  tb : Tabs (TL PT) H
section
variable {p q PT : Addr} {cs : List Int} {n m : Nat} {H H' : Hp}
theorem LS.same (h : LS p q cs PT n H) (s : Same H H') : LS p q cs PT n H' := ⟨h.sv.same s, h.tb.ext fun b o e => s b o e⟩
theorem LS.mono (h : LS p q cs PT n H) (le : n ≤ m) : LS p q cs PT m H := ⟨h.sv.mono le, h.tb⟩
theorem LS.but (h : LS p q cs PT n H) (b : But p H H') (s : Sv p q cs m H') : LS p q cs PT m H' := by
  refine ⟨s, fun x hx => ?_⟩
  obtain ⟨ps, h1, h2, h3⟩ := h.tb x hx
  obtain ⟨_, _, hp, _⟩ := h.sv
  refine ⟨ps, b _ _ (fun z => ?_) h1, h2, fun pos cv hc => ?_⟩
  · rw [z, hp] at h1
    cases h1
  · obtain ⟨c, e1, e2⟩ := h3 pos cv hc
    refine ⟨c, e1, b _ _ (fun z => ?_) e2⟩
    rw [z, hp] at e2
    unfold CodeO at e2
    cases e2
theorem LS.ext (h : LS p q cs PT n H) (e : ExtN H H') (t : Tabs (TL PT) H') : LS p q cs PT n H' := by
  obtain ⟨a, r, h1, h2, h3⟩ := h.sv
  exact ⟨⟨a, r, e _ _ h1 (fun ps z => by cases z), e _ _ h2 (fun ps z => by cases z), h3⟩, t⟩
end
/-- no name, of few kinds -/
structure OddV (p : Addr) (H : Hp) (v : V) : Prop where
  an : An H v
  bad : nameB v = false
  nr : v ≠ .ref p
theorem OddV.but {p : Addr} {H H' : Hp} {v : V} (h : OddV p H v) (b : But p H H') : OddV p H' v := by
  obtain ⟨an, bad, nr⟩ := h
  refine ⟨?_, bad, nr⟩
  cases an with
  | non => exact .non
  | bl b => exact .bl b
  | int i => exact .int i
  | str h => exact .str h
  | lst h => exact .lst (b _ _ (fun z => nr (by rw [z])) h)
  | tup h => exact .tup (b _ _ (fun z => nr (by rw [z])) h)
  | dK h => exact .dK (b _ _ (fun z => nr (by rw [z])) h)
/-- all but p and the tables stay -/
def Keep (p : Addr) (H H' : Hp) : Prop := ∀ b o, b ≠ p → (∀ ps, o ≠ .tbl ps) → H b = some o → H' b = some o
theorem Keep.but {p : Addr} {H H' : Hp} (b : But p H H') : Keep p H H' := fun c o n _ h => b c o n h
theorem Keep.ext {p : Addr} {H H' : Hp} (b : ExtN H H') : Keep p H H' := fun c o _ n h => b c o h n
theorem Keep.same {p : Addr} {H H' : Hp} (b : Same H H') : Keep p H H' := fun c o _ _ h => b c o h
/-- what is no list of names -/
structure BadV (p : Addr) (H : Hp) (v : V) : Prop where
  an : An2 H v
  bad : namesB H v = false
  nr : v ≠ .ref p
  ni : ∀ x ∈ items H v, x ≠ .ref p
theorem An.keep {p : Addr} {H H' : Hp} {v : V} (h : An H v) (nr : v ≠ .ref p) (b : Keep p H H') : An H' v ∧ items H' v = items H v ∧ rowB H' v 0 200 = rowB H v 0 200 := by
  cases h with
  | non => exact ⟨.non, rfl, rfl⟩
  | bl b => exact ⟨.bl b, rfl, rfl⟩
  | int i => exact ⟨.int i, rfl, rfl⟩
  | str h => exact ⟨.str h, rfl, rfl⟩
  | lst h =>
    have h2 := b _ _ (fun z => nr (by rw [z])) (fun ps z => by cases z) h
    exact ⟨.lst h2, by simp [items, h, h2], by simp [rowB, h, h2]⟩
  | tup h =>
    have h2 := b _ _ (fun z => nr (by rw [z])) (fun ps z => by cases z) h
    exact ⟨.tup h2, by simp [items, h, h2], by simp [rowB, h, h2]⟩
  | dK h =>
    have h2 := b _ _ (fun z => nr (by rw [z])) (fun ps z => by cases z) h
    exact ⟨.dK h2, by simp [items, h, h2], by simp [rowB, h, h2]⟩
theorem BadV.keep {p : Addr} {H H' : Hp} {v : V} (h : BadV p H v) (b : Keep p H H') : BadV p H' v := by
  obtain ⟨a1, a2, a3⟩ := An.keep h.an.an h.nr b
  refine ⟨⟨a1, fun x hx => ?_⟩, ?_, h.nr, by rw [a2]; exact h.ni⟩
  · rw [a2] at hx
    exact (An.keep (h.an.it x hx) (h.ni x hx) b).1
  · have := h.bad
    unfold namesB at this ⊢
    rw [a2, a3]
    exact this
theorem bad_odd {p t : Addr} {H : Hp} {ys1 ys2 : List Str} {x : V} (h : H t = some (.lst (ys1.map V.str ++ [x] ++ ys2.map V.str))) (o : OddV p H x) (tp : t ≠ p) (g1 : ∀ z ∈ ys1, z.length ≤ 60) (g2 : ∀ z ∈ ys2, z.length ≤ 60) : BadV p H (.ref t) := by
  have e : items H (.ref t) = ys1.map V.str ++ [x] ++ ys2.map V.str := by simp [items, h]
  have mem : ∀ y ∈ items H (.ref t), (∃ z : Str, y = .str z ∧ z.length ≤ 60) ∨ y = x := by
    intro y hy
    rw [e] at hy
    rcases List.mem_append.mp hy with hy | hy
    · rcases List.mem_append.mp hy with hy | hy
      · obtain ⟨z, hz, rfl⟩ := List.mem_map.mp hy
        exact .inl ⟨z, rfl, g1 z hz⟩
      · exact .inr (List.mem_singleton.mp hy)
    · obtain ⟨z, hz, rfl⟩ := List.mem_map.mp hy
      exact .inl ⟨z, rfl, g2 z hz⟩
  refine ⟨⟨.lst h, fun y hy => ?_⟩, ?_, fun z => tp (by injection z), fun y hy => ?_⟩
  · rcases mem y hy with ⟨z, rfl, hz⟩ | rfl
    · exact .str (Nat.le_trans hz (by decide))
    · exact o.an
  · unfold namesB
    rw [e, List.all_append, List.all_append, List.all_cons, o.bad]
    simp
  · rcases mem y hy with ⟨z, rfl, hz⟩ | rfl
    · intro z; cases z
    · exact o.nr
theorem bad_long {p t : Addr} {H : Hp} {ys : List V} (h : H t = some (.lst ys)) (tp : t ≠ p) (lo : 200 < ys.length) (g : ∀ y ∈ ys, ∃ z : Str, y = .str z ∧ z.length ≤ 60) : BadV p H (.ref t) := by
  have e : items H (.ref t) = ys := by simp [items, h]
  refine ⟨⟨.lst h, fun y hy => ?_⟩, ?_, fun z => tp (by injection z), fun y hy => ?_⟩
  · rw [e] at hy
    obtain ⟨z, rfl, hz⟩ := g y hy
    exact .str (Nat.le_trans hz (by decide))
  · have : rowB H (.ref t) 0 200 = false := by
      simp only [rowB, h]
      rw [Bool.and_eq_false_iff]
      right
      rw [decide_eq_false_iff_not]
      omega
    unfold namesB
    rw [this]
    rfl
  · rw [e] at hy
    obtain ⟨z, rfl, hz⟩ := g y hy
    intro z; cases z
theorem sg_dec {z : Str} (h : (z.cps.toList.all fun c => c == 48 || c == 49) = true) : Sg z := fun c hc => by
  have := List.all_eq_true.mp h c hc
  simpa using this
theorem bad_plain {p : Addr} {H : Hp} {v : V} (a : An H v) (r : rowB H v 0 200 = false) (it : items H v = []) (nr : v ≠ .ref p) : BadV p H v :=
  ⟨⟨a, fun x hx => by rw [it] at hx; cases hx⟩, by unfold namesB; rw [r]; rfl, nr, fun x hx => by rw [it] at hx; cases hx⟩
/-- what is no text of signs -/
structure OddT (p : Addr) (H : Hp) (v : V) : Prop where
  an : An H v
  bad : sigB v 0 2000 = false
  nr : v ≠ .ref p
theorem OddT.keep {p : Addr} {H H' : Hp} {v : V} (h : OddT p H v) (b : Keep p H H') : OddT p H' v := ⟨(An.keep h.an h.nr b).1, h.bad, h.nr⟩
theorem rcat {σ : L2.St} {H : Hp} {i : Nat} {a : Addr} {xs : List V} {te : TE} {Q : VK} (e : σ[i]? = some (some (.ref a))) (ha : H a = some (.lst xs)) (few : xs.length ≤ 100) {ys : List V} (fy : ys.length ≤ 100)
    (ht : ∀ R : VK, (∀ t H1, H t = none → Same H H1 → H1 t = some (.lst ys) → R (.ref t) H1) → te σ H R) (q : ∀ t H1, Same H H1 → H t = none → H1 t = some (.lst (xs ++ ys)) → Q (.ref t) H1) : tOp rCat (tVar i) te σ H Q := by
  refine ⟨_, e, ht _ fun t H1 ft s1 h1 => ⟨a, t, _, _, rfl, rfl, s1 _ _ ha, h1, Nat.le_trans (m := 200) (by omega) (by decide), fun u hu => ?_⟩⟩
  refine q u _ (s1.trans (same_new hu)) ?_ upd_same
  cases e : H u with
  | none => rfl
  | some o =>
    have := s1 _ _ e
    rw [hu] at this
    cases this
theorem none_list {p q : Addr} {cs : List Int} {n : Nat} {a : Addr} {zs : List Str} {σ : L2.St} {H : Hp} {Q : List V → Hp → Prop} (e1 : σ[1]? = some (some (.ref a))) (ha : H a = some (.lst (zs.map V.str))) (few : zs.length ≤ 40) (good : Good zs)
    (h : ∀ (l : Addr) (xs : List V) (H' : Hp), Same H H' → (H' l = some (.lst xs) ∧ l ≠ p) → xs.length = 6 → (∀ x ∈ xs, BadV p H' x) → Q [.ref l] H') (sv : Sv p q cs n H) :
    tCons (tLst (tCons (tC V.non) (tCons (tC (V.str "01")) (tCons (tC (V.int 5)) (tCons (tOp rCat (tVar 1) (tLst (tCons (tC (V.str "")) tNil))) (tCons (tOp rCat (tVar 1) (tLst (tCons (tC (V.str "2")) tNil)))
      (tCons (tLst (tCons (tOp (fun x y H Q => ∃ z i, x = V.str z ∧ y = V.int i ∧ z.length ≤ 1 ∧ 0 ≤ i ∧ i ≤ 100000 ∧ Q (V.str (Txt.mul z i)) H) (tC (V.str "0")) (tC (V.int 61))) tNil)) tNil))))))) tNil σ H Q := by
  have few' : (zs.map V.str).length ≤ 100 := by rw [List.length_map]; omega
  have oddS : ∀ {H' : Hp} {z : Str}, nameB (.str z) = false → z.length ≤ 100000 → OddV p H' (.str z) := fun {H' z} h1 h2 => ⟨.str h2, h1, fun z => by cases z⟩
  refine rcat (ys := [V.str ""]) e1 ha few' (by decide) (fun R r => ⟨by show 1 ≤ sizeLine; decide, fun t ht => r t _ ht (same_new ht) upd_same⟩) fun t4 H4 s4 f4 h4 => ?_
  refine rcat (ys := [V.str "2"]) e1 (s4 _ _ ha) few' (by decide) (fun R r => ⟨by show 1 ≤ sizeLine; decide, fun t ht => r t _ ht (same_new ht) upd_same⟩) fun t5 H5 s5 f5 h5 => ?_
  refine ⟨"0", 61, rfl, rfl, by decide +kernel, by decide, by decide, by show 1 ≤ sizeLine; decide, fun t6 h6' => ?_⟩
  have s6 := same_new (o := HO.lst [V.str (Txt.mul "0" 61)]) h6'
  have h6 : upd H5 t6 (HO.lst [V.str (Txt.mul "0" 61)]) t6 = some (.lst [V.str (Txt.mul "0" 61)]) := upd_same
  have p4 : t4 ≠ p := sv_ne sv f4
  have p5 : t5 ≠ p := sv_ne (sv.same s4) f5
  have p6 : t6 ≠ p := sv_ne ((sv.same s4).same s5) h6'
  have b4 : BadV p H4 (.ref t4) := bad_odd (ys1 := zs) (ys2 := []) (x := V.str "") (by rw [h4]; simp) (oddS (by decide +kernel) (by decide +kernel)) p4 good.hi (fun z hz => (nomatch hz))
  have b5 : BadV p H5 (.ref t5) := bad_odd (ys1 := zs) (ys2 := []) (x := V.str "2") (by rw [h5]; simp) (oddS (by decide +kernel) (by decide +kernel)) p5 good.hi (fun z hz => (nomatch hz))
  have b6 := bad_odd (ys1 := []) (ys2 := []) (p := p) (x := V.str (Txt.mul "0" 61)) h6 (oddS (by decide +kernel) (by decide +kernel)) p6 (fun z hz => (nomatch hz)) (fun z hz => (nomatch hz))
  have b5' := b5.keep (Keep.same s6)
  have b4' := b4.keep (Keep.same (s5.trans s6))
  generalize upd H5 t6 (HO.lst [V.str (Txt.mul "0" 61)]) = H6 at s6 b6 b5' b4' ⊢
  refine ⟨by show 6 ≤ sizeLine; decide, fun l hl => ?_⟩
  have s7 := same_new (o := HO.lst [V.non, V.str "01", V.int 5, V.ref t4, V.ref t5, V.ref t6]) hl
  refine h l _ _ (((s4.trans s5).trans s6).trans s7) ⟨upd_same, sv_ne (((sv.same s4).same s5).same s6) hl⟩ rfl ?_
  simp only [List.forall_mem_cons]
  refine ⟨bad_plain .non rfl rfl (fun z => by cases z), bad_plain (.str (by decide +kernel)) rfl rfl (fun z => by cases z), bad_plain (.int _) rfl rfl (fun z => by cases z), b4'.keep (Keep.same s7), b5'.keep (Keep.same s7), b6.keep (Keep.same s7), fun x hx => (nomatch hx)⟩
theorem odd_list {p q : Addr} {cs : List Int} {n : Nat} {σ : L2.St} {H : Hp} {Q : List V → Hp → Prop}
    (h : ∀ (l : Addr) (xs : List V) (H' : Hp), Same H H' → (H' l = some (.lst xs) ∧ l ≠ p) → xs.length = 8 → (∀ x ∈ xs, OddT p H' x) → Q [.ref l] H') (sv : Sv p q cs n H) :
    tCons (tLst (tCons (tC V.non) (tCons (tC (V.int 1)) (tCons (tC (V.str "2")) (tCons (tC (V.str "0 1")) (tCons (tOp (fun x y H Q => ∃ z i, x = V.str z ∧ y = V.int i ∧ z.length ≤ 1 ∧ 0 ≤ i ∧ i ≤ 100000 ∧ Q (V.str (Txt.mul z i)) H) (tC (V.str "0")) (tC (V.int 2001)))
      (tCons (tLst (tCons (tC (V.str "0")) tNil)) (tCons (tC (V.bl true)) (tCons (tC (V.str "01\n")) tNil))))))))) tNil σ H Q := by
  refine ⟨"0", 2001, rfl, rfl, by decide +kernel, by decide, by decide, ?_⟩
  refine ⟨by show 1 ≤ sizeLine; decide, fun t ht => ?_⟩
  have s1 := same_new (o := HO.lst [V.str "0"]) ht
  have h1 : upd H t (HO.lst [V.str "0"]) t = some (.lst [V.str "0"]) := upd_same
  have tp : t ≠ p := sv_ne sv ht
  generalize upd H t (HO.lst [V.str "0"]) = H1 at s1 h1 ⊢
  refine ⟨by show 8 ≤ sizeLine; decide, fun l hl => ?_⟩
  have s2 := same_new (o := HO.lst [V.non, V.int 1, V.str "2", V.str "0 1", V.str (Txt.mul "0" 2001), V.ref t, V.bl true, V.str "01\n"]) hl
  refine h l _ _ (s1.trans s2) ⟨upd_same, sv_ne (sv.same s1) hl⟩ rfl ?_
  have h2 := s2 _ _ h1
  simp only [List.forall_mem_cons]
  refine ⟨⟨.non, rfl, fun z => by cases z⟩, ⟨.int _, rfl, fun z => by cases z⟩, ⟨.str (by decide +kernel), by decide +kernel, fun z => by cases z⟩, ⟨.str (by decide +kernel), by decide +kernel, fun z => by cases z⟩, ⟨.str (by decide +kernel), by decide +kernel, fun z => by cases z⟩, ⟨.lst h2, rfl, fun z => tp (by injection z)⟩, ⟨.bl _, rfl, fun z => by cases z⟩, ⟨.str (by decide +kernel), by decide +kernel, fun z => by cases z⟩, fun x hx => (nomatch hx)⟩
abbrev T2 (a b : Str) : HO := .tup [.str a, .str b]
/-- why a cut is refused -/
def Case (H : Hp) (v tv : V) (word w : Str) : Prop := (namesB H v = false ∧ word = "name" ∧ w = "names") ∨ (namesB H v = true ∧ sigB tv 0 2000 = false ∧ word = "name" ∧ w = "text") ∨ (namesB H v = true ∧ sigB tv 0 2000 = true ∧ apB H v = false ∧ word = "misfit" ∧ w = "names")
theorem heard_err {K : PySem.W.Frag} {CB CM CS C : Addr} {word w : Str} {H0 : Hp} {Q : VK} (hC : (C = CB ∧ word = "name") ∨ (C = CM ∧ word = "misfit")) (ex : PySem.W.exmOne K (.ref C) (.ref CS) = some true)
    (q : ∀ H' p, Same H0 H' → H' p = none → Q (.ref p) (upd H' p (.tup [.str word, .str w]))) : eBad C w H0 (fun cls d H' => PySem.W.exmOne K cls (.ref CS) = some true ∧ ∀ a, H' a = none → Rer CB CM cls d a (upd H' a (exv cls d a)) Q) := by
  intro H' d s hd
  refine ⟨ex, fun b hb => ?_⟩
  have bd : d ≠ b := fun z => by
    rw [z, upd_same] at hb
    cases hb
  have sAll := (s.trans (same_new (o := HO.xd [("part", V.str w)]) hd)).trans (same_new (o := exv (.ref C) (some d) b) hb)
  refine ⟨d, .str w, rfl, (upd_ne bd).trans upd_same, ?_⟩
  rcases hC with ⟨rfl, rfl⟩ | ⟨rfl, rfl⟩
  · exact .inl ⟨rfl, fun H2 p s2 hp => q H2 p (sAll.trans s2) hp⟩
  · exact .inr ⟨rfl, fun H2 p s2 hp => q H2 p (sAll.trans s2) hp⟩
theorem heard_cut {K : PySem.W.Frag} {CB CM CS : Addr} {t : TA} {σ : L2.St} {HI : Hp} {tv : V} {word w : Str} {Q : VK} (exB : PySem.W.exmOne K (.ref CB) (.ref CS) = some true) (exM : PySem.W.exmOne K (.ref CM) (.ref CS) = some true)
    (ht : ∀ R : List V → Hp → Prop, (∀ H0 v, Same HI H0 → An2 H0 v → An H0 tv → Case H0 v tv word w → R [v, tv] H0) → t σ HI R) (q : ∀ H' p, Same HI H' → H' p = none → Q (.ref p) (upd H' p (.tup [.str word, .str w]))) :
    TTh K CS Rok (Rer CB CM) (fun E H' Q' => tCallS (spCut CB CM) (fun σ => WE (fun cls d _ H => E cls d H) σ) t σ H' Q') HI Q := by
  refine ht _ fun H0 v s a2 a c => ⟨v, tv, rfl, a2, a, fun z => ?_, fun z1 z2 => ?_, fun z1 z2 z3 => ?_, fun z1 z2 z3 => ?_⟩
  all_goals
    rcases c with ⟨c1, rfl, rfl⟩ | ⟨c1, c2, rfl, rfl⟩ | ⟨c1, c2, c3, rfl, rfl⟩
    all_goals first
      | (exfalso; simp_all; done)
      | exact heard_err (.inl ⟨rfl, rfl⟩) exB fun H' p s' hp => q H' p (s.trans s') hp
      | exact heard_err (.inr ⟨rfl, rfl⟩) exM fun H' p s' hp => q H' p (s.trans s') hp
theorem close_facts {H : Hp} {c : Addr} {zs : List Str} (few : zs.length ≤ 40) (good : Good zs) (h : H c = some (.lst (zs.map V.str ++ [V.str "01", V.str "0"]))) : An2 H (.ref c) ∧ namesB H (.ref c) = true ∧ apB H (.ref c) = false := by
  have e : items H (.ref c) = (zs ++ (["01", "0"] : List Str)).map V.str := by simp [items, h]
  have g2 : ∀ z ∈ zs ++ (["01", "0"] : List Str), nameB (.str z) = true ∧ z.length ≤ 60 := by
    intro z hz
    rcases List.mem_append.mp hz with hz | hz
    · exact ⟨(good.sg z hz).name (good.lo z hz) (good.hi z hz), good.hi z hz⟩
    · simp only [List.mem_cons, List.not_mem_nil, or_false] at hz
      rcases hz with rfl | rfl
      · exact ⟨by decide +kernel, by decide +kernel⟩
      · exact ⟨by decide +kernel, by decide +kernel⟩
  refine ⟨⟨.lst h, fun x hx => ?_⟩, ?_, ?_⟩
  · rw [e] at hx
    obtain ⟨z, hz, rfl⟩ := List.mem_map.mp hx
    exact .str (Nat.le_trans (g2 z hz).2 (by decide))
  · unfold namesB
    rw [e, List.all_map, Bool.and_eq_true, List.all_eq_true]
    refine ⟨?_, fun z hz => (g2 z hz).1⟩
    simp only [rowB, h, Bool.and_eq_true, decide_eq_true_eq, List.length_append, List.length_map, List.length_cons, List.length_nil]
    omega
  · cases hq : apB H (.ref c) with
    | false => rfl
    | true =>
      have := apB_iff.mp hq
      unfold sgs at this
      rw [e, List.map_map, List.map_append] at this
      unfold ApartL at this
      rw [List.pairwise_append] at this
      have h2 := this.2.1
      simp only [List.map_cons, List.map_nil, List.pairwise_cons] at h2
      exact absurd (show ([48] : List Nat) <+: [48, 49] from ⟨[49], rfl⟩) (h2.1 _ (List.mem_cons_self)).2
/-- what stays while the law asks -/
structure RS (p q : Addr) (cs : List Int) (PT : Addr) (n : Nat) (H0 H : Hp) : Prop where
  ls : LS p q cs PT n H
  kp : Keep p H0 H
theorem Keep.trans {p : Addr} {H H1 H2 : Hp} (a : Keep p H H1) (b : Keep p H1 H2) : Keep p H H2 := fun c o n1 n2 h => b c o n1 n2 (a c o n1 n2 h)
theorem Keep.mut {p hl : Addr} {H0 H : Hp} {o : HO} (a : Keep p H0 H) (h : H0 hl = none) : Keep p H0 (upd H hl o) := fun c u n1 n2 e => by
  rw [upd_ne (ne_of_none e h)]
  exact a c u n1 n2 e
theorem RS.same {p q : Addr} {cs : List Int} {PT : Addr} {n : Nat} {H0 H H' : Hp} (h : RS p q cs PT n H0 H) (s : Same H H') : RS p q cs PT n H0 H' := ⟨h.ls.same s, h.kp.trans (Keep.same s)⟩
theorem RS.ext {p q : Addr} {cs : List Int} {PT : Addr} {n : Nat} {H0 H H' : Hp} (h : RS p q cs PT n H0 H) (e : ExtN H H') (t : Tabs (TL PT) H') : RS p q cs PT n H0 H' := ⟨h.ls.ext e t, h.kp.trans (Keep.ext e)⟩
theorem RS.mut {p q : Addr} {cs : List Int} {PT : Addr} {n m : Nat} {H0 H : Hp} {hl : Addr} {xs : List V} {o : HO} (h : RS p q cs PT n H0 H) (hh : H hl = some (.lst xs)) (h0 : H0 hl = none) (s0 : Sv p q cs m H0) : RS p q cs PT n H0 (upd H hl o) := by
  have hp := sv_ne s0 h0
  refine ⟨⟨h.ls.sv.but_upd hp h0 s0, fun x hx => ?_⟩, h.kp.mut h0⟩
  obtain ⟨ps, h1, h2, h3⟩ := h.ls.tb x hx
  refine ⟨ps, (upd_ne (fun z => ?_)).trans h1, h2, fun pos cv hc => ?_⟩
  · rw [z, hh] at h1
    cases h1
  · obtain ⟨c, e1, e2⟩ := h3 pos cv hc
    refine ⟨c, e1, (upd_ne (fun z => ?_)).trans e2⟩
    rw [z, hh] at e2
    unfold CodeO at e2
    cases e2
def D2 (a b : Str) : PyData := .tuple [.str a, .str b]
def Dall : PyData := .list [D2 "name" "names", D2 "name" "names", D2 "name" "text", D2 "misfit" "names", D2 "name" "names"]
theorem dp2 {K : PySem.W.Frag} {H : Hp} {t : Addr} {a b : Str} (h : H t = some (T2 a b)) : Dp K H (.ref t) (D2 a b) := .tup (SqT.of h) (.cons (.str _) (.cons (.str _) .nil))
theorem ext_tup {H H' : Hp} {t : Addr} {xs : List V} (e : ExtN H H') (h : H t = some (.tup xs)) : H' t = some (.tup xs) := e _ _ h (fun ps z => by cases z)
theorem ext_lst {H H' : Hp} {t : Addr} {xs : List V} (e : ExtN H H') (h : H t = some (.lst xs)) : H' t = some (.lst xs) := e _ _ h (fun ps z => by cases z)
theorem mut_tup {H : Hp} {t hl : Addr} {xs ys : List V} {o : HO} (h : H t = some (.tup xs)) (hh : H hl = some (.lst ys)) : upd H hl o t = some (.tup xs) := (upd_ne fun z => by rw [z, hh] at h; cases h).trans h
def spRefused (PT : Addr) : Sp := fun vs H Q _ => ∃ (p q : Addr) (cs : List Int) (n : Nat) (a : Addr) (zs : List Str), vs = [.ref p, .ref a] ∧ H a = some (.lst (zs.map V.str)) ∧ a ≠ p ∧ zs.length ≤ 40 ∧ Good zs ∧ n ≤ 90000 ∧ cs.length ≤ 1000 ∧ LS p q cs PT n H ∧ ∀ H', Keep p H H' → LS p q cs PT (n + 5) H' → Q (.bl true) H'
section
variable {P : Program} {w : World} {K : PySem.W.Frag} {mg : Str → Option Value} {base : Heap}
theorem ok_refused {CB CM CS PT cC g f : Addr} {fd fdg : FuncData} (F : Fun K "_law_refused_right" "_law_refused_right" s__law_refused_right f fd) (hcode0 : fd.code = .ref cC) (TB : TabB base mg cC PT) (T : Txt mg)
    (FH : Fun K "_law_heard" "_law_heard" s__law_heard g fdg) (mH : mg "_law_heard" = some (.ref g)) (kH : PySem.W.keepIn K (.ref g) = true) (bH0 : Binds K fdg ["ask"] [])
    (xB : ExC K CB) (xM : ExC K CM) (atB : mg "BadName" = some (.ref CB)) (atM : mg "Misfit" = some (.ref CM)) (atT : mg "TickError" = some (.ref CS)) (noB : PySem.W.findIn K (.ref CB) "part" = some none) (noM : PySem.W.findIn K (.ref CM) "part" = some none)
    (kBB : PySem.W.kitOne K (.ref CB) (.ref CB) = some true) (kBM : PySem.W.kitOne K (.ref CB) (.ref CM) = some false) (kMB : PySem.W.kitOne K (.ref CM) (.ref CB) = some false) (kMM : PySem.W.kitOne K (.ref CM) (.ref CM) = some true)
    (exB : PySem.W.exmOne K (.ref CB) (.ref CS) = some true) (exM : PySem.W.exmOne K (.ref CM) (.ref CS) = some true)
    (C_cut_text : CalX P w K mg base 6 "cut_text" ["names", "text"] (spCut CB CM)) (C__law_cloth : Cal P w K mg base 2 "_law_cloth" ["tailor", "some"] spOne) : FnG P w K mg base CX0 9 f fd ["tailor", "names"] (spRefused PT) := by
  obtain ⟨ocH, odH, kVH, docH, pmH, anH, cdvH, ctH, oslH, rfl, lkH, cdH⟩ := FH.ex
  have bH : Binds K _ ["ask"] [] := bH0
  refine okG_code F sc__law_refused_right (fun vs H Q E h => ?_) (fun cdv hcd A outer s H vs Q E hr gd h => ?_)
  · obtain ⟨p, q, cs, n, a, zs, rfl, _⟩ := h
    rfl
  · obtain ⟨p, q, cs, n, a, zs, rfl, ha, ap, few, good, hn, hc, ls, k⟩ := h
    have hcode : cdv = .ref cC := hcd.symm.trans hcode0
    subst hcode
    have hcode : (Value.ref cC) = .ref cC := rfl
    have few' : (zs.map V.str).length ≤ 100 := by rw [List.length_map]; omega
    refine ⟨_, (pss_cons (ps_set (i := 4) sc__law_refused_right.nd rfl (Or.inr rfl) (pe_cal C__law_cloth (hr.mono (by decide)) (pa_cons (pv 0) (pa_cons (pe_lst (pa_cons pe_non (pa_cons pe_str (pa_cons pe_int (pa_cons (pe_op op_cat (pv 1) (pe_lst (pa_cons pe_str pa_nil))) (pa_cons (pe_op op_cat (pv 1) (pe_lst (pa_cons pe_str pa_nil))) (pa_cons (pe_lst (pa_cons (pe_op op_mulS pe_str pe_int) pa_nil)) pa_nil))))))) pa_nil))))
  (pss_cons (ps_set (i := 5) sc__law_refused_right.nd rfl (Or.inr rfl) (pe_cal C__law_cloth (hr.mono (by decide)) (pa_cons (pv 0) (pa_cons (pe_lst (pa_cons pe_non (pa_cons pe_int (pa_cons pe_str (pa_cons pe_str (pa_cons (pe_op op_mulS pe_str pe_int) (pa_cons (pe_lst (pa_cons pe_str pa_nil)) (pa_cons pe_bl (pa_cons pe_str pa_nil))))))))) pa_nil))))
  (pss_cons (ps_set (i := 3) sc__law_refused_right.nd rfl (Or.inr rfl) (pe_op op_cat (pv 1) (pe_lst (pa_cons pe_str (pa_cons pe_str pa_nil)))))
  (pss_cons (ps_set (i := 2) sc__law_refused_right.nd rfl (Or.inl rfl) (pe_lst (pa_cons (pe_lamcall (T := TL PT) (TT := TTh K CS Rok (Rer CB CM)) (a := "ask") (c := cC) (P := PT) (k := 6) rfl mH kH lkH cdH bH sc__law_heard rfl (Or.inl rfl) (heard_ok T xB xM atB atM atT noB noM kBB kBM kMB kMM) TB hcode (List.mem_singleton.mpr rfl) tl_hu (hr.mono (by decide)) (lamS_by (by show lamSB (defScope s__law_refused_right) _ = true; decide +kernel)) rfl (fun _ _ _ _ _ => rfl)
    (fun A outer s H E f c' hr2 => (pe_calE (W := fun cls d _ H => E cls d H) C_cut_text (takes_of rfl rfl rfl rfl) hr2 (pa_cons (pv 4) (pa_cons (pv 5) pa_nil))))) pa_nil)))
  (pss_cons (ps_expr (pe_bm PySem.F.plainAttrs_list PySem.F.slot_list_append PySem.F.type_list_append mt_append (pv 2) (pa_cons (pe_lamcall (T := TL PT) (TT := TTh K CS Rok (Rer CB CM)) (a := "ask") (c := cC) (P := PT) (k := 6) rfl mH kH lkH cdH bH sc__law_heard rfl (Or.inl rfl) (heard_ok T xB xM atB atM atT noB noM kBB kBM kMB kMM) TB hcode (List.mem_singleton.mpr rfl) tl_hu (hr.mono (by decide)) (lamS_by (by show lamSB (defScope s__law_refused_right) _ = true; decide +kernel)) rfl (fun _ _ _ _ _ => rfl)
    (fun A outer s H E f c' hr2 => (pe_calE (W := fun cls d _ H => E cls d H) C_cut_text (takes_of rfl rfl rfl rfl) hr2 (pa_cons (pv 4) (pa_cons pe_str pa_nil))))) pa_nil)))
  (pss_cons (ps_expr (pe_bm PySem.F.plainAttrs_list PySem.F.slot_list_append PySem.F.type_list_append mt_append (pv 2) (pa_cons (pe_lamcall (T := TL PT) (TT := TTh K CS Rok (Rer CB CM)) (a := "ask") (c := cC) (P := PT) (k := 6) rfl mH kH lkH cdH bH sc__law_heard rfl (Or.inl rfl) (heard_ok T xB xM atB atM atT noB noM kBB kBM kMB kMM) TB hcode (List.mem_singleton.mpr rfl) tl_hu (hr.mono (by decide)) (lamS_by (by show lamSB (defScope s__law_refused_right) _ = true; decide +kernel)) rfl (fun _ _ _ _ _ => rfl)
    (fun A outer s H E f c' hr2 => (pe_calE (W := fun cls d _ H => E cls d H) C_cut_text (takes_of rfl rfl rfl rfl) hr2 (pa_cons (pv 3) (pa_cons (pv 5) pa_nil))))) pa_nil)))
  (pss_cons (ps_expr (pe_bm PySem.F.plainAttrs_list PySem.F.slot_list_append PySem.F.type_list_append mt_append (pv 2) (pa_cons (pe_lamcall (T := TL PT) (TT := TTh K CS Rok (Rer CB CM)) (a := "ask") (c := cC) (P := PT) (k := 6) rfl mH kH lkH cdH bH sc__law_heard rfl (Or.inl rfl) (heard_ok T xB xM atB atM atT noB noM kBB kBM kMB kMM) TB hcode (List.mem_singleton.mpr rfl) tl_hu (hr.mono (by decide)) (lamS_by (by show lamSB (defScope s__law_refused_right) _ = true; decide +kernel)) rfl (fun _ _ _ _ _ => rfl)
    (fun A outer s H E f c' hr2 => (pe_calE (W := fun cls d _ H => E cls d H) C_cut_text (takes_of rfl rfl rfl rfl) hr2 (pa_cons (pv 3) (pa_cons pe_str pa_nil))))) pa_nil)))
  (pss_cons (ps_expr (pe_bm PySem.F.plainAttrs_list PySem.F.slot_list_append PySem.F.type_list_append mt_append (pv 2) (pa_cons (pe_lamcall (T := TL PT) (TT := TTh K CS Rok (Rer CB CM)) (a := "ask") (c := cC) (P := PT) (k := 6) rfl mH kH lkH cdH bH sc__law_heard rfl (Or.inl rfl) (heard_ok T xB xM atB atM atT noB noM kBB kBM kMB kMM) TB hcode (List.mem_singleton.mpr rfl) tl_hu (hr.mono (by decide)) (lamS_by (by show lamSB (defScope s__law_refused_right) _ = true; decide +kernel)) rfl (fun _ _ _ _ _ => rfl)
    (fun A outer s H E f c' hr2 => (pe_calE (W := fun cls d _ H => E cls d H) C_cut_text (takes_of rfl rfl rfl rfl) hr2 (pa_cons (pe_op op_rep (pe_lst (pa_cons pe_str pa_nil)) pe_int) (pa_cons (pv 5) pa_nil))))) pa_nil)))
  (pss_one (ps_ret (pe_cmpR (op_eqD (hu64 hr)) (pv 2) (pe_op op_cat (pe_op op_rep (pe_lst (pa_cons (pe_tup (pa_cons pe_str (pa_cons pe_str pa_nil))) pa_nil)) pe_int) (pe_lst (pa_cons (pe_tup (pa_cons pe_str (pa_cons pe_str pa_nil))) (pa_cons (pe_tup (pa_cons pe_str (pa_cons pe_str pa_nil))) (pa_cons (pe_tup (pa_cons pe_str (pa_cons pe_str pa_nil))) pa_nil))))) (nomark _)))))))))))), ?_⟩
    refine ⟨_, rfl, none_list rfl ha few good (fun l xs H1 s1 hl len hx => ?_) ls.sv⟩
    refine ⟨p, q, cs, _, l, xs, rfl, hl.1, hl.2, by omega, by omega, by omega, by omega, (ls.same s1).sv, fun nv H2 hv b2 s2 => ?_⟩
    have bad2 := (hx nv hv).keep (Keep.but b2)
    have ls2 := (ls.same s1).but b2 s2
    have ha2 := b2 _ _ ap (s1 _ _ ha)
    have kp2 : Keep p H H2 := (Keep.same s1).trans (Keep.but b2)
    clear hx hv b2 s2 hl len s1 ls ha
    refine ⟨_, rfl, odd_list (fun l xs H3 s3 hl len hx => ?_) ls2.sv⟩
    refine ⟨p, q, cs, _, l, xs, rfl, hl.1, hl.2, by omega, by omega, by omega, by omega, (ls2.same s3).sv, fun ov H4 hv b4 s4 => ?_⟩
    have odd4 := (hx ov hv).keep (Keep.but b4)
    have bad4 := (bad2.keep (Keep.same s3)).keep (Keep.but b4)
    have ls4 := (ls2.same s3).but b4 s4
    have ha4 := b4 _ _ ap (s3 _ _ ha2)
    have kp4 : Keep p H H4 := (kp2.trans (Keep.same s3)).trans (Keep.but b4)
    clear hx hv b4 s4 hl len s3 ls2 ha2 bad2 kp2
    refine rcat (ys := [V.str "01", V.str "0"]) rfl ha4 few' (by decide) (fun R r => ⟨by show 2 ≤ sizeLine; decide, fun t ht => r t _ ht (same_new ht) upd_same⟩) fun c HR s5 f5 cl => ?_
    have odd := odd4.keep (Keep.same s5)
    have bad := bad4.keep (Keep.same s5)
    have lsR := ls4.same s5
    have kpR : Keep p H HR := kp4.trans (Keep.same s5)
    have sR := lsR.sv
    clear odd4 bad4 ls4 ha4 kp4 s5 f5
    have rs0 : RS p q cs PT (n + 2) HR HR := ⟨lsR.mono (by omega), Keep.same (Same.refl _)⟩
    have c1 : ∀ {H0 H1 : Hp}, Keep p HR H0 → Same H0 H1 → An2 H1 nv ∧ An H1 ov ∧ Case H1 nv ov "name" "names" := fun {H0 H1} kp s => by
      have b := (bad.keep kp).keep (Keep.same s)
      have o := (odd.keep kp).keep (Keep.same s)
      exact ⟨b.an, o.an, .inl ⟨b.bad, rfl, rfl⟩⟩
    have c2 : ∀ {H0 H1 : Hp}, Keep p HR H0 → Same H0 H1 → An2 H1 nv ∧ An H1 (.str "01") ∧ Case H1 nv (.str "01") "name" "names" := fun {H0 H1} kp s => by
      have b := (bad.keep kp).keep (Keep.same s)
      exact ⟨b.an, .str (by decide +kernel), .inl ⟨b.bad, rfl, rfl⟩⟩
    have cp : c ≠ p := by
      intro z
      rw [z] at cl
      obtain ⟨_, _, h, _⟩ := sR
      rw [h] at cl
      have := congrArg (fun o => match o with | some (HO.lst xs) => xs.head? | _ => none) cl
      cases zs with
      | nil => cases this
      | cons z zr => cases this
    have clK : ∀ {H0 : Hp}, Keep p HR H0 → H0 c = some (.lst (zs.map V.str ++ [V.str "01", V.str "0"])) := fun {H0} kp => kp _ _ cp (fun ps z => by cases z) cl
    have c3 : ∀ {H0 H1 : Hp}, Keep p HR H0 → Same H0 H1 → An2 H1 (.ref c) ∧ An H1 ov ∧ Case H1 (.ref c) ov "name" "text" := fun {H0 H1} kp s => by
      obtain ⟨f1, f2, f3⟩ := close_facts few good (s _ _ (clK kp))
      have o := (odd.keep kp).keep (Keep.same s)
      exact ⟨f1, o.an, .inr (.inl ⟨f2, o.bad, rfl, rfl⟩)⟩
    have c4 : ∀ {H0 H1 : Hp}, Keep p HR H0 → Same H0 H1 → An2 H1 (.ref c) ∧ An H1 (.str "01") ∧ Case H1 (.ref c) (.str "01") "misfit" "names" := fun {H0 H1} kp s => by
      obtain ⟨f1, f2, f3⟩ := close_facts few good (s _ _ (clK kp))
      exact ⟨f1, .str (by decide +kernel), .inr (.inr ⟨f2, by decide +kernel, f3, rfl, rfl⟩)⟩
    have c5 : ∀ {H0 H1 : Hp} {u : Addr}, Keep p HR H0 → Same H0 H1 → u ≠ p → H1 u = some (.lst (List.replicate (201 : Int).toNat [V.str "01"]).flatten) → An2 H1 (.ref u) ∧ An H1 ov ∧ Case H1 (.ref u) ov "name" "names" := fun {H0 H1 u} kp s up hu => by
      have o := (odd.keep kp).keep (Keep.same s)
      have b := bad_long hu up (by decide +kernel) (fun y hy => by
        obtain ⟨l', hl', hy'⟩ := List.mem_flatten.mp hy
        rw [(List.mem_replicate.mp hl').2] at hy'
        rw [List.mem_singleton.mp hy']
        exact ⟨_, rfl, by decide +kernel⟩)
      exact ⟨b.an, o.an, .inl ⟨b.bad, rfl, rfl⟩⟩
    -- the first
    refine ⟨rs0.ls.tb, fun HI e1 tI => ?_⟩
    have rsI := rs0.ext e1 tI
    refine heard_cut (word := "name") (w := "names") exB exM (fun R r => ⟨_, rfl, _, rfl, r HI nv (Same.refl _) (c1 rsI.kp (Same.refl _)).1 (c1 rsI.kp (Same.refl _)).2.1 (c1 rsI.kp (Same.refl _)).2.2⟩) fun H' t1 s' ht1 => ?_
    have rs1 := (rsI.same s').same (same_new (o := T2 "name" "names") ht1)
    have h1 : upd H' t1 (T2 "name" "names") t1 = some (T2 "name" "names") := upd_same
    generalize upd H' t1 (T2 "name" "names") = H1 at rs1 h1 ⊢
    clear rsI s' ht1 tI e1
    refine ⟨by show 1 ≤ sizeLine; decide, fun hl hl0 => ?_⟩
    have k1 := rs1.kp
    have rs : RS p q cs PT (n + 2) H1 (upd H1 hl (HO.lst [V.ref t1])) := ⟨rs1.ls.same (same_new hl0), Keep.same (same_new hl0)⟩
    have hh : upd H1 hl (HO.lst [V.ref t1]) hl = some (.lst [V.ref t1]) := upd_same
    replace h1 : upd H1 hl (HO.lst [V.ref t1]) t1 = some (T2 "name" "names") := same_new hl0 _ _ h1
    generalize upd H1 hl (HO.lst [V.ref t1]) = H1' at rs hh h1 ⊢
    dsimp only [gName]
    -- number 2
    refine ⟨_, rfl, .inl ⟨rfl, _, SqL.of hh⟩, ?_⟩
    refine ⟨rs.ls.tb, fun HI e1 tI => ?_⟩
    have rsI := rs.ext e1 tI
    have hhI := ext_lst e1 hh
    have g1I := ext_tup e1 h1
    refine heard_cut (word := "name") (w := "names") exB exM (fun R r => ⟨_, rfl, r HI nv (Same.refl _) (c2 (k1.trans rsI.kp) (Same.refl _)).1 (c2 (k1.trans rsI.kp) (Same.refl _)).2.1 (c2 (k1.trans rsI.kp) (Same.refl _)).2.2⟩) fun H' t2 s' ht => ?_
    have sT := s'.trans (same_new (o := T2 "name" "names") ht)
    have rsT := rsI.same sT
    have hhT := sT _ _ hhI
    have g1T := sT _ _ g1I
    have g2T : upd H' t2 (T2 "name" "names") t2 = some (T2 "name" "names") := upd_same
    generalize upd H' t2 (T2 "name" "names") = HT at rsT hhT g1T g2T ⊢
    refine ⟨hl, _, _, rfl, rfl, hhT, by show 1 < sizeLine; decide, ?_⟩
    have rs2 := rsT.mut (o := HO.lst ([V.ref t1] ++ [V.ref t2])) hhT hl0 rs1.ls.sv
    have hh2 : upd HT hl (HO.lst ([V.ref t1] ++ [V.ref t2])) hl = some (.lst ([V.ref t1] ++ [V.ref t2])) := upd_same
    have m1_2 := mut_tup (o := HO.lst ([V.ref t1] ++ [V.ref t2])) g1T hhT
    have m2_2 := mut_tup (o := HO.lst ([V.ref t1] ++ [V.ref t2])) g2T hhT
    generalize upd HT hl (HO.lst ([V.ref t1] ++ [V.ref t2])) = HM2 at rs2 hh2 m1_2 m2_2 ⊢
    replace hh2 : HM2 hl = some (.lst [V.ref t1, V.ref t2]) := hh2
    clear rs hh h1 rsI hhI g1I rsT hhT g1T g2T sT s' ht tI e1
    -- number 3
    refine ⟨_, rfl, .inl ⟨rfl, _, SqL.of hh2⟩, ?_⟩
    refine ⟨rs2.ls.tb, fun HI e1 tI => ?_⟩
    have rsI := rs2.ext e1 tI
    have hhI := ext_lst e1 hh2
    have g1I := ext_tup e1 m1_2
    have g2I := ext_tup e1 m2_2
    refine heard_cut (word := "name") (w := "text") exB exM (fun R r => ⟨_, rfl, _, rfl, r HI (.ref c) (Same.refl _) (c3 (k1.trans rsI.kp) (Same.refl _)).1 (c3 (k1.trans rsI.kp) (Same.refl _)).2.1 (c3 (k1.trans rsI.kp) (Same.refl _)).2.2⟩) fun H' t3 s' ht => ?_
    have sT := s'.trans (same_new (o := T2 "name" "text") ht)
    have rsT := rsI.same sT
    have hhT := sT _ _ hhI
    have g1T := sT _ _ g1I
    have g2T := sT _ _ g2I
    have g3T : upd H' t3 (T2 "name" "text") t3 = some (T2 "name" "text") := upd_same
    generalize upd H' t3 (T2 "name" "text") = HT at rsT hhT g1T g2T g3T ⊢
    refine ⟨hl, _, _, rfl, rfl, hhT, by show 2 < sizeLine; decide, ?_⟩
    have rs3 := rsT.mut (o := HO.lst ([V.ref t1, V.ref t2] ++ [V.ref t3])) hhT hl0 rs1.ls.sv
    have hh3 : upd HT hl (HO.lst ([V.ref t1, V.ref t2] ++ [V.ref t3])) hl = some (.lst ([V.ref t1, V.ref t2] ++ [V.ref t3])) := upd_same
    have m1_3 := mut_tup (o := HO.lst ([V.ref t1, V.ref t2] ++ [V.ref t3])) g1T hhT
    have m2_3 := mut_tup (o := HO.lst ([V.ref t1, V.ref t2] ++ [V.ref t3])) g2T hhT
    have m3_3 := mut_tup (o := HO.lst ([V.ref t1, V.ref t2] ++ [V.ref t3])) g3T hhT
    generalize upd HT hl (HO.lst ([V.ref t1, V.ref t2] ++ [V.ref t3])) = HM3 at rs3 hh3 m1_3 m2_3 m3_3 ⊢
    replace hh3 : HM3 hl = some (.lst [V.ref t1, V.ref t2, V.ref t3]) := hh3
    clear rs2 hh2 m1_2 m2_2 rsI hhI g1I g2I rsT hhT g1T g2T g3T sT s' ht tI e1
    -- number 4
    refine ⟨_, rfl, .inl ⟨rfl, _, SqL.of hh3⟩, ?_⟩
    refine ⟨rs3.ls.tb, fun HI e1 tI => ?_⟩
    have rsI := rs3.ext e1 tI
    have hhI := ext_lst e1 hh3
    have g1I := ext_tup e1 m1_3
    have g2I := ext_tup e1 m2_3
    have g3I := ext_tup e1 m3_3
    refine heard_cut (word := "misfit") (w := "names") exB exM (fun R r => ⟨_, rfl, r HI (.ref c) (Same.refl _) (c4 (k1.trans rsI.kp) (Same.refl _)).1 (c4 (k1.trans rsI.kp) (Same.refl _)).2.1 (c4 (k1.trans rsI.kp) (Same.refl _)).2.2⟩) fun H' t4 s' ht => ?_
    have sT := s'.trans (same_new (o := T2 "misfit" "names") ht)
    have rsT := rsI.same sT
    have hhT := sT _ _ hhI
    have g1T := sT _ _ g1I
    have g2T := sT _ _ g2I
    have g3T := sT _ _ g3I
    have g4T : upd H' t4 (T2 "misfit" "names") t4 = some (T2 "misfit" "names") := upd_same
    generalize upd H' t4 (T2 "misfit" "names") = HT at rsT hhT g1T g2T g3T g4T ⊢
    refine ⟨hl, _, _, rfl, rfl, hhT, by show 3 < sizeLine; decide, ?_⟩
    have rs4 := rsT.mut (o := HO.lst ([V.ref t1, V.ref t2, V.ref t3] ++ [V.ref t4])) hhT hl0 rs1.ls.sv
    have hh4 : upd HT hl (HO.lst ([V.ref t1, V.ref t2, V.ref t3] ++ [V.ref t4])) hl = some (.lst ([V.ref t1, V.ref t2, V.ref t3] ++ [V.ref t4])) := upd_same
    have m1_4 := mut_tup (o := HO.lst ([V.ref t1, V.ref t2, V.ref t3] ++ [V.ref t4])) g1T hhT
    have m2_4 := mut_tup (o := HO.lst ([V.ref t1, V.ref t2, V.ref t3] ++ [V.ref t4])) g2T hhT
    have m3_4 := mut_tup (o := HO.lst ([V.ref t1, V.ref t2, V.ref t3] ++ [V.ref t4])) g3T hhT
    have m4_4 := mut_tup (o := HO.lst ([V.ref t1, V.ref t2, V.ref t3] ++ [V.ref t4])) g4T hhT
    generalize upd HT hl (HO.lst ([V.ref t1, V.ref t2, V.ref t3] ++ [V.ref t4])) = HM4 at rs4 hh4 m1_4 m2_4 m3_4 m4_4 ⊢
    replace hh4 : HM4 hl = some (.lst [V.ref t1, V.ref t2, V.ref t3, V.ref t4]) := hh4
    clear rs3 hh3 m1_3 m2_3 m3_3 rsI hhI g1I g2I g3I rsT hhT g1T g2T g3T g4T sT s' ht tI e1
    -- number 5
    refine ⟨_, rfl, .inl ⟨rfl, _, SqL.of hh4⟩, ?_⟩
    refine ⟨rs4.ls.tb, fun HI e1 tI => ?_⟩
    have rsI := rs4.ext e1 tI
    have hhI := ext_lst e1 hh4
    have g1I := ext_tup e1 m1_4
    have g2I := ext_tup e1 m2_4
    have g3I := ext_tup e1 m3_4
    have g4I := ext_tup e1 m4_4
    refine heard_cut (word := "name") (w := "names") exB exM (fun R r => ⟨by show 1 ≤ sizeLine; decide, fun u1 hu1 => ⟨u1, 201, [V.str "01"], rfl, rfl, upd_same, by decide, by decide, by show 1 * 201 ≤ sizeLine; decide, fun u2 hu2 => ⟨_, rfl, (c5 (k1.trans rsI.kp) (Same.trans (same_new hu1) (same_new hu2)) (sv_ne (rsI.ls.sv.same (same_new hu1)) hu2) upd_same).elim fun x1 x2 => r _ (.ref u2) ((same_new hu1).trans (same_new hu2)) x1 x2.1 x2.2⟩⟩⟩) fun H' t5 s' ht => ?_
    have sT := s'.trans (same_new (o := T2 "name" "names") ht)
    have rsT := rsI.same sT
    have hhT := sT _ _ hhI
    have g1T := sT _ _ g1I
    have g2T := sT _ _ g2I
    have g3T := sT _ _ g3I
    have g4T := sT _ _ g4I
    have g5T : upd H' t5 (T2 "name" "names") t5 = some (T2 "name" "names") := upd_same
    generalize upd H' t5 (T2 "name" "names") = HT at rsT hhT g1T g2T g3T g4T g5T ⊢
    refine ⟨hl, _, _, rfl, rfl, hhT, by show 4 < sizeLine; decide, ?_⟩
    have rs5 := rsT.mut (o := HO.lst ([V.ref t1, V.ref t2, V.ref t3, V.ref t4] ++ [V.ref t5])) hhT hl0 rs1.ls.sv
    have hh5 : upd HT hl (HO.lst ([V.ref t1, V.ref t2, V.ref t3, V.ref t4] ++ [V.ref t5])) hl = some (.lst ([V.ref t1, V.ref t2, V.ref t3, V.ref t4] ++ [V.ref t5])) := upd_same
    have m1_5 := mut_tup (o := HO.lst ([V.ref t1, V.ref t2, V.ref t3, V.ref t4] ++ [V.ref t5])) g1T hhT
    have m2_5 := mut_tup (o := HO.lst ([V.ref t1, V.ref t2, V.ref t3, V.ref t4] ++ [V.ref t5])) g2T hhT
    have m3_5 := mut_tup (o := HO.lst ([V.ref t1, V.ref t2, V.ref t3, V.ref t4] ++ [V.ref t5])) g3T hhT
    have m4_5 := mut_tup (o := HO.lst ([V.ref t1, V.ref t2, V.ref t3, V.ref t4] ++ [V.ref t5])) g4T hhT
    have m5_5 := mut_tup (o := HO.lst ([V.ref t1, V.ref t2, V.ref t3, V.ref t4] ++ [V.ref t5])) g5T hhT
    generalize upd HT hl (HO.lst ([V.ref t1, V.ref t2, V.ref t3, V.ref t4] ++ [V.ref t5])) = HM5 at rs5 hh5 m1_5 m2_5 m3_5 m4_5 m5_5 ⊢
    replace hh5 : HM5 hl = some (.lst [V.ref t1, V.ref t2, V.ref t3, V.ref t4, V.ref t5]) := hh5
    clear rs4 hh4 m1_4 m2_4 m3_4 m4_4 rsI hhI g1I g2I g3I g4I rsT hhT g1T g2T g3T g4T g5T sT s' ht tI e1
    -- the comparison
    refine ⟨_, rfl, ?_⟩
    refine ⟨by show 2 ≤ sizeLine; decide, fun u1 hu1 => ?_⟩
    have y1 := same_new (o := T2 "name" "names") hu1
    have z1 : upd HM5 u1 (T2 "name" "names") u1 = some (T2 "name" "names") := upd_same
    generalize upd HM5 u1 (T2 "name" "names") = B1 at y1 z1 ⊢
    refine ⟨by show 1 ≤ sizeLine; decide, fun u2 hu2 => ?_⟩
    have y2 := same_new (o := HO.lst [V.ref u1]) hu2
    have z2 : upd B1 u2 (HO.lst [V.ref u1]) u2 = some (.lst [V.ref u1]) := upd_same
    generalize upd B1 u2 (HO.lst [V.ref u1]) = B2 at y2 z2 ⊢
    refine ⟨u2, 2, [V.ref u1], rfl, rfl, z2, by decide, by decide, by show 1 * 2 ≤ sizeLine; decide, fun u3 hu3 => ?_⟩
    have y3 := same_new (o := HO.lst (List.replicate (2 : Int).toNat [V.ref u1]).flatten) hu3
    have z3 : upd B2 u3 (HO.lst (List.replicate (2 : Int).toNat [V.ref u1]).flatten) u3 = some (.lst [V.ref u1, V.ref u1]) := upd_same
    generalize upd B2 u3 (HO.lst (List.replicate (2 : Int).toNat [V.ref u1]).flatten) = B3 at y3 z3 ⊢
    refine ⟨by show 2 ≤ sizeLine; decide, fun u4 hu4 => ?_⟩
    have y4 := same_new (o := T2 "name" "text") hu4
    have z4 : upd B3 u4 (T2 "name" "text") u4 = some (T2 "name" "text") := upd_same
    generalize upd B3 u4 (T2 "name" "text") = B4 at y4 z4 ⊢
    refine ⟨by show 2 ≤ sizeLine; decide, fun u5 hu5 => ?_⟩
    have y5 := same_new (o := T2 "misfit" "names") hu5
    have z5 : upd B4 u5 (T2 "misfit" "names") u5 = some (T2 "misfit" "names") := upd_same
    generalize upd B4 u5 (T2 "misfit" "names") = B5 at y5 z5 ⊢
    refine ⟨by show 2 ≤ sizeLine; decide, fun u6 hu6 => ?_⟩
    have y6 := same_new (o := T2 "name" "names") hu6
    have z6 : upd B5 u6 (T2 "name" "names") u6 = some (T2 "name" "names") := upd_same
    generalize upd B5 u6 (T2 "name" "names") = B6 at y6 z6 ⊢
    refine ⟨by show 3 ≤ sizeLine; decide, fun u7 hu7 => ?_⟩
    have y7 := same_new (o := HO.lst [V.ref u4, V.ref u5, V.ref u6]) hu7
    have z7 : upd B6 u7 (HO.lst [V.ref u4, V.ref u5, V.ref u6]) u7 = some (.lst [V.ref u4, V.ref u5, V.ref u6]) := upd_same
    generalize upd B6 u7 (HO.lst [V.ref u4, V.ref u5, V.ref u6]) = B7 at y7 z7 ⊢
    have y37 := (((y4.trans y5).trans y6).trans y7)
    refine ⟨u3, u7, _, _, rfl, rfl, y37 _ _ z3, z7, by show 5 ≤ sizeLine; decide, fun u8 hu8 => ?_⟩
    have y8 := same_new (o := HO.lst ([V.ref u1, V.ref u1] ++ [V.ref u4, V.ref u5, V.ref u6])) hu8
    have z8 : upd B7 u8 (HO.lst ([V.ref u1, V.ref u1] ++ [V.ref u4, V.ref u5, V.ref u6])) u8 = some (.lst [V.ref u1, V.ref u1, V.ref u4, V.ref u5, V.ref u6]) := upd_same
    generalize upd B7 u8 (HO.lst ([V.ref u1, V.ref u1] ++ [V.ref u4, V.ref u5, V.ref u6])) = B8 at y8 z8 ⊢
    have yA := ((((y1.trans y2).trans y3).trans y37).trans y8)
    have x1 := (((y2.trans y3).trans y37).trans y8) _ _ z1
    have x4 := (((y5.trans y6).trans y7).trans y8) _ _ z4
    have x5 := ((y6.trans y7).trans y8) _ _ z5
    have x6 := (y7.trans y8) _ _ z6
    refine ⟨Dall, Dall, .lst (SqL.of (yA _ _ hh5)) (.cons (dp2 (yA _ _ m1_5)) (.cons (dp2 (yA _ _ m2_5)) (.cons (dp2 (yA _ _ m3_5)) (.cons (dp2 (yA _ _ m4_5)) (.cons (dp2 (yA _ _ m5_5)) .nil))))),
      .lst (SqL.of z8) (.cons (dp2 x1) (.cons (dp2 x1) (.cons (dp2 x4) (.cons (dp2 x5) (.cons (dp2 x6) .nil))))), by decide +kernel, by decide +kernel, ?_⟩
    rw [show PyData.eqv Dall Dall = true from by decide +kernel]
    exact k _ ((kpR.trans (k1.trans rs5.kp)).trans (Keep.same yA)) ((rs5.ls.same yA).mono (by omega))
end
end K06
set_option Elab.async false
set_option linter.all false
set_option maxRecDepth 100000
set_option maxHeartbeats 4000000
namespace K06
open PySem PySem.Spec PyProof.Rows L2 Own LamX
theorem joins_len {L : List (List Nat)} (ne : ∀ x ∈ L, x ≠ []) : ∀ (row t : List Nat), Joins L t row → row.length ≤ t.length
  | [], t, _ => Nat.zero_le _
  | i :: row, t, h => by
    obtain ⟨h1, h2⟩ := h
    rw [flat_cons] at h2
    have hi := getD_ne ne (h1 i List.mem_cons_self)
    have := joins_len ne row (flat L row) ⟨fun j hj => h1 j (List.mem_cons_of_mem _ hj), rfl⟩
    have p : 0 < (L.getD i []).length := List.length_pos_iff.mpr hi
    rw [← h2, List.length_append, List.length_cons]
    omega
abbrev cod (zs : List Str) : List (List Nat) := zs.map fun z => z.cps.toList
theorem cod_ne {zs : List Str} (good : Good zs) : ∀ x ∈ cod zs, x ≠ [] := by
  intro x hx
  obtain ⟨z, hz, rfl⟩ := List.mem_map.mp hx
  intro q
  have := good.lo z hz
  have e : z.cps.toList.length = z.length := by simp [Str.length]
  rw [q, List.length_nil] at e
  omega
theorem names_facts {H : Hp} {x : Addr} {zs : List Str} (at_ : H x = some (.lst (zs.map V.str)) ∨ H x = some (.tup (zs.map V.str))) (few : zs.length ≤ 200) (good : Good zs) (ap : ApL zs) : An2 H (.ref x) ∧ namesB H (.ref x) = true ∧ apB H (.ref x) = true ∧ sgs H (.ref x) = cod zs := by
  have e : items H (.ref x) = zs.map V.str := by rcases at_ with h | h <;> simp [items, h]
  have r : rowB H (.ref x) 0 200 = true := by
    rcases at_ with h | h <;> simp only [rowB, h, Bool.and_eq_true, decide_eq_true_eq, List.length_map] <;> omega
  have a : An H (.ref x) := by
    rcases at_ with h | h
    · exact .lst h
    · exact .tup h
  have sE : sgs H (.ref x) = cod zs := by
    unfold sgs
    rw [e, List.map_map]
    rfl
  refine ⟨⟨a, fun y hy => ?_⟩, ?_, ?_, sE⟩
  · rw [e] at hy
    obtain ⟨z, hz, rfl⟩ := List.mem_map.mp hy
    exact .str (Nat.le_trans (good.hi z hz) (by decide))
  · unfold namesB
    rw [r, e, List.all_map, Bool.true_and, List.all_eq_true]
    exact fun z hz => (good.sg z hz).name (good.lo z hz) (good.hi z hz)
  · exact apB_iff.mpr (by rw [sE]; exact ap)
theorem sig_ok {t : Str} (h : Sg t) (l : t.length ≤ 2000) : sigB (.str t) 0 2000 = true := by
  show (decide ((0 : Int) ≤ t.length) && (decide ((t.length : Int) ≤ 2000) && decide (Txt.stripChars t "01" = ""))) = true
  rw [h.strip]
  simp only [Bool.and_eq_true, decide_eq_true_eq]
  exact ⟨by omega, by omega, trivial⟩
theorem cut_some {CB CM : Addr} {H : Hp} {x : Addr} {zs : List Str} {t : Str} {row : List Nat} {Q : VK} {E : XK} (at_ : H x = some (.lst (zs.map V.str)) ∨ H x = some (.tup (zs.map V.str))) (few : zs.length ≤ 200) (good : Good zs) (ap : ApL zs) (sg : Sg t) (tl : t.length ≤ 2000) (hj : Joins (cod zs) t.cps.toList row)
    (q : ∀ H' p, Same H H' → H' p = none → Q (.ref p) (upd H' p (.tup (row.map fun (i : Nat) => V.int i)))) : spCut CB CM [.ref x, .str t] H Q E := by
  obtain ⟨f1, f2, f3, f4⟩ := names_facts at_ few good ap
  have s := sig_ok sg tl
  refine ⟨_, _, rfl, f1, .str (Nat.le_trans tl (by decide)), fun z => (by rw [f2] at z; cases z), fun _ z => (by rw [s] at z; cases z), fun _ _ z => (by rw [f3] at z; cases z), fun _ _ _ => ⟨fun row' h' => ?_, fun no => ?_⟩⟩
  · rw [f4] at h'
    rw [joins_uniq ap (cod_ne good) h' hj]
    exact q
  · rw [f4] at no
    exact absurd hj (no row)
theorem cut_no {CB CM : Addr} {H : Hp} {x : Addr} {zs : List Str} {t : Str} {Q : VK} {E : XK} (at_ : H x = some (.lst (zs.map V.str)) ∨ H x = some (.tup (zs.map V.str))) (few : zs.length ≤ 200) (good : Good zs) (ap : ApL zs) (sg : Sg t) (tl : t.length ≤ 2000) (hj : ∀ row, ¬ Joins (cod zs) t.cps.toList row)
    (q : ∀ H', Same H H' → Q .non H') : spCut CB CM [.ref x, .str t] H Q E := by
  obtain ⟨f1, f2, f3, f4⟩ := names_facts at_ few good ap
  have s := sig_ok sg tl
  refine ⟨_, _, rfl, f1, .str (Nat.le_trans tl (by decide)), fun z => (by rw [f2] at z; cases z), fun _ z => (by rw [s] at z; cases z), fun _ _ z => (by rw [f3] at z; cases z), fun _ _ _ => ⟨fun row' h' => ?_, fun _ => q⟩⟩
  rw [f4] at h'
  exact absurd h' (hj row')
theorem rep_row {K : PySem.W.Frag} {H : Hp} {p : Addr} {zs : List Str} {t : Str} {row : List Nat} {Q : VK} (few : zs.length ≤ 200) (good : Good zs) (tl : t.length ≤ 2000) (hj : Joins (cod zs) t.cps.toList row) (hp : H p = some (.tup (row.map fun (i : Nat) => V.int i))) (q : Q (.str (PyData.tuple (row.map fun (i : Nat) => PyData.int i)).shown) H) : rRepr K [.ref p] H Q := by
  have l := joins_len (cod_ne good) row _ hj
  have lt : t.cps.toList.length = t.length := by simp [Str.length]
  refine rep_of (.tup (SqT.of hp) (dp_rows row)) (sh_row (fun i hi => ?_) (by omega)) (by decide) (by decide) q
  have := hj.1 i hi
  rw [List.length_map] at this
  exact Nat.lt_of_lt_of_le (m := 200) (by omega) (by decide)
theorem rep_non {K : PySem.W.Frag} {H : Hp} {Q : VK} (q : Q (.str (PyData.none).shown) H) : rRepr K [.non] H Q := rep_of (n := 0) (l := 50) .non sh_non (by decide) (by decide) q
theorem lay_rows : ∀ row : List Nat, PyData.canLayAll0 (row.map fun (i : Nat) => PyData.int i) = true
  | [] => by simp [PyData.canLayAll0]
  | i :: row => by simp [PyData.canLayAll0, PyData.canLay0, lay_rows row]
theorem dep_rows : ∀ row : List Nat, PyData.depthAll (row.map fun (i : Nat) => PyData.int i) = 0
  | [] => by simp [PyData.depthAll]
  | i :: row => by simp [PyData.depthAll, PyData.depth, dep_rows row]
theorem shaped_rows (row : List Nat) : SeqAt.shaped (.tuple (row.map fun (i : Nat) => PyData.int i)) = true := by
  unfold SeqAt.shaped
  simp [PyData.canLay0, PyData.depth, lay_rows, dep_rows]
theorem LS.mut {p q : Addr} {cs : List Int} {PT : Addr} {n m : Nat} {H0 H : Hp} {hl : Addr} {xs : List V} {o : HO} (h : LS p q cs PT n H) (hh : H hl = some (.lst xs)) (h0 : H0 hl = none) (s0 : Sv p q cs m H0) : LS p q cs PT n (upd H hl o) := by
  have hp := sv_ne s0 h0
  refine ⟨h.sv.but_upd hp h0 s0, fun x hx => ?_⟩
  obtain ⟨ps, h1, h2, h3⟩ := h.tb x hx
  refine ⟨ps, (upd_ne (fun z => ?_)).trans h1, h2, fun pos cv hc => ?_⟩
  · rw [z, hh] at h1
    cases h1
  · obtain ⟨c, e1, e2⟩ := h3 pos cv hc
    refine ⟨c, e1, (upd_ne (fun z => ?_)).trans e2⟩
    rw [z, hh] at e2
    unfold CodeO at e2
    cases e2
theorem cut2000 (z : Str) : (cutS z none (some 2000)).length ≤ 2000 := by
  have a2 : HT.sIx z.length z.length (some 2000) = min 2000 z.length := rfl
  show (((z.cps.toList.drop (HT.sIx z.length 0 none)).take (HT.sIx z.length z.length (some 2000) - HT.sIx z.length 0 none)).toArray).size ≤ 2000
  rw [List.size_toArray, List.length_take, a2]
  omega
theorem flat_ones : ∀ n : Nat, flat [[49]] (List.replicate n 0) = List.replicate n 49
  | 0 => rfl
  | n + 1 => by
    rw [List.replicate_succ, flat_cons, flat_ones n, List.replicate_succ]
    rfl
theorem ones_tx : (Txt.mul "1" 2000).cps.toList = List.replicate 2000 49 := by decide +kernel
theorem rep_flat {α : Type} (x : α) : ∀ n : Nat, (List.replicate n [x]).flatten = List.replicate n x
  | 0 => rfl
  | n + 1 => by rw [List.replicate_succ, List.flatten_cons, rep_flat x n, List.replicate_succ]; rfl
def Dlast : PyData := .list [.tuple [], .none, .tuple ((List.replicate 2000 0).map fun (i : Nat) => PyData.int i)]
theorem sh_last : Sh 2 (3 * (2000 * 50 + 2 * 2000 + 3) + 2 * 3 + 3) Dlast := by
  refine Sh.lst (n := 1) (l := 2000 * 50 + 2 * 2000 + 3) (fun d hd => ?_) (Nat.le_refl 3)
  simp only [List.mem_cons, List.not_mem_nil, or_false] at hd
  rcases hd with rfl | rfl | rfl
  · exact sh_row (row := []) (fun i h => (nomatch h)) (by decide)
  · exact sh_non.mono (by decide) (by decide)
  · refine sh_row (fun i h => ?_) (by rw [List.length_replicate]; decide)
    rw [(List.mem_replicate.mp h).2]
    decide
theorem dp_last {K : PySem.W.Frag} {H : Hp} {l a b : Addr} (hl : H l = some (.lst [.ref a, .non, .ref b])) (ha : H a = some (.tup [])) (hb : H b = some (.tup ((List.replicate 2000 0).map fun (i : Nat) => V.int i))) : Dp K H (.ref l) Dlast :=
  .lst (SqL.of hl) (.cons (.tup (SqT.of ha) .nil) (.cons .non (.cons (.tup (SqT.of hb) (dp_rows _)) .nil)))
def spLawT (PT : Addr) (K : PySem.W.Frag) : Sp := fun vs H Q _ => ∃ (a : Addr) (ns : List Int), vs = [.ref a] ∧ SqL K H a (ns.map V.int) ∧ H PT = some (.tbl #[]) ∧ ∀ H', Q (.bl true) H'
/-- what the law knows behind its steps -/
def Mid (a p q : Addr) (cs : List Int) (PT : Addr) (i n : Nat) (l kp ro : Addr) (zs : List Str) : L2.St → Hp → Prop := fun σ' H' => ∃ (rw_ : List Nat) (t : Str) (o7 o8 o9 o10 : Option V), σ' = [some (.ref a), some (.ref p), some (.int (0 + (i : Int))), some (.ref l), some (.ref kp), some (.ref ro), some (.str t), o7, o8, o9, o10] ∧ LS p q cs PT n H' ∧
  H' l = some (.lst (zs.map V.str)) ∧ H' kp = some (.lst (zs.map V.str)) ∧ H' ro = some (.lst (rw_.map fun (i : Nat) => V.int i)) ∧ Joins (cod zs) t.cps.toList rw_ ∧ Sg t ∧ t.length ≤ 2000
section
variable {P : Program} {w : World} {K : PySem.W.Frag} {mg : Str → Option Value} {base : Heap}
theorem ok_law {CB CM PT f : Addr} {fd : FuncData} (F : Fun K "law" "law" s_law f fd) (T : Txt mg)
    (C_cut_text : CalX P w K mg base 6 "cut_text" ["names", "text"] (spCut CB CM)) (K_cut_text : CalXK P w K mg base 6 "cut_text" ["names", "text"] ["text", "names"] (fun l => l.reverse) (spCut CB CM))
    (C__law_tailor : Cal P w K mg base 1 "_law_tailor" ["script"] (spSieve K)) (C__law_shear : Cal P w K mg base 1 "_law_shear" ["tailor", "many"] spSift) (C__law_cloth : Cal P w K mg base 2 "_law_cloth" ["tailor", "some"] spOne)
    (C__law_names : Cal P w K mg base 8 "_law_names" ["tailor"] spNames) (C__law_cut : Cal P w K mg base 1 "_law_cut" ["names", "text"] spOwnCut) (C__law_bent : Cal P w K mg base 3 "_law_bent" ["tailor", "text"] spBent)
    (C__law_refused_right : CalG P w K mg base 9 "_law_refused_right" ["tailor", "names"] (spRefused PT)) : FnG P w K mg base CX0 10 f fd ["script"] (spLawT PT K) := by
  refine Fun.okG F sc_law (fun vs H Q E h => ?_) (fun cdv A outer s H vs Q E hr gd h => ?_)
  · obtain ⟨a, ns, rfl, _⟩ := h
    rfl
  · obtain ⟨a, ns, rfl, hS, hT, k⟩ := h
    refine ⟨_, (pss_cons (ps_set (i := 1) sc_law.nd rfl (Or.inl rfl) (pe_cal C__law_tailor (hr.mono (by decide)) (pa_cons (pv 0) pa_nil)))
  (pss_cons (ps_for PassesOwn.never rfl (pi_range1 rfl T.b_range (pa_cons pe_int pa_nil)) (pg_name (i := 2) sc_law.nd rfl (Or.inl rfl))
  (pss_cons (ps_set (i := 3) sc_law.nd rfl (Or.inl rfl) (pe_cal C__law_names (hr.mono (by decide)) (pa_cons (pv 1) pa_nil)))
  (pss_cons (ps_par3 (i := 4) (j := 5) (l := 6) rfl sc_law.nd rfl rfl rfl (by decide) (by decide) (by decide) rfl rfl rfl (pa_cons (pe_callTy call_list_of (by rfl) T.b_list boot_list (pa_cons (pv 3) pa_nil)) (pa_cons (pe_lst pa_nil) (pa_cons pe_str pa_nil))) rfl)
  (C8.pss_cut (ps_for PassesOwn.never rfl (pi_range1 rfl T.b_range (pa_cons (pe_ifExp (pt_cmpR (op_neD (hu64 hr)) (pv 3) (pe_lst pa_nil) (nomark _)) (pe_cal C__law_cloth (hr.mono (by decide)) (pa_cons (pv 1) (pa_cons (pe_lst (pa_cons pe_int (pa_cons pe_int (pa_cons pe_int (pa_cons pe_int (pa_cons pe_int (pa_cons pe_int (pa_cons pe_int pa_nil)))))))) pa_nil))) pe_int) pa_nil)) (pg_name (i := 7) sc_law.nd rfl (Or.inl rfl))
  (C8.pss_cut (ps_set (i := 8) sc_law.nd rfl (Or.inl rfl) (pe_ifExp (pt_cmpR op_lt (pv 7) pe_int (nomark _)) (pe_cal C__law_shear (hr.mono (by decide)) (pa_cons (pv 1) (pa_cons (pe_callB call_len_seq (by rfl) T.b_len boot_len (pa_cons (pv 3) pa_nil)) pa_nil))) (pe_op op_mod (pe_callTy call_int1 (by rfl) T.b_int boot_int (pa_cons (pe_op op_add (pe_op op_mul pe_int (pv 7)) (pe_callB call_len_seq (by rfl) T.b_len boot_len (pa_cons (pv 5) pa_nil))) pa_nil)) (pe_callB call_len_seq (by rfl) T.b_len boot_len (pa_cons (pv 3) pa_nil)))))
  (pss_one (ps_if (pt_cmpR op_le (pe_op op_add (pe_callB call_len_str (by rfl) T.b_len boot_len (pa_cons (pv 6) pa_nil)) (pe_callB call_len_str (by rfl) T.b_len boot_len (pa_cons (pe_ix ix_list (pv 3) (pv 8) (fun _ _ => rfl)) pa_nil))) pe_int (nomark _))
  (pss_cons (ps_expr (pe_bm PySem.F.plainAttrs_list PySem.F.slot_list_append PySem.F.type_list_append mt_append (pv 5) (pa_cons (pv 8) pa_nil)))
  (pss_one (ps_set (i := 6) sc_law.nd rfl (Or.inl rfl) (pe_op op_add_str (pv 6) (pe_ix ix_list (pv 3) (pv 8) (fun _ _ => rfl))))))
  pss_nil))))
  (pss_cons (ps_if (PW.pt (pw_or (pt_cmpR op_ne (pe_callB (call_repr gd (hu64 hr)) (by rfl) T.b_repr boot_repr (pa_cons (pe_calX C_cut_text (hr.mono (by decide)) (pa_cons (pv 3) (pa_cons (pv 6) pa_nil))) pa_nil)) (pe_callB (call_repr gd (hu64 hr)) (by rfl) T.b_repr boot_repr (pa_cons (pe_callTy call_tuple_of (by rfl) T.b_tuple boot_tuple (pa_cons (pv 5) pa_nil)) pa_nil)) (nomark _)) (pw_or (pt_cmpR (op_neD (hu64 hr)) (pe_calXK K_cut_text (hr.mono (by decide)) (pk_cons (pv 6) (pk_cons (pe_callTy call_tuple_of (by rfl) T.b_tuple boot_tuple (pa_cons (pv 3) pa_nil)) pk_nil))) (pe_callTy call_tuple_of (by rfl) T.b_tuple boot_tuple (pa_cons (pv 5) pa_nil)) (nomark _)) (pw_or1 (pt_cmpR (op_neD (hu64 hr)) (pv 3) (pv 4) (nomark _))))))
  (pss_one (ps_ret pe_bl))
  pss_nil)
  (pss_cons (ps_for PassesOwn.never rfl (pi_range1 rfl T.b_range (pa_cons pe_int pa_nil)) (pg_name (i := 9) sc_law.nd rfl (Or.inl rfl))
  (pss_cons (ps_set (i := 10) sc_law.nd rfl (Or.inl rfl) (pe_slice sl_str (pe_cal C__law_bent (hr.mono (by decide)) (pa_cons (pv 1) (pa_cons (pv 6) pa_nil))) po_none (po_some pe_int)))
  (pss_one (ps_if (pt_cmpR op_ne (pe_callB (call_repr gd (hu64 hr)) (by rfl) T.b_repr boot_repr (pa_cons (pe_calX C_cut_text (hr.mono (by decide)) (pa_cons (pv 3) (pa_cons (pv 10) pa_nil))) pa_nil)) (pe_callB (call_repr gd (hu64 hr)) (by rfl) T.b_repr boot_repr (pa_cons (pe_cal C__law_cut (hr.mono (by decide)) (pa_cons (pv 3) (pa_cons (pv 10) pa_nil))) pa_nil)) (nomark _))
  (pss_one (ps_ret pe_bl))
  pss_nil))))
  (pss_one (ps_if (pt_not (pt_val (pe_calG C__law_refused_right (hr.mono (by decide)) gd (pa_cons (pv 1) (pa_cons (pv 3) pa_nil)))))
  (pss_one (ps_ret pe_bl))
  pss_nil))))))))
  (pss_one (ps_ret (pe_cmpR op_eq (pe_callB (call_repr gd (hu64 hr)) (by rfl) T.b_repr boot_repr (pa_cons (pe_lst (pa_cons (pe_calX C_cut_text (hr.mono (by decide)) (pa_cons (pe_lst pa_nil) (pa_cons pe_str pa_nil))) (pa_cons (pe_calX C_cut_text (hr.mono (by decide)) (pa_cons (pe_lst pa_nil) (pa_cons pe_str pa_nil))) (pa_cons (pe_calX C_cut_text (hr.mono (by decide)) (pa_cons (pe_lst (pa_cons pe_str pa_nil)) (pa_cons (pe_op op_mulS pe_str pe_int) pa_nil))) pa_nil)))) pa_nil)) (pe_callB (call_repr gd (hu64 hr)) (by rfl) T.b_repr boot_repr (pa_cons (pe_lst (pa_cons (pe_tup pa_nil) (pa_cons pe_non (pa_cons (pe_callTy call_tuple_of (by rfl) T.b_tuple boot_tuple (pa_cons (pe_op op_rep (pe_lst (pa_cons pe_int pa_nil)) pe_int) pa_nil)) pa_nil)))) pa_nil)) (nomark _)))))), ?_⟩
    refine ⟨_, rfl, a, ns, rfl, hS, fun p q cs H1 hp s1 hc sv => ?_⟩
    have ls0 : LS p q cs PT 0 H1 := ⟨sv, fun x hx => by
      rw [List.mem_singleton.mp hx]
      exact TabS.nil (s1 _ _ hT)⟩
    clear hS hT s1 sv
    refine ⟨3, rfl, by decide, by decide, ?_⟩
    refine for_range (n := 3) (fun i σ' H' => (∃ o2 o3 o4 o5 o6 o7 o8 o9 o10, σ' = [some (.ref a), some (.ref p), o2, o3, o4, o5, o6, o7, o8, o9, o10]) ∧ LS p q cs PT (i * 4000) H') ⟨⟨_, _, _, _, _, _, _, _, _, rfl⟩, ls0⟩ (fun i σ' H2 hi h2 => ?_) (fun σ' H2 h2 => ?_)
    · obtain ⟨⟨o2, o3, o4, o5, o6, o7, o8, o9, o10, rfl⟩, ls⟩ := h2
      refine ⟨_, rfl, p, q, cs, i * 4000, rfl, by omega, by omega, ls.sv, fun l zs H3 fl hl few good apz b3 s3 => ?_⟩
      have ls3 := ls.but b3 s3
      have lp : l ≠ p := sv_ne ls.sv fl
      clear ls b3 s3 fl
      have few2 : zs.length ≤ 200 := by omega
      refine ⟨_, rfl, l, _, rfl, .inl (SqL.of hl), fun kp hkp => ?_⟩
      have kpp : kp ≠ p := sv_ne ls3.sv hkp
      have ls4 := ls3.same (same_new (o := HO.lst (zs.map V.str)) hkp)
      have hl4 := same_new (o := HO.lst (zs.map V.str)) hkp _ _ hl
      have hk4 : upd H3 kp (.lst (zs.map V.str)) kp = some (.lst (zs.map V.str)) := upd_same
      generalize upd H3 kp (HO.lst (zs.map V.str)) = H4 at ls4 hl4 hk4 ⊢
      clear hkp ls3 hl
      refine ⟨by show 0 ≤ sizeLine; decide, fun ro hro => ?_⟩
      have rop : ro ≠ p := sv_ne ls4.sv hro
      have lro : l ≠ ro := ne_of_none hl4 hro
      have kro : kp ≠ ro := ne_of_none hk4 hro
      have s5 := same_new (o := HO.lst []) hro
      have ls5 := ls4.same s5
      have hl5 := s5 _ _ hl4
      have hk5 := s5 _ _ hk4
      have hr5 : upd H4 ro (.lst []) ro = some (.lst []) := upd_same
      have sv4 := ls4.sv
      generalize upd H4 ro (HO.lst []) = H5 at ls5 hl5 hk5 hr5 ⊢
      clear s5 hl4 hk4 ls4
      refine ⟨_, _, _, rfl, ?_⟩
      dsimp only
      refine ⟨Mid a p q cs PT i (i * 4000 + 2400) l kp ro zs, ?_, ?_⟩
      · refine ⟨_, rfl, by show 0 ≤ sizeLine; decide, fun lz hlz => ?_⟩
        have sz := same_new (o := HO.lst []) hlz
        refine ne_nil good.sg (sz _ _ hl5) upd_same ⟨_, rfl, ?_⟩
        have ls6 := ls5.same sz
        have hl6 := sz _ _ hl5
        have hk6 := sz _ _ hk5
        have hr6 := sz _ _ hr5
        generalize upd H5 lz (HO.lst []) = H6 at ls6 hl6 hk6 hr6 ⊢
        clear sz hlz hl5 hk5 hr5 ls5
        have em : ("" : Str).length = 0 := by decide +kernel
        cases hb : zs.isEmpty with
        | true =>
          refine iteF ?_
          refine ⟨0, rfl, by decide, by decide, ?_⟩
          exact for_range (n := 0) (fun _ => Mid a p q cs PT i (i * 4000 + 2400) l kp ro zs) ⟨[], "", _, _, _, _, rfl, ls6.mono (by omega), hl6, hk6, hr6, ⟨fun i h => (nomatch h), rfl⟩, sg_nil, by rw [em]; decide⟩ (fun j σ' H' h => absurd h (Nat.not_lt_zero _)) (fun σ' H' h => h)
        | false =>
          have pos : 0 < zs.length := by
            cases zs with
            | nil => cases hb
            | cons z zr => simp
          refine iteT ?_
          refine ⟨_, rfl, by show 7 ≤ sizeLine; decide, fun lc hlc => ?_⟩
          have sc := same_new (o := HO.lst [V.int 3, V.int 0, V.int 1, V.int 7, V.int 12, V.int 40, V.int 2000]) hlc
          refine ⟨p, q, cs, _, lc, _, rfl, upd_same, sv_ne ls6.sv hlc, by show 0 < 7; decide, by show 7 ≤ 1000; decide, by omega, by omega, (ls6.same sc).sv, fun v H7 hv b7 s7 => ?_⟩
          obtain ⟨N, rfl, N2⟩ : ∃ N : Nat, v = .int (N : Int) ∧ N ≤ 2000 := by
            simp only [List.mem_cons, List.not_mem_nil, or_false] at hv
            rcases hv with rfl | rfl | rfl | rfl | rfl | rfl | rfl
            · exact ⟨3, rfl, by decide⟩
            · exact ⟨0, rfl, by decide⟩
            · exact ⟨1, rfl, by decide⟩
            · exact ⟨7, rfl, by decide⟩
            · exact ⟨12, rfl, by decide⟩
            · exact ⟨40, rfl, by decide⟩
            · exact ⟨2000, rfl, by decide⟩
          have ls7 := (ls6.same sc).but b7 s7
          have hl7 := b7 _ _ lp (sc _ _ hl6)
          have hk7 := b7 _ _ kpp (sc _ _ hk6)
          have hr7 := b7 _ _ rop (sc _ _ hr6)
          clear b7 s7 hv sc hlc ls6 hl6 hk6 hr6
          refine ⟨(N : Int), rfl, by omega, by omega, ?_⟩
          refine for_range (n := N) (fun j => Mid a p q cs PT i (i * 4000 + 350 + j) l kp ro zs) ⟨[], "", _, _, _, _, rfl, ls7.mono (by omega), hl7, hk7, hr7, ⟨fun i h => (nomatch h), rfl⟩, sg_nil, by rw [em]; decide⟩ (fun j σ' H' hjN h => ?_) (fun σ' H' h => ?_)
          · obtain ⟨rw_, t, o7, o8, o9, o10, rfl, ls, hl, hk, hr', hj, sg, tl⟩ := h
            have tl2 : t.length ≤ sizeLine := Nat.le_trans tl (by decide)
            refine ⟨fun σ' H' => ∃ jn : Nat, jn < zs.length ∧ σ' = [some (.ref a), some (.ref p), some (.int (0 + (i : Int))), some (.ref l), some (.ref kp), some (.ref ro), some (.str t), some (.int (0 + (j : Int))), some (.int (jn : Int)), o9, o10] ∧ LS p q cs PT (i * 4000 + 350 + (j + 1)) H' ∧ H' l = some (.lst (zs.map V.str)) ∧ H' kp = some (.lst (zs.map V.str)) ∧ H' ro = some (.lst (rw_.map fun (i : Nat) => V.int i)), ?_, ?_⟩
            · refine ⟨_, rfl, _, _, rfl, rfl, _, rfl, ?_⟩
              refine ite2 (fun _ => ?_) (fun _ => ?_)
              · refine ⟨_, rfl, _, rfl, l, _, rfl, .inl (SqL.of hl), p, q, cs, _, _, rfl, by rw [List.length_map]; omega, by rw [List.length_map]; omega, by omega, by omega, ls.sv, fun r H8 r0 r1 b8 s8 => ?_⟩
                rw [List.length_map] at r1
                exact ⟨r.toNat, by omega, by rw [Int.toNat_of_nonneg r0]; rfl, ls.but b8 s8, b8 _ _ lp hl, b8 _ _ kpp hk, b8 _ _ rop hr'⟩
              · refine ⟨_, rfl, 7, _, rfl, rfl, .inl ⟨by decide, by decide⟩, _, rfl, ro, _, rfl, .inl (SqL.of hr'), _, _, rfl, rfl, ?_⟩
                refine .inl ⟨_, rfl, _, rfl, l, _, rfl, .inl (SqL.of hl), _, _, rfl, rfl, (by show (0 : Int) < ((zs.map V.str).length : Int); rw [List.length_map]; omega), ?_⟩
                rw [List.length_map, List.length_map]
                have m0 := Int.emod_nonneg (7 * (0 + (j : Int)) + (rw_.length : Int)) (b := (zs.length : Int)) (by omega)
                have m1 := Int.emod_lt_of_pos (7 * (0 + (j : Int)) + (rw_.length : Int)) (b := (zs.length : Int)) (by omega)
                exact ⟨((7 * (0 + (j : Int)) + (rw_.length : Int)) % (zs.length : Int)).toNat, by omega, by rw [Int.toNat_of_nonneg m0]; rfl, ls.mono (by omega), hl, hk, hr'⟩
            · rintro σ' H8 ⟨jn, jl, rfl, ls8, hl8, hk8, hr8⟩
              have hz := List.getElem?_eq_getElem jl
              generalize zs[jn] = z at hz
              have zm := List.mem_of_getElem? hz
              have z6 := good.hi z zm
              have zlen : z.length ≤ sizeLine := Nat.le_trans z6 (by decide)
              have gz : atI (zs.map V.str) ((jn : Nat) : Int) = some (.str z) := atI_nat (by rw [List.getElem?_map, hz]; rfl)
              refine ⟨_, rfl, t, rfl, tl2, _, rfl, _, rfl, l, _, _, _, rfl, rfl, SqL.of hl8, gz, z, rfl, zlen, _, _, rfl, rfl, _, _, rfl, rfl, _, rfl, ?_⟩
              refine ite2 (fun hle => ?_) (fun _ => ?_)
              · have hle : t.length + z.length ≤ 2000 := by
                  have := of_decide_eq_true hle
                  omega
                have rl : rw_.length ≤ 2000 := by
                  have := joins_len (cod_ne good) rw_ _ hj
                  have lt : t.cps.toList.length = t.length := by simp [Str.length]
                  omega
                refine ⟨_, rfl, .inl ⟨rfl, _, SqL.of hr8⟩, _, rfl, ro, _, _, rfl, rfl, hr8, Nat.lt_of_le_of_lt (m := 2000) (by rw [List.length_map]; exact rl) (by decide), ?_⟩
                have hl9 : upd H8 ro (.lst ((rw_.map fun (i : Nat) => V.int i) ++ [.int (jn : Int)])) l = some (.lst (zs.map V.str)) := (upd_ne lro).trans hl8
                have hk9 : upd H8 ro (.lst ((rw_.map fun (i : Nat) => V.int i) ++ [.int (jn : Int)])) kp = some (.lst (zs.map V.str)) := (upd_ne kro).trans hk8
                refine ⟨_, rfl, _, rfl, _, rfl, l, _, _, _, rfl, rfl, SqL.of hl9, gz, t, z, rfl, rfl, Nat.le_trans hle (by decide), ?_⟩
                refine ⟨rw_ ++ [jn], t ++ z, _, _, _, _, rfl, ls8.mut hr8 hro sv4, hl9, hk9, by rw [upd_same, List.map_append]; rfl, ⟨fun x hx => ?_, ?_⟩, sg_app sg (good.sg z zm), by rw [Str.length_append]; exact hle⟩
                · rcases List.mem_append.mp hx with hx | hx
                  · exact hj.1 x hx
                  · rw [List.mem_singleton.mp hx, List.length_map]
                    exact jl
                · rw [flat_app, hj.2, flat_cons, getD_map hz, flat_nil, List.append_nil, tl_app]
              · exact ⟨rw_, t, _, _, _, _, rfl, ls8, hl8, hk8, hr8, hj, sg, tl⟩
          · obtain ⟨rw_, t, o7, o8, o9, o10, rfl, ls, rest⟩ := h
            exact ⟨rw_, t, o7, o8, o9, o10, rfl, ls.mono (by omega), rest⟩
      · rintro σ' H6 ⟨rw_, t, o7, o8, o9, o10, rfl, ls, hl, hk, hr', hj, sg, tl⟩
        refine ne_rep ?_
        refine ⟨_, rfl, _, rfl, ?_⟩
        dsimp only [tNil, tCons, tC]
        refine cut_some (.inl hl) few2 good apz sg tl hj fun H7 p1 s7 hp1 => ?_
        have sA := s7.trans (same_new (o := HO.tup (rw_.map fun (i : Nat) => V.int i)) hp1)
        refine rep_row few2 good tl hj upd_same ?_
        generalize upd H7 p1 (HO.tup (rw_.map fun (i : Nat) => V.int i)) = H8 at sA ⊢
        refine ⟨_, rfl, ro, _, rfl, .inl ⟨SqL.of (sA _ _ hr'), fun tp htp => ?_⟩⟩
        have sB := sA.trans (same_new (o := HO.tup (rw_.map fun (i : Nat) => V.int i)) htp)
        refine rep_row few2 good tl hj upd_same ?_
        generalize upd H8 tp (HO.tup (rw_.map fun (i : Nat) => V.int i)) = H9 at sB ⊢
        refine ⟨rfl, false, by simp, iteF ?_⟩
        refine ⟨_, rfl, _, rfl, l, _, rfl, .inl ⟨SqL.of (sB _ _ hl), fun tn htn => ?_⟩⟩
        have sC := sB.trans (same_new (o := HO.tup (zs.map V.str)) htn)
        have htn2 : upd H9 tn (HO.tup (zs.map V.str)) tn = some (.tup (zs.map V.str)) := upd_same
        generalize upd H9 tn (HO.tup (zs.map V.str)) = HA at sC htn2 ⊢
        refine ⟨rfl, ?_⟩
        dsimp only [tNil, tCons, tC]
        refine cut_some (.inr htn2) few2 good apz sg tl hj fun HB p2 s2 hp2 => ?_
        have sD := (sC.trans s2).trans (same_new (o := HO.tup (rw_.map fun (i : Nat) => V.int i)) hp2)
        have h2 : upd HB p2 (HO.tup (rw_.map fun (i : Nat) => V.int i)) p2 = some (.tup (rw_.map fun (i : Nat) => V.int i)) := upd_same
        generalize upd HB p2 (HO.tup (rw_.map fun (i : Nat) => V.int i)) = HC at sD h2 ⊢
        refine ⟨_, rfl, ro, _, rfl, .inl ⟨SqL.of (sD _ _ hr'), fun tq htq => ?_⟩⟩
        have sq := same_new (o := HO.tup (rw_.map fun (i : Nat) => V.int i)) htq
        have sE := sD.trans sq
        have h2' := sq _ _ h2
        have h3 : upd HC tq (HO.tup (rw_.map fun (i : Nat) => V.int i)) tq = some (.tup (rw_.map fun (i : Nat) => V.int i)) := upd_same
        generalize upd HC tq (HO.tup (rw_.map fun (i : Nat) => V.int i)) = HD at sE h2' h3 ⊢
        refine ⟨_, _, .tup (SqT.of h2') (dp_rows _), .tup (SqT.of h3) (dp_rows _), shaped_rows _, shaped_rows _, ?_⟩
        rw [SeqAt.eqv_refl _ (by simp [PyData.canLay0, lay_rows])]
        refine ⟨_, rfl, iteF ?_⟩
        refine ⟨_, rfl, _, rfl, _, _, .lst (SqL.of (sE _ _ hl)) (dpAll_tx zs), .lst (SqL.of (sE _ _ hk)) (dpAll_tx zs), shaped_tx good.sg, shaped_tx good.sg, ?_⟩
        rw [SeqAt.eqv_refl _ (by simp [PyData.canLay0, canLay_tx zs good.sg])]
        refine ⟨_, rfl, iteF ?_⟩
        have lsD := ls.same sE
        have hlD := sE _ _ hl
        have hkD := sE _ _ hk
        have hrD := sE _ _ hr'
        clear sA sB sC sD sE s7 s2 hp1 hp2 htp htq htn htn2 h2 h2' h3 sq ls hl hk hr'
        refine nx_in ?_
        dsimp only
        refine ⟨4, rfl, by decide, by decide, ?_⟩
        refine for_range (n := 4) (fun j => Mid a p q cs PT i (i * 4000 + 2400 + 40 * j) l kp ro zs) ⟨rw_, t, _, _, _, _, rfl, lsD.mono (by omega), hlD, hkD, hrD, hj, sg, tl⟩ (fun j σ' H' hjN h => ?_) (fun σ' H' h => ?_)
        · clear lsD hlD hkD hrD hj sg tl
          obtain ⟨rw_, t, o7, o8, o9, o10, rfl, ls, hl, hk, hr', hj, sg, tl⟩ := h
          refine ⟨_, rfl, _, rfl, p, q, cs, _, t, rfl, by omega, by omega, ls.sv, sg, tl, fun z H8 sgz zl b8 s8 => ?_⟩
          refine ⟨_, rfl, z, rfl, Nat.le_trans zl (by decide), ?_⟩
          have ls8 := ls.but b8 s8
          have hl8 := b8 _ _ lp hl
          have hk8 := b8 _ _ kpp hk
          have hr8 := b8 _ _ rop hr'
          have sgc := sg_cut sgz none (some 2000)
          have lc := cut2000 z
          generalize cutS z none (some 2000) = bt at sgc lc ⊢
          dsimp only [gName]
          refine ne_rep ?_
          by_cases ex : ∃ row, Joins (cod zs) bt.cps.toList row
          · obtain ⟨row, hb⟩ := ex
            refine ⟨_, rfl, _, rfl, ?_⟩
            dsimp only [tNil, tCons, tC]
            refine cut_some (.inl hl8) few2 good apz sgc lc hb fun H9 p1 s9 hp1 => ?_
            have sA := s9.trans (same_new (o := HO.tup (row.map fun (i : Nat) => V.int i)) hp1)
            refine rep_row few2 good lc hb upd_same ?_
            generalize upd H9 p1 (HO.tup (row.map fun (i : Nat) => V.int i)) = HA at sA ⊢
            refine ⟨_, rfl, _, rfl, l, zs, bt, rfl, sA _ _ hl8, few2, fun z hz => ⟨good.lo z hz, good.hi z hz⟩, apz, lc, fun row' h' HB p2 s2 hp2 => ?_, fun no => absurd hb (no row)⟩
            have er := joins_uniq apz (cod_ne good) h' hb
            subst er
            have sB := (sA.trans s2).trans (same_new (o := HO.tup (row'.map fun (i : Nat) => V.int i)) hp2)
            refine rep_row few2 good lc hb upd_same ?_
            refine ⟨rfl, false, by simp, iteF ?_⟩
            exact ⟨rw_, t, _, _, _, _, rfl, (ls8.same sB).mono (by omega), sB _ _ hl8, sB _ _ hk8, sB _ _ hr8, hj, sg, tl⟩
          · have no : ∀ row, ¬ Joins (cod zs) bt.cps.toList row := fun row h => ex ⟨row, h⟩
            refine ⟨_, rfl, _, rfl, ?_⟩
            dsimp only [tNil, tCons, tC]
            refine cut_no (.inl hl8) few2 good apz sgc lc no fun H9 s9 => ?_
            refine rep_non ?_
            refine ⟨_, rfl, _, rfl, l, zs, bt, rfl, s9 _ _ hl8, few2, fun z hz => ⟨good.lo z hz, good.hi z hz⟩, apz, lc, fun row' h' => absurd h' (no row'), fun _ HB s2 => ?_⟩
            have sB := s9.trans s2
            refine rep_non ?_
            refine ⟨rfl, false, by simp, iteF ?_⟩
            exact ⟨rw_, t, _, _, _, _, rfl, (ls8.same sB).mono (by omega), sB _ _ hl8, sB _ _ hk8, sB _ _ hr8, hj, sg, tl⟩
        · clear lsD hlD hkD hrD hj sg tl
          obtain ⟨rw_, t, o7, o8, o9, o10, rfl, ls, hl, hk, hr', hj, sg, tl⟩ := h
          refine ⟨_, rfl, _, rfl, p, q, cs, _, l, zs, rfl, hl, lp, by omega, good, by omega, by omega, ls, fun H8 kp8 ls8 => ⟨_, rfl, iteF ?_⟩⟩
          exact ⟨⟨_, _, _, _, _, _, _, _, _, rfl⟩, ls8.mono (by omega)⟩
    · obtain ⟨⟨o2, o3, o4, o5, o6, o7, o8, o9, o10, rfl⟩, ls⟩ := h2
      have apN : ApL [] := List.Pairwise.nil
      refine ⟨by show 0 ≤ sizeLine; decide, fun e1 he1 => ?_⟩
      dsimp only [tNil, tCons, tC]
      refine cut_some (zs := []) (row := []) (.inl upd_same) (by decide) g1_nil apN sg_nil (by decide +kernel) ⟨fun i h => (nomatch h), rfl⟩ fun H1 p1 s1 hp1 => ?_
      have h1 : upd H1 p1 (HO.tup (([] : List Nat).map fun (i : Nat) => V.int i)) p1 = some (.tup []) := upd_same
      generalize upd H1 p1 (HO.tup (([] : List Nat).map fun (i : Nat) => V.int i)) = H2 at h1 ⊢
      refine ⟨by show 0 ≤ sizeLine; decide, fun e2 he2 => ?_⟩
      dsimp only [tNil, tCons, tC]
      refine cut_no (zs := []) (.inl upd_same) (by decide) g1_nil apN (sg_dec (by decide +kernel)) (by decide +kernel) (fun row h => ?_) fun H3 s3 => ?_
      · obtain ⟨x1, x2⟩ := h
        cases row with
        | nil => exact absurd x2 (by decide +kernel)
        | cons i r => exact absurd (x1 i List.mem_cons_self) (Nat.not_lt_zero _)
      have h3 := s3 _ _ (same_new (o := HO.lst ([].map V.str)) he2 _ _ h1)
      refine ⟨by show 1 ≤ sizeLine; decide, fun e3 he3 => ?_⟩
      have h4 := same_new (o := HO.lst [V.str "1"]) he3 _ _ h3
      refine ⟨"1", 2000, rfl, rfl, by decide +kernel, by decide, by decide, ?_⟩
      have g1 : Good ["1"] := ⟨fun z hz => by rw [List.mem_singleton.mp hz]; exact sg_dec (by decide +kernel), fun z hz => by rw [List.mem_singleton.mp hz]; decide +kernel, fun z hz => by rw [List.mem_singleton.mp hz]; decide +kernel⟩
      have l2 : (Txt.mul "1" 2000).length = 2000 := by
        have : (Txt.mul "1" 2000).cps.toList.length = (Txt.mul "1" 2000).length := by simp [Str.length]
        rw [← this, ones_tx, List.length_replicate]
      have sg2 : Sg (Txt.mul "1" 2000) := fun c hc => by
        rw [ones_tx] at hc
        exact .inr (List.mem_replicate.mp hc).2
      dsimp only [tNil, tCons, tC]
      refine cut_some (zs := ["1"]) (row := List.replicate 2000 0) (.inl upd_same) (by decide) g1 (List.pairwise_singleton _ _) sg2 (by rw [l2]; exact Nat.le_refl _) ⟨fun i h => by rw [(List.mem_replicate.mp h).2]; show 0 < 1; decide, ?_⟩ fun H5 p5 s5 hp5 => ?_
      · rw [ones_tx]
        exact flat_ones 2000
      have s6 := s5.trans (same_new (o := HO.tup ((List.replicate 2000 0).map fun (i : Nat) => V.int i)) hp5)
      have h6 := s6 _ _ h4
      have g6 : upd H5 p5 (HO.tup ((List.replicate 2000 0).map fun (i : Nat) => V.int i)) p5 = some (.tup ((List.replicate 2000 0).map fun (i : Nat) => V.int i)) := upd_same
      generalize upd H5 p5 (HO.tup ((List.replicate 2000 0).map fun (i : Nat) => V.int i)) = H6 at h6 g6 ⊢
      refine ⟨by show 3 ≤ sizeLine; decide, fun L1 hL1 => ?_⟩
      have s7 := same_new (o := HO.lst [V.ref p1, V.non, V.ref p5]) hL1
      refine rep_of (dp_last (upd_same) (s7 _ _ h6) (s7 _ _ g6)) sh_last (by decide) (by decide) ?_
      refine ⟨by show 0 ≤ sizeLine; decide, fun u1 hu1 => ?_⟩
      have z1 : upd (upd H6 L1 (HO.lst [V.ref p1, V.non, V.ref p5])) u1 (HO.tup []) u1 = some (.tup []) := upd_same
      generalize upd (upd H6 L1 (HO.lst [V.ref p1, V.non, V.ref p5])) u1 (HO.tup []) = H7 at z1 ⊢
      refine ⟨by show 1 ≤ sizeLine; decide, fun u2 hu2 => ?_⟩
      have z2 := same_new (o := HO.lst [V.int 0]) hu2 _ _ z1
      refine ⟨u2, 2000, [V.int 0], rfl, rfl, upd_same, by decide, by decide, by show 1 * 2000 ≤ sizeLine; decide, fun u3 hu3 => ?_⟩
      have z3 := same_new (o := HO.lst (List.replicate (2000 : Int).toNat [V.int 0]).flatten) hu3 _ _ z2
      refine ⟨u3, _, rfl, .inl ⟨SqL.of upd_same, fun u4 hu4 => ?_⟩⟩
      have z4 := same_new (o := HO.tup (List.replicate (2000 : Int).toNat [V.int 0]).flatten) hu4 _ _ z3
      have y4 : ∀ Hx : Hp, upd Hx u4 (HO.tup (List.replicate (2000 : Int).toNat [V.int 0]).flatten) u4 = some (.tup ((List.replicate 2000 0).map fun (i : Nat) => V.int i)) := fun Hx => by
        rw [upd_same, rep_flat, List.map_replicate]
        rfl
      refine ⟨by show 3 ≤ sizeLine; decide, fun L2 hL2 => ?_⟩
      have s9 := same_new (o := HO.lst [V.ref u1, V.non, V.ref u4]) hL2
      dsimp only [tNil]
      refine rep_of (dp_last (upd_same) (s9 _ _ z4) (s9 _ _ (y4 _))) sh_last (by decide) (by decide) ?_
      refine ⟨rfl, ?_⟩
      have e : decide (V.str Dlast.shown = V.str Dlast.shown) = true := by simp
      rw [e]
      exact k _
end
end K06
set_option Elab.async false
set_option linter.all false
set_option maxRecDepth 100000
set_option maxHeartbeats 4000000
namespace K06
open PySem PySem.Spec PyProof.Rows L2 Own
theorem ok_BadName {P : Program} {w : World} {K : PySem.W.Frag} {mg : Str → Option Value} {base : Heap} {f : Addr} {fd : FuncData} (F : Fun K "__init__" "BadName.__init__" s_BadName_init f fd) : FnOk P w K mg base CX0 1 f fd ["self", "part"] (spI1 K "part") := by
  refine F.ok sc_BadName_init (fun vs H Q E h => ?_) (fun cdv A outer s H vs Q E hr h => ?_)
  · obtain ⟨a, C, y, rfl, _⟩ := h
    rfl
  · obtain ⟨a, C, y, rfl, T, no, ha, k⟩ := h
    refine ⟨_, pss_one (ps_ost (pv 0) (pv 1)), ?_⟩
    exact ⟨_, rfl, _, rfl, a, C, rfl, T, no, .inl ⟨ha, fun dx n ne => k dx n ne⟩⟩
theorem ok_Misfit {P : Program} {w : World} {K : PySem.W.Frag} {mg : Str → Option Value} {base : Heap} {f : Addr} {fd : FuncData} (F : Fun K "__init__" "Misfit.__init__" s_Misfit_init f fd) : FnOk P w K mg base CX0 1 f fd ["self", "part"] (spI1 K "part") := by
  refine F.ok sc_Misfit_init (fun vs H Q E h => ?_) (fun cdv A outer s H vs Q E hr h => ?_)
  · obtain ⟨a, C, y, rfl, _⟩ := h
    rfl
  · obtain ⟨a, C, y, rfl, T, no, ha, k⟩ := h
    refine ⟨_, pss_one (ps_ost (pv 0) (pv 1)), ?_⟩
    exact ⟨_, rfl, _, rfl, a, C, rfl, T, no, .inl ⟨ha, fun dx n ne => k dx n ne⟩⟩
theorem ends_false {P : Program} {w : World} {K : PySem.W.Frag} {mg : Str → Option Value} {base : Heap} {f : Addr} {fd : FuncData} (F : Fun K "_law_ends" "_law_ends" s__law_ends f fd) : FnOk P w K mg base CX0 2 f fd ["tailor", "begin", "deep"] (spEPrev 0) := by
  refine F.ok sc__law_ends (fun vs H Q E h => ?_) (fun cdv A outer s H vs Q E hr h => ?_)
  · exact h.elim
  · exact h.elim
theorem ends_all {P : Program} {w : World} {K : PySem.W.Frag} {mg : Str → Option Value} {base : Heap} {f : Addr} {fd : FuncData} (F : Fun K "_law_ends" "_law_ends" s__law_ends f fd) (T : Txt mg) (mE : mg "_law_ends" = some (.ref f)) (kE : PySem.W.keepIn K (.ref f) = true) (bE : Binds K fd ["tailor", "begin", "deep"] [])
    (C : Cal P w K mg base 1 "_law_shear" ["tailor", "many"] spSift) : ∀ d, d ≤ 4 → FnOk P w K mg base CX0 (3 + d) f fd ["tailor", "begin", "deep"] (spEnds d)
  | 0, _ => ok_ends F T 0 (by decide) C ⟨f, fd, ends_false F, mE, kE, bE⟩
  | d + 1, h => ok_ends F T (d + 1) h C ⟨f, fd, by rw [show 2 + (d + 1) = 3 + d by omega]; exact ends_all F T mE kE bE C d (by omega), mE, kE, bE⟩
theorem all_mk {l : PySem.W.OpenLaw} {w : World} {K : PySem.W.Frag} {h : Heap} {mg : Str → Option Value} {fa : Addr} (X : K.In h) (G : h.Ns mainGlobals mg) (hfa : mg "law" = some (.ref fa))
    {od_is_row an_is_row : Option Addr} {sl_is_row : Array (Option Value)} {oc_is_row kV_is_row dc_is_row pm_is_row cd_is_row ct_is_row : Value} {f_is_row : Addr}
    (a_is_row : PySem.W.nsIn K mainGlobals "is_row" = some (some (.ref f_is_row))) (l_is_row : K.lookup f_is_row = some ⟨oc_is_row, od_is_row, .func (PySem.W.fnOf "is_row" "is_row" (defArgs s_is_row) (defBody s_is_row) (defScope s_is_row) .none kV_is_row dc_is_row pm_is_row an_is_row cd_is_row ct_is_row), sl_is_row⟩) (c_is_row : PySem.W.codeIn K cd_is_row "is_row" = true) (k_is_row : PySem.W.keepIn K (.ref f_is_row) = true)
    {od_is_signs an_is_signs : Option Addr} {sl_is_signs : Array (Option Value)} {oc_is_signs kV_is_signs dc_is_signs pm_is_signs cd_is_signs ct_is_signs : Value} {f_is_signs : Addr}
    (a_is_signs : PySem.W.nsIn K mainGlobals "is_signs" = some (some (.ref f_is_signs))) (l_is_signs : K.lookup f_is_signs = some ⟨oc_is_signs, od_is_signs, .func (PySem.W.fnOf "is_signs" "is_signs" (defArgs s_is_signs) (defBody s_is_signs) (defScope s_is_signs) .none kV_is_signs dc_is_signs pm_is_signs an_is_signs cd_is_signs ct_is_signs), sl_is_signs⟩) (c_is_signs : PySem.W.codeIn K cd_is_signs "is_signs" = true) (k_is_signs : PySem.W.keepIn K (.ref f_is_signs) = true)
    {od_is_name an_is_name : Option Addr} {sl_is_name : Array (Option Value)} {oc_is_name kV_is_name dc_is_name pm_is_name cd_is_name ct_is_name : Value} {f_is_name : Addr}
    (a_is_name : PySem.W.nsIn K mainGlobals "is_name" = some (some (.ref f_is_name))) (l_is_name : K.lookup f_is_name = some ⟨oc_is_name, od_is_name, .func (PySem.W.fnOf "is_name" "is_name" (defArgs s_is_name) (defBody s_is_name) (defScope s_is_name) .none kV_is_name dc_is_name pm_is_name an_is_name cd_is_name ct_is_name), sl_is_name⟩) (c_is_name : PySem.W.codeIn K cd_is_name "is_name" = true) (k_is_name : PySem.W.keepIn K (.ref f_is_name) = true)
    {od_need_names an_need_names : Option Addr} {sl_need_names : Array (Option Value)} {oc_need_names kV_need_names dc_need_names pm_need_names cd_need_names ct_need_names : Value} {f_need_names : Addr}
    (a_need_names : PySem.W.nsIn K mainGlobals "need_names" = some (some (.ref f_need_names))) (l_need_names : K.lookup f_need_names = some ⟨oc_need_names, od_need_names, .func (PySem.W.fnOf "need_names" "need_names" (defArgs s_need_names) (defBody s_need_names) (defScope s_need_names) .none kV_need_names dc_need_names pm_need_names an_need_names cd_need_names ct_need_names), sl_need_names⟩) (c_need_names : PySem.W.codeIn K cd_need_names "need_names" = true) (k_need_names : PySem.W.keepIn K (.ref f_need_names) = true)
    {od_need_apart an_need_apart : Option Addr} {sl_need_apart : Array (Option Value)} {oc_need_apart kV_need_apart dc_need_apart pm_need_apart cd_need_apart ct_need_apart : Value} {f_need_apart : Addr}
    (a_need_apart : PySem.W.nsIn K mainGlobals "need_apart" = some (some (.ref f_need_apart))) (l_need_apart : K.lookup f_need_apart = some ⟨oc_need_apart, od_need_apart, .func (PySem.W.fnOf "need_apart" "need_apart" (defArgs s_need_apart) (defBody s_need_apart) (defScope s_need_apart) .none kV_need_apart dc_need_apart pm_need_apart an_need_apart cd_need_apart ct_need_apart), sl_need_apart⟩) (c_need_apart : PySem.W.codeIn K cd_need_apart "need_apart" = true) (k_need_apart : PySem.W.keepIn K (.ref f_need_apart) = true)
    {od_are_apart an_are_apart : Option Addr} {sl_are_apart : Array (Option Value)} {oc_are_apart kV_are_apart dc_are_apart pm_are_apart cd_are_apart ct_are_apart : Value} {f_are_apart : Addr}
    (a_are_apart : PySem.W.nsIn K mainGlobals "are_apart" = some (some (.ref f_are_apart))) (l_are_apart : K.lookup f_are_apart = some ⟨oc_are_apart, od_are_apart, .func (PySem.W.fnOf "are_apart" "are_apart" (defArgs s_are_apart) (defBody s_are_apart) (defScope s_are_apart) .none kV_are_apart dc_are_apart pm_are_apart an_are_apart cd_are_apart ct_are_apart), sl_are_apart⟩) (c_are_apart : PySem.W.codeIn K cd_are_apart "are_apart" = true) (k_are_apart : PySem.W.keepIn K (.ref f_are_apart) = true)
    {od_cut_text an_cut_text : Option Addr} {sl_cut_text : Array (Option Value)} {oc_cut_text kV_cut_text dc_cut_text pm_cut_text cd_cut_text ct_cut_text : Value} {f_cut_text : Addr}
    (a_cut_text : PySem.W.nsIn K mainGlobals "cut_text" = some (some (.ref f_cut_text))) (l_cut_text : K.lookup f_cut_text = some ⟨oc_cut_text, od_cut_text, .func (PySem.W.fnOf "cut_text" "cut_text" (defArgs s_cut_text) (defBody s_cut_text) (defScope s_cut_text) .none kV_cut_text dc_cut_text pm_cut_text an_cut_text cd_cut_text ct_cut_text), sl_cut_text⟩) (c_cut_text : PySem.W.codeIn K cd_cut_text "cut_text" = true) (k_cut_text : PySem.W.keepIn K (.ref f_cut_text) = true)
    {od_name_at an_name_at : Option Addr} {sl_name_at : Array (Option Value)} {oc_name_at kV_name_at dc_name_at pm_name_at cd_name_at ct_name_at : Value} {f_name_at : Addr}
    (a_name_at : PySem.W.nsIn K mainGlobals "name_at" = some (some (.ref f_name_at))) (l_name_at : K.lookup f_name_at = some ⟨oc_name_at, od_name_at, .func (PySem.W.fnOf "name_at" "name_at" (defArgs s_name_at) (defBody s_name_at) (defScope s_name_at) .none kV_name_at dc_name_at pm_name_at an_name_at cd_name_at ct_name_at), sl_name_at⟩) (c_name_at : PySem.W.codeIn K cd_name_at "name_at" = true) (k_name_at : PySem.W.keepIn K (.ref f_name_at) = true)
    {od__law_tailor an__law_tailor : Option Addr} {sl__law_tailor : Array (Option Value)} {oc__law_tailor kV__law_tailor dc__law_tailor pm__law_tailor cd__law_tailor ct__law_tailor : Value} {f__law_tailor : Addr}
    (a__law_tailor : PySem.W.nsIn K mainGlobals "_law_tailor" = some (some (.ref f__law_tailor))) (l__law_tailor : K.lookup f__law_tailor = some ⟨oc__law_tailor, od__law_tailor, .func (PySem.W.fnOf "_law_tailor" "_law_tailor" (defArgs s__law_tailor) (defBody s__law_tailor) (defScope s__law_tailor) .none kV__law_tailor dc__law_tailor pm__law_tailor an__law_tailor cd__law_tailor ct__law_tailor), sl__law_tailor⟩) (c__law_tailor : PySem.W.codeIn K cd__law_tailor "_law_tailor" = true) (k__law_tailor : PySem.W.keepIn K (.ref f__law_tailor) = true)
    {od__law_shear an__law_shear : Option Addr} {sl__law_shear : Array (Option Value)} {oc__law_shear kV__law_shear dc__law_shear pm__law_shear cd__law_shear ct__law_shear : Value} {f__law_shear : Addr}
    (a__law_shear : PySem.W.nsIn K mainGlobals "_law_shear" = some (some (.ref f__law_shear))) (l__law_shear : K.lookup f__law_shear = some ⟨oc__law_shear, od__law_shear, .func (PySem.W.fnOf "_law_shear" "_law_shear" (defArgs s__law_shear) (defBody s__law_shear) (defScope s__law_shear) .none kV__law_shear dc__law_shear pm__law_shear an__law_shear cd__law_shear ct__law_shear), sl__law_shear⟩) (c__law_shear : PySem.W.codeIn K cd__law_shear "_law_shear" = true) (k__law_shear : PySem.W.keepIn K (.ref f__law_shear) = true)
    {od__law_cloth an__law_cloth : Option Addr} {sl__law_cloth : Array (Option Value)} {oc__law_cloth kV__law_cloth dc__law_cloth pm__law_cloth cd__law_cloth ct__law_cloth : Value} {f__law_cloth : Addr}
    (a__law_cloth : PySem.W.nsIn K mainGlobals "_law_cloth" = some (some (.ref f__law_cloth))) (l__law_cloth : K.lookup f__law_cloth = some ⟨oc__law_cloth, od__law_cloth, .func (PySem.W.fnOf "_law_cloth" "_law_cloth" (defArgs s__law_cloth) (defBody s__law_cloth) (defScope s__law_cloth) .none kV__law_cloth dc__law_cloth pm__law_cloth an__law_cloth cd__law_cloth ct__law_cloth), sl__law_cloth⟩) (c__law_cloth : PySem.W.codeIn K cd__law_cloth "_law_cloth" = true) (k__law_cloth : PySem.W.keepIn K (.ref f__law_cloth) = true)
    {od__law_ends an__law_ends : Option Addr} {sl__law_ends : Array (Option Value)} {oc__law_ends kV__law_ends dc__law_ends pm__law_ends cd__law_ends ct__law_ends : Value} {f__law_ends : Addr}
    (a__law_ends : PySem.W.nsIn K mainGlobals "_law_ends" = some (some (.ref f__law_ends))) (l__law_ends : K.lookup f__law_ends = some ⟨oc__law_ends, od__law_ends, .func (PySem.W.fnOf "_law_ends" "_law_ends" (defArgs s__law_ends) (defBody s__law_ends) (defScope s__law_ends) .none kV__law_ends dc__law_ends pm__law_ends an__law_ends cd__law_ends ct__law_ends), sl__law_ends⟩) (c__law_ends : PySem.W.codeIn K cd__law_ends "_law_ends" = true) (k__law_ends : PySem.W.keepIn K (.ref f__law_ends) = true)
    {od__law_names an__law_names : Option Addr} {sl__law_names : Array (Option Value)} {oc__law_names kV__law_names dc__law_names pm__law_names cd__law_names ct__law_names : Value} {f__law_names : Addr}
    (a__law_names : PySem.W.nsIn K mainGlobals "_law_names" = some (some (.ref f__law_names))) (l__law_names : K.lookup f__law_names = some ⟨oc__law_names, od__law_names, .func (PySem.W.fnOf "_law_names" "_law_names" (defArgs s__law_names) (defBody s__law_names) (defScope s__law_names) .none kV__law_names dc__law_names pm__law_names an__law_names cd__law_names ct__law_names), sl__law_names⟩) (c__law_names : PySem.W.codeIn K cd__law_names "_law_names" = true) (k__law_names : PySem.W.keepIn K (.ref f__law_names) = true)
    {od__law_cut an__law_cut : Option Addr} {sl__law_cut : Array (Option Value)} {oc__law_cut kV__law_cut dc__law_cut pm__law_cut cd__law_cut ct__law_cut : Value} {f__law_cut : Addr}
    (a__law_cut : PySem.W.nsIn K mainGlobals "_law_cut" = some (some (.ref f__law_cut))) (l__law_cut : K.lookup f__law_cut = some ⟨oc__law_cut, od__law_cut, .func (PySem.W.fnOf "_law_cut" "_law_cut" (defArgs s__law_cut) (defBody s__law_cut) (defScope s__law_cut) .none kV__law_cut dc__law_cut pm__law_cut an__law_cut cd__law_cut ct__law_cut), sl__law_cut⟩) (c__law_cut : PySem.W.codeIn K cd__law_cut "_law_cut" = true) (k__law_cut : PySem.W.keepIn K (.ref f__law_cut) = true)
    {od__law_bent an__law_bent : Option Addr} {sl__law_bent : Array (Option Value)} {oc__law_bent kV__law_bent dc__law_bent pm__law_bent cd__law_bent ct__law_bent : Value} {f__law_bent : Addr}
    (a__law_bent : PySem.W.nsIn K mainGlobals "_law_bent" = some (some (.ref f__law_bent))) (l__law_bent : K.lookup f__law_bent = some ⟨oc__law_bent, od__law_bent, .func (PySem.W.fnOf "_law_bent" "_law_bent" (defArgs s__law_bent) (defBody s__law_bent) (defScope s__law_bent) .none kV__law_bent dc__law_bent pm__law_bent an__law_bent cd__law_bent ct__law_bent), sl__law_bent⟩) (c__law_bent : PySem.W.codeIn K cd__law_bent "_law_bent" = true) (k__law_bent : PySem.W.keepIn K (.ref f__law_bent) = true)
    {od__law_heard an__law_heard : Option Addr} {sl__law_heard : Array (Option Value)} {oc__law_heard kV__law_heard dc__law_heard pm__law_heard cd__law_heard ct__law_heard : Value} {f__law_heard : Addr}
    (a__law_heard : PySem.W.nsIn K mainGlobals "_law_heard" = some (some (.ref f__law_heard))) (l__law_heard : K.lookup f__law_heard = some ⟨oc__law_heard, od__law_heard, .func (PySem.W.fnOf "_law_heard" "_law_heard" (defArgs s__law_heard) (defBody s__law_heard) (defScope s__law_heard) .none kV__law_heard dc__law_heard pm__law_heard an__law_heard cd__law_heard ct__law_heard), sl__law_heard⟩) (c__law_heard : PySem.W.codeIn K cd__law_heard "_law_heard" = true) (k__law_heard : PySem.W.keepIn K (.ref f__law_heard) = true)
    {od__law_refused_right an__law_refused_right : Option Addr} {sl__law_refused_right : Array (Option Value)} {oc__law_refused_right kV__law_refused_right dc__law_refused_right pm__law_refused_right cd__law_refused_right ct__law_refused_right : Value} {f__law_refused_right : Addr}
    (a__law_refused_right : PySem.W.nsIn K mainGlobals "_law_refused_right" = some (some (.ref f__law_refused_right))) (l__law_refused_right : K.lookup f__law_refused_right = some ⟨oc__law_refused_right, od__law_refused_right, .func (PySem.W.fnOf "_law_refused_right" "_law_refused_right" (defArgs s__law_refused_right) (defBody s__law_refused_right) (defScope s__law_refused_right) .none kV__law_refused_right dc__law_refused_right pm__law_refused_right an__law_refused_right cd__law_refused_right ct__law_refused_right), sl__law_refused_right⟩) (c__law_refused_right : PySem.W.codeIn K cd__law_refused_right "_law_refused_right" = true) (k__law_refused_right : PySem.W.keepIn K (.ref f__law_refused_right) = true)
    {od_law an_law : Option Addr} {sl_law : Array (Option Value)} {oc_law kV_law dc_law pm_law cd_law ct_law : Value} {f_law : Addr}
    (a_law : PySem.W.nsIn K mainGlobals "law" = some (some (.ref f_law))) (l_law : K.lookup f_law = some ⟨oc_law, od_law, .func (PySem.W.fnOf "law" "law" (defArgs s_law) (defBody s_law) (defScope s_law) .none kV_law dc_law pm_law an_law cd_law ct_law), sl_law⟩) (c_law : PySem.W.codeIn K cd_law "law" = true) (k_law : PySem.W.keepIn K (.ref f_law) = true)
    (z_isinstance : PySem.W.nsIn K mainGlobals "isinstance" = some none)
    (z_list : PySem.W.nsIn K mainGlobals "list" = some none)
    (z_tuple : PySem.W.nsIn K mainGlobals "tuple" = some none)
    (z_len : PySem.W.nsIn K mainGlobals "len" = some none)
    (z_str : PySem.W.nsIn K mainGlobals "str" = some none)
    (z_all : PySem.W.nsIn K mainGlobals "all" = some none)
    (z_sorted : PySem.W.nsIn K mainGlobals "sorted" = some none)
    (z_any : PySem.W.nsIn K mainGlobals "any" = some none)
    (z_range : PySem.W.nsIn K mainGlobals "range" = some none)
    (z_enumerate : PySem.W.nsIn K mainGlobals "enumerate" = some none)
    (z_int : PySem.W.nsIn K mainGlobals "int" = some none)
    (z_abs : PySem.W.nsIn K mainGlobals "abs" = some none)
    (z_repr : PySem.W.nsIn K mainGlobals "repr" = some none)
    (z_ValueError : PySem.W.nsIn K mainGlobals "ValueError" = some none)
    {t_MOST_SIGNS : Tok} (g_MOST_SIGNS : PySem.W.nsIn K mainGlobals "MOST_SIGNS" = some (some (.int 60 t_MOST_SIGNS)))
    {t_MOST_NAMES : Tok} (g_MOST_NAMES : PySem.W.nsIn K mainGlobals "MOST_NAMES" = some (some (.int 200 t_MOST_NAMES)))
    {t_MOST_TEXT : Tok} (g_MOST_TEXT : PySem.W.nsIn K mainGlobals "MOST_TEXT" = some (some (.int 2000 t_MOST_TEXT)))
    {cT PT : Addr} {ocT : Value} {odT : Option Addr} {vsT : Array Value} {slT : Array (Option Value)} (eT : cd__law_refused_right = .ref cT) (lT : K.lookup cT = some ⟨ocT, odT, .fields vsT, slT⟩) (vT : vsT[11]? = some (.ref PT)) (hT : PySem.W.codeHdIn K cT PT = true) (nT : K.lookup PT = none) (tT : h.get? PT = some emptyTab)
    {nm_BadName q_BadName : Str} {N_BadName_ : Addr} {bs_BadName bm_BadName : List Value} {sn_BadName : List Str} {sub_BadName : List Value} {ab_BadName : Bool} {col_BadName : Option Bool} {dd_BadName : Option Addr} {m0_BadName m1_BadName m2_BadName m3_BadName m5_BadName : Option Value} {c_BadName f_BadName : Addr}
    {od_BadName an_BadName : Option Addr} {sl_BadName : Array (Option Value)} {oc_BadName kV_BadName dc_BadName pm_BadName cd_BadName ct_BadName : Value}
    (at_BadName : PySem.W.nsIn K mainGlobals "BadName" = some (some (.ref c_BadName)))
    (xL_BadName : K.lookup c_BadName = some (excClassObj nm_BadName q_BadName c_BadName N_BadName_ bs_BadName bm_BadName true sn_BadName sub_BadName ab_BadName col_BadName dd_BadName m0_BadName m1_BadName m2_BadName m3_BadName m5_BadName "ValueError.__new__"))
    (rv_BadName : PySem.HandSPX.refsVE bm_BadName = true)
    (sa_BadName : PySem.W.findIn K (.ref c_BadName) "__setattr__" = some (some (.builtin "object.__setattr__")))
    (eC_BadName : PySem.W.subIn K (.ref c_BadName) (.type "BaseException") = some true)
    (tC_BadName : PySem.W.typeIn K (.ref c_BadName) = some (.type "type"))
    (kC_BadName : PySem.W.keepIn K (.ref c_BadName) = true)
    (ga_BadName : PySem.W.findIn K (.ref c_BadName) "__getattribute__" = some (some (.builtin "BaseException.__getattribute__")))
    (gg_BadName : PySem.W.findIn K (.ref c_BadName) "__getattr__" = some none)
    (hd_BadName : PySem.W.hasDictIn K c_BadName = true)
    (cA_BadName : PySem.W.findIn K (.ref c_BadName) "__class__" = some (some (.builtin "object.__class__")))
    (cm_BadName : PySem.W.mroIn K c_BadName (.type "object") = some true)
    (no_BadName : PySem.W.findIn K (.ref c_BadName) "part" = some none)
    (ai_BadName : PySem.W.findIn K (.ref c_BadName) "__init__" = some (some (.ref f_BadName)))
    (ti_BadName : PySem.W.typeIn K (.ref f_BadName) = some (.type "function"))
    (li_BadName : K.lookup f_BadName = some ⟨oc_BadName, od_BadName, .func (PySem.W.fnOf "__init__" "BadName.__init__" (defArgs s_BadName_init) (defBody s_BadName_init) (defScope s_BadName_init) .none kV_BadName dc_BadName pm_BadName an_BadName cd_BadName ct_BadName), sl_BadName⟩)
    (ci_BadName : PySem.W.codeIn K cd_BadName "BadName.__init__" = true)
    (ki_BadName : PySem.W.keepIn K (.ref f_BadName) = true)
    {nm_Misfit q_Misfit : Str} {N_Misfit_ : Addr} {bs_Misfit bm_Misfit : List Value} {sn_Misfit : List Str} {sub_Misfit : List Value} {ab_Misfit : Bool} {col_Misfit : Option Bool} {dd_Misfit : Option Addr} {m0_Misfit m1_Misfit m2_Misfit m3_Misfit m5_Misfit : Option Value} {c_Misfit f_Misfit : Addr}
    {od_Misfit an_Misfit : Option Addr} {sl_Misfit : Array (Option Value)} {oc_Misfit kV_Misfit dc_Misfit pm_Misfit cd_Misfit ct_Misfit : Value}
    (at_Misfit : PySem.W.nsIn K mainGlobals "Misfit" = some (some (.ref c_Misfit)))
    (xL_Misfit : K.lookup c_Misfit = some (excClassObj nm_Misfit q_Misfit c_Misfit N_Misfit_ bs_Misfit bm_Misfit true sn_Misfit sub_Misfit ab_Misfit col_Misfit dd_Misfit m0_Misfit m1_Misfit m2_Misfit m3_Misfit m5_Misfit "ValueError.__new__"))
    (rv_Misfit : PySem.HandSPX.refsVE bm_Misfit = true)
    (sa_Misfit : PySem.W.findIn K (.ref c_Misfit) "__setattr__" = some (some (.builtin "object.__setattr__")))
    (eC_Misfit : PySem.W.subIn K (.ref c_Misfit) (.type "BaseException") = some true)
    (tC_Misfit : PySem.W.typeIn K (.ref c_Misfit) = some (.type "type"))
    (kC_Misfit : PySem.W.keepIn K (.ref c_Misfit) = true)
    (ga_Misfit : PySem.W.findIn K (.ref c_Misfit) "__getattribute__" = some (some (.builtin "BaseException.__getattribute__")))
    (gg_Misfit : PySem.W.findIn K (.ref c_Misfit) "__getattr__" = some none)
    (hd_Misfit : PySem.W.hasDictIn K c_Misfit = true)
    (cA_Misfit : PySem.W.findIn K (.ref c_Misfit) "__class__" = some (some (.builtin "object.__class__")))
    (cm_Misfit : PySem.W.mroIn K c_Misfit (.type "object") = some true)
    (no_Misfit : PySem.W.findIn K (.ref c_Misfit) "part" = some none)
    (ai_Misfit : PySem.W.findIn K (.ref c_Misfit) "__init__" = some (some (.ref f_Misfit)))
    (ti_Misfit : PySem.W.typeIn K (.ref f_Misfit) = some (.type "function"))
    (li_Misfit : K.lookup f_Misfit = some ⟨oc_Misfit, od_Misfit, .func (PySem.W.fnOf "__init__" "Misfit.__init__" (defArgs s_Misfit_init) (defBody s_Misfit_init) (defScope s_Misfit_init) .none kV_Misfit dc_Misfit pm_Misfit an_Misfit cd_Misfit ct_Misfit), sl_Misfit⟩)
    (ci_Misfit : PySem.W.codeIn K cd_Misfit "Misfit.__init__" = true)
    (ki_Misfit : PySem.W.keepIn K (.ref f_Misfit) = true)
    (cg : PySem.W.specialIn K (.builtin "object.__class__") "__get__" = some (some (.builtin "getset_descriptor.__get__")))
    (ct : PySem.W.takesIn K (.builtin "object.__class__") = some true)
    {c_TickError : Addr}
    (at_TickError : PySem.W.nsIn K mainGlobals "TickError" = some (some (.ref c_TickError)))
    (kBB : PySem.W.kitOne K (.ref c_BadName) (.ref c_BadName) = some true)
    (kBM : PySem.W.kitOne K (.ref c_BadName) (.ref c_Misfit) = some false)
    (kMB : PySem.W.kitOne K (.ref c_Misfit) (.ref c_BadName) = some false)
    (kMM : PySem.W.kitOne K (.ref c_Misfit) (.ref c_Misfit) = some true)
    (eb : PySem.W.subIn K (.ref c_TickError) (.type "BaseException") = some true)
    (ekB : PySem.W.kitCls K (.ref c_BadName) (.ref c_TickError) = some true)
    (ekM : PySem.W.kitCls K (.ref c_Misfit) (.ref c_TickError) = some true)
    : LawTG l w K 10 63 "script" mg fa h := by
  have e := hfa.symm.trans (PySem.W.mg_of X G a_law)
  cases e
  have T : Txt mg := ⟨PySem.W.mg_none_of X G z_isinstance, PySem.W.mg_none_of X G z_list, PySem.W.mg_none_of X G z_tuple, PySem.W.mg_none_of X G z_len, PySem.W.mg_none_of X G z_str, PySem.W.mg_none_of X G z_all, PySem.W.mg_none_of X G z_sorted, PySem.W.mg_none_of X G z_any, PySem.W.mg_none_of X G z_range, PySem.W.mg_none_of X G z_enumerate, PySem.W.mg_none_of X G z_int, PySem.W.mg_none_of X G z_abs, PySem.W.mg_none_of X G z_repr, PySem.W.mg_none_of X G z_ValueError, ⟨_, PySem.W.mg_of X G g_MOST_SIGNS⟩, ⟨_, PySem.W.mg_of X G g_MOST_NAMES⟩, ⟨_, PySem.W.mg_of X G g_MOST_TEXT⟩⟩
  have F_is_row := fun_mk (st := s_is_row) l_is_row c_is_row k_is_row
  have b_is_row := F_is_row.binds (ps := ["value", "least", "most"]) fun _ _ _ _ _ _ us hl => match us, hl with | [_, _, _], _ => rfl
  have m_is_row := PySem.W.mg_of X G a_is_row
  have F_is_signs := fun_mk (st := s_is_signs) l_is_signs c_is_signs k_is_signs
  have b_is_signs := F_is_signs.binds (ps := ["value", "least", "most"]) fun _ _ _ _ _ _ us hl => match us, hl with | [_, _, _], _ => rfl
  have m_is_signs := PySem.W.mg_of X G a_is_signs
  have F_is_name := fun_mk (st := s_is_name) l_is_name c_is_name k_is_name
  have b_is_name := F_is_name.binds (ps := ["value"]) fun _ _ _ _ _ _ us hl => match us, hl with | [_], _ => rfl
  have m_is_name := PySem.W.mg_of X G a_is_name
  have F_need_names := fun_mk (st := s_need_names) l_need_names c_need_names k_need_names
  have b_need_names := F_need_names.binds (ps := ["names"]) fun _ _ _ _ _ _ us hl => match us, hl with | [_], _ => rfl
  have m_need_names := PySem.W.mg_of X G a_need_names
  have F_need_apart := fun_mk (st := s_need_apart) l_need_apart c_need_apart k_need_apart
  have b_need_apart := F_need_apart.binds (ps := ["names"]) fun _ _ _ _ _ _ us hl => match us, hl with | [_], _ => rfl
  have m_need_apart := PySem.W.mg_of X G a_need_apart
  have F_are_apart := fun_mk (st := s_are_apart) l_are_apart c_are_apart k_are_apart
  have b_are_apart := F_are_apart.binds (ps := ["names"]) fun _ _ _ _ _ _ us hl => match us, hl with | [_], _ => rfl
  have m_are_apart := PySem.W.mg_of X G a_are_apart
  have F_cut_text := fun_mk (st := s_cut_text) l_cut_text c_cut_text k_cut_text
  have b_cut_text := F_cut_text.binds (ps := ["names", "text"]) fun _ _ _ _ _ _ us hl => match us, hl with | [_, _], _ => rfl
  have m_cut_text := PySem.W.mg_of X G a_cut_text
  have F_name_at := fun_mk (st := s_name_at) l_name_at c_name_at k_name_at
  have b_name_at := F_name_at.binds (ps := ["text", "start", "places"]) fun _ _ _ _ _ _ us hl => match us, hl with | [_, _, _], _ => rfl
  have m_name_at := PySem.W.mg_of X G a_name_at
  have F__law_tailor := fun_mk (st := s__law_tailor) l__law_tailor c__law_tailor k__law_tailor
  have b__law_tailor := F__law_tailor.binds (ps := ["script"]) fun _ _ _ _ _ _ us hl => match us, hl with | [_], _ => rfl
  have m__law_tailor := PySem.W.mg_of X G a__law_tailor
  have F__law_shear := fun_mk (st := s__law_shear) l__law_shear c__law_shear k__law_shear
  have b__law_shear := F__law_shear.binds (ps := ["tailor", "many"]) fun _ _ _ _ _ _ us hl => match us, hl with | [_, _], _ => rfl
  have m__law_shear := PySem.W.mg_of X G a__law_shear
  have F__law_cloth := fun_mk (st := s__law_cloth) l__law_cloth c__law_cloth k__law_cloth
  have b__law_cloth := F__law_cloth.binds (ps := ["tailor", "some"]) fun _ _ _ _ _ _ us hl => match us, hl with | [_, _], _ => rfl
  have m__law_cloth := PySem.W.mg_of X G a__law_cloth
  have F__law_ends := fun_mk (st := s__law_ends) l__law_ends c__law_ends k__law_ends
  have b__law_ends := F__law_ends.binds (ps := ["tailor", "begin", "deep"]) fun _ _ _ _ _ _ us hl => match us, hl with | [_, _, _], _ => rfl
  have m__law_ends := PySem.W.mg_of X G a__law_ends
  have F__law_names := fun_mk (st := s__law_names) l__law_names c__law_names k__law_names
  have b__law_names := F__law_names.binds (ps := ["tailor"]) fun _ _ _ _ _ _ us hl => match us, hl with | [_], _ => rfl
  have m__law_names := PySem.W.mg_of X G a__law_names
  have F__law_cut := fun_mk (st := s__law_cut) l__law_cut c__law_cut k__law_cut
  have b__law_cut := F__law_cut.binds (ps := ["names", "text"]) fun _ _ _ _ _ _ us hl => match us, hl with | [_, _], _ => rfl
  have m__law_cut := PySem.W.mg_of X G a__law_cut
  have F__law_bent := fun_mk (st := s__law_bent) l__law_bent c__law_bent k__law_bent
  have b__law_bent := F__law_bent.binds (ps := ["tailor", "text"]) fun _ _ _ _ _ _ us hl => match us, hl with | [_, _], _ => rfl
  have m__law_bent := PySem.W.mg_of X G a__law_bent
  have F__law_heard := fun_mk (st := s__law_heard) l__law_heard c__law_heard k__law_heard
  have b__law_heard := F__law_heard.binds (ps := ["ask"]) fun _ _ _ _ _ _ us hl => match us, hl with | [_], _ => rfl
  have m__law_heard := PySem.W.mg_of X G a__law_heard
  have F__law_refused_right := fun_mk (st := s__law_refused_right) l__law_refused_right c__law_refused_right k__law_refused_right
  have b__law_refused_right := F__law_refused_right.binds (ps := ["tailor", "names"]) fun _ _ _ _ _ _ us hl => match us, hl with | [_, _], _ => rfl
  have m__law_refused_right := PySem.W.mg_of X G a__law_refused_right
  have F_law := fun_mk (st := s_law) l_law c_law k_law
  have O_BadName : OexC K c_BadName := ⟨⟨nm_BadName, q_BadName, N_BadName_, bs_BadName, bm_BadName, sn_BadName, sub_BadName, ab_BadName, col_BadName, dd_BadName, m0_BadName, m1_BadName, m2_BadName, m3_BadName, m5_BadName, xL_BadName, rv_BadName⟩, sa_BadName, eC_BadName, tC_BadName, kC_BadName⟩
  have E_BadName : ExC K c_BadName := ⟨O_BadName, ga_BadName, gg_BadName, hd_BadName, cA_BadName, cg, ct, cm_BadName⟩
  have F_BadName := fun_mk (st := s_BadName_init) li_BadName ci_BadName ki_BadName
  have M_BadName := PySem.W.mg_of X G at_BadName
  have O_Misfit : OexC K c_Misfit := ⟨⟨nm_Misfit, q_Misfit, N_Misfit_, bs_Misfit, bm_Misfit, sn_Misfit, sub_Misfit, ab_Misfit, col_Misfit, dd_Misfit, m0_Misfit, m1_Misfit, m2_Misfit, m3_Misfit, m5_Misfit, xL_Misfit, rv_Misfit⟩, sa_Misfit, eC_Misfit, tC_Misfit, kC_Misfit⟩
  have E_Misfit : ExC K c_Misfit := ⟨O_Misfit, ga_Misfit, gg_Misfit, hd_Misfit, cA_Misfit, cg, ct, cm_Misfit⟩
  have F_Misfit := fun_mk (st := s_Misfit_init) li_Misfit ci_Misfit ki_Misfit
  have M_Misfit := PySem.W.mg_of X G at_Misfit
  have exB : PySem.W.exmOne K (.ref c_BadName) (.ref c_TickError) = some true := by
    unfold PySem.W.exmOne
    rw [eb]
    exact ekB
  have exM : PySem.W.exmOne K (.ref c_Misfit) (.ref c_TickError) = some true := by
    unfold PySem.W.exmOne
    rw [eb]
    exact ekM

  refine ⟨PySem.W.fnOf "law" "law" (defArgs s_law) (defBody s_law) (defScope s_law) .none kV_law dc_law pm_law an_law cd_law ct_law, [(cT, PT)], spLawT PT K, ?_, ?_, ?_, fun s v => .of_eq rfl, ?_, fun base inB gB TBs => ?_⟩
  · intro p hp
    rw [List.mem_singleton.mp hp]
    exact tT
  · intro p hp
    rw [List.mem_singleton.mp hp]
    exact nT
  · intro p hp
    rw [List.mem_singleton.mp hp]
    exact PySem.W.codeHd_of_K X hT
  · intro H a ns hl hb hH hS
    exact ⟨a, ns, rfl, hS, hH _ (List.mem_singleton.mpr rfl), fun _ => rfl⟩
  have TB := TBs _ (List.mem_singleton.mpr rfl)
  have R_BadName : Rcl l.prog w K mg base "BadName" c_BadName "part" := ⟨O_BadName, M_BadName, no_BadName, f_BadName, _, _, ai_BadName, ti_BadName, ok_BadName F_BadName, F_BadName.binds (ps := ["self", "part"]) fun _ _ _ _ _ _ us hl => match us, hl with | [_, _], _ => rfl⟩
  have R_Misfit : Rcl l.prog w K mg base "Misfit" c_Misfit "part" := ⟨O_Misfit, M_Misfit, no_Misfit, f_Misfit, _, _, ai_Misfit, ti_Misfit, ok_Misfit F_Misfit, F_Misfit.binds (ps := ["self", "part"]) fun _ _ _ _ _ _ us hl => match us, hl with | [_, _], _ => rfl⟩
  have C_is_row : Cal l.prog w K mg base 1 "is_row" ["value", "least", "most"] (spRow) := ⟨_, _, ok_is_row F_is_row T, m_is_row, k_is_row, b_is_row⟩
  have C_is_signs : Cal l.prog w K mg base 1 "is_signs" ["value", "least", "most"] (spSig) := ⟨_, _, ok_is_signs F_is_signs T, m_is_signs, k_is_signs, b_is_signs⟩
  have C_is_name : Cal l.prog w K mg base 2 "is_name" ["value"] (spAny1 fun _ v => nameB v) := ⟨_, _, ok_is_name F_is_name T C_is_signs, m_is_name, k_is_name, b_is_name⟩
  have C_need_names : CalX l.prog w K mg base 3 "need_names" ["names"] (spNeed c_BadName) := ⟨_, _, ok_need_names F_need_names T R_BadName C_is_row C_is_name, m_need_names, k_need_names, b_need_names⟩
  have C_are_apart : CalX l.prog w K mg base 4 "are_apart" ["names"] (spApart c_BadName) := ⟨_, _, ok_are_apart F_are_apart T C_need_names, m_are_apart, k_are_apart, b_are_apart⟩
  have C_need_apart : CalX l.prog w K mg base 5 "need_apart" ["names"] (spNeedAp c_BadName c_Misfit) := ⟨_, _, ok_need_apart F_need_apart T R_Misfit C_are_apart, m_need_apart, k_need_apart, b_need_apart⟩
  have C_name_at : Cal l.prog w K mg base 1 "name_at" ["text", "start", "places"] (spNameAt) := ⟨_, _, ok_name_at F_name_at T, m_name_at, k_name_at, b_name_at⟩
  have C_cut_text : CalX l.prog w K mg base 6 "cut_text" ["names", "text"] (spCut c_BadName c_Misfit) := ⟨_, _, ok_cut_text F_cut_text T R_BadName C_need_names C_is_signs C_need_apart C_name_at, m_cut_text, k_cut_text, b_cut_text⟩
  have K_cut_text : CalXK l.prog w K mg base 6 "cut_text" ["names", "text"] ["text", "names"] (fun l => l.reverse) (spCut c_BadName c_Misfit) := ⟨_, _, _, ok_cut_text F_cut_text T R_BadName C_need_names C_is_signs C_need_apart C_name_at, m_cut_text, k_cut_text, Fun.kb F_cut_text (fun l => l.reverse) (vals_rev) fun _ _ _ _ _ _ ws hl => match ws, hl with | [_, _], _ => rfl⟩
  have C__law_tailor : Cal l.prog w K mg base 1 "_law_tailor" ["script"] (spSieve K) := ⟨_, _, ok_sieve F__law_tailor T, m__law_tailor, k__law_tailor, b__law_tailor⟩
  have C__law_shear : Cal l.prog w K mg base 1 "_law_shear" ["tailor", "many"] (spSift) := ⟨_, _, ok_sift F__law_shear T, m__law_shear, k__law_shear, b__law_shear⟩
  have C__law_cloth : Cal l.prog w K mg base 2 "_law_cloth" ["tailor", "some"] (spOne) := ⟨_, _, ok_one F__law_cloth T C__law_shear, m__law_cloth, k__law_cloth, b__law_cloth⟩
  have C__law_ends : Cal l.prog w K mg base 7 "_law_ends" ["tailor", "begin", "deep"] spAnyEnds := ⟨_, _, fnOk_any (ends_all F__law_ends T m__law_ends k__law_ends b__law_ends C__law_shear), m__law_ends, k__law_ends, b__law_ends⟩
  have C__law_names : Cal l.prog w K mg base 8 "_law_names" ["tailor"] (spNames) := ⟨_, _, ok_names F__law_names T C__law_shear C__law_cloth C__law_ends, m__law_names, k__law_names, b__law_names⟩
  have C__law_cut : Cal l.prog w K mg base 1 "_law_cut" ["names", "text"] (spOwnCut) := ⟨_, _, ok_own_cut F__law_cut T, m__law_cut, k__law_cut, b__law_cut⟩
  have C__law_bent : Cal l.prog w K mg base 3 "_law_bent" ["tailor", "text"] (spBent) := ⟨_, _, ok_bent F__law_bent T C__law_shear C__law_cloth, m__law_bent, k__law_bent, b__law_bent⟩
  have C__law_refused_right : CalG l.prog w K mg base 9 "_law_refused_right" ["tailor", "names"] (spRefused PT) := ⟨_, _, ok_refused F__law_refused_right eT TB T F__law_heard m__law_heard k__law_heard b__law_heard E_BadName E_Misfit M_BadName M_Misfit (PySem.W.mg_of X G at_TickError) no_BadName no_Misfit kBB kBM kMB kMM exB exM C_cut_text C__law_cloth, m__law_refused_right, k__law_refused_right, b__law_refused_right⟩
  exact ok_law F_law T C_cut_text K_cut_text C__law_tailor C__law_shear C__law_cloth C__law_names C__law_cut C__law_bent C__law_refused_right

theorem walk {l : PySem.W.OpenLaw} {q : Program} {loose : List Str} {XP : (Str → Option Value) → Heap → Prop} {YP : World → Heap → Prop} {d : DefRec} {K : Params → PySem.W.Frag} (hn : l.most = some 63) (hdf : d.params.defaults = [])
    (hY : ∀ (w : World) (h : Heap), YP w h → (K w.params).In h)
    (F : ∀ (w : World) (mg : Str → Option Value) (fa : Addr) (h : Heap), YP w h → (K w.params).In h → h.Ns mainGlobals mg → mg d.name = some (.ref fa) → LawTG l w (K w.params) 10 63 "script" mg fa h) :
    PySem.W.WalkO q loose XP YP l.row.toRowW d [] (fun f vs => PySem.call f vs) :=
  Own.walk_ofTG (n := 63) (k := 10) (x := "script") hn (by decide) hdf ⟨rfl, by decide, by decide⟩ hY F
end K06

open PySem PySem.W PyProof.Rows in
set_option maxRecDepth 100000 in
set_option maxHeartbeats 0 in
theorem PySem.Challenge.cw_duetickers_k06_texts_cut_into_names_holds : PySem.Challenge.rw_duetickers_k06_texts_cut_into_names.Holds := by
  w_on; o_law; k_head; (case hw => w_witness2)
  k_fill
  refine K06.walk (l := PySem.Challenge.rw_duetickers_k06_texts_cut_into_names) rfl rfl (fun w h Y => PySem.W.km_in_of Y) ?F
  case F =>
    intro w mg fa h Y KX G hmg
    refine' K06.all_mk KX G hmg ?a_is_row ?l_is_row ?c_is_row ?k_is_row ?a_is_signs ?l_is_signs ?c_is_signs ?k_is_signs ?a_is_name ?l_is_name ?c_is_name ?k_is_name ?a_need_names ?l_need_names ?c_need_names ?k_need_names ?a_need_apart ?l_need_apart ?c_need_apart ?k_need_apart ?a_are_apart ?l_are_apart ?c_are_apart ?k_are_apart ?a_cut_text ?l_cut_text ?c_cut_text ?k_cut_text ?a_name_at ?l_name_at ?c_name_at ?k_name_at ?a__law_tailor ?l__law_tailor ?c__law_tailor ?k__law_tailor ?a__law_shear ?l__law_shear ?c__law_shear ?k__law_shear ?a__law_cloth ?l__law_cloth ?c__law_cloth ?k__law_cloth ?a__law_ends ?l__law_ends ?c__law_ends ?k__law_ends ?a__law_names ?l__law_names ?c__law_names ?k__law_names ?a__law_cut ?l__law_cut ?c__law_cut ?k__law_cut ?a__law_bent ?l__law_bent ?c__law_bent ?k__law_bent ?a__law_heard ?l__law_heard ?c__law_heard ?k__law_heard ?a__law_refused_right ?l__law_refused_right ?c__law_refused_right ?k__law_refused_right ?a_law ?l_law ?c_law ?k_law ?z_isinstance ?z_list ?z_tuple ?z_len ?z_str ?z_all ?z_sorted ?z_any ?z_range ?z_enumerate ?z_int ?z_abs ?z_repr ?z_ValueError ?g_MOST_SIGNS ?g_MOST_NAMES ?g_MOST_TEXT ?eT ?lT ?vT ?hT ?nT ?tT ?at_BadName ?xL_BadName ?rv_BadName ?sa_BadName ?eC_BadName ?tC_BadName ?kC_BadName ?ga_BadName ?gg_BadName ?hd_BadName ?cA_BadName ?cm_BadName ?no_BadName ?ai_BadName ?ti_BadName ?li_BadName ?ci_BadName ?ki_BadName ?at_Misfit ?xL_Misfit ?rv_Misfit ?sa_Misfit ?eC_Misfit ?tC_Misfit ?kC_Misfit ?ga_Misfit ?gg_Misfit ?hd_Misfit ?cA_Misfit ?cm_Misfit ?no_Misfit ?ai_Misfit ?ti_Misfit ?li_Misfit ?ci_Misfit ?ki_Misfit ?cg ?ct ?at_TickError ?kBB ?kBM ?kMB ?kMM ?eb ?ekB ?ekM
    (case a_is_row => k_is)
    (case l_is_row => k_is)
    (case c_is_row => k_is)
    (case k_is_row => k_is)
    (case a_is_signs => k_is)
    (case l_is_signs => k_is)
    (case c_is_signs => k_is)
    (case k_is_signs => k_is)
    (case a_is_name => k_is)
    (case l_is_name => k_is)
    (case c_is_name => k_is)
    (case k_is_name => k_is)
    (case a_need_names => k_is)
    (case l_need_names => k_is)
    (case c_need_names => k_is)
    (case k_need_names => k_is)
    (case a_need_apart => k_is)
    (case l_need_apart => k_is)
    (case c_need_apart => k_is)
    (case k_need_apart => k_is)
    (case a_are_apart => k_is)
    (case l_are_apart => k_is)
    (case c_are_apart => k_is)
    (case k_are_apart => k_is)
    (case a_cut_text => k_is)
    (case l_cut_text => k_is)
    (case c_cut_text => k_is)
    (case k_cut_text => k_is)
    (case a_name_at => k_is)
    (case l_name_at => k_is)
    (case c_name_at => k_is)
    (case k_name_at => k_is)
    (case a__law_tailor => k_is)
    (case l__law_tailor => k_is)
    (case c__law_tailor => k_is)
    (case k__law_tailor => k_is)
    (case a__law_shear => k_is)
    (case l__law_shear => k_is)
    (case c__law_shear => k_is)
    (case k__law_shear => k_is)
    (case a__law_cloth => k_is)
    (case l__law_cloth => k_is)
    (case c__law_cloth => k_is)
    (case k__law_cloth => k_is)
    (case a__law_ends => k_is)
    (case l__law_ends => k_is)
    (case c__law_ends => k_is)
    (case k__law_ends => k_is)
    (case a__law_names => k_is)
    (case l__law_names => k_is)
    (case c__law_names => k_is)
    (case k__law_names => k_is)
    (case a__law_cut => k_is)
    (case l__law_cut => k_is)
    (case c__law_cut => k_is)
    (case k__law_cut => k_is)
    (case a__law_bent => k_is)
    (case l__law_bent => k_is)
    (case c__law_bent => k_is)
    (case k__law_bent => k_is)
    (case a__law_heard => k_is)
    (case l__law_heard => k_is)
    (case c__law_heard => k_is)
    (case k__law_heard => k_is)
    (case a__law_refused_right => k_is)
    (case l__law_refused_right => k_is)
    (case c__law_refused_right => k_is)
    (case k__law_refused_right => k_is)
    (case a_law => k_is)
    (case l_law => k_is)
    (case c_law => k_is)
    (case k_law => k_is)
    (case z_isinstance => k_is)
    (case z_list => k_is)
    (case z_tuple => k_is)
    (case z_len => k_is)
    (case z_str => k_is)
    (case z_all => k_is)
    (case z_sorted => k_is)
    (case z_any => k_is)
    (case z_range => k_is)
    (case z_enumerate => k_is)
    (case z_int => k_is)
    (case z_abs => k_is)
    (case z_repr => k_is)
    (case z_ValueError => k_is)
    (case g_MOST_SIGNS => k_is)
    (case g_MOST_NAMES => k_is)
    (case g_MOST_TEXT => k_is)
    (case eT => rfl)
    (case lT => k_is)
    (case vT => rfl)
    (case hT => kernel_rfl)
    (case nT => kernel_rfl)
    (case tT => exact PySem.W.km_tabs_of Y _ (by k_mem))
    (case at_BadName => k_is)
    (case xL_BadName => k_is)
    (case rv_BadName => first | decide +kernel | rfl)
    (case sa_BadName => k_is)
    (case eC_BadName => k_is)
    (case tC_BadName => k_is)
    (case kC_BadName => k_is)
    (case ga_BadName => k_is)
    (case gg_BadName => k_is)
    (case hd_BadName => k_is)
    (case cA_BadName => k_is)
    (case cm_BadName => k_is)
    (case no_BadName => k_is)
    (case ai_BadName => k_is)
    (case ti_BadName => k_is)
    (case li_BadName => k_is)
    (case ci_BadName => k_is)
    (case ki_BadName => k_is)
    (case at_Misfit => k_is)
    (case xL_Misfit => k_is)
    (case rv_Misfit => first | decide +kernel | rfl)
    (case sa_Misfit => k_is)
    (case eC_Misfit => k_is)
    (case tC_Misfit => k_is)
    (case kC_Misfit => k_is)
    (case ga_Misfit => k_is)
    (case gg_Misfit => k_is)
    (case hd_Misfit => k_is)
    (case cA_Misfit => k_is)
    (case cm_Misfit => k_is)
    (case no_Misfit => k_is)
    (case ai_Misfit => k_is)
    (case ti_Misfit => k_is)
    (case li_Misfit => k_is)
    (case ci_Misfit => k_is)
    (case ki_Misfit => k_is)
    (case cg => k_is)
    (case ct => k_is)
    (case at_TickError => k_is)
    (case kBB => kit_is)
    (case kBM => kit_is)
    (case kMB => kit_is)
    (case kMM => kit_is)
    (case eb => k_is)
    (case ekB => first | k_is | kernel_rfl)
    (case ekM => first | k_is | kernel_rfl)
