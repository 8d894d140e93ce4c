import PyProof.Rows.All
import Wide.All
import OpenK.AllK
import Wide.FinOn
import HandS.Base
import HandS.Call
import HandS.List
import HandS.Comp
import HandS.Ends
import HandS.Dict
import HandS.Iter
import HandS.Text
import HandS.Words
import HandS.WordsList
import HandS.IsInst
import HandS.StrMore
import HandS.Defaults
import HandS.Codes
import HandS.EndBits
import KE.KExcIs
import HandS.Exc
import HandS.ExcInit
import HandS.Lambda
import HandS.EndTab
import HandS.WordsExc
import HandS.ExcOwn
import HandS.SortInts
import PyProof.TupleOfSeq
import HandS.Walk
import HandS.DictComp
import KE.GoesMore
import PyProof.ReprLen
import HandS.Small
import HandS.SlotsOwn
import KE.KCallOwn
import HandS.Style
import KE.KDflt
import KE.KNestM
import PySem.Challenge.RW_duetickers_k18_whole_counts_of_all_lengt
set_option Elab.async false
set_option linter.all false
set_option maxRecDepth 100000
set_option maxHeartbeats 4000000
/-! Rules of our own: repr of data, identity with a truth, a text times a number, calls where nothing guards. -/
namespace Own
open PySem PySem.Spec PyProof.Rows L2

/-! ### repr(x), x data of any depth -/
def rRepr (K : PySem.W.Frag) : List V → Hp → VK → Prop := fun xs H Q =>
  ∃ x d, xs = [x] ∧ Dp K H x d ∧ d.showable = true ∧ d.hasDict = false ∧ d.depth ≤ 60 ∧ d.shown.length ≤ sizeLine ∧ Q (.str d.shown) H
theorem call_repr {X : Cx} (hg : X.A.guards = some []) (hu : X.A.units + 64 < cLine) : CallR X (.builtin "repr") (rRepr X.K) := by
  intro pins s σ H xs us Q I r h
  obtain ⟨x, d, rfl, hd, hs, hn, hdep, hsz, q⟩ := h
  cases r with
  | cons rx rn =>
    rename_i v us'
    cases rn
    cases hd with
    | non =>
      cases (show v = Value.none from rx)
      exact P.repr_of_none ⟨.str _, H, I.tok _, ⟨_, rfl⟩, q⟩
    | bl b =>
      cases (show v = Value.bool b from rx)
      exact P.repr_of_bool ⟨.str _, H, I.tok _, ⟨_, by cases b <;> rfl⟩, q⟩
    | int i =>
      obtain ⟨t, rfl⟩ := (show ∃ t, v = Value.int i t from rx)
      exact P.repr_of_int (of_decide_eq_true (by simpa only [PyData.showable] using hs)) ⟨.str _, H, I.tok _, ⟨_, rfl⟩, q⟩
    | str z =>
      obtain ⟨t, rfl⟩ := (show ∃ t, v = Value.str z t from rx)
      exact P.repr_of_str ⟨.str _, H, I.tok _, ⟨_, rfl⟩, q⟩ hsz
    | @lst a ys ds hl ha =>
      cases (show v = Value.ref a from rx)
      obtain ⟨as, rd⟩ := Dp.reads I (.list ds) (.ref a) _ (.lst hl ha) rfl
      exact repr_of_reads' rd hs (fun z => by rw [hn] at z; cases z) hg (by omega) (fun _ _ e => e) (fun h' u tk k => ⟨.str _, H, I.kept k, ⟨_, rfl⟩, q⟩) hsz
    | @tup a ys ds hl ha =>
      cases (show v = Value.ref a from rx)
      obtain ⟨as, rd⟩ := Dp.reads I (.tuple ds) (.ref a) _ (.tup hl ha) rfl
      exact repr_of_reads' rd hs (fun z => by rw [hn] at z; cases z) hg (by omega) (fun _ _ e => e) (fun h' u tk k => ⟨.str _, H, I.kept k, ⟨_, rfl⟩, q⟩) hsz

/-! ### x is not True -/
theorem op_notTrue {X : Cx} : OpR X (compareOp .IsNot) (fun x y H Q => ∃ b : Bool, y = .bl b ∧ Q (.bl (!decide (x = .bl b))) H) := by
  intro pins s σ H x y v u Q I rx ry h
  obtain ⟨b, rfl, q⟩ := h
  cases (show u = Value.bool b from ry)
  by_cases e : x = V.bl b
  · subst e
    cases (show v = Value.bool b from rx)
    exact wpAny_isNot_self rfl ⟨.bl false, H, I, rfl, by simpa using q⟩
  · refine wpAny_isNot_other ?_ ?_ ⟨.bl true, H, I, rfl, by simpa [e] using q⟩
    · cases x <;> first
        | (cases rx; rfl)
        | (obtain ⟨t, rfl⟩ := rx; rfl)
    · rintro rfl
      cases x <;> first
        | (cases rx; done)
        | (obtain ⟨t, z⟩ := rx; cases z; done)
        | (cases rx; exact e rfl)

/-! ### a text times a number -/
theorem op_mulS {X : Cx} : OpR X (binaryOp .Mult) (fun x y H Q => ∃ z i, x = .str z ∧ y = .int i ∧ z.length ≤ 1 ∧ 0 ≤ i ∧ i ≤ 100000 ∧ Q (.str (Txt.mul z i)) H) := by
  intro pins s σ H x y v u Q I rx ry h
  obtain ⟨z, i, rfl, rfl, hz, h0, h1, q⟩ := h
  obtain ⟨t, rfl⟩ := rx
  obtain ⟨t2, rfl⟩ := ry
  refine SB.mul ⟨?_, ?_, ?_⟩ fun t' k => ⟨.str _, H, I.tok _, ⟨_, rfl⟩, q⟩
  · have a : ¬ i < -(2 ^ 63 : Int) := by omega
    have b : ¬ i ≥ 2 ^ 63 := by omega
    simp [a, b]
    omega
  · intro h2 _
    have : (2 : Int) ^ 63 - 1 = 9223372036854775807 := by decide
    rw [this]
    have c : (1 : Int) ≤ 9223372036854775807 / i := by
      apply Int.le_ediv_of_mul_le (by omega); omega
    omega
  · intro h2 _
    unfold Builtin.Str.tooLong
    have e := sizeLine_eq
    have : z.length * i.toNat ≤ 1 * i.toNat := Nat.mul_le_mul_right _ hz
    first
      | (simp only [decide_eq_false_iff_not]; omega)
      | (simp; omega)

/-! ### a def that is called where no walk over data is under way (no guard) -/
structure FnG (P : Program) (w : World) (K : PySem.W.Frag) (mg : Str → Option Value) (base : Heap) (CX : CXT) (k : Nat) (f : Addr) (fd : FuncData) (ps : List Str) (sp : Sp) : Prop where
  len : ∀ vs H Q E, sp vs H Q E → vs.length = ps.length
  run : ∀ (A : Around) (outer : List Env) (s : Shared) (H : Hp) (args : Args) (us : List Value) (vs : List V) (Q : VK) (E : XK),
    Room k A → A.guards = some [] → Env0 P w K mg base A outer s H → BindsTo s fd args (ps.zip us) → Vals vs us → sp vs H Q E →
    codeAny (model P w) A (.call (.ref f) args) (CR CX outer P w H s Q E) s

section
variable {P : Program} {w : World} {K : PySem.W.Frag} {mg : Str → Option Value} {base : Heap} {CX : CXT} {k : Nat} {f : Addr} {fd : FuncData} {ps : List Str} {sp : Sp}
theorem FnG.of (F : FnOk P w K mg base CX k f fd ps sp) : FnG P w K mg base CX k f fd ps sp :=
  ⟨F.len, fun A outer s H args us vs Q E hr _ => F.run A outer s H args us vs Q E hr⟩
/-- a def by its body, which knows that nothing guards -/
theorem Fun.okG {x qual : Str} {st : Stmt} {N : List Str} (F : Fun K x qual st f fd) (S : FnScope N ps (defScope st)) (len : ∀ vs H Q E, sp vs H Q E → vs.length = ps.length)
    (body : ∀ (cdv : Value) (A : Around) (outer : List Env) (s : Shared) (H : Hp) (vs : List V) (Q : VK) (E : XK), Room k (A.deeper (envOfC qual (defScope st) s.heap.objs.size f cdv)) →
      A.guards = some [] → sp vs H Q E → ∃ t, PSs (cxOf CX0 P w K mg base N qual (defScope st) f cdv A outer s H E).nox (defBody st) t ∧ t { nx := fun _ H' => Q .non H', rt := Q } (start N vs) H) :
    FnG P w K mg base CX0 (k + 1) f fd ps sp := by
  obtain ⟨oc, od, kV, doc, pm, an, cdv, ct, osl, rfl, lk, hcd⟩ := F.ex
  refine ⟨len, ?_⟩
  intro A outer s H args us vs Q E room gd e0 bnd rel want
  have size := len vs H Q E want
  have inK : K.In s.heap := e0.mod.kin.keeps fun b o z => And.left (e0.bs b o z)
  have room0 : s.heap.NoLimit := e0.mod.nolimit.keeps fun b o z => And.left (e0.bs b o z)
  have slots : ∀ y ∈ ps.zip us, (defScope st).names.lookup y.1 = some .local ∨ ((defScope st).names.lookup y.1 = some .cell ∧
      ((cellsFrom (s.heap.objs.size + 1) (defScope st).names []).lookup y.1).isSome = true) := by
    rintro ⟨n, v⟩ z
    refine (S.par n (List.of_mem_zip z).1).imp id fun c => ⟨c, ?_⟩
    exact PySem.W.cellsFrom_some _ _ _ (.inl c)
  refine codeAny_call_function room.depth (inK _ _ lk) rfl S.co S.gen rfl (PySem.W.codeRec_of inK hcd) (bnd _ _ _ _ ?_)
  refine wpAny_newFunctionEnv_cells S.kind slots ?_
  rintro env rfl s1 x
  refine ⟨room0.keeps x.toInCall.keep, codeAny_func ?_⟩
  obtain ⟨t, walk, say⟩ := body cdv A outer s H vs Q E (room.deeper _) gd want
  have I := inv_start (CX := CX0) (E := E) S room.hd e0 size rel x
  refine wpAny_mono (walk.nox.run [] s1 (start N vs) H _ I say) (fun r s' z => ?_) (fun _ _ z => z)
  have last : ∀ {τ : L2.St} {G : Hp} {v : V} {u : Value}, Inv (cxOf CX0 P w K mg base N qual (defScope st) f cdv A outer s H E) [] τ G s' →
      RelV v u → Q v G → CE outer P w H s Q u s' := fun J r q => ⟨_, _, J.os, J.bare, J.base, J.hok, r, q⟩
  match r, z with
  | .ret u, z =>
    obtain ⟨v, τ, G, J, r1, q⟩ := z
    exact last J r1 q
  | .next, z =>
    obtain ⟨τ, G, J, q⟩ := z
    exact last (v := .non) (u := .none) J rfl q
  | .brk, z =>
    obtain ⟨τ, G, J, q⟩ := z
    exact q.elim
  | .cont, z =>
    obtain ⟨τ, G, J, q⟩ := z
    exact q.elim
end
section
variable {X : Cx} {CX : CXT} {k : Nat} {f : Addr} {fd : FuncData} {ps : List Str} {sp : Sp} {dvs : List V} {ds : List Value} {E : XK} {x : Str} {p pos : Pos} {e : Expr} {es : List Expr} {t : TA}
theorem run_fnG {pins : List (Addr × Obj)} {σ : L2.St} {H : Hp} {s : Shared} {Q : VK} {us : List Value} {vs : List V} (F : FnG X.prog X.w X.K X.mg X.base CX k f fd ps sp) (room : Room k X.A) (gd : X.A.guards = some [])
    (hb : Binds X.K fd ps ds) (hd : Vals dvs ds) (hx : Passes CX X E) (I : Inv X pins σ H s) (r : Vals vs us) (h : sp (vs ++ dvs) H Q E) : wpAny (model X.prog X.w) X.A (call (.ref f) us) (EP X pins σ Q) X.xe s := by
  have rel := r.append hd
  have size : (us ++ ds).length = ps.length := rel.length.symm.trans (F.len _ _ _ _ h)
  refine wpAny_call (codeAny_mono (F.run X.A X.stack s H ⟨us, []⟩ _ _ Q E room gd I.env0 (hb s us I.kIn size) rel h) ?_)
  intro r s' z
  match r, z with
  | .error e, z => exact hx pins σ H s e s' I z
  | .ok (.ret u), z => exact I.after z
  | .ok .next, z => exact z.elim
  | .ok .brk, z => exact z.elim
  | .ok .cont, z => exact z.elim
theorem pe_callG (F : FnG X.prog X.w X.K X.mg X.base CX k f fd ps sp) (room : Room k X.A) (gd : X.A.guards = some []) (hg : Gl X x) (hm : X.mg x = some (.ref f)) (hk : PySem.W.keepIn X.K (.ref f) = true)
    (hb : Binds X.K fd ps ds) (hd : Vals dvs ds) (hx : Passes CX X E) (ha : PA X (e :: es) t) (hdb : (x == ("__debug__" : Str)) = false := by decide)
    (he : starEach (e :: es) X.env = (false, eval e X.env) :: starEach es X.env := by rfl) (hpl : (backTo pos (starEach es X.env)).any (·.1) = false := by rfl) :
    PE X (.Call (.Name x p) (e :: es) [] pos) (tCall sp dvs E t) := by
  constructor
  intro pins s σ H Q I h
  refine wpAny_Call_Name_kw (ld_glob I hg hm ?_ hdb)
  refine PySem.W.callWith_K (h₀ := X.base) I.ok.mod.kin hk (thn (ha.run pos pins s σ H _ I h) ?_) he hpl
  rintro us s1 ⟨vs, H1, I1, r, q⟩
  exact ⟨I1.kIn, run_fnG F room gd hb hd hx I1 r q⟩
end
end Own
namespace Own
open PySem PySem.Spec PyProof.Rows L2
/-! ### a def of the top, with all that its callers want -/
structure Cal (P : Program) (w : World) (K : PySem.W.Frag) (mg : Str → Option Value) (base : Heap) (k : Nat) (x : Str) (ps : List Str) (sp : Sp) : Prop where
  ex : ∃ f fd, FnOk P w K mg base CX0 k f fd ps sp ∧ mg x = some (.ref f) ∧ PySem.W.keepIn K (.ref f) = true ∧ Binds K fd ps []
structure CalG (P : Program) (w : World) (K : PySem.W.Frag) (mg : Str → Option Value) (base : Heap) (k : Nat) (x : Str) (ps : List Str) (sp : Sp) : Prop where
  ex : ∃ f fd, FnG P w K mg base CX0 k f fd ps sp ∧ mg x = some (.ref f) ∧ PySem.W.keepIn K (.ref f) = true ∧ Binds K fd ps []
/-- the same, called by keywords alone -/
structure CalK (P : Program) (w : World) (K : PySem.W.Frag) (mg : Str → Option Value) (base : Heap) (k : Nat) (x : Str) (ps ks : List Str) (gV : List V → List V) (sp : Sp) : Prop where
  ex : ∃ f fd g, FnOk P w K mg base CX0 k f fd ps sp ∧ mg x = some (.ref f) ∧ PySem.W.keepIn K (.ref f) = true ∧ KBn K fd ps 0 ks g (fun _ zs => gV zs)
section
variable {X : Cx} {k : Nat} {x : Str} {ps ks : List Str} {sp : Sp} {p pos : Pos} {e : Expr} {es : List Expr} {kws : List Keyword} {t tk : TA} {gV : List V → List V}
theorem pe_cal (C : Cal X.prog X.w X.K X.mg X.base k x ps sp) (room : Room k X.A) (ha : PA X (e :: es) t) (hg : Gl X x := by rfl) (hdb : (x == ("__debug__" : Str)) = false := by decide)
    (he : starEach (e :: es) X.env = (false, eval e X.env) :: starEach es X.env := by rfl) (hpl : (backTo pos (starEach es X.env)).any (·.1) = false := by rfl) :
    PE X (.Call (.Name x p) (e :: es) [] pos) (tCall sp [] E0 t) := by
  obtain ⟨f, fd, F, m, kp, b⟩ := C.ex
  exact pe_call F room hg m kp b .nil pass0 ha hdb he hpl
theorem pe_cal0 (C : Cal X.prog X.w X.K X.mg X.base k x ps sp) (room : Room k X.A) (hg : Gl X x := by rfl) (hdb : (x == ("__debug__" : Str)) = false := by decide) :
    PE X (.Call (.Name x p) [] [] pos) (tCall sp [] E0 tNil) := by
  obtain ⟨f, fd, F, m, kp, b⟩ := C.ex
  exact pe_call0 F room hg m kp b .nil pass0 hdb
theorem pe_calG (C : CalG X.prog X.w X.K X.mg X.base k x ps sp) (room : Room k X.A) (gd : X.A.guards = some []) (ha : PA X (e :: es) t) (hg : Gl X x := by rfl) (hdb : (x == ("__debug__" : Str)) = false := by decide)
    (he : starEach (e :: es) X.env = (false, eval e X.env) :: starEach es X.env := by rfl) (hpl : (backTo pos (starEach es X.env)).any (·.1) = false := by rfl) :
    PE X (.Call (.Name x p) (e :: es) [] pos) (tCall sp [] E0 t) := by
  obtain ⟨f, fd, F, m, kp, b⟩ := C.ex
  exact pe_callG F room gd hg m kp b .nil pass0 ha hdb he hpl
/-- f(k = v, ..) -/
def tKw (m : Nat) (sp : Sp) (gV : List V → List V) (tk : TA) : TE := fun σ H Q => tk σ H fun zs H2 => zs.length = m ∧ sp (gV zs) H2 Q E0
theorem pe_calK (C : CalK X.prog X.w X.K X.mg X.base k x ps ks gV sp) (room : Room k X.A) (hkw : PK X kws tk) (hg : Gl X x := by rfl) (hall : (backToKw pos (keywordEach kws X.env)).all (·.1.isSome) = true := by rfl)
    (hks : (backToKw pos (keywordEach kws X.env)).filterMap (·.1) = ks := by rfl) (hdb : (x == ("__debug__" : Str)) = false := by decide)
    (hpl : ((backTo pos (starEach [] X.env)).any (·.1) || (backToKw pos (keywordEach kws X.env)).any (·.1.isNone)) = false := by rfl) :
    PE X (.Call (.Name x p) [] kws pos) (tKw ks.length sp gV tk) := by
  obtain ⟨f, fd, g, F, m, kp, b⟩ := C.ex
  constructor
  intro pins s σ H Q I h
  refine wpAny_Call_Name_kw (ld_glob I hg m ?_ hdb)
  refine PySem.W.callWith_KW0 (h₀ := X.base) I.ok.mod.kin kp hall (thn (hkw.run pos pins s σ H _ I h) ?_) hpl
  rintro ws s2 ⟨zs, H2, I2, rz, l, q⟩
  refine ⟨I2.kIn, ?_⟩
  rw [hks]
  exact run_fnN (vs := []) (us := []) F room b pass0 I2 .nil rz rfl l q
end
theorem Fun.kb {K : PySem.W.Frag} {x qual : Str} {st : Stmt} {f : Addr} {fd : FuncData} {ps ks : List Str} (F : Fun K x qual st f fd) (g : {α : Type} → List α → List α)
    (rel : ∀ {zs : List V} {ws : List Value}, Vals zs ws → Vals (g zs) (g ws))
    (h : ∀ (kV doc pm : Value) (an : Option Addr) (cdv ct : Value) (ws : List Value), ws.length = ks.length → bindArgs (PySem.W.fnOf x qual (defArgs st) (defBody st) (defScope st) .none kV doc pm an cdv ct) ⟨[], ks.zip ws⟩ = pure (ps.zip (g ws))) :
    KBn K fd ps 0 ks (fun _ ws => g ws) (fun _ zs => g zs) := by
  obtain ⟨oc, od, kV, doc, pm, an, cdv, ct, osl, rfl, lk, hcd⟩ := F.ex
  refine ⟨fun s us ws _ l1 l2 => ?_, fun _ r => rel r⟩
  cases List.length_eq_zero_iff.mp l1
  exact .of_eq (h kV doc pm an cdv ct ws l2)
/-- a number that stands at the top -/
theorem pe_gi {X : Cx} {x : Str} {i : Int} {pos : Pos} (h : ∃ t, X.mg x = some (.int i t)) (hg : Gl X x := by rfl) (hd : (x == ("__debug__" : Str)) = false := by decide) : PE X (.Name x pos) (tC (.int i)) := by
  obtain ⟨t, e⟩ := h
  exact pe_glob hg e ⟨t, rfl⟩ hd
/-- a built-in class as a value -/
theorem pe_ty {X : Cx} {x : Str} {n : String} {pos : Pos} (hm : X.mg x = none) (hv : bootBuiltins x = some (.type n)) (hg : Gl X x := by rfl) (hn : x ≠ "__name__" := by decide) (hd : (x == ("__debug__" : Str)) = false := by decide) : PE X (.Name x pos) (tC (.ty n)) :=
  pe_bltn hg hm hv rfl hn hd
/-! ### heaps -/
theorem same_new {H : Hp} {p : Addr} {o : HO} (h : H p = none) : Same H (upd H p o) := fun b u e => by
  rw [upd_ne (ne_of_none e h)]
  exact e
theorem same_mut {H H' : Hp} {p : Addr} {o : HO} (s : Same H H') (h : H p = none) : Same H (upd H' p o) := fun b u e => by
  rw [upd_ne (ne_of_none e h)]
  exact s b u e
theorem take_map_succ {α β : Type} {xs : List α} {i : Nat} {x : α} (f : α → β) (h : xs[i]? = some x) : (xs.take (i + 1)).map f = (xs.take i).map f ++ [f x] := by
  rw [List.take_succ, h, List.map_append]
  rfl
/-! ### the drawing list [cells, turn, rest] -/
/-- all but p stays -/
def But (p : Addr) (H H' : Hp) : Prop := ∀ b o, b ≠ p → H b = some o → H' b = some o
theorem But.refl (p : Addr) (H : Hp) : But p H H := fun _ _ _ h => h
theorem But.trans {p : Addr} {H H1 H2 : Hp} (a : But p H H1) (b : But p H1 H2) : But p H H2 := fun c o n h => b c o n (a c o n h)
theorem Same.but {p : Addr} {H H' : Hp} (s : Same H H') : But p H H' := fun b o _ h => s b o h
theorem But.upd {p : Addr} {H H' : Hp} {o : HO} (b : But p H H') : But p H (upd H' p o) := fun c u n h => by
  rw [upd_ne n]
  exact b c u n h
theorem But.new {p q : Addr} {H H' : Hp} {o : HO} (b : But p H H') (h : H' q = none) : But p H (L2.upd H' q o) := fun c u n e => by
  have z := b c u n e
  rw [upd_ne (ne_of_none z h)]
  exact z
/-- the list at p: the cells at q, how often was drawn (n at most), what is left of a great cell -/
def Sv (p q : Addr) (cs : List Int) (n : Nat) (H : Hp) : Prop :=
  ∃ at_ rest : Int, H p = some (.lst [.ref q, .int at_, .int rest]) ∧ H q = some (.lst (cs.map V.int)) ∧ p ≠ q ∧ 0 ≤ at_ ∧ at_ ≤ n ∧ 0 ≤ rest
theorem Sv.mono {p q : Addr} {cs : List Int} {n m : Nat} {H : Hp} (h : Sv p q cs n H) (le : n ≤ m) : Sv p q cs m H := by
  obtain ⟨a, r, h1, h2, h3, h4, h5, h6⟩ := h
  exact ⟨a, r, h1, h2, h3, h4, by omega, h6⟩
theorem Sv.same {p q : Addr} {cs : List Int} {n : Nat} {H H' : Hp} (h : Sv p q cs n H) (s : Same H H') : Sv p q cs n H' := by
  obtain ⟨a, r, h1, h2, h3⟩ := h
  exact ⟨a, r, s _ _ h1, s _ _ h2, h3⟩
theorem dp_ints {K : PySem.W.Frag} {H : Hp} : ∀ cs : List Int, DpAll K H (cs.map V.int) (cs.map PyData.int)
  | [] => .nil
  | c :: cs => .cons (.int c) (dp_ints cs)
theorem lay_ints : ∀ cs : List Int, PyData.canLayAll0 (cs.map PyData.int) = true
  | [] => by simp [PyData.canLayAll0]
  | c :: cs => by simp [PyData.canLayAll0, PyData.canLay0, lay_ints cs]
theorem dep_ints : ∀ cs : List Int, PyData.depthAll (cs.map PyData.int) = 0
  | [] => by simp [PyData.depthAll]
  | c :: cs => by simp [PyData.depthAll, PyData.depth, dep_ints cs]
theorem shaped_ints (cs : List Int) : SeqAt.shaped (.list (cs.map PyData.int)) = true := by
  simp [SeqAt.shaped, PyData.canLay0, PyData.depth, lay_ints, dep_ints]
theorem shaped_nil : SeqAt.shaped (.list []) = true := by
  simp [SeqAt.shaped, PyData.canLay0, PyData.depth, PyData.canLayAll0, PyData.depthAll]
theorem eqv_nil (ds : List PyData) : PyData.eqv (.list ds) (.list []) = ds.isEmpty := by
  cases ds <;> simp [PyData.eqv, PyData.eqvAll]
theorem hu1 {k : Nat} {A : Around} (hr : Room k A) : A.units < cLine := by
  have := hr.un
  omega
theorem hu64 {k : Nat} {A : Around} (hr : Room k A) : A.units + 64 < cLine := by
  have := hr.un
  omega
def spSift : Sp := fun vs H Q _ => ∃ (p q : Addr) (cs : List Int) (n : Nat) (m : Int), vs = [.ref p, .int m] ∧ 0 < m ∧ m < 1073741824 ∧ n ≤ 100000 ∧ cs.length ≤ 1000 ∧ Sv p q cs n H ∧
  ∀ r H', 0 ≤ r → r < m → But p H H' → Sv p q cs (n + 1) H' → Q (.int r) H'
theorem mulb {x y a b : Int} (x0 : 0 ≤ x) (xa : x ≤ a) (y0 : 0 ≤ y) (yb : y ≤ b) : 0 ≤ x * y ∧ x * y ≤ a * b :=
  ⟨Int.mul_nonneg x0 y0, Int.mul_le_mul xa yb y0 (Int.le_trans x0 xa)⟩
theorem cpow_of {i j : Int} (h0 : 0 ≤ j) (h1 : j ≤ 1000000) (a : -(2 ^ 64) < i) (b : i < 2 ^ 64) : CPow i j := ⟨h0, h1, by omega⟩
/-- some[draw], some a list that stands apart -/
def spOne : Sp := fun vs H Q _ => ∃ (p q : Addr) (cs : List Int) (n : Nat) (s : Addr) (xs : List V), vs = [.ref p, .ref s] ∧ H s = some (.lst xs) ∧ s ≠ p ∧ 0 < xs.length ∧ xs.length ≤ 1000 ∧ n ≤ 100000 ∧ cs.length ≤ 1000 ∧ Sv p q cs n H ∧
  ∀ x H', x ∈ xs → But p H H' → Sv p q cs (n + 1) H' → Q x H'
def spSieve (K : PySem.W.Frag) : Sp := fun vs H Q _ => ∃ (a : Addr) (ns : List Int), vs = [.ref a] ∧ SqL K H a (ns.map V.int) ∧
  ∀ p q cs H', H p = none → Same H H' → cs.length ≤ 63 → Sv p q cs 0 H' → Q (.ref p) H'
theorem map_mem_cut {ns : List Int} {lo hi : Option Int} : ∃ cs : List Int, cutV (ns.map V.int) lo hi = cs.map V.int ∧ cs.length ≤ ns.length := by
  refine ⟨(ns.drop (HT.sIx (ns.map V.int).length 0 lo)).take (HT.sIx (ns.map V.int).length (ns.map V.int).length hi - HT.sIx (ns.map V.int).length 0 lo), ?_, ?_⟩
  · unfold cutV
    rw [← List.map_drop, ← List.map_take]
  · rw [List.length_take, List.length_drop]
    omega
theorem cut_len {ns : List Int} {k : Nat} : (cutV (ns.map V.int) none (some (k : Int))).length ≤ k := by
  unfold cutV
  rw [List.length_take]
  have : HT.sIx (ns.map V.int).length (ns.map V.int).length (some (k : Int)) ≤ k := by
    unfold HT.sIx
    simp only []
    split <;> omega
  omega
/-! ### what is drawn by an expression: from any heap in which n was drawn at most, a value of which R holds, m drawn at most -/
def Dr (p q : Addr) (cs : List Int) (te : TE) (σ : L2.St) (n m : Nat) (H : Hp) (R : Hp → V → Prop) : Prop :=
  ∀ H1, But p H H1 → Sv p q cs n H1 → ∀ Q : VK, (∀ v H2, But p H1 H2 → Sv p q cs m H2 → R H2 v → Q v H2) → te σ H1 Q
def DrA (p q : Addr) (cs : List Int) (ta : TA) (σ : L2.St) (n m : Nat) (H : Hp) (k : Nat) (R : Hp → V → Prop) : Prop :=
  ∀ H1, But p H H1 → Sv p q cs n H1 → ∀ Q : List V → Hp → Prop, (∀ vs H2, But p H1 H2 → Sv p q cs m H2 → vs.length = k → (∀ v ∈ vs, R H2 v) → Q vs H2) → ta σ H1 Q
def Stb (p : Addr) (R : Hp → V → Prop) : Prop := ∀ H H' v, But p H H' → R H v → R H' v
section
variable {p q : Addr} {cs : List Int} {te tr ta tb : TE} {ts : TA} {σ : L2.St} {n m l : Nat} {H : Hp} {k : Nat} {R Ra Rb : Hp → V → Prop}
theorem Dr.imp (h : Dr p q cs te σ n m H Ra) (f : ∀ H v, Ra H v → R H v) : Dr p q cs te σ n m H R := fun H1 b s Q q => h H1 b s Q fun v H2 b2 s2 r => q v H2 b2 s2 (f _ _ r)
theorem DrA.nil : DrA p q cs tNil σ n n H 0 R := fun H1 b s Q q => q [] H1 (But.refl _ _) s rfl (fun v hv => by cases hv)
theorem DrA.cons (st : Stb p R) (h : Dr p q cs te σ n m H R) (t : DrA p q cs ts σ m l H k R) : DrA p q cs (tCons te ts) σ n l H (k + 1) R := fun H1 b s Q q =>
  h H1 b s _ fun v H2 b2 s2 r => t H2 (b.trans b2) s2 _ fun vs H3 b3 s3 lv rs => q (v :: vs) H3 (b2.trans b3) s3 (by rw [List.length_cons, lv]) fun u hu => by
    rcases List.mem_cons.mp hu with e | e
    · subst e
      exact st _ _ _ b3 r
    · exact rs u e
theorem dr_c {v : V} (h : ∀ H1, But p H H1 → R H1 v) : Dr p q cs (tC v) σ n n H R := fun H1 b s Q q => q v H1 (But.refl _ _) s (h H1 b)
theorem dr_v {i : Nat} {v : V} (e : σ[i]? = some (some v)) (h : ∀ H1, But p H H1 → R H1 v) : Dr p q cs (tVar i) σ n n H R := fun H1 b s Q q => ⟨v, e, q v H1 (But.refl _ _) s (h H1 b)⟩
theorem sv_ne {H1 : Hp} {a : Addr} (s : Sv p q cs n H1) (h : H1 a = none) : a ≠ p := by
  obtain ⟨_, _, h1, _⟩ := s
  exact (ne_of_none h1 h).symm
theorem dr_lst (h : DrA p q cs ts σ n m H k Ra) (st : Stb p Ra) (hk : k ≤ 1000) (f : ∀ a xs H1, H1 a = some (.lst xs) → a ≠ p → xs.length = k → (∀ x ∈ xs, Ra H1 x) → R H1 (.ref a)) : Dr p q cs (tLst ts) σ n m H R := fun H1 b s Q q =>
  h H1 b s _ fun vs H2 b2 s2 lv rs => ⟨by rw [lv]; exact Nat.le_trans hk (by decide), fun a ha => q _ _ (b2.new ha) (s2.same (same_new ha)) (f a vs _ upd_same (sv_ne s2 ha) lv fun x hx => st _ _ _ (Same.but (same_new ha)) (rs x hx))⟩
theorem dr_tup (h : DrA p q cs ts σ n m H k Ra) (st : Stb p Ra) (hk : k ≤ 1000) (f : ∀ a xs H1, H1 a = some (.tup xs) → a ≠ p → xs.length = k → (∀ x ∈ xs, Ra H1 x) → R H1 (.ref a)) : Dr p q cs (tTup ts) σ n m H R := fun H1 b s Q q =>
  h H1 b s _ fun vs H2 b2 s2 lv rs => ⟨by rw [lv]; exact Nat.le_trans hk (by decide), fun a ha => q _ _ (b2.new ha) (s2.same (same_new ha)) (f a vs _ upd_same (sv_ne s2 ha) lv fun x hx => st _ _ _ (Same.but (same_new ha)) (rs x hx))⟩
theorem dr_op {r : R2} (st : Stb p Ra) (ha : Dr p q cs ta σ n m H Ra) (hb : Dr p q cs tb σ m l H Rb) (hr : ∀ x y H1, Ra H1 x → Rb H1 y → ∀ Q : VK, (∀ v, R H1 v → Q v H1) → r x y H1 Q) : Dr p q cs (tOp r ta tb) σ n l H R := fun H1 b s Q q =>
  ha H1 b s _ fun x H2 b2 s2 r1 => hb H2 (b.trans b2) s2 _ fun y H3 b3 s3 r2 => hr x y H3 (st _ _ _ b3 r1) r2 Q fun v rv => q v H3 (b2.trans b3) s3 rv
theorem dr_un {r : V → Hp → VK → Prop} (ha : Dr p q cs ta σ n m H Ra) (hr : ∀ x H1, Ra H1 x → ∀ Q : VK, (∀ v, R H1 v → Q v H1) → r x H1 Q) : Dr p q cs (tUn r ta) σ n m H R := fun H1 b s Q q =>
  ha H1 b s _ fun x H2 b2 s2 r1 => hr x H2 r1 Q fun v rv => q v H2 b2 s2 rv
theorem dr_cb {r : List V → Hp → VK → Prop} (ha : Dr p q cs ta σ n m H Ra) (hr : ∀ x H1, Ra H1 x → ∀ Q : VK, (∀ v, R H1 v → Q v H1) → r [x] H1 Q) : Dr p q cs (tCB r (tCons ta tNil)) σ n m H R := fun H1 b s Q q =>
  ha H1 b s _ fun x H2 b2 s2 r1 => hr x H2 r1 Q fun v rv => q v H2 b2 s2 rv
theorem dr_sift {tm : TE} {z : Int} {j : Nat} (e : σ[j]? = some (some (.ref p))) (hm : Dr p q cs tm σ n n H fun _ v => v = .int z) (h0 : 0 < z) (h1 : z < 1073741824) (hn : n ≤ 100000) (hc : cs.length ≤ 1000) :
    Dr p q cs (tCall spSift [] E0 (tCons (tVar j) (tCons tm tNil))) σ n (n + 1) H fun _ v => ∃ r, v = .int r ∧ 0 ≤ r ∧ r < z := fun H1 b s Q k =>
  ⟨_, e, hm H1 b s _ fun v H2 b2 s2 ev => by
    subst ev
    exact ⟨p, q, cs, n, z, rfl, h0, h1, hn, hc, s2, fun r H3 r0 r1 b3 s3 => k _ _ (b2.trans b3) s3 ⟨r, rfl, r0, r1⟩⟩⟩
theorem dr_one {tl : TE} {j : Nat} (e : σ[j]? = some (some (.ref p))) (hl : Dr p q cs tl σ n m H fun H1 v => ∃ a xs, v = .ref a ∧ H1 a = some (.lst xs) ∧ a ≠ p ∧ xs.length = k ∧ ∀ x ∈ xs, R H1 x) (st : Stb p R) (h0 : 0 < k) (h1 : k ≤ 1000) (hn : m ≤ 100000) (hc : cs.length ≤ 1000) :
    Dr p q cs (tCall spOne [] E0 (tCons (tVar j) (tCons tl tNil))) σ n (m + 1) H R := fun H1 b s Q f =>
  ⟨_, e, hl H1 b s _ fun v H2 b2 s2 ev => by
    obtain ⟨a, xs, rfl, ha, hap, hx, hr⟩ := ev
    exact ⟨p, q, cs, m, a, xs, rfl, ha, hap, by omega, by omega, hn, hc, s2, fun x H3 hx b3 s3 => f _ _ (b2.trans b3) s3 (st _ _ _ b3 (hr x hx))⟩⟩
/-- a list of such, as a value -/
theorem dr_lstR (h : DrA p q cs ts σ n m H k R) (st : Stb p R) (hk : k ≤ 1000) : Dr p q cs (tLst ts) σ n m H fun H1 v => ∃ a xs, v = .ref a ∧ H1 a = some (.lst xs) ∧ a ≠ p ∧ xs.length = k ∧ ∀ x ∈ xs, R H1 x :=
  dr_lst h st hk fun a xs H1 e n l r => ⟨a, xs, rfl, e, n, l, r⟩
theorem dr_set {u : TS} {D : Ends} {i : Nat} (h : Dr p q cs te σ n m H R) (s : Sv p q cs n H) (f : ∀ v H2, But p H H2 → Sv p q cs m H2 → R H2 v → u D (σ.set i (some v)) H2) : tSeq (tAsg te (gName i)) u D σ H :=
  h H (But.refl _ _) s _ f
theorem dr_ret {D : Ends} (h : Dr p q cs te σ n m H R) (s : Sv p q cs n H) (f : ∀ v H2, But p H H2 → Sv p q cs m H2 → R H2 v → D.rt v H2) : tRet te D σ H :=
  h H (But.refl _ _) s _ f
end
/-! ### a list against the empty one; what is walked, of one or another kind; the signs of a text -/
theorem op_eqNil {X : Cx} (hu : X.A.units < cLine) : OpR X (compareOp .Eq) (fun x y H Q => ∃ a b xs, x = .ref a ∧ y = .ref b ∧ H a = some (.lst xs) ∧ H b = some (.lst []) ∧ Q (.bl xs.isEmpty) H) := by
  intro pins s σ H x y v u Q I rx ry h
  obtain ⟨a, b, xs, rfl, rfl, ha, hb, q⟩ := h
  cases (show v = Value.ref a from rx)
  cases (show u = Value.ref b from ry)
  obtain ⟨its, rv, pa, _⟩ := I.list (SqL.of ha)
  obtain ⟨jts, rw_, pb, _⟩ := I.list (SqL.of hb)
  cases rw_
  have e := rv.length
  cases xs with
  | nil =>
    have e2 : its.toArray.size = ([] : List Value).toArray.size := by simpa using e.symm
    refine SeqAt.eq_listAt (e := fun _ => true) pa.isList pb.isList e2 hu (fun j h1 h2 => absurd h2 (by simp)) ?_
    refine ⟨.bl true, H, I, ?_, q⟩
    show Value.bool _ = Value.bool true
    congr 1
    simp
  | cons x xs =>
    refine SeqAt.eq_list_lengthsAt pa.isList pb.isList ?_ hu ⟨.bl false, H, I, rfl, q⟩
    have : its.length = xs.length + 1 := by rw [← e, List.length_cons]
    simp [this]
theorem pi_alt {X : Cx} {tg e : Expr} {w1 w2 : TI} (h1 : PI X tg e w1) (h2 : PI X tg e w2) : PI X tg e (fun σ H R => w1 σ H R ∨ w2 σ H R) :=
  ⟨fun pins s σ H R I h => h.elim (h1.run pins s σ H R I) (h2.run pins s σ H R I)⟩
theorem lc_str {z : Str} {g : TG} {tt : TT} {te : TE} {vs : List Nat} {σ : L2.St} {H1 : Hp} {D : Addr} {Qd : Hp → Prop} (Pv : Nat → Hp → Prop) (h0 : Pv 0 (upd H1 D (.lst [])))
    (hs : ∀ i c H, z.cps[i]? = some c → Pv i H → g (.str ⟨#[c]⟩) (wipe σ vs) H fun σ2 H2 => wipe σ2 vs = wipe σ vs ∧ tt σ2 H2 fun b H3 =>
      if b = true then te σ2 H3 fun y H4 => ∃ acc, H4 D = some (.lst acc) ∧ acc.length < sizeLine ∧ Pv (i + 1) (upd H4 D (.lst (acc ++ [y]))) else Pv (i + 1) H3) (hd : ∀ H, Pv z.cps.size H → Qd H) :
    ∃ W : Nat → Nat → Hp → Prop, (∃ m, W 0 m (upd H1 D (.lst []))) ∧ ∀ i m H, W i m H →
      ((Its z).stop i H ∧ Qd H) ∨ ((Its z).go i H ∧ ∃ Nx : Hp → Prop, (∀ H', Nx H' → ∃ m', m' < m ∧ W (i + 1) m' H') ∧ ∀ x H', (Its z).yld i H x H' → g x (wipe σ vs) H' fun σ2 H2 => wipe σ2 vs = wipe σ vs ∧ tt σ2 H2 fun b H3 =>
        if b = true then te σ2 H3 fun y H4 => ∃ acc, H4 D = some (.lst acc) ∧ acc.length < sizeLine ∧ Nx (upd H4 D (.lst (acc ++ [y]))) else Nx H3) := by
  refine ⟨fun i m H => m = z.cps.size - i ∧ i ≤ z.cps.size ∧ Pv i H, ⟨_, rfl, Nat.zero_le _, h0⟩, ?_⟩
  rintro i m H ⟨em, hi, pv_⟩
  subst em
  rcases Nat.lt_or_ge i z.cps.size with lt | ge
  · refine .inr ⟨lt, Pv (i + 1), fun H' pn => ⟨z.cps.size - (i + 1), by omega, rfl, lt, pn⟩, ?_⟩
    rintro x H' ⟨eH, c, hc, ex⟩
    subst eH
    subst ex
    exact hs i c _ hc pv_
  · have : i = z.cps.size := Nat.le_antisymm hi ge
    subst this
    exact .inl ⟨ge, hd _ pv_⟩
/-! ### a text of some signs alone -/
theorem str_empty {z : Str} : z = Str.ofString "" ↔ z.length = 0 := by
  constructor
  · intro h
    subst h
    decide
  · intro h
    obtain ⟨c⟩ := z
    have : c.size = 0 := h
    have e : c = #[] := Array.eq_empty_of_size_eq_zero this
    subst e
    rfl
theorem strip_none (goes : Nat → Bool) (z : Str) : decide (Txt.stripBy goes true true z = Str.ofString "") = z.cps.toList.all goes := by
  obtain ⟨l1, l2, l3⟩ := PyProof.Rows.lo_facts goes z
  obtain ⟨h1, h2, h3, h4⟩ := PyProof.Rows.hi_facts goes z _ l1
  rw [PyProof.Rows.stripBy_eq]
  generalize e1 : PySem.stripLo goes true z = lo at *
  generalize e2 : PySem.stripHi goes true z lo = hi at *
  have len : (Builtin.Str.strSub z lo hi).length = hi - lo := by
    simp only [Builtin.Str.strSub, Str.length, Array.size_extract]
    have : hi ≤ z.cps.size := h2
    omega
  have at_ : ∀ k, k < z.length → z.cps.getD k 0 ∈ z.cps.toList := fun k hk => by
    have hk' : k < z.cps.size := hk
    rw [Array.getD, dif_pos hk']
    exact Array.getElem_mem_toList hk'
  rw [Bool.eq_iff_iff, decide_eq_true_iff, str_empty, len, List.all_eq_true]
  constructor
  · intro e c hc
    obtain ⟨k, hk, rfl⟩ := List.getElem_of_mem hc
    have hk' : k < z.length := by simpa [Str.length] using hk
    have g : goes (z.cps.getD k 0) = true := by
      rcases Nat.lt_or_ge k lo with h | h
      · exact l2 k h
      · exact h3 k (by omega) hk'
    rw [← PyProof.Rows.getD_list] at g
    have e3 : z.cps.toList.getD k 0 = z.cps.toList[k] := by
      rw [List.getD, List.getElem?_eq_getElem hk]
      rfl
    rw [e3] at g
    exact g
  · intro all
    rcases l3 with e | e
    · omega
    · rcases Nat.lt_or_ge lo z.length with h | h
      · rw [all _ (at_ lo h)] at e
        cases e
      · omega
/-- an expression's reading, said in other words -/
theorem pe_imp {X : Cx} {e : Expr} {t t' : TE} (h : PE X e t) (i : ∀ σ H Q, t' σ H Q → t σ H Q) : PE X e t' := ⟨fun pins s σ H Q I q => h.run pins s σ H Q I (i _ _ _ q)⟩
theorem sign0 (c : Nat) : decide (V.str ⟨#[c]⟩ = V.str (Str.ofString "0")) = decide (c = 48) := by
  have : Str.ofString "0" = ⟨#[48]⟩ := by decide
  rw [this]
  simp
theorem sign1 (c : Nat) : decide (V.str ⟨#[c]⟩ = V.str (Str.ofString "1")) = decide (c = 49) := by
  have : Str.ofString "1" = ⟨#[49]⟩ := by decide
  rw [this]
  simp
def badC (c : Nat) : Bool := !decide (c = 48) && !decide (c = 49)
theorem all_signs (l : List Nat) : (l.filter badC).isEmpty = l.all (Str.ofString "01").cps.contains := by
  have e : (Str.ofString "01").cps = #[48, 49] := by decide
  rw [e]
  induction l with
  | nil => rfl
  | cons c l ih =>
    rw [List.all_cons, ← ih, List.filter_cons]
    by_cases h1 : c = 48
    · subst h1; simp [badC]
    · by_cases h2 : c = 49
      · subst h2; simp [badC]
      · simp [badC, h1, h2]
theorem signs_all (z : Str) : decide (Txt.stripChars z (Str.ofString "01") = Str.ofString "") = (z.cps.toList.filter badC).isEmpty := by
  unfold Txt.stripChars
  rw [strip_none, all_signs]
theorem take_filter_no {α β : Type} {xs : List α} {i : Nat} {x : α} {b : α → Bool} (f : α → β) (h : xs[i]? = some x) (hb : b x = false) : ((xs.take (i + 1)).filter b).map f = ((xs.take i).filter b).map f := by
  rw [List.take_succ, h, List.filter_append]
  simp [hb]
theorem take_filter_yes {α β : Type} {xs : List α} {i : Nat} {x : α} {b : α → Bool} (f : α → β) (h : xs[i]? = some x) (hb : b x = true) : ((xs.take (i + 1)).filter b).map f = ((xs.take i).filter b).map f ++ [f x] := by
  rw [List.take_succ, h, List.filter_append]
  simp [hb]
theorem filter_not_empty {α : Type} (xs : List α) (b : α → Bool) : (xs.filter fun x => !b x).isEmpty = xs.all b := by
  induction xs with
  | nil => rfl
  | cons x xs ih =>
    rw [List.all_cons, List.filter_cons, ← ih]
    cases b x <;> simp
theorem seq_set {te : TE} {u : TS} {D : Ends} {i : Nat} {σ : L2.St} {H : Hp} (h : te σ H fun v H1 => u D (σ.set i (some v)) H1) : tSeq (tAsg te (gName i)) u D σ H := h
theorem dr_par {p q : Addr} {cs : List Int} {ts : TA} {σ : L2.St} {n m : Nat} {H : Hp} {R : Hp → V → Prop} {u : TS} {D : Ends} {i j : Nat} (h : DrA p q cs ts σ n m H 2 R) (s : Sv p q cs n H)
    (f : ∀ v w H2, But p H H2 → Sv p q cs m H2 → R H2 v → R H2 w → u D ((σ.set i (some v)).set j (some w)) H2) : tSeq (tPar i j ts) u D σ H := by
  refine h H (But.refl _ _) s _ ?_
  intro vs H2 b sv len r
  match vs, len with
  | [v, w], _ => exact ⟨v, w, rfl, f v w H2 b sv (r v (by simp)) (r w (by simp))⟩
/-- four truths as data -/
def D4 (a b c d : Bool) : PyData := .list [.bool a, .bool b, .bool c, .bool d]
theorem d4_dp {K : PySem.W.Frag} {H : Hp} {p : Addr} {a b c d : Bool} (h : H p = some (.lst [.bl a, .bl b, .bl c, .bl d])) : Dp K H (.ref p) (D4 a b c d) :=
  .lst (SqL.of h) (.cons (.bl a) (.cons (.bl b) (.cons (.bl c) (.cons (.bl d) .nil))))
theorem d4_show : ∀ a b c d : Bool, (D4 a b c d).showable = true ∧ (D4 a b c d).hasDict = false ∧ (D4 a b c d).depth ≤ 60 ∧ (D4 a b c d).shown.length ≤ sizeLine ∧ SeqAt.shaped (D4 a b c d) = true ∧ PyData.eqv (D4 a b c d) (D4 a b c d) = true := by decide +kernel
theorem vals_rev : ∀ {zs : List V} {ws : List Value}, Vals zs ws → Vals zs.reverse ws.reverse
  | _, _, .nil => .nil
  | _, _, .cons r t => by
    rw [List.reverse_cons, List.reverse_cons]
    exact (vals_rev t).append (.cons r .nil)
theorem yes_if {σ : L2.St} {H : Hp} {A B : Hp → Prop} (h : A H) : tYes σ H fun b H3 => if b = true then A H3 else B H3 := by
  show if true = true then A H else B H
  rw [if_pos rfl]
  exact h
theorem But.mut {p D : Addr} {H H' : Hp} {o : HO} (b : But p H H') (h : H D = none) : But p H (L2.upd H' D o) := fun c u n e => by
  rw [upd_ne (ne_of_none e h)]
  exact b c u n e
theorem Sv.but_upd {p q D : Addr} {cs : List Int} {n m : Nat} {H H0 : Hp} {o : HO} (s : Sv p q cs n H) (hD : D ≠ p) (h0 : H0 D = none) (s0 : Sv p q cs m H0) : Sv p q cs n (L2.upd H D o) := by
  obtain ⟨a, r, h1, h2, h3⟩ := s
  obtain ⟨_, _, _, q0, _⟩ := s0
  have hq : q ≠ D := fun e => by
    rw [e, h0] at q0
    cases q0
  exact ⟨a, r, by rw [upd_ne hD.symm]; exact h1, by rw [upd_ne hq]; exact h2, h3⟩
def IsV (u : V) : Hp → V → Prop := fun _ v => v = u
theorem IsV.stb {u : V} {p : Addr} : Stb p (IsV u) := fun _ _ _ _ h => h
section
variable {p q : Addr} {cs : List Int} {σ : L2.St} {n m l : Nat} {H : Hp}
theorem dr_pow {a b : Int} (h : CPow a b) : Dr p q cs (tOp (rI CPow fun i j => .int (i ^ j.toNat)) (tC (.int a)) (tC (.int b))) σ n n H (IsV (.int (a ^ b.toNat))) :=
  dr_op IsV.stb (dr_c (R := IsV (.int a)) fun _ _ => rfl) (dr_c (R := IsV (.int b)) fun _ _ => rfl) fun x y H1 rx ry Q q => ⟨a, b, rx, ry, h, q _ rfl⟩
theorem dr_neg {a : Int} : Dr p q cs (tUn (rU fun i => .int (-i)) (tC (.int a))) σ n n H (IsV (.int (-a))) :=
  dr_un (dr_c (R := IsV (.int a)) fun _ _ => rfl) fun x H1 rx Q q => ⟨a, rx, q _ rfl⟩
theorem dr_addI {ta tb : TE} {a b : Int} (ha : Dr p q cs ta σ n m H (IsV (.int a))) (hb : Dr p q cs tb σ m l H (IsV (.int b))) : Dr p q cs (tOp (rI0 fun i j => .int (i + j)) ta tb) σ n l H (IsV (.int (a + b))) :=
  dr_op IsV.stb ha hb fun x y H1 rx ry Q q => ⟨a, b, rx, ry, q _ rfl⟩
end
end Own
set_option Elab.async false
set_option linter.all false
set_option maxRecDepth 100000
set_option maxHeartbeats 4000000
namespace Own
open PySem PySem.Spec PyProof.Rows L2
theorem law_callG {P : Program} {w : World} {K : PySem.W.Frag} {mg mb : Str → Option Value} {k : Nat} {fa a : Addr} {fd : FuncData} {x : Str} {sp : Sp} {s₁ : Shared} {vs : List Value} {ns : List Int}
    (inK : K.In s₁.heap) (top : s₁.heap.Ns mainGlobals mg) (bi : s₁.heap.Ns builtinsNs mb) (bt : ∀ x : Str, x ≠ "__name__" → mb x = bootBuiltins x) (lim : s₁.heap.NoLimit) (bare : s₁.gens = #[])
    (at_ : s₁.heap.get? a = some { cls := .type "list", data := .seq vs.toArray }) (iv : IntsAre vs ns) (small : ns.length ≤ sizeLine) (room : Room k callerA)
    (F : ∀ base : Heap, K.In base → base.Ns mainGlobals mg → FnG P w K mg base CX0 k fa fd [x] sp) (bnd : ∀ (s : Shared) (u : Value), BindsTo s fd ⟨[u], []⟩ [(x, u)])
    (say : ∀ H : Hp, Only H → SqL K H a (ns.map V.int) → sp [.ref a] H (fun v _ => v = .bl true) fun _ _ _ => False) :
    codeAny (model P w) callerA (.call (.ref fa) ⟨[.ref a], []⟩) (fun r s' => r = .ok (.ret (.bool true)) ∧ OldK s₁.heap s'.heap ∧ s'.os = s₁.os ∧ AllBare s'.gens) s₁ := by
  have rv := vals_ints iv
  have lenV := iv.length
  have main : ∀ H : Hp, Only H → SqL K H a (ns.map V.int) → HOk P w H s₁.heap → (∀ b, H b ≠ none → b = a) → (H a ≠ none → K.lookup a = none) →
      codeAny (model P w) callerA (.call (.ref fa) ⟨[.ref a], []⟩) (fun r s' => r = .ok (.ret (.bool true)) ∧ OldK s₁.heap s'.heap ∧ s'.os = s₁.os ∧ AllBare s'.gens) s₁ := by
    intro H only sq hok just free
    have notA : ∀ {b : Addr} {o : Obj} {es : Array DictEntry} {ep : Nat}, s₁.heap.get? b = some o → o.data = .dict es ep → H b = none := by
      intro b o es ep e d
      by_cases q : H b = none
      · exact q
      · cases just b q
        rw [at_] at e
        cases e
        cases (show Data.seq vs.toArray _ = Data.dict es ep from d)
    have ns_ : ∀ {b : Addr} {m : Str → Option Value}, s₁.heap.Ns b m → (hidT s₁.heap H).Ns b m := by
      rintro b m ⟨o, es, ep, e, d, r⟩
      exact ⟨o, es, ep, hidT_get e (notA e d), d, r⟩
    have k_ : K.In (hidT s₁.heap H) := by
      intro b o e
      refine hidT_get (inK b o e) ?_
      by_cases q : H b = none
      · exact q
      · cases just b q
        rw [free q] at e
        cases e
    obtain ⟨mc, l1, l2⟩ := lim
    have M : Mod K mg (hidT s₁.heap H) := ⟨k_, ns_ top, ⟨mb, ns_ bi, bt⟩, ⟨mc, ns_ l1, l2⟩⟩
    have E0 : Env0 P w K mg (hidT s₁.heap H) callerA [] s₁ H :=
      ⟨rfl, M, fun b o e => of_hidT e, Nat.le_of_eq (hidT_size _ _), trivial, fun b hb => (List.not_mem_nil (show b ∈ ([] : List Addr) from hb)).elim, hok, .of_eq bare⟩
    refine codeAny_mono ((F _ k_ (ns_ top)).run callerA [] s₁ H ⟨[.ref a], []⟩ [.ref a] [.ref a] _ _ room rfl E0 (bnd s₁ (.ref a)) (.cons rfl .nil) (say H only sq)) ?_
    intro r s' h
    match r, h with
    | .error e, h => exact h.elim
    | .ok .next, h => exact h.elim
    | .ok .brk, h => exact h.elim
    | .ok .cont, h => exact h.elim
    | .ok (.ret u), h =>
      obtain ⟨v, G, os, br, un, hk2, r1, q⟩ := h
      cases (show v = V.bl true from q)
      cases (show u = Value.bool true from r1)
      refine ⟨rfl, OldK.of_keep ?_, os, br⟩
      intro b o e
      by_cases q : H b = none
      · exact un.keep b o e q (fun z => (List.not_mem_nil (show b ∈ ([] : List Addr) from z)).elim) (by simp)
      · rcases only b with z | ⟨ob, xs, z⟩
        · exact (q z).elim
        · have y1 := (hok b _ z).1
          have y2 := (hk2 b _ (un.frzs b ob _ z)).1
          rw [e] at y1
          cases y1
          exact y2
  have sz : (ns.map V.int).length ≤ sizeLine := by rw [List.length_map]; exact small
  by_cases hk : K.lookup a = none
  · have T : ∀ b u, (fun b => if b = a then some (HO.frz { cls := .type "list", data := .seq vs.toArray } (.lst (ns.map V.int))) else none) b = some u →
        b = a ∧ u = .frz { cls := .type "list", data := .seq vs.toArray } (.lst (ns.map V.int)) := by
      intro b u z
      by_cases hb : b = a
      · exact ⟨hb, (Option.some.inj ((if_pos hb).symm.trans z)).symm⟩
      · cases (if_neg hb).symm.trans z
    refine main (fun b => if b = a then some (HO.frz { cls := .type "list", data := .seq vs.toArray } (.lst (ns.map V.int))) else none) (fun b => ?_) (.inl (.inr ⟨_, if_pos rfl⟩)) (fun b u z => ?_) (fun b z => ?_) fun _ => hk
    · by_cases hb : b = a
      · exact .inr ⟨_, _, if_pos hb⟩
      · exact .inl (if_neg hb)
    · obtain ⟨rfl, rfl⟩ := T b u z
      exact ⟨at_, sz, vs, _, rv, at_⟩
    · by_cases hb : b = a
      · exact hb
      · exact (z (if_neg hb)).elim
  · obtain ⟨o, ho⟩ := Option.ne_none_iff_exists'.mp hk
    have e := inK a o ho
    rw [at_] at e
    cases e
    exact main (fun _ => none) (fun _ => .inl rfl) (.inr ⟨_, vs.toArray, _, ho, rfl, rfl, rfl, by rw [List.size_toArray, lenV]; exact small, by simpa using rv⟩)
      (fun b u z => by cases (show (none : Option HO) = some u from z)) (fun b z => (z rfl).elim) (fun z => (z rfl).elim)
theorem walk_ofG {l : PySem.W.OpenLaw} {n k : Nat} {q : Program} {loose : List Str} {XP : (Str → Option Value) → Heap → Prop} {YP : World → Heap → Prop} {d : DefRec} {K : Params → PySem.W.Frag} {sp : PySem.W.Frag → Sp} {x : Str}
    (hn : l.most = some n) (hn2 : n ≤ sizeLine) (hdf : d.params.defaults = []) (room : Room k callerA) (hY : ∀ (w : World) (h : Heap), YP w h → (K w.params).In h)
    (F : ∀ (w : World) (mg : Str → Option Value) (fa : Addr) (h : Heap), (K w.params).In h → h.Ns mainGlobals mg → mg d.name = some (.ref fa) →
      ∃ fd : FuncData, (∀ (s : Shared) (u : Value), BindsTo s fd ⟨[u], []⟩ [(x, u)]) ∧
        ∀ base : Heap, (K w.params).In base → base.Ns mainGlobals mg → FnG l.prog w (K w.params) mg base CX0 k fa fd [x] (sp (K w.params)))
    (say : ∀ (K : PySem.W.Frag) (H : Hp) (a : Addr) (ns : List Int), ns.length ≤ n → (∀ z ∈ ns, Builtin.Int.intBits z ≤ 1048576) → Only H → SqL K H a (ns.map V.int) → sp K [.ref a] H (fun v _ => v = .bl true) fun _ _ _ => False) :
    PySem.W.WalkO q loose XP YP l.row.toRowW d [] (fun f vs => PySem.call f vs) := by
  refine Att.attach_callB hn hdf ?_
  intro w s₀ s₁ mg mb fa o pm cd doc a vs ns G Y ho hd hcd hmg hobj iv hlen hbits hg
  have inK := hY w _ Y
  obtain ⟨fd, hb, hF⟩ := F w mg fa _ inK G.T.g hmg
  exact law_callG inK G.T.g G.T.b G.T.builtins G.T.nolimit hg hobj iv (Nat.le_trans hlen hn2) room hF hb (fun H only sq => say _ H a ns hlen hbits only sq)
end Own
set_option Elab.async false
set_option linter.all false
set_option maxRecDepth 100000
set_option maxHeartbeats 4000000
/-! Exceptions of own classes as values: made by place and by name, their fields, what they are. -/
namespace PySem
namespace HandSPX
open PySem.W PySem.Calls PyProof.Rows
section
variable {prog : Program} {w : World} {A : Around} {E : Value → Shared → Prop} {R : Result → Shared → Prop} {h : Heap} {g : Array GenState} {d : Drawn} {t : Nat} {os : OsState} {M : Model}
variable {nm q : Str} {C N : Addr} {bs bm bmB : List Value} {hdct : Bool} {sn : List Str} {sub : List Value} {ab : Bool} {col : Option Bool} {dd : Option Addr} {k0 k1 k2 k3 k5 : Option Value} {B newId initId : String}
theorem own_check_new_kw (F : ExcBaseFacts B newId initId bmB) (hT : ∀ X : String, bm.contains (.type X) = bmB.contains (.type X)) {rest : List Value} {kw : List (Str × Value)} {Q : Unit → Shared → Prop}
    (oC : h.get? C = some (excClassObj nm q C N bs bm hdct sn sub ab col dd k0 k1 k2 k3 k5 newId)) (fin : Q () ⟨h, g, d, t, os⟩) : wpAny M A (checkBuiltinCall newId ⟨.ref C :: rest, kw⟩) Q E ⟨h, g, d, t, os⟩ := by
  have inB : (Value.ref C :: bm).contains (.type B) = true := by
    rw [List.contains_cons, hT, F.hasB]
    exact Bool.or_true _
  have st := F.noStar
  simp only [checkBuiltinCall, F.newKind, F.newSplit, F.newRow]
  repeat (first
    | refine wpAny_loadPart_at oC ?_
    | (refine wpAny_isSubtype_exc oC ?_; rw [inB])
    | refine wpAny_staticBase_exc oC ?_
    | refine wpAny_madeBy_exc oC ?_
    | simp only [bne_self_eq_false, Bool.false_eq_true, if_false]
    | wp_step)
  exact fin
theorem own_new_kw (F : ExcBaseFacts B newId initId bmB) (hT : ∀ X : String, bm.contains (.type X) = bmB.contains (.type X)) {rest : List Value} {kw : List (Str × Value)}
    (oC : h.get? C = some (excClassObj nm q C N bs bm hdct sn sub ab col dd k0 k1 k2 k3 k5 newId))
    (fin : R (.ok (.ret (.ref (h.objs.size + 1)))) ⟨(h.push (W.kdv_tup rest)).push (excO C h.objs.size), g, d, t, os⟩) (few : rest.length ≤ sizeLine) :
    codeAny (model prog w) A (.builtin newId ⟨.ref C :: rest, kw⟩) R ⟨h, g, d, t, os⟩ := by
  have e0 := F.ends
  have inB : (Value.ref C :: bm).contains (.type B) = true := by
    rw [List.contains_cons, hT, F.hasB]
    exact Bool.or_true _
  have inA : (Value.ref C :: bm).contains (.type "AttributeError") = false := by
    rw [List.contains_cons, hT, F.noAttr]
    rfl
  have inN : (Value.ref C :: bm).contains (.type "NameError") = false := by
    rw [List.contains_cons, hT, F.noName]
    rfl
  refine codeAny_builtinAt F.entry ?_
  unfold Builtin.«BaseException.__new__»
  refine wpAt_bind ?_
  show wpAt _ _ _ (stack >>= _) _ _ _
  refine wpAt_bind (wpAt_stack fun p below => wpAt_of_wpAny ?_)
  wp_walk
  refine wpAt_of_wpAny ?_
  rw [F.owner]
  repeat (first
    | with_reducible refine wpAny_madeHere_exc F.canon oC ?_
    | with_reducible refine wpAny_loadPart_at oC ?_
    | (with_reducible refine wpAny_isSubtype_exc oC ?_; first | rw [inB] | rw [inA] | rw [inN])
    | wp_step)
  show R _ _
  rw [Heap.size_push]
  exact fin
theorem own_type_call_kw (F : ExcBaseFacts B newId initId bmB) (hT : ∀ X : String, bm.contains (.type X) = bmB.contains (.type X)) {rest : List Value} {kw : List (Str × Value)} {fI : Addr} {Q : Fin → Shared → Prop}
    (oC : h.get? C = some (excClassObj nm q C N bs bm hdct sn sub ab col dd k0 k1 k2 k3 k5 newId))
    (li : W.Looks (model prog w) h (typeLookup (.ref C) "__init__") (some (.ref fI))) (lb : ∀ self, W.Looks (model prog w) h (bindSpecial (.ref fI) self) (.ref fI, [self])) (few : rest.length ≤ sizeLine)
    (run : codeAny (model prog w) A (.call (.ref fI) ⟨.ref (h.objs.size + 1) :: rest, kw⟩)
      (fun r s' => match r with | .ok (.ret v) => v = .none ∧ Q (.done (.ret (.ref (h.objs.size + 1)))) s' | .ok _ => False | .error e => E e s')
      ⟨(h.push (W.kdv_tup rest)).push (excO C h.objs.size), g, d, t, os⟩) :
    wpAny (model prog w) A (Builtin.«type.__call__» ⟨.ref C :: rest, kw⟩) Q E ⟨h, g, d, t, os⟩ := by
  repeat (first
    | with_reducible refine wpAny_loadPart_at oC ?_
    | with_reducible refine wpAny_madeBy_exc oC ?_
    | wp_step)
  refine codeAny_call_builtin_code (Code.quiet_builtin _ F.quiet) (own_check_new_kw F hT oC ?_)
  refine own_new_kw F hT oC ?_ few
  show wpAny _ _ _ _ _ _
  have kp : ∀ b o, h.get? b = some o → ((h.push (W.kdv_tup rest)).push (excO C h.objs.size)).get? b = some o := fun b o e => Heap.get?_push_of_some _ (Heap.get?_push_of_some _ e)
  have oC1 := kp _ _ oC
  have oE : ((h.push (W.kdv_tup rest)).push (excO C h.objs.size)).get? (h.objs.size + 1) = some (excO C h.objs.size) := by heap_get
  have inC : (Value.ref C :: bm).contains (.ref C) = true := by simp
  have l1 := li.keeps kp
  have l2 := (lb (.ref (h.objs.size + 1))).keeps kp
  unfold isInstance
  repeat (first
    | with_reducible refine wpAny_loadPart_at oE ?_
    | (with_reducible refine wpAny_isSubtype_exc oC1 ?_; rw [inC])
    | wp_step)
  show wpAny _ _ (typeLookup (.ref C) _) _ _ _
  refine l1.at ?_
  refine wpAny_holding (wpAny_bind (l2.at ?_))
  refine wpAny_bind (wpAny_call (codeAny_mono run fun r s' z => ?_))
  rcases r with e | (v | _ | _ | _) <;> first | exact z | exact z.elim | skip
  obtain ⟨rfl, z⟩ := z
  first
    | exact wpAny_pure (wpAny_pure z)
    | (wp_walk; exact z)
theorem own_call_kw (F : ExcBaseFacts B newId initId bmB) (hT : ∀ X : String, bm.contains (.type X) = bmB.contains (.type X)) {rest : List Value} {kw : List (Str × Value)} {fI : Addr}
    (oC : h.get? C = some (excClassObj nm q C N bs bm hdct sn sub ab col dd k0 k1 k2 k3 k5 newId))
    (li : W.Looks (model prog w) h (typeLookup (.ref C) "__init__") (some (.ref fI))) (lb : ∀ self, W.Looks (model prog w) h (bindSpecial (.ref fI) self) (.ref fI, [self])) (few : rest.length ≤ sizeLine)
    (run : codeAny (model prog w) (A.under (.builtin "type.__call__" ⟨.ref C :: rest, kw⟩)) (.call (.ref fI) ⟨.ref (h.objs.size + 1) :: rest, kw⟩) (W.InitBack (h.objs.size + 1) R)
      ⟨(h.push (W.kdv_tup rest)).push (excO C h.objs.size), g, d, t, os⟩) :
    codeAny (model prog w) A (.call (.ref C) ⟨rest, kw⟩) R ⟨h, g, d, t, os⟩ := by
  have f1 := tc_lookup
  have f2 := tc_bind (.ref C)
  have ty : (⟨h, g, d, t, os⟩ : Shared).TypeIs (.ref C) "type" := ⟨_, oC, rfl⟩
  refine codeAny_of_tree ?_
  show wpAny _ _ (callAny (.ref C) _) _ _ _
  repeat (any_goals (first | assumption | with_reducible refine wpAny_loadPart_at oC ?_ | wp_step))
  refine ⟨rfl, ?_⟩
  refine codeAny_call_builtin_at (Code.quiet_builtin _ (by decide +kernel)) entry_typeCall (wpAny_check_type_call_sub oC (own_type_call_kw F hT oC li lb few ?_))
  refine codeAny_mono run fun r s' z => ?_
  rcases r with e | (v | _ | _ | _) <;> exact z
end
end HandSPX
end PySem

set_option Elab.async false
set_option linter.all false
set_option maxRecDepth 100000
set_option maxHeartbeats 4000000

namespace Own
open PySem PySem.Spec PyProof.Rows L2
/-- what the written part says of an exception class of the program's own -/
structure ExC (K : PySem.W.Frag) (C : Addr) : Prop where
  o : OexC K C
  ga : PySem.W.findIn K (.ref C) "__getattribute__" = some (some (.builtin "BaseException.__getattribute__"))
  gg : PySem.W.findIn K (.ref C) "__getattr__" = some none
  hd : PySem.W.hasDictIn K C = true
  cA : PySem.W.findIn K (.ref C) "__class__" = some (some (.builtin "object.__class__"))
  cg : PySem.W.specialIn K (.builtin "object.__class__") "__get__" = some (some (.builtin "getset_descriptor.__get__"))
  ct : PySem.W.takesIn K (.builtin "object.__class__") = some true
  cm : PySem.W.mroIn K C (.type "object") = some true
/-- an exception that was caught and is held, of the class cls, its own dict at d -/
def exv (cls : Value) (d : Option Addr) (a : Addr) : HO := .ext fun h => ∃ (oe : Obj) (vs : Array Value), h.get? a = some oe ∧ Zc cls d oe ∧ oe.data = .fields vs
/-- at a an exception of the class at C, its fields fs (in the dict at d) -/
def ExAt (H : Hp) (a C d : Addr) (fs : List (Str × V)) : Prop := (H a = some (exo a C (some d)) ∨ H a = some (exv (.ref C) (some d) a)) ∧ (H d = some (exd d fs) ∨ H d = some (.xd fs))
theorem ExAt.mono {H H' : Hp} {a C d : Addr} {fs : List (Str × V)} (s : Same H H') (h : ExAt H a C d fs) : ExAt H' a C d fs :=
  ⟨h.1.imp (s _ _) (s _ _), h.2.imp (s _ _) (s _ _)⟩
section
variable {X : Cx} {pins : List (Addr × Obj)} {σ : L2.St} {H : Hp} {s : Shared}
theorem ExAt.inst {a C d : Addr} {fs : List (Str × V)} (I : Inv X pins σ H s) (h : ExAt H a C d fs) :
    ∃ (oe od : Obj), PySem.W.InstAt s.heap a oe C (some od) ∧ ∃ mA : Str → Option Value, (∀ name, PySem.W.lookIn name od = some (mA name)) ∧ ∀ f, RelO (fs.lookup f) (mA f) := by
  obtain ⟨h1, h2⟩ := h
  obtain ⟨mA, hn, rel⟩ : ∃ mA, s.heap.Ns1 d mA ∧ ∀ f, RelO (fs.lookup f) (mA f) := by
    rcases h2 with h2 | h2
    · exact exd_at I.hok h2
    · exact I.hok d _ h2
  obtain ⟨od, ho, hl⟩ := lookIn_ns hn
  obtain ⟨oe, vs, he, hz, hdt⟩ : ∃ (oe : Obj) (vs : Array Value), s.heap.get? a = some oe ∧ Zc (.ref C) (some d) oe ∧ oe.data = .fields vs := by
    rcases h1 with h1 | h1
    · obtain ⟨t1, e⟩ := exo_at I.hok h1
      exact ⟨_, _, e, ⟨rfl, rfl⟩, rfl⟩
    · obtain ⟨q, _, _⟩ := (show ObjOk X.prog X.w H s.heap a (exv (.ref C) (some d) a) from I.hok a _ h1)
      exact q
  refine ⟨oe, od, ⟨he, hz.1, ?_, ?_⟩, mA, hl, rel⟩
  · unfold PySem.W.notCls
    rw [hdt]
  · rw [hz.2]
    exact ho
end
/-- isinstance(e, c) -/
def rIsX (K : PySem.W.Frag) : List V → Hp → VK → Prop := fun xs H Q => ∃ (a C d : Addr) (fs : List (Str × V)) (c : V) (cv : Value) (b : Bool), xs = [.ref a, c] ∧ ExC K C ∧ ExAt H a C d fs ∧ ClsV c cv ∧ PySem.W.kitOne K (.ref C) cv = some b ∧ Q (.bl b) H
theorem call_isX {X : Cx} : CallR X (.builtin "isinstance") (rIsX X.K) := by
  intro pins s σ H xs us Q I r h
  obtain ⟨a, C, d, fs, c, cv, b, rfl, T, he, hc, hk, q⟩ := h
  match us, r with
  | [u1, u2], .cons r1 (.cons r2 .nil) =>
    cases (show u1 = Value.ref a from r1)
    cases hc.eq r2
    obtain ⟨oe, od, J, _⟩ := he.inst I
    have cl : (PySem.W.clsIn X.K C).isSome = true := by
      obtain ⟨cd, z, _⟩ := PySem.W.any_some T.hd
      rw [z]
      rfl
    exact PySem.W.kia_one (PySem.W.kitx_exc (od := some od) cl T.ga T.gg T.o.exC T.cA T.cg T.ct T.cm) I.kIn J hk (fun z => nomatch z) fun tk => ⟨.bl b, H, I.kept (t' := tk) fun _ _ z => z, rfl, q⟩
/-- e.f -/
def tExF (K : PySem.W.Frag) (f : Str) (te : TE) : TE := fun σ H Q => te σ H fun x H1 => ∃ (a C d : Addr) (fs : List (Str × V)) (v : V), x = .ref a ∧ ExC K C ∧ PySem.W.findIn K (.ref C) f = some none ∧ ExAt H1 a C d fs ∧ fs.lookup f = some v ∧ Q v H1
theorem pe_exf {X : Cx} {e : Expr} {f : Str} {te : TE} {pos : Pos} (he : PE X e te) (hb : attributeBase e f X.env (eval e X.env) = eval e X.env := by rfl) : PE X (.Attribute e f pos) (tExF X.K f te) := by
  constructor
  intro pins s σ H Q I h
  refine attr_of hb (thn (he.run pins s σ H _ I h) ?_)
  rintro u s1 ⟨x, H1, I1, rx, a, C, d, fs, v, rfl, T, no, ea, l, q⟩
  cases (show u = Value.ref a from rx)
  obtain ⟨oe, od, J, mA, hl, rel⟩ := ea.inst I1
  obtain ⟨y, hy, ry⟩ := RelO.some_of (v := v) (o := mA f) (by rw [← l]; exact rel f)
  exact HandSPX.exc_get I1.kIn J T.ga T.gg T.o.exC (PySem.W.findObj_own T.hd no rfl (by rw [hl, hy])) (handed_of ry) ⟨v, H1, I1.tok _, ry, q⟩
section
variable {X : Cx} {CX : CXT} {k n : Nat} {fI C : Addr} {fd : FuncData} {ps ks : List Str} {sp : Sp} {x : Str} {p pos : Pos} {e : Expr} {es : List Expr} {kws : List Keyword} {t tk : TA} {g : List Value → List Value → List Value} {gV : List V → List V → List V}
theorem run_exn {pins : List (Addr × Obj)} {σ : L2.St} {H : Hp} {s : Shared} {Q : VK} {us ws : List Value} {vs zs : List V} (T : OexC X.K C) (iC : PySem.W.findIn X.K (.ref C) "__init__" = some (some (.ref fI)))
    (tI : PySem.W.typeIn X.K (.ref fI) = some (.type "function")) (G0 : FnOk X.prog X.w X.K X.mg X.base CX k fI fd ps sp) (room : Room (k + 1) X.A) (hb : KBn X.K fd ps (n + 1) ks g gV) (hx : Passes CX X (fun _ _ _ => False))
    (I : Inv X pins σ H s) (r : Vals vs us) (rz : Vals zs ws) (l1 : vs.length = n) (l2 : zs.length = ks.length) (few : n ≤ 1000)
    (h : ∀ a, H a = none → sp (gV (.ref a :: vs) zs) (upd H a (exo a C none)) (fun v H2 => v = .non ∧ Q (.ref a) H2) (fun _ _ _ => False)) :
    wpAny (model X.prog X.w) X.A (call (.ref C) us (ks.zip ws)) (EP X pins σ Q) X.xe s := by
  obtain ⟨nm, q, N, bs, bm, sn, sub, ab, col, dd, k0, k1, k2, k3, k5, hC, hbm⟩ := T.cls
  obtain ⟨hp, gs, dr, tk, os⟩ := s
  have le : hp.objs.size ≤ hp.objs.size + 1 := Nat.le_succ _
  have want := h (hp.objs.size + 1) (I.hok.fresh le)
  have kp : ∀ b o, hp.get? b = some o → ((hp.push (PySem.W.kdv_tup us)).push (PySem.HandSPX.excO C hp.objs.size)).get? b = some o := fun b o z => Heap.get?_push_of_some _ (Heap.get?_push_of_some _ z)
  have at_ : ((hp.push (PySem.W.kdv_tup us)).push (PySem.HandSPX.excO C hp.objs.size)).get? (hp.objs.size + 1) = some (PySem.HandSPX.excO C hp.objs.size) := by heap_get
  have J : Inv X pins σ (upd H (hp.objs.size + 1) (exo (hp.objs.size + 1) C none)) ⟨(hp.push (PySem.W.kdv_tup us)).push (PySem.HandSPX.excO C hp.objs.size), gs, dr, tk, os⟩ :=
    I.laid (t' := tk) (h' := (hp.push (PySem.W.kdv_tup us)).push (PySem.HandSPX.excO C hp.objs.size)) kp le (exo_ok at_)
  have r1 : Vals (V.ref (hp.objs.size + 1) :: vs) (Value.ref (hp.objs.size + 1) :: us) := .cons rfl r
  have r2 := hb.rel r1 rz
  have n1 : (Value.ref (hp.objs.size + 1) :: us).length = n + 1 := r1.length.symm.trans (congrArg Nat.succ l1)
  have n2 : ws.length = ks.length := rz.length.symm.trans l2
  have fewU : us.length ≤ sizeLine := by
    rw [← Paired.length r, l1, sizeLine_eq]
    omega
  refine wpAny_call (PySem.HandSPX.own_call_kw PySem.F.excBase_ValueError (fun Y => PySem.HandSPX.refsVE_contains Y bm hbm) (I.kIn _ _ hC) (PySem.W.looks_findIn I.kIn iC) (fun self => PySem.W.bind_fn I.kIn self tI) fewU ?_)
  refine codeAny_mono (G0.run _ X.stack _ _ ⟨Value.ref (hp.objs.size + 1) :: us, ks.zip ws⟩ _ _ _ (fun _ _ _ => False) (room.make C us (ks.zip ws)) (J.env0.make C us (ks.zip ws)) (hb.to _ _ ws J.kIn n1 n2) r2 want) ?_
  intro r s' z
  match r, z with
  | .error e, z => exact hx pins σ _ _ e s' J z
  | .ok .next, z => exact z.elim
  | .ok .brk, z => exact z.elim
  | .ok .cont, z => exact z.elim
  | .ok (.ret u), z =>
    obtain ⟨v, H2, J2, rv, ev, q3⟩ := J.after z
    subst ev
    exact ⟨rv, .ref _, H2, J2, rfl, q3⟩
/-- C(e, ..) -/
def tExn (C : Addr) (n : Nat) (sp : Sp) (gV : List V → List V → List V) (t tk : TA) (m : Nat) : TE := fun σ H Q => t σ H fun vs H1 => tk σ H1 fun zs H2 => vs.length = n ∧ zs.length = m ∧ n ≤ 1000 ∧
  ∀ a, H2 a = none → sp (gV (.ref a :: vs) zs) (upd H2 a (exo a C none)) (fun v H3 => v = .non ∧ Q (.ref a) H3) (fun _ _ _ => False)
theorem pe_exn (T : OexC X.K C) (iC : PySem.W.findIn X.K (.ref C) "__init__" = some (some (.ref fI))) (tI : PySem.W.typeIn X.K (.ref fI) = some (.type "function")) (G0 : FnOk X.prog X.w X.K X.mg X.base CX k fI fd ps sp) (room : Room (k + 1) X.A)
    (hb : KBn X.K fd ps (n + 1) [] g gV) (hx : Passes CX X (fun _ _ _ => False)) (hm : X.mg x = some (.ref C)) (ha : PA X (e :: es) t) (hg : Gl X x := by rfl)
    (hdb : (x == ("__debug__" : Str)) = false := by decide) (he : starEach (e :: es) X.env = (false, eval e X.env) :: starEach es X.env := by rfl) (hpl : (backTo pos (starEach es X.env)).any (·.1) = false := by rfl) :
    PE X (.Call (.Name x p) (e :: es) [] pos) (tExn C n sp gV t tNil 0) := by
  constructor
  intro pins s σ H Q I h
  refine wpAny_Call_Name_kw (ld_glob I hg hm ?_ hdb)
  refine PySem.W.callWith_K (h₀ := X.base) I.ok.mod.kin T.kC (thn (ha.run pos pins s σ H _ I h) ?_) he hpl
  rintro us s1 ⟨vs, H1, I1, r, l1, l2, few, q⟩
  exact ⟨I1.kIn, run_exn (ws := []) (zs := []) T iC tI G0 room hb hx I1 r .nil l1 rfl few q⟩
theorem pe_exnK (T : OexC X.K C) (iC : PySem.W.findIn X.K (.ref C) "__init__" = some (some (.ref fI))) (tI : PySem.W.typeIn X.K (.ref fI) = some (.type "function")) (G0 : FnOk X.prog X.w X.K X.mg X.base CX k fI fd ps sp) (room : Room (k + 1) X.A)
    (hb : KBn X.K fd ps 1 ks g gV) (hx : Passes CX X (fun _ _ _ => False)) (hm : X.mg x = some (.ref C)) (hkw : PK X kws tk) (hg : Gl X x := by rfl) (hall : (backToKw pos (keywordEach kws X.env)).all (·.1.isSome) = true := by rfl)
    (hks : (backToKw pos (keywordEach kws X.env)).filterMap (·.1) = ks := by rfl) (hdb : (x == ("__debug__" : Str)) = false := by decide)
    (hpl : ((backTo pos (starEach [] X.env)).any (·.1) || (backToKw pos (keywordEach kws X.env)).any (·.1.isNone)) = false := by rfl) :
    PE X (.Call (.Name x p) [] kws pos) (tExn C 0 sp gV tNil tk ks.length) := by
  constructor
  intro pins s σ H Q I h
  refine wpAny_Call_Name_kw (ld_glob I hg hm ?_ hdb)
  refine PySem.W.callWith_KW0 (h₀ := X.base) I.ok.mod.kin T.kC hall (thn (hkw.run pos pins s σ H _ I h) ?_) hpl
  rintro ws s2 ⟨zs, H2, I2, rz, l1, l2, few, q⟩
  refine ⟨I2.kIn, ?_⟩
  rw [hks]
  exact run_exn (vs := []) (us := []) T iC tI G0 room hb hx I2 .nil rz rfl l2 few q
end
/-- a class of exceptions, with all that making one wants: n fields, by place and by the names ks -/
structure Xcl (P : Program) (w : World) (K : PySem.W.Frag) (mg : Str → Option Value) (base : Heap) (x : Str) (C : Addr) (n : Nat) (ks : List Str) (gV : List V → List V → List V) (sp : Sp) : Prop where
  t : ExC K C
  at_ : mg x = some (.ref C)
  ex : ∃ fI fd ps g gK, PySem.W.findIn K (.ref C) "__init__" = some (some (.ref fI)) ∧ PySem.W.typeIn K (.ref fI) = some (.type "function") ∧ FnOk P w K mg base CX0 1 fI fd ps sp ∧
    KBn K fd ps (n + 1) [] g (fun vs _ => vs) ∧ KBn K fd ps 1 ks gK gV
theorem pe_xcl {X : Cx} {x : Str} {C : Addr} {n : Nat} {ks : List Str} {gV : List V → List V → List V} {sp : Sp} {p pos : Pos} {e : Expr} {es : List Expr} {t : TA} (T : Xcl X.prog X.w X.K X.mg X.base x C n ks gV sp) (room : Room 2 X.A) (ha : PA X (e :: es) t) (hg : Gl X x := by rfl)
    (hdb : (x == ("__debug__" : Str)) = false := by decide) (he : starEach (e :: es) X.env = (false, eval e X.env) :: starEach es X.env := by rfl) (hpl : (backTo pos (starEach es X.env)).any (·.1) = false := by rfl) :
    PE X (.Call (.Name x p) (e :: es) [] pos) (tExn C n sp (fun vs _ => vs) t tNil 0) := by
  obtain ⟨fI, fd, ps, g, gK, iC, tI, F, b1, b2⟩ := T.ex
  exact pe_exn T.t.o iC tI F room b1 pass0 T.at_ ha hg hdb he hpl
theorem pe_xclK {X : Cx} {x : Str} {C : Addr} {n : Nat} {ks : List Str} {gV : List V → List V → List V} {sp : Sp} {p pos : Pos} {kws : List Keyword} {tk : TA} (T : Xcl X.prog X.w X.K X.mg X.base x C n ks gV sp) (room : Room 2 X.A) (hkw : PK X kws tk) (hg : Gl X x := by rfl)
    (hall : (backToKw pos (keywordEach kws X.env)).all (·.1.isSome) = true := by rfl)
    (hks : (backToKw pos (keywordEach kws X.env)).filterMap (·.1) = ks := by rfl) (hdb : (x == ("__debug__" : Str)) = false := by decide)
    (hpl : ((backTo pos (starEach [] X.env)).any (·.1) || (backToKw pos (keywordEach kws X.env)).any (·.1.isNone)) = false := by rfl) :
    PE X (.Call (.Name x p) [] kws pos) (tExn C 0 sp gV tNil tk ks.length) := by
  obtain ⟨fI, fd, ps, g, gK, iC, tI, F, b1, b2⟩ := T.ex
  exact pe_exnK T.t.o iC tI F room b2 pass0 T.at_ hkw hg hall hks hdb hpl
/-- __init__ of one field, of two -/
def spI1 (K : PySem.W.Frag) (f : Str) : Sp := fun vs H Q _ => ∃ (a C : Addr) (y : V), vs = [.ref a, y] ∧ OexC K C ∧ PySem.W.findIn K (.ref C) f = some none ∧ H a = some (exo a C none) ∧
  ∀ dx, H dx = none → dx ≠ a → Q .non (upd (upd H dx (exd dx [(f, y)])) a (exo a C (some dx)))
def spI2 (K : PySem.W.Frag) (f g : Str) : Sp := fun vs H Q _ => ∃ (a C : Addr) (y z : V), vs = [.ref a, y, z] ∧ OexC K C ∧ PySem.W.findIn K (.ref C) f = some none ∧ PySem.W.findIn K (.ref C) g = some none ∧ H a = some (exo a C none) ∧
  ∀ dx, H dx = none → dx ≠ a → Q .non (upd (upd (upd H dx (exd dx [(f, y)])) a (exo a C (some dx))) dx (exd dx [(g, z), (f, y)]))
/-- a class or a def of the top as a value -/
theorem pe_gr {X : Cx} {x : Str} {a : Addr} {pos : Pos} (h : X.mg x = some (.ref a)) (hg : Gl X x := by rfl) (hd : (x == ("__debug__" : Str)) = false := by decide) : PE X (.Name x pos) (tC (.ref a)) := pe_glob hg h rfl hd
end Own
set_option Elab.async false
set_option linter.all false
set_option maxRecDepth 100000
set_option maxHeartbeats 4000000
namespace Own
open PySem PySem.Spec PyProof.Rows L2
section
variable {X : Cx}
/-- behind the suite: the exception at a, that was caught, is known from now on -/
theorem lay_exc {pins pinsI : List (Addr × Obj)} {σ σI : L2.St} {H HI : Hp} {s sI : Shared} {a : Addr} {oe : Obj} {cls : Value} {d : Option Addr} {vs : Array Value}
    (S : Inv (X.suite a ((a, oe) :: (X.pn ++ pins))) [] σ H s) (ok : X.Ok) (hz : Zc cls d oe) (hd : oe.data = .fields vs) (hex : X.ex = []) (I : Inv X pinsI σI HI sI) (hI : ∀ p ∈ X.pn ++ pins, ∃ o, sI.heap.get? p.1 = some o) (no : sI.heap.get? a = none) :
    Inv X pins σ (upd H a (exv cls d a)) s := by
  have J := S.unsuite ok
  obtain ⟨ha, na, nL, nF, _⟩ := S.pin (a, oe) (List.mem_append_left _ List.mem_cons_self)
  have ne0 : ∀ b o, X.s_0.heap.get? b = some o → b ≠ a := by
    intro b o e q
    obtain ⟨o2, e2⟩ := I.base.there b o e (by rw [hex]; exact List.not_mem_nil)
    rw [q, no] at e2
    cases e2
  have stays : ∀ b u, H b = some u → upd H a (exv cls d a) b = some u := fun b u e => (upd_ne (ne_of_none e na)).trans e
  have gone : ∀ b, b ≠ a → H b = none → upd H a (exv cls d a) b = none := fun b nb e => (upd_ne nb).trans e
  refine ⟨ok, J.os, J.bare, ?base, J.loc, J.cell, gone _ (Ne.symm nL) J.free, ?cells, ?pins, ?hok, J.len⟩
  case base =>
    obtain ⟨k1, k2, k3, k4, k5, k6, k7⟩ := J.base
    refine ⟨k1, k2, fun b o e n x => gone b (ne0 b o e) (k3 b o e n x), k4, fun b xs e => stays _ _ (k5 b xs e), fun b o u e => stays _ _ (k6 b o u e), fun b ps e => ?_⟩
    obtain ⟨more, em⟩ := k7 b ps e
    exact ⟨more, stays _ _ em⟩
  case cells =>
    intro y c e
    refine gone c (fun q => ?_) (J.freeC y c e)
    obtain ⟨v, o, ho, _⟩ := I.cell y c e
    rw [q, no] at ho
    cases ho
  case pins =>
    intro p hp
    obtain ⟨p1, p2, p3, p4, p5⟩ := J.pin p hp
    refine ⟨p1, gone _ (fun q => ?_) p2, p3, p4, p5⟩
    obtain ⟨o, ho⟩ := hI p hp
    rw [q, no] at ho
    cases ho
  case hok =>
    intro b u e
    by_cases hb : b = a
    · subst hb
      rw [upd_same] at e
      cases e
      exact ⟨⟨oe, vs, ha, hz, hd⟩, ⟨oe, ha⟩, fun h1 h2 ⟨o, ws, e1, e2, e3⟩ st => ⟨o, ws, st _ e1, e2, e3⟩⟩
    · rw [upd_ne hb] at e
      exact (J.hok b u e).stay (fun _ _ _ q => q) (fun c q => stays _ _ q) fun c xs q => stays _ _ q
end
/-- what 'except x as n: suite' wishes of an exception: behind the suite it is known where it lies -/
def wKeep (K : PySem.W.Frag) (c : Value) (i : Nat) (ts : Addr → Value → Option Addr → TS) (Wo : WX) (D : Ends) : WX := fun cls d σ H => ∃ b, PySem.W.exmOne K cls c = some b ∧ (b = false → Wo cls d σ H) ∧
  (b = true → ∀ a, H a = none → ts a cls d { nx := fun σ2 H2 => D.nx (σ2.set i none) (upd H2 a (exv cls d a)), rt := fun _ _ => False, bk := fun _ _ => False, ct := fun _ _ => False } (σ.set i (some (.ref a))) H)
section
variable {X : Cx} {x n : Str} {c : Value} {i : Nat} {body suite : List Stmt} {b0 : Stmt} {np pos pos' : Pos} {tb : WX → TS} {ts : Addr → Value → Option Addr → TS} {Wo : WX}
theorem ps_try_keep (hs : X.stack = X.env :: X.outer) (hf : X.env.frame = some X.env.locals) (hN : X.N.Nodup) (hi : X.N[i]? = some n) (hln : X.env.kindOf n = some .local) (hc : Names X x c) (tk : Takes X Wo) (hex : X.ex = [])
    (hb : ∀ (W : WX) (pn : List (Addr × Obj)) (xe : Value → Shared → Prop), Takes (X.tr pn xe) W → PassesOwn (model X.prog X.w) X.A X.env xe → PSs (X.tr pn xe) body (tb W))
    (hsu : ∀ (a : Addr) (oe : Obj) (cls : Value) (d : Option Addr) (pn : List (Addr × Obj)), Zc cls d oe → (∃ vs, oe.data = .fields vs) → PSs (X.suite a ((a, oe) :: pn)) (b0 :: suite) (ts a cls d)) :
    PS X (.Try body [.ExceptHandler (some (.Name x np)) (some n) (b0 :: suite) pos'] [] [] pos) (fun D σ H => tb (wKeep X.K c i ts Wo D) D σ H) := by
  constructor
  intro pins s σ H D I h
  have ok := I.ok
  have frames : X.A.frames = some (X.env :: X.outer) := ok.frames.trans (by rw [hs])
  refine wpAny_Try_except ?_
  have run := (hb (wKeep X.K c i ts Wo D) (X.pn ++ pins)
    (fun e s1 => wpAny (model X.prog X.w) X.A (noteFrame e X.env)
      (fun _ s2 => wpAny (model X.prog X.w) X.A (setFlight e none)
        (fun _ s3 => wpAny (model X.prog X.w) X.A (handleBy e X.env [.ExceptHandler (some (.Name x np)) (some n) (b0 :: suite) pos']) (SP X pins D) X.xe s3) X.xe s2) X.xe s1)
    ?takes PassesOwn.looking).run [] s σ H D (I.toTry _) h
  case takes =>
    rintro u sE ⟨a, B, sI, pinsI, σI, HI, cls, d, rfl, JI, nb, up, sky, na, os, ag, b, hb1, hno, hyes⟩
    have J : Inv X pins σI HI sI := JI.ofTry ok
    rw [hs] at sky
    show wpAny (model X.prog X.w) X.A (noteFrame (.ref a) X.env) _ _ _
    refine Sky.land Zc.steady frames hf sky fun hA flA upA => ?_
    have upA' := up.trans upA
    have JA : Inv X pins σI HI { sE with heap := hA } := J.landed nb flA.1 upA' os ag
    obtain ⟨oA, vA, getA, zA, dA⟩ := flA.there
    have offFrames : a ∉ frs (X.env :: X.outer) := by
      intro hm
      obtain ⟨_, o2, e2, nofld⟩ := flA.2.2.1.mem hm
      rw [getA] at e2
      cases e2
      exact nofld _ dA
    have nL : a ≠ X.env.locals := fun q => offFrames (List.mem_filterMap.mpr ⟨X.env, List.mem_cons_self, hf.trans (by rw [q])⟩)
    have nF : a ∉ X.fs := fun hm => by
      obtain ⟨ev, hev, q⟩ := List.mem_filterMap.mp hm
      exact offFrames (List.mem_filterMap.mpr ⟨ev, List.mem_cons_of_mem _ hev, q⟩)
    have notI : sI.heap.get? a = none := by
      cases q : sI.heap.get? a with
      | none => rfl
      | some o =>
        have := nb a o q (by rw [hs]; exact offFrames)
        rw [flA.2.1] at this
        cases this
    have SA := JA.suite getA dA na nL nF
    have ty : PySem.W.Looks (model X.prog X.w) hA (typeOf (.ref a)) cls := fun A' Q' E' s' k q => wpAny_typeOf_ref (k _ _ getA) (by rw [zA.1]; exact q)
    have match_ := PySem.W.exm_one (M := model X.prog X.w) JA.kIn ty hb1
    have cls_ : ∀ {Q' : Value → Shared → Prop} {E' : Value → Shared → Prop}, Q' c { sE with heap := hA } → wpAny (model X.prog X.w) (X.A.mark (some (.ref a))) (eval (.Name x np) X.env) Q' E' { sE with heap := hA } := by
      intro Q' E' q
      obtain ⟨hg, hdbg, hm | ⟨hm, hv, hnn⟩⟩ := hc
      · exact ld_glob (X := X.suite a ((a, oA) :: (X.pn ++ pins))) SA hg hm q hdbg
      · exact ld_blt (X := X.suite a ((a, oA) :: (X.pn ++ pins))) SA hg hm hv q hnn hdbg
    refine wpAny_handleBy_cons (codeAny_handlers_test (cls_ (match_.here ?_))) (fun q => by cases q)
    cases b with
    | false =>
      show wpAny _ X.A (handleBy (.ref a) X.env []) _ _ _
      refine wpAny_handleBy_nil ?_
      have on : wpAny (model X.prog X.w) X.A (setFlight (.ref a) X.env.frame) (fun _ s4 => wpAny (model X.prog X.w) X.A (throw (.ref a) : Sem Flow) (SP X pins D) X.xe s4) X.xe { sE with heap := hA } := by
        rw [hf]
        refine HandSPX.setFlight_upZ flA fun hB heldB upB => wpAny_throw (tk _ _ ?_)
        exact ⟨a, B, sI, pins, σI, HI, cls, d, rfl, J, nb, upA'.trans upB, .inr (.inr (by rw [hs]; exact heldB)), na, os, ag, hno rfl⟩
      obtain ⟨_, _, _, o5, v5, T5, _, _, e5, _, d5, n5, _⟩ := id flA
      unfold PySem.passOn
      refine wpAny_bind (wpAny_field e5 d5 n5 ?_)
      rw [if_neg (by simp : ¬ ((Value.ref T5 == Value.none) = true))]
      first
        | exact wpAny_bind on
        | exact wpAny_bind (wpAny_pure (wpAny_bind on))
    | true =>
      refine codeAny_handlers_suite_as ?_
      refine HandSPX.lands_againZ flA fun hB flB upB => ?_
      have JB : Inv X pins σI HI { sE with heap := hB } := J.landed nb flB.1 (upA'.trans upB) os ag
      obtain ⟨oB, vB, getB, zB, dB⟩ := flB.there
      refine store_ok (X := X.suite a ((a, oB) :: (X.pn ++ pins))) (v := .ref a) (JB.suite getB dB na nL nF) hN hi (.inl hln) rfl (fun sC SC => ?_) (.inr hln)
      refine wpAny_mono ((hsu a oB cls d (X.pn ++ pins) zB ⟨_, dB⟩).run [] sC _ HI _ SC (hyes rfl a na)) (fun f sD out => ?_) (fun _ _ z => z.elim)
      cases f with
      | brk =>
        obtain ⟨_, _, _, q⟩ := out
        exact q.elim
      | cont =>
        obtain ⟨_, _, _, q⟩ := out
        exact q.elim
      | ret u =>
        obtain ⟨_, _, _, _, _, q⟩ := out
        exact q.elim
      | next =>
        obtain ⟨σD, HD, SD, qD⟩ := out
        refine gone_ok (X := X.suite a ((a, oB) :: (X.pn ++ pins))) SD hN hi hln fun sF SF => ?_
        exact ⟨_, _, lay_exc SF ok zB dB hex J (fun p hp => ⟨_, (J.pin p hp).1⟩) notI, qD⟩
  refine wpAny_mono run (fun f s1 out => ?_) fun _ _ z => z
  cases f with
  | next =>
    obtain ⟨σ2, H2, J2, q⟩ := out
    exact wpAny_execs_nil ⟨σ2, H2, J2.ofTry ok, q⟩
  | ret u =>
    obtain ⟨v, σ2, H2, J2, r, q⟩ := out
    exact ⟨v, σ2, H2, J2.ofTry ok, r, q⟩
  | brk =>
    obtain ⟨σ2, H2, J2, q⟩ := out
    exact ⟨σ2, H2, J2.ofTry ok, q⟩
  | cont =>
    obtain ⟨σ2, H2, J2, q⟩ := out
    exact ⟨σ2, H2, J2.ofTry ok, q⟩
end
end Own
set_option Elab.async false
set_option linter.all false
set_option maxRecDepth 100000
set_option maxHeartbeats 4000000
namespace Own
open PySem PySem.Spec PyProof.Rows L2 LamX
/-- the exceptions that leave a state of so many slots -/
theorem takes_len {X : Cx} {W : WX} (tk : Takes X W) : Takes X fun cls d σ H => σ.length = X.N.length → W cls d σ H := by
  rintro u s' ⟨a, B, sI, pins, σ, H, cls, d, e, I, nb, up, sky, na, os, ag, w⟩
  exact tk u s' ⟨a, B, sI, pins, σ, H, cls, d, e, I, nb, up, sky, na, os, ag, w I.len⟩
/-- what a def makes of the lambda that it calls within try: Rer is its reading behind an error that was caught, Rok that behind none -/
def TTh (K : PySem.W.Frag) (CS : Addr) (Rok : Hp → VK → Prop) (Rer : Value → Option Addr → Addr → Hp → VK → Prop) : (XK → Hp → VK → Prop) → Hp → VK → Prop := fun tl H Q =>
  tl (fun cls d H' => PySem.W.exmOne K cls (.ref CS) = some true ∧ ∀ a, H' a = none → Rer cls d a (upd H' a (exv cls d a)) Q) H fun _ H' => Rok H' Q
theorem pe_mono {X : Cx} {e : Expr} {te : TE} (h : PE X e te) : PE X e (fun σ H Q => ∃ Qa : VK, (∀ v H', Qa v H' → Q v H') ∧ te σ H Qa) := by
  constructor
  rintro pins s σ H Q I ⟨Qa, m, t⟩
  exact thn (h.run pins s σ H Qa I t) fun v s1 ⟨y, H1, I1, r, z⟩ => ⟨y, H1, I1, r, m _ _ z⟩
section
variable {X : Cx}
theorem heard_gives {Ng : List Str} {x a e q caught err : Str} {sg : Scope} {g CS : Addr} {cdg : Value} {i j : Nat} {pk p0 p1 p2 p3 p4 p5 p6 p7 p8 p9 pa : Pos} {rest : List Stmt} {tr : TS} {Rok : Hp → VK → Prop} {Rer : Value → Option Addr → Addr → Hp → VK → Prop}
    (hge : sg.names.lookup e = some .globalImplicit) (hme : X.mg e = some (.ref CS)) (hde : (e == ("__debug__" : Str)) = false) (h0 : ∀ f : Addr, (L2.start Ng [V.ref f])[0]? = some (some (V.ref f))) (j0 : j ≠ 0) (ij : i ≠ j) (lj : j < Ng.length) (li : i < Ng.length)
    (hN : Ng.Nodup) (hi : Ng[i]? = some err) (hj : Ng[j]? = some caught) (kj : sg.names.lookup caught = some .local) (ki : sg.names.lookup err = some .local) (sz : ∀ f : Addr, (L2.start Ng [V.ref f]).length = Ng.length)
    (hde2 : (err == ("__debug__" : Str)) = false) (hcd2 : (err == ("__classdict__" : Str)) = false)
    (hrest : ∀ (s : Shared) (H : Hp), PSs (cxOf C8.CX0 X.prog X.w X.K X.mg X.base Ng x sg g cdg X.A X.stack s H C8.E0).nox rest tr)
    (hok : ∀ (σ : L2.St) (H : Hp) (Q : VK), σ.length = Ng.length → σ[j]? = some (some .non) → Rok H Q → tr { nx := fun _ H' => Q .non H', rt := Q } σ H)
    (her : ∀ (σ : L2.St) (H : Hp) (Q : VK) (cls : Value) (d : Option Addr) (b : Addr), σ.length = Ng.length → σ[j]? = some (some (.ref b)) → H b = some (exv cls d b) → Rer cls d b H Q → tr { nx := fun _ H' => Q .non H', rt := Q } σ H) :
    GivesTo X Ng x sg g cdg (.Assign [.Name caught p0] (.Constant .none 0 pk) p1 :: .Try [.Expr (.Call (.Name a p2) [] [] p3) p4] [.ExceptHandler (some (.Name e p5)) (some err) [.Assign [.Name caught p6] (.Name err p7) p8] p9] [] [] pa :: rest) a q (TTh X.K CS Rok Rer) := by
  intro f c' s H Q tl act hc h
  have hgl : Gl (cxOf C8.CX0 X.prog X.w X.K X.mg X.base Ng x sg g cdg X.A X.stack s H C8.E0).nox e := hge
  refine ⟨_, pss_cons (ps_set (X := (cxOf C8.CX0 X.prog X.w X.K X.mg X.base Ng x sg g cdg X.A X.stack s H C8.E0).nox) (i := j) hN hj (Or.inl kj) pe_non)
    (pss_cons (ps_try_keep (X := (cxOf C8.CX0 X.prog X.w X.K X.mg X.base Ng x sg g cdg X.A X.stack s H C8.E0).nox) (c := .ref CS) (i := i)
      (tb := fun W D σ H => ∃ (Ex : XK) (Qa : VK), (∀ cls d σ' H', Ex cls d H' → σ'.length = Ng.length → W cls d σ' H') ∧ (∀ v H', Qa v H' → D.nx σ H') ∧ σ[0]? = some (some (.ref f)) ∧ H c' = some (CodeO c' q) ∧ tl Ex H Qa)
      (ts := fun b cls d => tAsg (tVar i) (gName j)) rfl rfl hN hi ki ⟨hgl, hde, .inl hme⟩ LamX.takes0 rfl (fun W pn xe tk _ => ?body) (fun b oe cls d pn _ _ => ?suite)) (hrest s H)), ?say⟩
  case body =>
    constructor
    rintro pins s' σ H' D I ⟨Ex, Qa, hW, hQ, h1, h2, h3⟩
    have hp := act _ pn xe Ex p2 p3 (takes_len tk) hW
    exact (pss_one (ps_expr (pos := p4) (pe_mono hp))).run pins s' σ H' D I ⟨Qa, fun v H1 z => hQ v H1 z, h1, h2, h3⟩
  case suite => exact pss_one (ps_set (i := j) hN hj (Or.inl kj) (pe_var (i := i) hi (Or.inl ki) hde2 hcd2))
  case say =>
    have n0 : j < (L2.start Ng [V.ref f]).length := by
      rw [sz]
      exact lj
    refine ⟨_, _, fun cls d σ' H' hE len => ⟨true, hE.1, fun z => (nomatch z), fun _ b hb => ?_⟩, fun v H' hv => ?_, ?_, hc, h⟩
    · refine ⟨.ref b, by rw [List.getElem?_set_self (by omega)], ?_⟩
      refine her _ _ Q cls d b (by simp [len]) ?_ upd_same (hE.2 b hb)
      rw [List.getElem?_set_ne ij, List.getElem?_set_self (by rw [List.length_set]; omega)]
    · exact hok _ H' Q (by rw [List.length_set, sz]) (by rw [List.getElem?_set_self n0]) hv
    · rw [List.getElem?_set_ne j0]
      exact h0 f
end
end Own
set_option Elab.async false
set_option linter.all false
set_option maxRecDepth 100000
set_option maxHeartbeats 4000000
namespace Own
open PySem PySem.Spec PyProof.Rows L2 LamX
abbrev emptyTab : Obj := { cls := .none, data := .fields #[] }
/-- b is one of the tables -/
def IsTab (cs : List (Addr × Addr)) (b : Addr) : Prop := b ∈ cs.map Prod.snd
instance (cs : List (Addr × Addr)) (b : Addr) : Decidable (IsTab cs b) := inferInstanceAs (Decidable (b ∈ cs.map Prod.snd))
theorem IsTab.ex {cs : List (Addr × Addr)} {b : Addr} (h : IsTab cs b) : ∃ p ∈ cs, p.2 = b := List.mem_map.mp h
theorem IsTab.of {cs : List (Addr × Addr)} {p : Addr × Addr} (h : p ∈ cs) : IsTab cs p.2 := List.mem_map.mpr ⟨p, h, rfl⟩
theorem law_callTG {P : Program} {w : World} {K : PySem.W.Frag} {mg mb : Str → Option Value} {k : Nat} {fa a : Addr} {cs : List (Addr × Addr)} {fd : FuncData} {x : Str} {sp : Sp} {s₁ : Shared} {vs : List Value} {ns : List Int}
    (inK : K.In s₁.heap) (top : s₁.heap.Ns mainGlobals mg) (bi : s₁.heap.Ns builtinsNs mb) (bt : ∀ x : Str, x ≠ "__name__" → mb x = bootBuiltins x) (lim : s₁.heap.NoLimit) (bare : s₁.gens = #[])
    (tabs : ∀ p ∈ cs, s₁.heap.get? p.2 = some emptyTab) (noK : ∀ p ∈ cs, K.lookup p.2 = none) (heads : ∀ p ∈ cs, PySem.W.CodeHd s₁.heap p.1 p.2)
    (bmod : ∃ (bm : Addr) (ob : Obj), mg "__builtins__" = some (.ref bm) ∧ bm ≠ builtinsNs ∧ s₁.heap.get? bm = some ob ∧ ob.cls = .type "module" ∧ ob.dict = some builtinsNs ∧ ob.data = .plain)
    (at_ : s₁.heap.get? a = some { cls := .type "list", data := .seq vs.toArray }) (iv : IntsAre vs ns) (small : ns.length ≤ sizeLine) (room : Room k callerA)
    (F : ∀ base : Heap, K.In base → base.Ns mainGlobals mg → (∀ p ∈ cs, TabB base mg p.1 p.2) → FnG P w K mg base CX0 k fa fd [x] sp) (bnd : ∀ (s : Shared) (u : Value), BindsTo s fd ⟨[u], []⟩ [(x, u)])
    (say : ∀ H : Hp, (∀ p ∈ cs, H p.2 = some (.tbl #[])) → SqL K H a (ns.map V.int) → sp [.ref a] H (fun v _ => v = .bl true) fun _ _ _ => False) :
    codeAny (model P w) callerA (.call (.ref fa) ⟨[.ref a], []⟩) (fun r s' => r = .ok (.ret (.bool true)) ∧ OldK s₁.heap s'.heap ∧ s'.os = s₁.os ∧ AllBare s'.gens) s₁ := by
  have rv := vals_ints iv
  have lenV := iv.length
  have tabAt : ∀ b, IsTab cs b → s₁.heap.get? b = some emptyTab := by
    intro b hb
    obtain ⟨p, hp, rfl⟩ := hb.ex
    exact tabs p hp
  have aNot : ¬ IsTab cs a := by
    intro z
    have e := at_.symm.trans (tabAt a z)
    cases Option.some.inj e
  have main : ∀ H : Hp, (∀ p ∈ cs, H p.2 = some (.tbl #[])) → (∀ b, H b = none ∨ IsTab cs b ∨ ∃ o xs, H b = some (.frz o (.lst xs))) → SqL K H a (ns.map V.int) → HOk P w H s₁.heap → (∀ b, H b ≠ none → b = a ∨ IsTab cs b) → (H a ≠ none → K.lookup a = none) →
      codeAny (model P w) callerA (.call (.ref fa) ⟨[.ref a], []⟩) (fun r s' => r = .ok (.ret (.bool true)) ∧ OldK s₁.heap s'.heap ∧ s'.os = s₁.os ∧ AllBare s'.gens) s₁ := by
    intro H hT shape sq hok just free
    -- what is neither a list nor an empty record is not told
    have not_ : ∀ {b : Addr} {o : Obj}, s₁.heap.get? b = some o → (∀ us m, o.data ≠ .seq us m) → o.data ≠ .fields #[] → H b = none := by
      intro b o e n1 n2
      by_cases q : H b = none
      · exact q
      · rcases just b q with rfl | q
        · rw [at_] at e
          cases e
          exact (n1 _ _ rfl).elim
        · rw [tabAt b q] at e
          cases e
          exact (n2 rfl).elim
    have notD : ∀ {b : Addr} {o : Obj} {es : Array DictEntry} {ep : Nat}, s₁.heap.get? b = some o → o.data = .dict es ep → H b = none := by
      intro b o es ep e d
      refine not_ e (fun us m z => ?_) fun z => ?_ <;> · rw [d] at z; cases z
    have ns_ : ∀ {b : Addr} {m : Str → Option Value}, s₁.heap.Ns b m → (hidT s₁.heap H).Ns b m := by
      rintro b m ⟨o, es, ep, e, d, r⟩
      exact ⟨o, es, ep, hidT_get e (notD e d), d, r⟩
    have k_ : K.In (hidT s₁.heap H) := by
      intro b o e
      refine hidT_get (inK b o e) ?_
      by_cases q : H b = none
      · exact q
      · rcases just b q with rfl | z
        · rw [free q] at e
          cases e
        · obtain ⟨p, hp, rfl⟩ := z.ex
          rw [noK p hp] at e
          cases e
    obtain ⟨mc, l1, l2⟩ := lim
    have M : Mod K mg (hidT s₁.heap H) := ⟨k_, ns_ top, ⟨mb, ns_ bi, bt⟩, ⟨mc, ns_ l1, l2⟩⟩
    have TB : ∀ p ∈ cs, TabB (hidT s₁.heap H) mg p.1 p.2 := by
      intro p hp
      have pT := tabs p hp
      obtain ⟨oG, esG, epG, eG, dG, _⟩ := id top
      refine ⟨?code, ?mod, fun z => ?_⟩
      case code =>
        obtain ⟨o, us, file, tf, flags, tg, inF, text, tt, e1, r1, r2, r3, more⟩ := heads p hp
        refine ⟨o, us, file, tf, flags, tg, inF, text, tt, hidT_get e1 (not_ e1 (fun vs m z => ?_) fun z => ?_), r1, r2, r3, more⟩
        · exact Data.noConfusion (r2.symm.trans z)
        · have z2 := r2.symm.trans z
          cases z2
          simp at r3
      case mod =>
        obtain ⟨bm, ob, b1, b2, b3, b4, b5, b6⟩ := bmod
        refine ⟨bm, ob, b1, b2, ?_, ?_, hidT_get b3 (not_ b3 (fun vs m z => Data.noConfusion (b6.symm.trans z)) fun z => Data.noConfusion (b6.symm.trans z)), b4, b5, b6⟩
        · rintro rfl
          rw [eG] at b3
          cases b3
          exact Data.noConfusion (dG.symm.trans b6)
        · rintro rfl
          rw [pT] at b3
          cases b3
          cases b6
      · rw [z, pT] at eG
        cases eG
        cases dG
    have E0 : Env0 P w K mg (hidT s₁.heap H) callerA [] s₁ H :=
      ⟨rfl, M, fun b o e => of_hidT e, Nat.le_of_eq (hidT_size _ _), trivial, fun b hb => (List.not_mem_nil (show b ∈ ([] : List Addr) from hb)).elim, hok, .of_eq bare⟩
    refine codeAny_mono ((F _ k_ (ns_ top) TB).run callerA [] s₁ H ⟨[.ref a], []⟩ [.ref a] [.ref a] _ _ room rfl E0 (bnd s₁ (.ref a)) (.cons rfl .nil) (say H hT sq)) ?_
    intro r s' h
    match r, h with
    | .error e, h => exact h.elim
    | .ok .next, h => exact h.elim
    | .ok .brk, h => exact h.elim
    | .ok .cont, h => exact h.elim
    | .ok (.ret u), h =>
      obtain ⟨v, G, os, br, un, hk2, r1, q⟩ := h
      cases (show v = V.bl true from q)
      cases (show u = Value.bool true from r1)
      have kept : ∀ b o, ¬ IsTab cs b → s₁.heap.get? b = some o → s'.heap.get? b = some o := by
        intro b o nb e
        by_cases q : H b = none
        · exact un.keep b o e q (fun z => (List.not_mem_nil (show b ∈ ([] : List Addr) from z)).elim) (by simp)
        · rcases shape b with z | z | ⟨ob, xs, z⟩
          · exact (q z).elim
          · exact (nb z).elim
          · have y1 := (hok b _ z).1
            have y2 := (hk2 b _ (un.frzs b ob _ z)).1
            rw [e] at y1
            cases y1
            exact y2
      have grown : ∀ p ∈ cs, ∃ more : Array Value, s'.heap.get? p.2 = some { cls := .none, data := .fields more } := by
        intro p hp
        obtain ⟨more, z⟩ := un.tbls p.2 #[] (hT p hp)
        exact ⟨_, hk2 p.2 _ z⟩
      refine ⟨rfl, ⟨fun b o e => ?_, fun b o e => ?_⟩, os, br⟩
      · by_cases hb : IsTab cs b
        · obtain ⟨p, hp, rfl⟩ := hb.ex
          obtain ⟨more, hm⟩ := grown p hp
          have e' := (tabs p hp).symm.trans e
          cases Option.some.inj e'
          refine .inr (.inl ⟨((heads p hp).tab (tabs p hp)).isCodeTable, rfl, #[], more, rfl, ?_⟩)
          rw [Array.empty_append]
          exact hm
        · exact .inl (kept b o hb e)
      · by_cases hb : IsTab cs b
        · obtain ⟨p, hp, rfl⟩ := hb.ex
          obtain ⟨more, hm⟩ := grown p hp
          exact ⟨_, hm⟩
        · exact ⟨o, kept b o hb e⟩
  have lenOk : (ns.map V.int).length ≤ sizeLine := by rw [List.length_map]; exact small
  by_cases hk : K.lookup a = none
  · refine main (fun b => if b = a then some (HO.frz { cls := .type "list", data := .seq vs.toArray } (.lst (ns.map V.int))) else if IsTab cs b then some (.tbl #[]) else none) (fun p hp => ?_) (fun b => ?_) (.inl (.inr ⟨_, if_pos rfl⟩)) (fun b u z => ?_) (fun b z => ?_) fun _ => hk
    · show (if p.2 = a then _ else _) = _
      rw [if_neg (fun z => aNot (by rw [← z]; exact IsTab.of hp)), if_pos (IsTab.of hp)]
    · show (if b = a then _ else _) = none ∨ _ ∨ ∃ o xs, (if b = a then _ else _) = _
      by_cases hb : b = a
      · exact .inr (.inr ⟨_, _, if_pos hb⟩)
      · by_cases hb2 : IsTab cs b
        · exact .inr (.inl hb2)
        · exact .inl (by rw [if_neg hb, if_neg hb2])
    · have z' : (if b = a then some (HO.frz { cls := .type "list", data := .seq vs.toArray } (.lst (ns.map V.int))) else if IsTab cs b then some (.tbl #[]) else none) = some u := z
      by_cases hb : b = a
      · subst hb
        rw [if_pos rfl] at z'
        cases z'
        exact ⟨at_, lenOk, vs, _, rv, at_⟩
      · rw [if_neg hb] at z'
        by_cases hb2 : IsTab cs b
        · rw [if_pos hb2] at z'
          cases z'
          exact tabAt b hb2
        · rw [if_neg hb2] at z'
          cases z'
    · by_cases hb : b = a
      · exact .inl hb
      · by_cases hb2 : IsTab cs b
        · exact .inr hb2
        · exact (z (show (if b = a then _ else _) = none by rw [if_neg hb, if_neg hb2])).elim
  · obtain ⟨o, ho⟩ := Option.ne_none_iff_exists'.mp hk
    have e := inK a o ho
    rw [at_] at e
    cases e
    refine main (fun b => if IsTab cs b then some (.tbl #[]) else none) (fun p hp => if_pos (IsTab.of hp)) (fun b => ?_) (.inr ⟨_, vs.toArray, _, ho, rfl, rfl, rfl, by rw [List.size_toArray, lenV]; exact small, by simpa using rv⟩) (fun b u z => ?_) (fun b z => ?_)
      (fun z => (z (if_neg aNot)).elim)
    · by_cases hb : IsTab cs b
      · exact .inr (.inl hb)
      · exact .inl (if_neg hb)
    · have z' : (if IsTab cs b then some (HO.tbl #[]) else none) = some u := z
      by_cases hb : IsTab cs b
      · rw [if_pos hb] at z'
        cases z'
        exact tabAt b hb
      · rw [if_neg hb] at z'
        cases z'
    · by_cases hb : IsTab cs b
      · exact .inr hb
      · exact (z (if_neg hb)).elim
/-- what is known of the law's own def where it is called, tables told -/
def LawTG (l : PySem.W.OpenLaw) (w : World) (K : PySem.W.Frag) (k n : Nat) (x : Str) (mg : Str → Option Value) (fa : Addr) (h : Heap) : Prop :=
  ∃ (fd : FuncData) (cs : List (Addr × Addr)) (sp : Sp), (∀ p ∈ cs, h.get? p.2 = some emptyTab) ∧ (∀ p ∈ cs, K.lookup p.2 = none) ∧ (∀ p ∈ cs, PySem.W.CodeHd h p.1 p.2) ∧ (∀ (s : Shared) (u : Value), BindsTo s fd ⟨[u], []⟩ [(x, u)]) ∧
    (∀ (H : Hp) (a : Addr) (ns : List Int), ns.length ≤ n → (∀ z ∈ ns, Builtin.Int.intBits z ≤ 1048576) → (∀ p ∈ cs, H p.2 = some (.tbl #[])) → SqL K H a (ns.map V.int) → sp [.ref a] H (fun v _ => v = .bl true) fun _ _ _ => False) ∧
    ∀ base : Heap, K.In base → base.Ns mainGlobals mg → (∀ p ∈ cs, TabB base mg p.1 p.2) → FnG l.prog w K mg base CX0 k fa fd [x] sp
theorem walk_ofTG {l : PySem.W.OpenLaw} {n k : Nat} {q : Program} {loose : List Str} {XP : (Str → Option Value) → Heap → Prop} {YP : World → Heap → Prop} {d : DefRec} {K : Params → PySem.W.Frag} {x : Str}
    (hn : l.most = some n) (hn2 : n ≤ sizeLine) (hdf : d.params.defaults = []) (room : Room k callerA) (hY : ∀ (w : World) (h : Heap), YP w h → (K w.params).In h)
    (F : ∀ (w : World) (mg : Str → Option Value) (fa : Addr) (h : Heap), YP w h → (K w.params).In h → h.Ns mainGlobals mg → mg d.name = some (.ref fa) → LawTG l w (K w.params) k n x mg fa h) :
    PySem.W.WalkO q loose XP YP l.row.toRowW d [] (fun f vs => PySem.call f vs) := by
  refine Att.attach_callB hn hdf ?_
  intro w s₀ s₁ mg mb fa o pm cd doc a vs ns G Y ho hd hcd hmg hobj iv hlen hbits hg
  have inK := hY w _ Y
  obtain ⟨fd, cs, sp, hT, nT, C, hb, hsp, hF⟩ := F w mg fa _ Y inK G.T.g hmg
  exact law_callTG inK G.T.g G.T.b G.T.builtins G.T.nolimit hg hT nT C G.T.bmain hobj iv (Nat.le_trans hlen hn2) room hF hb fun H hH hS => hsp H a ns hlen hbits hH hS
end Own
set_option Elab.async false
set_option linter.all false
set_option maxRecDepth 100000
set_option maxHeartbeats 4000000
/-! calls of defs that may raise -/
namespace Own
open PySem PySem.Spec PyProof.Rows L2
/-- a def of the top that may raise, with all that a call wants -/
structure CalX (P : Program) (w : World) (K : PySem.W.Frag) (mg : Str → Option Value) (base : Heap) (k : Nat) (x : Str) (ps : List Str) (sp : Sp) : Prop where
  ex : ∃ f fd, FnOk P w K mg base (L2.CX P w) k f fd ps sp ∧ mg x = some (.ref f) ∧ PySem.W.keepIn K (.ref f) = true ∧ Binds K fd ps []
/-- .. called by keyword only -/
structure CalXK (P : Program) (w : World) (K : PySem.W.Frag) (mg : Str → Option Value) (base : Heap) (k : Nat) (x : Str) (ps ks : List Str) (gV : List V → List V) (sp : Sp) : Prop where
  ex : ∃ f fd g, FnOk P w K mg base (L2.CX P w) k f fd ps sp ∧ mg x = some (.ref f) ∧ PySem.W.keepIn K (.ref f) = true ∧ KBn K fd ps 0 ks g (fun _ zs => gV zs)
theorem pass_no {X : Cx} (σ : L2.St) : PassesAt (L2.CX X.prog X.w) X σ (fun _ _ _ => False) := by
  intro pins H s e s' I c
  obtain ⟨_, _, _, _, _, _, _, _, _, _, _, _, z⟩ := c
  exact z.elim
section
variable {X : Cx} {k : Nat} {x : Str} {ps ks : List Str} {sp : Sp} {p pos : Pos} {e : Expr} {es : List Expr} {kws : List Keyword} {t tk : TA} {W : WX} {gV : List V → List V}
/-- f(e, ..) where it is known that nothing is raised -/
theorem pe_calX (C : CalX X.prog X.w X.K X.mg X.base k x ps sp) (room : Room k X.A) (ha : PA X (e :: es) t) (hg : Gl X x := by rfl) (hdb : (x == ("__debug__" : Str)) = false := by decide)
    (he : starEach (e :: es) X.env = (false, eval e X.env) :: starEach es X.env := by rfl) (hpl : (backTo pos (starEach es X.env)).any (·.1) = false := by rfl) :
    PE X (.Call (.Name x p) (e :: es) [] pos) (tCallS sp (fun _ _ _ _ => False) t) := by
  obtain ⟨f, fd, F, m, kp, b⟩ := C.ex
  exact pe_callS F room hg m kp b (fun σ => pass_no σ) ha hdb he hpl
/-- f(e, ..) where the context takes what is raised -/
theorem pe_calE (C : CalX X.prog X.w X.K X.mg X.base k x ps sp) (tk : Takes X W) (room : Room k X.A) (ha : PA X (e :: es) t) (hg : Gl X x := by rfl) (hdb : (x == ("__debug__" : Str)) = false := by decide)
    (he : starEach (e :: es) X.env = (false, eval e X.env) :: starEach es X.env := by rfl) (hpl : (backTo pos (starEach es X.env)).any (·.1) = false := by rfl) :
    PE X (.Call (.Name x p) (e :: es) [] pos) (tCallS sp (fun σ => WE W σ) t) := by
  obtain ⟨f, fd, F, m, kp, b⟩ := C.ex
  exact pe_callS F room hg m kp b (fun σ => passAt tk σ) ha hdb he hpl
end
theorem passes_no {X : Cx} : Passes (L2.CX X.prog X.w) X (fun _ _ _ => False) := by
  intro pins σ H s e s' I c
  obtain ⟨_, _, _, _, _, _, _, _, _, _, _, _, z⟩ := c
  exact z.elim
section
variable {X : Cx} {k : Nat} {x : Str} {ps ks : List Str} {sp : Sp} {p pos : Pos} {kws : List Keyword} {tk : TA} {gV : List V → List V}
/-- f(k = v, ..) where it is known that nothing is raised -/
theorem pe_calXK (C : CalXK X.prog X.w X.K X.mg X.base k x ps ks gV sp) (room : Room k X.A) (hkw : PK X kws tk) (hg : Gl X x := by rfl) (hall : (backToKw pos (keywordEach kws X.env)).all (·.1.isSome) = true := by rfl)
    (hks : (backToKw pos (keywordEach kws X.env)).filterMap (·.1) = ks := by rfl) (hdb : (x == ("__debug__" : Str)) = false := by decide)
    (hpl : ((backTo pos (starEach [] X.env)).any (·.1) || (backToKw pos (keywordEach kws X.env)).any (·.1.isNone)) = false := by rfl) :
    PE X (.Call (.Name x p) [] kws pos) (tKw ks.length sp gV tk) := by
  obtain ⟨f, fd, g, F, m, kp, b⟩ := C.ex
  constructor
  intro pins s σ H Q I h
  refine wpAny_Call_Name_kw (ld_glob I hg m ?_ hdb)
  refine PySem.W.callWith_KW0 (h₀ := X.base) I.ok.mod.kin kp hall (thn (hkw.run pos pins s σ H _ I h) ?_) hpl
  rintro ws s2 ⟨zs, H2, I2, rz, l, q⟩
  refine ⟨I2.kIn, ?_⟩
  rw [hks]
  exact run_fnN (vs := []) (us := []) F room b passes_no I2 .nil rz rfl l q
end
/-- an exception class of one field, as a raise wants it -/
structure Rcl (P : Program) (w : World) (K : PySem.W.Frag) (mg : Str → Option Value) (base : Heap) (x : Str) (C : Addr) (fld : Str) : Prop where
  o : OexC K C
  at_ : mg x = some (.ref C)
  no : PySem.W.findIn K (.ref C) fld = some none
  ex : ∃ fI fd ps, PySem.W.findIn K (.ref C) "__init__" = some (some (.ref fI)) ∧ PySem.W.typeIn K (.ref fI) = some (.type "function") ∧ FnOk P w K mg base CX0 1 fI fd ps (spI1 K fld) ∧ Binds K fd ps []
theorem upd_del {H : Hp} {a d : Addr} {o1 o2 o3 u : HO} (ha : H a = none) (hd : d ≠ a) : L2.upd (L2.del (L2.upd (L2.upd (L2.upd H a o1) d o2) a o3) a) d u = L2.upd H d u := by
  funext b
  by_cases hb : b = d
  · subst hb
    rw [upd_same, upd_same]
  · rw [upd_ne hb, upd_ne hb]
    by_cases h : b = a
    · subst h
      rw [del_same, ha]
    · rw [del_ne h, upd_ne h, upd_ne hb, upd_ne h]
section
variable {X : Cx} {x fld : Str} {C : Addr} {p pos pos2 : Pos} {e : Expr} {te : TE} {W : WX}
/-- raise C(e) -/
theorem ps_raise1 (R : Rcl X.prog X.w X.K X.mg X.base x C fld) (hc : X.calm = true) (tk : Takes X W) (room : Room 2 X.A) (he : PE X e te) (hg : Gl X x := by rfl) (hdb : (x == ("__debug__" : Str)) = false := by decide)
    (hst : starEach [e] X.env = (false, eval e X.env) :: starEach [] X.env := by rfl) (hpl : (backTo pos (starEach [] X.env)).any (·.1) = false := by rfl) :
    PS X (.Raise (some (.Call (.Name x p) [e] [] pos)) none pos2) (fun _ σ H => te σ H fun y H1 => ∀ d, H1 d = none → W (.ref C) (some d) σ (upd H1 d (.xd [(fld, y)]))) := by
  obtain ⟨fI, fd, ps, iC, tI, F1, hb⟩ := R.ex
  have mk := pmk_oex (p := p) (pos := pos) R.o iC tI F1 room hb .nil pass0 hg R.at_ (pa_cons (pe_mono he) pa_nil hst) hdb hst hpl
  constructor
  intro pins s σ H D I h
  refine (ps_raise (pos := pos2) hc tk mk).run pins s σ H D I ⟨_, fun y H1 q => ?_, h⟩
  refine ⟨by show 1 ≤ 1000; decide, fun a ha => ?_⟩
  refine ⟨a, C, y, rfl, R.o, R.no, upd_same, fun dx hdx ne => ⟨rfl, dx, [(fld, y)], upd_same, Eq.trans (upd_ne ne) upd_same, ?_, ?_⟩⟩
  · rw [upd_ne ne] at hdx
    exact hdx
  · rw [upd_ne ne] at hdx
    rw [upd_del ha ne]
    exact q dx hdx
end
/-! rules whose reading names the written part, for another context than the def's own -/
theorem call_isXK {X : Cx} {K : PySem.W.Frag} (hK : X.K = K) : CallR X (.builtin "isinstance") (rIsX K) := hK ▸ call_isX
theorem call_isiK {X : Cx} {K : PySem.W.Frag} (hK : X.K = K) : CallR X (.builtin "isinstance") (rIsi K) := hK ▸ call_isi
theorem pe_exfL {X : Cx} {K : PySem.W.Frag} {e : Expr} {f : Str} {te : TE} {pos : Pos} (hK : X.K = K) (he : PE X e te) (hb : attributeBase e f X.env (eval e X.env) = eval e X.env := by rfl) : PE X (.Attribute e f pos) (tExF K f te) := hK ▸ pe_exf he hb
end Own
set_option Elab.async false
set_option linter.all false
set_option maxRecDepth 100000
set_option maxHeartbeats 4000000
/-! values of any kind, and what the checks tell of them -/
namespace Own
open PySem PySem.Spec PyProof.Rows L2
inductive An (H : Hp) : V → Prop
  | non : An H .non
  | bl (b : Bool) : An H (.bl b)
  | int (i : Int) : An H (.int i)
  | str {s : Str} (h : s.length ≤ 100000) : An H (.str s)
  | lst {a : Addr} {xs : List V} (h : H a = some (.lst xs)) : An H (.ref a)
  | tup {a : Addr} {xs : List V} (h : H a = some (.tup xs)) : An H (.ref a)
  | dK {a : Addr} {kvs : List (Key × V)} (h : H a = some (.dK kvs)) : An H (.ref a)
def tn (H : Hp) : V → String
  | .non => "NoneType"
  | .bl _ => "bool"
  | .int _ => "int"
  | .str _ => "str"
  | .ref a => match H a with
    | some (.lst _) => "list"
    | some (.tup _) => "tuple"
    | some (.dK _) => "dict"
    | _ => "?"
  | _ => "?"
def isT (n : String) (H : Hp) (v : V) : Bool := (tn H v == n) || ((n == "int") && (tn H v == "bool"))
theorem An.tyx {K : PySem.W.Frag} {H : Hp} {v : V} (h : An H v) : TyX K H v (.type (tn H v)) := by
  cases h with
  | non => exact .base .non
  | bl b => exact .base (.bl b)
  | int i => exact .base (.int i)
  | str h => exact .base (.str _)
  | @lst a xs h =>
    have e : tn H (.ref a) = "list" := by simp only [tn, h]
    rw [e]; exact .base (.lst h)
  | @tup a xs h =>
    have e : tn H (.ref a) = "tuple" := by simp only [tn, h]
    rw [e]; exact .base (.tup h)
  | @dK a kvs h =>
    have e : tn H (.ref a) = "dict" := by simp only [tn, h]
    rw [e]; exact .base (.dK h)
theorem tn_in {H : Hp} {v : V} (h : An H v) : tn H v ∈ ["NoneType", "bool", "int", "str", "list", "tuple", "dict"] := by
  cases h with
  | non => simp [tn]
  | bl b => simp [tn]
  | int i => simp [tn]
  | str h => simp [tn]
  | lst h => simp [tn, h]
  | tup h => simp [tn, h]
  | dK h => simp [tn, h]
theorem kits : ∀ a ∈ ["NoneType", "bool", "int", "str", "list", "tuple", "dict"], ∀ n ∈ ["int", "bool", "str", "list", "tuple"], kitB a n = some ((a == n) || ((n == "int") && (a == "bool"))) := by decide +kernel
theorem An.kit {K : PySem.W.Frag} {H : Hp} {v : V} {n : String} (h : An H v) (hn : n ∈ ["int", "bool", "str", "list", "tuple"]) : PySem.W.kitOne K (.type (tn H v)) (.type n) = some (isT n H v) := kit_ty (kits _ (tn_in h) _ hn)
def isI : V → Bool
  | .int _ => true
  | _ => false
theorem isI_an {H : Hp} {v : V} (h : An H v) : isI v = (isT "int" H v && !isT "bool" H v) := by
  cases h with
  | non => simp [isI, isT, tn]
  | bl b => simp [isI, isT, tn]
  | int i => simp [isI, isT, tn]
  | str h => simp [isI, isT, tn]
  | lst h => simp [isI, isT, tn, h]
  | tup h => simp [isI, isT, tn, h]
  | dK h => simp [isI, isT, tn, h]
theorem An.mono {H H' : Hp} {v : V} (s : Same H H') (h : An H v) : An H' v := by
  cases h with
  | non => exact .non
  | bl b => exact .bl b
  | int i => exact .int i
  | str h => exact .str h
  | lst h => exact .lst (s _ _ h)
  | tup h => exact .tup (s _ _ h)
  | dK h => exact .dK (s _ _ h)
theorem tn_mono {H H' : Hp} {v : V} (s : Same H H') (h : An H v) : tn H' v = tn H v := by
  cases h with
  | non => rfl
  | bl b => rfl
  | int i => rfl
  | str h => rfl
  | lst h => simp only [tn, h, s _ _ h]
  | tup h => simp only [tn, h, s _ _ h]
  | dK h => simp only [tn, h, s _ _ h]
def leB : V → V → Bool
  | .int i, .int j => decide (i ≤ j)
  | _, _ => true
def inB (v lo hi : V) : Bool := isI v && (leB lo v && leB v hi)
def Bd (v : V) : Prop := v = .non ∨ ∃ i, v = .int i
theorem ite_and {c : Bool} {A : Prop} {Q : VK} {b : Bool} {H : Hp} (q : Q (.bl (c && b)) H) (h : c = true → Q (.bl b) H → A) : if c = true then A else Q (.bl false) H := by
  cases c with
  | false => exact q
  | true => exact h rfl q
theorem isI_or {v : V} : (∃ i, v = .int i) ∨ isI v = false := by
  cases v <;> first | exact .inl ⟨_, rfl⟩ | exact .inr rfl
def rowB (H : Hp) (v : V) (a b : Int) : Bool := match v with
  | .ref p => match H p with
    | some (.lst xs) => decide (a ≤ xs.length) && decide ((xs.length : Int) ≤ b)
    | some (.tup xs) => decide (a ≤ xs.length) && decide ((xs.length : Int) ≤ b)
    | _ => false
  | _ => false
def sigB : V → Int → Int → Bool
  | .str s, a, b => decide (a ≤ s.length) && (decide ((s.length : Int) ≤ b) && decide (Txt.stripChars s "01" = ""))
  | _, _, _ => false
theorem isT_str {H : Hp} {v : V} (ha : An H v) : (∃ s : Str, v = .str s ∧ s.length ≤ 100000 ∧ isT "str" H v = true) ∨ (isT "str" H v = false ∧ ∀ a b, sigB v a b = false) := by
  cases ha with
  | str h => exact .inl ⟨_, rfl, h, rfl⟩
  | non => exact .inr ⟨rfl, fun _ _ => rfl⟩
  | bl b => exact .inr ⟨rfl, fun _ _ => rfl⟩
  | int i => exact .inr ⟨rfl, fun _ _ => rfl⟩
  | lst h => exact .inr ⟨by simp [isT, tn, h], fun _ _ => rfl⟩
  | tup h => exact .inr ⟨by simp [isT, tn, h], fun _ _ => rfl⟩
  | dK h => exact .inr ⟨by simp [isT, tn, h], fun _ _ => rfl⟩
def nameB (v : V) : Bool := sigB v 1 60
def items (H : Hp) : V → List V
  | .ref p => match H p with
    | some (.lst xs) => xs
    | some (.tup xs) => xs
    | _ => []
  | _ => []
structure An2 (H : Hp) (v : V) : Prop where
  an : An H v
  it : ∀ x ∈ items H v, An H x
theorem items_mono {H H' : Hp} {v : V} (s : Same H H') (h : An H v) : items H' v = items H v := by
  cases h with
  | non => rfl
  | bl b => rfl
  | int i => rfl
  | str h => rfl
  | lst h => simp only [items, h, s _ _ h]
  | tup h => simp only [items, h, s _ _ h]
  | dK h => simp only [items, h, s _ _ h]
theorem An2.mono {H H' : Hp} {v : V} (s : Same H H') (h : An2 H v) : An2 H' v :=
  ⟨h.an.mono s, fun x hx => (h.it x (by rw [items_mono s h.an] at hx; exact hx)).mono s⟩
def partB (x : V) : Bool := inB x (.int 1) (.int 1000000)
def pairB (H : Hp) (v : V) : Bool := rowB H v 2 2 && (items H v).all partB
def spIsInt : Sp := fun vs H Q _ => ∃ v, vs = [v] ∧ An H v ∧ Q (.bl (isI v)) H
def spWithin : Sp := fun vs H Q _ => ∃ v lo hi, vs = [v, lo, hi] ∧ An H v ∧ Bd lo ∧ Bd hi ∧ Q (.bl (inB v lo hi)) H
def spRow : Sp := fun vs H Q _ => ∃ v a b, vs = [v, .int a, .int b] ∧ An H v ∧ ∀ H', Same H H' → Q (.bl (rowB H v a b)) H'

def spSig : Sp := fun vs H Q _ => ∃ v a b, vs = [v, .int a, .int b] ∧ An H v ∧ Q (.bl (sigB v a b)) H
def spAny1 (r : Hp → V → Bool) : Sp := fun vs H Q _ => ∃ v, vs = [v] ∧ An H v ∧ Q (.bl (r H v)) H
def spPair : Sp := fun vs H Q _ => ∃ v, vs = [v] ∧ An2 H v ∧ ∀ H', Same H H' → Q (.bl (pairB H v)) H'
end Own
set_option Elab.async false
set_option linter.all false
set_option maxRecDepth 100000
set_option maxHeartbeats 4000000
/-! sorted of texts, any number of them -/
namespace Own
open PySem PySem.Spec PyProof.Rows L2
def txV : Value → Str
  | .str z _ => z
  | _ => ""
def ltV (v u : Value) : Bool := decide ((txV v).cps.toList < (txV u).cps.toList)
theorem swo_txt : SrtO.Swo ltV := by
  constructor
  · intro v u h
    have h1 := of_decide_eq_true h
    exact decide_eq_false (List.lt_asymm h1)
  · intro x y z h1 h2
    have a := of_decide_eq_false h1
    have b := of_decide_eq_false h2
    refine decide_eq_false ?_
    rw [List.not_lt] at a b ⊢
    exact List.le_trans a b
theorem strs_all : ∀ {vs : List Value} {zs : List Str}, StrsAre vs zs → ∀ v ∈ vs, ∃ z t, v = Value.str z t
  | _, _, .nil, _, h => nomatch h
  | _, _, .cons z t r, v, h => by
    cases h with
    | head => exact ⟨z, t, rfl⟩
    | tail _ h => exact strs_all r v h
theorem strs_of : ∀ {vs : List Value}, (∀ v ∈ vs, ∃ z t, v = Value.str z t) → StrsAre vs (vs.map txV)
  | [], _ => .nil
  | v :: vs, h => by
    obtain ⟨z, t, rfl⟩ := h v (.head _)
    exact .cons z t (strs_of fun u hu => h u (.tail _ hu))
theorem strs_txV : ∀ {vs : List Value} {zs : List Str}, StrsAre vs zs → vs.map txV = zs
  | _, _, .nil => rfl
  | _, _, .cons z t r => congrArg (z :: ·) (strs_txV r)
/-- sorted(xs), texts, any number of them -/
def rSortedL (K : PySem.W.Frag) : List V → Hp → VK → Prop := fun vs H Q => ∃ (a : Addr) (xs : List Str), vs = [V.ref a] ∧ SqL K H a (xs.map V.str) ∧
  ∀ (ys : List Str) (p : Addr), ys.Perm xs → ys.Pairwise (fun x y => ¬ y.cps.toList < x.cps.toList) → H p = none → Q (.ref p) (upd H p (.lst (ys.map V.str)))
theorem cr_sortedL {X : Cx} : CallR X (.builtin "sorted") (rSortedL X.K) := by
  intro pins s σ H vs us Q I r h
  obtain ⟨a, xs, rfl, hs, q⟩ := h
  obtain ⟨its, rv, hl, hz⟩ := I.list hs
  rw [Vals.ref1 r]
  have hS := rv.strs
  refine SrtO.sorted_ord swo_txt hl.isList (by rw [← rv.length]; exact hz) (fun h2 h₁ a' _ _ => ?_) fun out h1 h2 => ?_
  · intro h' _
    refine ⟨oneType', fun Q E hq => ?_, fun p q hp hq => ?_⟩
    · match its, hS, h2 with
      | v1 :: v2 :: rest, hS, _ =>
        rw [keyKind_strs hS]
        exact wpAny_pure hq
      | [v], _, h => exact absurd h (by simp)
      | [], _, h => exact absurd h (by simp)
    · obtain ⟨z, t, e⟩ := strs_all hS _ hp
      obtain ⟨z', t', e'⟩ := strs_all hS _ hq
      show wpAny _ _ (keyLt' oneType' p.1 q.1) (fun r s' => s' = _ ∧ r = ltV p.1 q.1) _ _
      rw [e, e', keyLt'_oneType]
      exact oneLt_str ⟨rfl, rfl⟩
  · have all := strs_all hS
    have k1 : StrsAre out (out.map txV) := strs_of fun v hv => all v (h2.perm.mem_iff.mp hv)
    have k2 : (out.map txV).Perm xs := by
      have e := h2.perm.map txV
      rw [strs_txV hS] at e
      exact e
    have k3 : (out.map txV).Pairwise (fun x y => ¬ y.cps.toList < x.cps.toList) := List.pairwise_map.mpr (h1.imp fun {x y} h => of_decide_eq_false (p := (txV y).cps.toList < (txV x).cps.toList) h)
    obtain ⟨ep, at_⟩ := PyProof.Rows.sortedAll_at s.heap its out.toArray
    have few : ((out.map txV).map V.str).length ≤ sizeLine := by
      rw [List.length_map] at hz ⊢
      rw [k2.length_eq]
      exact hz
    exact ⟨.ref _, upd H (s.heap.objs.size + 1) (.lst ((out.map txV).map V.str)), I.laid (t' := s.toks) (fun _ _ => PyProof.Rows.sortedAll_old) (Nat.le_succ _) ⟨few, out, ep, vals_of_strs k1, at_⟩, rfl, q _ _ k2 k3 (I.hok.fresh (Nat.le_succ _))⟩
/-- what sorted answers of the texts at a -/
def SortsTo (xs : List Str) (H : Hp) (Q : VK) : Prop := ∀ (ys : List Str) (p : Addr), ys.Perm xs → ys.Pairwise (fun x y => ¬ y.cps.toList < x.cps.toList) → H p = none → Q (.ref p) (upd H p (.lst (ys.map V.str)))
theorem txt_sortable {prog : Program} {w : World} {A : Around} {s : Shared} {a : Addr} {its : List Value} {zs : List Str} (hS : StrsAre its zs) (h2 : 2 ≤ its.length) : SrtO.SortableO prog w A s a its ltV := by
  intro h' _
  refine ⟨oneType', fun Q E hq => ?_, fun p q hp hq => ?_⟩
  · match its, hS, h2 with
    | v1 :: v2 :: rest, hS, _ =>
      rw [keyKind_strs hS]
      exact wpAny_pure hq
    | [v], _, h => exact absurd h (by simp)
    | [], _, h => exact absurd h (by simp)
  · obtain ⟨z, t, e⟩ := strs_all hS _ hp
    obtain ⟨z', t', e'⟩ := strs_all hS _ hq
    show wpAny _ _ (keyLt' oneType' p.1 q.1) (fun r s' => s' = _ ∧ r = ltV p.1 q.1) _ _
    rw [e, e', keyLt'_oneType]
    exact oneLt_str ⟨rfl, rfl⟩
theorem txt_out {its out : List Value} {xs : List Str} (hS : StrsAre its xs) (h1 : SrtO.Srtd ltV out) (h2 : SrtO.Stb ltV out its) :
    StrsAre out (out.map txV) ∧ (out.map txV).Perm xs ∧ (out.map txV).Pairwise (fun x y => ¬ y.cps.toList < x.cps.toList) := by
  have all := strs_all hS
  refine ⟨strs_of fun v hv => all v (h2.perm.mem_iff.mp hv), ?_, ?_⟩
  · have e := h2.perm.map txV
    rw [strs_txV hS] at e
    exact e
  · exact List.pairwise_map.mpr (h1.imp fun {x y} h => of_decide_eq_false (p := (txV y).cps.toList < (txV x).cps.toList) h)
/-- the items of a list or a tuple, gathered: the heap behind it -/
theorem gather {prog : Program} {w : World} {A : Around} {E : Value → Shared → Prop} {s : Shared} {Q : List Value → Shared → Prop} (it : Addr) {T : String} {o : Obj} {items : Array Value} {n : Nat} (hT : T = "list" ∨ T = "tuple")
    (ho : s.heap.get? it = some o) (hc : o.cls = .type T) (hd : o.data = .seq items n) (hsz : items.size ≤ sizeLine)
    (hQ : ∀ h', s.heap.objs.size ≤ h'.objs.size → (∀ b u, s.heap.get? b = some u → h'.get? b = some u) → Q items.toList { s with heap := h' }) : wpAny (model prog w) A (collect (.ref it)) Q E s := by
  let new : Obj := { cls := .type "list", data := .seq ([] : List Value).toArray }
  let h2 : Heap := (s.heap.push new).update s.heap.objs.size (Obj.mapSeq (· ++ items))
  have at0 : (s.heap.push new).get? s.heap.objs.size = some { cls := .type "list", data := .seq #[] 0 } := Heap.get?_push_size _ rfl
  have at2 := Heap.get?_update_self (Obj.mapSeq (· ++ items)) at0 rfl
  have sz2 : s.heap.objs.size ≤ h2.objs.size := by
    show s.heap.objs.size ≤ ((s.heap.push new).update s.heap.objs.size (Obj.mapSeq (· ++ items))).objs.size
    rw [Heap.size_update, Heap.size_push]
    exact Nat.le_succ _
  have keep2 : ∀ b u, s.heap.get? b = some u → h2.get? b = some u := fun b u e =>
    (Heap.get?_update_other _ _ (Nat.ne_of_gt (Heap.lt_size e))).trans (Heap.get?_push_of_some _ e)
  unfold collect
  refine wpAny_bind (wpAny_runValue (codeAny_builtin F.entry_proto_collect ?_))
  rw [Around.under_plainId (A := A) F.plain_proto_collect _]
  show wpAny _ A.in1 (newList [] >>= fun l => again (.builtin "list.__iadd__" ⟨[l, .ref it], []⟩)) _ _ s
  refine wpAny_bind (wpAny_newObj_type (wpAny_pure ⟨plainId_quiet F.plain_list_iadd _, codeAny_builtin F.entry_list_iadd ?_⟩))
  rw [Around.under_plainId (A := A) F.plain_list_iadd _]
  show wpAny _ A.in1 (Builtin.List.listExtendWith (.ref s.heap.objs.size) (.ref it) (.ref s.heap.objs.size)) _ _ { s with heap := s.heap.push new }
  have last : wpAny (model prog w) A (do
      match (← load s.heap.objs.size).data with
      | .seq xs _ => pure xs.toList
      | _ => unsupported "internal:collect") Q E { s with heap := h2 } := by
    refine wpAny_bind (wpAny_load at2 (wpAny_pure ?_))
    have e : ((#[] : Array Value) ++ items).toList = items.toList := by simp
    show Q ((#[] : Array Value) ++ items).toList _
    rw [e]
    exact hQ _ sz2 keep2
  refine wpAny_mono (wpAny_extend_seq (hsz := hsz) (A := A) (R := fun r s' => r = .ok (.ret (.ref s.heap.objs.size)) ∧ s' = { s with heap := h2 }) (s := { s with heap := s.heap.push new })
    _ it _ 0 hT at0 (Heap.get?_push_of_some _ ho) hc hd ⟨rfl, rfl⟩) (fun fin s' z => ?_) (fun e s' z => by cases z.1)
  match fin, z with
  | .done f, z =>
    obtain ⟨e, rfl⟩ := z
    cases e
    exact last
  | .again c, z =>
    refine ⟨z.1, codeAny_mono z.2 fun r s2 q => ?_⟩
    obtain ⟨rfl, rfl⟩ := q
    exact last
/-- sorted(xs), a list or a tuple of texts -/
def rSortedA (K : PySem.W.Frag) : List V → Hp → VK → Prop := fun vs H Q => ∃ (a : Addr) (xs : List Str), vs = [V.ref a] ∧ (SqL K H a (xs.map V.str) ∨ SqT K H a (xs.map V.str)) ∧ SortsTo xs H Q
theorem cr_sortedA {X : Cx} : CallR X (.builtin "sorted") (rSortedA X.K) := by
  intro pins s σ H vs us Q I r h
  obtain ⟨a, xs, rfl, hs | hs, q⟩ := h
  · exact cr_sortedL pins s σ H _ us Q I r ⟨a, xs, rfl, hs, q⟩
  · obtain ⟨its, rv, ⟨o, ho, hc, n, hd⟩, hz⟩ := I.tuple hs
    rw [Vals.ref1 r]
    have hS := rv.strs
    have len : its.length = xs.length := by rw [← rv.length, List.length_map]
    have zl : its.length ≤ sizeLine := by rw [len]; rw [List.length_map] at hz; exact hz
    refine Calls.call_function_entry kind_sorted plain_sorted entry_sorted (args_sorted1 _) ?_
    unfold Builtin.«sorted»
    refine wpAny_bind (m := checkCount "sorted" 1 1 _) (wpAny_pure ?_)
    refine wpAny_bind (gather a (.inr rfl) ho hc hd (by rw [List.size_toArray]; exact zl) fun h1 big keep1 => ?_)
    have hz1 : its.toArray.toList.length ≤ sizeLine := zl
    refine wpAny_bind (wpAny_newList ?_ hz1)
    have at1 : (h1.push (seqObj "list" its.toArray 0)).get? h1.objs.size = some (seqObj "list" its.toArray 0) := Heap.get?_push_size _ rfl
    refine wpAny_bind (wpAny_holding (wpAny_call_entry slot_list_sort ⟨_, at1, rfl⟩ entry_list_sort (SrtO.list_sort_ord (vs := its) swo_txt at1 zl (fun h2 => txt_sortable hS h2) fun out o1 o2 => ⟨_, rfl, ?_⟩) (args_list_sort _)))
    obtain ⟨k1, k2, k3⟩ := txt_out hS o1 o2
    obtain ⟨ep, at_⟩ := PyProof.Rows.sortedHeap_at (vs := its) (out := out.toArray) at1
    have few : ((out.map txV).map V.str).length ≤ sizeLine := by
      rw [List.length_map, k2.length_eq]
      rw [len] at zl
      exact zl
    refine wpAny_pure ⟨_, rfl, .ref h1.objs.size, upd H h1.objs.size (.lst ((out.map txV).map V.str)), I.laid (t' := s.toks) (fun b u e => ?_) big ⟨few, out, ep, vals_of_strs k1, at_⟩, rfl, q _ _ k2 k3 (I.hok.fresh big)⟩
    have lt : b < h1.objs.size := Heap.lt_size (keep1 b u e)
    rw [PyProof.Rows.sortedHeap_old (Nat.ne_of_lt lt) (Heap.lt_size (Heap.get?_push_of_some _ (keep1 b u e)))]
    exact Heap.get?_push_of_some _ (keep1 b u e)
end Own
set_option Elab.async false
set_option linter.all false
set_option maxRecDepth 100000
set_option maxHeartbeats 4000000
/-! texts as lists of signs: none of which begins another one -/
namespace Own
open PySem PySem.Spec PyProof.Rows
def ApartL (l : List (List Nat)) : Prop := l.Pairwise fun a b => ¬ a <+: b ∧ ¬ b <+: a
theorem ApartL.perm {l m : List (List Nat)} (p : l.Perm m) : ApartL l ↔ ApartL m := p.pairwise_iff fun ⟨h1, h2⟩ => ⟨h2, h1⟩
theorem pre_le : ∀ {a b : List Nat}, a <+: b → ¬ b < a
  | [], _, _ => List.not_lt_nil _
  | x :: a, b, h => by
    cases b with
    | nil => simp at h
    | cons y b =>
      rw [List.cons_prefix_cons] at h
      obtain ⟨rfl, h⟩ := h
      intro z
      rcases List.cons_lt_cons_iff.mp z with q | ⟨_, q⟩
      · exact Nat.lt_irrefl _ q
      · exact pre_le h q
theorem le_pre : ∀ {a b c : List Nat}, ¬ b < a → ¬ c < b → a <+: c → a <+: b
  | [], b, _, _, _, _ => List.nil_prefix
  | x :: a, b, c, h1, h2, h => by
    cases c with
    | nil => simp at h
    | cons y c =>
      rw [List.cons_prefix_cons] at h
      obtain ⟨rfl, h⟩ := h
      cases b with
      | nil => exact (h1 (List.nil_lt_cons _ _)).elim
      | cons z b =>
        rw [List.cons_lt_cons_iff, not_or] at h1 h2
        have e : x = z := by omega
        subst e
        rw [List.cons_prefix_cons]
        exact ⟨rfl, le_pre (fun q => h1.2 ⟨rfl, q⟩) (fun q => h2.2 ⟨rfl, q⟩) h⟩
theorem le_anti {a b : List Nat} (h1 : ¬ b < a) (h2 : ¬ a < b) : a = b := by
  rw [List.not_lt] at h1 h2
  exact List.le_antisymm h1 h2
/-- of each two neighbours the first begins the second somewhere -/
def adj : List (List Nat) → Bool
  | a :: b :: r => a.isPrefixOf b || adj (b :: r)
  | _ => false
theorem adj_iff : ∀ {l : List (List Nat)}, l.Pairwise (fun x y => ¬ y < x) → (adj l = true ↔ ¬ ApartL l)
  | [], _ => by simp [adj, ApartL]
  | [a], _ => by simp [adj, ApartL]
  | a :: b :: r, h => by
    have h' := List.pairwise_cons.mp h
    have ih := adj_iff h'.2
    have hb := (List.pairwise_cons.mp h'.2).1
    have key : (∀ y ∈ b :: r, ¬ a <+: y ∧ ¬ y <+: a) ↔ ¬ a <+: b := by
      constructor
      · intro k
        exact (k b List.mem_cons_self).1
      · intro k y hy
        have up : ¬ y < b := by
          rcases List.mem_cons.mp hy with rfl | hy
          · exact List.lt_irrefl _
          · exact hb y hy
        have one : ¬ a <+: y := fun z => k (le_pre (h'.1 b List.mem_cons_self) up z)
        refine ⟨one, fun z => one ?_⟩
        have e := le_anti (h'.1 y hy) (pre_le z)
        rw [← e]
        exact List.prefix_rfl
    have eq : ApartL (a :: b :: r) ↔ ¬ a <+: b ∧ ApartL (b :: r) := by
      unfold ApartL
      rw [List.pairwise_cons, key]
    rw [eq]
    show (a.isPrefixOf b || adj (b :: r)) = true ↔ _
    rw [Bool.or_eq_true, List.isPrefixOf_iff_prefix, ih, Classical.not_and_iff_not_or_not, Classical.not_not]
theorem adj_range : ∀ l : List (List Nat), adj l = ((List.range (l.length - 1)).map fun i => (l.getD i []).isPrefixOf (l.getD (i + 1) [])).any id
  | [] => rfl
  | [_] => rfl
  | a :: b :: r => by
    have ih := adj_range (b :: r)
    show (a.isPrefixOf b || adj (b :: r)) = _
    rw [ih, show (a :: b :: r).length - 1 = ((b :: r).length - 1) + 1 by simp, List.range_succ_eq_map]
    simp [List.any_map, Function.comp_def]
end Own
namespace Own
open PySem PySem.Spec PyProof.Rows
theorem starts_pre (x y : Str) : Txt.startswith x y = (y.cps.toList).isPrefixOf x.cps.toList := by
  have lx : x.cps.toList.length = x.length := by simp [Str.length]
  have ly : y.cps.toList.length = y.length := by simp [Str.length]
  unfold Txt.startswith
  rw [StrLaws.subAt_eq, List.drop_zero, Bool.eq_iff_iff, Bool.and_eq_true, decide_eq_true_eq, beq_iff_eq, List.isPrefixOf_iff_prefix, List.prefix_iff_eq_take, ly]
  constructor
  · intro h
    exact h.2.symm
  · intro h
    refine ⟨?_, h.symm⟩
    have e := congrArg List.length h
    rw [List.length_take, lx, ly] at e
    omega
end Own
set_option Elab.async false
set_option linter.all false
set_option maxRecDepth 100000
set_option maxHeartbeats 4000000
/-! [f(x) for x in xs], where nothing that stood before is changed -/
namespace Own
open PySem PySem.Spec PyProof.Rows L2
theorem same_app {H H' : Hp} {D : Addr} {o o' : HO} (s : Same (upd H D o) H') (hD : H D = none) : Same H (upd H' D o') := fun b u e => by
  have nb := ne_of_none e hD
  rw [upd_ne nb]
  exact s b u ((upd_ne nb).trans e)
theorem lc_map {J : It} {xs : List V} {G : Hp → Prop} {f : V → V} {te : TE} {vs : List Nat} {σ : L2.St} {H1 : Hp} {D : Addr} {Qd : Hp → Prop} {j : Nat} (w : Walk J xs.length G (YAt xs)) (hD : H1 D = none) (hG : ∀ H', Same H1 H' → G H') (few : xs.length ≤ sizeLine)
    (wp : ∀ x : V, wipe ((wipe σ vs).set j (some x)) vs = wipe σ vs)
    (hs : ∀ (i : Nat) (x : V) (H' : Hp) (R : VK), xs[i]? = some x → Same H1 H' → (∀ H'', Same H' H'' → R (f x) H'') → te ((wipe σ vs).set j (some x)) H' R) (hd : ∀ H', Same H1 H' → H' D = some (.lst (xs.map f)) → Qd H') :
    ∃ W : Nat → Nat → Hp → Prop, (∃ m, W 0 m (upd H1 D (.lst []))) ∧ ∀ i m H, W i m H →
      (J.stop i H ∧ Qd H) ∨ (J.go i H ∧ ∃ Nx : Hp → Prop, (∀ H', Nx H' → ∃ m', m' < m ∧ W (i + 1) m' H') ∧ ∀ x H', J.yld i H x H' → gName j x (wipe σ vs) H' fun σ2 H2 => wipe σ2 vs = wipe σ vs ∧ tYes σ2 H2 fun b H3 =>
        if b = true then te σ2 H3 fun y H4 => ∃ acc, H4 D = some (.lst acc) ∧ acc.length < sizeLine ∧ Nx (upd H4 D (.lst (acc ++ [y]))) else Nx H3) := by
  refine lc_it w (fun i H' => Same H1 H' ∧ H' D = some (.lst ((xs.take i).map f))) ⟨same_new hD, by rw [upd_same]; rfl⟩ (fun _ _ _ p => hG _ p.1) (fun i x H H' hi ⟨s, hl⟩ y => ?_) (fun H' ⟨s, hl⟩ => hd H' s (by rw [hl, List.take_length]))
  obtain ⟨rfl, hx⟩ := y
  refine ⟨wp x, yes_if ?_⟩
  refine hs i x H' _ hx s fun H2 s2 => ?_
  refine ⟨_, s2 _ _ hl, ?_, same_mut (s.trans s2) hD, ?_⟩
  · rw [List.length_map, List.length_take]
    omega
  · rw [upd_same, take_map_succ _ hx]
end Own
namespace Own
open PySem PySem.Spec PyProof.Rows L2
theorem take_rng {n i : Nat} (f : Nat → V) (_h : i < n) : (List.range (i + 1)).map f = (List.range i).map f ++ [f i] := by
  rw [List.range_succ, List.map_append]
  rfl
/-- .. over what yields f0 0, f0 1, .. -/
theorem lc_rng {J : It} {n : Nat} {G : Hp → Prop} {f0 f : Nat → V} {te : TE} {vs : List Nat} {σ : L2.St} {H1 : Hp} {D : Addr} {Qd : Hp → Prop} {j : Nat} (w : Walk J n G (YFn f0)) (hD : H1 D = none) (hG : ∀ H', Same H1 H' → G H') (few : n ≤ sizeLine)
    (wp : ∀ x : V, wipe ((wipe σ vs).set j (some x)) vs = wipe σ vs)
    (hs : ∀ (i : Nat) (H' : Hp) (R : VK), i < n → Same H1 H' → (∀ H'', Same H' H'' → R (f i) H'') → te ((wipe σ vs).set j (some (f0 i))) H' R) (hd : ∀ H', Same H1 H' → H' D = some (.lst ((List.range n).map f)) → Qd H') :
    ∃ W : Nat → Nat → Hp → Prop, (∃ m, W 0 m (upd H1 D (.lst []))) ∧ ∀ i m H, W i m H →
      (J.stop i H ∧ Qd H) ∨ (J.go i H ∧ ∃ Nx : Hp → Prop, (∀ H', Nx H' → ∃ m', m' < m ∧ W (i + 1) m' H') ∧ ∀ x H', J.yld i H x H' → gName j x (wipe σ vs) H' fun σ2 H2 => wipe σ2 vs = wipe σ vs ∧ tYes σ2 H2 fun b H3 =>
        if b = true then te σ2 H3 fun y H4 => ∃ acc, H4 D = some (.lst acc) ∧ acc.length < sizeLine ∧ Nx (upd H4 D (.lst (acc ++ [y]))) else Nx H3) := by
  refine lc_it w (fun i H' => Same H1 H' ∧ H' D = some (.lst ((List.range i).map f))) ⟨same_new hD, by rw [upd_same]; rfl⟩ (fun _ _ _ p => hG _ p.1) (fun i x H H' hi ⟨s, hl⟩ y => ?_) (fun H' ⟨s, hl⟩ => hd H' s hl)
  obtain ⟨rfl, rfl⟩ := y
  refine ⟨wp _, yes_if ?_⟩
  refine hs i H' _ hi s fun H2 s2 => ?_
  refine ⟨_, s2 _ _ hl, ?_, same_mut (s.trans s2) hD, ?_⟩
  · rw [List.length_map, List.length_range]
    omega
  · rw [upd_same, take_rng f hi]
end Own
namespace Own
open PySem PySem.Spec PyProof.Rows L2
/-! rules whose reading names the written part, for a comprehension's own context -/
theorem ix_listK {X : Cx} {K : PySem.W.Frag} (hK : X.K = K) : IxR X (rIxL K) := hK ▸ ix_list
theorem pe_bmK {X : Cx} {K : PySem.W.Frag} {o e : Expr} {es : List Expr} {to : TE} {t : TA} {name : Str} {apos cpos : Pos} {T id : String} {r : V → List V → Hp → VK → Prop} (hK : X.K = K) (pa : PlainAttrs T) (slot : Slot T name id) (hty : typeOf (.builtin id) = pure (.type "method_descriptor")) (hm : MtR X id r) (ho : PE X o to) (ha : PA X (e :: es) t)
    (hbase : attributeBase o name X.env (eval o X.env) = eval o X.env := by rfl)
    (hfew : ((backTo cpos (starEach (e :: es) X.env)).all (fun x => !x.1) && (backToKw cpos (keywordEach [] X.env)).all (fun x => x.1.isSome)
      && decide ((e :: es).length + ([] : List Keyword).length + (if ([] : List Keyword).isEmpty then 0 else 1) < 30)) = true := by rfl)
    (hline : (apos.endLine == cpos.line) = true := by rfl) (hs : starEach (e :: es) X.env = (false, eval e X.env) :: starEach es X.env := by rfl) (hplain : (backTo cpos (starEach es X.env)).any (·.1) = false := by rfl) :
    PE X (.Call (.Attribute o name apos) (e :: es) [] cpos) (tBM K T r to t) := hK ▸ pe_bm pa slot hty hm ho ha hbase hfew hline hs hplain
end Own
set_option Elab.async false
set_option linter.all false
set_option maxRecDepth 100000
set_option maxHeartbeats 4000000
namespace K18
open PySem PySem.Spec PyProof.Rows L2 Own
def top (i : Nat) : Stmt := PySem.Challenge.pw_duetickers_k18_whole_counts_of_all_lengt.main.body.getD i (.Pass ⟨0, 0, 0, 0⟩)
abbrev s__wall : Stmt := top 0
abbrev N__wall : List Str := ["k"]
theorem sc__wall : FnScope N__wall ["k"] (defScope s__wall) := ⟨rfl, rfl, rfl, by decide +kernel, rfl, by decide +kernel, by decide +kernel⟩
abbrev s_is_integer : Stmt := top 11
abbrev N_is_integer : List Str := ["value"]
theorem sc_is_integer : FnScope N_is_integer ["value"] (defScope s_is_integer) := ⟨rfl, rfl, rfl, by decide +kernel, rfl, by decide +kernel, by decide +kernel⟩
abbrev s_is_within : Stmt := top 12
abbrev N_is_within : List Str := ["value", "least", "most"]
theorem sc_is_within : FnScope N_is_within ["value", "least", "most"] (defScope s_is_within) := ⟨rfl, rfl, rfl, by decide +kernel, rfl, by decide +kernel, by decide +kernel⟩
abbrev s_is_row : Stmt := top 13
abbrev N_is_row : List Str := ["value", "least", "most"]
theorem sc_is_row : FnScope N_is_row ["value", "least", "most"] (defScope s_is_row) := ⟨rfl, rfl, rfl, by decide +kernel, rfl, by decide +kernel, by decide +kernel⟩
abbrev s_is_signs : Stmt := top 14
abbrev N_is_signs : List Str := ["value", "least", "most"]
theorem sc_is_signs : FnScope N_is_signs ["value", "least", "most"] (defScope s_is_signs) := ⟨rfl, rfl, rfl, by decide +kernel, rfl, by decide +kernel, by decide +kernel⟩
abbrev s_is_name : Stmt := top 15
abbrev N_is_name : List Str := ["value"]
theorem sc_is_name : FnScope N_is_name ["value"] (defScope s_is_name) := ⟨rfl, rfl, rfl, by decide +kernel, rfl, by decide +kernel, by decide +kernel⟩
abbrev s_need_within : Stmt := top 16
abbrev N_need_within : List Str := ["value", "least", "most", "part"]
theorem sc_need_within : FnScope N_need_within ["value", "least", "most", "part"] (defScope s_need_within) := ⟨rfl, rfl, rfl, by decide +kernel, rfl, by decide +kernel, by decide +kernel⟩
abbrev s_items_of : Stmt := top 17
abbrev N_items_of : List Str := ["text"]
theorem sc_items_of : FnScope N_items_of ["text"] (defScope s_items_of) := ⟨rfl, rfl, rfl, by decide +kernel, rfl, by decide +kernel, by decide +kernel⟩
abbrev s_need_names : Stmt := top 20
abbrev N_need_names : List Str := ["names", "name"]
theorem sc_need_names : FnScope N_need_names ["names"] (defScope s_need_names) := ⟨rfl, rfl, rfl, by decide +kernel, rfl, by decide +kernel, by decide +kernel⟩
abbrev s_are_apart : Stmt := top 21
abbrev N_are_apart : List Str := ["names", "ordered", "place"]
theorem sc_are_apart : FnScope N_are_apart ["names"] (defScope s_are_apart) := ⟨rfl, rfl, rfl, by decide +kernel, rfl, by decide +kernel, by decide +kernel⟩
abbrev s_place_of_misfit : Stmt := top 26
abbrev N_place_of_misfit : List Str := ["names", "place", "name"]
theorem sc_place_of_misfit : FnScope N_place_of_misfit ["names"] (defScope s_place_of_misfit) := ⟨rfl, rfl, rfl, by decide +kernel, rfl, by decide +kernel, by decide +kernel⟩
abbrev s_need_tongue : Stmt := top 27
abbrev N_need_tongue : List Str := ["tongue"]
theorem sc_need_tongue : FnScope N_need_tongue ["tongue"] (defScope s_need_tongue) := ⟨rfl, rfl, rfl, by decide +kernel, rfl, by decide +kernel, by decide +kernel⟩
abbrev s_counts_to : Stmt := top 30
abbrev N_counts_to : List Str := ["tongue", "most", "sizes", "end", "counts", "length", "longer", "name", "size"]
theorem sc_counts_to : FnScope N_counts_to ["tongue", "most"] (defScope s_counts_to) := ⟨rfl, rfl, rfl, by decide +kernel, rfl, by decide +kernel, by decide +kernel⟩
abbrev s_how_many : Stmt := top 31
abbrev N_how_many : List Str := ["tongue", "length"]
theorem sc_how_many : FnScope N_how_many ["tongue", "length"] (defScope s_how_many) := ⟨rfl, rfl, rfl, by decide +kernel, rfl, by decide +kernel, by decide +kernel⟩
abbrev s__law_sink : Stmt := top 33
abbrev N__law_sink : List Str := ["script", "cell"]
theorem sc__law_sink : FnScope N__law_sink ["script"] (defScope s__law_sink) := ⟨rfl, rfl, rfl, by decide +kernel, rfl, by decide +kernel, by decide +kernel⟩
abbrev s__law_fill : Stmt := top 34
abbrev N__law_fill : List Str := ["sink", "many", "left", "turn", "cell", "mixed"]
theorem sc__law_fill : FnScope N__law_fill ["sink", "many"] (defScope s__law_fill) := ⟨rfl, rfl, rfl, by decide +kernel, rfl, by decide +kernel, by decide +kernel⟩
abbrev s__law_pick : Stmt := top 35
abbrev N__law_pick : List Str := ["sink", "some"]
theorem sc__law_pick : FnScope N__law_pick ["sink", "some"] (defScope s__law_pick) := ⟨rfl, rfl, rfl, by decide +kernel, rfl, by decide +kernel, by decide +kernel⟩
abbrev s__law_names : Stmt := top 36
abbrev N__law_names : List Str := ["sink", "names", "found", "name", "able", "turn", "sign", "head", "other"]
theorem sc__law_names : FnScope N__law_names ["sink"] (defScope s__law_names) := ⟨rfl, rfl, rfl, by decide +kernel, rfl, by decide +kernel, by decide +kernel⟩
abbrev s__law_heard : Stmt := top 37
abbrev N__law_heard : List Str := ["ask", "caught", "error", "kinds", "words", "word", "is_so"]
theorem sc__law_heard : FnScope N__law_heard ["ask"] (defScope s__law_heard) := ⟨rfl, rfl, rfl, by decide +kernel, rfl, by decide +kernel, by decide +kernel⟩
abbrev s__law_counts : Stmt := top 38
abbrev N__law_counts : List Str := ["names", "most", "sizes", "rows", "found", "words", "length", "longer", "size", "name"]
theorem sc__law_counts : FnScope N__law_counts ["names", "most"] (defScope s__law_counts) := ⟨rfl, rfl, rfl, by decide +kernel, rfl, by decide +kernel, by decide +kernel⟩
abbrev s_law : Stmt := top 39
abbrev N_law : List Str := ["script", "sink", "names", "most", "told", "great", "below", "none", "odd", "tongue", "length", "name", "many"]
theorem sc_law : FnScope N_law ["script"] (defScope s_law) := ⟨rfl, rfl, rfl, by decide +kernel, rfl, by decide +kernel, by decide +kernel⟩
abbrev s_BadNumber_init : Stmt := inClass (top 3) 0
abbrev N_BadNumber_init : List Str := ["self", "part"]
theorem sc_BadNumber_init : FnScope N_BadNumber_init ["self", "part"] (defScope s_BadNumber_init) := ⟨rfl, rfl, rfl, by decide +kernel, rfl, by decide +kernel, by decide +kernel⟩
abbrev s_BadName_init : Stmt := inClass (top 4) 0
abbrev N_BadName_init : List Str := ["self", "part"]
theorem sc_BadName_init : FnScope N_BadName_init ["self", "part"] (defScope s_BadName_init) := ⟨rfl, rfl, rfl, by decide +kernel, rfl, by decide +kernel, by decide +kernel⟩
abbrev s_BadTongue_init : Stmt := inClass (top 5) 0
abbrev N_BadTongue_init : List Str := ["self", "part"]
theorem sc_BadTongue_init : FnScope N_BadTongue_init ["self", "part"] (defScope s_BadTongue_init) := ⟨rfl, rfl, rfl, by decide +kernel, rfl, by decide +kernel, by decide +kernel⟩
abbrev s_Misfit_init : Stmt := inClass (top 6) 0
abbrev N_Misfit_init : List Str := ["self", "part"]
theorem sc_Misfit_init : FnScope N_Misfit_init ["self", "part"] (defScope s_Misfit_init) := ⟨rfl, rfl, rfl, by decide +kernel, rfl, by decide +kernel, by decide +kernel⟩
abbrev s_TooMany_init : Stmt := inClass (top 7) 0
abbrev N_TooMany_init : List Str := ["self", "what", "most"]
theorem sc_TooMany_init : FnScope N_TooMany_init ["self", "what", "most"] (defScope s_TooMany_init) := ⟨rfl, rfl, rfl, by decide +kernel, rfl, by decide +kernel, by decide +kernel⟩
abbrev s_BadText_init : Stmt := inClass (top 8) 0
abbrev N_BadText_init : List Str := ["self", "line", "item"]
theorem sc_BadText_init : FnScope N_BadText_init ["self", "line", "item"] (defScope s_BadText_init) := ⟨rfl, rfl, rfl, by decide +kernel, rfl, by decide +kernel, by decide +kernel⟩
abbrev s_Tongue_init : Stmt := inClass (top 25) 1
abbrev N_Tongue_init : List Str := ["self", "names"]
theorem sc_Tongue_init : FnScope N_Tongue_init ["self", "names"] (defScope s_Tongue_init) := ⟨rfl, rfl, rfl, by decide +kernel, rfl, by decide +kernel, by decide +kernel⟩
abbrev s_Tongue_eq : Stmt := inClass (top 25) 2
abbrev N_Tongue_eq : List Str := ["self", "other"]
theorem sc_Tongue_eq : FnScope N_Tongue_eq ["self", "other"] (defScope s_Tongue_eq) := ⟨rfl, rfl, rfl, by decide +kernel, rfl, by decide +kernel, by decide +kernel⟩
abbrev s_Tongue_str : Stmt := inClass (top 25) 3
abbrev N_Tongue_str : List Str := ["self"]
theorem sc_Tongue_str : FnScope N_Tongue_str ["self"] (defScope s_Tongue_str) := ⟨rfl, rfl, rfl, by decide +kernel, rfl, by decide +kernel, by decide +kernel⟩
abbrev s_Tongue_name_of : Stmt := inClass (top 25) 4
abbrev N_Tongue_name_of : List Str := ["self", "word"]
theorem sc_Tongue_name_of : FnScope N_Tongue_name_of ["self", "word"] (defScope s_Tongue_name_of) := ⟨rfl, rfl, rfl, by decide +kernel, rfl, by decide +kernel, by decide +kernel⟩
abbrev s_Tongue_read : Stmt := inClass (top 25) 5
abbrev N_Tongue_read : List Str := ["text"]
theorem sc_Tongue_read : FnScope N_Tongue_read ["text"] (defScope s_Tongue_read) := ⟨rfl, rfl, rfl, by decide +kernel, rfl, by decide +kernel, by decide +kernel⟩
structure Txt (mg : Str → Option Value) : Prop where
  b_isinstance : mg "isinstance" = none
  b_int : mg "int" = none
  b_bool : mg "bool" = none
  b_list : mg "list" = none
  b_tuple : mg "tuple" = none
  b_len : mg "len" = none
  b_str : mg "str" = none
  b_all : mg "all" = none
  b_sorted : mg "sorted" = none
  b_any : mg "any" = none
  b_range : mg "range" = none
  b_enumerate : mg "enumerate" = none
  b_sum : mg "sum" = none
  b_abs : mg "abs" = none
  b_max : mg "max" = none
  b_repr : mg "repr" = none
  b_ValueError : mg "ValueError" = none
  b_staticmethod : mg "staticmethod" = none
  g_MOST_SIGNS : ∃ t, mg "MOST_SIGNS" = some (.int 60 t)
  g_MOST_NAMES : ∃ t, mg "MOST_NAMES" = some (.int 200 t)
  g_MANY_WORDS : ∃ t, mg "MANY_WORDS" = some (.int 8 t)
  g_MOST_NAME : ∃ t, mg "MOST_NAME" = some (.int 8 t)
  g_MOST_LENGTH : ∃ t, mg "MOST_LENGTH" = some (.int 400 t)
section
variable {P : Program} {w : World} {K : PySem.W.Frag} {mg : Str → Option Value} {base : Heap}
theorem ok_is_row {f : Addr} {fd : FuncData} (F : Fun K "is_row" "is_row" s_is_row f fd) (T : Txt mg) : FnOk P w K mg base CX0 1 f fd ["value", "least", "most"] spRow := by
  refine F.ok sc_is_row (fun vs H Q E h => ?_) (fun cdv A outer s H vs Q E hr h => ?_)
  · obtain ⟨v, lo, hi, rfl, _⟩ := h
    rfl
  · obtain ⟨v, lo, hi, rfl, ha, q⟩ := h
    refine ⟨_, (pss_one (ps_ret (pe_and (pe_callB call_isiT (by rfl) T.b_isinstance boot_isinstance (pa_cons (pv 0) (pa_cons (pe_tup (pa_cons (pe_ty T.b_list boot_list) (pa_cons (pe_ty T.b_tuple boot_tuple) pa_nil))) pa_nil))) (pe_one (pe_chain op_le op_le (pv 1) (pe_callB call_len_seq (by rfl) T.b_len boot_len (pa_cons (pv 0) pa_nil)) (pv 2)))))), ?_⟩
    refine ⟨v, rfl, by show 2 ≤ sizeLine; decide, fun tp htp => ?_⟩
    have sm : Same H (upd H tp (.tup [.ty "list", .ty "tuple"])) := fun b o e => by
      rw [upd_ne (ne_of_none e htp)]
      exact e
    refine ⟨v, tp, _, _, [.type "list", .type "tuple"], isT "list" H v || isT "tuple" H v, rfl, upd_same, .cons (.ty _) (.cons (.ty _) .nil), (ha.mono sm).tyx, ?_, _, rfl, ?_⟩
    · have e : tn (upd H tp (.tup [.ty "list", .ty "tuple"])) v = tn H v := tn_mono sm ha
      rw [e]
      refine kitAny_cons (b := isT "list" H v) (ha.kit (by decide)) (fun h => ?_) (fun h => by rw [h]; rfl)
      rw [h]
      exact kitAny_cons (b := isT "tuple" H v) (ha.kit (by decide)) (fun h => by rw [h]; rfl) (fun h => by rw [h]; rfl)
    · have q1 := q _ sm
      cases ha with
      | @lst a xs h =>
        have e : (isT "list" H (.ref a) || isT "tuple" H (.ref a)) = true := by simp [isT, tn, h]
        rw [e]
        have e2 : rowB H (.ref a) lo hi = (decide (lo ≤ xs.length) && decide ((xs.length : Int) ≤ hi)) := by simp [rowB, h]
        rw [e2] at q1
        refine iteT ⟨_, rfl, _, rfl, a, xs, rfl, .inl (SqL.of (sm _ _ h)), _, _, rfl, rfl, _, rfl, ?_⟩
        exact ite_and q1 fun _ q => ⟨_, rfl, _, _, rfl, rfl, q⟩
      | @tup a xs h =>
        have e : (isT "list" H (.ref a) || isT "tuple" H (.ref a)) = true := by simp [isT, tn, h]
        rw [e]
        have e2 : rowB H (.ref a) lo hi = (decide (lo ≤ xs.length) && decide ((xs.length : Int) ≤ hi)) := by simp [rowB, h]
        rw [e2] at q1
        refine iteT ⟨_, rfl, _, rfl, a, xs, rfl, .inr (SqT.of (sm _ _ h)), _, _, rfl, rfl, _, rfl, ?_⟩
        exact ite_and q1 fun _ q => ⟨_, rfl, _, _, rfl, rfl, q⟩
      | @dK a kvs h =>
        have e : (isT "list" H (.ref a) || isT "tuple" H (.ref a)) = false := by simp [isT, tn, h]
        rw [e]
        have e2 : rowB H (.ref a) lo hi = false := by simp [rowB, h]
        rw [e2] at q1
        exact iteF q1
      | non => exact q1
      | bl b => exact q1
      | int i => exact q1
      | str h => exact q1
theorem ok_is_signs {f : Addr} {fd : FuncData} (F : Fun K "is_signs" "is_signs" s_is_signs f fd) (T : Txt mg) : FnOk P w K mg base CX0 1 f fd ["value", "least", "most"] spSig := by
  refine F.ok sc_is_signs (fun vs H Q E h => ?_) (fun cdv A outer s H vs Q E hr h => ?_)
  · obtain ⟨v, lo, hi, rfl, _⟩ := h
    rfl
  · obtain ⟨v, lo, hi, rfl, ha, q⟩ := h
    refine ⟨_, (pss_one (ps_ret (pe_and (pe_callB call_isi (by rfl) T.b_isinstance boot_isinstance (pa_cons (pv 0) (pa_cons (pe_ty T.b_str boot_str) pa_nil))) (pe_and (pe_chain op_le op_le (pv 1) (pe_callB call_len_str (by rfl) T.b_len boot_len (pa_cons (pv 0) pa_nil)) (pv 2)) (pe_one (pe_cmpR op_eq (pe_bm PySem.F.plainAttrs_str PySem.F.slot_str_strip PySem.F.type_str_strip mt_stripChars (pv 0) (pa_cons pe_str pa_nil)) pe_str (nomark _))))))), ?_⟩
    refine ⟨v, rfl, v, .ty "str", _, _, _, rfl, .ty _, ha.tyx, ha.kit (by decide), _, rfl, ?_⟩
    rcases isT_str ha with ⟨z, rfl, hz, e⟩ | ⟨e, e2⟩
    · rw [e]
      have zl : z.length ≤ sizeLine := Nat.le_trans hz (by decide)
      refine iteT ⟨_, rfl, _, rfl, z, rfl, zl, _, _, rfl, rfl, _, rfl, ?_⟩
      have q' : Q (.bl (decide (lo ≤ (z.length : Int)) && (decide ((z.length : Int) ≤ hi) && decide (Txt.stripChars z "01" = "")))) H := q
      cases e1 : decide (lo ≤ (z.length : Int)) with
      | false =>
        rw [e1] at q'
        exact ⟨_, rfl, q'⟩
      | true =>
        rw [e1] at q'
        refine iteT ⟨_, rfl, _, _, rfl, rfl, _, rfl, ?_⟩
        refine ite_and q' fun _ q => ?_
        refine ⟨_, rfl, rfl, _, _, rfl, rfl, zl, rfl, ?_⟩
        have e3 : decide (V.str (Txt.stripChars z "01") = V.str "") = decide (Txt.stripChars z "01" = "") := by simp
        show Q (.bl (decide (V.str (Txt.stripChars z "01") = V.str ""))) H
        rw [e3]
        exact q
    · rw [e]
      rw [e2] at q
      exact iteF q
theorem ok_is_name {f : Addr} {fd : FuncData} (F : Fun K "is_name" "is_name" s_is_name f fd) (T : Txt mg) (C_is_signs : Cal P w K mg base 1 "is_signs" ["value", "least", "most"] spSig) : FnOk P w K mg base CX0 2 f fd ["value"] (spAny1 fun _ v => nameB v) := by
  refine F.ok sc_is_name (fun vs H Q E h => ?_) (fun cdv A outer s H vs Q E hr h => ?_)
  · obtain ⟨v, rfl, _⟩ := h
    rfl
  · obtain ⟨v, rfl, ha, q⟩ := h
    refine ⟨_, (pss_one (ps_ret (pe_cal C_is_signs (hr.mono (by decide)) (pa_cons (pv 0) (pa_cons pe_int (pa_cons (pe_gi T.g_MOST_SIGNS) pa_nil)))))), ?_⟩
    exact ⟨v, rfl, v, _, _, rfl, ha, q⟩


/-! ### the law's own draws -/
theorem ok_sift {f : Addr} {fd : FuncData} (F : Fun K "_law_fill" "_law_fill" s__law_fill f fd) (T : Txt mg) : FnOk P w K mg base CX0 1 f fd ["sink", "many"] spSift := by
  refine F.ok sc__law_fill (fun vs H Q E h => ?_) (fun cdv A outer s H vs Q E hr h => ?_)
  · obtain ⟨p, q, cs, n, m, rfl, _⟩ := h
    rfl
  · obtain ⟨p, q, cs, n, m, rfl, hm0, hm1, hn, hcs, ⟨at_, rest, h1, h2, hpq, ha0, han, hr0⟩, k⟩ := h
    refine ⟨_, (pss_cons (ps_if (pt_cmpR op_gt (pe_ix ix_list (pv 0) pe_int (fun _ _ => rfl)) pe_int (nomark _))
  (pss_cons (ps_set (i := 2) sc__law_fill.nd rfl (Or.inl rfl) (pe_callTy call_int1 (by rfl) T.b_int boot_int (pa_cons (pe_ix ix_list (pv 0) pe_int (fun _ _ => rfl)) pa_nil)))
  (pss_cons (ps_asg (pe_op op_fdiv (pv 2) (pv 1)) (pg_sub (pv 0) pe_int set_list))
  (pss_one (ps_ret (pe_op op_mod (pe_callTy call_int1 (by rfl) T.b_int boot_int (pa_cons (pv 2) pa_nil)) (pv 1))))))
  pss_nil)
  (pss_cons (ps_set (i := 3) sc__law_fill.nd rfl (Or.inl rfl) (pe_ix ix_list (pv 0) pe_int (fun _ _ => rfl)))
  (pss_cons (ps_asg (pe_op op_add (pv 3) pe_int) (pg_sub (pv 0) pe_int set_list))
  (pss_cons (ps_set (i := 4) sc__law_fill.nd rfl (Or.inl rfl) (pe_op op_add (pe_op op_mul pe_int (pv 3)) pe_int))
  (C8.pss_cut (ps_if (pt_cmpR (op_neD (hu64 hr)) (pe_ix ix_list (pv 0) pe_int (fun _ _ => rfl)) (pe_lst pa_nil) (nomark _))
  (pss_one (ps_set (i := 4) sc__law_fill.nd rfl (Or.inl rfl) (pe_ix ix_list (pe_ix ix_list (pv 0) pe_int (fun _ _ => rfl)) (pe_op op_mod (pe_callTy call_int1 (by rfl) T.b_int boot_int (pa_cons (pv 3) pa_nil)) (pe_callB call_len_seq (by rfl) T.b_len boot_len (pa_cons (pe_ix ix_list (pv 0) pe_int (fun _ _ => rfl)) pa_nil))) (fun _ _ => rfl))))
  pss_nil)
  (C8.pss_cut (ps_if (PW.pt (pw_and (pt_cmpR op_lt (pv 3) (pe_callB call_len_seq (by rfl) T.b_len boot_len (pa_cons (pe_ix ix_list (pv 0) pe_int (fun _ _ => rfl)) pa_nil)) (nomark _)) (pw_and1 (pt_cmpR op_ge (pe_callB call_abs (by rfl) T.b_abs boot_abs (pa_cons (pv 4) pa_nil)) (pe_op op_pow pe_int pe_int) (nomark _)))))
  (pss_cons (ps_set (i := 2) sc__law_fill.nd rfl (Or.inl rfl) (pe_op op_add (pe_op op_mul pe_int (pe_op op_sub (pe_callB call_abs (by rfl) T.b_abs boot_abs (pa_cons (pv 4) pa_nil)) (pe_op op_pow pe_int pe_int))) (pe_callTy call_int1 (by rfl) T.b_int boot_int (pa_cons (pe_cmpR op_lt (pv 4) pe_int (nomark _)) pa_nil))))
  (pss_cons (ps_asg (pe_op op_fdiv (pv 2) (pv 1)) (pg_sub (pv 0) pe_int set_list))
  (pss_one (ps_ret (pe_op op_mod (pe_callTy call_int1 (by rfl) T.b_int boot_int (pa_cons (pv 2) pa_nil)) (pv 1))))))
  pss_nil)
  (pss_cons (ps_set (i := 5) sc__law_fill.nd rfl (Or.inl rfl) (pe_op op_mod (pe_callTy call_int1 (by rfl) T.b_int boot_int (pa_cons (pe_op op_pow (pe_op op_add (pe_op op_add (pe_op op_mod (pe_callTy call_int1 (by rfl) T.b_int boot_int (pa_cons (pv 4) pa_nil)) pe_int) (pe_op op_mul pe_int (pv 3))) pe_int) pe_int) pa_nil)) pe_int))
  (pss_cons (ps_set (i := 5) sc__law_fill.nd rfl (Or.inl rfl) (pe_op op_mod (pe_callTy call_int1 (by rfl) T.b_int boot_int (pa_cons (pe_op op_pow (pe_op op_add (pe_op op_add (pe_op op_mul (pv 5) (pe_op op_add (pe_op op_mul pe_int (pv 3)) pe_int)) (pe_op op_mul (pe_op op_mul pe_int (pv 3)) (pv 3))) pe_int) pe_int) pa_nil)) pe_int))
  (pss_one (ps_ret (pe_op op_mod (pe_callTy call_int1 (by rfl) T.b_int boot_int (pa_cons (pe_op op_fdiv (pv 5) pe_int) pa_nil)) (pv 1)))))))))))), ?_⟩
    refine ⟨_, rfl, p, _, 2, .int rest, rfl, rfl, SqL.of h1, rfl, rest, 0, rfl, rfl, _, rfl, ?_⟩
    refine ite2 (fun _ => ?_) (fun _ => ?_)
    · refine ⟨_, rfl, p, _, 2, .int rest, rfl, rfl, SqL.of h1, rfl, .inl ⟨rest, rfl, ?_⟩⟩
      refine ⟨_, rfl, _, rfl, rest, m, rfl, rfl, ⟨hm0, hm1⟩, _, rfl, p, _, 2, 2, rfl, rfl, h1, rfl, ?_⟩
      refine ⟨_, rfl, .inl ⟨rest, rfl, _, rfl, rest, m, rfl, rfl, hm0, ?_⟩⟩
      refine k _ _ (Int.emod_nonneg _ (by omega)) (Int.emod_lt_of_pos _ hm0) (But.refl _ _).upd ⟨at_, rest / m, upd_same, by rw [upd_ne hpq.symm]; exact h2, hpq, ha0, by omega, Int.ediv_nonneg hr0 (by omega)⟩
    · refine ⟨_, rfl, p, _, 1, .int at_, rfl, rfl, SqL.of h1, rfl, ?_⟩
      refine ⟨_, rfl, at_, 1, rfl, rfl, _, rfl, p, _, 1, 1, rfl, rfl, h1, rfl, ?_⟩
      refine ⟨_, rfl, 77521, at_, rfl, rfl, .inl ⟨by decide, by decide⟩, _, _, rfl, rfl, ?_⟩
      generalize e1 : upd H p (HO.lst (List.set [V.ref q, V.int at_, V.int rest] 1 (V.int (at_ + 1)))) = H1
      have p1 : H1 p = some (.lst [.ref q, .int (at_ + 1), .int rest]) := by rw [← e1]; exact upd_same
      have q1 : H1 q = some (.lst (cs.map V.int)) := by rw [← e1, upd_ne hpq.symm]; exact h2
      have b1 : But p H H1 := by rw [← e1]; exact (But.refl _ _).upd
      refine ⟨fun σ' H' => ∃ c : Int, σ' = [some (.ref p), some (.int m), none, some (.int at_), some (.int c), none] ∧ Same H1 H', ?_, ?_⟩
      · refine ⟨_, rfl, p, _, 0, .ref q, rfl, rfl, SqL.of p1, rfl, Nat.zero_le _, fun l hl => ?_⟩
        have s1 : Same H1 (upd H1 l (.lst [])) := same_new hl
        refine ⟨.list (cs.map PyData.int), .list [], .lst (SqL.of (s1 _ _ q1)) (dp_ints cs), .lst (SqL.of upd_same) .nil, shaped_ints cs, shaped_nil, _, rfl, ?_⟩
        rw [eqv_nil]
        refine ite2 (fun hne => ?_) (fun _ => ⟨_, rfl, s1⟩)
        have pos : 0 < cs.length := by
          cases cs with
          | nil => exact absurd hne (by simp)
          | cons c cs => simp
        have i0 := Int.emod_nonneg at_ (b := (cs.length : Int)) (by omega)
        have i1 := Int.emod_lt_of_pos at_ (b := (cs.length : Int)) (by omega)
        obtain ⟨c, hget⟩ : ∃ c, (cs.map V.int)[(at_ % (cs.length : Int)).toNat]? = some (V.int c) :=
          ⟨cs[(at_ % (cs.length : Int)).toNat]'(by omega), by rw [List.getElem?_map, List.getElem?_eq_getElem (by omega)]; rfl⟩
        refine ⟨_, rfl, p, _, 0, .ref q, rfl, rfl, SqL.of (s1 _ _ p1), rfl, _, rfl, .inl ⟨at_, rfl, ?_⟩⟩
        refine ⟨_, rfl, p, _, 0, .ref q, rfl, rfl, SqL.of (s1 _ _ p1), rfl, q, _, rfl, .inl (SqL.of (s1 _ _ q1)), at_, _, rfl, rfl, ?_, ?_⟩
        · rw [List.length_map]; omega
        · rw [List.length_map]
          refine ⟨q, cs.map V.int, at_ % (cs.length : Int), .int c, rfl, rfl, SqL.of (s1 _ _ q1), ?_, ⟨c, rfl, s1⟩⟩
          have := atI_nat hget
          rw [Int.toNat_of_nonneg i0] at this
          exact this
      · rintro σ' H' ⟨c, rfl, sm⟩
        have p2 := sm _ _ p1
        have q2 := sm _ _ q1
        have b2 : But p H H' := b1.trans (Same.but sm)
        refine ⟨fun σ' G => σ' = [some (.ref p), some (.int m), none, some (.int at_), some (.int c), none] ∧ G = H', ?_, ?_⟩
        · refine ⟨_, rfl, _, rfl, p, _, 0, .ref q, rfl, rfl, SqL.of p2, rfl, q, _, rfl, .inl (SqL.of q2), at_, _, rfl, rfl, _, rfl, ?_⟩
          refine ite2 (fun _ => ?_) (fun _ => iteF ⟨rfl, rfl⟩)
          refine ⟨_, rfl, c, rfl, 10, 18, rfl, rfl, cpow_of (by decide) (by decide) (by decide) (by decide), _, _, rfl, rfl, _, rfl, ?_⟩
          refine ite2 (fun hB => ?_) (fun _ => ⟨rfl, rfl⟩)
          have hB' : (10 : Int) ^ (18 : Int).toNat ≤ (if c < 0 then -c else c) := of_decide_eq_true hB
          refine ⟨_, rfl, c, rfl, 10, 18, rfl, rfl, cpow_of (by decide) (by decide) (by decide) (by decide), _, _, rfl, rfl, 2, _, rfl, rfl, .inl ⟨by decide, by decide⟩, ?_⟩
          refine ⟨_, rfl, c, 0, rfl, rfl, .inr ⟨_, rfl, _, _, rfl, rfl, ?_⟩⟩
          have hR : 0 ≤ (2 * ((if c < 0 then -c else c) - (10 : Int) ^ (18 : Int).toNat) + (if decide (c < 0) then 1 else 0) : Int) := by
            have : (0 : Int) ≤ (if decide (c < 0) then 1 else 0) := by split <;> omega
            omega
          refine ⟨_, rfl, _, rfl, _, m, rfl, rfl, ⟨hm0, hm1⟩, _, rfl, p, _, 2, 2, rfl, rfl, p2, rfl, ?_⟩
          refine ⟨_, rfl, .inl ⟨_, rfl, _, rfl, _, m, rfl, rfl, hm0, ?_⟩⟩
          exact k _ _ (Int.emod_nonneg _ (by omega)) (Int.emod_lt_of_pos _ hm0) b2.upd ⟨at_ + 1, _ / m, upd_same, by rw [upd_ne hpq.symm]; exact q2, hpq, by omega, by omega, Int.ediv_nonneg hR (by omega)⟩
        · rintro σ' G ⟨rfl, rfl⟩
          have c0 := Int.emod_nonneg c (b := 2147483587) (by decide)
          have c1 := Int.emod_lt_of_pos c (b := 2147483587) (by decide)
          refine ⟨_, rfl, .inl ⟨c, rfl, c, 2147483587, rfl, rfl, by show (0 : Int) < 2147483587; decide, ?_⟩⟩
          refine ⟨_, rfl, 77521, at_, rfl, rfl, .inl ⟨by decide, by decide⟩, _, _, rfl, rfl, _, _, rfl, rfl, ?_⟩
          refine ⟨_, 5, rfl, rfl, cpow_of (by decide) (by decide) (by omega) (by omega), .inl ⟨_, rfl, _, 2147483629, rfl, rfl, by show (0 : Int) < 2147483629; decide, ?_⟩⟩
          generalize (c % 2147483587 + 77521 * at_ + 8837 : Int) ^ (5 : Int).toNat = Y
          have y0 := Int.emod_nonneg Y (b := 2147483629) (by decide)
          have y1 := Int.emod_lt_of_pos Y (b := 2147483629) (by decide)
          have mz := mulb (a := 2147483629) (b := 300000) y0 (by omega) (show 0 ≤ 2 * at_ + 8837 by omega) (by omega)
          have ma := mulb (a := 77521 * 100001) (b := 100001) (show 0 ≤ 77521 * at_ by omega) (by omega) ha0 (by omega)
          refine ⟨_, rfl, _, rfl, 2, at_, rfl, rfl, .inl ⟨by decide, by decide⟩, _, _, rfl, rfl, Y % 2147483629, 2 * at_ + 8837, rfl, rfl, .inl ⟨by omega, by omega⟩, ?_⟩
          refine ⟨_, rfl, 77521, at_, rfl, rfl, .inl ⟨by decide, by decide⟩, _, rfl, 77521 * at_, at_, rfl, rfl, .inl ⟨by omega, by omega⟩, _, _, rfl, rfl, _, _, rfl, rfl, ?_⟩
          refine ⟨_, 3, rfl, rfl, cpow_of (by decide) (by decide) (by omega) (by omega), .inl ⟨_, rfl, _, 2147483549, rfl, rfl, by show (0 : Int) < 2147483549; decide, ?_⟩⟩
          refine ⟨_, rfl, _, 32, rfl, rfl, ⟨by decide, by decide⟩, .inl ⟨_, rfl, _, rfl, _, m, rfl, rfl, hm0, ?_⟩⟩
          exact k _ _ (Int.emod_nonneg _ (by omega)) (Int.emod_lt_of_pos _ hm0) b2 ⟨at_ + 1, rest, p2, q2, hpq, by omega, by omega, hr0⟩
theorem ok_one {f : Addr} {fd : FuncData} (F : Fun K "_law_pick" "_law_pick" s__law_pick f fd) (T : Txt mg) (C_sift : Cal P w K mg base 1 "_law_fill" ["sink", "many"] spSift) : FnOk P w K mg base CX0 2 f fd ["sink", "some"] spOne := by
  refine F.ok sc__law_pick (fun vs H Q E h => ?_) (fun cdv A outer s H vs Q E hr h => ?_)
  · obtain ⟨p, q, cs, n, s, xs, rfl, _⟩ := h
    rfl
  · obtain ⟨p, q, cs, n, s, xs, rfl, hs, hsp, h0, h1, hn, hcs, sv, k⟩ := h
    refine ⟨_, (pss_one (ps_ret (pe_ix ix_list (pv 1) (pe_cal C_sift (hr.mono (by decide)) (pa_cons (pv 0) (pa_cons (pe_callB call_len_seq (by rfl) T.b_len boot_len (pa_cons (pv 1) pa_nil)) pa_nil))) (fun _ _ => rfl)))), ?_⟩
    refine ⟨_, rfl, _, rfl, _, rfl, s, xs, rfl, .inl (SqL.of hs), p, q, cs, n, (xs.length : Int), rfl, by omega, by omega, hn, hcs, sv, ?_⟩
    intro r H' r0 r1 b sv'
    have hlt : r.toNat < xs.length := by omega
    refine ⟨s, xs, r, xs[r.toNat], rfl, rfl, SqL.of (b _ _ hsp hs), ?_, k _ _ (List.getElem_mem hlt) b sv'⟩
    have := atI_nat (List.getElem?_eq_getElem hlt)
    rw [Int.toNat_of_nonneg r0] at this
    exact this
theorem ok_sieve {f : Addr} {fd : FuncData} (F : Fun K "_law_sink" "_law_sink" s__law_sink f fd) (T : Txt mg) : FnOk P w K mg base CX0 1 f fd ["script"] (spSieve K) := by
  refine F.ok sc__law_sink (fun vs H Q E h => ?_) (fun cdv A outer s H vs Q E hr h => ?_)
  · obtain ⟨a, ns, rfl, _⟩ := h
    rfl
  · obtain ⟨a, ns, rfl, hS, k⟩ := h
    refine ⟨_, (pss_one (ps_ret (pe_lst (pa_cons (pe_lc (own := [("cell", 1)]) (g := gName 1) (tt := tYes) rfl sc__law_sink.nd (pi_list (pe_slice sl_list (pv 0) po_none (po_some pe_int))) (blkOk_by (own := [("cell", 1)]) (N := N__law_sink) (sc := defScope s__law_sink) (by decide +kernel)) (fun _ _ _ _ _ => (pg_name (i := 1) sc__law_sink.nd rfl (Or.inl rfl))) (fun _ _ _ _ _ => pts_nil) (fun _ _ _ _ _ => (pe_callTy call_int1 (by rfl) T.b_int boot_int (pa_cons (pv 1) pa_nil)))) (pa_cons pe_int (pa_cons pe_int pa_nil)))))), ?_⟩
    obtain ⟨cs, ec, _⟩ := map_mem_cut (ns := ns) (lo := none) (hi := some 60)
    have hc : cs.length ≤ 60 := by
      have := cut_len (ns := ns) (k := 60)
      rw [show (((60 : Nat) : Int)) = 60 from rfl, ec, List.length_map] at this
      exact this
    refine ⟨_, rfl, 60, rfl, a, _, rfl, hS, fun c hc0 => ?_⟩
    rw [ec]
    have s1 : Same H (upd H c (.lst (cs.map V.int))) := same_new hc0
    refine ⟨c, rfl, ⟨_, SqL.of upd_same⟩, fun D hD => ?_⟩
    refine lc_list (K := K) (a := c) (xs := cs.map V.int) (fun i H' => Same (upd H c (.lst (cs.map V.int))) H' ∧ H' D = some (.lst ((cs.map V.int).take i))) ⟨same_new hD, by rw [upd_same]; rfl⟩
        (fun i H' _ p => SqL.of (p.1 _ _ upd_same)) (fun i x H' hx ⟨sm, hl⟩ => ?_) (fun H' ⟨sm, hl⟩ => ?_)
    · refine ⟨rfl, yes_if ?_⟩
      obtain ⟨z, rfl⟩ : ∃ z, x = V.int z := by
        rw [List.getElem?_map] at hx
        cases e : cs[i]? with
        | none => rw [e] at hx; cases hx
        | some u => rw [e] at hx; exact ⟨u, (Option.some.inj hx).symm⟩
      refine ⟨_, rfl, .inl ⟨z, rfl, _, hl, ?_, same_mut sm hD, ?_⟩⟩
      · refine Nat.lt_of_le_of_lt (m := 63) ?_ (by decide)
        rw [List.length_take, List.length_map]
        omega
      · rw [upd_same, List.take_succ, hx]
        rfl
    · rw [List.take_length] at hl
      refine ⟨by show 3 ≤ sizeLine; decide, fun p hp => ?_⟩
      have pD : p ≠ D := (ne_of_none hl hp).symm
      have fr : H p = none := s1.free (sm.free hp)
      refine k p D cs _ fr (s1.trans (same_mut sm (sm.free hp))) (by omega) ⟨0, 0, upd_same, by rw [upd_ne pD.symm]; exact hl, pD, by decide, by decide, by decide⟩

/-! ### need_names -/
def namesB (H : Hp) (v : V) : Bool := rowB H v 0 200 && (items H v).all nameB
def spNeed (C : Addr) : Sp := fun vs H Q E => ∃ v, vs = [v] ∧ An2 H v ∧ (namesB H v = true → ∀ H', Same H H' → Q .non H') ∧ (namesB H v = false → ∀ H' d, Same H H' → H' d = none → E (.ref C) (some d) (upd H' d (.xd [("part", .str "names")])))
theorem ok_need_names {C f : Addr} {fd : FuncData} (F : Fun K "need_names" "need_names" s_need_names f fd) (T : Txt mg) (R_BadName : Rcl P w K mg base "BadName" C "part")
    (C_is_row : Cal P w K mg base 1 "is_row" ["value", "least", "most"] spRow) (C_is_name : Cal P w K mg base 2 "is_name" ["value"] (spAny1 fun _ v => nameB v)) : FnOk P w K mg base (L2.CX P w) 3 f fd ["names"] (spNeed C) := by
  refine F.okX sc_need_names (fun vs H Q E h => ?_) (fun cdv A outer s H vs Q E hr h => ?_)
  · obtain ⟨v, rfl, _⟩ := h
    rfl
  · obtain ⟨v, rfl, h2, kq, ke⟩ := h
    cases hrow : rowB H v 0 200 with
    | false =>
      have nb : namesB H v = false := by unfold namesB; rw [hrow, Bool.false_and]
      refine ⟨_, (pss_one (ps_if (PW.pt (pw_or (pt_not (pt_val (pe_cal C_is_row (hr.mono (by decide)) (pa_cons (pv 0) (pa_cons pe_int (pa_cons (pe_gi T.g_MOST_NAMES) pa_nil)))))) (pw_or1 (pt_not (pt_val (pe_callB (cr_all rfl) (by rfl) T.b_all boot_all (pa_cons (pe_lc (own := [("name", 1)]) (g := gName 1) (tt := tYes) rfl sc_need_names.nd (pi_list (pv 0)) (blkOk_by (own := [("name", 1)]) (N := N_need_names) (sc := defScope s_need_names) (by decide +kernel)) (fun _ _ _ _ _ => (pg_name (i := 1) sc_need_names.nd rfl (Or.inl rfl))) (fun _ _ _ _ _ => pts_nil) (fun _ _ _ _ _ => (pe_cal C_is_name (hr.mono (by decide)) (pa_cons (pv 1) pa_nil)))) pa_nil)))))))
  (pss_one (ps_raise1 R_BadName rfl (takes_of rfl rfl rfl rfl) (hr.mono (by decide)) pe_str))
  pss_nil)), ?_⟩
      refine ⟨_, rfl, v, 0, 200, rfl, h2.an, fun H1 s1 => ⟨_, rfl, ?_⟩⟩
      rw [hrow]
      exact iteT (iteT fun d hd => ke nb H1 d s1 hd)
    | true =>
      cases h2.an with
      | @lst a xs h =>
        have e1 : rowB H (.ref a) 0 200 = (decide ((0 : Int) ≤ xs.length) && decide ((xs.length : Int) ≤ 200)) := by simp [rowB, h]
        have e2 : items H (.ref a) = xs := by simp [items, h]
        have nm : namesB H (.ref a) = xs.all nameB := by unfold namesB; rw [hrow, e2, Bool.true_and]
        have few : xs.length ≤ 200 := by
          rw [hrow] at e1
          have := e1.symm
          simp only [Bool.and_eq_true, decide_eq_true_eq] at this
          omega
        refine ⟨_, (pss_one (ps_if (PW.pt (pw_or (pt_not (pt_val (pe_cal C_is_row (hr.mono (by decide)) (pa_cons (pv 0) (pa_cons pe_int (pa_cons (pe_gi T.g_MOST_NAMES) pa_nil)))))) (pw_or1 (pt_not (pt_val (pe_callB (cr_all rfl) (by rfl) T.b_all boot_all (pa_cons (pe_lc (own := [("name", 1)]) (g := gName 1) (tt := tYes) rfl sc_need_names.nd (pi_list (pv 0)) (blkOk_by (own := [("name", 1)]) (N := N_need_names) (sc := defScope s_need_names) (by decide +kernel)) (fun _ _ _ _ _ => (pg_name (i := 1) sc_need_names.nd rfl (Or.inl rfl))) (fun _ _ _ _ _ => pts_nil) (fun _ _ _ _ _ => (pe_cal C_is_name (hr.mono (by decide)) (pa_cons (pv 1) pa_nil)))) pa_nil)))))))
  (pss_one (ps_raise1 R_BadName rfl (takes_of rfl rfl rfl rfl) (hr.mono (by decide)) pe_str))
  pss_nil)), ?_⟩
        refine ⟨_, rfl, .ref a, 0, 200, rfl, h2.an, fun H1 s1 => ⟨_, rfl, ?_⟩⟩
        rw [hrow]
        refine iteF ?_
        refine ⟨_, rfl, a, rfl, ⟨xs, SqL.of (s1 _ _ h)⟩, fun D hD => ?_⟩
        refine lc_map (f := fun x => .bl (nameB x)) (walk_list (K := K)) hD (fun H' s => SqL.of ((s1.trans s) _ _ h)) (Nat.le_trans few (by decide)) (fun _ => rfl) (fun i x H' R hx s r => ?_) (fun H' s hl => ?_)
        · exact ⟨x, rfl, x, rfl, (h2.it x (by rw [e2]; exact List.mem_of_getElem? hx)).mono (s1.trans s), r H' (Same.refl _)⟩
        · refine ⟨D, xs.map nameB, rfl, SqL.of (by rw [hl, List.map_map]; rfl), _, rfl, ?_⟩
          rw [List.all_map, show (id ∘ nameB) = nameB from rfl, ← nm]
          cases hn : namesB H (.ref a) with
          | false => exact iteT fun d hd => ke hn H' d (s1.trans s) hd
          | true => exact iteF (kq hn H' (s1.trans s))
      | @tup a xs h =>
        have e1 : rowB H (.ref a) 0 200 = (decide ((0 : Int) ≤ xs.length) && decide ((xs.length : Int) ≤ 200)) := by simp [rowB, h]
        have e2 : items H (.ref a) = xs := by simp [items, h]
        have nm : namesB H (.ref a) = xs.all nameB := by unfold namesB; rw [hrow, e2, Bool.true_and]
        have few : xs.length ≤ 200 := by
          rw [hrow] at e1
          have := e1.symm
          simp only [Bool.and_eq_true, decide_eq_true_eq] at this
          omega
        refine ⟨_, (pss_one (ps_if (PW.pt (pw_or (pt_not (pt_val (pe_cal C_is_row (hr.mono (by decide)) (pa_cons (pv 0) (pa_cons pe_int (pa_cons (pe_gi T.g_MOST_NAMES) pa_nil)))))) (pw_or1 (pt_not (pt_val (pe_callB (cr_all rfl) (by rfl) T.b_all boot_all (pa_cons (pe_lc (own := [("name", 1)]) (g := gName 1) (tt := tYes) rfl sc_need_names.nd (pi_tup (pv 0)) (blkOk_by (own := [("name", 1)]) (N := N_need_names) (sc := defScope s_need_names) (by decide +kernel)) (fun _ _ _ _ _ => (pg_name (i := 1) sc_need_names.nd rfl (Or.inl rfl))) (fun _ _ _ _ _ => pts_nil) (fun _ _ _ _ _ => (pe_cal C_is_name (hr.mono (by decide)) (pa_cons (pv 1) pa_nil)))) pa_nil)))))))
  (pss_one (ps_raise1 R_BadName rfl (takes_of rfl rfl rfl rfl) (hr.mono (by decide)) pe_str))
  pss_nil)), ?_⟩
        refine ⟨_, rfl, .ref a, 0, 200, rfl, h2.an, fun H1 s1 => ⟨_, rfl, ?_⟩⟩
        rw [hrow]
        refine iteF ?_
        refine ⟨_, rfl, a, rfl, ⟨xs, SqT.of (s1 _ _ h)⟩, fun D hD => ?_⟩
        refine lc_map (f := fun x => .bl (nameB x)) (walk_tup (K := K)) hD (fun H' s => SqT.of ((s1.trans s) _ _ h)) (Nat.le_trans few (by decide)) (fun _ => rfl) (fun i x H' R hx s r => ?_) (fun H' s hl => ?_)
        · exact ⟨x, rfl, x, rfl, (h2.it x (by rw [e2]; exact List.mem_of_getElem? hx)).mono (s1.trans s), r H' (Same.refl _)⟩
        · refine ⟨D, xs.map nameB, rfl, SqL.of (by rw [hl, List.map_map]; rfl), _, rfl, ?_⟩
          rw [List.all_map, show (id ∘ nameB) = nameB from rfl, ← nm]
          cases hn : namesB H (.ref a) with
          | false => exact iteT fun d hd => ke hn H' d (s1.trans s) hd
          | true => exact iteF (kq hn H' (s1.trans s))
      | non => simp [rowB] at hrow
      | bl b => simp [rowB] at hrow
      | int i => simp [rowB] at hrow
      | str h => simp [rowB] at hrow
      | dK h => simp [rowB, h] at hrow

/-! ### are_apart -/
def tx (v : V) : Str := match v with | .str z => z | _ => ""
theorem nameB_str {v : V} (h : nameB v = true) : v = .str (tx v) := by
  cases v <;> first | rfl | (simp [nameB, sigB] at h)
theorem names_map : ∀ {xs : List V}, xs.all nameB = true → xs = (xs.map tx).map V.str
  | [], _ => rfl
  | x :: xs, h => by
    rw [List.all_cons, Bool.and_eq_true] at h
    rw [List.map_cons, List.map_cons, ← names_map h.2, ← nameB_str h.1]
/-- the names as lists of signs -/
def sgs (H : Hp) (v : V) : List (List Nat) := (items H v).map fun x => (tx x).cps.toList
open Classical in
noncomputable def apB (H : Hp) (v : V) : Bool := decide (ApartL (sgs H v))
theorem apB_iff {H : Hp} {v : V} : apB H v = true ↔ ApartL (sgs H v) := by
  unfold apB
  simp only [decide_eq_true_eq]
def spApart (C : Addr) : Sp := fun vs H Q E => ∃ v, vs = [v] ∧ An2 H v ∧ (namesB H v = true → ∀ H', Same H H' → Q (.bl (apB H v)) H') ∧ (namesB H v = false → ∀ H' d, Same H H' → H' d = none → E (.ref C) (some d) (upd H' d (.xd [("part", .str "names")])))
theorem names_at {H : Hp} {v : V} (h : An H v) (hn : namesB H v = true) : ∃ (a : Addr) (zs : List Str), v = .ref a ∧ items H v = zs.map V.str ∧ zs.length ≤ 200 ∧ (H a = some (.lst (zs.map V.str)) ∨ H a = some (.tup (zs.map V.str))) ∧ sgs H v = zs.map fun z => z.cps.toList := by
  unfold namesB at hn
  rw [Bool.and_eq_true] at hn
  obtain ⟨h1, h2⟩ := hn
  have fin : ∀ xs : List V, items H v = xs → xs = ((items H v).map tx).map V.str ∧ sgs H v = ((items H v).map tx).map fun z => z.cps.toList := by
    intro xs e
    refine ⟨by rw [← e]; exact names_map h2, ?_⟩
    unfold sgs
    rw [List.map_map]
    rfl
  cases h with
  | @lst a xs h =>
    have e2 : items H (.ref a) = xs := by simp [items, h]
    obtain ⟨f1, f2⟩ := fin xs e2
    have : rowB H (.ref a) 0 200 = (decide ((0 : Int) ≤ xs.length) && decide ((xs.length : Int) ≤ 200)) := by simp [rowB, h]
    rw [this] at h1
    simp only [Bool.and_eq_true, decide_eq_true_eq] at h1
    refine ⟨a, (items H (.ref a)).map tx, rfl, by rw [← f1]; exact e2, by rw [List.length_map, e2]; omega, .inl (by rw [← f1]; exact h), f2⟩
  | @tup a xs h =>
    have e2 : items H (.ref a) = xs := by simp [items, h]
    obtain ⟨f1, f2⟩ := fin xs e2
    have : rowB H (.ref a) 0 200 = (decide ((0 : Int) ≤ xs.length) && decide ((xs.length : Int) ≤ 200)) := by simp [rowB, h]
    rw [this] at h1
    simp only [Bool.and_eq_true, decide_eq_true_eq] at h1
    refine ⟨a, (items H (.ref a)).map tx, rfl, by rw [← f1]; exact e2, by rw [List.length_map, e2]; omega, .inr (by rw [← f1]; exact h), f2⟩
  | non => simp [rowB] at h1
  | bl b => simp [rowB] at h1
  | int i => simp [rowB] at h1
  | str h => simp [rowB] at h1
  | dK h => simp [rowB, h] at h1
theorem ok_are_apart {C f : Addr} {fd : FuncData} (F : Fun K "are_apart" "are_apart" s_are_apart f fd) (T : Txt mg) (C_need_names : CalX P w K mg base 3 "need_names" ["names"] (spNeed C)) : FnOk P w K mg base (L2.CX P w) 4 f fd ["names"] (spApart C) := by
  refine F.okX sc_are_apart (fun vs H Q E h => ?_) (fun cdv A outer s H vs Q E hr h => ?_)
  · obtain ⟨v, rfl, _⟩ := h
    rfl
  · obtain ⟨v, rfl, h2, kq, ke⟩ := h
    refine ⟨_, (pss_cons (ps_expr (pe_calE C_need_names (takes_of rfl rfl rfl rfl) (hr.mono (by decide)) (pa_cons (pv 0) pa_nil)))
  (pss_cons (ps_set (i := 1) sc_are_apart.nd rfl (Or.inr rfl) (pe_callB cr_sortedA (by rfl) T.b_sorted boot_sorted (pa_cons (pv 0) pa_nil)))
  (pss_one (ps_ret (pe_not (pe_callB (cr_any rfl) (by rfl) T.b_any boot_any (pa_cons (pe_lc (own := [("place", 2)]) (g := gName 2) (tt := tYes) rfl sc_are_apart.nd (pi_range2 rfl T.b_range (pa_cons pe_int (pa_cons (pe_callB call_len_seq (by rfl) T.b_len boot_len (pa_cons (pv 1) pa_nil)) pa_nil))) (blkOk_by (own := [("place", 2)]) (N := N_are_apart) (sc := defScope s_are_apart) (by decide +kernel)) (fun _ _ _ _ _ => (pg_name (i := 2) sc_are_apart.nd rfl (Or.inl rfl))) (fun _ _ _ _ _ => pts_nil) (fun _ _ _ _ _ => (pe_bmK (K := K) (by rfl) PySem.F.plainAttrs_str PySem.F.slot_str_startswith PySem.F.type_str_startswith mt_startswith (pe_ix (ix_listK (K := K) (by rfl)) (pv 1) (pv 2) (fun _ _ => rfl)) (pa_cons (pe_ix (ix_listK (K := K) (by rfl)) (pv 1) (pe_op op_sub (pv 2) pe_int) (fun _ _ => rfl)) pa_nil)))) pa_nil))))))), ?_⟩
    refine ⟨v, rfl, v, rfl, h2, fun hn H1 s1 => ?_, fun hn H1 d s1 hd => ke hn H1 d s1 hd⟩
    obtain ⟨a, zs, rfl, e2, few, at_, eS⟩ := names_at h2.an hn
    refine ⟨_, rfl, a, zs, rfl, at_.imp (fun z => SqL.of (s1 _ _ z)) (fun z => SqT.of (s1 _ _ z)), fun ys p perm srt hp => ?_⟩
    have s2 := s1.trans (same_new (o := HO.lst (ys.map V.str)) hp)
    have l2 : upd H1 p (.lst (ys.map V.str)) p = some (.lst (ys.map V.str)) := upd_same
    generalize upd H1 p (.lst (ys.map V.str)) = H2 at s2 l2 ⊢
    have leny := perm.length_eq
    generalize eL : ys.map (fun z => z.cps.toList) = L
    have lenL : L.length = ys.length := by rw [← eL, List.length_map]
    have srtL : L.Pairwise (fun x y => ¬ y < x) := by rw [← eL]; exact List.pairwise_map.mpr srt
    have val : (!adj L) = apB H (.ref a) := by
      have h1 := adj_iff srtL
      have h2 : ApartL L ↔ ApartL (sgs H (.ref a)) := by
        rw [eS, ← eL]
        exact ApartL.perm (perm.map _)
      rw [Bool.eq_iff_iff, apB_iff, Bool.not_eq_true', ← Bool.not_eq_true, h1, Classical.not_not, h2]
    dsimp only [gName]
    refine ⟨_, rfl, p, ys.map V.str, rfl, .inl (SqL.of l2), 1, _, rfl, ⟨by decide, by decide, by omega, by rw [List.length_map]; omega⟩, fun D hD => ?_⟩
    have en : (((ys.map V.str).length : Int) - 1).toNat = L.length - 1 := by rw [List.length_map, lenL]; omega
    rw [en]
    have get : ∀ i, i < ys.length → (ys.map V.str)[i]? = some (.str ⟨(L.getD i []).toArray⟩) := by
      intro i hi
      rw [List.getElem?_map, List.getElem?_eq_getElem hi, ← eL]
      simp [List.getD_eq_getElem?_getD, List.getElem?_map, List.getElem?_eq_getElem hi]
    refine lc_rng (f0 := fun i => .int (1 + (i : Nat))) (f := fun i => .bl ((L.getD i []).isPrefixOf (L.getD (i + 1) []))) walk_range hD (fun _ _ => trivial) (Nat.le_trans (m := 200) (by omega) (by decide)) (fun _ => rfl) (fun i H' R hi s r => ?_) (fun H' s hl => ?_)
    · have i1 : i + 1 < ys.length := by omega
      have c1 : (1 + (i : Int)) = ((i + 1 : Nat) : Int) := by omega
      have c0 : (((i + 1 : Nat) : Int) - 1) = (i : Int) := by omega
      rw [c1]
      refine ⟨_, rfl, _, rfl, p, ys.map V.str, _, _, rfl, rfl, SqL.of (s _ _ l2), atI_nat (get _ i1), rfl, ?_⟩
      refine ⟨_, rfl, ⟨_, rfl, _, _, rfl, rfl, p, ys.map V.str, _, _, rfl, rfl, SqL.of (s _ _ l2), by rw [c0]; exact atI_nat (get _ (by omega)), ?_⟩⟩
      refine ⟨_, _, rfl, rfl, ?_⟩
      rw [starts_pre]
      exact r H' (Same.refl _)
    · refine ⟨D, (List.range (L.length - 1)).map fun i => (L.getD i []).isPrefixOf (L.getD (i + 1) []), rfl, SqL.of (by rw [hl, List.map_map]; rfl), _, rfl, ?_⟩
      rw [← adj_range, val]
      exact kq hn H' (s2.trans s)
end
end K18
set_option Elab.async false
set_option linter.all false
set_option maxRecDepth 100000
set_option maxHeartbeats 4000000
/-! texts put together of names that are apart -/
namespace Own
open PySem PySem.Spec PyProof.Rows
def flat (L : List (List Nat)) (row : List Nat) : List Nat := (row.map fun i => L.getD i []).flatten
def Joins (L : List (List Nat)) (t : List Nat) (row : List Nat) : Prop := (∀ i ∈ row, i < L.length) ∧ flat L row = t
theorem flat_nil (L : List (List Nat)) : flat L [] = [] := rfl
theorem flat_cons (L : List (List Nat)) (i : Nat) (row : List Nat) : flat L (i :: row) = L.getD i [] ++ flat L row := rfl
theorem flat_app (L : List (List Nat)) (a b : List Nat) : flat L (a ++ b) = flat L a ++ flat L b := by
  unfold flat
  rw [List.map_append, List.flatten_append]
theorem ap_pre {L : List (List Nat)} (ap : ApartL L) {i j : Nat} {t : List Nat} (hi : i < L.length) (hj : j < L.length) (h1 : L.getD i [] <+: t) (h2 : L.getD j [] <+: t) : i = j := by
  have ei : L.getD i [] = L[i] := by simp [List.getD_eq_getElem?_getD, List.getElem?_eq_getElem hi]
  have ej : L.getD j [] = L[j] := by simp [List.getD_eq_getElem?_getD, List.getElem?_eq_getElem hj]
  rw [ei] at h1
  rw [ej] at h2
  unfold ApartL at ap
  rw [List.pairwise_iff_getElem] at ap
  have or_ := List.prefix_or_prefix_of_prefix h1 h2
  rcases Nat.lt_trichotomy i j with z | z | z
  · have := ap i j hi hj z
    rcases or_ with q | q
    · exact absurd q this.1
    · exact absurd q this.2
  · exact z
  · have := ap j i hj hi z
    rcases or_ with q | q
    · exact absurd q this.2
    · exact absurd q this.1
theorem getD_ne {L : List (List Nat)} (ne : ∀ x ∈ L, x ≠ []) {i : Nat} (hi : i < L.length) : L.getD i [] ≠ [] := by
  have ei : L.getD i [] = L[i] := by simp [List.getD_eq_getElem?_getD, List.getElem?_eq_getElem hi]
  rw [ei]
  exact ne _ (List.getElem_mem hi)
theorem joins_split {L : List (List Nat)} (ap : ApartL L) (ne : ∀ x ∈ L, x ≠ []) : ∀ (fs rest row : List Nat), (∀ i ∈ fs, i < L.length) → (∀ i ∈ row, i < L.length) → flat L row = flat L fs ++ rest → ∃ row', row = fs ++ row' ∧ flat L row' = rest
  | [], rest, row, _, _, e => ⟨row, rfl, e⟩
  | i :: fs, rest, row, hf, hr, e => by
    have hi := hf i List.mem_cons_self
    cases row with
    | nil =>
      rw [flat_nil, flat_cons, List.append_assoc] at e
      have : L.getD i [] = [] := (List.append_eq_nil_iff.mp e.symm).1
      exact absurd this (getD_ne ne hi)
    | cons j row =>
      have hj := hr j List.mem_cons_self
      rw [flat_cons, flat_cons, List.append_assoc] at e
      have p1 : L.getD j [] <+: L.getD i [] ++ (flat L fs ++ rest) := ⟨flat L row, e⟩
      have p2 : L.getD i [] <+: L.getD i [] ++ (flat L fs ++ rest) := List.prefix_append _ _
      have eij := ap_pre ap hj hi p1 p2
      subst eij
      have e' := List.append_cancel_left e
      obtain ⟨row', h1, h2⟩ := joins_split ap ne fs rest row (fun k hk => hf k (List.mem_cons_of_mem _ hk)) (fun k hk => hr k (List.mem_cons_of_mem _ hk)) e'
      exact ⟨row', by rw [h1]; rfl, h2⟩
theorem joins_uniq {L : List (List Nat)} (ap : ApartL L) (ne : ∀ x ∈ L, x ≠ []) {t r1 r2 : List Nat} (h1 : Joins L t r1) (h2 : Joins L t r2) : r1 = r2 := by
  obtain ⟨r', e, f⟩ := joins_split ap ne r1 [] r2 h1.1 h2.1 (by rw [List.append_nil, h1.2, h2.2])
  cases r' with
  | nil => rw [e, List.append_nil]
  | cons j r' =>
    have hj : j < L.length := h2.1 j (by rw [e]; simp)
    rw [flat_cons] at f
    exact absurd (List.append_eq_nil_iff.mp f).1 (getD_ne ne hj)
/-- where no name goes on nothing is put together -/
theorem joins_stop {L : List (List Nat)} (ap : ApartL L) (ne : ∀ x ∈ L, x ≠ []) {t fs rest row : List Nat} (hf : ∀ i ∈ fs, i < L.length) (e : t = flat L fs ++ rest) (hr : rest ≠ []) (no : ∀ i, i < L.length → ¬ L.getD i [] <+: rest) : ¬ Joins L t row := by
  rintro ⟨h1, h2⟩
  obtain ⟨r', e1, f⟩ := joins_split ap ne fs rest row hf h1 (by rw [h2, e])
  cases r' with
  | nil => exact hr f.symm
  | cons j r' =>
    refine no j (h1 j (by rw [e1]; simp)) ⟨flat L r', ?_⟩
    rw [← f, flat_cons]
theorem getD_map {zs : List Str} {i : Nat} {z : Str} (h : zs[i]? = some z) : (zs.map fun z => z.cps.toList).getD i [] = z.cps.toList := by
  rw [List.getD_eq_getElem?_getD, List.getElem?_map, h]
  rfl
theorem apart_nodup {zs : List Str} (ap : ApartL (zs.map fun z => z.cps.toList)) : ∀ (i j : Nat) (z : Str), zs[i]? = some z → zs[j]? = some z → i = j := by
  intro i j z hi hj
  refine ap_pre ap (t := z.cps.toList) ?_ ?_ ?_ ?_
  · rw [List.length_map]; exact (List.getElem?_eq_some_iff.mp hi).1
  · rw [List.length_map]; exact (List.getElem?_eq_some_iff.mp hj).1
  · rw [getD_map hi]; exact List.prefix_refl _
  · rw [getD_map hj]; exact List.prefix_refl _
end Own
set_option Elab.async false
set_option linter.all false
set_option maxRecDepth 100000
set_option maxHeartbeats 4000000
/-! free names -/
namespace Own
open PySem PySem.Spec PyProof.Rows
abbrev Txs := List (List Nat)
def ext (L : Txs) (b : List Nat) : Txs := L.filter (b.isPrefixOf ·)
def freeF (L : Txs) : Nat → List Nat → Txs
  | 0, _ => []
  | n + 1, b => if b ∈ L then [] else if b ≠ [] ∧ ext L b = [] then [b] else freeF L n (b ++ [48]) ++ freeF L n (b ++ [49])
def shs (L : Txs) : Nat := (L.map fun z => 2 ^ (60 - z.length)).sum
theorem shs_app (a b : Txs) : shs (a ++ b) = shs a + shs b := by unfold shs; rw [List.map_append, List.sum_append]
/-- texts of signs, not empty, not too long, apart -/
structure Nms (L : Txs) : Prop where
  ap : ApartL L
  lo : ∀ z ∈ L, z ≠ []
  hi : ∀ z ∈ L, z.length ≤ 60
  sg : ∀ z ∈ L, ∀ c ∈ z, c = 48 ∨ c = 49
theorem mem_ext {L : Txs} {b z : List Nat} : z ∈ ext L b ↔ z ∈ L ∧ b <+: z := by
  unfold ext
  rw [List.mem_filter, List.isPrefixOf_iff_prefix]
theorem ap_eq {L : Txs} (ap : ApartL L) {x y : List Nat} (hx : x ∈ L) (hy : y ∈ L) (h : x <+: y) : x = y := by
  unfold ApartL at ap
  rw [List.pairwise_iff_getElem] at ap
  obtain ⟨i, hi, rfl⟩ := List.getElem_of_mem hx
  obtain ⟨j, hj, rfl⟩ := List.getElem_of_mem hy
  rcases Nat.lt_trichotomy i j with z | z | z
  · exact absurd h (ap i j hi hj z).1
  · subst z; rfl
  · exact absurd h (ap j i hj hi z).2
theorem ext_self {b : List Nat} : ∀ {L : Txs}, ApartL L → b ∈ L → ext L b = [b]
  | x :: L, ap, h => by
    have ap' := List.pairwise_cons.mp ap
    unfold ext
    rcases List.mem_cons.mp h with rfl | h
    · rw [List.filter_cons_of_pos (List.isPrefixOf_iff_prefix.mpr (List.prefix_refl _)), List.filter_eq_nil_iff.mpr]
      intro y hy
      rw [List.isPrefixOf_iff_prefix]
      exact (ap'.1 y hy).1
    · rw [List.filter_cons_of_neg]
      · exact ext_self ap'.2 h
      · rw [List.isPrefixOf_iff_prefix]
        exact (ap'.1 b h).2
theorem pre_snoc {b z : List Nat} : b <+: z ∧ b ≠ z ↔ ∃ c r, z = b ++ c :: r := by
  constructor
  · rintro ⟨⟨r, rfl⟩, ne⟩
    cases r with
    | nil => exact absurd (List.append_nil b).symm ne
    | cons c r => exact ⟨c, r, rfl⟩
  · rintro ⟨c, r, rfl⟩
    exact ⟨List.prefix_append _ _, fun e => by
      have := congrArg List.length e
      simp at this⟩
theorem snoc_pre {b z : List Nat} {c : Nat} : b ++ [c] <+: z ↔ ∃ r, z = b ++ c :: r := by
  constructor
  · rintro ⟨r, rfl⟩
    exact ⟨r, by simp⟩
  · rintro ⟨r, rfl⟩
    exact ⟨r, by simp⟩
theorem ext_pos {L : Txs} {b z : List Nat} (h : b <+: z) : ext (z :: L) b = z :: ext L b := by
  unfold ext
  rw [List.filter_cons_of_pos (List.isPrefixOf_iff_prefix.mpr h)]
theorem ext_neg {L : Txs} {b z : List Nat} (h : ¬ b <+: z) : ext (z :: L) b = ext L b := by
  unfold ext
  rw [List.filter_cons_of_neg (fun q => h (List.isPrefixOf_iff_prefix.mp q))]
theorem shs_cons (z : List Nat) (L : Txs) : shs (z :: L) = 2 ^ (60 - z.length) + shs L := by
  unfold shs
  rw [List.map_cons, List.sum_cons]
theorem ext_split {b : List Nat} : ∀ {L : Txs}, (∀ z ∈ L, ∀ c ∈ z, c = 48 ∨ c = 49) → b ∉ L → shs (ext L b) = shs (ext L (b ++ [48])) + shs (ext L (b ++ [49])) ∧ (ext L b).length = (ext L (b ++ [48])).length + (ext L (b ++ [49])).length
  | [], _, _ => ⟨rfl, rfl⟩
  | z :: L, sg, nb => by
    have ih := ext_split (b := b) (L := L) (fun y hy => sg y (List.mem_cons_of_mem _ hy)) (fun h => nb (List.mem_cons_of_mem _ h))
    have ne : b ≠ z := fun e => nb (by rw [e]; exact List.mem_cons_self)
    have s := sg z List.mem_cons_self
    by_cases h : b <+: z
    · obtain ⟨c, r, e⟩ := pre_snoc.mp ⟨h, ne⟩
      have hc : c = 48 ∨ c = 49 := s c (by rw [e]; simp)
      rw [ext_pos h]
      rcases hc with rfl | rfl
      · have y0 : b ++ [48] <+: z := snoc_pre.mpr ⟨r, e⟩
        have n1 : ¬ b ++ [49] <+: z := fun q => by
          obtain ⟨r', e'⟩ := snoc_pre.mp q
          rw [e] at e'
          have := List.append_cancel_left e'
          cases this
        rw [ext_pos y0, ext_neg n1, shs_cons, shs_cons, List.length_cons, List.length_cons]
        omega
      · have y1 : b ++ [49] <+: z := snoc_pre.mpr ⟨r, e⟩
        have n0 : ¬ b ++ [48] <+: z := fun q => by
          obtain ⟨r', e'⟩ := snoc_pre.mp q
          rw [e] at e'
          have := List.append_cancel_left e'
          cases this
        rw [ext_neg n0, ext_pos y1, shs_cons, shs_cons, List.length_cons, List.length_cons]
        omega
    · have n0 : ∀ c, ¬ b ++ [c] <+: z := fun c q => h ((List.prefix_append _ _).trans q)
      rw [ext_neg h, ext_neg (n0 48), ext_neg (n0 49)]
      exact ih
theorem ext_short {L : Txs} (N : Nms L) {b : List Nat} (nb : b ∉ L) (h : ext L b ≠ []) : b.length < 60 ∧ ∃ z ∈ L, b <+: z ∧ b ≠ z := by
  obtain ⟨z, hz⟩ := List.exists_mem_of_ne_nil _ h
  obtain ⟨h1, h2⟩ := mem_ext.mp hz
  have ne : b ≠ z := fun e => nb (e ▸ h1)
  obtain ⟨c, r, e⟩ := pre_snoc.mp ⟨h2, ne⟩
  have := N.hi z h1
  rw [e, List.length_append, List.length_cons] at this
  exact ⟨by omega, z, h1, h2, ne⟩
theorem shs_one (b : List Nat) : shs [b] = 2 ^ (60 - b.length) := by simp [shs]
theorem pow_half {k : Nat} (h : k < 60) : 2 ^ (60 - k) = 2 ^ (60 - (k + 1)) + 2 ^ (60 - (k + 1)) := by
  rw [show 60 - k = (60 - (k + 1)) + 1 by omega, Nat.pow_succ]
  omega
/-- names and free names fill what begins with b -/
theorem free_sum {L : Txs} (N : Nms L) : ∀ (n : Nat) (b : List Nat), b.length ≤ 60 → 61 ≤ b.length + n → shs (ext L b) + shs (freeF L n b) = 2 ^ (60 - b.length)
  | 0, b, h1, h2 => by omega
  | n + 1, b, h1, h2 => by
    unfold freeF
    by_cases hb : b ∈ L
    · rw [if_pos hb, ext_self N.ap hb, shs_one]
      rfl
    · rw [if_neg hb]
      by_cases he : b ≠ [] ∧ ext L b = []
      · rw [if_pos he, he.2, shs_one]
        show 0 + _ = _
        omega
      · rw [if_neg he, shs_app, (ext_split N.sg hb).1]
        have lt : b.length < 60 := by
          by_cases q : b = []
          · rw [q]; decide
          · have : ext L b ≠ [] := fun z => he ⟨q, z⟩
            exact (ext_short N hb this).1
        have i0 := free_sum N n (b ++ [48]) (by rw [List.length_append]; show b.length + 1 ≤ 60; omega) (by rw [List.length_append]; show 61 ≤ b.length + 1 + n; omega)
        have i1 := free_sum N n (b ++ [49]) (by rw [List.length_append]; show b.length + 1 ≤ 60; omega) (by rw [List.length_append]; show 61 ≤ b.length + 1 + n; omega)
        rw [List.length_append] at i0 i1
        have := pow_half lt
        have e : b.length + [48].length = b.length + 1 := rfl
        have e' : b.length + [49].length = b.length + 1 := rfl
        rw [e] at i0
        rw [e'] at i1
        omega
/-- begun: the empty text and what goes on to a name -/
def Bg (L : Txs) (t : List Nat) : Prop := t = [] ∨ ∃ z ∈ L, t <+: z ∧ t ≠ z
/-- one sign behind what is begun, not begun, no name -/
def IsFree (L : Txs) (t : List Nat) : Prop := (∃ u s, (s = 48 ∨ s = 49) ∧ t = u ++ [s] ∧ Bg L u) ∧ ¬ Bg L t ∧ t ∉ L
theorem Bg.pre {L : Txs} {t u : List Nat} (h : Bg L t) (p : u <+: t) : Bg L u := by
  rcases h with rfl | ⟨z, hz, h1, h2⟩
  · exact .inl (List.prefix_nil.mp p)
  · refine .inr ⟨z, hz, p.trans h1, fun e => h2 ?_⟩
    subst e
    exact List.IsPrefix.eq_of_length_le h1 p.length_le
theorem snoc_split {b u : List Nat} {s : Nat} (h : b <+: u ++ [s]) (ne : b ≠ u ++ [s]) : b <+: u := by
  rcases List.prefix_concat_iff.mp h with q | q
  · exact absurd q ne
  · exact q
theorem free_mem {L : Txs} (N : Nms L) : ∀ (n : Nat) (b : List Nat), b.length ≤ 60 → 61 ≤ b.length + n → (b = [] ∨ ∃ u s, (s = 48 ∨ s = 49) ∧ b = u ++ [s] ∧ Bg L u) → ∀ t, t ∈ freeF L n b ↔ b <+: t ∧ IsFree L t
  | 0, b, h1, h2, _, _ => by omega
  | n + 1, b, h1, h2, hp, t => by
    unfold freeF
    by_cases hb : b ∈ L
    · rw [if_pos hb]
      constructor
      · intro h; cases h
      · rintro ⟨p, ⟨u, s, hs, rfl, hu⟩, nt, tl⟩
        exfalso
        have ne : b ≠ u ++ [s] := fun e => tl (e ▸ hb)
        have pu := snoc_split p ne
        have bu := hu.pre pu
        rcases bu with e | ⟨z, hz, q1, q2⟩
        · exact N.lo b hb e
        · exact q2 (ap_eq N.ap hb hz q1)
    · rw [if_neg hb]
      by_cases he : b ≠ [] ∧ ext L b = []
      · rw [if_pos he, List.mem_singleton]
        have nB : ¬ Bg L b := by
          rintro (e | ⟨z, hz, q1, _⟩)
          · exact he.1 e
          · have : z ∈ ext L b := mem_ext.mpr ⟨hz, q1⟩
            rw [he.2] at this
            cases this
        constructor
        · rintro rfl
          refine ⟨List.prefix_refl _, ?_, nB, hb⟩
          rcases hp with e | q
          · exact absurd e he.1
          · exact q
        · rintro ⟨p, ⟨u, s, hs, rfl, hu⟩, nt, tl⟩
          by_cases e : b = u ++ [s]
          · exact e.symm
          · exact absurd (hu.pre (snoc_split p e)) nB
      · rw [if_neg he]
        have bB : Bg L b := by
          by_cases q : b = []
          · exact .inl q
          · have : ext L b ≠ [] := fun z => he ⟨q, z⟩
            obtain ⟨_, z, hz, q1, q2⟩ := ext_short N hb this
            exact .inr ⟨z, hz, q1, q2⟩
        have lt : b.length < 60 := by
          by_cases q : b = []
          · rw [q]; decide
          · have : ext L b ≠ [] := fun z => he ⟨q, z⟩
            exact (ext_short N hb this).1
        have i0 := free_mem N n (b ++ [48]) (by rw [List.length_append]; show b.length + 1 ≤ 60; omega) (by rw [List.length_append]; show 61 ≤ b.length + 1 + n; omega) (.inr ⟨b, 48, .inl rfl, rfl, bB⟩) t
        have i1 := free_mem N n (b ++ [49]) (by rw [List.length_append]; show b.length + 1 ≤ 60; omega) (by rw [List.length_append]; show 61 ≤ b.length + 1 + n; omega) (.inr ⟨b, 49, .inr rfl, rfl, bB⟩) t
        rw [List.mem_append, i0, i1]
        constructor
        · rintro (⟨p, q⟩ | ⟨p, q⟩)
          · exact ⟨(List.prefix_append _ _).trans p, q⟩
          · exact ⟨(List.prefix_append _ _).trans p, q⟩
        · rintro ⟨p, q⟩
          obtain ⟨⟨u, s, hs, rfl, hu⟩, nt, tl⟩ := id q
          have ne : b ≠ u ++ [s] := fun e => nt (e ▸ bB)
          obtain ⟨c, r, e⟩ := pre_snoc.mp ⟨p, ne⟩
          have hc : c = 48 ∨ c = 49 := by
            by_cases q2 : b = u
            · subst q2
              have := List.append_cancel_left e
              injection this with h1 _
              rw [← h1]
              exact hs
            · have pu := snoc_split p ne
              obtain ⟨c', r', e'⟩ := pre_snoc.mp ⟨pu, q2⟩
              have ec : c = c' := by
                rw [e', List.append_assoc] at e
                have := List.append_cancel_left e
                injection this with h1 _
                exact h1.symm
              rcases hu with rfl | ⟨z, hz, q3, _⟩
              · have := congrArg List.length e'
                simp at this
              · refine N.sg z hz c ?_
                obtain ⟨r2, rfl⟩ := q3
                rw [e', ec]
                simp
          rcases hc with rfl | rfl
          · exact .inl ⟨snoc_pre.mpr ⟨r, e⟩, q⟩
          · exact .inr ⟨snoc_pre.mpr ⟨r, e⟩, q⟩
theorem lt_split {b x y : List Nat} (hx : b ++ [48] <+: x) (hy : b ++ [49] <+: y) : x < y := by
  obtain ⟨r, rfl⟩ := snoc_pre.mp hx
  obtain ⟨r', rfl⟩ := snoc_pre.mp hy
  clear hx hy
  induction b with
  | nil => exact List.cons_lt_cons_iff.mpr (.inl (by decide))
  | cons a b ih => exact List.cons_lt_cons_iff.mpr (.inr ⟨rfl, ih⟩)
theorem free_pre {L : Txs} : ∀ (n : Nat) (b t : List Nat), t ∈ freeF L n b → b <+: t
  | 0, b, t, h => by cases h
  | n + 1, b, t, h => by
    unfold freeF at h
    split at h
    · cases h
    · split at h
      · rw [List.mem_singleton.mp h]; exact List.prefix_refl _
      · rcases List.mem_append.mp h with h | h
        · exact (List.prefix_append _ _).trans (free_pre n _ t h)
        · exact (List.prefix_append _ _).trans (free_pre n _ t h)
theorem free_sorted {L : Txs} : ∀ (n : Nat) (b : List Nat), (freeF L n b).Pairwise (· < ·)
  | 0, b => List.Pairwise.nil
  | n + 1, b => by
    unfold freeF
    split
    · exact List.Pairwise.nil
    · split
      · exact List.pairwise_singleton _ _
      · rw [List.pairwise_append]
        exact ⟨free_sorted n _, free_sorted n _, fun x hx y hy => lt_split (free_pre n _ x hx) (free_pre n _ y hy)⟩
/-- strictly ascending lists of the same things are the same -/
theorem asc_eq : ∀ {a b : Txs}, a.Pairwise (· < ·) → b.Pairwise (· < ·) → (∀ t, t ∈ a ↔ t ∈ b) → a = b
  | [], [], _, _, _ => rfl
  | [], y :: b, _, _, h => by have := (h y).mpr List.mem_cons_self; cases this
  | x :: a, [], _, _, h => by have := (h x).mp List.mem_cons_self; cases this
  | x :: a, y :: b, ha, hb, h => by
    have ha' := List.pairwise_cons.mp ha
    have hb' := List.pairwise_cons.mp hb
    have irr : ∀ z : List Nat, ¬ z < z := fun z => List.lt_irrefl z
    have e : x = y := by
      rcases List.mem_cons.mp ((h x).mp List.mem_cons_self) with e | q1
      · exact e
      · rcases List.mem_cons.mp ((h y).mpr List.mem_cons_self) with e | q2
        · exact e.symm
        · exact absurd (List.lt_trans (hb'.1 x q1) (ha'.1 y q2)) (irr _)
    subst e
    congr 1
    refine asc_eq ha'.2 hb'.2 fun t => ?_
    constructor
    · intro ht
      rcases List.mem_cons.mp ((h t).mp (List.mem_cons_of_mem _ ht)) with e | q
      · subst e; exact absurd (ha'.1 t ht) (irr _)
      · exact q
    · intro ht
      rcases List.mem_cons.mp ((h t).mpr (List.mem_cons_of_mem _ ht)) with e | q
      · subst e; exact absurd (hb'.1 t ht) (irr _)
      · exact q
def fre (L : Txs) : Txs := freeF L 61 []
theorem fre_mem {L : Txs} (N : Nms L) (t : List Nat) : t ∈ fre L ↔ IsFree L t := by
  unfold fre
  rw [free_mem N 61 [] (by decide) (by decide) (.inl rfl) t]
  exact ⟨fun h => h.2, fun h => ⟨List.nil_prefix, h⟩⟩
theorem ext_all (L : Txs) : ext L [] = L := by
  unfold ext
  exact List.filter_eq_self.mpr fun x _ => rfl
theorem fre_sum {L : Txs} (N : Nms L) : shs L + shs (fre L) = 2 ^ 60 := by
  have := free_sum N 61 [] (by decide) (by decide)
  rw [ext_all] at this
  exact this
theorem fre_nms {L : Txs} (N : Nms L) : Nms (L ++ fre L) := by
  have hf : ∀ t ∈ fre L, IsFree L t := fun t h => (fre_mem N t).mp h
  have len : ∀ u, Bg L u → u.length < 60 := fun u hu => by
    rcases hu with rfl | ⟨z, hz, q1, q2⟩
    · decide
    · obtain ⟨c, r, e⟩ := pre_snoc.mp ⟨q1, q2⟩
      have := N.hi z hz
      rw [e, List.length_append, List.length_cons] at this
      omega
  have nopre : ∀ t t', IsFree L t → Bg L t' → ¬ t <+: t' := fun t t' h hb p => h.2.1 (hb.pre p)
  refine ⟨?_, fun z hz => ?_, fun z hz => ?_, fun z hz => ?_⟩
  · unfold ApartL
    rw [List.pairwise_append]
    refine ⟨N.ap, ?_, fun x hx y hy => ?_⟩
    · refine (free_sorted 61 []).imp_of_mem fun {x y} hx hy lt => ?_
      have fx := hf x hx
      have fy := hf y hy
      have ne : x ≠ y := fun e => List.lt_irrefl x (e ▸ lt)
      obtain ⟨u, s, hs, rfl, hu⟩ := fy.1
      obtain ⟨u', s', hs', rfl, hu'⟩ := fx.1
      exact ⟨fun p => nopre _ _ fx hu (snoc_split p ne), fun p => nopre _ _ fy hu' (snoc_split p (Ne.symm ne))⟩
    · have fy := hf y hy
      obtain ⟨u, s, hs, rfl, hu⟩ := fy.1
      have ne : x ≠ u ++ [s] := fun e => fy.2.2 (e ▸ hx)
      refine ⟨fun p => ?_, fun p => ?_⟩
      · have pu := snoc_split p ne
        rcases hu.pre pu with e | ⟨z, hz, q1, q2⟩
        · exact N.lo x hx e
        · exact q2 (ap_eq N.ap hx hz q1)
      · exact fy.2.1 (.inr ⟨x, hx, p, Ne.symm ne⟩)
  · rcases List.mem_append.mp hz with hz | hz
    · exact N.lo z hz
    · intro e
      exact (hf z hz).2.1 (.inl e)
  · rcases List.mem_append.mp hz with hz | hz
    · exact N.hi z hz
    · obtain ⟨u, s, hs, rfl, hu⟩ := (hf z hz).1
      have := len u hu
      rw [List.length_append]
      show u.length + 1 ≤ 60
      omega
  · rcases List.mem_append.mp hz with hz | hz
    · exact N.sg z hz
    · obtain ⟨u, s, hs, rfl, hu⟩ := (hf z hz).1
      intro c hc
      rcases List.mem_append.mp hc with hc | hc
      · rcases hu with rfl | ⟨z, hz, q1, q2⟩
        · cases hc
        · exact N.sg z hz c (q1.subset hc)
      · rw [List.mem_singleton.mp hc]; exact hs
theorem shs_pos : ∀ {L : Txs}, shs L = 0 → L = []
  | [], _ => rfl
  | z :: L, h => by
    unfold shs at h
    rw [List.map_cons, List.sum_cons] at h
    have := Nat.two_pow_pos (60 - z.length)
    omega
theorem fre_full {L : Txs} (N : Nms L) : shs (L ++ fre L) = 2 ^ 60 ∧ fre (L ++ fre L) = [] := by
  have s := fre_sum N
  have s2 := fre_sum (fre_nms N)
  rw [shs_app] at s2 ⊢
  exact ⟨s, shs_pos (by omega)⟩
/-! how many free names there are, for names behind a common beginning -/
theorem cnt_tree {L : Txs} (N : Nms L) {st : List Nat} (far : ∀ z ∈ L, z.length ≤ st.length + 4) : ∀ (n : Nat) (b : List Nat), st <+: b → b.length ≤ st.length + 5 → b.length ≤ 60 → 61 ≤ b.length + n → (b = [] → st = []) → (ext L b).length + (freeF L n b).length ≤ 2 ^ (st.length + 5 - b.length)
  | 0, b, _, _, h1, h2, _ => by omega
  | n + 1, b, hs, hl, h1, h2, h0 => by
    unfold freeF
    have one := Nat.one_le_two_pow (n := st.length + 5 - b.length)
    by_cases hb : b ∈ L
    · rw [if_pos hb, ext_self N.ap hb]
      simpa using one
    · rw [if_neg hb]
      by_cases he : b ≠ [] ∧ ext L b = []
      · rw [if_pos he, he.2]
        simpa using one
      · rw [if_neg he, List.length_append, (ext_split N.sg hb).2]
        have lt : b.length < st.length + 4 ∧ b.length < 60 := by
          by_cases q : b = []
          · rw [q, h0 q]; decide
          · have : ext L b ≠ [] := fun z => he ⟨q, z⟩
            obtain ⟨l1, z, hz, q1, q2⟩ := ext_short N hb this
            obtain ⟨c, r, e⟩ := pre_snoc.mp ⟨q1, q2⟩
            have := far z hz
            rw [e, List.length_append, List.length_cons] at this
            exact ⟨by omega, l1⟩
        have l0 : (b ++ [48]).length = b.length + 1 := by rw [List.length_append]; rfl
        have l1 : (b ++ [49]).length = b.length + 1 := by rw [List.length_append]; rfl
        have i0 := cnt_tree N far n (b ++ [48]) (hs.trans (List.prefix_append _ _)) (by omega) (by omega) (by omega) (fun e => by rw [e] at l0; simp at l0)
        have i1 := cnt_tree N far n (b ++ [49]) (hs.trans (List.prefix_append _ _)) (by omega) (by omega) (by omega) (fun e => by rw [e] at l1; simp at l1)
        rw [l0] at i0
        rw [l1] at i1
        have : 2 ^ (st.length + 5 - b.length) = 2 ^ (st.length + 5 - (b.length + 1)) + 2 ^ (st.length + 5 - (b.length + 1)) := by
          rw [show st.length + 5 - b.length = (st.length + 5 - (b.length + 1)) + 1 by omega, Nat.pow_succ]
          omega
        omega
theorem leaf_cnt {L : Txs} {n : Nat} {b : List Nat} (nb : b ≠ []) (he : ext L b = []) (hn : 0 < n) : (ext L b).length + (freeF L n b).length = 1 := by
  obtain ⟨m, rfl⟩ : ∃ m, n = m + 1 := ⟨n - 1, by omega⟩
  unfold freeF
  have hb : b ∉ L := fun h => by
    have : b ∈ ext L b := mem_ext.mpr ⟨h, List.prefix_refl _⟩
    rw [he] at this
    cases this
  rw [if_neg hb, if_pos ⟨nb, he⟩, he]
  rfl
theorem cnt_stem {L : Txs} (N : Nms L) {st : List Nat} (stl : st.length ≤ 56) (sgs : ∀ c ∈ st, c = 48 ∨ c = 49) (beg : ∀ z ∈ L, st <+: z) (far : ∀ z ∈ L, z.length ≤ st.length + 4) : ∀ (k n : Nat) (b : List Nat), b <+: st → st.length - b.length = k → 61 ≤ b.length + n → (ext L b).length + (freeF L n b).length ≤ k + 32
  | 0, n, b, hb, hk, hn => by
    have e : b = st := List.IsPrefix.eq_of_length_le hb (by omega)
    subst e
    have := cnt_tree N far n b (List.prefix_refl _) (by omega) (by omega) hn (fun e => e)
    rw [show b.length + 5 - b.length = 5 by omega] at this
    omega
  | k + 1, 0, b, hb, hk, hn => by have := hb.length_le; omega
  | k + 1, n + 1, b, hb, hk, hn => by
    unfold freeF
    by_cases hL : b ∈ L
    · rw [if_pos hL, ext_self N.ap hL]
      show 1 + 0 ≤ _
      omega
    · rw [if_neg hL]
      by_cases he : b ≠ [] ∧ ext L b = []
      · rw [if_pos he, he.2]
        show 0 + 1 ≤ _
        omega
      · rw [if_neg he, List.length_append, (ext_split N.sg hL).2]
        have ne : b ≠ st := fun e => by rw [e] at hk; omega
        obtain ⟨c, r, e⟩ := pre_snoc.mp ⟨hb, ne⟩
        have hc := sgs c (by rw [e]; simp)
        have ble := hb.length_le
        have l0 : ∀ d : Nat, (b ++ [d]).length = b.length + 1 := fun d => by rw [List.length_append]; rfl
        have other : ∀ d, d ≠ c → ext L (b ++ [d]) = [] := fun d hd => by
          refine List.eq_nil_iff_forall_not_mem.mpr fun z hz => ?_
          obtain ⟨h1, h2⟩ := mem_ext.mp hz
          obtain ⟨r1, e1⟩ := snoc_pre.mp h2
          obtain ⟨r2, e2⟩ := beg z h1
          rw [e, e1, List.append_assoc] at e2
          have := List.append_cancel_left e2
          injection this with h3 _
          exact hd h3.symm
        have nn : ∀ d : Nat, b ++ [d] ≠ [] := fun d e => by simp at e
        rcases hc with rfl | rfl
        · have i0 := cnt_stem N stl sgs beg far k n (b ++ [48]) (snoc_pre.mpr ⟨r, e⟩) (by rw [l0]; omega) (by rw [l0]; omega)
          have i1 := leaf_cnt (n := n) (nn 49) (other 49 (by decide)) (by omega)
          omega
        · have i1 := cnt_stem N stl sgs beg far k n (b ++ [49]) (snoc_pre.mpr ⟨r, e⟩) (by rw [l0]; omega) (by rw [l0]; omega)
          have i0 := leaf_cnt (n := n) (nn 48) (other 48 (by decide)) (by omega)
          omega
theorem fre_few {L : Txs} (N : Nms L) {st : List Nat} (stl : st.length ≤ 56) (sgs : ∀ c ∈ st, c = 48 ∨ c = 49) (beg : ∀ z ∈ L, st <+: z) (far : ∀ z ∈ L, z.length ≤ st.length + 4) : L.length + (fre L).length ≤ 88 := by
  have := cnt_stem N stl sgs beg far st.length 61 [] List.nil_prefix rfl (by decide)
  rw [ext_all] at this
  exact Nat.le_trans this (by omega)
end Own
set_option Elab.async false
set_option linter.all false
set_option maxRecDepth 100000
set_option maxHeartbeats 4000000
/-! names that are apart, made out of the empty one by cutting in two, and by signs put in -/
namespace Own
open PySem PySem.Spec PyProof.Rows L2
def sh8 (L : Txs) : Nat := (L.map fun z => 2 ^ (8 - z.length)).sum
structure Tr (L : Txs) : Prop where
  ap : ApartL L
  hi : ∀ z ∈ L, z.length ≤ 8
  sg : ∀ z ∈ L, ∀ c ∈ z, c = 48 ∨ c = 49
theorem ApartL.nd {L : Txs} (h : ApartL L) : L.Nodup := List.Pairwise.imp (S := fun a b => a ≠ b) (fun {a b} q e => q.1 (by rw [e]; exact List.prefix_refl _)) h
theorem Tr.perm {L M : Txs} (h : Tr L) (p : L.Perm M) : Tr M := ⟨(ApartL.perm p).mp h.ap, fun z hz => h.hi z (p.mem_iff.mpr hz), fun z hz => h.sg z (p.mem_iff.mpr hz)⟩
theorem sh8_perm {A B : Txs} (p : A.Perm B) : sh8 A = sh8 B := by
  unfold sh8
  exact (p.map _).sum_nat
theorem sh8_cons (z : List Nat) (L : Txs) : sh8 (z :: L) = 2 ^ (8 - z.length) + sh8 L := by unfold sh8; rw [List.map_cons, List.sum_cons]
theorem sh8_app (A B : Txs) : sh8 (A ++ B) = sh8 A + sh8 B := by unfold sh8; rw [List.map_append, List.sum_append]
theorem tr_split {L : Txs} (h : Tr L) {z : List Nat} (hz : z ∈ L) (l8 : z.length < 8) :
    Tr (L.filter (fun y => decide (y ≠ z)) ++ [z ++ [48], z ++ [49]]) ∧ (L.filter (fun y => decide (y ≠ z)) ++ [z ++ [48], z ++ [49]]).length = L.length + 1 ∧ sh8 (L.filter (fun y => decide (y ≠ z)) ++ [z ++ [48], z ++ [49]]) = sh8 L := by
  have pr : L.Perm (z :: L.filter (fun y => decide (y ≠ z))) := by
    have e := h.ap.nd.erase_eq_filter z
    have e2 : L.filter (fun y => decide (y ≠ z)) = L.erase z := by
      rw [e]
      refine List.filter_congr fun y _ => ?_
      by_cases q : y = z
      · simp [q]
      · simp [q]
    rw [e2]
    exact List.perm_cons_erase hz
  have h2 := h.perm pr
  have ap2 := List.pairwise_cons.mp h2.ap
  have ne2 : ∀ (s : Nat) (y : List Nat), y ∈ L.filter (fun y => decide (y ≠ z)) → ¬ y <+: z ++ [s] ∧ ¬ z ++ [s] <+: y := by
    intro s y hy
    have q := ap2.1 y hy
    refine ⟨fun p => ?_, fun p => q.1 ((List.prefix_append _ _).trans p)⟩
    by_cases e : y = z ++ [s]
    · exact q.1 (e ▸ List.prefix_append _ _)
    · exact q.2 (snoc_split p e)
  refine ⟨⟨?_, fun y hy => ?_, fun y hy => ?_⟩, ?_, ?_⟩
  · unfold ApartL
    rw [List.pairwise_append]
    refine ⟨ap2.2, ?_, fun y hy x hx => ?_⟩
    · refine List.pairwise_cons.mpr ⟨fun x hx => ?_, List.pairwise_singleton _ _⟩
      rw [List.mem_singleton.mp hx]
      refine ⟨fun p => ?_, fun p => ?_⟩
      · have := List.prefix_append_right_inj z |>.mp p
        obtain ⟨r, hr⟩ := this
        cases hr
      · have := List.prefix_append_right_inj z |>.mp p
        obtain ⟨r, hr⟩ := this
        cases hr
    · simp only [List.mem_cons, List.not_mem_nil, or_false] at hx
      rcases hx with rfl | rfl
      · exact ne2 48 y hy
      · exact ne2 49 y hy
  · rcases List.mem_append.mp hy with hy | hy
    · exact h2.hi y (List.mem_cons_of_mem _ hy)
    · simp only [List.mem_cons, List.not_mem_nil, or_false] at hy
      rcases hy with rfl | rfl <;> simp <;> omega
  · rcases List.mem_append.mp hy with hy | hy
    · exact h2.sg y (List.mem_cons_of_mem _ hy)
    · simp only [List.mem_cons, List.not_mem_nil, or_false] at hy
      intro c hc
      rcases hy with rfl | rfl <;> rcases List.mem_append.mp hc with hc | hc
      · exact h.sg z hz c hc
      · exact .inl (List.mem_singleton.mp hc)
      · exact h.sg z hz c hc
      · exact .inr (List.mem_singleton.mp hc)
  · have := pr.length_eq
    rw [List.length_cons] at this
    rw [List.length_append, this]
    rfl
  · have := sh8_perm pr
    rw [sh8_cons] at this
    rw [this, sh8_app, sh8_cons, sh8_cons]
    have e0 : sh8 [] = 0 := rfl
    have e : 2 ^ (8 - z.length) = 2 ^ (8 - (z.length + 1)) + 2 ^ (8 - (z.length + 1)) := by
      rw [show 8 - z.length = (8 - (z.length + 1)) + 1 by omega, Nat.pow_succ]
      omega
    rw [e0, List.length_append, List.length_append]
    show _ = _
    simp only [List.length_singleton]
    omega
/-- a sign put in behind a beginning -/
def putS (hd : List Nat) (c : Nat) (y : List Nat) : List Nat := if hd <+: y then hd ++ [c] ++ y.drop hd.length else y
theorem tr_put {L : Txs} (h : Tr L) {z hd : List Nat} (hz : z ∈ L) (hh : hd <+: z) {c : Nat} (hc : c = 48 ∨ c = 49) (few : ∀ y ∈ L, hd <+: y → y.length < 8) : Tr (L.map (putS hd c)) := by
  have hsg : ∀ x ∈ hd, x = 48 ∨ x = 49 := fun x hx => h.sg z hz x (hh.subset hx)
  have nb : ∀ {y : List Nat}, y ∈ L → ¬ hd <+: y → ¬ y <+: hd := by
    intro y hy ny p
    by_cases e : y = z
    · exact ny (e ▸ hh)
    · have := ap_eq h.ap hy hz (p.trans hh)
      exact e this
  have off : ∀ {y : List Nat} {s : List Nat}, y ∈ L → ¬ hd <+: y → ¬ y <+: hd ++ [c] ++ s ∧ ¬ hd ++ [c] ++ s <+: y := by
    intro y s hy ny
    refine ⟨fun p => ?_, fun p => ny (((List.prefix_append hd ([c] ++ s))).trans (by rw [← List.append_assoc]; exact p))⟩
    rw [List.append_assoc] at p
    rcases List.prefix_or_prefix_of_prefix p (List.prefix_append hd ([c] ++ s)) with q | q
    · exact nb hy ny q
    · exact ny q
  refine ⟨?_, fun y hy => ?_, fun y hy => ?_⟩
  · unfold ApartL
    rw [List.pairwise_map]
    refine List.Pairwise.imp_of_mem (fun {a b} ha hb q => ?_) h.ap
    unfold putS
    by_cases pa : hd <+: a
    · by_cases pb : hd <+: b
      · rw [if_pos pa, if_pos pb]
        obtain ⟨ra, rfl⟩ := pa
        obtain ⟨rb, rfl⟩ := pb
        rw [List.drop_left, List.drop_left, List.prefix_append_right_inj, List.prefix_append_right_inj]
        rw [List.prefix_append_right_inj, List.prefix_append_right_inj] at q
        exact q
      · rw [if_pos pa, if_neg pb]
        have := off (s := a.drop hd.length) hb pb
        exact ⟨this.2, this.1⟩
    · by_cases pb : hd <+: b
      · rw [if_neg pa, if_pos pb]
        have := off (s := b.drop hd.length) ha pa
        exact ⟨this.1, this.2⟩
      · rw [if_neg pa, if_neg pb]
        exact q
  · obtain ⟨x, hx, rfl⟩ := List.mem_map.mp hy
    unfold putS
    by_cases p : hd <+: x
    · rw [if_pos p, List.length_append, List.length_append, List.length_drop, List.length_singleton]
      have := few x hx p
      have := p.length_le
      omega
    · rw [if_neg p]
      exact h.hi x hx
  · obtain ⟨x, hx, rfl⟩ := List.mem_map.mp hy
    intro d hd'
    unfold putS at hd'
    by_cases p : hd <+: x
    · rw [if_pos p] at hd'
      rcases List.mem_append.mp hd' with hd' | hd'
      · rcases List.mem_append.mp hd' with hd' | hd'
        · exact hsg d hd'
        · rw [List.mem_singleton.mp hd']
          exact hc
      · exact h.sg x hx d (List.mem_of_mem_drop hd')
    · rw [if_neg p] at hd'
      exact h.sg x hx d hd'
theorem tr_able {L : Txs} (h : Tr L) (s : sh8 L = 256) (few : L.length < 8) : ∃ z ∈ L, z.length < 8 := by
  refine Decidable.byContradiction fun no => ?_
  have all : ∀ z ∈ L, z.length = 8 := fun z hz => by
    have := h.hi z hz
    have : ¬ z.length < 8 := fun q => no ⟨z, hz, q⟩
    omega
  have e : sh8 L = L.length := by
    clear s few no h
    induction L with
    | nil => rfl
    | cons z L ih =>
      rw [sh8_cons, ih fun y hy => all y (List.mem_cons_of_mem _ hy), all z List.mem_cons_self, List.length_cons]
      omega
  omega
theorem tr_lo {L : Txs} (h : Tr L) (two : 2 ≤ L.length) : ∀ z ∈ L, 1 ≤ z.length := by
  intro z hz
  cases z with
  | cons c r => simp
  | nil =>
    exfalso
    have pr := List.perm_cons_erase hz
    have h2 := List.pairwise_cons.mp ((ApartL.perm pr).mp h.ap)
    cases he : L.erase [] with
    | nil =>
      rw [he] at pr
      have := pr.length_eq
      simp at this
      omega
    | cons y r =>
      rw [he] at h2
      exact (h2.1 y List.mem_cons_self).1 List.nil_prefix
end Own
set_option Elab.async false
set_option linter.all false
set_option maxRecDepth 100000
set_option maxHeartbeats 4000000
/-! enumerate of a tuple; a dict comprehension over any walk -/
namespace Own
open PySem PySem.Spec PyProof.Rows L2
set_option maxHeartbeats 8000000 in
theorem own_meets_enum {v : Value} {o : Obj} {H : Heap → Prop} (B : Begins v o H) :
    Meets (Builtin.«enumerate.__new__» ⟨[.type "enumerate", v], []⟩) (fun _ R s => H s.heap ∧
      R (.ok (.ret (.ref (s.heap.push o).objs.size))) { s with heap := (s.heap.push o).push { cls := .type "enumerate", data := .fields #[.none, .bool false, .ref s.heap.objs.size, rawInt 0, .none, .none] } }) :=
  .of_wp fun prog w A R s h => by
    obtain ⟨hp, g, d, tk, os⟩ := s; obtain ⟨h1, h⟩ := h
    have hsub := sub_enumerate
    have q1 : ∀ {A' : Around} {E : Value → Shared → Prop} {Q : Value → Shared → Prop}, Q (.ref hp.objs.size) ⟨hp.push o, g, d, tk, os⟩ → wpAny (model prog w) A' (pyIter v) Q E ⟨hp, g, d, tk, os⟩ :=
      fun q => B.iter prog w _ _ ⟨hp, g, d, tk, os⟩ _ h1 q
    wp_walk using q1
    refine wpAny_stack_any fun st => wpAny_pure ?_
    split
    · rename_i c _ _ _ _ _
      cases (c == Value.type "enumerate")
      · wp_walk using q1
        exact ⟨_, rfl, h⟩
      · wp_walk using q1
        exact ⟨_, rfl, h⟩
    · wp_walk using q1
      exact ⟨_, rfl, h⟩
section
variable {prog : Program} {w : World} {A : Around} {E : Value → Shared → Prop} {s : Shared}
theorem own_enum_begins {v : Value} {o : Obj} {H : Heap → Prop} {Q : Value → Shared → Prop} (B : Begins v o H) (h1 : H s.heap)
    (h : ∀ h', IsEnum h' (s.heap.objs.size + 1) s.heap.objs.size 0 .none → h'.get? s.heap.objs.size = some o → h'.objs.size = s.heap.objs.size + 2 →
      (∀ b o, s.heap.get? b = some o → h'.get? b = some o) → Q (.ref (s.heap.objs.size + 1)) { s with heap := h' }) :
    wpAny (model prog w) A (call (.type "enumerate") [v]) Q E s := by
  refine callType_new F.called_enumerate (by decide) (F.typeCall_enumerate_1 _) (F.newCall_enumerate_1 _) (fun obj => F.args_object_init_2 obj _) F.entry_enumerate_new
    (own_meets_enum B) ⟨h1, ?_⟩
  have hz : (s.heap.push o).objs.size = s.heap.objs.size + 1 := Heap.size_push ..
  show _ ∧ _
  rw [hz]
  have he : IsEnum ((s.heap.push o).push { cls := .type "enumerate", data := .fields #[.none, .bool false, .ref s.heap.objs.size, rawInt 0, .none, .none] }) (s.heap.objs.size + 1) s.heap.objs.size 0 .none := by
    have := Heap.get?_push_size (s.heap.push o) (o := { cls := .type "enumerate", data := .fields #[.none, .bool false, .ref s.heap.objs.size, rawInt 0, .none, .none] }) rfl
    rw [hz] at this; exact this
  refine ⟨⟨_, he, rfl⟩, h _ he (Heap.get?_push_of_some _ (Heap.get?_push_size _ B.free)) (by rw [Heap.size_push, hz]) fun b o x => Heap.get?_push_of_some _ (Heap.get?_push_of_some _ x)⟩
end
def IteT (K : PySem.W.Frag) (a : Addr) : It :=
  ⟨fun i H => ∃ (xs : List V) (x : V), SqT K H a xs ∧ xs[i]? = some x, fun i H v H' => ∃ T x, v = .ref T ∧ H T = none ∧ H' = upd H T (.tup [.int (i : Nat), x]) ∧ ∀ xs, SqT K H a xs → xs[i]? = some x, fun i H => ∃ xs : List V, SqT K H a xs ∧ xs.length ≤ i⟩
theorem iter_ne {h : Heap} {it a : Addr} {i : Nat} {its : Array Value} (x : h.IsTupleIter it a i) (p : h.IsTuple a its) : a ≠ it := by
  rintro rfl
  obtain ⟨o, e, c, _⟩ := x
  obtain ⟨o', e', c', _⟩ := p
  rw [e] at e'
  cases e'
  rw [c] at c'
  exact absurd c' (by decide)
theorem enum_neT {h : Heap} {e it a : Addr} {c : Int} {old : Value} {its : Array Value} (x : IsEnum h e it c old) (p : h.IsTuple a its) : e ≠ a := by
  rintro rfl
  obtain ⟨o', e', c', _⟩ := p
  rw [x] at e'
  cases e'
  exact absurd (show Value.type "enumerate" = Value.type "tuple" from c') (by decide)
theorem turn_enumT {P : Program} {w : World} {K : PySem.W.Frag} {elts : List Expr} {kk : Nat} {tpos : Pos} (a e it : Addr) :
    Turn P w K (.Tuple elts kk tpos) (IteT K a) [e, it] e (fun i h => (∃ old, IsEnum h e it ((i : Nat) : Int) old) ∧ h.IsTupleIter it a i ∧ e ≠ it) where
  mem := by simp
  obj := fun i h st b hb => by
    obtain ⟨⟨old, he⟩, ⟨o, ho, hc, hd⟩, _⟩ := st
    have e' : b = e ∨ b = it := by simpa using hb
    rcases e' with z | z
    · rw [z]; exact ⟨_, he, fun v q => nomatch q⟩
    · rw [z]; exact ⟨o, ho, fun v q => by rw [hd] at q; cases q⟩
  keep := fun i h h' st k => let ⟨⟨old, he⟩, hi, hne⟩ := st; ⟨⟨old, k e (by simp) _ he⟩, hi.at fun o q => k it (by simp) o q, hne⟩
  item := by
    intro X hP hw hK hc i pins s σ H E I hf st hg
    subst hP hw hK
    obtain ⟨⟨old, he⟩, hit, hne⟩ := st
    obtain ⟨xs, x, hq, hx⟩ := hg
    obtain ⟨its, rv, p, hz⟩ := I.tuple hq
    have p : s.heap.IsTuple a its.toArray := p
    obtain ⟨u, hu, ru⟩ := rv.get hx
    have hel : e < s.heap.objs.size := Heap.lt_size he
    have hil : it < s.heap.objs.size := by obtain ⟨_, q, _⟩ := hit; exact Heap.lt_size q
    have ilt : i < its.toArray.size := by
      have := (List.getElem?_eq_some_iff.mp hu).1
      simpa using this
    refine wpAny_pyNext_enum_itemD (Draws.tuple (prog := X.prog) (w := X.w) (A := X.A.in1) (I.ok.hd hc) it a (iter_ne hit p) its.toArray) he ⟨hit, p⟩ ilt hne (by simp [hne, enum_neT he p]) fun x' h' tk hP ho hst hT hsz hk => ?_
    have xu : x' = u := by
      have hP : its.toArray[i]? = some x' := hP
      rw [List.getElem?_toArray, hu] at hP
      cases hP
      rfl
    subst xu
    obtain ⟨hit', p'⟩ := hst
    refine ⟨_, rfl, wpAny_letOwnedTupleGo_enum (s := { s with heap := h', toks := tk + 1 }) ho fun h'' he' sb => ?_⟩
    have hT2 : h''.get? s.heap.objs.size = some { cls := .type "tuple", data := .seq #[.int i tk, x'] } := (sb.2 _ (Nat.ne_of_gt hel)).trans hT
    have new : ObjOk X.prog X.w (upd H s.heap.objs.size (.tup [.int (i : Nat), x])) h'' s.heap.objs.size (.tup [.int (i : Nat), x]) :=
      ⟨by show 2 ≤ sizeLine; decide, [.int i tk, x'], .cons ⟨_, rfl⟩ (.cons ru .nil), ⟨_, hT2, rfl, _, rfl⟩⟩
    have I1 : Inv X pins σ (upd H s.heap.objs.size (.tup [.int (i : Nat), x])) { s with heap := h'', toks := tk + 1 } :=
      I.turnedNew (ch := [e, it]) (fun b ob hb q => (sb.2 b (fun z => hb (by simp [z]))).trans (hk b ob (fun z => hb (by simp [z])) (fun z => hb (by simp [z])) q)) hf (Nat.le_refl _) new
    refine ⟨.ref s.heap.objs.size, _, I1, rfl, ⟨_, x, rfl, I.hok.fresh (Nat.le_refl _), rfl, fun ys hy => by rw [I.tuple_inj hy hq]; exact hx⟩, ⟨⟨x', ?_⟩, hit'.at fun o q => (sb.2 it (Ne.symm hne)).trans q, hne⟩, fun b hb => ?_⟩
    · have e1 : ((i + 1 : Nat) : Int) = (i : Int) + 1 := by omega
      rw [e1]; exact he'
    · have hb' : b < s.heap.objs.size := by
        have e' : b = e ∨ b = it := by simpa using hb
        rcases e' with z | z
        · rw [z]; exact hel
        · rw [z]; exact hil
      rw [upd_ne (Nat.ne_of_lt hb')]
      exact (hf b hb).1
  done := by
    intro X hP hw hK hc i pins s σ H E I hf st hg
    subst hP hw hK
    obtain ⟨⟨old, he⟩, hit, hne⟩ := st
    obtain ⟨xs, hq, hx⟩ := hg
    obtain ⟨its, rv, p, hz⟩ := I.tuple hq
    have p : s.heap.IsTuple a its.toArray := p
    obtain ⟨f0, f1, f2, f3, f4, f5⟩ := hf it (by simp)
    have hl := rv.length
    have hT : s.TypeIs (.ref e) "enumerate" := ⟨_, he, rfl⟩
    unfold pyNext
    refine wpAny_bind (wpAny_attempt (wpAny_callSpecial?_slot (name := Str.ofString "__next__") hT F.slot_enumerate_next
      (wpAny_call_entry F.slot_enumerate_next hT F.entry_enumerate_next ?_ (F.args_enumerate_next_1 _))))
    show wpAny _ _ (field (.ref e) 2 >>= _) _ _ _
    refine wpAny_bind (wpAny_field he rfl (x := .ref it) rfl ?_)
    refine wpAny_bind (wpAny_nextOf_tuple_end (I.ok.hd hc) hit p (by simp; omega) fun h' x he' hx' => ?_)
    obtain ⟨o, ho, hc⟩ := hx'
    refine wpAny_bind (wpAny_isInstance (T := "StopIteration") (b := true) ⟨o, ho, hc⟩ isSubtype_stop ?_)
    exact wpAny_pure ⟨rfl, I.turned (t' := s.toks) (fun b o hb q => he' b o hb q) f0 f1 f3 f4 f5⟩
  self := fun A i s Q E st h => let ⟨⟨_, he⟩, _⟩ := st; wpAny_pyIter_enum he h
def iEnumT (K : PySem.W.Frag) (ta : TA) : TI := fun σ H R => ta σ H fun vs H1 => ∃ a xs, vs = [.ref a] ∧ SqT K H1 a xs ∧ R (IteT K a) H1
theorem pi_enumT {X : Cx} {e : Expr} {ta : TA} {p pos tpos : Pos} {elts : List Expr} {kk : Nat} (hg : Gl X "enumerate") (hm : X.mg "enumerate" = none) (ha : PA X [e] ta) (hs : starEach [e] X.env = [(false, eval e X.env)] := by rfl) :
    PI X (.Tuple elts kk tpos) (.Call (.Name "enumerate" p) [e] [] pos) (iEnumT X.K ta) := by
  refine ⟨fun pins s σ H R I h => ?_⟩
  refine Call_ (ld_blt I hg hm boot_enumerate (PyProof.Rows.callWith_type1 (thn (ha.run pos pins s σ H _ I h) fun us s1 ⟨vs, H1, I1, r1, q1⟩ => ?_) hs rfl))
  obtain ⟨a, xs, ex, hq, q⟩ := q1
  subst ex
  cases r1 with
  | cons r rr =>
    cases rr
    cases r
    obtain ⟨its, rv, p', hz⟩ := I1.tuple hq
    refine own_enum_begins (begins_tuple a its.toArray) (show s1.heap.IsTuple a its.toArray from p') fun h' he hit hsz hk => wpAny_pyIter_enum he ?_
    have I2 : Inv X pins σ H1 { s1 with heap := h' } := I1.kept (t' := s1.toks) hk
    refine ⟨s1.heap.objs.size + 1, [s1.heap.objs.size + 1, s1.heap.objs.size], _, _, H1, rfl, I2, turn_enumT a (s1.heap.objs.size + 1) s1.heap.objs.size, ⟨⟨.none, he⟩, ⟨_, hit, rfl, rfl⟩, Nat.succ_ne_self _⟩, fun b hb => ?_, q⟩
    have e' : b = s1.heap.objs.size + 1 ∨ b = s1.heap.objs.size := by simpa using hb
    have hle : s1.heap.objs.size ≤ b := by
      rcases e' with z | z
      · rw [z]; exact Nat.le_add_right _ _
      · rw [z]; exact Nat.le_refl _
    exact I1.fpOk hle (I1.hok.fresh hle)
theorem walk_enumT {K : PySem.W.Frag} {a : Addr} {xs : List V} : Walk (IteT K a) xs.length (fun H => SqT K H a xs) (YPair (fun i => some (.int (i : Nat))) (fun i => xs[i]?)) := by
  refine ⟨fun i _ hi q => ⟨xs, xs[i], q, by simp [hi]⟩, fun _ q => ⟨xs, q, Nat.le_refl _⟩, fun i H v H' _ q y => ?_⟩
  obtain ⟨T, x, h1, h2, h3, h4⟩ := y
  exact ⟨T, .int (i : Nat), x, h1, h2, h3, rfl, h4 xs q⟩
theorem dc_it {J : It} {n : Nat} {G : Hp → Prop} {Y : Nat → Hp → V → Hp → Prop} (w : Walk J n G Y) {g : TG} {tt : TT} {tk tv : TE} {vs : List Nat} {σ : L2.St} {H1 : Hp} {D : Addr} {Qd : Hp → Prop} (Pv : Nat → Hp → Prop) (h0 : Pv 0 (upd H1 D (.dK []))) (hG : ∀ i H, i ≤ n → Pv i H → G H)
    (hs : ∀ i x H H', i < n → Pv i H → Y i H x H' → g x (wipe σ vs) H' fun σ2 H2 => wipe σ2 vs = wipe σ vs ∧ tt σ2 H2 fun b H3 =>
      if b = true then tk σ2 H3 fun y H4 => tv σ2 H4 fun z H5 => ∃ kvs k, y = kV k ∧ H5 D = some (.dK kvs) ∧ kvs.length < sizeLine ∧ Pv (i + 1) (upd H5 D (.dK (putK kvs k z))) else Pv (i + 1) H3) (hd : ∀ H, Pv n H → Qd H) :
    ∃ W : Nat → Nat → Hp → Prop, (∃ m, W 0 m (upd H1 D (.dK []))) ∧ ∀ i m H, W i m H →
      (J.stop i H ∧ Qd H) ∨ (J.go i H ∧ ∃ Nx : Hp → Prop, (∀ H', Nx H' → ∃ m', m' < m ∧ W (i + 1) m' H') ∧ ∀ x H', J.yld i H x H' → g x (wipe σ vs) H' fun σ2 H2 => wipe σ2 vs = wipe σ vs ∧ tt σ2 H2 fun b H3 =>
        if b = true then tk σ2 H3 fun y H4 => tv σ2 H4 fun z H5 => ∃ kvs k, y = kV k ∧ H5 D = some (.dK kvs) ∧ kvs.length < sizeLine ∧ Nx (upd H5 D (.dK (putK kvs k z))) else Nx H3) := by
  refine ⟨fun i m H => m = n - i ∧ i ≤ n ∧ Pv i H, ⟨n, by simp, Nat.zero_le _, h0⟩, ?_⟩
  rintro i m H ⟨rfl, hi, p⟩
  have q := hG i H hi p
  by_cases hlt : i < n
  · exact .inr ⟨w.goes i H hlt q, Pv (i + 1), fun H' p' => ⟨n - (i + 1), by omega, rfl, hlt, p'⟩, fun x H' y => hs i x H H' hlt p (w.yields i H x H' hlt q y)⟩
  · have e : i = n := by omega
    subst e
    exact .inl ⟨w.stops H q, hd H p⟩

theorem sw_trueD {kx vx : Expr} {gs : List Comprehension} {scope : Scope} {pos py : Pos} {y : Str} {l : Nat} {env : Env} (hk : env.scope.kind = .function) (hy : env.scope.names.lookup y = some .local) (hl : (py.line == pos.line) = true)
    (ha : (scope.names.any fun (n, k) => n == y && (k == .local || k == .cell)) = false) : swapsWith (.DictComp kx vx gs scope pos) (some (.Name y py)) l env = pure true := by
  have ky : env.kindOf y = some .local := hy
  have hb : env.blockKind = .function := by unfold Env.blockKind; rw [hk]; rfl
  unfold swapsWith
  simp only [hb, ky, ha, Expr.pos, hl]
  rfl
theorem ps_setDc {X : Cx} {i : Nat} {y : Str} {py : Pos} {kx vx tg iter : Expr} {ifs : List Expr} {scope : Scope} {own : List (Str × Nat)} {pos spos : Pos} {wi : TI} {g : TG} {tt : TT} {tk tv : TE} (hc : X.calm = true) (hN : X.N.Nodup) (hy : X.N[i]? = some y) (hyl : X.env.scope.names.lookup y = some .local)
    (hsw : swapsWith (.DictComp kx vx [⟨tg, iter, ifs, 0⟩] scope pos) (some (.Name y py)) spos.line X.env = pure true) (hi : PI X tg iter wi) (ok : BlkOk X.N X.env.scope scope own)
    (hg : ∀ (s : Shared) (H : Hp) (C : Addr) (cl : List (Str × Addr)) (fp : List Addr), PG (X.blk s H scope (compEnvC scope cl C X.env) fp) tg g) (ht : ∀ (s : Shared) (H : Hp) (C : Addr) (cl : List (Str × Addr)) (fp : List Addr), PTs (X.blk s H scope (compEnvC scope cl C X.env) fp) ifs tt)
    (hk : ∀ (s : Shared) (H : Hp) (C : Addr) (cl : List (Str × Addr)) (fp : List Addr), PE (X.blk s H scope (compEnvC scope cl C X.env) fp) kx tk)
    (he : ∀ (s : Shared) (H : Hp) (C : Addr) (cl : List (Str × Addr)) (fp : List Addr), PE (X.blk s H scope (compEnvC scope cl C X.env) fp) vx tv) (hs : ∀ x, foldedSetIterable iter X.env x = pure x := by intro _; rfl) :
    PS X (.Assign [.Name y py] (.DictComp kx vx [⟨tg, iter, ifs, 0⟩] scope pos) spos) (tAsg (tDc wi g tt tk tv (own.map (·.2))) (gName i)) := by
  refine ⟨fun pins s σ H D I h => ?_⟩
  rw [exec_Assign_Name_used _ _ _ _ hsw]
  refine wpAny_bind (wpAny_standAt (wpAny_bind ?_))
  show wpAny _ X.A (do let _ ← comprehension (.DictComp kx vx [⟨tg, iter, ifs, 0⟩] scope pos) scope X.env (firstIterPos [⟨tg, iter, ifs, 0⟩] pos) newDict false (eval iter X.env) (some (assign (.Name y py) X.env))) _ _ s
  have h : tDc wi g tt tk tv (own.map (·.2)) σ H (fun x H1 => gName i x σ H1 D.nx) := h
  refine wpAny_bind (thn (dc_core (Qf := fun _ s' => SP X pins D .next s') hc hN I hi ok hg ht hk he hs h fun L C s' m H' I' q hn f => ?_) fun _ s' hq => wpAny_pure (wpAny_pure hq))
  show wpAny _ _ (assign (.Name y py) X.env (.ref L)) _ _ _
  refine wpAny_assign_Name (store_ok2 (v := V.ref L) I' hN hy (.inl hyl) rfl (fun s2 I2 ⟨a, sb, ha⟩ => ?_) (.inr hyl))
  obtain ⟨f0, f1, f2, f3, f4, f5⟩ := f
  have haC : C ≠ a := by
    rcases ha with z | z
    · rw [z]; exact f1
    · exact fun e => f4 y a z e.symm
  refine ⟨m, hn.sameBut sb haC, fun h3 sb3 => ?_⟩
  exact ⟨_, H', I2.turned (t' := s2.toks) (fun b o hb e => (sb3.2 b hb).trans e) f0 f1 f3 f4 f5, q⟩
theorem pg_tupK {X : Cx} {K : PySem.W.Frag} {es : List Expr} {k : Nat} {t : TGs} {n : Nat} {pos : Pos} (hK : X.K = K) (hc : X.calm = true) (h : PGs X es t)
    (hn : (assignEach es X.env).length = n := by rfl) (hst : (assignEach es X.env).findIdx? (·.1) = none := by rfl) : PG X (.Tuple es k pos) (gTup K n t) := hK ▸ pg_tup hc h hn hst
end Own
namespace Own
open PySem PySem.Spec PyProof.Rows L2
theorem mt_joinK {X : Cx} {K : PySem.W.Frag} (hK : X.K = K) : MtR X "str.join" (fun x xs H Q => ∃ (a : Str) (p : Addr) (ys : List Str), x = V.str a ∧ xs = [V.ref p] ∧ (SqL K H p (ys.map V.str) ∨ SqT K H p (ys.map V.str)) ∧ (ys.map (·.length)).sum + ys.length * a.length ≤ 16777216 ∧ Q (V.str (Txt.join a ys)) H) := hK ▸ mt_join
theorem erase_perm {α : Type} : ∀ (l : List α) (i : Nat) (h : i < l.length), l.Perm (l[i] :: l.eraseIdx i)
  | x :: l, 0, _ => .refl _
  | x :: l, i + 1, h => by
    have := erase_perm l i (Nat.lt_of_succ_lt_succ h)
    exact (this.cons x).trans (.swap _ _ _)
end Own
set_option Elab.async false
set_option linter.all false
set_option maxRecDepth 100000
set_option maxHeartbeats 4000000
/-! texts of the signs 0 and 1 -/
namespace Own
open PySem PySem.Spec PyProof.Rows L2
theorem takeWhile_all {p : Nat → Bool} : ∀ {l : List Nat}, (∀ c ∈ l, p c = true) → l.takeWhile p = l
  | [], _ => rfl
  | c :: l, h => by
    rw [List.takeWhile_cons, if_pos (h c List.mem_cons_self), takeWhile_all fun d hd => h d (List.mem_cons_of_mem _ hd)]
theorem strip_all {goes : Nat → Bool} {x : Str} (h : ∀ c ∈ x.cps.toList, goes c = true) : Txt.stripBy goes true true x = "" := by
  have lx : x.cps.toList.length = x.length := by simp [Str.length]
  have lo : stripLo goes true x = x.length := by
    unfold stripLo
    rw [if_pos rfl, takeWhile_all h, lx]
  have hi : stripHi goes true x x.length = x.length := by
    unfold stripHi
    rw [if_pos rfl, ← lx, List.drop_length]
    rfl
  unfold Txt.stripBy stripSame
  rw [lo, hi]
  by_cases h0 : x.length = 0
  · rw [h0]
    have : x.cps = #[] := by
      have := h0
      simp only [Str.length, Array.size_eq_zero_iff] at this
      exact this
    have e : x = "" := by
      cases x
      cases this
      rfl
    rw [if_pos (by rfl), e]
  · rw [if_neg (by simp [h0])]
    unfold stripped
    rw [lo, hi]
    unfold Builtin.Str.strSub
    have e : x.cps.extract x.length x.length = #[] := Array.extract_empty_of_stop_le_start (Nat.le_refl _)
    rw [e]
    rfl
/-- of the signs 0 and 1 alone -/
def Sg (z : Str) : Prop := ∀ c ∈ z.cps.toList, c = 48 ∨ c = 49
theorem Sg.strip {z : Str} (h : Sg z) : Txt.stripChars z "01" = "" := strip_all fun c hc => by
  rcases h c hc with rfl | rfl <;> decide +kernel
theorem Sg.name {z : Str} (h : Sg z) (h1 : 1 ≤ z.length) (h2 : z.length ≤ 60) : nameB (.str z) = true := by
  show (decide ((1 : Int) ≤ z.length) && (decide ((z.length : Int) ≤ 60) && decide (Txt.stripChars z "01" = ""))) = true
  rw [h.strip]
  simp only [Bool.and_eq_true, decide_eq_true_eq]
  exact ⟨by omega, by omega, trivial⟩
end Own
namespace Own
open PySem PySem.Spec PyProof.Rows L2
theorem joinL_nil : ∀ ys : List (List Nat), TL.joinL [] ys = ys.flatten
  | [] => rfl
  | [p] => by simp [TL.joinL]
  | p :: q :: r => by
    have ih := joinL_nil (q :: r)
    show p ++ ([] ++ TL.joinL [] (q :: r)) = _
    rw [ih, List.nil_append]
    simp
theorem join_empty (ys : List Str) : Txt.join "" ys = SX.S ((ys.map fun y => y.cps.toList).flatten) := by
  have h := SX.join_S [] (ys.map fun y => y.cps.toList)
  rw [joinL_nil] at h
  have e : (ys.map fun y => y.cps.toList).map SX.S = ys := by
    rw [List.map_map]
    conv => rhs; rw [← List.map_id ys]
    exact List.map_congr_left fun y _ => SX.S_tl y
  rw [e] at h
  exact h
/-- one sign each -/
theorem join_signs : ∀ {ys : List Str}, (∀ y ∈ ys, y = "0" ∨ y = "1") → (Txt.join "" ys).length = ys.length ∧ Sg (Txt.join "" ys) := by
  intro ys h
  rw [join_empty]
  have key : ∀ ys : List Str, (∀ y ∈ ys, y = "0" ∨ y = "1") → ((ys.map fun y => y.cps.toList).flatten).length = ys.length ∧ ∀ c ∈ (ys.map fun y => y.cps.toList).flatten, c = 48 ∨ c = 49 := by
    intro ys
    induction ys with
    | nil => intro _; exact ⟨rfl, fun c hc => by cases hc⟩
    | cons y ys ih =>
      intro h
      obtain ⟨a, b⟩ := ih fun z hz => h z (List.mem_cons_of_mem _ hz)
      have e : y.cps.toList = [48] ∨ y.cps.toList = [49] := by
        rcases h y List.mem_cons_self with rfl | rfl
        · exact .inl (by decide +kernel)
        · exact .inr (by decide +kernel)
      rw [List.map_cons, List.flatten_cons]
      rcases e with e | e <;> rw [e]
      · exact ⟨by simp [a], fun c hc => by rcases List.mem_cons.mp hc with rfl | hc; exact .inl rfl; exact b c hc⟩
      · exact ⟨by simp [a], fun c hc => by rcases List.mem_cons.mp hc with rfl | hc; exact .inr rfl; exact b c hc⟩
  obtain ⟨a, b⟩ := key ys h
  exact ⟨by rw [SX.S_len]; exact a, by simpa [Sg] using b⟩
end Own
set_option Elab.async false
set_option linter.all false
set_option maxRecDepth 100000
set_option maxHeartbeats 4000000
/-! how long what repr writes is -/
namespace Own
open PySem PySem.Spec PyProof.Rows L2
section
variable {K : PySem.W.Frag}
/-- what is written of such data -/
structure Sh (n l : Nat) (d : PyData) : Prop where
  s : d.showable = true
  h : d.hasDict = false
  n : d.depth ≤ n
  l : d.shown.length ≤ l
theorem Sh.mono {n l n' l' : Nat} {d : PyData} (h : Sh n l d) (a : n ≤ n') (b : l ≤ l') : Sh n' l' d := ⟨h.s, h.h, Nat.le_trans h.n a, Nat.le_trans h.l b⟩
theorem Sh.list {n l : Nat} : ∀ {ds : List PyData}, (∀ d ∈ ds, Sh n l d) → PyData.showableAll ds = true ∧ PyData.hasDictAll ds = false ∧ PyData.depthAll ds ≤ n ∧ ((PyData.shownAll ds).map (·.length)).sum ≤ ds.length * l ∧ (PyData.shownAll ds).length = ds.length
  | [], _ => by simp [PyData.showableAll, PyData.hasDictAll, PyData.depthAll, PyData.shownAll]
  | d :: ds, h => by
    obtain ⟨a1, a2, a3, a4, a5⟩ := Sh.list (n := n) (l := l) (ds := ds) fun x hx => h x (List.mem_cons_of_mem _ hx)
    have hd := h d List.mem_cons_self
    refine ⟨by simp [PyData.showableAll, hd.s, a1], by simp [PyData.hasDictAll, hd.h, a2], ?_, ?_, by simp [PyData.shownAll, a5]⟩
    · simp only [PyData.depthAll]
      have := hd.n
      omega
    · simp only [PyData.shownAll, List.map_cons, List.sum_cons, List.length_cons]
      have := hd.l
      rw [Nat.succ_mul]
      omega
theorem Sh.lst {n l k : Nat} {ds : List PyData} (h : ∀ d ∈ ds, Sh n l d) (hk : ds.length ≤ k) : Sh (n + 1) (k * l + 2 * k + 3) (.list ds) := by
  obtain ⟨a1, a2, a3, a4, a5⟩ := Sh.list h
  refine ⟨by simpa [PyData.showable] using a1, by simpa [PyData.hasDict] using a2, by simp only [PyData.depth]; omega, ?_⟩
  simp only [PyData.shown]
  have := listText_len_le (PyData.shownAll ds)
  rw [a5] at this
  have b := Nat.mul_le_mul_right l hk
  omega
theorem paired_mem {α β : Type} {F : α → β → Prop} : ∀ {xs : List α} {ys : List β}, Paired F xs ys → ∀ y ∈ ys, ∃ x, F x y
  | _, _, .cons a r, y, hy => by
    rcases List.mem_cons.mp hy with e | e
    · subst e
      exact ⟨_, a⟩
    · exact paired_mem r y e

theorem Sh.two {d e : PyData} (hd : Sh 0 50 d) (he : Sh 0 50 e) : Sh 1 200 (.tuple [d, e]) := by
  refine ⟨by simp [PyData.showable, PyData.showableAll, hd.s, he.s], by simp [PyData.hasDict, PyData.hasDictAll, hd.h, he.h], ?_, ?_⟩
  · have := hd.n
    have := he.n
    simp only [PyData.depth, PyData.depthAll]
    omega
  · have h1 := hd.l
    have h2 := he.l
    simp only [PyData.shown, PyData.shownAll]
    have := tupleText_len_le [d.shown, e.shown]
    simp at this
    omega
theorem sh_int {i : Int} (h : i.natAbs < 10 ^ 21) : Sh 0 50 (.int i) := by
  refine ⟨?_, by simp [PyData.hasDict], by simp [PyData.depth], ?_⟩
  · have : i.natAbs < 2 ^ 80 := by omega
    have := PySem.Flt.log2_lt_of (by decide) this
    simp only [PyData.showable, decide_eq_true_eq]
    omega
  · simp only [PyData.shown]
    rw [show (Str.ofString (toString i)).length = (toString i).length from PySem.ofString_length _]
    have := int_text_length_le10 (a := i) (k := 21) (by decide) h
    omega
theorem ne_rep {te1 te2 : TE} {σ : L2.St} {H : Hp} {R : Bool → Hp → Prop} (h : te1 σ H fun x H1 => rRepr K [x] H1 fun y H2 => te2 σ H2 fun z H3 => rRepr K [z] H3 fun u H4 => rNe y u H4 (fun b H5 => ∃ k, b = .bl k ∧ R k H5)) :
    tTest (tOp rNe (tCB (rRepr K) (tCons te1 tNil)) (tCB (rRepr K) (tCons te2 tNil))) σ H R := h
theorem nx_in {D : Ends} {σ : L2.St} {H : Hp} (h : D.nx σ H) : tNext D σ H := h
theorem ret_eq {te1 te2 tb : TE} {σ : L2.St} {H : Hp} {D : Ends} (h : te1 σ H fun x H1 => rRepr K [x] H1 fun y H2 => te2 σ H2 fun z H3 => rRepr K [z] H3 fun u H4 => rEq y u H4 (fun b H5 => ∃ c, b = .bl c ∧ if c = true then tb σ H5 D.rt else D.rt (.bl false) H5)) :
    tRet (tAndV (tOp rEq (tCB (rRepr K) (tCons te1 tNil)) (tCB (rRepr K) (tCons te2 tNil))) tb) D σ H := h
theorem rep_bl {b : Bool} {H : Hp} {Q : VK} (q : Q (.str (PyData.bool b).shown) H) : rRepr K [.bl b] H Q :=
  ⟨.bl b, .bool b, rfl, .bl b, by simp [PyData.showable], by simp [PyData.hasDict], by simp [PyData.depth], by simp only [PyData.shown]; cases b <;> decide, q⟩

theorem Sh.tup {n l k : Nat} {ds : List PyData} (h : ∀ d ∈ ds, Sh n l d) (hk : ds.length ≤ k) : Sh (n + 1) (k * l + 2 * k + 3) (.tuple ds) := by
  obtain ⟨a1, a2, a3, a4, a5⟩ := Sh.list h
  refine ⟨by simpa [PyData.showable] using a1, by simpa [PyData.hasDict] using a2, by simp only [PyData.depth]; omega, ?_⟩
  simp only [PyData.shown]
  have := tupleText_len_le (PyData.shownAll ds)
  rw [a5] at this
  have b := Nat.mul_le_mul_right l hk
  omega
theorem sh_non : Sh 0 50 .none := ⟨by simp [PyData.showable], by simp [PyData.hasDict], by simp [PyData.depth], by simp only [PyData.shown]; decide⟩
theorem rep_of {x : V} {d : PyData} {n l : Nat} {H : Hp} {Q : VK} (hd : Dp K H x d) (s : Sh n l d) (hn : n ≤ 60) (hl : l ≤ 2 ^ 24) (q : Q (.str d.shown) H) : rRepr K [x] H Q :=
  ⟨x, d, rfl, hd, s.s, s.h, Nat.le_trans s.n hn, Nat.le_trans s.l hl, q⟩
theorem dp_rows {H : Hp} : ∀ row : List Nat, DpAll K H (row.map fun (i : Nat) => V.int i) (row.map fun (i : Nat) => PyData.int i)
  | [] => .nil
  | i :: row => .cons (.int _) (dp_rows row)
theorem sh_row {row : List Nat} (h : ∀ i ∈ row, i < 10 ^ 20) (hl : row.length ≤ 2000) : Sh 1 (2000 * 50 + 2 * 2000 + 3) (.tuple (row.map fun (i : Nat) => PyData.int i)) := by
  refine Sh.tup (fun d hd => ?_) (by rw [List.length_map]; exact hl)
  obtain ⟨i, hi, rfl⟩ := List.mem_map.mp hd
  have := h i hi
  exact sh_int (by rw [Int.natAbs_natCast]; omega)
end
end Own
set_option Elab.async false
set_option linter.all false
set_option maxRecDepth 100000
set_option maxHeartbeats 4000000
namespace K18
open PySem PySem.Spec PyProof.Rows L2 Own
theorem S_tl2 (l : List Nat) : (SX.S l).cps.toList = l := by
  show (List.toArray l).toList = l
  rw [List.toList_toArray]
theorem str_ext {a b : Str} (h : a.cps.toList = b.cps.toList) : a = b := by
  rw [← SX.S_tl a, ← SX.S_tl b, h]
theorem tl_app (a b : Str) : (a ++ b).cps.toList = a.cps.toList ++ b.cps.toList := by rw [Str.cps_append, Array.toList_append]
theorem tl_0 : ("0" : Str).cps.toList = [48] := by decide +kernel
theorem tl_1 : ("1" : Str).cps.toList = [49] := by decide +kernel
theorem nx_in {D : Ends} {σ : L2.St} {H : Hp} (h : D.nx σ H) : tNext D σ H := h
abbrev cod (zs : List Str) : List (List Nat) := zs.map fun z => z.cps.toList
theorem tl_len (z : Str) : z.cps.toList.length = z.length := by simp [Str.length]
def spNames : Sp := fun vs H Q _ => ∃ (p q : Addr) (cs : List Int) (n : Nat), vs = [.ref p] ∧ n ≤ 40000 ∧ cs.length ≤ 1000 ∧ Sv p q cs n H ∧
  ∀ l zs H', H l = none → H' l = some (.lst (zs.map V.str)) → zs.length = 8 → Tr (cod zs) → But p H H' → Sv p q cs (n + 60) H' → Q (.ref l) H'
section
variable {P : Program} {w : World} {K : PySem.W.Frag} {mg : Str → Option Value} {base : Heap}
theorem free_of {p : Addr} {H H' : Hp} (b : But p H H') (hp : H' p ≠ none) {a : Addr} (h : H' a = none) : H a = none := by
  cases e : H a with
  | none => rfl
  | some o =>
    by_cases q : a = p
    · subst q
      exact absurd h hp
    · rw [b a o q e] at h
      cases h
theorem sv_is {p q : Addr} {cs : List Int} {n : Nat} {H : Hp} (s : Sv p q cs n H) : H p ≠ none := by
  obtain ⟨_, _, h, _⟩ := s
  rw [h]
  exact fun z => by cases z
theorem str_ne {b c : Str} : (!decide (V.str b = V.str c)) = !decide (b = c) := by
  congr 1
  rw [decide_eq_decide]
  exact ⟨fun z => by injection z, fun z => by rw [z]⟩
theorem dpAll_tx {H : Hp} : ∀ zs : List Str, DpAll K H (zs.map V.str) (zs.map PyData.str)
  | [] => .nil
  | z :: zs => .cons (.str z) (dpAll_tx zs)
theorem sg_ok {z : Str} (h : Sg z) : PyData.strOk z = true := by
  unfold PyData.strOk
  rw [← Array.all_toList, List.all_eq_true]
  intro c hc
  rcases h c hc with rfl | rfl <;> decide
theorem canLay_tx : ∀ zs : List Str, (∀ z ∈ zs, Sg z) → PyData.canLayAll0 (zs.map PyData.str) = true
  | [], _ => by simp [PyData.canLayAll0]
  | z :: zs, h => by
    have := canLay_tx zs fun y hy => h y (List.mem_cons_of_mem _ hy)
    simp [PyData.canLayAll0, PyData.canLay0, this, sg_ok (h z List.mem_cons_self)]
theorem depth_tx : ∀ zs : List Str, PyData.depthAll (zs.map PyData.str) = 0
  | [] => by simp [PyData.depthAll]
  | z :: zs => by
    have := depth_tx zs
    simp [PyData.depthAll, PyData.depth, this]
theorem shaped_tx {zs : List Str} (h : ∀ z ∈ zs, Sg z) : SeqAt.shaped (.list (zs.map PyData.str)) = true := by
  unfold SeqAt.shaped
  simp [PyData.canLay0, PyData.depth, canLay_tx zs h, depth_tx]
theorem ne_nil {H : Hp} {a b : Addr} {zs : List Str} {Q : VK} (hg : ∀ z ∈ zs, Sg z) (ha : H a = some (.lst (zs.map V.str))) (hb : H b = some (.lst [])) (q : Q (.bl (!zs.isEmpty)) H) : rNeD K (.ref a) (.ref b) H Q := by
  refine ⟨_, .list [], .lst (SqL.of ha) (dpAll_tx zs), .lst (SqL.of hb) .nil, shaped_tx hg, by decide, ?_⟩
  have e : PyData.eqv (.list (zs.map PyData.str)) (.list []) = zs.isEmpty := by
    cases zs with
    | nil => rfl
    | cons z zs => rfl
  rw [e]
  exact q
theorem map_er {α β : Type} (f : α → β) : ∀ (l : List α) (i : Nat), (l.eraseIdx i).map f = (l.map f).eraseIdx i
  | [], _ => by simp
  | _ :: _, 0 => by simp
  | x :: l, i + 1 => by
    rw [List.eraseIdx_cons_succ, List.map_cons, List.map_cons, List.eraseIdx_cons_succ, map_er f l i]
theorem ix_of {n : Nat} {i : Int} (h0 : 0 ≤ i) (h1 : i < n) : seqIndex? i n = some i.toNat := by
  refine (ixN_seq ?_).1
  unfold ixN
  rw [if_pos h0, if_pos h1]
theorem sg_app {a b : Str} (ha : Sg a) (hb : Sg b) : Sg (a ++ b) := by
  intro c hc
  rw [Str.cps_append, Array.toList_append] at hc
  rcases List.mem_append.mp hc with h | h
  · exact ha c h
  · exact hb c h
theorem pre_cut2 {b z : Str} (hb : b.length ≤ 60) : decide (V.str (cutS z none (some ((b.length : Nat) : Int))) = V.str b) = decide (b.cps.toList <+: z.cps.toList) := by
  rw [decide_eq_decide]
  have a2 : HT.sIx z.length z.length (some ((b.length : Nat) : Int)) = min b.length z.length := by
    show (if ((b.length : Nat) : Int) < 0 then (((b.length : Nat) : Int) + (z.length : Int)).toNat else min (b.length : Int).toNat z.length) = _
    rw [if_neg (by omega), Int.toNat_natCast]
  have e : (cutS z none (some ((b.length : Nat) : Int))).cps.toList = z.cps.toList.take b.length := by
    have : cutS z none (some ((b.length : Nat) : Int)) = SX.S ((z.cps.toList.drop 0).take (min b.length z.length - 0)) := by
      unfold cutS
      rw [a2]
      rfl
    rw [this, S_tl2, List.drop_zero, Nat.sub_zero]
    by_cases h : b.length ≤ z.length
    · rw [Nat.min_eq_left h]
    · rw [Nat.min_eq_right (by omega), List.take_of_length_le (by rw [tl_len]; exact Nat.le_refl _), List.take_of_length_le (by rw [tl_len]; omega)]
  rw [List.prefix_iff_eq_take, tl_len]
  constructor
  · intro h
    injection h with h
    rw [← e, h]
  · intro h
    rw [str_ext (e.trans h.symm)]
theorem move_perm {zs fs : List Str} {i : Nat} (hi : i < zs.length) : (zs ++ fs).Perm (zs.eraseIdx i ++ (fs ++ [zs[i]])) := by
  have p1 : zs.Perm (zs[i] :: zs.eraseIdx i) := erase_perm zs i hi
  refine (p1.append_right fs).trans ?_
  rw [← List.append_assoc]
  exact (List.perm_append_singleton _ _).symm
theorem tr_sg {zs : List Str} (h : Tr (cod zs)) : ∀ z ∈ zs, Sg z := fun z hz => h.sg _ (List.mem_map.mpr ⟨z, hz, rfl⟩)
theorem tr_hi {zs : List Str} (h : Tr (cod zs)) : ∀ z ∈ zs, z.length ≤ 8 := fun z hz => by
  have := h.hi _ (List.mem_map.mpr ⟨z, hz, rfl⟩)
  rw [tl_len] at this
  exact this
theorem cod_filter {zs : List Str} {z : Str} : cod (zs.filter fun y => decide (y ≠ z)) = (cod zs).filter fun t => decide (t ≠ z.cps.toList) := by
  unfold cod
  rw [List.filter_map]
  congr 1
  refine List.filter_congr fun y _ => ?_
  show decide (y ≠ z) = decide (y.cps.toList ≠ z.cps.toList)
  rw [decide_eq_decide]
  exact ⟨fun h e => h (str_ext e), fun h e => h (by rw [e])⟩
def W1 (p q : Addr) (cs : List Int) (n : Nat) (fo : Addr) (H : Hp) : Nat → L2.St → Hp → Prop := fun m σ' H' => ∃ (l : Addr) (zs : List Str) (o3 o4 o5 o6 o7 o8 : Option V), m = 8 - zs.length ∧ σ' = [some (.ref p), some (.ref l), some (.ref fo), o3, o4, o5, o6, o7, o8] ∧ But p H H' ∧ Sv p q cs (n + zs.length) H' ∧ H l = none ∧
  H' l = some (.lst (zs.map V.str)) ∧ l ≠ fo ∧ 1 ≤ zs.length ∧ zs.length ≤ 8 ∧ Tr (cod zs) ∧ sh8 (cod zs) = 256 ∧ H' fo = some (.lst [])
def W2 (p q : Addr) (cs : List Int) (n : Nat) (fo : Addr) (H : Hp) : L2.St → Hp → Prop := fun σ' H' => ∃ (l : Addr) (zs : List Str) (o3 o4 o5 o6 o7 o8 : Option V), σ' = [some (.ref p), some (.ref l), some (.ref fo), o3, o4, o5, o6, o7, o8] ∧ But p H H' ∧ Sv p q cs n H' ∧ H l = none ∧
  H' l = some (.lst (zs.map V.str)) ∧ l ≠ fo ∧ zs.length = 8 ∧ Tr (cod zs) ∧ H' fo = some (.lst [])
theorem cutS_take {z : Str} {i : Int} (h : 0 ≤ i) : (cutS z none (some i)).cps.toList = z.cps.toList.take i.toNat := by
  have a2 : HT.sIx z.length z.length (some i) = min i.toNat z.length := by
    show (if i < 0 then (i + (z.length : Int)).toNat else min i.toNat z.length) = _
    rw [if_neg (by omega)]
  have : cutS z none (some i) = SX.S ((z.cps.toList.drop 0).take (min i.toNat z.length - 0)) := by
    unfold cutS
    rw [a2]
    rfl
  rw [this, S_tl2, List.drop_zero, Nat.sub_zero]
  by_cases h : i.toNat ≤ z.length
  · rw [Nat.min_eq_left h]
  · rw [Nat.min_eq_right (by omega), List.take_of_length_le (by rw [tl_len]; exact Nat.le_refl _), List.take_of_length_le (by rw [tl_len]; omega)]
theorem cutS_drop {z : Str} {i : Nat} : (cutS z (some ((i : Nat) : Int)) none).cps.toList = z.cps.toList.drop i := by
  have a2 : HT.sIx z.length 0 (some ((i : Nat) : Int)) = min i z.length := by
    show (if ((i : Nat) : Int) < 0 then (((i : Nat) : Int) + (z.length : Int)).toNat else min ((i : Nat) : Int).toNat z.length) = _
    rw [if_neg (by omega), Int.toNat_natCast]
  have : cutS z (some ((i : Nat) : Int)) none = SX.S ((z.cps.toList.drop (min i z.length)).take (z.length - min i z.length)) := by
    unfold cutS
    rw [a2]
    rfl
  rw [this, S_tl2, List.take_of_length_le (by rw [List.length_drop, tl_len]; exact Nat.le_refl _)]
  by_cases h : i ≤ z.length
  · rw [Nat.min_eq_left h]
  · rw [Nat.min_eq_right (by omega), List.drop_eq_nil_of_le (by rw [tl_len]; exact Nat.le_refl _), List.drop_eq_nil_of_le (by rw [tl_len]; omega)]
/-- a sign put in -/
def putZ (hd : Str) (c : Nat) (y : Str) : Str := if hd.cps.toList <+: y.cps.toList then hd ++ ⟨#[c]⟩ ++ cutS y (some ((hd.length : Nat) : Int)) none else y
theorem cod_put {hd : Str} {c : Nat} {zs : List Str} : cod (zs.map (putZ hd c)) = (cod zs).map (putS hd.cps.toList c) := by
  unfold cod
  rw [List.map_map, List.map_map]
  refine List.map_congr_left fun y _ => ?_
  show (putZ hd c y).cps.toList = putS hd.cps.toList c y.cps.toList
  unfold putZ putS
  by_cases h : hd.cps.toList <+: y.cps.toList
  · rw [if_pos h, if_pos h, tl_app, tl_app, cutS_drop, tl_len]
  · rw [if_neg h, if_neg h]
def W3 (p q : Addr) (cs : List Int) (n : Nat) (fo : Addr) (H : Hp) : Nat → L2.St → Hp → Prop := fun m σ' H' => ∃ (l : Addr) (zs fs : List Str) (o3 o4 o5 o6 o7 o8 : Option V), m = zs.length ∧ σ' = [some (.ref p), some (.ref l), some (.ref fo), o3, o4, o5, o6, o7, o8] ∧ But p H H' ∧ Sv p q cs (n + 40 + fs.length) H' ∧ H l = none ∧
  H' l = some (.lst (zs.map V.str)) ∧ l ≠ fo ∧ zs.length + fs.length = 8 ∧ Tr (cod (zs ++ fs)) ∧ H' fo = some (.lst (fs.map V.str))
theorem ok_names {f : Addr} {fd : FuncData} (F : Fun K "_law_names" "_law_names" s__law_names f fd) (T : Txt mg) (C__law_fill : Cal P w K mg base 1 "_law_fill" ["sink", "many"] spSift) (C__law_pick : Cal P w K mg base 2 "_law_pick" ["sink", "some"] spOne) : FnOk P w K mg base CX0 3 f fd ["sink"] spNames := by
  refine F.ok sc__law_names (fun vs H Q E h => ?_) (fun cdv A outer s H vs Q E hr h => ?_)
  · obtain ⟨p, q, cs, n, rfl, _⟩ := h
    rfl
  · obtain ⟨p, q, cs, n, rfl, hn, hc, sv, k⟩ := h
    refine ⟨_, (pss_cons (ps_par (i := 1) (j := 2) rfl sc__law_names.nd rfl rfl (by decide) rfl rfl (pa_cons (pe_lst (pa_cons pe_str pa_nil)) (pa_cons (pe_lst pa_nil) pa_nil)) rfl)
  (pss_cons (ps_while PassesOwn.never (pt_cmpR op_lt (pe_callB call_len_seq (by rfl) T.b_len boot_len (pa_cons (pv 1) pa_nil)) pe_int (nomark _))
  (pss_cons (ps_setLc (i := 4) (own := [("name", 3)]) (g := gName 3) rfl sc__law_names.nd rfl rfl (sw_true rfl rfl rfl (by decide +kernel)) (pi_list (pv 1)) (blkOk_by (own := [("name", 3)]) (N := N__law_names) (sc := defScope s__law_names) (by decide +kernel)) (fun _ _ _ _ _ => (pg_name (i := 3) sc__law_names.nd rfl (Or.inl rfl))) (fun _ _ _ _ _ => (pts_one (pt_cmpR op_lt (pe_callB call_len_str (by rfl) T.b_len boot_len (pa_cons (pv 3) pa_nil)) pe_int (nomark _)))) (fun _ _ _ _ _ => (pv 3)))
  (pss_cons (ps_set (i := 3) sc__law_names.nd rfl (Or.inr rfl) (pe_ix ix_list (pv 4) (pe_cal C__law_fill (hr.mono (by decide)) (pa_cons (pv 0) (pa_cons (pe_callB call_len_seq (by rfl) T.b_len boot_len (pa_cons (pv 4) pa_nil)) pa_nil))) (fun _ _ => rfl)))
  (pss_one (ps_set (i := 1) sc__law_names.nd rfl (Or.inl rfl) (pe_op op_cat (pe_lc (own := [("other", 8)]) (g := gName 8) rfl sc__law_names.nd (pi_list (pv 1)) (blkOk_by (own := [("other", 8)]) (N := N__law_names) (sc := defScope s__law_names) (by decide +kernel)) (fun _ _ _ _ _ => (pg_name (i := 8) sc__law_names.nd rfl (Or.inl rfl))) (fun _ _ _ _ _ => (pts_one (pt_cmpR op_ne (pv 8) (pv 3) (nomark _)))) (fun _ _ _ _ _ => (pv 8))) (pe_lst (pa_cons (pe_op op_add_str (pv 3) pe_str) (pa_cons (pe_op op_add_str (pv 3) pe_str) pa_nil)))))))))
  (pss_cons (ps_for PassesOwn.never rfl (pi_range1 rfl T.b_range (pa_cons (pe_cal C__law_pick (hr.mono (by decide)) (pa_cons (pv 0) (pa_cons (pe_lst (pa_cons pe_int (pa_cons pe_int (pa_cons pe_int (pa_cons pe_int (pa_cons pe_int pa_nil)))))) pa_nil))) pa_nil)) (pg_name (i := 5) sc__law_names.nd rfl (Or.inl rfl))
  (pss_cons (ps_asg (pe_tup (pa_cons (pe_ix ix_list (pv 1) (pe_cal C__law_fill (hr.mono (by decide)) (pa_cons (pv 0) (pa_cons pe_int pa_nil))) (fun _ _ => rfl)) (pa_cons (pe_ix ix_str pe_str (pe_cal C__law_fill (hr.mono (by decide)) (pa_cons (pv 0) (pa_cons pe_int pa_nil))) (fun _ _ => rfl)) pa_nil))) (pg_tup rfl (pgs_cons (pg_name (i := 3) sc__law_names.nd rfl (Or.inr rfl)) (pgs_cons (pg_name (i := 6) sc__law_names.nd rfl (Or.inr rfl)) pgs_nil))))
  (pss_cons (ps_set (i := 7) sc__law_names.nd rfl (Or.inr rfl) (pe_slice sl_str (pv 3) po_none (po_some (pe_cal C__law_fill (hr.mono (by decide)) (pa_cons (pv 0) (pa_cons (pe_op op_add (pe_callB call_len_str (by rfl) T.b_len boot_len (pa_cons (pv 3) pa_nil)) pe_int) pa_nil))))))
  (pss_one (ps_if (pt_cmpR op_lt (pe_callB (cr_max rfl) (by rfl) T.b_max boot_max (pa_cons (pe_lc (own := [("other", 8)]) (g := gName 8) rfl sc__law_names.nd (pi_list (pv 1)) (blkOk_by (own := [("other", 8)]) (N := N__law_names) (sc := defScope s__law_names) (by decide +kernel)) (fun _ _ _ _ _ => (pg_name (i := 8) sc__law_names.nd rfl (Or.inl rfl))) (fun _ _ _ _ _ => (pts_one (pt_cmpR op_eq (pe_slice sl_str (pv 8) po_none (po_some (pe_callB call_len_str (by rfl) T.b_len boot_len (pa_cons (pv 7) pa_nil)))) (pv 7) (nomark _)))) (fun _ _ _ _ _ => (pe_callB call_len_str (by rfl) T.b_len boot_len (pa_cons (pv 8) pa_nil)))) pa_nil)) pe_int (nomark _))
  (pss_one (ps_setLc (i := 1) (own := [("other", 8)]) (g := gName 8) (tt := tYes) rfl sc__law_names.nd rfl rfl (sw_true rfl rfl rfl (by decide +kernel)) (pi_list (pv 1)) (blkOk_by (own := [("other", 8)]) (N := N__law_names) (sc := defScope s__law_names) (by decide +kernel)) (fun _ _ _ _ _ => (pg_name (i := 8) sc__law_names.nd rfl (Or.inl rfl))) (fun _ _ _ _ _ => pts_nil) (fun _ _ _ _ _ => (pe_ifExp (pt_cmpR op_eq (pe_slice sl_str (pv 8) po_none (po_some (pe_callB call_len_str (by rfl) T.b_len boot_len (pa_cons (pv 7) pa_nil)))) (pv 7) (nomark _)) (pe_op op_add_str (pe_op op_add_str (pv 7) (pv 6)) (pe_slice sl_str (pv 8) (po_some (pe_callB call_len_str (by rfl) T.b_len boot_len (pa_cons (pv 7) pa_nil))) po_none)) (pv 8)))))
  pss_nil)))))
  (pss_cons (ps_while PassesOwn.never (pt_cmpR (op_neD (hu64 hr)) (pv 1) (pe_lst pa_nil) (nomark _))
  (pss_one (ps_expr (pe_bm PySem.F.plainAttrs_list PySem.F.slot_list_append PySem.F.type_list_append mt_append (pv 2) (pa_cons (pe_bm PySem.F.plainAttrs_list PySem.F.slot_list_pop PySem.F.type_list_pop mt_popAt (pv 1) (pa_cons (pe_cal C__law_fill (hr.mono (by decide)) (pa_cons (pv 0) (pa_cons (pe_callB call_len_seq (by rfl) T.b_len boot_len (pa_cons (pv 1) pa_nil)) pa_nil))) pa_nil)) pa_nil)))))
  (pss_one (ps_ret (pv 2))))))), ?_⟩
    have e0 : ("" : Str).length = 0 := by decide +kernel
    refine ⟨by show 1 ≤ sizeLine; decide, fun l0 hl0 => ?_⟩
    have s1 := same_new (o := HO.lst [V.str ""]) hl0
    have l0a : upd H l0 (HO.lst [V.str ""]) l0 = some (.lst [V.str ""]) := upd_same
    refine ⟨by show 0 ≤ sizeLine; decide, fun fo hfo => ?_⟩
    have foH : H fo = none := s1.free hfo
    have foP : fo ≠ p := sv_ne sv foH
    have lfo : l0 ≠ fo := ne_of_none l0a hfo
    have s2 := same_new (o := HO.lst []) hfo
    have l0b := s2 _ _ l0a
    have fob : upd (upd H l0 (HO.lst [V.str ""])) fo (HO.lst []) fo = some (.lst []) := upd_same
    have s3 := s1.trans s2
    generalize upd (upd H l0 (HO.lst [V.str ""])) fo (HO.lst []) = H1 at s3 l0b fob ⊢
    clear s1 s2 l0a hfo
    refine ⟨_, _, rfl, ?_⟩
    dsimp only
    have tr0 : Tr (cod [""]) := ⟨List.pairwise_singleton _ _, fun z hz => by rw [List.mem_singleton.mp hz]; decide +kernel, fun z hz c hc => by
      rw [List.mem_singleton.mp hz] at hc
      have : c ∈ ([] : List Nat) := hc
      cases this⟩
    refine ⟨W1 p q cs n fo H, ⟨_, l0, [""], _, _, _, _, _, _, rfl, rfl, Same.but s3, (sv.same s3).mono (by omega), hl0, l0b, lfo, by decide, by decide, tr0, by decide +kernel, fob⟩, ?_⟩
    clear l0b fob s3 lfo hl0 tr0
    rintro m σ' H2 ⟨l, zs, o3, o4, o5, o6, o7, o8, rfl, rfl, b2, sv2, lH, hl, lfo, z1, z8, tr, s8, hfo⟩
    have lP : l ≠ p := sv_ne sv lH
    refine ⟨_, rfl, l, _, rfl, .inl (SqL.of hl), _, _, rfl, rfl, _, rfl, ?_⟩
    rw [List.length_map]
    refine ite2 (fun hlt => ⟨fun σ2 H4 => ∃ m', m' < 8 - zs.length ∧ W1 p q cs n fo H m' σ2 H4, fun _ _ h => h, ?_⟩) (fun hge => ?_)
    · have lt8 : zs.length < 8 := by have := of_decide_eq_true hlt; omega
      refine ⟨_, rfl, l, rfl, ⟨_, SqL.of hl⟩, fun D hD => ?_⟩
      refine lc_it (walk_list (K := K) (xs := zs.map V.str)) (fun i H' => Same H2 H' ∧ H' D = some (.lst (((zs.take i).filter fun z => decide (z.length < 8)).map V.str))) ⟨same_new hD, by rw [upd_same]; rfl⟩ (fun i H' _ p => SqL.of (p.1 _ _ hl)) (fun i x H6 H' hi p y => ?_) (fun H6 p => ?_)
      · obtain ⟨s6, hm⟩ := p
        obtain ⟨rfl, hx⟩ := y
        rw [List.getElem?_map] at hx
        obtain ⟨z, hz, rfl⟩ := Option.map_eq_some_iff.mp hx
        have zl : z.length ≤ sizeLine := Nat.le_trans (tr_hi tr z (List.mem_of_getElem? hz)) (by decide)
        refine ⟨rfl, _, rfl, z, rfl, zl, _, _, rfl, rfl, _, rfl, ?_⟩
        have il : i < 8 := by rw [List.length_map] at hi; omega
        by_cases pr : z.length < 8
        · rw [decide_eq_true (show ((z.length : Nat) : Int) < 8 by omega)]
          refine iteT ⟨_, rfl, _, hm, Nat.lt_of_le_of_lt (m := 8) (by rw [List.length_map]; exact Nat.le_trans (List.length_filter_le _ _) (by rw [List.length_take]; omega)) (by decide), same_mut s6 hD, ?_⟩
          rw [upd_same, take_filter_yes (b := fun z : Str => decide (z.length < 8)) V.str hz (decide_eq_true pr)]
        · rw [decide_eq_false (show ¬ ((z.length : Nat) : Int) < 8 by omega)]
          refine iteF ⟨s6, ?_⟩
          rw [hm, take_filter_no (b := fun z : Str => decide (z.length < 8)) V.str hz (decide_eq_false pr)]
      · obtain ⟨s6, hm⟩ := p
        rw [List.length_map, List.take_of_length_le (Nat.le_refl _)] at hm
        have DP : D ≠ p := sv_ne sv2 hD
        have hl6 := s6 _ _ hl
        have fo6 := s6 _ _ hfo
        have sv6 := sv2.same s6
        have b6 := b2.trans (Same.but s6)
        obtain ⟨y0, hy0, hy8⟩ := tr_able tr s8 (by rw [List.length_map]; exact lt8)
        obtain ⟨x0, hx0, rfl⟩ := List.mem_map.mp hy0
        have x0m : x0 ∈ zs.filter fun z => decide (z.length < 8) := List.mem_filter.mpr ⟨hx0, decide_eq_true (by rw [tl_len] at hy8; exact hy8)⟩
        generalize eab : (zs.filter fun z => decide (z.length < 8)) = ab at hm x0m
        have abl : ab.length ≤ 8 := by rw [← eab]; exact Nat.le_trans (List.length_filter_le _ _) z8
        have abp : 0 < ab.length := List.length_pos_of_mem x0m
        have abm : ∀ z ∈ ab, z ∈ zs ∧ z.length < 8 := fun z hz => by
          rw [← eab] at hz
          obtain ⟨h1, h2⟩ := List.mem_filter.mp hz
          exact ⟨h1, of_decide_eq_true h2⟩
        clear hl hfo sv2 b2 s6 hD hy0 hy8 x0m eab hx0
        dsimp only [gName]
        refine ⟨_, rfl, _, rfl, _, rfl, D, _, rfl, .inl (SqL.of hm), p, q, cs, _, _, rfl, by rw [List.length_map]; omega, by rw [List.length_map]; omega, by omega, by omega, sv6, fun r H7 r0 r1 b7 sv7 => ?_⟩
        rw [List.length_map] at r1
        have rl : r.toNat < ab.length := by omega
        obtain ⟨z, hz⟩ : ∃ z, ab[r.toNat]? = some z := ⟨_, List.getElem?_eq_getElem rl⟩
        obtain ⟨zm, zl8⟩ := abm z (List.mem_of_getElem? hz)
        have hl7 := b7 _ _ lP hl6
        have fo7 := b7 _ _ foP fo6
        have gz : atI (ab.map V.str) r = some (.str z) := by
          have := atI_nat (xs := ab.map V.str) (j := r.toNat) (v := V.str z) (by rw [List.getElem?_map, hz]; rfl)
          rw [Int.toNat_of_nonneg r0] at this
          exact this
        refine ⟨D, _, r, .str z, rfl, rfl, SqL.of (b7 _ _ DP hm), gz, ?_⟩
        have bb := b6.trans b7
        clear hm abl abp abm hz gz sv6 b6 b7 r0 r1 rl hl6 fo6 hlt
        dsimp only [gName]
        refine ⟨_, rfl, l, rfl, ⟨_, SqL.of hl7⟩, fun D2 hD2 => ?_⟩
        refine lc_it (walk_list (K := K) (xs := zs.map V.str)) (fun i H' => Same H7 H' ∧ H' D2 = some (.lst (((zs.take i).filter fun y => decide (y ≠ z)).map V.str))) ⟨same_new hD2, by rw [upd_same]; rfl⟩ (fun i H' _ p => SqL.of (p.1 _ _ hl7)) (fun i x H8 H' hi p y => ?_) (fun H8 p => ?_)
        · obtain ⟨s8', hm⟩ := p
          obtain ⟨rfl, hx⟩ := y
          rw [List.getElem?_map] at hx
          obtain ⟨y, hy, rfl⟩ := Option.map_eq_some_iff.mp hx
          refine ⟨rfl, _, rfl, _, rfl, rfl, _, rfl, ?_⟩
          rw [str_ne]
          have il : i < 8 := by rw [List.length_map] at hi; omega
          by_cases pr : y = z
          · rw [decide_eq_true pr]
            refine iteF ⟨s8', ?_⟩
            rw [hm, take_filter_no (b := fun y : Str => decide (y ≠ z)) V.str hy (decide_eq_false fun h => h pr)]
          · rw [decide_eq_false pr]
            refine iteT ⟨_, rfl, _, hm, Nat.lt_of_le_of_lt (m := 8) (by rw [List.length_map]; exact Nat.le_trans (List.length_filter_le _ _) (by rw [List.length_take]; omega)) (by decide), same_mut s8' hD2, ?_⟩
            rw [upd_same, take_filter_yes (b := fun y : Str => decide (y ≠ z)) V.str hy (decide_eq_true pr)]
        · obtain ⟨s8', hm⟩ := p
          rw [List.length_map, List.take_of_length_le (Nat.le_refl _)] at hm
          have big : z.length + (1 : Nat) ≤ sizeLine := Nat.le_trans (m := 9) (by omega) (by decide)
          refine ⟨_, rfl, z, "0", rfl, rfl, big, _, rfl, z, "1", rfl, rfl, big, by show 2 ≤ sizeLine; decide, fun t ht => ?_⟩
          have s9 := same_new (o := HO.lst [V.str (z ++ "0"), V.str (z ++ "1")]) ht
          have ht2 : upd H8 t (HO.lst [V.str (z ++ "0"), V.str (z ++ "1")]) t = some (.lst [V.str (z ++ "0"), V.str (z ++ "1")]) := upd_same
          have hm9 := s9 _ _ hm
          have sA := s8'.trans s9
          generalize upd H8 t (HO.lst [V.str (z ++ "0"), V.str (z ++ "1")]) = H9 at ht2 hm9 sA ⊢
          obtain ⟨t1, t2, t3⟩ := tr_split tr (List.mem_map.mpr ⟨z, zm, rfl⟩) (by rw [tl_len]; exact zl8)
          have ec : cod (zs.filter (fun y => decide (y ≠ z)) ++ [z ++ "0", z ++ "1"]) = (cod zs).filter (fun t => decide (t ≠ z.cps.toList)) ++ [z.cps.toList ++ [48], z.cps.toList ++ [49]] := by
            unfold cod
            rw [List.map_append]
            show cod (zs.filter fun y => decide (y ≠ z)) ++ [(z ++ "0").cps.toList, (z ++ "1").cps.toList] = _
            rw [cod_filter, tl_app, tl_app, tl_0, tl_1]
          rw [← ec] at t1 t2 t3
          have ec2 : (zs.filter fun y => decide (y ≠ z)).map V.str ++ [V.str (z ++ "0"), V.str (z ++ "1")] = (zs.filter (fun y => decide (y ≠ z)) ++ [z ++ "0", z ++ "1"]).map V.str := by rw [List.map_append]; rfl
          refine ⟨D2, t, _, _, rfl, rfl, hm9, ht2, ?_, fun l2 hl2 => ?_⟩
          · refine Nat.le_trans (m := 10) ?_ (by decide)
            have := List.length_filter_le (fun y => decide (y ≠ z)) zs
            rw [List.length_map]
            show _ + 2 ≤ 10
            omega
          rw [ec2]
          rw [List.length_map, List.length_map] at t2
          generalize zs.filter (fun y => decide (y ≠ z)) ++ [z ++ "0", z ++ "1"] = ys at t1 t2 t3
          have sB := sA.trans (same_new (o := HO.lst (ys.map V.str)) hl2)
          have l2H : H l2 = none := free_of (bb.trans (Same.but sA)) (sv_is (sv7.same sA)) hl2
          have l2fo : l2 ≠ fo := (ne_of_none (sA _ _ fo7) hl2).symm
          dsimp only [gName]
          exact ⟨8 - ys.length, by omega, l2, ys, _, _, _, _, _, _, rfl, rfl, bb.trans (Same.but sB), (sv7.same sB).mono (by omega), l2H, upd_same, l2fo, by omega, by omega, t1, by rw [t3]; exact s8, sB _ _ fo7⟩
    · have e8 : zs.length = 8 := by
        have : ¬ ((zs.length : Nat) : Int) < 8 := fun h => hge (decide_eq_true h)
        omega
      clear hge s8 z1 z8
      rw [e8] at sv2
      refine ⟨_, rfl, by show 5 ≤ sizeLine; decide, fun lc hlc => ?_⟩
      have sc := same_new (o := HO.lst [V.int 0, V.int 0, V.int 1, V.int 3, V.int 6]) hlc
      refine ⟨p, q, cs, _, lc, _, rfl, upd_same, sv_ne sv2 hlc, by show 0 < 5; decide, by show 5 ≤ 1000; decide, by omega, by omega, sv2.same sc, fun v H3 hv b3 s3 => ?_⟩
      obtain ⟨N, rfl, N6⟩ : ∃ N : Nat, v = .int (N : Int) ∧ N ≤ 6 := by
        simp only [List.mem_cons, List.not_mem_nil, or_false] at hv
        rcases hv with rfl | rfl | rfl | rfl | rfl
        · exact ⟨0, rfl, by decide⟩
        · exact ⟨0, rfl, by decide⟩
        · exact ⟨1, rfl, by decide⟩
        · exact ⟨3, rfl, by decide⟩
        · exact ⟨6, rfl, by decide⟩
      have hl3 := b3 _ _ lP (sc _ _ hl)
      have fo3 := b3 _ _ foP (sc _ _ hfo)
      have bb3 := (b2.trans (Same.but sc)).trans b3
      clear hv b3 sc hlc hl hfo b2 sv2
      refine ⟨(N : Int), rfl, by omega, by omega, ?_⟩
      refine for_range (n := N) (fun j σ' H' => W2 p q cs (n + 9 + 3 * j) fo H σ' H') ⟨l, zs, _, _, _, _, _, _, rfl, bb3, s3.mono (by omega), lH, hl3, lfo, e8, tr, fo3⟩ (fun j σ' H4 hj h => ?_) (fun σ' H4 h => ?_)
      · clear hl3 fo3 bb3 s3 tr e8 lP lfo lH
        obtain ⟨l, zs, o3, o4, o5, o6, o7, o8, rfl, b4, sv4, lH, hl, lfo, e8, tr, hfo⟩ := h
        have lP : l ≠ p := sv_ne sv lH
        dsimp only [gName]
        refine ⟨_, rfl, _, rfl, p, q, cs, _, 8, rfl, by decide, by decide, by omega, by omega, sv4, fun r H5 r0 r1 b5 sv5 => ?_⟩
        have rl : r.toNat < zs.length := by omega
        obtain ⟨z, hz⟩ : ∃ z, zs[r.toNat]? = some z := ⟨_, List.getElem?_eq_getElem rl⟩
        have zm := List.mem_of_getElem? hz
        have hl5 := b5 _ _ lP hl
        have fo5 := b5 _ _ foP hfo
        have gz : atI (zs.map V.str) r = some (.str z) := by
          have := atI_nat (xs := zs.map V.str) (j := r.toNat) (v := V.str z) (by rw [List.getElem?_map, hz]; rfl)
          rw [Int.toNat_of_nonneg r0] at this
          exact this
        refine ⟨l, _, r, .str z, rfl, rfl, SqL.of hl5, gz, ?_⟩
        refine ⟨_, rfl, p, q, cs, _, 2, rfl, by decide, by decide, by omega, by omega, sv5, fun r2 H6 r20 r21 b6 sv6 => ?_⟩
        obtain ⟨c, hc01, gc⟩ : ∃ c : Nat, (c = 48 ∨ c = 49) ∧ atI ("01" : Str).cps.toList r2 = some c := by
          have : r2 = 0 ∨ r2 = 1 := by omega
          rcases this with rfl | rfl
          · exact ⟨48, .inl rfl, by decide +kernel⟩
          · exact ⟨49, .inr rfl, by decide +kernel⟩
        refine ⟨"01", r2, c, rfl, rfl, by decide +kernel, gc, ?_⟩
        have hl6 := b6 _ _ lP hl5
        have fo6 := b6 _ _ foP fo5
        have bb6 := (b4.trans b5).trans b6
        clear hl5 fo5 hl hfo b4 b5 b6 sv4 sv5 gz gc r0 r1 r20 r21 hz rl
        refine ⟨by show 2 ≤ sizeLine; decide, fun tp htp => ?_⟩
        have s7 := same_new (o := HO.tup [V.str z, V.str ⟨#[c]⟩]) htp
        have ht7 : upd H6 tp (HO.tup [V.str z, V.str ⟨#[c]⟩]) tp = some (.tup [V.str z, V.str ⟨#[c]⟩]) := upd_same
        generalize upd H6 tp (HO.tup [V.str z, V.str ⟨#[c]⟩]) = H7 at s7 ht7 ⊢
        have sv7 := sv6.same s7
        have hl7 := s7 _ _ hl6
        have fo7 := s7 _ _ fo6
        have bb7 := bb6.trans (Same.but s7)
        clear hl6 fo6 bb6 sv6 s7 htp
        refine ⟨tp, _, rfl, SqT.of ht7, rfl, ?_⟩
        dsimp only [gCons, gNil, gName]
        refine ⟨_, _, rfl, _, _, rfl, rfl, ?_⟩
        clear ht7
        have zl8 := tr_hi tr z zm
        have few2 : zs.length ≤ 8 := by omega
        have zl : z.length ≤ sizeLine := Nat.le_trans zl8 (by decide)
        refine ⟨_, rfl, _, rfl, _, rfl, z, rfl, zl, _, _, rfl, rfl, p, q, cs, _, _, rfl, by omega, by omega, by omega, by omega, sv7, fun r3 H8 r30 r31 b8 sv8 => ?_⟩
        have hl8 := b8 _ _ lP hl7
        have fo8 := b8 _ _ foP fo7
        have bb8 := bb7.trans b8
        clear hl7 fo7 bb7 sv7 b8
        refine ⟨_, rfl, z, rfl, zl, ?_⟩
        have hpre : (cutS z none (some r3)).cps.toList <+: z.cps.toList := by
          rw [cutS_take r30]
          exact List.take_prefix _ _
        generalize cutS z none (some r3) = hd at hpre
        have hl_ : hd.length ≤ 8 := by
          have := hpre.length_le
          rw [tl_len, tl_len] at this
          omega
        have hdl : hd.length ≤ sizeLine := Nat.le_trans hl_ (by decide)
        clear r30 r31
        dsimp only [gName]
        refine ⟨_, rfl, l, rfl, ⟨_, SqL.of hl8⟩, fun D hD => ?_⟩
        refine lc_it (walk_list (K := K) (xs := zs.map V.str)) (fun i H' => Same H8 H' ∧ H' D = some (.lst (((zs.take i).filter fun y => decide (hd.cps.toList <+: y.cps.toList)).map fun y => V.int (y.length : Nat)))) ⟨same_new hD, by rw [upd_same]; rfl⟩ (fun i H' _ p => SqL.of (p.1 _ _ hl8)) (fun i x H9 H' hi p y => ?_) (fun H9 p => ?_)
        · obtain ⟨s9, hm⟩ := p
          obtain ⟨rfl, hx⟩ := y
          rw [List.getElem?_map] at hx
          obtain ⟨y, hy, rfl⟩ := Option.map_eq_some_iff.mp hx
          have yl : y.length ≤ sizeLine := Nat.le_trans (tr_hi tr y (List.mem_of_getElem? hy)) (by decide)
          refine ⟨rfl, _, rfl, _, rfl, hd, rfl, hdl, _, rfl, y, rfl, yl, _, rfl, rfl, _, rfl, ?_⟩
          rw [pre_cut2 (Nat.le_trans hl_ (by decide))]
          have il : i < 8 := by rw [List.length_map] at hi; omega
          by_cases pr : hd.cps.toList <+: y.cps.toList
          · rw [decide_eq_true pr]
            refine iteT ⟨_, rfl, y, rfl, yl, _, hm, Nat.lt_of_le_of_lt (m := 8) (by rw [List.length_map]; exact Nat.le_trans (List.length_filter_le _ _) (by rw [List.length_take]; omega)) (by decide), same_mut s9 hD, ?_⟩
            rw [upd_same, take_filter_yes (b := fun y : Str => decide (hd.cps.toList <+: y.cps.toList)) (fun y => V.int (y.length : Nat)) hy (decide_eq_true pr)]
          · rw [decide_eq_false pr]
            refine iteF ⟨s9, ?_⟩
            rw [hm, take_filter_no (b := fun y : Str => decide (hd.cps.toList <+: y.cps.toList)) (fun y => V.int (y.length : Nat)) hy (decide_eq_false pr)]
        · obtain ⟨s9, hm⟩ := p
          rw [List.length_map, List.take_of_length_le (Nat.le_refl _)] at hm
          have sv9 := sv8.same s9
          have hl9 := s9 _ _ hl8
          have fo9 := s9 _ _ fo8
          have bb9 := bb8.trans (Same.but s9)
          clear sv8 hl8 fo8 bb8 s9 hD
          refine ⟨D, (zs.filter fun y => decide (hd.cps.toList <+: y.cps.toList)).map fun y => ((y.length : Nat) : Int), rfl, SqL.of (by rw [hm, List.map_map]; rfl), ?_, fun m hmm hmax => ?_⟩
          · rw [List.length_map]
            exact List.length_pos_of_mem (List.mem_filter.mpr ⟨zm, decide_eq_true hpre⟩)
          refine ⟨_, _, rfl, rfl, _, rfl, ?_⟩
          refine ite2 (fun hlt => ?_) (fun _ => ⟨l, zs, _, _, _, _, _, _, rfl, bb9, sv9.mono (by omega), lH, hl9, lfo, e8, tr, fo9⟩)
          have few : ∀ y ∈ cod zs, hd.cps.toList <+: y → y.length < 8 := fun y hy hp => by
            obtain ⟨x, hx, rfl⟩ := List.mem_map.mp hy
            have := hmax _ (List.mem_map.mpr ⟨x, List.mem_filter.mpr ⟨hx, decide_eq_true hp⟩, rfl⟩)
            have hlt := of_decide_eq_true hlt
            rw [tl_len]
            omega
          clear hm hmm hmax hlt
          refine ⟨_, rfl, l, rfl, ⟨_, SqL.of hl9⟩, fun D2 hD2 => ?_⟩
          refine lc_map (f := fun v => match v with | .str y => .str (putZ hd c y) | v => v) (walk_list (K := K) (xs := zs.map V.str)) hD2 (fun H' s => SqL.of (s _ _ hl9)) (by rw [List.length_map]; exact Nat.le_trans few2 (by decide)) (fun _ => rfl) (fun i x H' R hx s r => ?_) (fun H' s hl' => ?_)
          · rw [List.getElem?_map] at hx
            obtain ⟨y, hy, rfl⟩ := Option.map_eq_some_iff.mp hx
            have y8 := tr_hi tr y (List.mem_of_getElem? hy)
            have yl : y.length ≤ sizeLine := Nat.le_trans y8 (by decide)
            refine ⟨_, rfl, _, rfl, hd, rfl, hdl, _, rfl, y, rfl, yl, _, rfl, rfl, _, rfl, ?_⟩
            rw [pre_cut2 (Nat.le_trans hl_ (by decide))]
            by_cases pr : hd.cps.toList <+: y.cps.toList
            · rw [decide_eq_true pr]
              have c1 : (⟨#[c]⟩ : Str).length = 1 := rfl
              have c2 : (cutS y (some ((hd.length : Nat) : Int)) none).length ≤ 8 := by
                rw [← tl_len, cutS_drop, List.length_drop, tl_len]
                omega
              refine iteT ⟨_, rfl, _, rfl, hd, ⟨#[c]⟩, rfl, rfl, Nat.le_trans (m := 9) (by omega) (by decide), _, rfl, _, rfl, hd, rfl, hdl, _, rfl, y, rfl, yl, _, _, rfl, rfl, Nat.le_trans (m := 17) (by rw [Str.length_append]; omega) (by decide), ?_⟩
              have this : R (V.str (putZ hd c y)) H' := r H' (Same.refl _)
              unfold putZ at this
              rw [if_pos pr] at this
              exact this
            · rw [decide_eq_false pr]
              refine iteF ⟨_, rfl, ?_⟩
              have this : R (V.str (putZ hd c y)) H' := r H' (Same.refl _)
              unfold putZ at this
              rw [if_neg pr] at this
              exact this
          · have hl2 : H' D2 = some (.lst ((zs.map (putZ hd c)).map V.str)) := by rw [hl', List.map_map, List.map_map]; rfl
            have tr2 : Tr (cod (zs.map (putZ hd c))) := by
              rw [cod_put]
              exact tr_put tr (List.mem_map.mpr ⟨z, zm, rfl⟩) hpre hc01 few
            have D2H : H D2 = none := free_of bb9 (sv_is sv9) hD2
            have D2fo : D2 ≠ fo := (ne_of_none fo9 hD2).symm
            dsimp only [gName]
            exact ⟨D2, zs.map (putZ hd c), _, _, _, _, _, _, rfl, bb9.trans (Same.but s), (sv9.same s).mono (by omega), D2H, hl2, D2fo, by rw [List.length_map]; exact e8, tr2, s _ _ fo9⟩
      · obtain ⟨l, zs, o3, o4, o5, o6, o7, o8, rfl, b4, sv4, lH, hl, lfo, e8, tr, hfo⟩ := h
        have lP : l ≠ p := sv_ne sv lH
        refine ⟨W3 p q cs n fo H, ⟨_, l, zs, [], _, _, _, _, _, _, rfl, rfl, b4, sv4.mono (by rw [List.length_nil]; omega), lH, hl, lfo, by rw [List.length_nil]; omega, by rw [List.append_nil]; exact tr, hfo⟩, ?_⟩
        rintro m σ' H2 ⟨l, zs, fs, o3, o4, o5, o6, o7, o8, rfl, rfl, b2, sv2, lH, hl, lfo, e8, tr, hfo⟩
        have lP : l ≠ p := sv_ne sv lH
        refine ⟨_, rfl, by show 0 ≤ sizeLine; decide, fun lz hlz => ?_⟩
        have sz := same_new (o := HO.lst []) hlz
        refine ne_nil (fun z hz => tr_sg tr z (List.mem_append_left _ hz)) (sz _ _ hl) upd_same ⟨_, rfl, ?_⟩
        have b3 := b2.new (o := HO.lst []) hlz
        have s3 := sv2.same sz
        have a3 := sz _ _ hl
        have f3 := sz _ _ hfo
        generalize upd H2 lz (HO.lst []) = H3 at sz b3 s3 a3 f3 ⊢
        cases zs with
        | nil => exact iteF ⟨_, rfl, k fo fs H3 foH f3 (by simpa using e8) (by simpa using tr) b3 (s3.mono (by simp at e8; omega))⟩
        | cons z0 zr =>
          refine iteT ⟨fun σ2 H4 => ∃ m', m' < (z0 :: zr).length ∧ W3 p q cs n fo H m' σ2 H4, fun _ _ h => h, ?_⟩
          refine ⟨_, rfl, .inl ⟨rfl, _, SqL.of f3⟩, _, rfl, .inl ⟨rfl, _, SqL.of a3⟩, ?_⟩
          refine ⟨_, rfl, _, rfl, l, _, rfl, .inl (SqL.of a3), p, q, cs, _, _, rfl, by rw [List.length_map, List.length_cons]; omega, by rw [List.length_map]; omega, by omega, by omega, s3, fun i H4 i0 i1 b4 s4 => ?_⟩
          have il : i.toNat < (z0 :: zr).length := by rw [List.length_map] at i1; omega
          have a4 := b4 _ _ lP a3
          have f4 := b4 _ _ foP f3
          refine ⟨l, (z0 :: zr).map V.str, i, i.toNat, .str ((z0 :: zr)[i.toNat]), rfl, rfl, a4, by omega, by rw [List.length_map] at i1; omega, ix_of i0 i1, by rw [List.getElem?_map, List.getElem?_eq_getElem il]; rfl, ?_⟩
          refine ⟨fo, fs.map V.str, _, rfl, rfl, Eq.trans (upd_ne lfo.symm) f4, Nat.lt_of_lt_of_le (m := 41) (by rw [List.length_map]; omega) (by decide), ?_⟩
          have le := List.length_eraseIdx_of_lt il
          refine ⟨zr.length, by simp, l, (z0 :: zr).eraseIdx i.toNat, fs ++ [(z0 :: zr)[i.toNat]], o3, o4, o5, o6, o7, o8, by rw [le]; rfl, rfl, ((b3.trans b4).mut lH).mut foH, ((s4.but_upd lP lH sv).but_upd foP foH sv).mono (by rw [List.length_append]; show n + 40 + fs.length + 1 ≤ n + 40 + (fs.length + 1); omega), lH, ?_, lfo, by rw [le, List.length_append]; simp at e8 ⊢; omega, tr.perm ((move_perm il).map _), by rw [upd_same, List.map_append]; rfl⟩
          rw [upd_ne lfo, upd_same, map_er]
end
end K18
set_option Elab.async false
set_option linter.all false
set_option maxRecDepth 100000
set_option maxHeartbeats 4000000
/-! how many programs have a length -/
namespace Own
/-- the counts of the lengths below n -/
def cl (sz : List Nat) (e : Nat) : Nat → List Nat
  | 0 => []
  | n + 1 => cl sz e n ++ [((sz.filter fun s => decide (s ≤ n)).map fun s => (cl sz e n).getD (n - s) 0).sum + if n = e then 1 else 0]
def cn (sz : List Nat) (e n : Nat) : Nat := (cl sz e (n + 1)).getD n 0
theorem cl_len (sz : List Nat) (e : Nat) : ∀ n, (cl sz e n).length = n
  | 0 => rfl
  | n + 1 => by unfold cl; rw [List.length_append, cl_len sz e n]; rfl
theorem cl_get {sz : List Nat} {e : Nat} : ∀ {m i : Nat}, i < m → (cl sz e m).getD i 0 = cn sz e i
  | m + 1, i, h => by
    by_cases q : i = m
    · subst q; rfl
    · have lt : i < m := by omega
      rw [← cl_get lt]
      show (cl sz e m ++ _).getD i 0 = _
      rw [List.getD_eq_getElem?_getD, List.getElem?_append_left (by rw [cl_len]; exact lt), ← List.getD_eq_getElem?_getD]
theorem cl_map (sz : List Nat) (e n : Nat) : cl sz e n = (List.range n).map (cn sz e) := by
  refine List.ext_getElem (by rw [cl_len, List.length_map, List.length_range]) fun i h1 h2 => ?_
  rw [cl_len] at h1
  have := cl_get (sz := sz) (e := e) h1
  rw [List.getD_eq_getElem?_getD, List.getElem?_eq_getElem (by rw [cl_len]; exact h1)] at this
  rw [List.getElem_map, List.getElem_range]
  exact this
/-- what is chosen from a list where it fits -/
def pick (sz : List Nat) (n : Nat) (f : Nat → Nat) : Nat := (sz.map fun s => if s ≤ n then f (n - s) else 0).sum
theorem pick_cons (s : Nat) (sz : List Nat) (n : Nat) (f : Nat → Nat) : pick (s :: sz) n f = (if s ≤ n then f (n - s) else 0) + pick sz n f := by unfold pick; rw [List.map_cons, List.sum_cons]
theorem pick_nil (n : Nat) (f : Nat → Nat) : pick [] n f = 0 := rfl
theorem pick_filter (sz : List Nat) (n : Nat) (f : Nat → Nat) : ((sz.filter fun s => decide (s ≤ n)).map fun s => f (n - s)).sum = pick sz n f := by
  induction sz with
  | nil => rfl
  | cons s sz ih =>
    rw [pick_cons, List.filter_cons]
    by_cases h : s ≤ n
    · rw [if_pos (decide_eq_true h), if_pos h, List.map_cons, List.sum_cons, ih]
    · rw [decide_eq_false h, if_neg (by simp), if_neg h, ih, Nat.zero_add]
theorem pick_congr {sz : List Nat} {n : Nat} {f g : Nat → Nat} (h : ∀ s ∈ sz, s ≤ n → f (n - s) = g (n - s)) : pick sz n f = pick sz n g := by
  unfold pick
  congr 1
  refine List.map_congr_left fun s hs => ?_
  by_cases q : s ≤ n
  · rw [if_pos q, if_pos q, h s hs q]
  · rw [if_neg q, if_neg q]
theorem cn_rec {sz : List Nat} {e : Nat} (p : ∀ s ∈ sz, 1 ≤ s) (n : Nat) : cn sz e n = pick sz n (cn sz e) + if n = e then 1 else 0 := by
  have h1 : cn sz e n = ((sz.filter fun s => decide (s ≤ n)).map fun s => (cl sz e n).getD (n - s) 0).sum + if n = e then 1 else 0 := by
    show (cl sz e n ++ [_]).getD n 0 = _
    rw [List.getD_eq_getElem?_getD, List.getElem?_append_right (by rw [cl_len]; exact Nat.le_refl _), cl_len, Nat.sub_self]
    rfl
  rw [h1, ← pick_filter]
  congr 2
  refine List.map_congr_left fun s hs => ?_
  obtain ⟨h2, h3⟩ := List.mem_filter.mp hs
  have := p s h2
  have := of_decide_eq_true h3
  exact cl_get (by omega)
/-! the sum of the shares of all programs up to a length -/
def ss (sz : List Nat) (e : Nat) : Nat → Nat
  | 0 => cn sz e 0
  | m + 1 => 2 * ss sz e m + cn sz e (m + 1)
theorem pick_two {sz : List Nat} {m : Nat} {f g h : Nat → Nat} (e0 : h 0 = g 0) (es : ∀ j, h (j + 1) = 2 * f j + g (j + 1)) (ef : ∀ j, f j = h j) : pick sz (m + 1) h = 2 * pick sz m f + pick sz (m + 1) g := by
  induction sz with
  | nil => rfl
  | cons s sz ih =>
    rw [pick_cons, pick_cons, pick_cons, ih]
    by_cases q : s ≤ m
    · rw [if_pos (by omega), if_pos q, if_pos (by omega), show m + 1 - s = (m - s) + 1 by omega, es]
      omega
    · by_cases q2 : s ≤ m + 1
      · rw [if_pos q2, if_neg q, if_pos q2, show m + 1 - s = 0 by omega, e0]
        omega
      · rw [if_neg q2, if_neg q, if_neg q2]
        omega
theorem ss_rec {sz : List Nat} {e : Nat} (p : ∀ s ∈ sz, 1 ≤ s) : ∀ m, ss sz e m = pick sz m (ss sz e) + if e ≤ m then 2 ^ (m - e) else 0
  | 0 => by
    show cn sz e 0 = _
    rw [cn_rec p 0]
    congr 1
    · exact pick_congr fun s hs h => by have := p s hs; omega
    · by_cases h : 0 = e
      · rw [if_pos h, if_pos (by omega)]; rw [← h]
      · rw [if_neg h, if_neg (by omega)]
  | m + 1 => by
    show 2 * ss sz e m + cn sz e (m + 1) = _
    rw [ss_rec p m, cn_rec p (m + 1), pick_two (f := ss sz e) (g := cn sz e) (h := ss sz e) rfl (fun _ => rfl) (fun _ => rfl)]
    by_cases h : e ≤ m
    · rw [if_pos h, if_neg (by omega), if_pos (by omega), show m + 1 - e = (m - e) + 1 by omega, Nat.pow_succ]
      omega
    · rw [if_neg h]
      by_cases h2 : m + 1 = e
      · rw [if_pos h2, if_pos (by omega), show m + 1 - e = 0 by omega, Nat.pow_zero]
        omega
      · rw [if_neg h2, if_neg (by omega)]
        omega
/-- shares of lengths to 8, in 256ths -/
def k8 (sz : List Nat) : Nat := (sz.map fun s => 2 ^ (8 - s)).sum
theorem pick_lt {sz : List Nat} {m : Nat} {f : Nat → Nat} (hi : ∀ s ∈ sz, s ≤ 8) (lt : ∀ s ∈ sz, s ≤ m → f (m - s) + 1 ≤ 2 ^ (m - s)) : 256 * (pick sz m f + (sz.filter fun s => decide (s ≤ m)).length) ≤ k8 sz * 2 ^ m := by
  induction sz with
  | nil => exact Nat.zero_le _
  | cons s sz ih =>
    have ih := ih (fun x hx => hi x (List.mem_cons_of_mem _ hx)) (fun x hx => lt x (List.mem_cons_of_mem _ hx))
    rw [pick_cons, List.filter_cons]
    have e1 : k8 (s :: sz) * 2 ^ m = 2 ^ (8 - s) * 2 ^ m + k8 sz * 2 ^ m := by unfold k8; rw [List.map_cons, List.sum_cons, Nat.add_mul]
    have h8 := hi s List.mem_cons_self
    rw [e1]
    by_cases q : s ≤ m
    · have := lt s List.mem_cons_self q
      rw [if_pos q, if_pos (decide_eq_true q), List.length_cons]
      have e2 : 2 ^ (8 - s) * 2 ^ m = 256 * 2 ^ (m - s) := by
        rw [← Nat.pow_add, show (256 : Nat) = 2 ^ 8 from rfl, ← Nat.pow_add]
        congr 1
        omega
      rw [e2]
      omega
    · rw [if_neg q, decide_eq_false q, if_neg (by simp)]
      omega
theorem ss_lt {sz : List Nat} {e : Nat} (p : ∀ s ∈ sz, 1 ≤ s) (hi : ∀ s ∈ sz, s ≤ 8) (e1 : 1 ≤ e) (e8 : e ≤ 8) (kr : k8 sz + 2 ^ (8 - e) ≤ 256) (m : Nat) : ss sz e m < 2 ^ m := by
  induction m using Nat.strongRecOn with
  | _ m ih =>
    rw [ss_rec p m]
    have h := pick_lt (m := m) (f := ss sz e) hi fun s hs q => by
      have := p s hs
      exact ih (m - s) (by omega)
    have pm := Nat.two_pow_pos m
    have ke : k8 sz * 2 ^ m + 2 ^ (8 - e) * 2 ^ m ≤ 256 * 2 ^ m := by
      rw [← Nat.add_mul]
      exact Nat.mul_le_mul_right _ kr
    by_cases q : e ≤ m
    · rw [if_pos q]
      have e2 : 2 ^ (8 - e) * 2 ^ m = 256 * 2 ^ (m - e) := by
        rw [← Nat.pow_add, show (256 : Nat) = 2 ^ 8 from rfl, ← Nat.pow_add]
        congr 1
        omega
      cases hf : (sz.filter fun s => decide (s ≤ m)) with
      | cons x r =>
        rw [hf, List.length_cons] at h
        omega
      | nil =>
        have z : pick sz m (ss sz e) = 0 := by
          rw [← pick_filter, hf]
          rfl
        rw [z]
        have : 2 ^ (m - e) < 2 ^ m := Nat.pow_lt_pow_right (by decide) (by omega)
        omega
    · rw [if_neg q]
      have := Nat.two_pow_pos (8 - e)
      have : 0 < 2 ^ (8 - e) * 2 ^ m := Nat.mul_pos this pm
      omega
theorem ss_sum (sz : List Nat) (e : Nat) : ∀ m, ((List.range (m + 1)).map fun l => cn sz e l * 2 ^ (m - l)).sum = ss sz e m
  | 0 => by simp [List.range, List.range.loop, ss]
  | m + 1 => by
    rw [List.range_succ, List.map_append, List.sum_append]
    have h : ((List.range (m + 1)).map fun l => cn sz e l * 2 ^ (m + 1 - l)).sum = 2 * ss sz e m := by
      rw [← ss_sum sz e m]
      have : ∀ L : List Nat, (∀ l ∈ L, l ≤ m) → (L.map fun l => cn sz e l * 2 ^ (m + 1 - l)).sum = 2 * (L.map fun l => cn sz e l * 2 ^ (m - l)).sum := by
        intro L
        induction L with
        | nil => intro _; rfl
        | cons l L ih =>
          intro hL
          rw [List.map_cons, List.sum_cons, List.map_cons, List.sum_cons, ih fun x hx => hL x (List.mem_cons_of_mem _ hx), show m + 1 - l = (m - l) + 1 by have := hL l List.mem_cons_self; omega, Nat.pow_succ, ← Nat.mul_assoc]
          omega
      exact this _ fun l hl => by have := List.mem_range.mp hl; omega
    rw [h]
    simp [ss]
theorem cn_le {sz : List Nat} {e : Nat} (p : ∀ s ∈ sz, 1 ≤ s) (hi : ∀ s ∈ sz, s ≤ 8) (e1 : 1 ≤ e) (e8 : e ≤ 8) (kr : k8 sz + 2 ^ (8 - e) ≤ 256) (m : Nat) : cn sz e m < 2 ^ m := by
  have := ss_lt p hi e1 e8 kr m
  cases m with
  | zero => exact this
  | succ m =>
    have h : ss sz e (m + 1) = 2 * ss sz e m + cn sz e (m + 1) := rfl
    omega
/-! the law's own way: by the number of words -/
def rw_ (sz : List Nat) : Nat → Nat → Nat
  | 0, n => if n = 0 then 1 else 0
  | k + 1, n => pick sz n (rw_ sz k)
def upto (sz : List Nat) (K n : Nat) : Nat := ((List.range K).map fun k => rw_ sz k n).sum
theorem rw_zero {sz : List Nat} (p : ∀ s ∈ sz, 1 ≤ s) : ∀ (k n : Nat), n < k → rw_ sz k n = 0
  | k + 1, n, h => by
    have : pick sz n (rw_ sz k) = pick sz n (fun _ => 0) := pick_congr fun s hs q => rw_zero p k (n - s) (by have := p s hs; omega)
    show pick sz n (rw_ sz k) = 0
    rw [this]
    unfold pick
    have : ∀ L : List Nat, (L.map fun s => if s ≤ n then (fun _ => 0) (n - s) else 0).sum = 0 := by
      intro L
      induction L with
      | nil => rfl
      | cons x L ih => rw [List.map_cons, List.sum_cons, ih]; split <;> rfl
    exact this sz
theorem upto_succ (sz : List Nat) (K n : Nat) : upto sz (K + 1) n = upto sz K n + rw_ sz K n := by
  unfold upto
  rw [List.range_succ, List.map_append, List.sum_append, List.map_singleton, List.sum_singleton]
theorem upto_more {sz : List Nat} {n K : Nat} (z : ∀ k, K ≤ k → rw_ sz k n = 0) : ∀ d, upto sz (K + d) n = upto sz K n
  | 0 => rfl
  | d + 1 => by rw [← Nat.add_assoc, upto_succ, upto_more z d, z _ (by omega), Nat.add_zero]
theorem pick_add {sz : List Nat} {n : Nat} {f g : Nat → Nat} : pick sz n f + pick sz n g = pick sz n fun j => f j + g j := by
  induction sz with
  | nil => rfl
  | cons s sz ih =>
    rw [pick_cons, pick_cons, pick_cons, ← ih]
    by_cases q : s ≤ n
    · rw [if_pos q, if_pos q, if_pos q]; omega
    · rw [if_neg q, if_neg q, if_neg q]; omega
theorem upto_rec (sz : List Nat) (n : Nat) : ∀ K, upto sz (K + 1) n = (if n = 0 then 1 else 0) + pick sz n (upto sz K)
  | 0 => by
    rw [upto_succ]
    have : pick sz n (upto sz 0) = 0 := by
      unfold pick
      have : ∀ L : List Nat, (L.map fun s => if s ≤ n then upto sz 0 (n - s) else 0).sum = 0 := by
        intro L
        induction L with
        | nil => rfl
        | cons x L ih => rw [List.map_cons, List.sum_cons, ih]; split <;> rfl
      exact this sz
    rw [this]
    show 0 + rw_ sz 0 n = _
    unfold rw_
    omega
  | K + 1 => by
    rw [upto_succ, upto_rec sz n K]
    show _ + pick sz n (rw_ sz K) = _
    rw [Nat.add_assoc, pick_add]
    congr 1
    exact pick_congr fun s hs q => (upto_succ sz K (n - s)).symm
theorem cn_upto {sz : List Nat} {e : Nat} (p : ∀ s ∈ sz, 1 ≤ s) : ∀ (n K : Nat), n < K + e → cn sz e n = if e ≤ n then upto sz K (n - e) else 0 := by
  intro n
  induction n using Nat.strongRecOn with
  | _ n ih =>
    intro K hK
    rw [cn_rec p n]
    by_cases q : e ≤ n
    · rw [if_pos q]
      obtain ⟨K', rfl⟩ : ∃ K', K = K' + 1 := ⟨K - 1, by omega⟩
      rw [upto_rec, Nat.add_comm]
      congr 1
      · by_cases h : n = e
        · rw [if_pos h, if_pos (by omega)]
        · rw [if_neg h, if_neg (by omega)]
      · unfold pick
        congr 1
        refine List.map_congr_left fun s hs => ?_
        have := p s hs
        by_cases h : s ≤ n
        · rw [if_pos h, ih (n - s) (by omega) K' (by omega)]
          by_cases h2 : e ≤ n - s
          · rw [if_pos h2, if_pos (by omega), show n - s - e = n - e - s by omega]
          · rw [if_neg h2, if_neg (by omega)]
        · rw [if_neg h, if_neg (by omega)]
    · rw [if_neg q, if_neg (by omega), Nat.add_zero]
      have : pick sz n (cn sz e) = pick sz n (fun _ => 0) := pick_congr fun s hs h => by
        have := p s hs
        rw [ih (n - s) (by omega) K (by omega), if_neg (by omega)]
      rw [this]
      unfold pick
      have : ∀ L : List Nat, (L.map fun s => if s ≤ n then (fun _ => 0) (n - s) else 0).sum = 0 := by
        intro L
        induction L with
        | nil => rfl
        | cons x L ih => rw [List.map_cons, List.sum_cons, ih]; split <;> rfl
      exact this sz
end Own
set_option Elab.async false
set_option linter.all false
set_option maxRecDepth 100000
set_option maxHeartbeats 4000000
/-! str(x) of an instance with its own __str__ -/
namespace Own
open PySem PySem.Spec PyProof.Rows L2
section
variable {X : Cx} {CX : CXT} {g C : Addr} {n : Nat} {sp : Sp} {E : XK}
def rStrOwn (C : Addr) (sp : Sp) (E : XK) : List V → Hp → VK → Prop := fun xs H Q => ∃ a dx fs, xs = [V.ref a] ∧ H a = some (.ins C dx fs) ∧ sp [.ref a] H (fun z H' => ∃ i, z = .str i ∧ Q z H') E
theorem call_strOwn (hs : PySem.W.findIn X.K (.ref C) "__str__" = some (some (.ref g))) (hf : PySem.W.isFn X.K (.ref g) = true) (F : FnR X.prog X.w X.K X.mg X.base CX n g sp) (hr : Room (n + 2) X.A) (hx : Passes CX X E) : CallR X (.type "str") (rStrOwn C sp E) := by
  intro pins s σ H xs us Q I r h
  obtain ⟨a, dx, fs, rfl, hi, q⟩ := h
  obtain ⟨u, rfl, ru⟩ := r.one
  cases (show u = Value.ref a from ru)
  obtain ⟨mA, O, _⟩ := ins_get I.hok hi
  obtain ⟨od, J, _⟩ := O.look
  have hr2 : Room n X.A.in1.in1 := (show Room (n + 1) X.A.in1 from Room.in1 hr).in1
  refine PySem.W.kso_call (Nat.lt_of_le_of_lt (Nat.le_trans (Nat.le_add_right _ _) (Nat.le_add_right _ _)) hr2.un) I.kIn J hs hf ?_
  refine wpAny_mono (wpAny_call (SlX.run_at (us := [.ref a]) (ws := [.ref a]) F hr2 I.env0.in1.in1 hx I (.cons rfl .nil) q)) (fun w s' z => ?_) fun _ _ x => x
  obtain ⟨z', H', I', rz, i, ei, qz⟩ := z
  subst ei
  obtain ⟨t, e⟩ := (show ∃ t, w = Value.str i t from rz)
  cases e
  exact ⟨.str i, H', I', ⟨t, rfl⟩, qz⟩
end
end Own
set_option Elab.async false
set_option linter.all false
set_option maxRecDepth 100000
set_option maxHeartbeats 4000000
namespace K18
open PySem PySem.Spec PyProof.Rows L2 Own
def ApL (zs : List Str) : Prop := ApartL (zs.map fun z => z.cps.toList)
structure Good (zs : List Str) : Prop where
  sg : ∀ z ∈ zs, Sg z
  lo : ∀ z ∈ zs, 1 ≤ z.length
  hi : ∀ z ∈ zs, z.length ≤ 60
theorem names_facts {H : Hp} {x : Addr} {zs : List Str} (at_ : H x = some (.lst (zs.map V.str)) ∨ H x = some (.tup (zs.map V.str))) (few : zs.length ≤ 200) (good : Good zs) (ap : ApL zs) : An2 H (.ref x) ∧ namesB H (.ref x) = true ∧ apB H (.ref x) = true ∧ sgs H (.ref x) = cod zs := by
  have e : items H (.ref x) = zs.map V.str := by rcases at_ with h | h <;> simp [items, h]
  have r : rowB H (.ref x) 0 200 = true := by
    rcases at_ with h | h <;> simp only [rowB, h, Bool.and_eq_true, decide_eq_true_eq, List.length_map] <;> omega
  have a : An H (.ref x) := by
    rcases at_ with h | h
    · exact .lst h
    · exact .tup h
  have sE : sgs H (.ref x) = cod zs := by
    unfold sgs
    rw [e, List.map_map]
    rfl
  refine ⟨⟨a, fun y hy => ?_⟩, ?_, ?_, sE⟩
  · rw [e] at hy
    obtain ⟨z, hz, rfl⟩ := List.mem_map.mp hy
    exact .str (Nat.le_trans (good.hi z hz) (by decide))
  · unfold namesB
    rw [r, e, List.all_map, Bool.true_and, List.all_eq_true]
    exact fun z hz => (good.sg z hz).name (good.lo z hz) (good.hi z hz)
  · exact apB_iff.mpr (by rw [sE]; exact ap)
theorem apart_ok {CB : Addr} {H : Hp} {x : Addr} {zs : List Str} {Q : VK} {E : XK} (at_ : H x = some (.lst (zs.map V.str)) ∨ H x = some (.tup (zs.map V.str))) (few : zs.length ≤ 200) (good : Good zs) (ap : ApL zs)
    (q : ∀ H', Same H H' → Q (.bl true) H') : spApart CB [.ref x] H Q E := by
  obtain ⟨f1, f2, f3, f4⟩ := names_facts at_ few good ap
  refine ⟨_, rfl, f1, fun _ => ?_, fun z => (by rw [f2] at z; cases z)⟩
  rw [f3]
  exact q
def eBad (C : Addr) (w : Str) : Hp → XK → Prop := fun H E => ∀ H' d, Same H H' → H' d = none → E (.ref C) (some d) (upd H' d (.xd [("part", .str w)]))
theorem tr_good {zs : List Str} (h : Tr (cod zs)) (two : 2 ≤ zs.length) : Good zs ∧ ApL zs := by
  refine ⟨⟨tr_sg h, fun z hz => ?_, fun z hz => Nat.le_trans (tr_hi h z hz) (by decide)⟩, h.ap⟩
  have := tr_lo h (by rw [List.length_map]; exact two) _ (List.mem_map.mpr ⟨z, hz, rfl⟩)
  rw [tl_len] at this
  exact this
theorem good_take {zs : List Str} (h : Good zs ∧ ApL zs) (i : Nat) : Good (zs.take i) ∧ ApL (zs.take i) := by
  refine ⟨⟨fun z hz => h.1.sg z (List.mem_of_mem_take hz), fun z hz => h.1.lo z (List.mem_of_mem_take hz), fun z hz => h.1.hi z (List.mem_of_mem_take hz)⟩, ?_⟩
  have := h.2
  unfold ApL at this ⊢
  rw [List.map_take]
  exact List.Pairwise.sublist (List.take_sublist _ _) this
theorem sigB_ok {z : Str} (h : Sg z) (lo : 1 ≤ z.length) (hi : z.length ≤ 8) : sigB (.str z) 1 8 = true := by
  show (decide ((1 : Int) ≤ z.length) && (decide ((z.length : Int) ≤ 8) && decide (Txt.stripChars z "01" = ""))) = true
  rw [h.strip]
  simp only [Bool.and_eq_true, decide_eq_true_eq]
  exact ⟨by omega, by omega, trivial⟩
theorem cut_to {zs : List Str} {i : Nat} (h : i < zs.length) : cutV (zs.map V.str) none (some (((i : Nat) : Int) + 1)) = (zs.take (i + 1)).map V.str := by
  have a1 : HT.sIx (zs.map V.str).length (zs.map V.str).length (some (((i : Nat) : Int) + 1)) = i + 1 := by
    show (if (((i : Nat) : Int) + 1) < 0 then ((((i : Nat) : Int) + 1) + ((zs.map V.str).length : Int)).toNat else min (((i : Nat) : Int) + 1).toNat (zs.map V.str).length) = _
    rw [if_neg (by omega), List.length_map]
    omega
  unfold cutV
  rw [a1]
  show ((zs.map V.str).drop 0).take (i + 1 - 0) = _
  rw [List.drop_zero, Nat.sub_zero, List.map_take]
def spMis : Sp := fun vs H Q _ => ∃ (l : Addr) (zs : List Str), vs = [.ref l] ∧ H l = some (.lst (zs.map V.str)) ∧ zs.length = 8 ∧ Tr (cod zs) ∧ ∀ H', Same H H' → Q .non H'
def insT (C dx t : Addr) : HO := .ins C dx [("names", .ref t)]
def spMk (K : PySem.W.Frag) (C : Addr) : Sp := fun vs H Q _ => ∃ (x dx l : Addr) (zs : List Str), vs = [.ref x, .ref l] ∧ H x = some (.ins C dx []) ∧ H l = some (.lst (zs.map V.str)) ∧ zs.length = 8 ∧ Tr (cod zs) ∧ ∀ H' t, Same H H' → H' t = none → Q .non (upd (upd H' t (.tup (zs.map V.str))) x (insT C dx t))
def spNT (K : PySem.W.Frag) (CT CBT : Addr) : Sp := fun vs H Q E => ∃ (v : V) (t : Value) (b : Bool), vs = [v] ∧ TyX K H v t ∧ PySem.W.kitOne K t (.ref CT) = some b ∧ (b = true → Q .non H) ∧ (b = false → eBad CBT "tongue" H E)
def spNN (CBN : Addr) : Sp := fun vs H Q E => ∃ (v : V) (m : Int) (w : Str), vs = [v, .int 0, .int m, .str w] ∧ An H v ∧ (inB v (.int 0) (.int m) = true → Q .non H) ∧ (inB v (.int 0) (.int m) = false → eBad CBN w H E)
/-- an instance with the names -/
structure TonAt (C : Addr) (H : Hp) (x : Addr) (zs : List Str) : Prop where
  ex : ∃ dx t, H x = some (insT C dx t) ∧ H t = some (.tup (zs.map V.str))
theorem TonAt.same {C : Addr} {H H' : Hp} {x : Addr} {zs : List Str} (h : TonAt C H x zs) (s : Same H H') : TonAt C H' x zs := by
  obtain ⟨dx, t, h1, h2⟩ := h.ex
  exact ⟨dx, t, s _ _ h1, s _ _ h2⟩
/-- the lengths of the seven, and of the last -/
def szs (zs : List Str) : List Nat := (zs.map (·.length)).dropLast
def en8 (zs : List Str) : Nat := (zs.map (·.length)).getLastD 0
def cnz (zs : List Str) : Nat → Nat := cn (szs zs) (en8 zs)
def natV (ns : List Nat) : List V := ns.map fun (n : Nat) => V.int n
def spCT (K : PySem.W.Frag) (C : Addr) : Sp := fun vs H Q _ => ∃ (x : Addr) (zs : List Str) (m : Nat), vs = [.ref x, .int (m : Nat)] ∧ TonAt C H x zs ∧ zs.length = 8 ∧ Tr (cod zs) ∧ m ≤ 400 ∧ ∀ l H', Same H H' → H' l = some (.lst (natV ((List.range (m + 1)).map (cnz zs)))) → Q (.ref l) H'
def lenV : V → V
  | .str z => .int (z.length : Nat)
  | v => v
theorem getLastD_snoc {α : Type} (l : List α) (d : α) (h : l ≠ []) : l = l.dropLast ++ [l.getLastD d] := by
  rcases List.eq_nil_or_concat l with e | ⟨l', x, rfl⟩
  · exact absurd e h
  · simp
theorem shs_sh8 : ∀ {L : Txs}, (∀ z ∈ L, z.length ≤ 8) → shs L = sh8 L * 2 ^ 52
  | [], _ => rfl
  | z :: L, h => by
    rw [shs_cons, sh8_cons, Nat.add_mul, shs_sh8 fun y hy => h y (List.mem_cons_of_mem _ hy), ← Nat.pow_add]
    have := h z List.mem_cons_self
    rw [show 8 - z.length + 52 = 60 - z.length by omega]
structure SzOk (sz : List Nat) (e : Nat) : Prop where
  lo : ∀ s ∈ sz, 1 ≤ s
  hi : ∀ s ∈ sz, s ≤ 8
  e1 : 1 ≤ e
  e8 : e ≤ 8
  len : sz.length = 7
  kr : k8 sz + 2 ^ (8 - e) ≤ 256
theorem sz_ok {zs : List Str} (h8 : zs.length = 8) (tr : Tr (cod zs)) : SzOk (szs zs) (en8 zs) ∧ zs.map (·.length) = szs zs ++ [en8 zs] := by
  have ne : zs.map (·.length) ≠ [] := fun z => by
    have := congrArg List.length z
    rw [List.length_map, h8] at this
    cases this
  have sp := getLastD_snoc (zs.map (·.length)) 0 ne
  have ga := tr_good tr (by omega)
  have all : ∀ n ∈ zs.map (·.length), 1 ≤ n ∧ n ≤ 8 := fun n hn => by
    obtain ⟨z, hz, rfl⟩ := List.mem_map.mp hn
    exact ⟨ga.1.lo z hz, tr_hi tr z hz⟩
  have kk : k8 (zs.map (·.length)) = sh8 (cod zs) := by
    unfold k8 sh8 cod
    rw [List.map_map, List.map_map]
    congr 1
  have N : Nms (cod zs) := ⟨tr.ap, fun z hz q => by
    obtain ⟨y, hy, rfl⟩ := List.mem_map.mp hz
    have := ga.1.lo y hy
    rw [← tl_len, q] at this
    exact absurd this (by decide), fun z hz => Nat.le_trans (tr.hi z hz) (by decide), tr.sg⟩
  have s60 := fre_sum N
  rw [shs_sh8 tr.hi, ← kk] at s60
  have le : k8 (zs.map (·.length)) ≤ 256 := by omega
  have e : szs zs = (zs.map (·.length)).dropLast := rfl
  have e2 : en8 zs = (zs.map (·.length)).getLastD 0 := rfl
  rw [← e, ← e2] at sp
  refine ⟨⟨fun s hs => (all s (by rw [sp]; exact List.mem_append_left _ hs)).1, fun s hs => (all s (by rw [sp]; exact List.mem_append_left _ hs)).2, (all _ (by rw [sp]; simp)).1, (all _ (by rw [sp]; simp)).2, ?_, ?_⟩, sp⟩
  · rw [e, List.length_dropLast, List.length_map, h8]
  · rw [sp] at le
    unfold k8 at le ⊢
    rw [List.map_append, List.sum_append, List.map_singleton, List.sum_singleton] at le
    exact le
theorem natV_get {ns : List Nat} {j : Nat} (h : j < ns.length) : (natV ns)[j]? = some (.int ((ns.getD j 0 : Nat) : Int)) := by
  unfold natV
  rw [List.getElem?_map, List.getElem?_eq_getElem h, List.getD_eq_getElem?_getD, List.getElem?_eq_getElem h]
  rfl
theorem int_sum : ∀ ns : List Nat, (ns.map fun n => ((n : Nat) : Int)).sum = ((ns.sum : Nat) : Int)
  | [] => rfl
  | n :: ns => by rw [List.map_cons, List.sum_cons, int_sum ns, List.sum_cons, Int.natCast_add]
/-- what is asked of the class of tongues -/
structure TgC (K : PySem.W.Frag) (C : Addr) : Prop where
  cl : Cls K C
  no : NoAttr K C "names"
  ha : PySem.W.findIn K (.ref C) "__class__" = some (some (.builtin "object.__class__"))
  hn : PySem.W.specialIn K (.builtin "object.__class__") "__get__" = some (some (.builtin "getset_descriptor.__get__"))
  htk : PySem.W.takesIn K (.builtin "object.__class__") = some true
  hm : PySem.W.mroIn K C (.type "object") = some true
  me : PySem.W.kitOne K (.ref C) (.ref C) = some true
theorem TgC.ty {K : PySem.W.Frag} {C x : Addr} {H : Hp} {zs : List Str} (c : TgC K C) (h : TonAt C H x zs) : TyX K H (.ref x) (.ref C) := by
  obtain ⟨dx, t, h1, _⟩ := h.ex
  exact .base (.ins h1 c.cl c.ha c.hn c.htk c.hm)
def spHM (K : PySem.W.Frag) (CT CBT CBN : Addr) : Sp := fun vs H Q E => ∃ (v w : V), vs = [v, w] ∧
  ((∃ t, TyX K H v t ∧ PySem.W.kitOne K t (.ref CT) = some false ∧ eBad CBT "tongue" H E) ∨
   (∃ (x : Addr) (zs : List Str), v = .ref x ∧ TonAt CT H x zs ∧ zs.length = 8 ∧ Tr (cod zs) ∧ An H w ∧ ((inB w (.int 0) (.int 400) = false ∧ eBad CBN "length" H E) ∨ (∃ n : Nat, w = .int (n : Nat) ∧ n ≤ 400 ∧ ∀ H', Same H H' → Q (.int ((cnz zs n : Nat) : Int)) H'))))
section
variable {P : Program} {w : World} {K : PySem.W.Frag} {mg : Str → Option Value} {base : Heap}
theorem ok_is_integer {f : Addr} {fd : FuncData} (F : Fun K "is_integer" "is_integer" s_is_integer f fd) (T : Txt mg) : FnOk P w K mg base CX0 1 f fd ["value"] spIsInt := by
  refine F.ok sc_is_integer (fun vs H Q E h => ?_) (fun cdv A outer s H vs Q E hr h => ?_)
  · obtain ⟨v, rfl, _⟩ := h
    rfl
  · obtain ⟨v, rfl, ha, q⟩ := h
    refine ⟨_, (pss_one (ps_ret (pe_and (pe_callB call_isi (by rfl) T.b_isinstance boot_isinstance (pa_cons (pv 0) (pa_cons (pe_ty T.b_int boot_int) pa_nil))) (pe_one (pe_not (pe_callB call_isi (by rfl) T.b_isinstance boot_isinstance (pa_cons (pv 0) (pa_cons (pe_ty T.b_bool boot_bool) pa_nil)))))))), ?_⟩
    rw [isI_an ha] at q
    refine ⟨v, rfl, ?_⟩
    refine ⟨v, .ty "int", _, _, _, rfl, .ty _, ha.tyx, ha.kit (by decide), ?_⟩
    refine ⟨_, rfl, ?_⟩
    cases hb : isT "int" H v with
    | false =>
      rw [hb] at q
      exact q
    | true =>
      rw [hb] at q
      refine ⟨v, rfl, ?_⟩
      refine ⟨v, .ty "bool", _, _, _, rfl, .ty _, ha.tyx, ha.kit (by decide), ?_⟩
      exact ⟨_, rfl, q⟩

theorem ok_is_within {f : Addr} {fd : FuncData} (F : Fun K "is_within" "is_within" s_is_within f fd) (T : Txt mg) (C_is_integer : Cal P w K mg base 1 "is_integer" ["value"] spIsInt) : FnOk P w K mg base CX0 2 f fd ["value", "least", "most"] spWithin := by
  refine F.ok sc_is_within (fun vs H Q E h => ?_) (fun cdv A outer s H vs Q E hr h => ?_)
  · obtain ⟨v, lo, hi, rfl, _⟩ := h
    rfl
  · obtain ⟨v, lo, hi, rfl, ha, hl, hh, q⟩ := h
    refine ⟨_, (pss_cons (ps_if (pt_not (pt_val (pe_cal C_is_integer (hr.mono (by decide)) (pa_cons (pv 0) pa_nil))))
  (pss_one (ps_ret pe_bl))
  pss_nil)
  (pss_one (ps_ret (pe_and (pe_or (pe_cmpR op_isN (pv 1) pe_non (nomark _)) (pe_one (pe_cmpR op_le (pv 1) (pv 0) (nomark _)))) (pe_one (pe_or (pe_cmpR op_isN (pv 2) pe_non (nomark _)) (pe_one (pe_cmpR op_le (pv 0) (pv 2) (nomark _))))))))), ?_⟩
    refine ⟨v, rfl, v, rfl, ha, _, rfl, ?_⟩
    rcases isI_or (v := v) with ⟨i, rfl⟩ | e
    · refine iteF ?_
      have q' : Q (.bl (leB lo (.int i) && leB (.int i) hi)) H := q
      have low : ∀ R : VK, R (.bl (leB lo (.int i))) H → (tOrV (tOp (fun x y H Q => y = .non ∧ Q (.bl (decide (x = .non))) H) (tVar 1) (tC .non)) (tOp (rI0 fun i j => .bl (decide (i ≤ j))) (tVar 1) (tVar 0))) (start N_is_within [.int i, lo, hi]) H R := by
        intro R r
        rcases hl with rfl | ⟨l, rfl⟩
        · exact ⟨_, rfl, rfl, _, rfl, iteT r⟩
        · exact ⟨_, rfl, rfl, _, rfl, iteF ⟨_, rfl, _, rfl, _, _, rfl, rfl, r⟩⟩
      have hig : ∀ R : VK, R (.bl (leB (.int i) hi)) H → (tOrV (tOp (fun x y H Q => y = .non ∧ Q (.bl (decide (x = .non))) H) (tVar 2) (tC .non)) (tOp (rI0 fun i j => .bl (decide (i ≤ j))) (tVar 0) (tVar 2))) (start N_is_within [.int i, lo, hi]) H R := by
        intro R r
        rcases hh with rfl | ⟨l, rfl⟩
        · exact ⟨_, rfl, rfl, _, rfl, iteT r⟩
        · exact ⟨_, rfl, rfl, _, rfl, iteF ⟨_, rfl, _, rfl, _, _, rfl, rfl, r⟩⟩
      refine low _ ⟨_, rfl, ite_and q' fun _ q => hig _ q⟩
    · have q' : Q (.bl false) H := by
        have : inB v lo hi = false := by simp [inB, e]
        rw [this] at q
        exact q
      have e2 : (!isI v) = true := by rw [e]; rfl
      show if (!isI v) = true then _ else _
      rw [if_pos e2]
      exact q'
theorem ok_misfit {CB f : Addr} {fd : FuncData} (F : Fun K "place_of_misfit" "place_of_misfit" s_place_of_misfit f fd) (T : Txt mg) (C_is_signs : Cal P w K mg base 1 "is_signs" ["value", "least", "most"] spSig) (C_are_apart : CalX P w K mg base 4 "are_apart" ["names"] (spApart CB)) : FnOk P w K mg base CX0 5 f fd ["names"] spMis := by
  refine F.ok sc_place_of_misfit (fun vs H Q E h => ?_) (fun cdv A outer s H vs Q E hr h => ?_)
  · obtain ⟨l, zs, rfl, _⟩ := h
    rfl
  · obtain ⟨l, zs, rfl, hl, e8, tr, k⟩ := h
    have ga := tr_good tr (by omega)
    refine ⟨_, (pss_cons (ps_for PassesOwn.never rfl (pi_enum rfl T.b_enumerate (pa_cons (pv 0) pa_nil)) (pg_tup rfl (pgs_cons (pg_name (i := 1) sc_place_of_misfit.nd rfl (Or.inl rfl)) (pgs_cons (pg_name (i := 2) sc_place_of_misfit.nd rfl (Or.inl rfl)) pgs_nil)))
  (pss_one (ps_if (PW.pt (pw_or (pt_cmpR op_ge (pv 1) (pe_gi T.g_MANY_WORDS) (nomark _)) (pw_or (pt_not (pt_val (pe_cal C_is_signs (hr.mono (by decide)) (pa_cons (pv 2) (pa_cons pe_int (pa_cons (pe_gi T.g_MOST_NAME) pa_nil)))))) (pw_or1 (pt_not (pt_val (pe_calX C_are_apart (hr.mono (by decide)) (pa_cons (pe_slice sl_list (pv 0) po_none (po_some (pe_op op_add (pv 1) pe_int))) pa_nil))))))))
  (pss_one (ps_ret (pv 1)))
  pss_nil)))
  (pss_one (ps_ret pe_non))), ?_⟩
    refine ⟨_, rfl, l, _, rfl, SqL.of hl, ?_⟩
    refine for_it (walk_enum (K := K) (a := l) (xs := zs.map V.str)) (fun i σ' H' => Same H H' ∧ ∃ o1 o2, σ' = [some (.ref l), o1, o2]) ⟨Same.refl _, _, _, rfl⟩ (fun _ _ H' _ p => SqL.of (p.1 _ _ hl)) (fun i x σ' H' H2 hi ⟨s, o1, o2, es⟩ y => ?_) (fun σ' H' ⟨s, o1, o2, es⟩ => ?_)
    · subst es
      obtain ⟨Tt, x1, x2, rfl, hT, rfl, e1, e2⟩ := y
      cases e1
      have e2 : (zs.map V.str)[i]? = some x2 := e2
      rw [List.getElem?_map] at e2
      obtain ⟨z, hz, rfl⟩ := Option.map_eq_some_iff.mp e2
      have zm := List.mem_of_getElem? hz
      have sT := s.trans (same_new (o := HO.tup [.int (i : Nat), .str z]) hT)
      refine ⟨Tt, _, rfl, SqT.of upd_same, rfl, _, _, rfl, _, _, rfl, rfl, ?_⟩
      generalize upd H' Tt (HO.tup [.int (i : Nat), .str z]) = H3 at sT ⊢
      rw [List.length_map, e8] at hi
      refine ⟨_, rfl, _, _, rfl, rfl, _, rfl, ?_⟩
      rw [decide_eq_false (show ¬ (8 : Int) ≤ ((i : Nat) : Int) by omega)]
      refine iteF ?_
      have sg := sigB_ok (ga.1.sg z zm) (ga.1.lo z zm) (tr_hi tr z zm)
      refine ⟨_, rfl, .str z, 1, 8, rfl, .str (Nat.le_trans (tr_hi tr z zm) (by decide)), ?_⟩
      rw [sg]
      refine ⟨_, rfl, iteF ?_⟩
      refine ⟨_, rfl, _, rfl, _, _, rfl, rfl, _, rfl, l, _, rfl, SqL.of (sT _ _ hl), fun t ht => ?_⟩
      rw [cut_to (by omega)]
      have sU := sT.trans (same_new (o := HO.lst ((zs.take (i + 1)).map V.str)) ht)
      have ht2 : upd H3 t (HO.lst ((zs.take (i + 1)).map V.str)) t = some (.lst ((zs.take (i + 1)).map V.str)) := upd_same
      generalize upd H3 t (HO.lst ((zs.take (i + 1)).map V.str)) = H4 at sU ht2 ⊢
      dsimp only [tNil, tCons, tC]
      have gt := good_take ga (i + 1)
      refine apart_ok (.inl ht2) (by rw [List.length_take]; omega) gt.1 gt.2 fun H5 s5 => ?_
      refine ⟨_, rfl, iteF ?_⟩
      exact ⟨sU.trans s5, _, _, rfl⟩
    · subst es
      exact k _ s
theorem ok_Tongue {CB CBT C f : Addr} {fd : FuncData} (F : Fun K "__init__" "Tongue.__init__" s_Tongue_init f fd) (T : Txt mg) (R_BadTongue : Rcl P w K mg base "BadTongue" CBT "part") (c : Cls K C) (no : NoAttr K C "names") (C_is_row : Cal P w K mg base 1 "is_row" ["value", "least", "most"] spRow) (C_place_of_misfit : Cal P w K mg base 5 "place_of_misfit" ["names"] spMis) : FnOk P w K mg base (L2.CX P w) 6 f fd ["self", "names"] (spMk K C) := by
  refine F.okX sc_Tongue_init (fun vs H Q E h => ?_) (fun cdv A outer s H vs Q E hr h => ?_)
  · obtain ⟨x, dx, l, zs, rfl, _⟩ := h
    rfl
  · obtain ⟨x, dx, l, zs, rfl, hx, hl, e8, tr, k⟩ := h
    refine ⟨_, (pss_cons (ps_if (PW.pt (pw_or (pt_not (pt_val (pe_cal C_is_row (hr.mono (by decide)) (pa_cons (pv 1) (pa_cons (pe_gi T.g_MANY_WORDS) (pa_cons (pe_gi T.g_MANY_WORDS) pa_nil)))))) (pw_or1 (pt_cmpR op_notN (pe_cal C_place_of_misfit (hr.mono (by decide)) (pa_cons (pv 1) pa_nil)) pe_non (nomark _)))))
  (pss_one (ps_raise1 R_BadTongue rfl (takes_of rfl rfl rfl rfl) (hr.mono (by decide)) pe_str))
  pss_nil)
  (pss_one (ps_fld (pv 0) (pe_callTy call_tuple_of (by rfl) T.b_tuple boot_tuple (pa_cons (pv 1) pa_nil)) rfl))), ?_⟩
    have rb : rowB H (.ref l) 8 8 = true := by
      simp only [rowB, hl, List.length_map, e8]
      decide
    refine ⟨_, rfl, .ref l, 8, 8, rfl, .lst hl, fun H1 s1 => ?_⟩
    rw [rb]
    refine ⟨_, rfl, iteF ?_⟩
    refine ⟨_, rfl, l, zs, rfl, s1 _ _ hl, e8, tr, fun H2 s2 => ?_⟩
    refine ⟨rfl, _, rfl, iteF ?_⟩
    refine nx_in ?_
    have s12 := s1.trans s2
    refine ⟨_, rfl, l, _, rfl, .inl ⟨SqL.of (s12 _ _ hl), fun t ht => ?_⟩⟩
    have s3 := s12.trans (same_new (o := HO.tup (zs.map V.str)) ht)
    exact ⟨_, rfl, x, C, dx, [], rfl, s3 _ _ hx, c, no, by decide, k H2 t s12 ht⟩
theorem ok_need_tongue {CT CBT f : Addr} {fd : FuncData} (F : Fun K "need_tongue" "need_tongue" s_need_tongue f fd) (T : Txt mg) (atT : mg "Tongue" = some (.ref CT)) (R_BadTongue : Rcl P w K mg base "BadTongue" CBT "part") : FnOk P w K mg base (L2.CX P w) 3 f fd ["tongue"] (spNT K CT CBT) := by
  refine F.okX sc_need_tongue (fun vs H Q E h => ?_) (fun cdv A outer s H vs Q E hr h => ?_)
  · obtain ⟨v, t, b, rfl, _⟩ := h
    rfl
  · obtain ⟨v, t, b, rfl, ty, kt, kq, ke⟩ := h
    refine ⟨_, (pss_one (ps_if (pt_not (pt_val (pe_callB call_isi (by rfl) T.b_isinstance boot_isinstance (pa_cons (pv 0) (pa_cons (pe_gr atT) pa_nil)))))
  (pss_one (ps_raise1 R_BadTongue rfl (takes_of rfl rfl rfl rfl) (hr.mono (by decide)) pe_str))
  pss_nil)), ?_⟩
    refine ⟨v, rfl, v, .ref CT, t, _, b, rfl, .own _, ty, kt, _, rfl, ?_⟩
    cases b with
    | true => exact iteF (kq rfl)
    | false => exact iteT fun d hd => ke rfl H d (Same.refl _) hd
theorem ok_need_within {CBN f : Addr} {fd : FuncData} (F : Fun K "need_within" "need_within" s_need_within f fd) (T : Txt mg) (R_BadNumber : Rcl P w K mg base "BadNumber" CBN "part") (C_is_within : Cal P w K mg base 2 "is_within" ["value", "least", "most"] spWithin) : FnOk P w K mg base (L2.CX P w) 3 f fd ["value", "least", "most", "part"] (spNN CBN) := by
  refine F.okX sc_need_within (fun vs H Q E h => ?_) (fun cdv A outer s H vs Q E hr h => ?_)
  · obtain ⟨v, m, w_, rfl, _⟩ := h
    rfl
  · obtain ⟨v, m, w_, rfl, an, kq, ke⟩ := h
    refine ⟨_, (pss_one (ps_if (pt_not (pt_val (pe_cal C_is_within (hr.mono (by decide)) (pa_cons (pv 0) (pa_cons (pv 1) (pa_cons (pv 2) pa_nil))))))
  (pss_one (ps_raise1 R_BadNumber rfl (takes_of rfl rfl rfl rfl) (hr.mono (by decide)) (pv 3)))
  pss_nil)), ?_⟩
    refine ⟨_, rfl, _, rfl, _, rfl, v, .int 0, .int m, rfl, an, .inr ⟨_, rfl⟩, .inr ⟨_, rfl⟩, ?_⟩
    cases hb : inB v (.int 0) (.int m) with
    | true => exact ⟨_, rfl, iteF (kq hb)⟩
    | false => exact ⟨_, rfl, iteT ⟨_, rfl, fun d hd => ke hb H d (Same.refl _) hd⟩⟩
theorem ok_counts_to {C f : Addr} {fd : FuncData} (F : Fun K "counts_to" "counts_to" s_counts_to f fd) (T : Txt mg) (c : Cls K C) (no : NoAttr K C "names") : FnOk P w K mg base CX0 1 f fd ["tongue", "most"] (spCT K C) := by
  refine F.ok sc_counts_to (fun vs H Q E h => ?_) (fun cdv A outer s H vs Q E hr h => ?_)
  · obtain ⟨x, zs, m, rfl, _⟩ := h
    rfl
  · obtain ⟨x, zs, m, rfl, ⟨dx, t, hx, ht⟩, e8, tr, m4, k⟩ := h
    obtain ⟨ok, sp⟩ := sz_ok e8 tr
    refine ⟨_, (pss_cons (ps_setLc (i := 2) (own := [("name", 7)]) (g := gName 7) (tt := tYes) rfl sc_counts_to.nd rfl rfl (sw_true rfl rfl rfl (by decide +kernel)) (pi_tup (pe_fld (pv 0) rfl)) (blkOk_by (own := [("name", 7)]) (N := N_counts_to) (sc := defScope s_counts_to) (by decide +kernel)) (fun _ _ _ _ _ => (pg_name (i := 7) sc_counts_to.nd rfl (Or.inl rfl))) (fun _ _ _ _ _ => pts_nil) (fun _ _ _ _ _ => (pe_callB call_len_str (by rfl) T.b_len boot_len (pa_cons (pv 7) pa_nil))))
  (pss_cons (ps_set (i := 3) sc_counts_to.nd rfl (Or.inl rfl) (pe_bm0 PySem.F.plainAttrs_list PySem.F.slot_list_pop PySem.F.type_list_pop mt_pop (pv 2)))
  (pss_cons (ps_set (i := 4) sc_counts_to.nd rfl (Or.inr rfl) (pe_lst pa_nil))
  (pss_cons (ps_for PassesOwn.never rfl (pi_range1 rfl T.b_range (pa_cons (pe_op op_add (pv 1) pe_int) pa_nil)) (pg_name (i := 5) sc_counts_to.nd rfl (Or.inr rfl))
  (pss_cons (ps_set (i := 6) sc_counts_to.nd rfl (Or.inl rfl) (pe_callB (cr_sum rfl) (by rfl) T.b_sum boot_sum (pa_cons (pe_lc (own := [("size", 8)]) (g := gName 8) rfl sc_counts_to.nd (pi_list (pv 2)) (blkOk_by (own := [("size", 8)]) (N := N_counts_to) (sc := defScope s_counts_to) (by decide +kernel)) (fun _ _ _ _ _ => (pg_name (i := 8) sc_counts_to.nd rfl (Or.inl rfl))) (fun _ _ _ _ _ => (pts_one (pt_cmpR op_le (pv 8) (pv 5) (nomark _)))) (fun _ _ _ _ _ => (pe_ix (ix_listK (K := K) (by rfl)) (pv 4) (pe_op op_sub (pv 5) (pv 8)) (fun _ _ => rfl)))) pa_nil)))
  (pss_one (ps_expr (pe_bm PySem.F.plainAttrs_list PySem.F.slot_list_append PySem.F.type_list_append mt_append (pv 4) (pa_cons (pe_ifExp (pt_cmpR op_eq (pv 5) (pv 3) (nomark _)) (pe_op op_add (pv 6) pe_int) (pv 6)) pa_nil))))))
  (pss_one (ps_ret (pv 4))))))), ?_⟩
    refine ⟨_, rfl, x, C, dx, _, _, rfl, hx, c, no, rfl, t, rfl, ⟨_, SqT.of ht⟩, fun D hD => ?_⟩
    refine lc_map (f := lenV) (walk_tup (K := K) (xs := zs.map V.str)) hD (fun H' s => SqT.of (s _ _ ht)) (by rw [List.length_map, e8]; decide) (fun _ => rfl) (fun i x H' R hx s r => ?_) (fun H1 s1 hl => ?_)
    · rw [List.getElem?_map] at hx
      obtain ⟨z, hz, rfl⟩ := Option.map_eq_some_iff.mp hx
      exact ⟨_, rfl, z, rfl, Nat.le_trans (tr_hi tr z (List.mem_of_getElem? hz)) (by decide), r H' (Same.refl _)⟩
    have hl : H1 D = some (.lst (natV (szs zs ++ [en8 zs]))) := by
      rw [hl, ← sp]
      unfold natV
      rw [List.map_map, List.map_map]
      rfl
    unfold cnz at k
    generalize szs zs = sz at ok sp hl k
    generalize en8 zs = e at ok sp hl k
    dsimp only [gName]
    refine ⟨_, rfl, .inl ⟨rfl, _, SqL.of hl⟩, D, _, .int ((e : Nat) : Int), rfl, rfl, hl, by unfold natV; simp, ?_⟩
    have hDd : (natV (sz ++ [e])).dropLast = natV sz := by unfold natV; simp
    rw [hDd]
    have s2 := same_mut (o := HO.lst (natV sz)) s1 hD
    have h2 : upd H1 D (HO.lst (natV sz)) D = some (.lst (natV sz)) := upd_same
    generalize upd H1 D (HO.lst (natV sz)) = H2 at s2 h2 ⊢
    clear s1 hl hD hDd
    dsimp only [gName]
    refine ⟨by show 0 ≤ sizeLine; decide, fun co hco => ?_⟩
    have s3 := s2.trans (same_new (o := HO.lst []) hco)
    have h3 := same_new (o := HO.lst []) hco _ _ h2
    have c3 : upd H2 co (HO.lst []) co = some (.lst []) := upd_same
    have Dco : D ≠ co := ne_of_none h2 hco
    generalize upd H2 co (HO.lst []) = H3 at s3 h3 c3 ⊢
    have coH : H co = none := s2.free hco
    clear s2 h2 hco
    dsimp only [gName]
    refine ⟨_, rfl, _, _, rfl, rfl, ((m + 1 : Nat) : Int), rfl, by omega, by omega, ?_⟩
    refine for_range (n := m + 1) (fun i σ' H' => (∃ o5 o6 o7 o8, σ' = [some (.ref x), some (.int (m : Nat)), some (.ref D), some (.int (e : Nat)), some (.ref co), o5, o6, o7, o8]) ∧ Same H H' ∧ H' D = some (.lst (natV sz)) ∧ H' co = some (.lst (natV ((List.range i).map (cn sz e)))))
      ⟨⟨_, _, _, _, rfl⟩, s3, h3, c3⟩ (fun i σ' H4 hi h => ?_) (fun σ' H4 h => ?_)
    · clear s3 h3 c3
      obtain ⟨⟨o5, o6, o7, o8, rfl⟩, s4, h4, c4⟩ := h
      dsimp only [gName]
      refine ⟨_, rfl, D, rfl, ⟨_, SqL.of h4⟩, fun J hJ => ?_⟩
      refine lc_it (walk_list (K := K) (xs := natV sz)) (fun j H' => Same H4 H' ∧ H' J = some (.lst (((sz.take j).filter fun s => decide (s ≤ i)).map fun s => V.int ((cn sz e (i - s) : Nat) : Int)))) ⟨same_new hJ, by rw [upd_same]; rfl⟩ (fun j H' _ p => SqL.of (p.1 _ _ h4)) (fun j y H5 H' hj p q => ?_) (fun H5 p => ?_)
      · obtain ⟨s5, hm⟩ := p
        obtain ⟨rfl, hx⟩ := q
        unfold natV at hx hj
        rw [List.getElem?_map] at hx
        rw [List.length_map, ok.len] at hj
        obtain ⟨s, hs, rfl⟩ := Option.map_eq_some_iff.mp hx
        have slo := ok.lo s (List.mem_of_getElem? hs)
        refine ⟨rfl, _, rfl, _, rfl, _, _, rfl, rfl, _, rfl, ?_⟩
        by_cases pr : s ≤ i
        · rw [decide_eq_true (show ((s : Nat) : Int) ≤ 0 + ((i : Nat) : Int) by omega)]
          have lt : i - s < ((List.range i).map (cn sz e)).length := by rw [List.length_map, List.length_range]; omega
          have gt : atI (natV ((List.range i).map (cn sz e))) (0 + ((i : Nat) : Int) - ((s : Nat) : Int)) = some (.int ((cn sz e (i - s) : Nat) : Int)) := by
            have := atI_nat (natV_get lt)
            rw [show (((i - s : Nat)) : Int) = 0 + ((i : Nat) : Int) - ((s : Nat) : Int) by omega] at this
            rw [this, List.getD_eq_getElem?_getD, List.getElem?_map, List.getElem?_range (by omega)]
            rfl
          refine iteT ⟨_, rfl, _, rfl, _, rfl, _, _, rfl, rfl, co, _, _, _, rfl, rfl, SqL.of (s5 _ _ c4), gt, ?_⟩
          refine ⟨_, hm, Nat.lt_of_le_of_lt (m := 8) (by rw [List.length_map]; exact Nat.le_trans (List.length_filter_le _ _) (by rw [List.length_take]; omega)) (by decide), same_mut s5 hJ, ?_⟩
          rw [upd_same, take_filter_yes (b := fun s : Nat => decide (s ≤ i)) (fun s => V.int ((cn sz e (i - s) : Nat) : Int)) hs (decide_eq_true pr)]
        · rw [decide_eq_false (show ¬ ((s : Nat) : Int) ≤ 0 + ((i : Nat) : Int) by omega)]
          refine iteF ⟨s5, ?_⟩
          rw [hm, take_filter_no (b := fun s : Nat => decide (s ≤ i)) (fun s => V.int ((cn sz e (i - s) : Nat) : Int)) hs (decide_eq_false pr)]
      · obtain ⟨s5, hm⟩ := p
        have el : (natV sz).length = sz.length := by unfold natV; rw [List.length_map]
        rw [el, List.take_of_length_le (Nat.le_refl _)] at hm
        refine ⟨J, ((sz.filter fun s => decide (s ≤ i)).map fun s => cn sz e (i - s)).map fun n => ((n : Nat) : Int), rfl, SqL.of (by rw [hm, List.map_map, List.map_map]; rfl), ?_⟩
        rw [int_sum, pick_filter]
        have h5 := s5 _ _ h4
        have c5 := s5 _ _ c4
        have s45 := s4.trans s5
        clear hm s5 h4 c4 s4
        dsimp only [gName]
        have nx : ∀ v : Nat, v = cn sz e i → Same H (upd H5 co (.lst (natV ((List.range i).map (cn sz e)) ++ [.int ((v : Nat) : Int)]))) ∧ upd H5 co (.lst (natV ((List.range i).map (cn sz e)) ++ [.int ((v : Nat) : Int)])) D = some (.lst (natV sz)) ∧ upd H5 co (.lst (natV ((List.range i).map (cn sz e)) ++ [.int ((v : Nat) : Int)])) co = some (.lst (natV ((List.range (i + 1)).map (cn sz e)))) := by
          intro v hv
          refine ⟨same_mut s45 coH, (upd_ne Dco).trans h5, ?_⟩
          rw [upd_same, List.range_succ, List.map_append, hv]
          unfold natV
          rw [List.map_append]
          rfl
        have big : (natV ((List.range i).map (cn sz e))).length < sizeLine := by
          unfold natV
          rw [List.length_map, List.length_map, List.length_range]
          exact Nat.lt_of_le_of_lt (m := 401) (by omega) (by decide)
        have rcn := cn_rec (e := e) ok.lo i
        refine ⟨_, rfl, .inl ⟨rfl, _, SqL.of c5⟩, ?_⟩
        refine ⟨_, rfl, _, rfl, rfl, _, rfl, ?_⟩
        have de : decide (V.int (0 + ((i : Nat) : Int)) = V.int ((e : Nat) : Int)) = decide (i = e) := by
          rw [decide_eq_decide]
          exact ⟨fun z => by injection z with z; omega, fun z => by rw [z]; congr 1; omega⟩
        rw [de]
        by_cases ie : i = e
        · rw [decide_eq_true ie]
          rw [if_pos ie] at rcn
          refine iteT ⟨_, rfl, _, _, rfl, rfl, co, _, _, rfl, rfl, c5, big, ?_⟩
          exact ⟨⟨_, _, _, _, rfl⟩, nx (pick sz i (cn sz e) + 1) rcn.symm⟩
        · rw [decide_eq_false ie]
          rw [if_neg ie, Nat.add_zero] at rcn
          refine iteF ⟨_, rfl, co, _, _, rfl, rfl, c5, big, ?_⟩
          exact ⟨⟨_, _, _, _, rfl⟩, nx (pick sz i (cn sz e)) rcn.symm⟩
    · obtain ⟨⟨o5, o6, o7, o8, rfl⟩, s4, h4, c4⟩ := h
      exact ⟨_, rfl, k co H4 s4 c4⟩
theorem ok_how_many {CT CBT CBN f : Addr} {fd : FuncData} (F : Fun K "how_many" "how_many" s_how_many f fd) (T : Txt mg) (c : TgC K CT) (C_need_tongue : CalX P w K mg base 3 "need_tongue" ["tongue"] (spNT K CT CBT)) (C_need_within : CalX P w K mg base 3 "need_within" ["value", "least", "most", "part"] (spNN CBN)) (C_counts_to : Cal P w K mg base 1 "counts_to" ["tongue", "most"] (spCT K CT)) : FnOk P w K mg base (L2.CX P w) 4 f fd ["tongue", "length"] (spHM K CT CBT CBN) := by
  refine F.okX sc_how_many (fun vs H Q E h => ?_) (fun cdv A outer s H vs Q E hr h => ?_)
  · obtain ⟨v, w_, rfl, _⟩ := h
    rfl
  · obtain ⟨v, w_, rfl, h⟩ := h
    refine ⟨_, (pss_cons (ps_expr (pe_calE C_need_tongue (takes_of rfl rfl rfl rfl) (hr.mono (by decide)) (pa_cons (pv 0) pa_nil)))
  (pss_cons (ps_expr (pe_calE C_need_within (takes_of rfl rfl rfl rfl) (hr.mono (by decide)) (pa_cons (pv 1) (pa_cons pe_int (pa_cons (pe_gi T.g_MOST_LENGTH) (pa_cons pe_str pa_nil))))))
  (pss_one (ps_ret (pe_ix ix_list (pe_cal C_counts_to (hr.mono (by decide)) (pa_cons (pv 0) (pa_cons (pv 1) pa_nil))) (pv 1) (fun _ _ => rfl)))))), ?_⟩
    rcases h with ⟨t, ty, kt, eb⟩ | ⟨x, zs, rfl, tn_, e8, tr, an, h⟩
    · exact ⟨_, rfl, v, t, false, rfl, ty, kt, fun z => by (cases z), fun _ H1 d s1 hd => eb H1 d s1 hd⟩
    · refine ⟨_, rfl, .ref x, .ref CT, true, rfl, c.ty tn_, c.me, fun _ => ?_, fun z => by (cases z)⟩
      refine ⟨_, rfl, w_, 400, "length", rfl, an, fun hb => ?_, fun hb => ?_⟩
      · rcases h with ⟨nb, _⟩ | ⟨n, rfl, n4, k⟩
        · rw [nb] at hb
          cases hb
        · refine ⟨_, rfl, _, rfl, x, zs, n, rfl, tn_, e8, tr, n4, fun l H' s hl => ?_⟩
          refine ⟨_, rfl, l, _, _, _, rfl, rfl, SqL.of hl, ?_, k H' s⟩
          have lt : n < ((List.range (n + 1)).map (cnz zs)).length := by rw [List.length_map, List.length_range]; omega
          have := atI_nat (natV_get lt)
          rw [List.getD_eq_getElem?_getD, List.getElem?_map, List.getElem?_range (by omega)] at this
          exact this
      · rcases h with ⟨_, eb⟩ | ⟨n, rfl, n4, k⟩
        · exact fun H1 d s1 hd => eb H1 d s1 hd
        · exfalso
          have : inB (.int ((n : Nat) : Int)) (.int 0) (.int 400) = true := by
            show (true && (decide ((0 : Int) ≤ ((n : Nat) : Int)) && decide (((n : Nat) : Int) ≤ 400))) = true
            simp only [Bool.true_and, Bool.and_eq_true, decide_eq_true_eq]
            omega
          rw [this] at hb
          cases hb
end
end K18
set_option Elab.async false
set_option linter.all false
set_option maxRecDepth 100000
set_option maxHeartbeats 4000000
namespace K18
open PySem PySem.Spec PyProof.Rows L2 Own
def rowV (m : Nat) (f : Nat → Nat) : List V := natV ((List.range (m + 1)).map f)
theorem rowV_len {m : Nat} {f : Nat → Nat} : (rowV m f).length = m + 1 := by unfold rowV natV; simp
theorem rowV_get {m : Nat} {f : Nat → Nat} {i : Nat} (h : i ≤ m) : atI (rowV m f) ((i : Nat) : Int) = some (.int ((f i : Nat) : Int)) := by
  have lt : i < ((List.range (m + 1)).map f).length := by rw [List.length_map, List.length_range]; omega
  have := atI_nat (natV_get lt)
  rw [List.getD_eq_getElem?_getD, List.getElem?_map, List.getElem?_range (by omega)] at this
  exact this
theorem rowV_congr {m : Nat} {f g : Nat → Nat} (h : ∀ n, n ≤ m → f n = g n) : rowV m f = rowV m g := by
  unfold rowV
  congr 1
  refine List.map_congr_left fun n hn => h n ?_
  have := List.mem_range.mp hn
  omega
theorem rowV_set {m : Nat} {f : Nat → Nat} {i v : Nat} (h : i ≤ m) : (rowV m f).set i (.int ((v : Nat) : Int)) = rowV m fun n => if n = i then v else f n := by
  unfold rowV natV
  refine List.ext_getElem (by simp) fun j h1 h2 => ?_
  rw [List.getElem_set]
  simp only [List.getElem_map, List.getElem_range]
  by_cases q : i = j
  · rw [if_pos q, if_pos q.symm]
  · rw [if_neg q, if_neg (fun z => q z.symm)]
theorem rowV_zero (m : Nat) : (List.replicate (((m : Nat) : Int) + 1).toNat [V.int 0]).flatten = rowV m fun _ => 0 := by
  have e : ((((m : Nat) : Int) + 1)).toNat = m + 1 := rfl
  rw [e]
  unfold rowV natV
  rw [List.map_map]
  have : ∀ n : Nat, (List.replicate n [V.int 0]).flatten = (List.range n).map fun _ => V.int 0 := by
    intro n
    induction n with
    | zero => rfl
    | succ n ih => rw [List.replicate_succ', List.flatten_append, ih, List.range_succ, List.map_append]; rfl
  rw [this]
  rfl
theorem rowV_one (m : Nat) : [V.int 1] ++ (List.replicate (((m : Nat) : Int)).toNat [V.int 0]).flatten = rowV m fun n => if n = 0 then 1 else 0 := by
  have e : (((m : Nat) : Int)).toNat = m := rfl
  rw [e]
  unfold rowV natV
  rw [List.range_succ_eq_map, List.map_cons, List.map_cons, List.map_map, List.map_map]
  have : ∀ n : Nat, (List.replicate n [V.int 0]).flatten = (List.range n).map fun _ => V.int 0 := by
    intro n
    induction n with
    | zero => rfl
    | succ n ih => rw [List.replicate_succ', List.flatten_append, ih, List.range_succ, List.map_append]; rfl
  rw [this]
  rfl
theorem pick_snoc (L : List Nat) (s n : Nat) (f : Nat → Nat) : pick (L ++ [s]) n f = pick L n f + if s ≤ n then f (n - s) else 0 := by
  unfold pick
  rw [List.map_append, List.sum_append, List.map_singleton, List.sum_singleton]
theorem ixN_ok {n i : Nat} (h : i < n) : ixN n ((i : Nat) : Int) = some i := by
  unfold ixN
  rw [if_pos (by omega), if_pos (by omega), Int.toNat_natCast]
def fnd (sz : List Nat) (e k n : Nat) : Nat := if e ≤ n then upto sz k (n - e) else 0
theorem fnd_stop {sz : List Nat} {e k m : Nat} (ok : SzOk sz e) (km : k ≤ m) (z : ∀ n, n ≤ m → rw_ sz (k + 1) n = 0) : ∀ n, n ≤ m → fnd sz e (k + 1) n = cn sz e n := by
  intro n hn
  have zz : ∀ d n, n ≤ m → rw_ sz (k + 1 + d) n = 0 := by
    intro d
    induction d with
    | zero => exact z
    | succ d ih =>
      intro n hn
      show pick sz n (rw_ sz (k + 1 + d)) = 0
      have : pick sz n (rw_ sz (k + 1 + d)) = pick sz n (fun _ => 0) := pick_congr fun s hs q => ih (n - s) (by omega)
      rw [this]
      unfold pick
      have : ∀ L : List Nat, (L.map fun s => if s ≤ n then (fun _ => 0) (n - s) else 0).sum = 0 := by
        intro L
        induction L with
        | nil => rfl
        | cons x L ih => rw [List.map_cons, List.sum_cons, ih]; split <;> rfl
      exact this sz
  have h1 := ok.e1
  rw [cn_upto ok.lo n (k + 1 + (m - k)) (by omega)]
  unfold fnd
  by_cases q : e ≤ n
  · rw [if_pos q, if_pos q]
    exact (upto_more (fun j hj => by
      obtain ⟨d, rfl⟩ : ∃ d, j = k + 1 + d := ⟨j - (k + 1), by omega⟩
      exact zz d (n - e) (by omega)) (m - k)).symm
  · rw [if_neg q, if_neg q]
theorem fnd_end {sz : List Nat} {e m : Nat} (ok : SzOk sz e) : ∀ n, n ≤ m → fnd sz e (m + 1) n = cn sz e n := by
  intro n hn
  have h1 := ok.e1
  rw [cn_upto ok.lo n (m + 1) (by omega)]
  rfl
def spLC : Sp := fun vs H Q _ => ∃ (l : Addr) (zs : List Str) (m : Nat), vs = [.ref l, .int (m : Nat)] ∧ H l = some (.lst (zs.map V.str)) ∧ zs.length = 8 ∧ Tr (cod zs) ∧ 8 ≤ m ∧ m ≤ 400 ∧ ∀ r H', Same H H' → H' r = some (.lst (rowV m (cnz zs))) → Q (.ref r) H'
section
variable {P : Program} {w : World} {K : PySem.W.Frag} {mg : Str → Option Value} {base : Heap}
theorem ok_law_counts {f : Addr} {fd : FuncData} (F : Fun K "_law_counts" "_law_counts" s__law_counts f fd) (T : Txt mg) : FnOk P w K mg base CX0 1 f fd ["names", "most"] spLC := by
  refine F.ok sc__law_counts (fun vs H Q E h => ?_) (fun cdv A outer s H vs Q E hr h => ?_)
  · obtain ⟨l, zs, m, rfl, _⟩ := h
    rfl
  · obtain ⟨l, zs, m, rfl, hl, e8, tr, m8, m4, k⟩ := h
    obtain ⟨ok, sp⟩ := sz_ok e8 tr
    refine ⟨_, (pss_cons (ps_par3 (i := 2) (j := 3) (l := 4) rfl sc__law_counts.nd rfl rfl rfl (by decide) (by decide) (by decide) rfl rfl rfl (pa_cons (pe_lc (own := [("name", 9)]) (g := gName 9) (tt := tYes) rfl sc__law_counts.nd (pi_list (pv 0)) (blkOk_by (own := [("name", 9)]) (N := N__law_counts) (sc := defScope s__law_counts) (by decide +kernel)) (fun _ _ _ _ _ => (pg_name (i := 9) sc__law_counts.nd rfl (Or.inl rfl))) (fun _ _ _ _ _ => pts_nil) (fun _ _ _ _ _ => (pe_callB call_len_str (by rfl) T.b_len boot_len (pa_cons (pv 9) pa_nil)))) (pa_cons (pe_op op_cat (pe_lst (pa_cons pe_int pa_nil)) (pe_op op_rep (pe_lst (pa_cons pe_int pa_nil)) (pv 1))) (pa_cons (pe_op op_rep (pe_lst (pa_cons pe_int pa_nil)) (pe_op op_add (pv 1) pe_int)) pa_nil))) rfl)
  (pss_cons (ps_for PassesOwn.never rfl (pi_range1 rfl T.b_range (pa_cons (pe_op op_add (pv 1) pe_int) pa_nil)) (pg_name (i := 5) sc__law_counts.nd rfl (Or.inl rfl))
  (pss_cons (ps_for PassesOwn.never rfl (pi_range1 rfl T.b_range (pa_cons (pe_op op_sub (pe_op op_add (pv 1) pe_int) (pe_ix ix_list (pv 2) pe_int (fun _ _ => rfl))) pa_nil)) (pg_name (i := 6) sc__law_counts.nd rfl (Or.inl rfl))
  (pss_one (ps_asg (pe_op op_add (pe_ix ix_list (pv 4) (pe_op op_add (pv 6) (pe_ix ix_list (pv 2) pe_int (fun _ _ => rfl))) (fun _ _ => rfl)) (pe_ix ix_list (pv 3) (pv 6) (fun _ _ => rfl))) (pg_sub (pv 4) (pe_op op_add (pv 6) (pe_ix ix_list (pv 2) pe_int (fun _ _ => rfl))) set_list))))
  (pss_cons (ps_set (i := 7) sc__law_counts.nd rfl (Or.inl rfl) (pe_op op_rep (pe_lst (pa_cons pe_int pa_nil)) (pe_op op_add (pv 1) pe_int)))
  (pss_cons (ps_for PassesOwn.never rfl (pi_list (pe_slice sl_list (pv 2) po_none (po_some pe_int))) (pg_name (i := 8) sc__law_counts.nd rfl (Or.inl rfl))
  (pss_one (ps_for PassesOwn.never rfl (pi_range2 rfl T.b_range (pa_cons (pv 8) (pa_cons (pe_op op_add (pv 1) pe_int) pa_nil))) (pg_name (i := 6) sc__law_counts.nd rfl (Or.inl rfl))
  (pss_one (ps_asg (pe_op op_add (pe_ix ix_list (pv 7) (pv 6) (fun _ _ => rfl)) (pe_ix ix_list (pv 3) (pe_op op_sub (pv 6) (pv 8)) (fun _ _ => rfl))) (pg_sub (pv 7) (pv 6) set_list))))))
  (pss_cons (ps_set (i := 3) sc__law_counts.nd rfl (Or.inl rfl) (pv 7))
  (pss_one (ps_if (pt_cmpR op_eq (pe_callB (cr_max rfl) (by rfl) T.b_max boot_max (pa_cons (pv 3) pa_nil)) pe_int (nomark _))
  (pss_one ps_break)
  pss_nil)))))))
  (pss_one (ps_ret (pv 4))))), ?_⟩
    refine ⟨_, rfl, l, rfl, ⟨_, SqL.of hl⟩, fun S hS => ?_⟩
    refine lc_map (f := lenV) (walk_list (K := K) (xs := zs.map V.str)) hS (fun H' s => SqL.of (s _ _ hl)) (by rw [List.length_map, e8]; decide) (fun _ => rfl) (fun i x H' R hx s r => ?_) (fun H1 s1 h1 => ?_)
    · rw [List.getElem?_map] at hx
      obtain ⟨z, hz, rfl⟩ := Option.map_eq_some_iff.mp hx
      exact ⟨_, rfl, z, rfl, Nat.le_trans (tr_hi tr z (List.mem_of_getElem? hz)) (by decide), r H' (Same.refl _)⟩
    have h1 : H1 S = some (.lst (natV (szs zs ++ [en8 zs]))) := by
      rw [h1, ← sp]
      unfold natV
      rw [List.map_map, List.map_map]
      rfl
    unfold cnz at k
    generalize szs zs = sz at ok sp h1 k
    generalize en8 zs = e at ok sp h1 k
    clear hS hl tr e8 sp
    refine ⟨by show 1 ≤ sizeLine; decide, fun t1 ht1 => ?_⟩
    have s2 := same_new (o := HO.lst [V.int 1]) ht1
    have a1 : upd H1 t1 (HO.lst [V.int 1]) t1 = some (.lst [V.int 1]) := upd_same
    generalize upd H1 t1 (HO.lst [V.int 1]) = H2 at s2 a1 ⊢
    refine ⟨by show 1 ≤ sizeLine; decide, fun t2 ht2 => ?_⟩
    have s3 := same_new (o := HO.lst [V.int 0]) ht2
    have a2 : upd H2 t2 (HO.lst [V.int 0]) t2 = some (.lst [V.int 0]) := upd_same
    generalize upd H2 t2 (HO.lst [V.int 0]) = H3 at s3 a2 ⊢
    refine ⟨_, rfl, t2, _, _, rfl, rfl, a2, by omega, by omega, Nat.le_trans (m := 400) (by show 1 * m ≤ 400; omega) (by decide), fun t3 ht3 => ?_⟩
    have s4 := same_new (o := HO.lst (List.replicate (((m : Nat) : Int)).toNat [V.int 0]).flatten) ht3
    have a3 : upd H3 t3 (HO.lst (List.replicate (((m : Nat) : Int)).toNat [V.int 0]).flatten) t3 = some (.lst (List.replicate (((m : Nat) : Int)).toNat [V.int 0]).flatten) := upd_same
    have a14 := s4 _ _ (s3 _ _ a1)
    have s14 := (s2.trans s3).trans s4
    generalize upd H3 t3 (HO.lst (List.replicate (((m : Nat) : Int)).toNat [V.int 0]).flatten) = H4 at s14 a3 a14 ⊢
    have len0 : ∀ n : Nat, ((List.replicate n [V.int 0]).flatten).length = n := by
      intro n
      induction n with
      | zero => rfl
      | succ n ih => rw [List.replicate_succ, List.flatten_cons, List.length_append, ih]; show 1 + n = n + 1; omega
    refine ⟨t1, t3, _, _, rfl, rfl, a14, a3, Nat.le_trans (m := 401) (by rw [len0]; show 1 + m ≤ 401; omega) (by decide), fun R hR => ?_⟩
    rw [rowV_one]
    have s5 := s14.trans (same_new (o := HO.lst (rowV m fun n => if n = 0 then 1 else 0)) hR)
    have r5 : upd H4 R (HO.lst (rowV m fun n => if n = 0 then 1 else 0)) R = some (.lst (rowV m fun n => if n = 0 then 1 else 0)) := upd_same
    have RH : H R = none := (s1.trans s14).free hR
    generalize upd H4 R (HO.lst (rowV m fun n => if n = 0 then 1 else 0)) = H5 at s5 r5 ⊢
    clear a14 a3 a2 a1 s2 s3 s4 s14 ht1 ht2 ht3 hR
    refine ⟨by show 1 ≤ sizeLine; decide, fun t4 ht4 => ?_⟩
    have s6 := same_new (o := HO.lst [V.int 0]) ht4
    have a4 : upd H5 t4 (HO.lst [V.int 0]) t4 = some (.lst [V.int 0]) := upd_same
    generalize upd H5 t4 (HO.lst [V.int 0]) = H6 at s6 a4 ⊢
    refine ⟨_, rfl, _, _, rfl, rfl, t4, _, _, rfl, rfl, a4, by omega, by omega, Nat.le_trans (m := 401) (by show 1 * (m + 1) ≤ 401; omega) (by decide), fun Fo hFo => ?_⟩
    rw [rowV_zero]
    have FoH : H Fo = none := (s1.trans (s5.trans s6)).free hFo
    have r6 := s6 _ _ r5
    have RFo : R ≠ Fo := ne_of_none r6 hFo
    have S6 := (s5.trans s6) _ _ h1
    have SFo : S ≠ Fo := ne_of_none S6 hFo
    have s7 := same_new (o := HO.lst (rowV m fun _ => 0)) hFo
    have r7 := s7 _ _ r6
    have S7 := s7 _ _ S6
    have f7 : upd H6 Fo (HO.lst (rowV m fun _ => 0)) Fo = some (.lst (rowV m fun _ => 0)) := upd_same
    have sAll := (s1.trans (s5.trans s6)).trans s7
    generalize upd H6 Fo (HO.lst (rowV m fun _ => 0)) = H7 at r7 S7 f7 sAll ⊢
    clear s1 s5 s6 s7 r5 r6 S6 a4 ht4 hFo h1 RH
    refine ⟨_, _, _, rfl, ?_⟩
    dsimp only
    refine ⟨_, rfl, _, _, rfl, rfl, ((m + 1 : Nat) : Int), rfl, by omega, by omega, ?_⟩
    refine for_range (n := m + 1) (fun i σ' H' => ∃ (R : Addr) (o5 o6 o7 o8 o9 : Option V), σ' = [some (.ref l), some (.int (m : Nat)), some (.ref S), some (.ref R), some (.ref Fo), o5, o6, o7, o8, o9] ∧ Same H H' ∧ R ≠ Fo ∧ H' S = some (.lst (natV (sz ++ [e]))) ∧ H' R = some (.lst (rowV m (rw_ sz i))) ∧ H' Fo = some (.lst (rowV m (fnd sz e i))))
      ⟨R, _, _, _, _, _, rfl, sAll, RFo, S7, r7, by rw [f7]; congr 2; refine rowV_congr fun n _ => ?_; unfold fnd upto; split <;> rfl⟩ (fun i σ' H8 hi h => ?_) (fun σ' H8 h => ?_)
    · clear r7 S7 f7 sAll RFo
      obtain ⟨R, o5, o6, o7, o8, o9, rfl, s8, RFo, S8, r8, f8⟩ := h
      have e8' := ok.e8
      have g7 : atI (natV (sz ++ [e])) 7 = some (.int ((e : Nat) : Int)) := by
        have lt : 7 < (sz ++ [e]).length := by rw [List.length_append, ok.len]; show 7 < 7 + 1; decide
        have := atI_nat (natV_get lt)
        rw [List.getD_eq_getElem?_getD, List.getElem?_append_right (by rw [ok.len]; exact Nat.le_refl _), ok.len] at this
        exact this
      dsimp only [gName]
      refine ⟨_, rfl, _, _, rfl, rfl, _, rfl, S, _, _, _, rfl, rfl, SqL.of S8, g7, _, _, rfl, rfl, ((m + 1 - e : Nat) : Int), by rw [show (((m + 1 - e : Nat)) : Int) = ((m : Nat) : Int) + 1 - ((e : Nat) : Int) by omega], by omega, by omega, ?_⟩
      refine for_range (n := m + 1 - e) (fun j σ' H' => ∃ (o6 o7 o8 o9 : Option V), σ' = [some (.ref l), some (.int (m : Nat)), some (.ref S), some (.ref R), some (.ref Fo), some (.int (0 + (i : Int))), o6, o7, o8, o9] ∧ Same H H' ∧ H' S = some (.lst (natV (sz ++ [e]))) ∧ H' R = some (.lst (rowV m (rw_ sz i))) ∧ H' Fo = some (.lst (rowV m fun n => if e ≤ n ∧ n - e < j then fnd sz e (i + 1) n else fnd sz e i n)))
        ⟨_, _, _, _, rfl, s8, S8, r8, by rw [f8]; congr 2; exact rowV_congr fun n _ => (if_neg (fun h => Nat.not_lt_zero _ h.2)).symm⟩ (fun j σ' H9 hj h => ?_) (fun σ' H9 h => ?_)
      · clear s8 S8 r8 f8
        obtain ⟨o6, o7, o8, o9, rfl, s9, S9, r9, f9⟩ := h
        have jm : j + e ≤ m := by omega
        have gF := rowV_get (f := fun n => if e ≤ n ∧ n - e < j then fnd sz e (i + 1) n else fnd sz e i n) jm
        rw [show (((j + e : Nat)) : Int) = 0 + ((j : Nat) : Int) + ((e : Nat) : Int) by omega] at gF
        have gR := rowV_get (m := m) (f := rw_ sz i) (i := j) (by omega)
        rw [show ((j : Nat) : Int) = 0 + ((j : Nat) : Int) by omega] at gR
        have gI := ixN_ok (n := (rowV m fun n => if e ≤ n ∧ n - e < j then fnd sz e (i + 1) n else fnd sz e i n).length) (i := j + e) (by rw [rowV_len]; omega)
        rw [show (((j + e : Nat)) : Int) = 0 + ((j : Nat) : Int) + ((e : Nat) : Int) by omega] at gI
        dsimp only [gName]
        refine ⟨_, rfl, _, rfl, _, rfl, S, _, _, _, rfl, rfl, SqL.of S9, g7, _, _, rfl, rfl, Fo, _, _, _, rfl, rfl, SqL.of f9, gF, _, rfl, _, rfl, R, _, _, _, rfl, rfl, SqL.of r9, gR, _, _, rfl, rfl, _, rfl, _, rfl, _, rfl, S, _, _, _, rfl, rfl, SqL.of S9, g7, _, _, rfl, rfl, Fo, _, _, j + e, rfl, rfl, f9, gI, ?_⟩
        dsimp only
        rw [← Int.natCast_add, rowV_set jm]
        refine ⟨_, _, _, _, rfl, same_mut s9 FoH, (upd_ne SFo).trans S9, (upd_ne RFo).trans r9, ?_⟩
        rw [upd_same]
        congr 2
        refine rowV_congr fun n hn => ?_
        by_cases q : n = j + e
        · rw [if_pos q, if_neg (show ¬ (e ≤ j + e ∧ j + e - e < j) by omega), if_pos (show e ≤ n ∧ n - e < j + 1 from ⟨by omega, by omega⟩), q]
          unfold fnd
          rw [if_pos (show e ≤ j + e by omega), if_pos (show e ≤ j + e by omega), upto_succ, show j + e - e = j by omega]
        · rw [if_neg q]
          by_cases q2 : e ≤ n ∧ n - e < j
          · rw [if_pos q2, if_pos ⟨q2.1, by omega⟩]
          · rw [if_neg q2, if_neg (by omega)]
      · clear s8 S8 r8 f8
        obtain ⟨o6, o7, o8, o9, rfl, s9, S9, r9, f9⟩ := h
        have f9 : H9 Fo = some (.lst (rowV m (fnd sz e (i + 1)))) := by
          rw [f9]
          congr 2
          refine rowV_congr fun n hn => ?_
          by_cases q : e ≤ n
          · rw [if_pos ⟨q, by omega⟩]
          · rw [if_neg (fun h => q h.1)]
            unfold fnd
            rw [if_neg q, if_neg q]
        refine ⟨by show 1 ≤ sizeLine; decide, fun t4 ht4 => ?_⟩
        have sA := same_new (o := HO.lst [V.int 0]) ht4
        have a4 : upd H9 t4 (HO.lst [V.int 0]) t4 = some (.lst [V.int 0]) := upd_same
        generalize upd H9 t4 (HO.lst [V.int 0]) = HA at sA a4 ⊢
        refine ⟨_, rfl, _, _, rfl, rfl, t4, _, _, rfl, rfl, a4, by omega, by omega, Nat.le_trans (m := 401) (by show 1 * (m + 1) ≤ 401; omega) (by decide), fun Lo hLo => ?_⟩
        rw [rowV_zero]
        have sB := sA.trans (same_new (o := HO.lst (rowV m fun _ => 0)) hLo)
        have LoH : H Lo = none := (s9.trans sA).free hLo
        have SA := sA _ _ S9
        have rA := sA _ _ r9
        have fA := sA _ _ f9
        have SLo : S ≠ Lo := ne_of_none SA hLo
        have RLo : R ≠ Lo := ne_of_none rA hLo
        have FLo : Fo ≠ Lo := ne_of_none fA hLo
        have lB : upd HA Lo (HO.lst (rowV m fun _ => 0)) Lo = some (.lst (rowV m fun _ => 0)) := upd_same
        have SB := sB _ _ S9
        have rB := sB _ _ r9
        have fB := sB _ _ f9
        have sAll := s9.trans sB
        generalize upd HA Lo (HO.lst (rowV m fun _ => 0)) = HB at lB SB rB fB sAll ⊢
        clear sA a4 sB SA rA fA S9 r9 f9 s9 ht4 hLo
        dsimp only [gName]
        refine ⟨_, rfl, 7, rfl, S, _, rfl, SqL.of SB, fun t5 ht5 => ?_⟩
        have c7 : cutV (natV (sz ++ [e])) none (some 7) = natV sz := by
          unfold cutV
          show ((natV (sz ++ [e])).drop 0).take (min 7 (natV (sz ++ [e])).length - 0) = _
          have el : (natV (sz ++ [e])).length = 8 := by unfold natV; rw [List.length_map, List.length_append, ok.len]; rfl
          rw [el, List.drop_zero]
          unfold natV
          rw [List.map_append, List.take_append_of_le_length (by rw [List.length_map, ok.len]; decide), List.take_of_length_le (by rw [List.length_map, ok.len]; decide)]
        rw [c7]
        have sC := same_new (o := HO.lst (natV sz)) ht5
        have h5 : upd HB t5 (HO.lst (natV sz)) t5 = some (.lst (natV sz)) := upd_same
        have t5H : H t5 = none := sAll.free ht5
        have t5Lo : t5 ≠ Lo := (ne_of_none lB ht5).symm
        have lC := sC _ _ lB
        have SC := sC _ _ SB
        have rC := sC _ _ rB
        have fC := sC _ _ fB
        have sD := sAll.trans sC
        generalize upd HB t5 (HO.lst (natV sz)) = HC at h5 lC SC rC fC sD ⊢
        clear sC lB SB rB fB sAll ht5 c7
        refine ⟨t5, rfl, ⟨_, SqL.of h5⟩, ?_⟩
        have RFo' := RFo
        refine for_list (K := K) (a := t5) (xs := natV sz) (fun a σ' H' => ∃ (o6 o8 o9 : Option V), σ' = [some (.ref l), some (.int (m : Nat)), some (.ref S), some (.ref R), some (.ref Fo), some (.int (0 + (i : Int))), o6, some (.ref Lo), o8, o9] ∧ Same H H' ∧ H' S = some (.lst (natV (sz ++ [e]))) ∧ H' R = some (.lst (rowV m (rw_ sz i))) ∧ H' Fo = some (.lst (rowV m (fnd sz e (i + 1)))) ∧ H' t5 = some (.lst (natV sz)) ∧ H' Lo = some (.lst (rowV m fun n => pick (sz.take a) n (rw_ sz i))))
          ⟨_, _, _, rfl, sD, SC, rC, fC, h5, lC⟩ (fun a σ' H' _ h => by obtain ⟨_, _, _, _, _, _, _, _, h, _⟩ := h; exact SqL.of h) (fun a x σ' HD hx h => ?_) (fun σ' HD h => ?_)
        · clear sD SC rC fC h5 lC
          obtain ⟨o6, o8, o9, rfl, sD, SD, rD, fD, hD5, lD⟩ := h
          unfold natV at hx
          rw [List.getElem?_map] at hx
          obtain ⟨s, hs, rfl⟩ := Option.map_eq_some_iff.mp hx
          have s1 := ok.lo s (List.mem_of_getElem? hs)
          have s8 := ok.hi s (List.mem_of_getElem? hs)
          have tk : sz.take (a + 1) = sz.take a ++ [s] := by rw [List.take_succ, hs]; rfl
          dsimp only [gName]
          refine ⟨_, rfl, _, rfl, _, _, rfl, rfl, ((s : Nat) : Int), ((m : Nat) : Int) + 1, rfl, ⟨by omega, by omega, by omega, by omega⟩, ?_⟩
          rw [show (((m : Nat) : Int) + 1 - ((s : Nat) : Int)).toNat = m + 1 - s by omega]
          refine for_range (n := m + 1 - s) (fun b σ' H' => ∃ (o6 o9 : Option V), σ' = [some (.ref l), some (.int (m : Nat)), some (.ref S), some (.ref R), some (.ref Fo), some (.int (0 + (i : Int))), o6, some (.ref Lo), some (.int (s : Nat)), o9] ∧ Same H H' ∧ H' S = some (.lst (natV (sz ++ [e]))) ∧ H' R = some (.lst (rowV m (rw_ sz i))) ∧ H' Fo = some (.lst (rowV m (fnd sz e (i + 1)))) ∧ H' t5 = some (.lst (natV sz)) ∧ H' Lo = some (.lst (rowV m fun n => pick (sz.take a) n (rw_ sz i) + if s ≤ n ∧ n < s + b then rw_ sz i (n - s) else 0)))
            ⟨_, _, rfl, sD, SD, rD, fD, hD5, by rw [lD]; congr 2; exact rowV_congr fun n _ => by rw [if_neg (by omega), Nat.add_zero]⟩ (fun b σ' HE hb h => ?_) (fun σ' HE h => ?_)
          · clear sD SD rD fD hD5 lD
            obtain ⟨o6, o9, rfl, sE, SE, rE, fE, hE5, lE⟩ := h
            have jm : s + b ≤ m := by omega
            have g1 := rowV_get (f := fun n => pick (sz.take a) n (rw_ sz i) + if s ≤ n ∧ n < s + b then rw_ sz i (n - s) else 0) jm
            have g2 := rowV_get (m := m) (f := rw_ sz i) (i := b) (by omega)
            have gI := ixN_ok (n := (rowV m fun n => pick (sz.take a) n (rw_ sz i) + if s ≤ n ∧ n < s + b then rw_ sz i (n - s) else 0).length) (i := s + b) (by rw [rowV_len]; omega)
            rw [Int.natCast_add] at g1 gI
            rw [show ((b : Nat) : Int) = ((s : Nat) : Int) + ((b : Nat) : Int) - ((s : Nat) : Int) by omega] at g2
            dsimp only [gName]
            refine ⟨_, rfl, _, rfl, Lo, _, _, _, rfl, rfl, SqL.of lE, g1, _, rfl, _, rfl, _, rfl, _, _, rfl, rfl, R, _, _, _, rfl, rfl, SqL.of rE, g2, _, _, rfl, rfl, _, rfl, _, rfl, Lo, _, _, s + b, rfl, rfl, lE, gI, ?_⟩
            dsimp only
            rw [← Int.natCast_add, ← Int.natCast_add, rowV_set jm]
            have RLo : R ≠ Lo := RLo
            refine ⟨_, _, rfl, same_mut sE LoH, (upd_ne SLo).trans SE, (upd_ne RLo).trans rE, (upd_ne FLo).trans fE, (upd_ne t5Lo).trans hE5, ?_⟩
            rw [upd_same]
            congr 2
            refine rowV_congr fun n hn => ?_
            by_cases q : n = s + b
            · rw [if_pos q, if_neg (show ¬ (s ≤ s + b ∧ s + b < s + b) by omega), if_pos (show s ≤ n ∧ n < s + (b + 1) by omega), q, Nat.add_zero, show s + b - s = b by omega]
            · rw [if_neg q]
              congr 1
              by_cases q2 : s ≤ n ∧ n < s + b
              · rw [if_pos q2, if_pos (by omega)]
              · rw [if_neg q2, if_neg (by omega)]
          · clear sD SD rD fD hD5 lD
            obtain ⟨o6, o9, rfl, sE, SE, rE, fE, hE5, lE⟩ := h
            refine ⟨_, _, _, rfl, sE, SE, rE, fE, hE5, ?_⟩
            rw [lE]
            congr 2
            refine rowV_congr fun n hn => ?_
            rw [tk, pick_snoc]
            congr 1
            by_cases q : s ≤ n
            · rw [if_pos ⟨q, by omega⟩, if_pos q]
            · rw [if_neg (fun h => q h.1), if_neg q]
        · clear sD SC rC fC h5 lC
          obtain ⟨o6, o8, o9, rfl, sD, SD, rD, fD, hD5, lD⟩ := h
          have el : (natV sz).length = sz.length := by unfold natV; rw [List.length_map]
          rw [el, List.take_of_length_le (Nat.le_refl _)] at lD
          have lD : HD Lo = some (.lst (rowV m (rw_ sz (i + 1)))) := lD
          refine ⟨_, rfl, ?_⟩
          dsimp only [gName]
          refine ⟨_, rfl, Lo, ((List.range (m + 1)).map (rw_ sz (i + 1))).map fun n => ((n : Nat) : Int), rfl, SqL.of (by rw [lD]; unfold rowV natV; rw [List.map_map, List.map_map, List.map_map]; rfl), by simp, fun mx hmx hmax => ?_⟩
          refine ⟨rfl, _, rfl, ?_⟩
          refine ite2 (fun h0 => ?_) (fun _ => ?_)
          · have m0 : mx = 0 := by
              have := of_decide_eq_true h0
              injection this
            have z : ∀ n, n ≤ m → rw_ sz (i + 1) n = 0 := fun n hn => by
              have := hmax _ (List.mem_map.mpr ⟨rw_ sz (i + 1) n, List.mem_map.mpr ⟨n, List.mem_range.mpr (by omega), rfl⟩, rfl⟩)
              omega
            refine ⟨_, rfl, k Fo HD sD ?_⟩
            rw [fD]
            congr 2
            exact rowV_congr fun n hn => fnd_stop ok (by omega) z n hn
          · exact ⟨Lo, _, _, _, _, _, rfl, sD, FLo.symm, SD, lD, fD⟩
    · obtain ⟨R, o5, o6, o7, o8, o9, rfl, s8, RFo, S8, r8, f8⟩ := h
      refine ⟨_, rfl, k Fo H8 s8 ?_⟩
      rw [f8]
      congr 2
      exact rowV_congr fun n hn => fnd_end ok n hn
end
end K18
set_option Elab.async false
set_option linter.all false
set_option maxRecDepth 100000
set_option maxHeartbeats 4000000
/-! a lambda of one parameter with a default, handed to a def that calls it with nothing -/
namespace Own
open PySem PySem.Spec PyProof.Rows L2 LamX
/-- its names: the parameter a0, captured ones, globals -/
structure Lm1 (a0 : Str) (mine scope : Scope) : Prop where
  fun_ : scope.kind = .function
  plain : scope.isCoroutine = false ∧ scope.isGenerator = false
  par : scope.names.lookup a0 = some .local
  only : ∀ y k, (y, k) ∈ scope.names → k ≠ .cell ∧ (k = .local → y = a0) ∧ (k = .free → mine.names.lookup y = some .cell ∨ mine.names.lookup y = some .free)
def lm1B (a0 : Str) (mine scope : Scope) : Bool :=
  (decide (scope.kind = .function) && !scope.isCoroutine) && (!scope.isGenerator && decide (scope.names.lookup a0 = some .local)) && scope.names.all fun (y, k) => match k with
    | .cell => false
    | .local => decide (y = a0)
    | .free => decide (mine.names.lookup y = some .cell) || decide (mine.names.lookup y = some .free)
    | _ => true
theorem lm1_of {a0 : Str} {mine scope : Scope} (b : lm1B a0 mine scope = true) : Lm1 a0 mine scope := by
  simp only [lm1B, Bool.and_eq_true, Bool.not_eq_true', decide_eq_true_eq, List.all_eq_true] at b
  obtain ⟨⟨⟨k, co⟩, ge, at0⟩, all⟩ := b
  refine { fun_ := k, plain := ⟨co, ge⟩, par := at0, only := fun y k m => ?_ }
  have z := all (y, k) m
  cases k <;> simp_all
/-- what is captured is the maker's own cell -/
theorem cap_in {X : Cx} {a0 : Str} {scope : Scope} (L : Lm1 a0 X.env.scope scope) (ok : X.Ok) (y : Str) (k : scope.names.lookup y = some .free) :
    ∃ c, X.env.cells.lookup y = some c ∧ (cloFrom X.env.cells scope.names []).lookup y = some c := by
  have m := PySem.mem_of_lookup k
  obtain ⟨c, e⟩ : ∃ c, X.env.cells.lookup y = some c := ok.has y ((L.only y _ m).2.2 rfl)
  obtain ⟨c', e'⟩ := mem_lookup (cloFrom_has (cells := X.env.cells) (acc := []) m)
  rcases cloFrom_mem (PySem.mem_of_lookup e') with no | ⟨_, is⟩
  · exact nomatch no
  · rw [e] at is
    obtain rfl : c' = c := is
    exact ⟨c', e, e'⟩
theorem cap_of {X : Cx} {a0 : Str} {scope : Scope} (L : Lm1 a0 X.env.scope scope) (ok : X.Ok) (y : Str) (c : Addr) (e : (cloFrom X.env.cells scope.names []).lookup y = some c) : X.env.cells.lookup y = some c := by
  rcases cloFrom_mem (PySem.mem_of_lookup e) with no | ⟨m, is⟩
  · exact nomatch no
  · obtain ⟨d, hd⟩ : ∃ d, X.env.cells.lookup y = some d := ok.has y ((L.only y _ m).2.2 rfl)
    rw [is, hd]
    rfl
/-- a table grown by one code object -/
theorem tabs_more {T : List (Addr × Str)} {H : Hp} {B c : Addr} {q : Str} {ps : Array Value} {u v : Value} (t : Tabs T H) (hB : H B = some (.tbl ps)) (u1 : ∀ r ∈ T, r.1 = B → r.2 = q) (ok3 : TriplesOk (ps ++ #[u, v, .ref c]).toList)
    (old : ∀ pos cv, codeAmong pos (ps ++ #[u, v, .ref c]).toList = some cv → codeAmong pos ps.toList = some cv ∨ cv = .ref c) (nc : H c = none) :
    ExtN H (upd (upd H B (.tbl (ps ++ #[u, v, .ref c]))) c (CodeO c q)) ∧ Tabs T (upd (upd H B (.tbl (ps ++ #[u, v, .ref c]))) c (CodeO c q)) := by
  have bc : B ≠ c := ne_of_none hB nc
  have ext : ExtN H (upd (upd H B (.tbl (ps ++ #[u, v, .ref c]))) c (CodeO c q)) := by
    intro b o is nt
    by_cases bB : b = B
    · subst bB
      exact absurd (Option.some.inj (is.symm.trans hB)) (nt ps)
    · exact (upd_ne (ne_of_none is nc)).trans ((upd_ne bB).trans is)
  refine ⟨ext, fun r hr => ?_⟩
  obtain ⟨rs, r1, r2, r3⟩ := t r hr
  by_cases rB : r.1 = B
  · rw [rB, u1 r hr rB]
    rw [rB, hB] at r1
    obtain rfl : ps = rs := by injection Option.some.inj r1
    refine ⟨_, (upd_ne bc).trans upd_same, ok3, fun pos cv is => ?_⟩
    rcases old pos cv is with is | is
    · obtain ⟨d, e1, e2⟩ := r3 pos cv is
      rw [u1 r hr rB] at e2
      exact ⟨d, e1, ext _ _ e2 codeO_ne⟩
    · exact ⟨c, is, upd_same⟩
  · refine ⟨rs, (upd_ne (ne_of_none r1 nc)).trans ((upd_ne rB).trans r1), r2, fun pos cv is => ?_⟩
    obtain ⟨d, e1, e2⟩ := r3 pos cv is
    exact ⟨d, e1, ext _ _ e2 codeO_ne⟩
/-- the lambda stands at f, its defaults at t, its code object at c' -/
structure Born (X : Cx) (T : List (Addr × Str)) (params : Arguments) (body : Expr) (scope : Scope) (u0 : Value) (H H1 : Hp) (s' : Shared) (f t c' : Addr) (doc pm ctv : Value) : Prop where
  ext : ExtN H H1
  tabs : Tabs T H1
  fn : s'.heap.get? f = some (PySem.W.kdv_obj "<lambda>" (X.env.qual ++ "<lambda>") params (.expr body) scope (cloFrom X.env.cells scope.names []) (.ref t) doc pm c' ctv)
  tup : s'.heap.get? t = some (PySem.W.kdv_tup [u0])
  off : (H1 f = none ∧ f ∉ frs X.stack) ∧ H1 t = none ∧ t ∉ frs X.stack
  code : H1 c' = some (CodeO c' (X.env.qual ++ "<lambda>"))
section
variable {X : Cx} {pins : List (Addr × Obj)} {σ : L2.St} {H : Hp} {s : Shared}
theorem off_new (I : Inv X pins σ H s) {b : Addr} (le : s.heap.objs.size ≤ b) : H b = none ∧ b ∉ frs X.stack := by
  refine ⟨I.hok.fresh le, fun m => ?_⟩
  cases I.stkSub b m with
  | head => exact absurd I.lt (Nat.not_lt.mpr le)
  | tail _ m => exact I.nofs le m
/-- the making -/
theorem lam_born {T : List (Addr × Str)} {cC PT : Addr} {params : Arguments} {body e0 : Expr} {scope : Scope} {pos : Pos} {a0 : Str} {v0 : V} {Q : Value → Shared → Prop} (I : Inv X pins σ H s) (TB : TabB X.base X.mg cC PT) (hcode : X.env.code = .ref cC)
    (hm : (PT, X.env.qual ++ "<lambda>") ∈ T) (hu : ∀ r ∈ T, r.1 = PT → r.2 = X.env.qual ++ "<lambda>") (hT : Tabs T H) (one : params.defaults = [e0]) (none_ : params.kw_defaults = []) (he : PE X e0 (tC v0)) (L : Lm1 a0 X.env.scope scope)
    (k : ∀ f t c' doc pm ctv u0 H1 s', Inv X pins σ H1 s' → RelV v0 u0 → Born X T params body scope u0 H H1 s' f t c' doc pm ctv → Q (.ref f) s') :
    wpAny (model X.prog X.w) X.A (eval (.Lambda params body scope pos) X.env) Q X.xe s := by
  refine PySem.W.kdv_lam (one ▸ rfl) none_ (one.symm ▸ PySem.W.kdv_all1 (thn (he.run pins s σ H (fun v H1 => v = v0 ∧ H1 = H) I ⟨rfl, rfl⟩) fun u0 s0 w0 => PySem.W.kdv_all0 ?_))
  obtain ⟨v, G, I0, r0, isV, isG⟩ := w0
  rw [isG] at I0
  rw [isV] at r0
  rw [makeFunction_eq]
  simp only [List.zip_nil_right, List.filterMap_nil, List.isEmpty_nil, List.isEmpty_cons, Bool.false_eq_true, if_true, if_false, pure_bind]
  refine wpAny_bind (wpAny_newTextTuple ?_)
  have tOff := off_new I0 (Nat.le_refl _)
  obtain ⟨S, hS⟩ : ∃ S : Shared, S = { s0 with heap := s0.heap.push (PySem.W.kdv_tup [u0]) } := ⟨_, rfl⟩
  have tIs : S.heap.get? s0.heap.objs.size = some (PySem.W.kdv_tup [u0]) := by
    rw [hS]
    exact Heap.get?_push_size _ rfl
  have J : Inv X pins σ H S := by
    rw [hS]
    exact I0.kept (t' := s0.toks) fun b o e => Heap.get?_push_of_some _ e
  rw [← hS]
  generalize s0.heap.objs.size = t at tOff tIs
  clear hS I0 I
  obtain ⟨ps, atP, trip, told⟩ := hT _ hm
  have atP' : S.heap.get? PT = some { cls := .none, data := .fields ps } := J.hok PT _ atP
  have clo := closure_ok (env := X.env) (scope := scope) fun y m e => J.ok.has y.1 ((L.only y.1 y.2 m).2.2 e)
  have mod := J.mod.glob.keeps J.bk
  have blt : S.heap.BuiltinsAt X.mg PT := TB.bm.keeps J.bk
  have hd := TB.code.keeps J.bk
  cases among : codeAmong pos ps.toList with
  | some cv =>
    obtain ⟨c', rfl, isC⟩ := told pos cv among
    refine PySem.W.kdv_makeTailHit (mg := X.mg) clo J.ok.glob mod hcode hd atP' trip among blt fun ctv doc h' tk kp le => ?_
    have fOff := off_new J le
    exact k _ t c' doc _ ctv u0 H _ (J.kept (t' := tk) fun b o e => Heap.get?_push_of_some _ (kp b o e)) r0 ⟨ExtN.refl H, hT, Heap.get?_push_size _ rfl, Heap.get?_push_of_some _ (kp _ _ tIs), ⟨fOff, tOff⟩, isC⟩
  | none =>
    refine PySem.W.kdv_makeTail (mg := X.mg) clo J.ok.glob mod hcode hd atP' trip among TB.gP blt fun c' ctv doc h' tk kp ge lt isCode tab => ?_
    obtain ⟨c2, oc, vs, tq, same, oc1, oc2, oc3⟩ := isCode
    cases same
    have cOff := off_new J ge
    have fOff := off_new J (Nat.le_trans ge (Nat.le_of_lt lt))
    have tLt : t < S.heap.objs.size := Heap.lt_size tIs
    have pLt : PT < S.heap.objs.size := Heap.lt_size atP'
    have tP : t ≠ PT := fun z => by
      rw [z, atP] at tOff
      exact nomatch tOff.1
    obtain ⟨ext, tabs⟩ := tabs_more (u := rawInt pos.line) (v := rawInt pos.col) (c := c') hT atP hu
      (by simpa using PySem.TriplesOk_snoc _ _ _ _ trip) (fun p cv is => among_app (pos := pos) _ trip (by simpa using is)) cOff.1
    have apart : ∀ b, b ≠ c' → b ≠ PT → H b = none → upd (upd H PT (.tbl (ps ++ #[rawInt pos.line, rawInt pos.col, .ref c']))) c' (CodeO c' (X.env.qual ++ "<lambda>")) b = none := fun b b1 b2 n => (upd_ne b1).trans ((upd_ne b2).trans n)
    refine k _ t c' doc _ ctv u0 _ _ (inv_table (t' := tk) (c := c') J atP (fun b o nb e => Heap.get?_push_of_some _ (kp b o nb e)) (Heap.get?_push_of_some _ tab) ge ⟨oc, vs, tq, Heap.get?_push_of_some _ oc1, oc2, oc3⟩) r0
      ⟨ext, tabs, Heap.get?_push_size _ rfl, Heap.get?_push_of_some _ (kp _ _ tP tIs), ⟨⟨apart _ (Nat.ne_of_gt lt) (Nat.ne_of_gt (Nat.lt_of_lt_of_le pLt (Nat.le_trans ge (Nat.le_of_lt lt)))) fOff.1, fOff.2⟩, apart _ (Nat.ne_of_lt (Nat.lt_of_lt_of_le tLt ge)) tP tOff.1, tOff.2⟩, upd_same⟩
/-- its frame: what the maker's slots hold, but the parameter's own slot i0 -/
theorem lam_frame {a0 : Str} {i0 : Nat} {v0 : V} {u0 : Value} {HZ : Hp} {S : Shared} {A : Around} {outer : List Env} {E : XK} {scope : Scope} {f c' : Addr} {h₁ : Heap} {tk : Nat} (I : Inv X pins σ H s) (L : Lm1 a0 X.env.scope scope) (z0 : Env0 X.prog X.w X.K X.mg X.base A outer S HZ) (calm : A.handled = none)
    (here : ∀ i y, X.N[i]? = some y → (y = a0 ↔ i = i0)) (r0 : RelV v0 u0) (un : Un (frs X.stack) [] H HZ s.heap S.heap) (own : h₁.Ns S.heap.objs.size fun y => [(a0, u0)].reverse.lookup y) (kp : ∀ b o, S.heap.get? b = some o → h₁.get? b = some o) :
    Inv (lamCx X A outer S HZ E scope f c') [] (σ.set i0 (some v0)) HZ { S with heap := h₁, toks := tk } := by
  have cell : ∀ y c v, X.env.cells.lookup y = some c → s.heap.IsCell c v → h₁.IsCell c v := by
    rintro y c v e ⟨o, o1, o2⟩
    obtain ⟨sl, z⟩ := un.any o1 (I.freeC y c e) (by simp)
    exact ⟨_, kp _ _ z, o2⟩
  have nx : ∀ {p : Prop} {b : Addr}, b ∈ (lamCx X A outer S HZ E scope f c').ex → p := fun m => (nomatch (show _ ∈ ([] : List Addr) from m))
  have ok : (lamCx X A outer S HZ E scope f c').Ok := {
    mod := z0.mod, kind := L.fun_, glob := rfl, blt := rfl, above := Nat.le_refl _
    inj := fun y z c m1 m2 => I.ok.inj y z c (cap_of L I.ok y c m1) (cap_of L I.ok z c m2)
    has := fun y m => by
      rcases m with m | m
      · exact absurd rfl (L.only y _ (PySem.mem_of_lookup (show scope.names.lookup y = some .cell from m))).1
      · exact (cap_in L I.ok y m).imp fun c z => z.2
    cab := fun y c no _ => (nomatch (show false = true from no))
    hd := fun _ => calm, frames := Around.frames_deeper z0.frames, stk := .inr ⟨rfl, rfl⟩
    exf := fun b m => nx m, bs := z0.bs, bsz := z0.bsz, noex := fun b o _ m => nx m, exfs := fun b m => nx m, funs := z0.funs, frf := z0.frf }
  refine { ok := ok, os := rfl, bare := z0.bare, base := Un.kept kp, loc := ⟨_, own, ?loc⟩, cell := ?cell, free := z0.hok.fresh (Nat.le_refl _), freeC := ?freeC, pin := fun r m => (nomatch (show r ∈ ([] : List (Addr × Obj)) from m)), hok := z0.hok.kept kp, len := by rw [List.length_set]; exact I.len }
  case cell =>
    intro y c e
    have e := cap_of L I.ok y c e
    exact (I.cell y c e).imp fun v z => cell y c v e z
  case freeC =>
    intro y c e
    have e := cap_of L I.ok y c e
    obtain ⟨v, o, o1, _⟩ := I.cell y c e
    exact un.free c o o1 (I.freeC y c e) (by simp)
  case loc =>
    intro i y v at_ is vis
    have at_ : X.N[i]? = some y := at_
    have big : i < σ.length := by
      have := (List.getElem?_eq_some_iff.mp is).1
      simpa using this
    by_cases ya : y = a0
    · have ii := (here i y at_).mp ya
      subst ya ii
      rw [List.getElem?_set_self big] at is
      injection is with is
      injection is with is
      subst is
      exact ⟨u0, r0, .inl ⟨L.par, by simp [List.lookup]⟩⟩
    · have ii : i0 ≠ i := fun z => ya ((here i y at_).mpr z.symm)
      rw [List.getElem?_set_ne ii] at is
      have fr : scope.names.lookup y = some .free := by
        rcases vis with m | m | m
        · exact absurd ((L.only y _ (PySem.mem_of_lookup m)).2.1 rfl) ya
        · exact absurd rfl (L.only y _ (PySem.mem_of_lookup m)).1
        · exact m
      have up := (L.only y _ (PySem.mem_of_lookup fr)).2.2 rfl
      obtain ⟨m, _, look⟩ := I.loc
      obtain ⟨u, ru, w⟩ := look i y v at_ is (.inr up)
      obtain ⟨c, c1, c2⟩ := cap_in L I.ok y fr
      refine ⟨u, ru, .inr ⟨.inr fr, c, c2, ?_⟩⟩
      rcases w with ⟨no, _⟩ | ⟨_, d, d1, d2⟩
      · have no : X.env.scope.names.lookup y = some .local := no
        rw [no] at up
        exact nomatch up
      · rw [c1] at d1
        injection d1 with d1
        exact cell y c _ c1 (d1 ▸ d2)
/-- the lambda called: from the state S on, the heap as HZ tells -/
theorem lam_runs {a0 : Str} {i0 : Nat} {v0 : V} {u0 : Value} {T : List (Addr × Str)} {params : Arguments} {body : Expr} {scope : Scope} {tb : TE} {k : Nat} {H1 HZ : Hp} {S : Shared} {f t c' : Addr} {doc pm ctv : Value} {A : Around} {outer : List Env} {Q : VK} {E : XK}
    (I : Inv X pins σ H1 s) (B : Born X T params body scope u0 H H1 s f t c' doc pm ctv) (L : Lm1 a0 X.env.scope scope) (here : ∀ i y, X.N[i]? = some y → (y = a0 ↔ i = i0)) (r0 : RelV v0 u0)
    (bind : ∀ G : Shared, G.heap.get? t = some (PySem.W.kdv_tup [u0]) → BindsTo G (PySem.W.kdv_fn "<lambda>" (X.env.qual ++ "<lambda>") params (.expr body) scope (cloFrom X.env.cells scope.names []) (.ref t) doc pm (.ref c') ctv) ⟨[], []⟩ [(a0, u0)])
    (hb : ∀ (A : Around) (outer : List Env) (s : Shared) (H : Hp), Room k (A.deeper (lamEnv X scope s.heap.objs.size f c')) → PE (lamCx X A outer s H E scope f c') body tb)
    (room : Room (k + 1) A) (z0 : Env0 X.prog X.w X.K X.mg X.base A outer S HZ) (lim : S.heap.NoLimit) (un : Un (frs X.stack) [] H1 HZ s.heap S.heap) (isC : HZ c' = some (CodeO c' (X.env.qual ++ "<lambda>"))) (ht : tb (σ.set i0 (some v0)) HZ Q) :
    codeAny (model X.prog X.w) A (.call (.ref f) ⟨[], []⟩) (CR (L2.CX X.prog X.w) outer X.prog X.w HZ S Q E) S := by
  have no : ∀ b : Addr, b ∉ ([] : List Addr) := fun b m => nomatch m
  obtain ⟨⟨oc, vs, tq, o1, o2, o3⟩, _, _⟩ := z0.hok c' _ isC
  refine PySem.W.kla_callFunE room.depth (un.keep f _ B.fn B.off.1.1 B.off.1.2 (no f)) rfl L.plain.1 L.plain.2 rfl ⟨c', oc, vs, tq, rfl, o1, o2, o3⟩ ?_
  refine bind S (un.keep t _ B.tup B.off.2.1 B.off.2.2 (no t)) _ _ _ _ ?_
  refine wpAny_newFunctionEnv (fun y m => (L.only y.1 y.2 m).1) (fun y m => by rw [List.mem_singleton.mp m]; exact L.par) (fun h₁ own sb => ⟨lim.fresh _ sb, ?_⟩) L.fun_
  have J := lam_frame (E := E) (f := f) (c' := c') (tk := S.toks + 1) I L z0 room.hd here r0 un own fun b o e => sb.extBut b o (Nat.ne_of_lt (Heap.lt_size e)) (Heap.get?_push_of_some _ e)
  refine PySem.W.kla_codeExpr (wpAny_mono ((hb A outer S HZ (room.deeper _)).run [] _ _ HZ Q J ht) ?_ fun _ _ z => z)
  rintro u G ⟨v, H', J', rv, q⟩
  exact ⟨v, H', J'.os, J'.bare, J'.base, J'.hok, rv, q⟩
end
def tLam1 (T : List (Addr × Str)) (TT : (XK → Hp → VK → Prop) → Hp → VK → Prop) (i0 : Nat) (v0 : V) (t : XK → TE) : TE := fun σ H Q => Tabs T H ∧ ∀ H1, ExtN H H1 → Tabs T H1 → TT (fun E H' Q' => t E (σ.set i0 (some v0)) H' Q') H1 Q
theorem calls_of {X : Cx} {pins : List (Addr × Obj)} {σ : L2.St} {H : Hp} {s : Shared} {CXg : CXT} {E : XK} {f : Addr} {us : List Value} {Q : VK} (I : Inv X pins σ H s) (run : codeAny (model X.prog X.w) X.A (.call (.ref f) ⟨us, []⟩) (CR CXg X.stack X.prog X.w H s Q E) s)
    (out : ∀ e s', CXg X.stack H s E e s' → X.xe e s') : wpAny (model X.prog X.w) X.A (call (.ref f) us) (EP X pins σ Q) X.xe s := by
  refine wpAny_call (codeAny_mono run fun r s' z => ?_)
  match r, z with
  | .error e, z => exact out e s' z
  | .ok (.ret u), z => exact I.after z
  | .ok .next, z => exact z.elim
  | .ok .brk, z => exact z.elim
  | .ok .cont, z => exact z.elim
section
variable {X : Cx}
/-- x(lambda a0=e0: body) -/
theorem pe_lamcall1 {a0 : Str} {i0 : Nat} {v0 : V} {e0 : Expr} {T : List (Addr × Str)} {TT : (XK → Hp → VK → Prop) → Hp → VK → Prop} {x a : Str} {g cC PT : Addr} {k : Nat} {fdg : FuncData} {st : Stmt} {N : List Str} {params : Arguments} {body : Expr} {scope : Scope} {t : XK → TE} {p lpos pos : Pos} (hg : Gl X x) (hm : X.mg x = some (.ref g))
    (hk : PySem.W.keepIn X.K (.ref g) = true) (Fg : Fun X.K x x st g fdg) (bg : Binds X.K fdg [a] []) (Sg : FnScope N [a] (defScope st)) (at0 : N[0]? = some a) (vis : Vis (defScope st) a) (gives : ∀ cdv, GivesTo X N x (defScope st) g cdv (defBody st) a (X.env.qual ++ "<lambda>") TT)
    (TB : TabB X.base X.mg cC PT) (hcode : X.env.code = .ref cC) (hmT : (PT, X.env.qual ++ "<lambda>") ∈ T) (hu : ∀ r ∈ T, r.1 = PT → r.2 = X.env.qual ++ "<lambda>") (room : Room (k + 2) X.A) (L : Lm1 a0 X.env.scope scope) (one : params.defaults = [e0]) (none_ : params.kw_defaults = []) (he : PE X e0 (tC v0))
    (here : ∀ i y, X.N[i]? = some y → (y = a0 ↔ i = i0))
    (bind : ∀ (q : Str) (cl : List (Str × Addr)) (t : Addr) (doc pm cv ctv u0 : Value) (G : Shared), G.heap.get? t = some (PySem.W.kdv_tup [u0]) → BindsTo G (PySem.W.kdv_fn "<lambda>" q params (.expr body) scope cl (.ref t) doc pm cv ctv) ⟨[], []⟩ [(a0, u0)])
    (hb : ∀ (A : Around) (outer : List Env) (s : Shared) (H : Hp) (E : XK) (f c' : Addr), Room k (A.deeper (lamEnv X scope s.heap.objs.size f c')) → PE (lamCx X A outer s H E scope f c') body (t E))
    (hdb : (x == ("__debug__" : Str)) = false := by decide) (hd : (a == ("__debug__" : Str)) = false := by decide) (hcd : (a == ("__classdict__" : Str)) = false := by decide) :
    PE X (.Call (.Name x p) [.Lambda params body scope lpos] [] pos) (tLam1 T TT i0 v0 t) := by
  obtain ⟨oc, od, kV, dd, pg, an, cdv, ct, osl, rfl, lk, isG⟩ := Fg.ex
  constructor
  rintro pins s σ H Q I ⟨hT, told⟩
  refine wpAny_Call_Name_kw (ld_glob I hg hm (PySem.W.callWith_K (h₀ := X.base) I.ok.mod.kin hk ?_ (by rfl) (by rfl)) hdb)
  show wpAny _ _ (spliced ((false, eval (.Lambda params body scope lpos) X.env) :: backTo pos (starEach [] X.env))) _ _ s
  refine Calls.spliced_cons (lam_born I TB hcode hmT hu hT one none_ he L ?_)
  intro f tA c' doc pm ctv u0 H1 s1 I1 r0 B
  refine Calls.spliced_nil ⟨I1.kIn, calls_of (CXg := C8.CX0) (E := C8.E0) I1 ?_ fun _ _ z => (show False from z).elim⟩
  refine run_ofS (us := [.ref f]) (vs := [.ref f]) lk isG Sg room I1.env0 (bg s1 [.ref f] I1.kIn rfl) (.cons rfl .nil) rfl fun room' => ?_
  refine Exists.elim (gives cdv f c' s1 H1 Q _ (fun W pn xe E_ p1 p2 tk hW => ⟨?_⟩) B.code (told H1 B.ext B.tabs)) fun tr z => ⟨tr, z.1.nox, z.2⟩
  rintro pinsZ sZ σZ HZ QZ IZ ⟨is, isC, ht⟩
  refine wpAny_Call_Name_kw (thn ((pe_var (pos := p1) (i := 0) at0 vis hd hcd).run pinsZ sZ σZ HZ (fun v G => v = .ref f ∧ G = HZ) IZ ⟨_, is, rfl, rfl⟩) ?_)
  rintro u S ⟨v, G, J, ru, isV, isG⟩
  rw [isG] at J
  rw [isV] at ru
  obtain rfl : u = Value.ref f := ru
  have un : Un (frs X.stack) [] H1 HZ s1.heap S.heap := J.base
  have runs := lam_runs (X := X) (E := E_) (Q := QZ) I1 B L here r0 (fun G => bind _ _ _ _ _ _ _ _ G) (fun A outer s H => hb A outer s H E_ f c') room' J.env0 J.nolimit un isC ht
  refine PySem.W.callWith_F0 ⟨_, _, _, _, un.keep f _ B.fn B.off.1.1 B.off.1.2 (fun m => nomatch m)⟩ (calls_of (X := (cxOf C8.CX0 X.prog X.w X.K X.mg X.base N x (defScope st) g cdv X.A X.stack s1 H1 C8.E0).tr pn xe) J ?_ fun e s' => passes_call tk hW pinsZ σZ HZ S e s' J)
  exact runs
end
end Own
set_option Elab.async false
set_option linter.all false
set_option maxRecDepth 100000
set_option maxHeartbeats 4000000
namespace K18
open PySem PySem.Spec PyProof.Rows L2 Own
def Rok : Hp → VK → Prop := fun _ _ => False
def heardQ (word : Str) (v : V) (H : Hp) (Q : VK) : Prop := ∀ H' p, Same H H' → H' p = none → Q (.ref p) (upd H' p (.tup [.str word, v]))
theorem pi_listK {X : Cx} {K : PySem.W.Frag} {tg e : Expr} {te : TE} (hK : X.K = K) (he : PE X e te) : PI X tg e (iList K te) := hK ▸ pi_list he
theorem call_len_seqK {X : Cx} {K : PySem.W.Frag} (hK : X.K = K) : CallR X (.builtin "len") (fun xs H Q => ∃ p ys, xs = [V.ref p] ∧ (SqL K H p ys ∨ SqT K H p ys) ∧ Q (V.int ys.length) H) := hK ▸ call_len_seq
def Rer (CB CM : Addr) : Value → Option Addr → Addr → Hp → VK → Prop := fun cls d a H Q => ∃ (dd : Addr) (v : V), d = some dd ∧ H dd = some (.xd [("part", v)]) ∧ ((cls = .ref CB ∧ heardQ "tongue" v H Q) ∨ (cls = .ref CM ∧ heardQ "number" v H Q))
theorem seven {σ : L2.St} (h : σ.length = 7) : ∃ o0 o1 o2 o3 o4 o5 o6, σ = [o0, o1, o2, o3, o4, o5, o6] := by
  match σ, h with
  | [o0, o1, o2, o3, o4, o5, o6], _ => exact ⟨o0, o1, o2, o3, o4, o5, o6, rfl⟩
/-- what is told of an error: none of two, one of three -/
structure Knd (K : PySem.W.Frag) (C CX CY CB CM CF : Addr) (b1 b2 : Bool) : Prop where
  x : ExC K C
  no : PySem.W.findIn K (.ref C) "part" = some none
  kX : PySem.W.kitOne K (.ref C) (.ref CX) = some false
  kY : PySem.W.kitOne K (.ref C) (.ref CY) = some false
  kB : PySem.W.kitOne K (.ref C) (.ref CB) = some b1
  kM : PySem.W.kitOne K (.ref C) (.ref CM) = some b2
  kF : PySem.W.kitOne K (.ref C) (.ref CF) = some false
theorem heard_ok {X : Cx} {CX CY CB CM CF CS g : Addr} {cdg : Value} {q : Str} (T : Txt X.mg) (atX : X.mg "BadText" = some (.ref CX)) (atY : X.mg "TooMany" = some (.ref CY)) (atB : X.mg "BadTongue" = some (.ref CB)) (atM : X.mg "BadNumber" = some (.ref CM)) (atF : X.mg "Misfit" = some (.ref CF)) (atT : X.mg "TickError" = some (.ref CS))
    (kB : Knd X.K CB CX CY CB CM CF true false) (kM : Knd X.K CM CX CY CB CM CF false true) :
    LamX.GivesTo X N__law_heard "_law_heard" (defScope s__law_heard) g cdg (defBody s__law_heard) "ask" q (TTh X.K CS Rok (Rer CB CM)) := by
  refine heard_gives (i := 2) (j := 1) rfl atT (by decide) (fun _ => rfl) (by decide) (by decide) (by decide) (by decide) sc__law_heard.nd rfl rfl rfl rfl (fun _ => rfl) (by decide) (by decide)
    (fun s H => (pss_cons (ps_if (pt_val (pe_callB (call_isXK (K := X.K) (by rfl)) (by rfl) T.b_isinstance boot_isinstance (pa_cons (pv 1) (pa_cons (pe_gr atX) pa_nil))))
  (pss_one (ps_ret (pe_tup (pa_cons pe_str (pa_cons (pe_exfL (K := X.K) (by rfl) (pv 1)) (pa_cons (pe_exfL (K := X.K) (by rfl) (pv 1)) pa_nil))))))
  pss_nil)
  (pss_cons (ps_if (pt_val (pe_callB (call_isXK (K := X.K) (by rfl)) (by rfl) T.b_isinstance boot_isinstance (pa_cons (pv 1) (pa_cons (pe_gr atY) pa_nil))))
  (pss_one (ps_ret (pe_tup (pa_cons pe_str (pa_cons (pe_exfL (K := X.K) (by rfl) (pv 1)) (pa_cons (pe_exfL (K := X.K) (by rfl) (pv 1)) pa_nil))))))
  pss_nil)
  (pss_cons (ps_set (i := 3) sc__law_heard.nd rfl (Or.inl rfl) (pe_lst (pa_cons (pe_tup (pa_cons pe_str (pa_cons (pe_callB (call_isXK (K := X.K) (by rfl)) (by rfl) T.b_isinstance boot_isinstance (pa_cons (pv 1) (pa_cons (pe_gr atB) pa_nil))) pa_nil))) (pa_cons (pe_tup (pa_cons pe_str (pa_cons (pe_callB (call_isXK (K := X.K) (by rfl)) (by rfl) T.b_isinstance boot_isinstance (pa_cons (pv 1) (pa_cons (pe_gr atM) pa_nil))) pa_nil))) (pa_cons (pe_tup (pa_cons pe_str (pa_cons (pe_callB (call_isXK (K := X.K) (by rfl)) (by rfl) T.b_isinstance boot_isinstance (pa_cons (pv 1) (pa_cons (pe_gr atF) pa_nil))) pa_nil))) pa_nil)))))
  (pss_cons (ps_setLc (i := 4) (own := [("word", 5), ("is_so", 6)]) rfl sc__law_heard.nd rfl rfl (sw_true rfl rfl rfl (by decide +kernel)) (pi_listK (K := X.K) (by rfl) (pv 3)) (blkOk_by (own := [("word", 5), ("is_so", 6)]) (N := N__law_heard) (sc := defScope s__law_heard) (by decide +kernel)) (fun _ _ _ _ _ => (pg_tupK (K := X.K) (n := 2) (by rfl) rfl (pgs_cons (pg_name (i := 5) sc__law_heard.nd rfl (Or.inl rfl)) (pgs_cons (pg_name (i := 6) sc__law_heard.nd rfl (Or.inl rfl)) pgs_nil)))) (fun _ _ _ _ _ => (pts_one (pt_val (pv 6)))) (fun _ _ _ _ _ => (pv 5)))
  (pss_cons (ps_if (pt_cmpR op_eq (pe_callB (call_len_seqK (K := X.K) (by rfl)) (by rfl) T.b_len boot_len (pa_cons (pv 4) pa_nil)) pe_int (nomark _))
  (pss_one (ps_ret (pe_tup (pa_cons (pe_ix (ix_listK (K := X.K) (by rfl)) (pv 4) pe_int (fun _ _ => rfl)) (pa_cons (pe_exfL (K := X.K) (by rfl) (pv 1)) pa_nil)))))
  pss_nil)
  (pss_one (ps_ret (pe_ifExp (pt_cmpR op_isN (pv 1) pe_non (nomark _)) pe_non (pe_tup (pa_cons pe_str (pa_cons pe_non pa_nil)))))))))))) (fun σ H Q len e h => h.elim) (fun σ H Q cls d b len e hb h => ?_)
  obtain ⟨o0, o1, o2, o3, o4, o5, o6, rfl⟩ := seven len
  have e : o1 = some (V.ref b) := Option.some.inj e
  subst e
  obtain ⟨dd, v, rfl, hd, h⟩ := h
  obtain ⟨C, b1, b2, word, rfl, kd, hw, hq⟩ : ∃ (C : Addr) (b1 b2 : Bool) (word : Str), cls = .ref C ∧ Knd X.K C CX CY CB CM CF b1 b2 ∧ ((b1 = true ∧ b2 = false ∧ word = "tongue") ∨ (b1 = false ∧ b2 = true ∧ word = "number")) ∧ heardQ word v H Q := by
    rcases h with ⟨rfl, h⟩ | ⟨rfl, h⟩
    · exact ⟨_, _, _, _, rfl, kB, .inl ⟨rfl, rfl, rfl⟩, h⟩
    · exact ⟨_, _, _, _, rfl, kM, .inr ⟨rfl, rfl, rfl⟩, h⟩
  clear h kB kM
  have ea : ExAt H b C dd [("part", v)] := ⟨.inr hb, .inr hd⟩
  refine ⟨_, rfl, b, C, dd, _, _, _, false, rfl, kd.x, ea, .own _, kd.kX, false, rfl, iteF (nx_in ?_)⟩
  dsimp only
  refine ⟨_, rfl, b, C, dd, _, _, _, false, rfl, kd.x, ea, .own _, kd.kY, false, rfl, iteF (nx_in ?_)⟩
  dsimp only
  refine ⟨_, rfl, b, C, dd, _, _, _, b1, rfl, kd.x, ea, .own _, kd.kB, by show 2 ≤ sizeLine; decide, fun t1 ht1 => ?_⟩
  have s1 := same_new (o := HO.tup [V.str "tongue", V.bl b1]) ht1
  have h1 : upd H t1 (HO.tup [V.str "tongue", V.bl b1]) t1 = some (.tup [V.str "tongue", V.bl b1]) := upd_same
  generalize upd H t1 (HO.tup [V.str "tongue", V.bl b1]) = H1 at s1 h1 ⊢
  refine ⟨_, rfl, b, C, dd, _, _, _, b2, rfl, kd.x, ea.mono s1, .own _, kd.kM, by show 2 ≤ sizeLine; decide, fun t2 ht2 => ?_⟩
  have s2 := same_new (o := HO.tup [V.str "number", V.bl b2]) ht2
  have h2 : upd H1 t2 (HO.tup [V.str "number", V.bl b2]) t2 = some (.tup [V.str "number", V.bl b2]) := upd_same
  generalize upd H1 t2 (HO.tup [V.str "number", V.bl b2]) = H2 at s2 h2 ⊢
  refine ⟨_, rfl, b, C, dd, _, _, _, false, rfl, kd.x, ea.mono (s1.trans s2), .own _, kd.kF, by show 2 ≤ sizeLine; decide, fun t3 ht3 => ?_⟩
  have s3 := same_new (o := HO.tup [V.str "misfit", V.bl false]) ht3
  have h3 : upd H2 t3 (HO.tup [V.str "misfit", V.bl false]) t3 = some (.tup [V.str "misfit", V.bl false]) := upd_same
  generalize upd H2 t3 (HO.tup [V.str "misfit", V.bl false]) = H3 at s3 h3 ⊢
  refine ⟨by show 3 ≤ sizeLine; decide, fun l hl => ?_⟩
  have s4 := same_new (o := HO.lst [V.ref t1, V.ref t2, V.ref t3]) hl
  have h4 : upd H3 l (HO.lst [V.ref t1, V.ref t2, V.ref t3]) l = some (.lst [V.ref t1, V.ref t2, V.ref t3]) := upd_same
  have g1 := s4 _ _ (s3 _ _ (s2 _ _ h1))
  have g2 := s4 _ _ (s3 _ _ h2)
  have g3 := s4 _ _ h3
  have sA := ((s1.trans s2).trans s3).trans s4
  generalize upd H3 l (HO.lst [V.ref t1, V.ref t2, V.ref t3]) = H4 at h4 g1 g2 g3 sA ⊢
  clear s1 s2 s3 s4 h1 h2 h3 ht1 ht2 ht3 hl hb hd
  dsimp only [gName]
  refine ⟨_, rfl, l, rfl, ⟨_, SqL.of h4⟩, fun D hD => ?_⟩
  refine lc_it (walk_list (K := X.K) (xs := [V.ref t1, V.ref t2, V.ref t3])) (fun i H' => Same H4 H' ∧ H' D = some (.lst (if i = 0 then [] else if i = 1 then (if b1 = true then [V.str "tongue"] else []) else [V.str word]))) ⟨same_new hD, by rw [upd_same]; rfl⟩ (fun i H' _ p => SqL.of (p.1 _ _ h4)) (fun i x H5 H' hi p y => ?_) (fun H5 p => ?_)
  · obtain ⟨s5, hm⟩ := p
    obtain ⟨rfl, hx⟩ := y
    have i3 : i < 3 := hi
    rcases (show i = 0 ∨ i = 1 ∨ i = 2 by omega) with rfl | rfl | rfl
    · cases hx
      refine ⟨t1, _, rfl, SqT.of (s5 _ _ g1), rfl, _, _, rfl, _, _, rfl, rfl, rfl, ?_⟩
      refine ⟨_, rfl, b1, rfl, ?_⟩
      cases b1 with
      | false => exact iteF ⟨s5, hm⟩
      | true => exact iteT ⟨_, rfl, _, hm, by show 0 < sizeLine; decide, same_mut s5 hD, upd_same⟩
    · cases hx
      refine ⟨t2, _, rfl, SqT.of (s5 _ _ g2), rfl, _, _, rfl, _, _, rfl, rfl, rfl, ?_⟩
      refine ⟨_, rfl, b2, rfl, ?_⟩
      rcases hw with ⟨rfl, rfl, rfl⟩ | ⟨rfl, rfl, rfl⟩
      · exact iteF ⟨s5, hm⟩
      · exact iteT ⟨_, rfl, _, hm, by show 0 < sizeLine; decide, same_mut s5 hD, upd_same⟩
    · cases hx
      refine ⟨t3, _, rfl, SqT.of (s5 _ _ g3), rfl, _, _, rfl, _, _, rfl, rfl, rfl, ?_⟩
      exact ⟨_, rfl, false, rfl, iteF ⟨s5, hm⟩⟩
  · obtain ⟨s5, hm⟩ := p
    have hm : H5 D = some (.lst [V.str word]) := hm
    dsimp only [gName]
    refine ⟨_, rfl, D, _, rfl, .inl (SqL.of hm), rfl, _, rfl, iteT ?_⟩
    refine ⟨_, rfl, D, _, 0, .str word, rfl, rfl, SqL.of hm, rfl, ?_⟩
    exact ⟨_, rfl, b, C, dd, _, v, rfl, kd.x, kd.no, ea.mono (sA.trans s5), rfl, by show 2 ≤ sizeLine; decide, fun p hp => hq _ p (sA.trans s5) hp⟩
end K18
set_option Elab.async false
set_option linter.all false
set_option maxRecDepth 100000
set_option maxHeartbeats 4000000
namespace K18
open PySem PySem.Spec PyProof.Rows L2 Own LamX
section
variable {P : Program} {w : World} {K : PySem.W.Frag} {mg : Str → Option Value} {base : Heap} {k : Nat} {f : Addr} {fd : FuncData} {ps : List Str} {sp : Sp}
/-- a def by its body, which knows that nothing guards, and its code -/
theorem okG_code {x qual : Str} {st : Stmt} {N : List Str} (F : Fun K x qual st f fd) (S : FnScope N ps (defScope st)) (len : ∀ vs H Q E, sp vs H Q E → vs.length = ps.length)
    (body : ∀ (cdv : Value) (_ : fd.code = cdv) (A : Around) (outer : List Env) (s : Shared) (H : Hp) (vs : List V) (Q : VK) (E : XK), Room k (A.deeper (envOfC qual (defScope st) s.heap.objs.size f cdv)) →
      A.guards = some [] → sp vs H Q E → ∃ t, PSs (cxOf CX0 P w K mg base N qual (defScope st) f cdv A outer s H E).nox (defBody st) t ∧ t { nx := fun _ H' => Q .non H', rt := Q } (start N vs) H) :
    FnG P w K mg base CX0 (k + 1) f fd ps sp := by
  obtain ⟨oc, od, kV, doc, pm, an, cdv, ct, osl, rfl, lk, hcd⟩ := F.ex
  refine ⟨len, ?_⟩
  intro A outer s H args us vs Q E room gd e0 bnd rel want
  have size := len vs H Q E want
  have inK : K.In s.heap := e0.mod.kin.keeps fun b o z => And.left (e0.bs b o z)
  have room0 : s.heap.NoLimit := e0.mod.nolimit.keeps fun b o z => And.left (e0.bs b o z)
  have slots : ∀ y ∈ ps.zip us, (defScope st).names.lookup y.1 = some .local ∨ ((defScope st).names.lookup y.1 = some .cell ∧
      ((cellsFrom (s.heap.objs.size + 1) (defScope st).names []).lookup y.1).isSome = true) := by
    rintro ⟨n, v⟩ z
    refine (S.par n (List.of_mem_zip z).1).imp id fun c => ⟨c, ?_⟩
    exact PySem.W.cellsFrom_some _ _ _ (.inl c)
  refine codeAny_call_function room.depth (inK _ _ lk) rfl S.co S.gen rfl (PySem.W.codeRec_of inK hcd) (bnd _ _ _ _ ?_)
  refine wpAny_newFunctionEnv_cells S.kind slots ?_
  rintro env rfl s1 x
  refine ⟨room0.keeps x.toInCall.keep, codeAny_func ?_⟩
  obtain ⟨t, walk, say⟩ := body cdv rfl A outer s H vs Q E (room.deeper _) gd want
  have I := inv_start (CX := CX0) (E := E) S room.hd e0 size rel x
  refine wpAny_mono (walk.nox.run [] s1 (start N vs) H _ I say) (fun r s' z => ?_) (fun _ _ z => z)
  have last : ∀ {τ : L2.St} {G : Hp} {v : V} {u : Value}, Inv (cxOf CX0 P w K mg base N qual (defScope st) f cdv A outer s H E) [] τ G s' →
      RelV v u → Q v G → CE outer P w H s Q u s' := fun J r q => ⟨_, _, J.os, J.bare, J.base, J.hok, r, q⟩
  match r, z with
  | .ret u, z =>
    obtain ⟨v, τ, G, J, r1, q⟩ := z
    exact last J r1 q
  | .next, z =>
    obtain ⟨τ, G, J, q⟩ := z
    exact last (v := .non) (u := .none) J rfl q
  | .brk, z =>
    obtain ⟨τ, G, J, q⟩ := z
    exact q.elim
  | .cont, z =>
    obtain ⟨τ, G, J, q⟩ := z
    exact q.elim
end
/-! ### what the law keeps -/
def TL (PT : Addr) : List (Addr × Str) := [(PT, ("law" : Str) ++ ".<locals>." ++ "<lambda>")]
theorem tl_hu {PT : Addr} : ∀ p ∈ TL PT, p.1 = PT → p.2 = ("law" : Str) ++ ".<locals>." ++ "<lambda>" := fun p hp _ => by
  rw [List.mem_singleton.mp hp]
structure LS (p q : Addr) (cs : List Int) (PT : Addr) (n : Nat) (H : Hp) : Prop where
  sv : Sv p q cs n H
  tb : Tabs (TL PT) H
section
variable {p q PT : Addr} {cs : List Int} {n m : Nat} {H H' : Hp}
theorem LS.same (h : LS p q cs PT n H) (s : Same H H') : LS p q cs PT n H' := ⟨h.sv.same s, h.tb.ext fun b o e => s b o e⟩
theorem LS.mono (h : LS p q cs PT n H) (le : n ≤ m) : LS p q cs PT m H := ⟨h.sv.mono le, h.tb⟩
theorem LS.but (h : LS p q cs PT n H) (b : But p H H') (s : Sv p q cs m H') : LS p q cs PT m H' := by
  refine ⟨s, fun x hx => ?_⟩
  obtain ⟨ps, h1, h2, h3⟩ := h.tb x hx
  obtain ⟨_, _, hp, _⟩ := h.sv
  refine ⟨ps, b _ _ (fun z => ?_) h1, h2, fun pos cv hc => ?_⟩
  · rw [z, hp] at h1
    cases h1
  · obtain ⟨c, e1, e2⟩ := h3 pos cv hc
    refine ⟨c, e1, b _ _ (fun z => ?_) e2⟩
    rw [z, hp] at e2
    unfold CodeO at e2
    cases e2
theorem LS.ext (h : LS p q cs PT n H) (e : ExtN H H') (t : Tabs (TL PT) H') : LS p q cs PT n H' := by
  obtain ⟨a, r, h1, h2, h3⟩ := h.sv
  exact ⟨⟨a, r, e _ _ h1 (fun ps z => by cases z), e _ _ h2 (fun ps z => by cases z), h3⟩, t⟩
end
def Keep (p : Addr) (H H' : Hp) : Prop := ∀ b o, b ≠ p → (∀ ps, o ≠ .tbl ps) → H b = some o → H' b = some o
theorem Keep.but {p : Addr} {H H' : Hp} (b : But p H H') : Keep p H H' := fun c o n _ h => b c o n h
theorem Keep.ext {p : Addr} {H H' : Hp} (b : ExtN H H') : Keep p H H' := fun c o _ n h => b c o h n
theorem Keep.same {p : Addr} {H H' : Hp} (b : Same H H') : Keep p H H' := fun c o _ _ h => b c o h
theorem Keep.trans {p : Addr} {H H1 H2 : Hp} (a : Keep p H H1) (b : Keep p H1 H2) : Keep p H H2 := fun c o n1 n2 h => b c o n1 n2 (a c o n1 n2 h)
theorem An.keep {p : Addr} {H H' : Hp} {v : V} (h : An H v) (nr : v ≠ .ref p) (b : Keep p H H') : An H' v ∧ items H' v = items H v ∧ rowB H' v 0 200 = rowB H v 0 200 := by
  cases h with
  | non => exact ⟨.non, rfl, rfl⟩
  | bl b => exact ⟨.bl b, rfl, rfl⟩
  | int i => exact ⟨.int i, rfl, rfl⟩
  | str h => exact ⟨.str h, rfl, rfl⟩
  | lst h =>
    have h2 := b _ _ (fun z => nr (by rw [z])) (fun ps z => by cases z) h
    exact ⟨.lst h2, by simp [items, h, h2], by simp [rowB, h, h2]⟩
  | tup h =>
    have h2 := b _ _ (fun z => nr (by rw [z])) (fun ps z => by cases z) h
    exact ⟨.tup h2, by simp [items, h, h2], by simp [rowB, h, h2]⟩
  | dK h =>
    have h2 := b _ _ (fun z => nr (by rw [z])) (fun ps z => by cases z) h
    exact ⟨.dK h2, by simp [items, h, h2], by simp [rowB, h, h2]⟩
abbrev T2 (a b : Str) : HO := .tup [.str a, .str b]
theorem heard_err {K : PySem.W.Frag} {CB CM CS C : Addr} {word w : Str} {H0 : Hp} {Q : VK} (hC : (C = CB ∧ word = "tongue") ∨ (C = CM ∧ word = "number")) (ex : PySem.W.exmOne K (.ref C) (.ref CS) = some true)
    (q : ∀ H' p, Same H0 H' → H' p = none → Q (.ref p) (upd H' p (.tup [.str word, .str w]))) : eBad C w H0 (fun cls d H' => PySem.W.exmOne K cls (.ref CS) = some true ∧ ∀ a, H' a = none → Rer CB CM cls d a (upd H' a (exv cls d a)) Q) := by
  intro H' d s hd
  refine ⟨ex, fun b hb => ?_⟩
  have bd : d ≠ b := fun z => by
    rw [z, upd_same] at hb
    cases hb
  have sAll := (s.trans (same_new (o := HO.xd [("part", V.str w)]) hd)).trans (same_new (o := exv (.ref C) (some d) b) hb)
  refine ⟨d, .str w, rfl, (upd_ne bd).trans upd_same, ?_⟩
  rcases hC with ⟨rfl, rfl⟩ | ⟨rfl, rfl⟩
  · exact .inl ⟨rfl, fun H2 p s2 hp => q H2 p (sAll.trans s2) hp⟩
  · exact .inr ⟨rfl, fun H2 p s2 hp => q H2 p (sAll.trans s2) hp⟩
def D2 (a b : Str) : PyData := .tuple [.str a, .str b]
theorem dp2 {K : PySem.W.Frag} {H : Hp} {t : Addr} {a b : Str} (h : H t = some (T2 a b)) : Dp K H (.ref t) (D2 a b) := .tup (SqT.of h) (.cons (.str _) (.cons (.str _) .nil))
theorem ne_T2 {K : PySem.W.Frag} {H : Hp} {a b : Addr} {x y : Str} {Q : VK} (ha : H a = some (T2 x y)) (hb : H b = some (T2 x y)) (sh : SeqAt.shaped (D2 x y) = true) (ev : PyData.eqv (D2 x y) (D2 x y) = true) (q : Q (.bl false) H) : rNeD K (.ref a) (.ref b) H Q := by
  refine ⟨_, _, dp2 ha, dp2 hb, sh, sh, ?_⟩
  rw [ev]
  exact q
def spLawT (PT : Addr) (K : PySem.W.Frag) : Sp := fun vs H Q _ => ∃ (a : Addr) (ns : List Int), vs = [.ref a] ∧ SqL K H a (ns.map V.int) ∧ H PT = some (.tbl #[]) ∧ ∀ H', Q (.bl true) H'
def spStr (C : Addr) : Sp := fun vs H Q _ => ∃ (x : Addr) (zs : List Str), vs = [.ref x] ∧ TonAt C H x zs ∧ zs.length = 8 ∧ Tr (cod zs) ∧ ∀ z : Str, Q (.str z) H
theorem hm_ok {K : PySem.W.Frag} {CT CBT CBN x : Addr} {zs : List Str} {n : Nat} {H : Hp} {Q : VK} {E : XK} (t : TonAt CT H x zs) (e8 : zs.length = 8) (tr : Tr (cod zs)) (hn : n ≤ 400) (q : ∀ H', Same H H' → Q (.int ((cnz zs n : Nat) : Int)) H') : spHM K CT CBT CBN [.ref x, .int ((n : Nat) : Int)] H Q E :=
  ⟨_, _, rfl, .inr ⟨x, zs, rfl, t, e8, tr, .int _, .inr ⟨n, rfl, hn, q⟩⟩⟩
theorem heard_bad1 {K : PySem.W.Frag} {CT CBT CBN CS : Addr} {t : TA} {σ : L2.St} {HI : Hp} {v w : V} {ty : Value} {Q : VK} (exB : PySem.W.exmOne K (.ref CBT) (.ref CS) = some true) (hty : TyX K HI v ty) (kt : PySem.W.kitOne K ty (.ref CT) = some false)
    (ht : ∀ R : List V → Hp → Prop, R [v, w] HI → t σ HI R) (q : ∀ H' p, Same HI H' → H' p = none → Q (.ref p) (upd H' p (T2 "tongue" "tongue"))) :
    TTh K CS Rok (Rer CBT CBN) (fun E H' Q' => tCallS (spHM K CT CBT CBN) (fun σ => WE (fun cls d _ H => E cls d H) σ) t σ H' Q') HI Q := by
  refine ht _ ⟨v, w, rfl, .inl ⟨ty, hty, kt, ?_⟩⟩
  exact heard_err (.inl ⟨rfl, rfl⟩) exB q
theorem heard_bad2 {K : PySem.W.Frag} {CT CBT CBN CS x : Addr} {zs : List Str} {t : TA} {σ : L2.St} {HI : Hp} {w : V} {Q : VK} (exM : PySem.W.exmOne K (.ref CBN) (.ref CS) = some true) (ton : TonAt CT HI x zs) (e8 : zs.length = 8) (tr : Tr (cod zs)) (an : An HI w) (nb : inB w (.int 0) (.int 400) = false)
    (ht : ∀ R : List V → Hp → Prop, R [.ref x, w] HI → t σ HI R) (q : ∀ H' p, Same HI H' → H' p = none → Q (.ref p) (upd H' p (T2 "number" "length"))) :
    TTh K CS Rok (Rer CBT CBN) (fun E H' Q' => tCallS (spHM K CT CBT CBN) (fun σ => WE (fun cls d _ H => E cls d H) σ) t σ H' Q') HI Q := by
  refine ht _ ⟨_, w, rfl, .inr ⟨x, zs, rfl, ton, e8, tr, an, .inl ⟨nb, ?_⟩⟩⟩
  exact heard_err (.inr ⟨rfl, rfl⟩) exM q
theorem eq_T2 {K : PySem.W.Frag} {H : Hp} {a b : Addr} {x y : Str} {Q : VK} (ha : H a = some (T2 x y)) (hb : H b = some (T2 x y)) (sh : SeqAt.shaped (D2 x y) = true) (ev : PyData.eqv (D2 x y) (D2 x y) = true) (q : Q (.bl true) H) : rEqD K (.ref a) (.ref b) H Q := by
  refine ⟨_, _, dp2 ha, dp2 hb, sh, sh, ?_⟩
  rw [ev]
  exact q
theorem cnz_lt {zs : List Str} (e8 : zs.length = 8) (tr : Tr (cod zs)) (n : Nat) : cnz zs n < 2 ^ n := by
  obtain ⟨ok, _⟩ := sz_ok e8 tr
  exact cn_le ok.lo ok.hi ok.e1 ok.e8 ok.kr n
theorem dp_nat {K : PySem.W.Frag} {H : Hp} : ∀ row : List Nat, DpAll K H (natV row) (row.map fun (i : Nat) => PyData.int i)
  | [] => .nil
  | i :: row => .cons (.int _) (dp_nat row)
theorem rep_rowV {K : PySem.W.Frag} {H : Hp} {p : Addr} {m : Nat} {f : Nat → Nat} {Q : VK} (hp : H p = some (.lst (rowV m f))) (m4 : m ≤ 1000) (hf : ∀ n, n ≤ m → f n < 10 ^ 20) (q : Q (.str (PyData.list (((List.range (m + 1)).map f).map fun (i : Nat) => PyData.int i)).shown) H) : rRepr K [.ref p] H Q := by
  refine rep_of (.lst (SqL.of hp) (dp_nat _)) (Sh.lst (n := 0) (l := 50) (k := 1001) (fun d hd => ?_) (by rw [List.length_map, List.length_map, List.length_range]; omega)) (by decide) (by decide) q
  obtain ⟨i, hi, rfl⟩ := List.mem_map.mp hd
  obtain ⟨n, hn, rfl⟩ := List.mem_map.mp hi
  have := List.mem_range.mp hn
  have := hf n (by omega)
  exact sh_int (by rw [Int.natAbs_natCast]; omega)
theorem sh_big {n : Nat} (h : n < 2 ^ 400) : Sh 0 200 (.int ((n : Nat) : Int)) := by
  have ha : (((n : Nat) : Int)).natAbs < 2 ^ 400 := by rw [Int.natAbs_natCast]; exact h
  refine ⟨?_, by simp [PyData.hasDict], by simp [PyData.depth], ?_⟩
  · have := PySem.Flt.log2_lt_of (by decide) ha
    simp only [PyData.showable, decide_eq_true_eq]
    omega
  · simp only [PyData.shown]
    rw [show (Str.ofString (toString ((n : Nat) : Int))).length = (toString ((n : Nat) : Int)).length from PySem.ofString_length _]
    have := int_text_length_le10 (a := ((n : Nat) : Int)) (k := 130) (by decide) (Nat.lt_of_lt_of_le ha (by decide +kernel))
    omega
theorem rep_big {K : PySem.W.Frag} {H : Hp} {n : Nat} {Q : VK} (h : n < 2 ^ 400) (q : Q (.str (PyData.int ((n : Nat) : Int)).shown) H) : rRepr K [.int ((n : Nat) : Int)] H Q := rep_of (.int _) (sh_big h) (by decide) (by decide) q
/-- the sum of the lesser counts -/
theorem cnz_great {zs : List Str} (e8 : zs.length = 8) (tr : Tr (cod zs)) {G : Nat} (g : 61 ≤ G) : ((zs.take 7).map fun z => cnz zs (G - z.length)).sum = cnz zs G := by
  obtain ⟨ok, sp⟩ := sz_ok e8 tr
  have e7 : (zs.take 7).map (·.length) = szs zs := by
    rw [List.map_take, sp, List.take_append_of_le_length (by rw [ok.len]; exact Nat.le_refl _), List.take_of_length_le (by rw [ok.len]; exact Nat.le_refl _)]
  have h := cn_rec (e := en8 zs) ok.lo G
  have h8 := ok.e8
  rw [if_neg (by omega), Nat.add_zero] at h
  show _ = cn (szs zs) (en8 zs) G
  rw [h]
  unfold pick
  have e : ((szs zs).map fun s => if s ≤ G then cn (szs zs) (en8 zs) (G - s) else 0) = (szs zs).map fun s => cn (szs zs) (en8 zs) (G - s) := by
    refine List.map_congr_left fun s hs => ?_
    have := ok.hi s hs
    rw [if_pos (by omega)]
  have e9 : ((szs zs).map fun s => cn (szs zs) (en8 zs) (G - s)) = ((zs.take 7).map (·.length)).map fun s => cn (szs zs) (en8 zs) (G - s) := by rw [e7]
  rw [e, e9, List.map_map]
  rfl
theorem Keep.none_ {p : Addr} {H H' : Hp} (b : Same H H') : Keep p H H' := Keep.same b
theorem TonAt.keep {C x p q : Addr} {cs : List Int} {n : Nat} {H H' : Hp} {zs : List Str} (h : TonAt C H x zs) (k : Keep p H H') (xp : x ≠ p) (sv : Sv p q cs n H) : TonAt C H' x zs := by
  obtain ⟨dx, t, h1, h2⟩ := h.ex
  have tp : t ≠ p := fun z => by
    obtain ⟨_, _, hp, _⟩ := sv
    rw [z, hp] at h2
    cases h2
  exact ⟨dx, t, k _ _ xp (fun ps z => by unfold insT at z; cases z) h1, k _ _ tp (fun ps z => by cases z) h2⟩
section
variable {P : Program} {w : World} {K : PySem.W.Frag} {mg : Str → Option Value} {base : Heap}
theorem ok_str {C f : Addr} {fd : FuncData} (F : Fun K "__str__" "Tongue.__str__" s_Tongue_str f fd) (T : Txt mg) (c : TgC K C) : FnOk P w K mg base CX0 1 f fd ["self"] (spStr C) := by
  refine F.ok sc_Tongue_str (fun vs H Q E h => ?_) (fun cdv A outer s H vs Q E hr h => ?_)
  · obtain ⟨x, zs, rfl, _⟩ := h
    rfl
  · obtain ⟨x, zs, rfl, ⟨dx, t, hx, ht⟩, e8, tr, k⟩ := h
    refine ⟨_, (pss_one (ps_ret (pe_bm PySem.F.plainAttrs_str PySem.F.slot_str_join PySem.F.type_str_join mt_join pe_str (pa_cons (pe_fld (pv 0) rfl) pa_nil)))), ?_⟩
    refine ⟨rfl, _, rfl, x, C, dx, _, _, rfl, hx, c.cl, c.no, rfl, " ", t, zs, rfl, rfl, .inr (SqT.of ht), ?_, k _⟩
    have : ∀ L : List Str, (∀ z ∈ L, z.length ≤ 8) → (L.map (·.length)).sum ≤ L.length * 8 := by
      intro L
      induction L with
      | nil => intro _; exact Nat.le_refl _
      | cons z L ih =>
        intro h
        have := h z List.mem_cons_self
        have := ih fun y hy => h y (List.mem_cons_of_mem _ hy)
        rw [List.map_cons, List.sum_cons, List.length_cons]
        omega
    have h8 := this zs (tr_hi tr)
    have l1 : (" " : Str).length = 1 := by decide +kernel
    rw [l1, e8]
    rw [e8] at h8
    exact Nat.le_trans (m := 1000) (by omega) (by decide)
theorem ok_law {CT CX CY CBT CBN CF CS PT cC g f fI fS : Addr} {fd fdg fdI : FuncData} (F : Fun K "law" "law" s_law f fd) (hcode0 : fd.code = .ref cC) (TB : TabB base mg cC PT) (T : Txt mg)
    (FH : Fun K "_law_heard" "_law_heard" s__law_heard g fdg) (mH : mg "_law_heard" = some (.ref g)) (kH : PySem.W.keepIn K (.ref g) = true) (bH0 : Binds K fdg ["ask"] [])
    (c : TgC K CT) (M_T : Mk K CT fI) (F_T : FnOk P w K mg base (L2.CX P w) 6 fI fdI ["self", "names"] (spMk K CT)) (b_T : Binds K fdI ["self", "names"] []) (atG : mg "Tongue" = some (.ref CT))
    (hsS : PySem.W.findIn K (.ref CT) "__str__" = some (some (.ref fS))) (hfS : PySem.W.isFn K (.ref fS) = true) (F_S : FnR P w K mg base CX0 1 fS (spStr CT))
    (atX : mg "BadText" = some (.ref CX)) (atY : mg "TooMany" = some (.ref CY)) (atB : mg "BadTongue" = some (.ref CBT)) (atM : mg "BadNumber" = some (.ref CBN)) (atF : mg "Misfit" = some (.ref CF)) (atE : mg "TickError" = some (.ref CS))
    (kB : Knd K CBT CX CY CBT CBN CF true false) (kM : Knd K CBN CX CY CBT CBN CF false true) (exB : PySem.W.exmOne K (.ref CBT) (.ref CS) = some true) (exM : PySem.W.exmOne K (.ref CBN) (.ref CS) = some true)
    (kn : ∀ t : String, t ∈ ["NoneType", "str", "int", "list"] → PySem.W.kitOne K (.type t) (.ref CT) = some false)
    (C_how_many : CalX P w K mg base 4 "how_many" ["tongue", "length"] (spHM K CT CBT CBN)) (K_how_many : CalXK P w K mg base 4 "how_many" ["tongue", "length"] ["tongue", "length"] (fun l => l) (spHM K CT CBT CBN))
    (C__law_sink : Cal P w K mg base 1 "_law_sink" ["script"] (spSieve K)) (C__law_fill : Cal P w K mg base 1 "_law_fill" ["sink", "many"] spSift) (C__law_pick : Cal P w K mg base 2 "_law_pick" ["sink", "some"] spOne)
    (C__law_names : Cal P w K mg base 3 "_law_names" ["sink"] spNames) (C__law_counts : Cal P w K mg base 1 "_law_counts" ["names", "most"] spLC) : FnG P w K mg base CX0 12 f fd ["script"] (spLawT PT K) := by
  obtain ⟨ocH, odH, kVH, docH, pmH, anH, cdvH, ctH, oslH, rfl, lkH, cdH⟩ := FH.ex
  have bH : Binds K _ ["ask"] [] := bH0
  refine okG_code F sc_law (fun vs H Q E h => ?_) (fun cdv hcd A outer s H vs Q E hr gd h => ?_)
  · obtain ⟨a, ns, rfl, _⟩ := h
    rfl
  · obtain ⟨a, ns, rfl, hS, hT, k⟩ := h
    have hcode : cdv = .ref cC := hcd.symm.trans hcode0
    subst hcode
    have hcode : (Value.ref cC) = .ref cC := rfl
    refine ⟨_, (pss_cons (ps_set (i := 1) sc_law.nd rfl (Or.inl rfl) (pe_cal C__law_sink (hr.mono (by decide)) (pa_cons (pv 0) pa_nil)))
  (pss_cons (ps_set (i := 2) sc_law.nd rfl (Or.inl rfl) (pe_cal C__law_names (hr.mono (by decide)) (pa_cons (pv 1) pa_nil)))
  (pss_cons (ps_set (i := 9) sc_law.nd rfl (Or.inr rfl) (pe_make M_T F_T (hr.mono (by decide)) rfl atG b_T .nil passes_no (pa_cons (pv 2) pa_nil)))
  (pss_cons (ps_set (i := 3) sc_law.nd rfl (Or.inr rfl) (pe_cal C__law_pick (hr.mono (by decide)) (pa_cons (pv 1) (pa_cons (pe_lst (pa_cons pe_int (pa_cons pe_int (pa_cons pe_int (pa_cons pe_int pa_nil))))) pa_nil))))
  (pss_cons (ps_setLc (i := 4) (own := [("length", 10)]) (g := gName 10) (tt := tYes) rfl sc_law.nd rfl rfl (sw_true rfl rfl rfl (by decide +kernel)) (pi_range1 rfl T.b_range (pa_cons (pe_op op_add (pv 3) pe_int) pa_nil)) (blkOk_by (own := [("length", 10)]) (N := N_law) (sc := defScope s_law) (by decide +kernel)) (fun _ _ _ _ _ => (pg_name (i := 10) sc_law.nd rfl (Or.inl rfl))) (fun _ _ _ _ _ => pts_nil) (fun _ _ _ _ _ => (pe_calX C_how_many (hr.mono (by decide)) (pa_cons (pv 9) (pa_cons (pv 10) pa_nil)))))
  (pss_cons (ps_if (pt_cmpR op_ne (pe_callB (call_repr gd (hu64 hr)) (by rfl) T.b_repr boot_repr (pa_cons (pv 4) pa_nil)) (pe_callB (call_repr gd (hu64 hr)) (by rfl) T.b_repr boot_repr (pa_cons (pe_cal C__law_counts (hr.mono (by decide)) (pa_cons (pv 2) (pa_cons (pv 3) pa_nil))) pa_nil)) (nomark _))
  (pss_one (ps_ret pe_bl))
  pss_nil)
  (pss_cons (ps_if (pt_cmpR op_ge (pe_callB (cr_sum rfl) (by rfl) T.b_sum boot_sum (pa_cons (pe_lc (own := [("length", 10), ("many", 12)]) (tt := tYes) rfl sc_law.nd (pi_enum rfl T.b_enumerate (pa_cons (pv 4) pa_nil)) (blkOk_by (own := [("length", 10), ("many", 12)]) (N := N_law) (sc := defScope s_law) (by decide +kernel)) (fun _ _ _ _ _ => (pg_tupK (K := K) (n := 2) (by rfl) rfl (pgs_cons (pg_name (i := 10) sc_law.nd rfl (Or.inl rfl)) (pgs_cons (pg_name (i := 12) sc_law.nd rfl (Or.inl rfl)) pgs_nil)))) (fun _ _ _ _ _ => pts_nil) (fun _ _ _ _ _ => (pe_op op_shl (pv 12) (pe_op op_sub (pv 3) (pv 10))))) pa_nil)) (pe_op op_shl pe_int (pv 3)) (nomark _))
  (pss_one (ps_ret pe_bl))
  pss_nil)
  (pss_cons (ps_set (i := 5) sc_law.nd rfl (Or.inr rfl) (pe_cal C__law_pick (hr.mono (by decide)) (pa_cons (pv 1) (pa_cons (pe_lst (pa_cons pe_int (pa_cons pe_int (pa_cons pe_int (pa_cons (pe_op op_add pe_int (pe_cal C__law_fill (hr.mono (by decide)) (pa_cons (pv 1) (pa_cons pe_int pa_nil)))) (pa_cons (pe_op op_add pe_int (pe_cal C__law_fill (hr.mono (by decide)) (pa_cons (pv 1) (pa_cons pe_int pa_nil)))) pa_nil)))))) pa_nil))))
  (pss_cons (ps_set (i := 6) sc_law.nd rfl (Or.inl rfl) (pe_callB (cr_sum rfl) (by rfl) T.b_sum boot_sum (pa_cons (pe_lc (own := [("name", 11)]) (g := gName 11) (tt := tYes) rfl sc_law.nd (pi_list (pe_slice sl_list (pv 2) po_none (po_some pe_int))) (blkOk_by (own := [("name", 11)]) (N := N_law) (sc := defScope s_law) (by decide +kernel)) (fun _ _ _ _ _ => (pg_name (i := 11) sc_law.nd rfl (Or.inl rfl))) (fun _ _ _ _ _ => pts_nil) (fun _ _ _ _ _ => (pe_calX C_how_many (hr.mono (by decide)) (pa_cons (pv 9) (pa_cons (pe_op op_sub (pv 5) (pe_callB call_len_str (by rfl) T.b_len boot_len (pa_cons (pv 11) pa_nil))) pa_nil))))) pa_nil)))
  (pss_cons (ps_if (pt_cmpR op_ne (pe_callB (call_repr gd (hu64 hr)) (by rfl) T.b_repr boot_repr (pa_cons (pe_calXK K_how_many (hr.mono (by decide)) (pk_cons (pv 9) (pk_cons (pv 5) pk_nil))) pa_nil)) (pe_callB (call_repr gd (hu64 hr)) (by rfl) T.b_repr boot_repr (pa_cons (pv 6) pa_nil)) (nomark _))
  (pss_one (ps_ret pe_bl))
  pss_nil)
  (pss_cons (ps_set (i := 7) sc_law.nd rfl (Or.inr rfl) (pe_cal C__law_pick (hr.mono (by decide)) (pa_cons (pv 1) (pa_cons (pe_lst (pa_cons pe_non (pa_cons (pe_callTy (call_strOwn hsS hfS F_S (hr.mono (by decide)) pass0) (by rfl) T.b_str boot_str (pa_cons (pv 9) pa_nil)) (pa_cons pe_int (pa_cons (pv 2) pa_nil))))) pa_nil))))
  (pss_cons (ps_set (i := 8) sc_law.nd rfl (Or.inr rfl) (pe_cal C__law_pick (hr.mono (by decide)) (pa_cons (pv 1) (pa_cons (pe_lst (pa_cons pe_non (pa_cons (pe_un un_neg pe_int) (pa_cons pe_int (pa_cons pe_bl (pa_cons pe_str (pa_cons (pe_lst (pa_cons pe_int pa_nil)) (pa_cons (pe_op op_pow pe_int pe_int) pa_nil)))))))) pa_nil))))
  (pss_cons (ps_if (pt_cmpR (op_neD (hu64 hr)) (pe_lamcall (T := TL PT) (TT := TTh K CS Rok (Rer CBT CBN)) (a := "ask") (c := cC) (P := PT) (k := 4) rfl mH kH lkH cdH bH sc__law_heard rfl (Or.inl rfl) (heard_ok T atX atY atB atM atF atE kB kM) TB hcode (List.mem_singleton.mpr rfl) tl_hu (hr.mono (by decide)) (lamS_by (by show lamSB (defScope s_law) _ = true; decide +kernel)) rfl (fun _ _ _ _ _ => rfl)
    (fun A outer s H E f c' hr2 => (pe_calE (W := fun cls d _ H => E cls d H) C_how_many (takes_of rfl rfl rfl rfl) hr2 (pa_cons (pv 7) (pa_cons (pv 8) pa_nil))))) (pe_tup (pa_cons pe_str (pa_cons pe_str pa_nil))) (nomark _))
  (pss_one (ps_ret pe_bl))
  pss_nil)
  (pss_one (ps_ret (pe_cmpR (op_eqD (hu64 hr)) (pe_lamcall (T := TL PT) (TT := TTh K CS Rok (Rer CBT CBN)) (a := "ask") (c := cC) (P := PT) (k := 4) rfl mH kH lkH cdH bH sc__law_heard rfl (Or.inl rfl) (heard_ok T atX atY atB atM atF atE kB kM) TB hcode (List.mem_singleton.mpr rfl) tl_hu (hr.mono (by decide)) (lamS_by (by show lamSB (defScope s_law) _ = true; decide +kernel)) rfl (fun _ _ _ _ _ => rfl)
    (fun A outer s H E f c' hr2 => (pe_calE (W := fun cls d _ H => E cls d H) C_how_many (takes_of rfl rfl rfl rfl) hr2 (pa_cons (pv 9) (pa_cons (pv 8) pa_nil))))) (pe_tup (pa_cons pe_str (pa_cons pe_str pa_nil))) (nomark _))))))))))))))))), ?_⟩
    refine ⟨_, rfl, a, ns, rfl, hS, fun p q cs H1 hp s1 hc sv => ?_⟩
    have ls0 : LS p q cs PT 0 H1 := ⟨sv, fun x hx => by
      rw [List.mem_singleton.mp hx]
      exact TabS.nil (s1 _ _ hT)⟩
    clear hS hT s1 sv
    refine ⟨_, rfl, p, q, cs, 0, rfl, by omega, by omega, ls0.sv, fun l zs H2 fl hl e8 tr b2 s2 => ?_⟩
    have ls2 := ls0.but b2 s2
    have lp : l ≠ p := sv_ne ls0.sv fl
    clear ls0 b2 s2 fl
    dsimp only [gName]
    refine ⟨_, rfl, fun x dx hx hdx nd => ?_⟩
    have sD := same_new (o := HO.own x) hdx
    have hx2 : upd H2 dx (.own x) x = none := (upd_ne nd.symm).trans hx
    have sX := same_new (o := HO.ins CT dx []) hx2
    have xX : upd (upd H2 dx (.own x)) x (.ins CT dx []) x = some (.ins CT dx []) := upd_same
    generalize upd (upd H2 dx (HO.own x)) x (HO.ins CT dx []) = H3 at sX xX ⊢
    have s23 := sD.trans sX
    refine ⟨x, dx, l, zs, rfl, xX, s23 _ _ hl, e8, tr, fun H4 t s4 ht => ⟨rfl, ?_⟩⟩
    have xt : x ≠ t := fun z => by
      have := s4 _ _ xX
      rw [z, ht] at this
      cases this
    have s5 := same_mut (o := insT CT dx t) ((s23.trans s4).trans (same_new (o := HO.tup (zs.map V.str)) ht)) hx
    have ton : TonAt CT (upd (upd H4 t (HO.tup (zs.map V.str))) x (insT CT dx t)) x zs := ⟨dx, t, upd_same, (upd_ne xt.symm).trans upd_same⟩
    have ls5 := ls2.same s5
    have hl5 := s5 _ _ hl
    have xp : x ≠ p := sv_ne ls2.sv hx
    generalize upd (upd H4 t (HO.tup (zs.map V.str))) x (insT CT dx t) = H5 at s5 ton ls5 hl5 ⊢
    clear sD hx2 sX xX s23 s4 ht s5 ls2 hl hx hdx
    dsimp only [gName]
    -- how far
    refine ⟨_, rfl, by show 4 ≤ sizeLine; decide, fun lc hlc => ?_⟩
    have sc := same_new (o := HO.lst [V.int 20, V.int 20, V.int 30, V.int 45]) hlc
    refine ⟨p, q, cs, _, lc, _, rfl, upd_same, sv_ne ls5.sv hlc, by show 0 < 4; decide, by show 4 ≤ 1000; decide, by omega, by omega, (ls5.same sc).sv, fun v H6 hv b6 s6 => ?_⟩
    obtain ⟨N, rfl, N8, N45⟩ : ∃ N : Nat, v = .int (N : Int) ∧ 8 ≤ N ∧ N ≤ 45 := by
      simp only [List.mem_cons, List.not_mem_nil, or_false] at hv
      rcases hv with rfl | rfl | rfl | rfl
      · exact ⟨20, rfl, by decide, by decide⟩
      · exact ⟨20, rfl, by decide, by decide⟩
      · exact ⟨30, rfl, by decide, by decide⟩
      · exact ⟨45, rfl, by decide, by decide⟩
    have kp : Keep p H5 H6 := (Keep.same sc).trans (Keep.but b6)
    have ls6 := (ls5.same sc).but b6 s6
    have hl6 := kp _ _ lp (fun ps z => by cases z) hl5
    have ton6 := ton.keep kp xp ls5.sv
    clear hv b6 s6 sc hlc ls5 hl5 kp
    dsimp only [gName]
    -- the counts
    refine ⟨_, rfl, _, _, rfl, rfl, ((N + 1 : Nat) : Int), rfl, by omega, by omega, fun D hD => ?_⟩
    refine lc_rng (n := N + 1) (f0 := fun i => .int (0 + (i : Nat))) (f := fun i => .int ((cnz zs i : Nat) : Int)) walk_range hD (fun _ _ => trivial) (Nat.le_trans (m := 100) (by omega) (by decide)) (fun _ => rfl) (fun i H' R hi s r => ?_) (fun H7 s7 h7 => ?_)
    · refine ⟨_, rfl, _, rfl, ?_⟩
      dsimp only [tNil, tCons, tC]
      rw [Int.zero_add]
      exact hm_ok (ton6.same s) e8 tr (by omega) fun H'' s' => r H'' s'
    have h7 : H7 D = some (.lst (rowV N (cnz zs))) := by rw [h7]; unfold rowV natV; rw [List.map_map]; rfl
    have ls7 := ls6.same s7
    have hl7 := s7 _ _ hl6
    have ton7 := ton6.same s7
    have Dp : D ≠ p := sv_ne ls6.sv hD
    clear ls6 hl6 ton6 s7 hD
    dsimp only [gName]
    have small : ∀ n, n ≤ N → cnz zs n < 10 ^ 20 := fun n hn => Nat.lt_of_lt_of_le (cnz_lt e8 tr n) (Nat.le_trans (Nat.pow_le_pow_right (by decide) (show n ≤ 45 by omega)) (by decide))
    refine ne_rep ?_
    refine ⟨_, rfl, rep_rowV h7 (by omega) small ?_⟩
    refine ⟨_, rfl, _, rfl, l, zs, N, rfl, hl7, e8, tr, N8, by omega, fun r H8 s8 h8 => rep_rowV h8 (by omega) small ?_⟩
    refine ⟨rfl, false, by simp, iteF (nx_in ?_)⟩
    dsimp only
    have ls8 := ls7.same s8
    have hl8 := s8 _ _ hl7
    have ton8 := ton7.same s8
    have hD8 := s8 _ _ h7
    clear ls7 hl7 ton7 h7 s8 h8
    -- the shares
    refine ⟨_, rfl, D, _, rfl, SqL.of hD8, fun J hJ => ?_⟩
    refine lc_it (walk_enum (K := K) (a := D) (xs := rowV N (cnz zs))) (fun i H' => Same H8 H' ∧ H' J = some (.lst (natV ((List.range i).map fun l => cnz zs l * 2 ^ (N - l))))) ⟨same_new hJ, by rw [upd_same]; rfl⟩ (fun i H' _ p => SqL.of (p.1 _ _ hD8)) (fun i x H9 H' hi p y => ?_) (fun H9 p => ?_)
    · obtain ⟨s9, hm⟩ := p
      obtain ⟨Tt, x1, x2, rfl, hT, rfl, e1, e2⟩ := y
      cases e1
      rw [rowV_len] at hi
      have e2 : (rowV N (cnz zs))[i]? = some x2 := e2
      have lt : i < ((List.range (N + 1)).map (cnz zs)).length := by rw [List.length_map, List.length_range]; omega
      have e3 := natV_get lt
      rw [List.getD_eq_getElem?_getD, List.getElem?_map, List.getElem?_range (by omega)] at e3
      unfold rowV at e2
      rw [e3] at e2
      cases e2
      have sT := same_new (o := HO.tup [.int (i : Nat), .int ((cnz zs i : Nat) : Int)]) hT
      have hmT := sT _ _ hm
      refine ⟨Tt, _, rfl, SqT.of upd_same, rfl, _, _, rfl, _, _, rfl, rfl, rfl, yes_if ?_⟩
      have lt2 := cnz_lt e8 tr i
      have lt3 : cnz zs i < 2 ^ 64 := Nat.lt_of_lt_of_le lt2 (Nat.pow_le_pow_right (by decide) (by omega))
      refine ⟨_, rfl, _, rfl, _, rfl, _, _, rfl, rfl, _, _, rfl, rfl, ⟨by omega, by omega, by rw [Int.natAbs_natCast]; exact lt3⟩, _, hmT, ?_, same_mut (s9.trans sT) hJ, ?_⟩
      · unfold natV
        rw [List.length_map, List.length_map, List.length_range]
        exact Nat.lt_of_le_of_lt (m := 46) (by omega) (by decide)
      · rw [upd_same, List.range_succ, List.map_append]
        have ec : (((cnz zs i : Nat) : Int)) * 2 ^ (((N : Nat) : Int) - ((i : Nat) : Int)).toNat = ((cnz zs i * 2 ^ (N - i) : Nat) : Int) := by
          rw [show (((N : Nat) : Int) - ((i : Nat) : Int)).toNat = N - i by omega, Int.natCast_mul, Int.natCast_pow]
          rfl
        show some (HO.lst (natV ((List.range i).map fun l => cnz zs l * 2 ^ (N - l)) ++ [V.int (((cnz zs i : Nat) : Int) * 2 ^ (((N : Nat) : Int) - ((i : Nat) : Int)).toNat)])) = _
        rw [ec]
        unfold natV
        rw [List.map_append]
        rfl
    · obtain ⟨s9, hm⟩ := p
      rw [rowV_len] at hm
      refine ⟨J, ((List.range (N + 1)).map fun l => cnz zs l * 2 ^ (N - l)).map fun n => ((n : Nat) : Int), rfl, SqL.of (by rw [hm]; unfold natV; rw [List.map_map, List.map_map, List.map_map]; rfl), ?_⟩
      rw [int_sum]
      have hss : ((List.range (N + 1)).map fun l => cnz zs l * 2 ^ (N - l)).sum < 2 ^ N := by
        obtain ⟨ok, _⟩ := sz_ok e8 tr
        have := ss_sum (szs zs) (en8 zs) N
        have h2 := ss_lt ok.lo ok.hi ok.e1 ok.e8 ok.kr N
        rw [← this] at h2
        exact h2
      refine ⟨_, rfl, _, _, rfl, rfl, ⟨by omega, by omega, by decide⟩, _, _, rfl, rfl, _, rfl, ?_⟩
      have ge : ¬ ((1 : Int) * 2 ^ (((N : Nat) : Int)).toNat ≤ ((((List.range (N + 1)).map fun l => cnz zs l * 2 ^ (N - l)).sum : Nat) : Int)) := by
        have e1 : (1 : Int) * 2 ^ (((N : Nat) : Int)).toNat = ((2 ^ N : Nat) : Int) := by
          rw [Int.one_mul, Int.toNat_natCast, Int.natCast_pow]
          rfl
        rw [e1]
        omega
      rw [decide_eq_false ge]
      refine iteF (nx_in ?_)
      dsimp only
      have ls9 := ls8.same s9
      have hl9 := s9 _ _ hl8
      have ton9 := ton8.same s9
      clear ls8 hl8 ton8 hD8 s9 hm hss ge hJ
      -- a great length
      refine ⟨_, rfl, _, rfl, p, q, cs, _, 340, rfl, by decide, by decide, by omega, by omega, ls9.sv, fun r1 HA r10 r11 bA sA => ?_⟩
      have lsA := ls9.but bA sA
      refine ⟨_, _, rfl, rfl, _, rfl, p, q, cs, _, 340, rfl, by decide, by decide, by omega, by omega, lsA.sv, fun r2 HB r20 r21 bB sB => ?_⟩
      have lsB := lsA.but bB sB
      refine ⟨_, _, rfl, rfl, by show 5 ≤ sizeLine; decide, fun lc hlc => ?_⟩
      have sc := same_new (o := HO.lst [V.int 400, V.int 399, V.int 100, V.int (61 + r1), V.int (61 + r2)]) hlc
      refine ⟨p, q, cs, _, lc, _, rfl, upd_same, sv_ne lsB.sv hlc, by show 0 < 5; decide, by show 5 ≤ 1000; decide, by omega, by omega, (lsB.same sc).sv, fun v HC hv bC sC => ?_⟩
      obtain ⟨G, rfl, G61, G400⟩ : ∃ G : Nat, v = .int (G : Int) ∧ 61 ≤ G ∧ G ≤ 400 := by
        simp only [List.mem_cons, List.not_mem_nil, or_false] at hv
        rcases hv with rfl | rfl | rfl | rfl | rfl
        · exact ⟨400, rfl, by decide, by decide⟩
        · exact ⟨399, rfl, by decide, by decide⟩
        · exact ⟨100, rfl, by decide, by decide⟩
        · exact ⟨(61 + r1).toNat, by rw [Int.toNat_of_nonneg (by omega)], by omega, by omega⟩
        · exact ⟨(61 + r2).toNat, by rw [Int.toNat_of_nonneg (by omega)], by omega, by omega⟩
      have kp : Keep p H9 HC := ((Keep.but bA).trans (Keep.but bB)).trans ((Keep.same sc).trans (Keep.but bC))
      have lsC := (lsB.same sc).but bC sC
      have hlC := kp _ _ lp (fun ps z => by cases z) hl9
      have tonC := ton9.keep kp xp ls9.sv
      clear hv bA sA bB sB bC sC sc hlc lsA lsB ls9 hl9 ton9 kp r10 r11 r20 r21
      dsimp only [gName]
      refine ⟨_, rfl, 7, rfl, l, _, rfl, SqL.of hlC, fun t5 ht5 => ?_⟩
      have c7 : cutV (zs.map V.str) none (some 7) = (zs.take 7).map V.str := cut_to (i := 6) (by omega)
      rw [c7]
      have s5 := same_new (o := HO.lst ((zs.take 7).map V.str)) ht5
      have h5 : upd HC t5 (HO.lst ((zs.take 7).map V.str)) t5 = some (.lst ((zs.take 7).map V.str)) := upd_same
      have lsD := lsC.same s5
      have hlD := s5 _ _ hlC
      have tonD := tonC.same s5
      generalize upd HC t5 (HO.lst ((zs.take 7).map V.str)) = HD at h5 lsD hlD tonD ⊢
      clear s5 ht5 lsC hlC tonC c7
      refine ⟨t5, rfl, ⟨_, SqL.of h5⟩, fun J2 hJ2 => ?_⟩
      refine lc_map (f := fun v => match v with | .str z => .int ((cnz zs (G - z.length) : Nat) : Int) | v => v) (walk_list (K := K) (xs := (zs.take 7).map V.str)) hJ2 (fun H' s => SqL.of (s _ _ h5)) (by rw [List.length_map, List.length_take]; exact Nat.le_trans (m := 8) (by omega) (by decide)) (fun _ => rfl) (fun i x H' R hx s r => ?_) (fun HE sE hE => ?_)
      · rw [List.getElem?_map] at hx
        obtain ⟨z, hz, rfl⟩ := Option.map_eq_some_iff.mp hx
        have zm := List.mem_of_mem_take (List.mem_of_getElem? hz)
        have z8 := tr_hi tr z zm
        refine ⟨_, rfl, _, rfl, _, rfl, z, rfl, Nat.le_trans z8 (by decide), _, _, rfl, rfl, ?_⟩
        dsimp only [tNil, tCons, tC]
        rw [show ((G : Nat) : Int) - ((z.length : Nat) : Int) = ((G - z.length : Nat) : Int) by omega]
        exact hm_ok (tonD.same s) e8 tr (by omega) fun H'' s' => r H'' s'
      have hE : HE J2 = some (.lst (((zs.take 7).map fun z => cnz zs (G - z.length)).map fun n => V.int ((n : Nat) : Int))) := by rw [hE, List.map_map, List.map_map]; rfl
      refine ⟨J2, ((zs.take 7).map fun z => cnz zs (G - z.length)).map fun n => ((n : Nat) : Int), rfl, SqL.of (by rw [hE]; simp only [List.map_map]; rfl), ?_⟩
      rw [int_sum, cnz_great e8 tr G61]
      have lsE := lsD.same sE
      have hlE := sE _ _ hlD
      have tonE := tonD.same sE
      clear lsD hlD tonD h5 hE sE hJ2
      dsimp only [gName]
      have big : cnz zs G < 2 ^ 400 := Nat.lt_of_lt_of_le (cnz_lt e8 tr G) (Nat.pow_le_pow_right (by decide) G400)
      refine ne_rep ?_
      refine ⟨_, rfl, _, rfl, rfl, ?_⟩
      dsimp only [tNil, tCons, tC]
      refine hm_ok tonE e8 tr G400 fun HF sF => ?_
      refine rep_big big ?_
      refine ⟨_, rfl, rep_big big ?_⟩
      refine ⟨rfl, false, by simp, iteF (nx_in ?_)⟩
      dsimp only
      have lsF := lsE.same sF
      have hlF := sF _ _ hlE
      have tonF := tonE.same sF
      clear lsE hlE tonE sF
      obtain ⟨dx', t', h1', h2'⟩ := tonF.ex
      -- none
      refine ⟨_, rfl, _, rfl, x, dx', _, rfl, h1', x, zs, rfl, tonF, e8, tr, fun z => ⟨z, rfl, ?_⟩⟩
      refine ⟨_, rfl, by show 4 ≤ sizeLine; decide, fun lc hlc => ?_⟩
      have sc := same_new (o := HO.lst [V.non, V.str z, V.int 5, V.ref l]) hlc
      refine ⟨p, q, cs, _, lc, _, rfl, upd_same, sv_ne lsF.sv hlc, by show 0 < 4; decide, by show 4 ≤ 1000; decide, by omega, by omega, (lsF.same sc).sv, fun nv HG hv bG sG => ?_⟩
      have isn : nv = .non ∨ (∃ z, nv = .str z) ∨ nv = .int 5 ∨ nv = .ref l := by
        simp only [List.mem_cons, List.not_mem_nil, or_false] at hv
        rcases hv with rfl | rfl | rfl | rfl
        · exact .inl rfl
        · exact .inr (.inl ⟨_, rfl⟩)
        · exact .inr (.inr (.inl rfl))
        · exact .inr (.inr (.inr rfl))
      have kp : Keep p HF HG := (Keep.same sc).trans (Keep.but bG)
      have lsG := (lsF.same sc).but bG sG
      have hlG := kp _ _ lp (fun ps z => by cases z) hlF
      have tonG := tonF.keep kp xp lsF.sv
      clear hv bG sG sc hlc lsF hlF tonF h1' h2' kp
      dsimp only [gName]
      -- odd
      refine ⟨_, rfl, ?_⟩
      refine ⟨1, rfl, by show 1 ≤ sizeLine; decide, fun t1 ht1 => ?_⟩
      have s1 := same_new (o := HO.lst [V.int 1]) ht1
      have h1 : upd HG t1 (HO.lst [V.int 1]) t1 = some (.lst [V.int 1]) := upd_same
      have t1p : t1 ≠ p := sv_ne lsG.sv ht1
      have lsG1 := lsG.same s1
      generalize upd HG t1 (HO.lst [V.int 1]) = HG1 at s1 h1 lsG1 ⊢
      refine ⟨10, 30, rfl, rfl, cpow_of (by decide) (by decide) (by decide) (by decide), by show 7 ≤ sizeLine; decide, fun lo hlo => ?_⟩
      have so := same_new (o := HO.lst [V.non, V.int (-1), V.int 401, V.bl true, V.str "3", V.ref t1, V.int (10 ^ (30 : Int).toNat)]) hlo
      have h1o := so _ _ h1
      refine ⟨p, q, cs, _, lo, _, rfl, upd_same, sv_ne lsG1.sv hlo, by show 0 < 7; decide, by show 7 ≤ 1000; decide, by omega, by omega, (lsG1.same so).sv, fun ov HH hv bH' sH => ?_⟩
      have odd : An HH ov ∧ inB ov (.int 0) (.int 400) = false ∧ ov ≠ .ref p := by
        have h1h := bH' _ _ t1p h1o
        simp only [List.mem_cons, List.not_mem_nil, or_false] at hv
        rcases hv with rfl | rfl | rfl | rfl | rfl | rfl | rfl
        · exact ⟨.non, rfl, fun z => by cases z⟩
        · exact ⟨.int _, by decide +kernel, fun z => by cases z⟩
        · exact ⟨.int _, by decide +kernel, fun z => by cases z⟩
        · exact ⟨.bl _, rfl, fun z => by cases z⟩
        · exact ⟨.str (by decide +kernel), rfl, fun z => by cases z⟩
        · exact ⟨.lst h1h, rfl, fun z => t1p (by injection z)⟩
        · exact ⟨.int _, by decide +kernel, fun z => by cases z⟩
      have kp : Keep p HG HH := ((Keep.same s1).trans (Keep.same so)).trans (Keep.but bH')
      have lsH := (lsG1.same so).but bH' sH
      have hlH := kp _ _ lp (fun ps z => by cases z) hlG
      have tonH := tonG.keep kp xp lsG.sv
      clear hv bH' sH so hlo h1 h1o ht1 s1 lsG lsG1 hlG tonG kp t1p
      dsimp only [gName]
      -- no tongue
      refine ⟨lsH.tb, fun HI e1 tI => ?_⟩
      have lsI := lsH.ext e1 tI
      have hlI := e1 _ _ hlH (fun ps z => by cases z)
      have tonI := tonH.keep (Keep.ext (p := p) e1) xp lsH.sv
      have oddI : An HI ov := (An.keep odd.1 odd.2.2 (Keep.ext (p := p) e1)).1
      obtain ⟨ty, hty, kt⟩ : ∃ ty, TyX K HI nv ty ∧ PySem.W.kitOne K ty (.ref CT) = some false := by
        rcases isn with rfl | ⟨z', rfl⟩ | rfl | rfl
        · exact ⟨_, .base .non, kn _ (by decide)⟩
        · exact ⟨_, .base (.str _), kn _ (by decide)⟩
        · exact ⟨_, .base (.int _), kn _ (by decide)⟩
        · exact ⟨_, .base (.lst hlI), kn _ (by decide)⟩
      refine heard_bad1 (w := ov) exB hty kt (fun R r => ⟨_, rfl, _, rfl, r⟩) fun HJ tt sJ htt => ?_
      have sK := sJ.trans (same_new (o := T2 "tongue" "tongue") htt)
      have kT : upd HJ tt (T2 "tongue" "tongue") tt = some (T2 "tongue" "tongue") := upd_same
      generalize upd HJ tt (T2 "tongue" "tongue") = HK at sK kT ⊢
      refine ⟨by show 2 ≤ sizeLine; decide, fun u hu => ?_⟩
      have sL := same_new (o := T2 "tongue" "tongue") hu
      refine ne_T2 (sL _ _ kT) upd_same (by decide +kernel) (by decide +kernel) ?_
      refine ⟨_, rfl, iteF (nx_in ?_)⟩
      dsimp only
      have sM := sK.trans sL
      have lsM := lsI.same sM
      have tonM := tonI.same sM
      have oddM := oddI.mono sM
      generalize upd HK u (T2 "tongue" "tongue") = HM at lsM tonM oddM ⊢
      -- no length
      refine ⟨lsM.tb, fun HN e2 tN => ?_⟩
      have tonN := tonM.keep (Keep.ext (p := p) e2) xp lsM.sv
      have oddN : An HN ov := (An.keep oddM odd.2.2 (Keep.ext (p := p) e2)).1
      refine heard_bad2 exM tonN e8 tr oddN odd.2.1 (fun R r => ⟨_, rfl, _, rfl, r⟩) fun HJ tt sJ htt => ?_
      have kT : upd HJ tt (T2 "number" "length") tt = some (T2 "number" "length") := upd_same
      generalize upd HJ tt (T2 "number" "length") = HP at kT ⊢
      refine ⟨by show 2 ≤ sizeLine; decide, fun u hu => ?_⟩
      have sL := same_new (o := T2 "number" "length") hu
      refine eq_T2 (sL _ _ kT) upd_same (by decide +kernel) (by decide +kernel) ?_
      exact k _
end
end K18
set_option Elab.async false
set_option linter.all false
set_option maxRecDepth 100000
set_option maxHeartbeats 4000000
namespace K18
open PySem PySem.Spec PyProof.Rows L2 Own
theorem ok_BadTongue {P : Program} {w : World} {K : PySem.W.Frag} {mg : Str → Option Value} {base : Heap} {f : Addr} {fd : FuncData} (F : Fun K "__init__" "BadTongue.__init__" s_BadTongue_init f fd) : FnOk P w K mg base CX0 1 f fd ["self", "part"] (spI1 K "part") := by
  refine F.ok sc_BadTongue_init (fun vs H Q E h => ?_) (fun cdv A outer s H vs Q E hr h => ?_)
  · obtain ⟨a, C, y, rfl, _⟩ := h
    rfl
  · obtain ⟨a, C, y, rfl, T, no, ha, k⟩ := h
    refine ⟨_, pss_one (ps_ost (pv 0) (pv 1)), ?_⟩
    exact ⟨_, rfl, _, rfl, a, C, rfl, T, no, .inl ⟨ha, fun dx n ne => k dx n ne⟩⟩
theorem ok_BadNumber {P : Program} {w : World} {K : PySem.W.Frag} {mg : Str → Option Value} {base : Heap} {f : Addr} {fd : FuncData} (F : Fun K "__init__" "BadNumber.__init__" s_BadNumber_init f fd) : FnOk P w K mg base CX0 1 f fd ["self", "part"] (spI1 K "part") := by
  refine F.ok sc_BadNumber_init (fun vs H Q E h => ?_) (fun cdv A outer s H vs Q E hr h => ?_)
  · obtain ⟨a, C, y, rfl, _⟩ := h
    rfl
  · obtain ⟨a, C, y, rfl, T, no, ha, k⟩ := h
    refine ⟨_, pss_one (ps_ost (pv 0) (pv 1)), ?_⟩
    exact ⟨_, rfl, _, rfl, a, C, rfl, T, no, .inl ⟨ha, fun dx n ne => k dx n ne⟩⟩
theorem ok_BadName {P : Program} {w : World} {K : PySem.W.Frag} {mg : Str → Option Value} {base : Heap} {f : Addr} {fd : FuncData} (F : Fun K "__init__" "BadName.__init__" s_BadName_init f fd) : FnOk P w K mg base CX0 1 f fd ["self", "part"] (spI1 K "part") := by
  refine F.ok sc_BadName_init (fun vs H Q E h => ?_) (fun cdv A outer s H vs Q E hr h => ?_)
  · obtain ⟨a, C, y, rfl, _⟩ := h
    rfl
  · obtain ⟨a, C, y, rfl, T, no, ha, k⟩ := h
    refine ⟨_, pss_one (ps_ost (pv 0) (pv 1)), ?_⟩
    exact ⟨_, rfl, _, rfl, a, C, rfl, T, no, .inl ⟨ha, fun dx n ne => k dx n ne⟩⟩
theorem all_mk {l : PySem.W.OpenLaw} {w : World} {K : PySem.W.Frag} {h : Heap} {mg : Str → Option Value} {fa : Addr} (X : K.In h) (G : h.Ns mainGlobals mg) (hfa : mg "law" = some (.ref fa))
    {od__wall an__wall : Option Addr} {sl__wall : Array (Option Value)} {oc__wall kV__wall dc__wall pm__wall cd__wall ct__wall : Value} {f__wall : Addr}
    (a__wall : PySem.W.nsIn K mainGlobals "_wall" = some (some (.ref f__wall))) (l__wall : K.lookup f__wall = some ⟨oc__wall, od__wall, .func (PySem.W.fnOf "_wall" "_wall" (defArgs s__wall) (defBody s__wall) (defScope s__wall) .none kV__wall dc__wall pm__wall an__wall cd__wall ct__wall), sl__wall⟩) (c__wall : PySem.W.codeIn K cd__wall "_wall" = true) (k__wall : PySem.W.keepIn K (.ref f__wall) = true)
    {od_is_integer an_is_integer : Option Addr} {sl_is_integer : Array (Option Value)} {oc_is_integer kV_is_integer dc_is_integer pm_is_integer cd_is_integer ct_is_integer : Value} {f_is_integer : Addr}
    (a_is_integer : PySem.W.nsIn K mainGlobals "is_integer" = some (some (.ref f_is_integer))) (l_is_integer : K.lookup f_is_integer = some ⟨oc_is_integer, od_is_integer, .func (PySem.W.fnOf "is_integer" "is_integer" (defArgs s_is_integer) (defBody s_is_integer) (defScope s_is_integer) .none kV_is_integer dc_is_integer pm_is_integer an_is_integer cd_is_integer ct_is_integer), sl_is_integer⟩) (c_is_integer : PySem.W.codeIn K cd_is_integer "is_integer" = true) (k_is_integer : PySem.W.keepIn K (.ref f_is_integer) = true)
    {od_is_within an_is_within : Option Addr} {sl_is_within : Array (Option Value)} {oc_is_within kV_is_within dc_is_within pm_is_within cd_is_within ct_is_within : Value} {f_is_within : Addr}
    (a_is_within : PySem.W.nsIn K mainGlobals "is_within" = some (some (.ref f_is_within))) (l_is_within : K.lookup f_is_within = some ⟨oc_is_within, od_is_within, .func (PySem.W.fnOf "is_within" "is_within" (defArgs s_is_within) (defBody s_is_within) (defScope s_is_within) .none kV_is_within dc_is_within pm_is_within an_is_within cd_is_within ct_is_within), sl_is_within⟩) (c_is_within : PySem.W.codeIn K cd_is_within "is_within" = true) (k_is_within : PySem.W.keepIn K (.ref f_is_within) = true)
    {od_is_row an_is_row : Option Addr} {sl_is_row : Array (Option Value)} {oc_is_row kV_is_row dc_is_row pm_is_row cd_is_row ct_is_row : Value} {f_is_row : Addr}
    (a_is_row : PySem.W.nsIn K mainGlobals "is_row" = some (some (.ref f_is_row))) (l_is_row : K.lookup f_is_row = some ⟨oc_is_row, od_is_row, .func (PySem.W.fnOf "is_row" "is_row" (defArgs s_is_row) (defBody s_is_row) (defScope s_is_row) .none kV_is_row dc_is_row pm_is_row an_is_row cd_is_row ct_is_row), sl_is_row⟩) (c_is_row : PySem.W.codeIn K cd_is_row "is_row" = true) (k_is_row : PySem.W.keepIn K (.ref f_is_row) = true)
    {od_is_signs an_is_signs : Option Addr} {sl_is_signs : Array (Option Value)} {oc_is_signs kV_is_signs dc_is_signs pm_is_signs cd_is_signs ct_is_signs : Value} {f_is_signs : Addr}
    (a_is_signs : PySem.W.nsIn K mainGlobals "is_signs" = some (some (.ref f_is_signs))) (l_is_signs : K.lookup f_is_signs = some ⟨oc_is_signs, od_is_signs, .func (PySem.W.fnOf "is_signs" "is_signs" (defArgs s_is_signs) (defBody s_is_signs) (defScope s_is_signs) .none kV_is_signs dc_is_signs pm_is_signs an_is_signs cd_is_signs ct_is_signs), sl_is_signs⟩) (c_is_signs : PySem.W.codeIn K cd_is_signs "is_signs" = true) (k_is_signs : PySem.W.keepIn K (.ref f_is_signs) = true)
    {od_is_name an_is_name : Option Addr} {sl_is_name : Array (Option Value)} {oc_is_name kV_is_name dc_is_name pm_is_name cd_is_name ct_is_name : Value} {f_is_name : Addr}
    (a_is_name : PySem.W.nsIn K mainGlobals "is_name" = some (some (.ref f_is_name))) (l_is_name : K.lookup f_is_name = some ⟨oc_is_name, od_is_name, .func (PySem.W.fnOf "is_name" "is_name" (defArgs s_is_name) (defBody s_is_name) (defScope s_is_name) .none kV_is_name dc_is_name pm_is_name an_is_name cd_is_name ct_is_name), sl_is_name⟩) (c_is_name : PySem.W.codeIn K cd_is_name "is_name" = true) (k_is_name : PySem.W.keepIn K (.ref f_is_name) = true)
    {od_need_within an_need_within : Option Addr} {sl_need_within : Array (Option Value)} {oc_need_within kV_need_within dc_need_within pm_need_within cd_need_within ct_need_within : Value} {f_need_within : Addr}
    (a_need_within : PySem.W.nsIn K mainGlobals "need_within" = some (some (.ref f_need_within))) (l_need_within : K.lookup f_need_within = some ⟨oc_need_within, od_need_within, .func (PySem.W.fnOf "need_within" "need_within" (defArgs s_need_within) (defBody s_need_within) (defScope s_need_within) .none kV_need_within dc_need_within pm_need_within an_need_within cd_need_within ct_need_within), sl_need_within⟩) (c_need_within : PySem.W.codeIn K cd_need_within "need_within" = true) (k_need_within : PySem.W.keepIn K (.ref f_need_within) = true)
    {od_items_of an_items_of : Option Addr} {sl_items_of : Array (Option Value)} {oc_items_of kV_items_of dc_items_of pm_items_of cd_items_of ct_items_of : Value} {f_items_of : Addr}
    (a_items_of : PySem.W.nsIn K mainGlobals "items_of" = some (some (.ref f_items_of))) (l_items_of : K.lookup f_items_of = some ⟨oc_items_of, od_items_of, .func (PySem.W.fnOf "items_of" "items_of" (defArgs s_items_of) (defBody s_items_of) (defScope s_items_of) .none kV_items_of dc_items_of pm_items_of an_items_of cd_items_of ct_items_of), sl_items_of⟩) (c_items_of : PySem.W.codeIn K cd_items_of "items_of" = true) (k_items_of : PySem.W.keepIn K (.ref f_items_of) = true)
    {od_need_names an_need_names : Option Addr} {sl_need_names : Array (Option Value)} {oc_need_names kV_need_names dc_need_names pm_need_names cd_need_names ct_need_names : Value} {f_need_names : Addr}
    (a_need_names : PySem.W.nsIn K mainGlobals "need_names" = some (some (.ref f_need_names))) (l_need_names : K.lookup f_need_names = some ⟨oc_need_names, od_need_names, .func (PySem.W.fnOf "need_names" "need_names" (defArgs s_need_names) (defBody s_need_names) (defScope s_need_names) .none kV_need_names dc_need_names pm_need_names an_need_names cd_need_names ct_need_names), sl_need_names⟩) (c_need_names : PySem.W.codeIn K cd_need_names "need_names" = true) (k_need_names : PySem.W.keepIn K (.ref f_need_names) = true)
    {od_are_apart an_are_apart : Option Addr} {sl_are_apart : Array (Option Value)} {oc_are_apart kV_are_apart dc_are_apart pm_are_apart cd_are_apart ct_are_apart : Value} {f_are_apart : Addr}
    (a_are_apart : PySem.W.nsIn K mainGlobals "are_apart" = some (some (.ref f_are_apart))) (l_are_apart : K.lookup f_are_apart = some ⟨oc_are_apart, od_are_apart, .func (PySem.W.fnOf "are_apart" "are_apart" (defArgs s_are_apart) (defBody s_are_apart) (defScope s_are_apart) .none kV_are_apart dc_are_apart pm_are_apart an_are_apart cd_are_apart ct_are_apart), sl_are_apart⟩) (c_are_apart : PySem.W.codeIn K cd_are_apart "are_apart" = true) (k_are_apart : PySem.W.keepIn K (.ref f_are_apart) = true)
    {od_place_of_misfit an_place_of_misfit : Option Addr} {sl_place_of_misfit : Array (Option Value)} {oc_place_of_misfit kV_place_of_misfit dc_place_of_misfit pm_place_of_misfit cd_place_of_misfit ct_place_of_misfit : Value} {f_place_of_misfit : Addr}
    (a_place_of_misfit : PySem.W.nsIn K mainGlobals "place_of_misfit" = some (some (.ref f_place_of_misfit))) (l_place_of_misfit : K.lookup f_place_of_misfit = some ⟨oc_place_of_misfit, od_place_of_misfit, .func (PySem.W.fnOf "place_of_misfit" "place_of_misfit" (defArgs s_place_of_misfit) (defBody s_place_of_misfit) (defScope s_place_of_misfit) .none kV_place_of_misfit dc_place_of_misfit pm_place_of_misfit an_place_of_misfit cd_place_of_misfit ct_place_of_misfit), sl_place_of_misfit⟩) (c_place_of_misfit : PySem.W.codeIn K cd_place_of_misfit "place_of_misfit" = true) (k_place_of_misfit : PySem.W.keepIn K (.ref f_place_of_misfit) = true)
    {od_need_tongue an_need_tongue : Option Addr} {sl_need_tongue : Array (Option Value)} {oc_need_tongue kV_need_tongue dc_need_tongue pm_need_tongue cd_need_tongue ct_need_tongue : Value} {f_need_tongue : Addr}
    (a_need_tongue : PySem.W.nsIn K mainGlobals "need_tongue" = some (some (.ref f_need_tongue))) (l_need_tongue : K.lookup f_need_tongue = some ⟨oc_need_tongue, od_need_tongue, .func (PySem.W.fnOf "need_tongue" "need_tongue" (defArgs s_need_tongue) (defBody s_need_tongue) (defScope s_need_tongue) .none kV_need_tongue dc_need_tongue pm_need_tongue an_need_tongue cd_need_tongue ct_need_tongue), sl_need_tongue⟩) (c_need_tongue : PySem.W.codeIn K cd_need_tongue "need_tongue" = true) (k_need_tongue : PySem.W.keepIn K (.ref f_need_tongue) = true)
    {od_counts_to an_counts_to : Option Addr} {sl_counts_to : Array (Option Value)} {oc_counts_to kV_counts_to dc_counts_to pm_counts_to cd_counts_to ct_counts_to : Value} {f_counts_to : Addr}
    (a_counts_to : PySem.W.nsIn K mainGlobals "counts_to" = some (some (.ref f_counts_to))) (l_counts_to : K.lookup f_counts_to = some ⟨oc_counts_to, od_counts_to, .func (PySem.W.fnOf "counts_to" "counts_to" (defArgs s_counts_to) (defBody s_counts_to) (defScope s_counts_to) .none kV_counts_to dc_counts_to pm_counts_to an_counts_to cd_counts_to ct_counts_to), sl_counts_to⟩) (c_counts_to : PySem.W.codeIn K cd_counts_to "counts_to" = true) (k_counts_to : PySem.W.keepIn K (.ref f_counts_to) = true)
    {od_how_many an_how_many : Option Addr} {sl_how_many : Array (Option Value)} {oc_how_many kV_how_many dc_how_many pm_how_many cd_how_many ct_how_many : Value} {f_how_many : Addr}
    (a_how_many : PySem.W.nsIn K mainGlobals "how_many" = some (some (.ref f_how_many))) (l_how_many : K.lookup f_how_many = some ⟨oc_how_many, od_how_many, .func (PySem.W.fnOf "how_many" "how_many" (defArgs s_how_many) (defBody s_how_many) (defScope s_how_many) .none kV_how_many dc_how_many pm_how_many an_how_many cd_how_many ct_how_many), sl_how_many⟩) (c_how_many : PySem.W.codeIn K cd_how_many "how_many" = true) (k_how_many : PySem.W.keepIn K (.ref f_how_many) = true)
    {od__law_sink an__law_sink : Option Addr} {sl__law_sink : Array (Option Value)} {oc__law_sink kV__law_sink dc__law_sink pm__law_sink cd__law_sink ct__law_sink : Value} {f__law_sink : Addr}
    (a__law_sink : PySem.W.nsIn K mainGlobals "_law_sink" = some (some (.ref f__law_sink))) (l__law_sink : K.lookup f__law_sink = some ⟨oc__law_sink, od__law_sink, .func (PySem.W.fnOf "_law_sink" "_law_sink" (defArgs s__law_sink) (defBody s__law_sink) (defScope s__law_sink) .none kV__law_sink dc__law_sink pm__law_sink an__law_sink cd__law_sink ct__law_sink), sl__law_sink⟩) (c__law_sink : PySem.W.codeIn K cd__law_sink "_law_sink" = true) (k__law_sink : PySem.W.keepIn K (.ref f__law_sink) = true)
    {od__law_fill an__law_fill : Option Addr} {sl__law_fill : Array (Option Value)} {oc__law_fill kV__law_fill dc__law_fill pm__law_fill cd__law_fill ct__law_fill : Value} {f__law_fill : Addr}
    (a__law_fill : PySem.W.nsIn K mainGlobals "_law_fill" = some (some (.ref f__law_fill))) (l__law_fill : K.lookup f__law_fill = some ⟨oc__law_fill, od__law_fill, .func (PySem.W.fnOf "_law_fill" "_law_fill" (defArgs s__law_fill) (defBody s__law_fill) (defScope s__law_fill) .none kV__law_fill dc__law_fill pm__law_fill an__law_fill cd__law_fill ct__law_fill), sl__law_fill⟩) (c__law_fill : PySem.W.codeIn K cd__law_fill "_law_fill" = true) (k__law_fill : PySem.W.keepIn K (.ref f__law_fill) = true)
    {od__law_pick an__law_pick : Option Addr} {sl__law_pick : Array (Option Value)} {oc__law_pick kV__law_pick dc__law_pick pm__law_pick cd__law_pick ct__law_pick : Value} {f__law_pick : Addr}
    (a__law_pick : PySem.W.nsIn K mainGlobals "_law_pick" = some (some (.ref f__law_pick))) (l__law_pick : K.lookup f__law_pick = some ⟨oc__law_pick, od__law_pick, .func (PySem.W.fnOf "_law_pick" "_law_pick" (defArgs s__law_pick) (defBody s__law_pick) (defScope s__law_pick) .none kV__law_pick dc__law_pick pm__law_pick an__law_pick cd__law_pick ct__law_pick), sl__law_pick⟩) (c__law_pick : PySem.W.codeIn K cd__law_pick "_law_pick" = true) (k__law_pick : PySem.W.keepIn K (.ref f__law_pick) = true)
    {od__law_names an__law_names : Option Addr} {sl__law_names : Array (Option Value)} {oc__law_names kV__law_names dc__law_names pm__law_names cd__law_names ct__law_names : Value} {f__law_names : Addr}
    (a__law_names : PySem.W.nsIn K mainGlobals "_law_names" = some (some (.ref f__law_names))) (l__law_names : K.lookup f__law_names = some ⟨oc__law_names, od__law_names, .func (PySem.W.fnOf "_law_names" "_law_names" (defArgs s__law_names) (defBody s__law_names) (defScope s__law_names) .none kV__law_names dc__law_names pm__law_names an__law_names cd__law_names ct__law_names), sl__law_names⟩) (c__law_names : PySem.W.codeIn K cd__law_names "_law_names" = true) (k__law_names : PySem.W.keepIn K (.ref f__law_names) = true)
    {od__law_heard an__law_heard : Option Addr} {sl__law_heard : Array (Option Value)} {oc__law_heard kV__law_heard dc__law_heard pm__law_heard cd__law_heard ct__law_heard : Value} {f__law_heard : Addr}
    (a__law_heard : PySem.W.nsIn K mainGlobals "_law_heard" = some (some (.ref f__law_heard))) (l__law_heard : K.lookup f__law_heard = some ⟨oc__law_heard, od__law_heard, .func (PySem.W.fnOf "_law_heard" "_law_heard" (defArgs s__law_heard) (defBody s__law_heard) (defScope s__law_heard) .none kV__law_heard dc__law_heard pm__law_heard an__law_heard cd__law_heard ct__law_heard), sl__law_heard⟩) (c__law_heard : PySem.W.codeIn K cd__law_heard "_law_heard" = true) (k__law_heard : PySem.W.keepIn K (.ref f__law_heard) = true)
    {od__law_counts an__law_counts : Option Addr} {sl__law_counts : Array (Option Value)} {oc__law_counts kV__law_counts dc__law_counts pm__law_counts cd__law_counts ct__law_counts : Value} {f__law_counts : Addr}
    (a__law_counts : PySem.W.nsIn K mainGlobals "_law_counts" = some (some (.ref f__law_counts))) (l__law_counts : K.lookup f__law_counts = some ⟨oc__law_counts, od__law_counts, .func (PySem.W.fnOf "_law_counts" "_law_counts" (defArgs s__law_counts) (defBody s__law_counts) (defScope s__law_counts) .none kV__law_counts dc__law_counts pm__law_counts an__law_counts cd__law_counts ct__law_counts), sl__law_counts⟩) (c__law_counts : PySem.W.codeIn K cd__law_counts "_law_counts" = true) (k__law_counts : PySem.W.keepIn K (.ref f__law_counts) = true)
    {od_law an_law : Option Addr} {sl_law : Array (Option Value)} {oc_law kV_law dc_law pm_law cd_law ct_law : Value} {f_law : Addr}
    (a_law : PySem.W.nsIn K mainGlobals "law" = some (some (.ref f_law))) (l_law : K.lookup f_law = some ⟨oc_law, od_law, .func (PySem.W.fnOf "law" "law" (defArgs s_law) (defBody s_law) (defScope s_law) .none kV_law dc_law pm_law an_law cd_law ct_law), sl_law⟩) (c_law : PySem.W.codeIn K cd_law "law" = true) (k_law : PySem.W.keepIn K (.ref f_law) = true)
    (z_isinstance : PySem.W.nsIn K mainGlobals "isinstance" = some none)
    (z_int : PySem.W.nsIn K mainGlobals "int" = some none)
    (z_bool : PySem.W.nsIn K mainGlobals "bool" = some none)
    (z_list : PySem.W.nsIn K mainGlobals "list" = some none)
    (z_tuple : PySem.W.nsIn K mainGlobals "tuple" = some none)
    (z_len : PySem.W.nsIn K mainGlobals "len" = some none)
    (z_str : PySem.W.nsIn K mainGlobals "str" = some none)
    (z_all : PySem.W.nsIn K mainGlobals "all" = some none)
    (z_sorted : PySem.W.nsIn K mainGlobals "sorted" = some none)
    (z_any : PySem.W.nsIn K mainGlobals "any" = some none)
    (z_range : PySem.W.nsIn K mainGlobals "range" = some none)
    (z_enumerate : PySem.W.nsIn K mainGlobals "enumerate" = some none)
    (z_sum : PySem.W.nsIn K mainGlobals "sum" = some none)
    (z_abs : PySem.W.nsIn K mainGlobals "abs" = some none)
    (z_max : PySem.W.nsIn K mainGlobals "max" = some none)
    (z_repr : PySem.W.nsIn K mainGlobals "repr" = some none)
    (z_ValueError : PySem.W.nsIn K mainGlobals "ValueError" = some none)
    (z_staticmethod : PySem.W.nsIn K mainGlobals "staticmethod" = some none)
    {t_MOST_SIGNS : Tok} (g_MOST_SIGNS : PySem.W.nsIn K mainGlobals "MOST_SIGNS" = some (some (.int 60 t_MOST_SIGNS)))
    {t_MOST_NAMES : Tok} (g_MOST_NAMES : PySem.W.nsIn K mainGlobals "MOST_NAMES" = some (some (.int 200 t_MOST_NAMES)))
    {t_MANY_WORDS : Tok} (g_MANY_WORDS : PySem.W.nsIn K mainGlobals "MANY_WORDS" = some (some (.int 8 t_MANY_WORDS)))
    {t_MOST_NAME : Tok} (g_MOST_NAME : PySem.W.nsIn K mainGlobals "MOST_NAME" = some (some (.int 8 t_MOST_NAME)))
    {t_MOST_LENGTH : Tok} (g_MOST_LENGTH : PySem.W.nsIn K mainGlobals "MOST_LENGTH" = some (some (.int 400 t_MOST_LENGTH)))
    {cT PT : Addr} {ocT : Value} {odT : Option Addr} {vsT : Array Value} {slT : Array (Option Value)} (eT : cd_law = .ref cT) (lT : K.lookup cT = some ⟨ocT, odT, .fields vsT, slT⟩) (vT : vsT[11]? = some (.ref PT)) (hT : PySem.W.codeHdIn K cT PT = true) (nT : K.lookup PT = none) (tT : h.get? PT = some emptyTab)
    {nm_BadTongue q_BadTongue : Str} {N_BadTongue_ : Addr} {bs_BadTongue bm_BadTongue : List Value} {sn_BadTongue : List Str} {sub_BadTongue : List Value} {ab_BadTongue : Bool} {col_BadTongue : Option Bool} {dd_BadTongue : Option Addr} {m0_BadTongue m1_BadTongue m2_BadTongue m3_BadTongue m5_BadTongue : Option Value} {c_BadTongue f_BadTongue : Addr}
    {od_BadTongue an_BadTongue : Option Addr} {sl_BadTongue : Array (Option Value)} {oc_BadTongue kV_BadTongue dc_BadTongue pm_BadTongue cd_BadTongue ct_BadTongue : Value}
    (at_BadTongue : PySem.W.nsIn K mainGlobals "BadTongue" = some (some (.ref c_BadTongue)))
    (xL_BadTongue : K.lookup c_BadTongue = some (excClassObj nm_BadTongue q_BadTongue c_BadTongue N_BadTongue_ bs_BadTongue bm_BadTongue true sn_BadTongue sub_BadTongue ab_BadTongue col_BadTongue dd_BadTongue m0_BadTongue m1_BadTongue m2_BadTongue m3_BadTongue m5_BadTongue "ValueError.__new__"))
    (rv_BadTongue : PySem.HandSPX.refsVE bm_BadTongue = true)
    (sa_BadTongue : PySem.W.findIn K (.ref c_BadTongue) "__setattr__" = some (some (.builtin "object.__setattr__")))
    (eC_BadTongue : PySem.W.subIn K (.ref c_BadTongue) (.type "BaseException") = some true)
    (tC_BadTongue : PySem.W.typeIn K (.ref c_BadTongue) = some (.type "type"))
    (kC_BadTongue : PySem.W.keepIn K (.ref c_BadTongue) = true)
    (ga_BadTongue : PySem.W.findIn K (.ref c_BadTongue) "__getattribute__" = some (some (.builtin "BaseException.__getattribute__")))
    (gg_BadTongue : PySem.W.findIn K (.ref c_BadTongue) "__getattr__" = some none)
    (hd_BadTongue : PySem.W.hasDictIn K c_BadTongue = true)
    (cA_BadTongue : PySem.W.findIn K (.ref c_BadTongue) "__class__" = some (some (.builtin "object.__class__")))
    (cm_BadTongue : PySem.W.mroIn K c_BadTongue (.type "object") = some true)
    (no_BadTongue : PySem.W.findIn K (.ref c_BadTongue) "part" = some none)
    (ai_BadTongue : PySem.W.findIn K (.ref c_BadTongue) "__init__" = some (some (.ref f_BadTongue)))
    (ti_BadTongue : PySem.W.typeIn K (.ref f_BadTongue) = some (.type "function"))
    (li_BadTongue : K.lookup f_BadTongue = some ⟨oc_BadTongue, od_BadTongue, .func (PySem.W.fnOf "__init__" "BadTongue.__init__" (defArgs s_BadTongue_init) (defBody s_BadTongue_init) (defScope s_BadTongue_init) .none kV_BadTongue dc_BadTongue pm_BadTongue an_BadTongue cd_BadTongue ct_BadTongue), sl_BadTongue⟩)
    (ci_BadTongue : PySem.W.codeIn K cd_BadTongue "BadTongue.__init__" = true)
    (ki_BadTongue : PySem.W.keepIn K (.ref f_BadTongue) = true)
    {nm_BadNumber q_BadNumber : Str} {N_BadNumber_ : Addr} {bs_BadNumber bm_BadNumber : List Value} {sn_BadNumber : List Str} {sub_BadNumber : List Value} {ab_BadNumber : Bool} {col_BadNumber : Option Bool} {dd_BadNumber : Option Addr} {m0_BadNumber m1_BadNumber m2_BadNumber m3_BadNumber m5_BadNumber : Option Value} {c_BadNumber f_BadNumber : Addr}
    {od_BadNumber an_BadNumber : Option Addr} {sl_BadNumber : Array (Option Value)} {oc_BadNumber kV_BadNumber dc_BadNumber pm_BadNumber cd_BadNumber ct_BadNumber : Value}
    (at_BadNumber : PySem.W.nsIn K mainGlobals "BadNumber" = some (some (.ref c_BadNumber)))
    (xL_BadNumber : K.lookup c_BadNumber = some (excClassObj nm_BadNumber q_BadNumber c_BadNumber N_BadNumber_ bs_BadNumber bm_BadNumber true sn_BadNumber sub_BadNumber ab_BadNumber col_BadNumber dd_BadNumber m0_BadNumber m1_BadNumber m2_BadNumber m3_BadNumber m5_BadNumber "ValueError.__new__"))
    (rv_BadNumber : PySem.HandSPX.refsVE bm_BadNumber = true)
    (sa_BadNumber : PySem.W.findIn K (.ref c_BadNumber) "__setattr__" = some (some (.builtin "object.__setattr__")))
    (eC_BadNumber : PySem.W.subIn K (.ref c_BadNumber) (.type "BaseException") = some true)
    (tC_BadNumber : PySem.W.typeIn K (.ref c_BadNumber) = some (.type "type"))
    (kC_BadNumber : PySem.W.keepIn K (.ref c_BadNumber) = true)
    (ga_BadNumber : PySem.W.findIn K (.ref c_BadNumber) "__getattribute__" = some (some (.builtin "BaseException.__getattribute__")))
    (gg_BadNumber : PySem.W.findIn K (.ref c_BadNumber) "__getattr__" = some none)
    (hd_BadNumber : PySem.W.hasDictIn K c_BadNumber = true)
    (cA_BadNumber : PySem.W.findIn K (.ref c_BadNumber) "__class__" = some (some (.builtin "object.__class__")))
    (cm_BadNumber : PySem.W.mroIn K c_BadNumber (.type "object") = some true)
    (no_BadNumber : PySem.W.findIn K (.ref c_BadNumber) "part" = some none)
    (ai_BadNumber : PySem.W.findIn K (.ref c_BadNumber) "__init__" = some (some (.ref f_BadNumber)))
    (ti_BadNumber : PySem.W.typeIn K (.ref f_BadNumber) = some (.type "function"))
    (li_BadNumber : K.lookup f_BadNumber = some ⟨oc_BadNumber, od_BadNumber, .func (PySem.W.fnOf "__init__" "BadNumber.__init__" (defArgs s_BadNumber_init) (defBody s_BadNumber_init) (defScope s_BadNumber_init) .none kV_BadNumber dc_BadNumber pm_BadNumber an_BadNumber cd_BadNumber ct_BadNumber), sl_BadNumber⟩)
    (ci_BadNumber : PySem.W.codeIn K cd_BadNumber "BadNumber.__init__" = true)
    (ki_BadNumber : PySem.W.keepIn K (.ref f_BadNumber) = true)
    {nm_BadName q_BadName : Str} {N_BadName_ : Addr} {bs_BadName bm_BadName : List Value} {sn_BadName : List Str} {sub_BadName : List Value} {ab_BadName : Bool} {col_BadName : Option Bool} {dd_BadName : Option Addr} {m0_BadName m1_BadName m2_BadName m3_BadName m5_BadName : Option Value} {c_BadName f_BadName : Addr}
    {od_BadName an_BadName : Option Addr} {sl_BadName : Array (Option Value)} {oc_BadName kV_BadName dc_BadName pm_BadName cd_BadName ct_BadName : Value}
    (at_BadName : PySem.W.nsIn K mainGlobals "BadName" = some (some (.ref c_BadName)))
    (xL_BadName : K.lookup c_BadName = some (excClassObj nm_BadName q_BadName c_BadName N_BadName_ bs_BadName bm_BadName true sn_BadName sub_BadName ab_BadName col_BadName dd_BadName m0_BadName m1_BadName m2_BadName m3_BadName m5_BadName "ValueError.__new__"))
    (rv_BadName : PySem.HandSPX.refsVE bm_BadName = true)
    (sa_BadName : PySem.W.findIn K (.ref c_BadName) "__setattr__" = some (some (.builtin "object.__setattr__")))
    (eC_BadName : PySem.W.subIn K (.ref c_BadName) (.type "BaseException") = some true)
    (tC_BadName : PySem.W.typeIn K (.ref c_BadName) = some (.type "type"))
    (kC_BadName : PySem.W.keepIn K (.ref c_BadName) = true)
    (ga_BadName : PySem.W.findIn K (.ref c_BadName) "__getattribute__" = some (some (.builtin "BaseException.__getattribute__")))
    (gg_BadName : PySem.W.findIn K (.ref c_BadName) "__getattr__" = some none)
    (hd_BadName : PySem.W.hasDictIn K c_BadName = true)
    (cA_BadName : PySem.W.findIn K (.ref c_BadName) "__class__" = some (some (.builtin "object.__class__")))
    (cm_BadName : PySem.W.mroIn K c_BadName (.type "object") = some true)
    (no_BadName : PySem.W.findIn K (.ref c_BadName) "part" = some none)
    (ai_BadName : PySem.W.findIn K (.ref c_BadName) "__init__" = some (some (.ref f_BadName)))
    (ti_BadName : PySem.W.typeIn K (.ref f_BadName) = some (.type "function"))
    (li_BadName : K.lookup f_BadName = some ⟨oc_BadName, od_BadName, .func (PySem.W.fnOf "__init__" "BadName.__init__" (defArgs s_BadName_init) (defBody s_BadName_init) (defScope s_BadName_init) .none kV_BadName dc_BadName pm_BadName an_BadName cd_BadName ct_BadName), sl_BadName⟩)
    (ci_BadName : PySem.W.codeIn K cd_BadName "BadName.__init__" = true)
    (ki_BadName : PySem.W.keepIn K (.ref f_BadName) = true)
    (cg : PySem.W.specialIn K (.builtin "object.__class__") "__get__" = some (some (.builtin "getset_descriptor.__get__")))
    (ct : PySem.W.takesIn K (.builtin "object.__class__") = some true)
    {c_TickError : Addr}
    (at_TickError : PySem.W.nsIn K mainGlobals "TickError" = some (some (.ref c_TickError)))
    {c_BadText : Addr}
    (at_BadText : PySem.W.nsIn K mainGlobals "BadText" = some (some (.ref c_BadText)))
    {c_TooMany : Addr}
    (at_TooMany : PySem.W.nsIn K mainGlobals "TooMany" = some (some (.ref c_TooMany)))
    {c_Misfit : Addr}
    (at_Misfit : PySem.W.nsIn K mainGlobals "Misfit" = some (some (.ref c_Misfit)))
    (kBadTongueX : PySem.W.kitOne K (.ref c_BadTongue) (.ref c_BadText) = some false)
    (kBadTongueY : PySem.W.kitOne K (.ref c_BadTongue) (.ref c_TooMany) = some false)
    (kBadTongueB : PySem.W.kitOne K (.ref c_BadTongue) (.ref c_BadTongue) = some true)
    (kBadTongueM : PySem.W.kitOne K (.ref c_BadTongue) (.ref c_BadNumber) = some false)
    (kBadTongueF : PySem.W.kitOne K (.ref c_BadTongue) (.ref c_Misfit) = some false)
    (kBadNumberX : PySem.W.kitOne K (.ref c_BadNumber) (.ref c_BadText) = some false)
    (kBadNumberY : PySem.W.kitOne K (.ref c_BadNumber) (.ref c_TooMany) = some false)
    (kBadNumberB : PySem.W.kitOne K (.ref c_BadNumber) (.ref c_BadTongue) = some false)
    (kBadNumberM : PySem.W.kitOne K (.ref c_BadNumber) (.ref c_BadNumber) = some true)
    (kBadNumberF : PySem.W.kitOne K (.ref c_BadNumber) (.ref c_Misfit) = some false)
    (eb : PySem.W.subIn K (.ref c_TickError) (.type "BaseException") = some true)
    (ekBadTongue : PySem.W.kitCls K (.ref c_BadTongue) (.ref c_TickError) = some true)
    (ekBadNumber : PySem.W.kitCls K (.ref c_BadNumber) (.ref c_TickError) = some true)
    {c_Tongue f_TI f_TS : Addr} {od_TI an_TI od_TS an_TS : Option Addr} {sl_TI sl_TS : Array (Option Value)} {oc_TI kV_TI dc_TI pm_TI cd_TI ct_TI oc_TS kV_TS dc_TS pm_TS cd_TS ct_TS : Value}
    (at_Tongue : PySem.W.nsIn K mainGlobals "Tongue" = some (some (.ref c_Tongue)))
    (pgT : PySem.W.plainGet K c_Tongue Str.empty = true)
    (hdT : PySem.W.hasDictIn K c_Tongue = true)
    (poT : PySem.W.plainOver K c_Tongue = true)
    (saT : PySem.W.findIn K (.ref c_Tongue) "__setattr__" = some (some (.builtin "object.__setattr__")))
    (mkT : PySem.W.makesIn K c_Tongue = true)
    (kcT : PySem.W.keepIn K (.ref c_Tongue) = true)
    (noT : PySem.W.findIn K (.ref c_Tongue) "names" = some none)
    (haT : PySem.W.findIn K (.ref c_Tongue) "__class__" = some (some (.builtin "object.__class__")))
    (hmT : PySem.W.mroIn K c_Tongue (.type "object") = some true)
    (meT : PySem.W.kitOne K (.ref c_Tongue) (.ref c_Tongue) = some true)
    (a_TI : PySem.W.findIn K (.ref c_Tongue) "__init__" = some (some (.ref f_TI)))
    (i_TI : PySem.W.isFn K (.ref f_TI) = true)
    (l_TI : K.lookup f_TI = some ⟨oc_TI, od_TI, .func (PySem.W.fnOf "__init__" "Tongue.__init__" (defArgs s_Tongue_init) (defBody s_Tongue_init) (defScope s_Tongue_init) .none kV_TI dc_TI pm_TI an_TI cd_TI ct_TI), sl_TI⟩)
    (c_TI : PySem.W.codeIn K cd_TI "Tongue.__init__" = true)
    (k_TI : PySem.W.keepIn K (.ref f_TI) = true)
    (a_TS : PySem.W.findIn K (.ref c_Tongue) "__str__" = some (some (.ref f_TS)))
    (i_TS : PySem.W.isFn K (.ref f_TS) = true)
    (l_TS : K.lookup f_TS = some ⟨oc_TS, od_TS, .func (PySem.W.fnOf "__str__" "Tongue.__str__" (defArgs s_Tongue_str) (defBody s_Tongue_str) (defScope s_Tongue_str) .none kV_TS dc_TS pm_TS an_TS cd_TS ct_TS), sl_TS⟩)
    (c_TS : PySem.W.codeIn K cd_TS "Tongue.__str__" = true)
    (k_TS : PySem.W.keepIn K (.ref f_TS) = true)
    (kn_NoneType : PySem.W.kitOne K (.type "NoneType") (.ref c_Tongue) = some false)
    (kn_str : PySem.W.kitOne K (.type "str") (.ref c_Tongue) = some false)
    (kn_int : PySem.W.kitOne K (.type "int") (.ref c_Tongue) = some false)
    (kn_list : PySem.W.kitOne K (.type "list") (.ref c_Tongue) = some false)
    : LawTG l w K 12 63 "script" mg fa h := by
  have e := hfa.symm.trans (PySem.W.mg_of X G a_law)
  cases e
  have T : Txt mg := ⟨PySem.W.mg_none_of X G z_isinstance, PySem.W.mg_none_of X G z_int, PySem.W.mg_none_of X G z_bool, PySem.W.mg_none_of X G z_list, PySem.W.mg_none_of X G z_tuple, PySem.W.mg_none_of X G z_len, PySem.W.mg_none_of X G z_str, PySem.W.mg_none_of X G z_all, PySem.W.mg_none_of X G z_sorted, PySem.W.mg_none_of X G z_any, PySem.W.mg_none_of X G z_range, PySem.W.mg_none_of X G z_enumerate, PySem.W.mg_none_of X G z_sum, PySem.W.mg_none_of X G z_abs, PySem.W.mg_none_of X G z_max, PySem.W.mg_none_of X G z_repr, PySem.W.mg_none_of X G z_ValueError, PySem.W.mg_none_of X G z_staticmethod, ⟨_, PySem.W.mg_of X G g_MOST_SIGNS⟩, ⟨_, PySem.W.mg_of X G g_MOST_NAMES⟩, ⟨_, PySem.W.mg_of X G g_MANY_WORDS⟩, ⟨_, PySem.W.mg_of X G g_MOST_NAME⟩, ⟨_, PySem.W.mg_of X G g_MOST_LENGTH⟩⟩
  have F__wall := fun_mk (st := s__wall) l__wall c__wall k__wall
  have b__wall := F__wall.binds (ps := ["k"]) fun _ _ _ _ _ _ us hl => match us, hl with | [_], _ => rfl
  have m__wall := PySem.W.mg_of X G a__wall
  have F_is_integer := fun_mk (st := s_is_integer) l_is_integer c_is_integer k_is_integer
  have b_is_integer := F_is_integer.binds (ps := ["value"]) fun _ _ _ _ _ _ us hl => match us, hl with | [_], _ => rfl
  have m_is_integer := PySem.W.mg_of X G a_is_integer
  have F_is_within := fun_mk (st := s_is_within) l_is_within c_is_within k_is_within
  have b_is_within := F_is_within.binds (ps := ["value", "least", "most"]) fun _ _ _ _ _ _ us hl => match us, hl with | [_, _, _], _ => rfl
  have m_is_within := PySem.W.mg_of X G a_is_within
  have F_is_row := fun_mk (st := s_is_row) l_is_row c_is_row k_is_row
  have b_is_row := F_is_row.binds (ps := ["value", "least", "most"]) fun _ _ _ _ _ _ us hl => match us, hl with | [_, _, _], _ => rfl
  have m_is_row := PySem.W.mg_of X G a_is_row
  have F_is_signs := fun_mk (st := s_is_signs) l_is_signs c_is_signs k_is_signs
  have b_is_signs := F_is_signs.binds (ps := ["value", "least", "most"]) fun _ _ _ _ _ _ us hl => match us, hl with | [_, _, _], _ => rfl
  have m_is_signs := PySem.W.mg_of X G a_is_signs
  have F_is_name := fun_mk (st := s_is_name) l_is_name c_is_name k_is_name
  have b_is_name := F_is_name.binds (ps := ["value"]) fun _ _ _ _ _ _ us hl => match us, hl with | [_], _ => rfl
  have m_is_name := PySem.W.mg_of X G a_is_name
  have F_need_within := fun_mk (st := s_need_within) l_need_within c_need_within k_need_within
  have b_need_within := F_need_within.binds (ps := ["value", "least", "most", "part"]) fun _ _ _ _ _ _ us hl => match us, hl with | [_, _, _, _], _ => rfl
  have m_need_within := PySem.W.mg_of X G a_need_within
  have F_items_of := fun_mk (st := s_items_of) l_items_of c_items_of k_items_of
  have b_items_of := F_items_of.binds (ps := ["text"]) fun _ _ _ _ _ _ us hl => match us, hl with | [_], _ => rfl
  have m_items_of := PySem.W.mg_of X G a_items_of
  have F_need_names := fun_mk (st := s_need_names) l_need_names c_need_names k_need_names
  have b_need_names := F_need_names.binds (ps := ["names"]) fun _ _ _ _ _ _ us hl => match us, hl with | [_], _ => rfl
  have m_need_names := PySem.W.mg_of X G a_need_names
  have F_are_apart := fun_mk (st := s_are_apart) l_are_apart c_are_apart k_are_apart
  have b_are_apart := F_are_apart.binds (ps := ["names"]) fun _ _ _ _ _ _ us hl => match us, hl with | [_], _ => rfl
  have m_are_apart := PySem.W.mg_of X G a_are_apart
  have F_place_of_misfit := fun_mk (st := s_place_of_misfit) l_place_of_misfit c_place_of_misfit k_place_of_misfit
  have b_place_of_misfit := F_place_of_misfit.binds (ps := ["names"]) fun _ _ _ _ _ _ us hl => match us, hl with | [_], _ => rfl
  have m_place_of_misfit := PySem.W.mg_of X G a_place_of_misfit
  have F_need_tongue := fun_mk (st := s_need_tongue) l_need_tongue c_need_tongue k_need_tongue
  have b_need_tongue := F_need_tongue.binds (ps := ["tongue"]) fun _ _ _ _ _ _ us hl => match us, hl with | [_], _ => rfl
  have m_need_tongue := PySem.W.mg_of X G a_need_tongue
  have F_counts_to := fun_mk (st := s_counts_to) l_counts_to c_counts_to k_counts_to
  have b_counts_to := F_counts_to.binds (ps := ["tongue", "most"]) fun _ _ _ _ _ _ us hl => match us, hl with | [_, _], _ => rfl
  have m_counts_to := PySem.W.mg_of X G a_counts_to
  have F_how_many := fun_mk (st := s_how_many) l_how_many c_how_many k_how_many
  have b_how_many := F_how_many.binds (ps := ["tongue", "length"]) fun _ _ _ _ _ _ us hl => match us, hl with | [_, _], _ => rfl
  have m_how_many := PySem.W.mg_of X G a_how_many
  have F__law_sink := fun_mk (st := s__law_sink) l__law_sink c__law_sink k__law_sink
  have b__law_sink := F__law_sink.binds (ps := ["script"]) fun _ _ _ _ _ _ us hl => match us, hl with | [_], _ => rfl
  have m__law_sink := PySem.W.mg_of X G a__law_sink
  have F__law_fill := fun_mk (st := s__law_fill) l__law_fill c__law_fill k__law_fill
  have b__law_fill := F__law_fill.binds (ps := ["sink", "many"]) fun _ _ _ _ _ _ us hl => match us, hl with | [_, _], _ => rfl
  have m__law_fill := PySem.W.mg_of X G a__law_fill
  have F__law_pick := fun_mk (st := s__law_pick) l__law_pick c__law_pick k__law_pick
  have b__law_pick := F__law_pick.binds (ps := ["sink", "some"]) fun _ _ _ _ _ _ us hl => match us, hl with | [_, _], _ => rfl
  have m__law_pick := PySem.W.mg_of X G a__law_pick
  have F__law_names := fun_mk (st := s__law_names) l__law_names c__law_names k__law_names
  have b__law_names := F__law_names.binds (ps := ["sink"]) fun _ _ _ _ _ _ us hl => match us, hl with | [_], _ => rfl
  have m__law_names := PySem.W.mg_of X G a__law_names
  have F__law_heard := fun_mk (st := s__law_heard) l__law_heard c__law_heard k__law_heard
  have b__law_heard := F__law_heard.binds (ps := ["ask"]) fun _ _ _ _ _ _ us hl => match us, hl with | [_], _ => rfl
  have m__law_heard := PySem.W.mg_of X G a__law_heard
  have F__law_counts := fun_mk (st := s__law_counts) l__law_counts c__law_counts k__law_counts
  have b__law_counts := F__law_counts.binds (ps := ["names", "most"]) fun _ _ _ _ _ _ us hl => match us, hl with | [_, _], _ => rfl
  have m__law_counts := PySem.W.mg_of X G a__law_counts
  have F_law := fun_mk (st := s_law) l_law c_law k_law
  have O_BadTongue : OexC K c_BadTongue := ⟨⟨nm_BadTongue, q_BadTongue, N_BadTongue_, bs_BadTongue, bm_BadTongue, sn_BadTongue, sub_BadTongue, ab_BadTongue, col_BadTongue, dd_BadTongue, m0_BadTongue, m1_BadTongue, m2_BadTongue, m3_BadTongue, m5_BadTongue, xL_BadTongue, rv_BadTongue⟩, sa_BadTongue, eC_BadTongue, tC_BadTongue, kC_BadTongue⟩
  have E_BadTongue : ExC K c_BadTongue := ⟨O_BadTongue, ga_BadTongue, gg_BadTongue, hd_BadTongue, cA_BadTongue, cg, ct, cm_BadTongue⟩
  have F_BadTongue := fun_mk (st := s_BadTongue_init) li_BadTongue ci_BadTongue ki_BadTongue
  have M_BadTongue := PySem.W.mg_of X G at_BadTongue
  have O_BadNumber : OexC K c_BadNumber := ⟨⟨nm_BadNumber, q_BadNumber, N_BadNumber_, bs_BadNumber, bm_BadNumber, sn_BadNumber, sub_BadNumber, ab_BadNumber, col_BadNumber, dd_BadNumber, m0_BadNumber, m1_BadNumber, m2_BadNumber, m3_BadNumber, m5_BadNumber, xL_BadNumber, rv_BadNumber⟩, sa_BadNumber, eC_BadNumber, tC_BadNumber, kC_BadNumber⟩
  have E_BadNumber : ExC K c_BadNumber := ⟨O_BadNumber, ga_BadNumber, gg_BadNumber, hd_BadNumber, cA_BadNumber, cg, ct, cm_BadNumber⟩
  have F_BadNumber := fun_mk (st := s_BadNumber_init) li_BadNumber ci_BadNumber ki_BadNumber
  have M_BadNumber := PySem.W.mg_of X G at_BadNumber
  have O_BadName : OexC K c_BadName := ⟨⟨nm_BadName, q_BadName, N_BadName_, bs_BadName, bm_BadName, sn_BadName, sub_BadName, ab_BadName, col_BadName, dd_BadName, m0_BadName, m1_BadName, m2_BadName, m3_BadName, m5_BadName, xL_BadName, rv_BadName⟩, sa_BadName, eC_BadName, tC_BadName, kC_BadName⟩
  have E_BadName : ExC K c_BadName := ⟨O_BadName, ga_BadName, gg_BadName, hd_BadName, cA_BadName, cg, ct, cm_BadName⟩
  have F_BadName := fun_mk (st := s_BadName_init) li_BadName ci_BadName ki_BadName
  have M_BadName := PySem.W.mg_of X G at_BadName
  have exBadTongue : PySem.W.exmOne K (.ref c_BadTongue) (.ref c_TickError) = some true := by
    unfold PySem.W.exmOne
    rw [eb]
    exact ekBadTongue
  have exBadNumber : PySem.W.exmOne K (.ref c_BadNumber) (.ref c_TickError) = some true := by
    unfold PySem.W.exmOne
    rw [eb]
    exact ekBadNumber
  have cl : Cls K c_Tongue := ⟨pgT, hdT, poT, saT⟩
  have tgc : TgC K c_Tongue := ⟨cl, noT, haT, cg, ct, hmT, meT⟩
  have F_TI := fun_mk (st := s_Tongue_init) l_TI c_TI k_TI
  have F_TS := fun_mk (st := s_Tongue_str) l_TS c_TS k_TS
  have b_TI := F_TI.binds (ps := ["self", "names"]) fun _ _ _ _ _ _ us hl => match us, hl with | [_, _], _ => rfl
  have b_TS := F_TS.binds (ps := ["self"]) fun _ _ _ _ _ _ us hl => match us, hl with | [_], _ => rfl
  have M_Tongue := PySem.W.mg_of X G at_Tongue
  have kn : ∀ t : String, t ∈ ["NoneType", "str", "int", "list"] → PySem.W.kitOne K (.type t) (.ref c_Tongue) = some false := by
    intro t ht
    simp only [List.mem_cons, List.not_mem_nil, or_false] at ht
    rcases ht with rfl | rfl | rfl | rfl
    · exact kn_NoneType
    · exact kn_str
    · exact kn_int
    · exact kn_list
  have kd_BadTongue : Knd K c_BadTongue c_BadText c_TooMany c_BadTongue c_BadNumber c_Misfit true false := ⟨E_BadTongue, no_BadTongue, kBadTongueX, kBadTongueY, kBadTongueB, kBadTongueM, kBadTongueF⟩
  have kd_BadNumber : Knd K c_BadNumber c_BadText c_TooMany c_BadTongue c_BadNumber c_Misfit false true := ⟨E_BadNumber, no_BadNumber, kBadNumberX, kBadNumberY, kBadNumberB, kBadNumberM, kBadNumberF⟩

  refine ⟨PySem.W.fnOf "law" "law" (defArgs s_law) (defBody s_law) (defScope s_law) .none kV_law dc_law pm_law an_law cd_law ct_law, [(cT, PT)], spLawT PT K, ?_, ?_, ?_, fun s v => .of_eq rfl, ?_, fun base inB gB TBs => ?_⟩
  · intro p hp
    rw [List.mem_singleton.mp hp]
    exact tT
  · intro p hp
    rw [List.mem_singleton.mp hp]
    exact nT
  · intro p hp
    rw [List.mem_singleton.mp hp]
    exact PySem.W.codeHd_of_K X hT
  · intro H a ns hl hb hH hS
    exact ⟨a, ns, rfl, hS, hH _ (List.mem_singleton.mpr rfl), fun _ => rfl⟩
  have TB := TBs _ (List.mem_singleton.mpr rfl)
  have R_BadTongue : Rcl l.prog w K mg base "BadTongue" c_BadTongue "part" := ⟨O_BadTongue, M_BadTongue, no_BadTongue, f_BadTongue, _, _, ai_BadTongue, ti_BadTongue, ok_BadTongue F_BadTongue, F_BadTongue.binds (ps := ["self", "part"]) fun _ _ _ _ _ _ us hl => match us, hl with | [_, _], _ => rfl⟩
  have R_BadNumber : Rcl l.prog w K mg base "BadNumber" c_BadNumber "part" := ⟨O_BadNumber, M_BadNumber, no_BadNumber, f_BadNumber, _, _, ai_BadNumber, ti_BadNumber, ok_BadNumber F_BadNumber, F_BadNumber.binds (ps := ["self", "part"]) fun _ _ _ _ _ _ us hl => match us, hl with | [_, _], _ => rfl⟩
  have R_BadName : Rcl l.prog w K mg base "BadName" c_BadName "part" := ⟨O_BadName, M_BadName, no_BadName, f_BadName, _, _, ai_BadName, ti_BadName, ok_BadName F_BadName, F_BadName.binds (ps := ["self", "part"]) fun _ _ _ _ _ _ us hl => match us, hl with | [_, _], _ => rfl⟩
  have C_is_row : Cal l.prog w K mg base 1 "is_row" ["value", "least", "most"] (spRow) := ⟨_, _, ok_is_row F_is_row T, m_is_row, k_is_row, b_is_row⟩
  have C_is_signs : Cal l.prog w K mg base 1 "is_signs" ["value", "least", "most"] (spSig) := ⟨_, _, ok_is_signs F_is_signs T, m_is_signs, k_is_signs, b_is_signs⟩
  have C_is_name : Cal l.prog w K mg base 2 "is_name" ["value"] (spAny1 fun _ v => nameB v) := ⟨_, _, ok_is_name F_is_name T C_is_signs, m_is_name, k_is_name, b_is_name⟩
  have C_is_integer : Cal l.prog w K mg base 1 "is_integer" ["value"] (spIsInt) := ⟨_, _, ok_is_integer F_is_integer T, m_is_integer, k_is_integer, b_is_integer⟩
  have C_is_within : Cal l.prog w K mg base 2 "is_within" ["value", "least", "most"] (spWithin) := ⟨_, _, ok_is_within F_is_within T C_is_integer, m_is_within, k_is_within, b_is_within⟩
  have C_need_names : CalX l.prog w K mg base 3 "need_names" ["names"] (spNeed c_BadName) := ⟨_, _, ok_need_names F_need_names T R_BadName C_is_row C_is_name, m_need_names, k_need_names, b_need_names⟩
  have C_are_apart : CalX l.prog w K mg base 4 "are_apart" ["names"] (spApart c_BadName) := ⟨_, _, ok_are_apart F_are_apart T C_need_names, m_are_apart, k_are_apart, b_are_apart⟩
  have C_place_of_misfit : Cal l.prog w K mg base 5 "place_of_misfit" ["names"] (spMis) := ⟨_, _, ok_misfit F_place_of_misfit T C_is_signs C_are_apart, m_place_of_misfit, k_place_of_misfit, b_place_of_misfit⟩
  have C_need_tongue : CalX l.prog w K mg base 3 "need_tongue" ["tongue"] (spNT K c_Tongue c_BadTongue) := ⟨_, _, ok_need_tongue F_need_tongue T M_Tongue R_BadTongue, m_need_tongue, k_need_tongue, b_need_tongue⟩
  have C_need_within : CalX l.prog w K mg base 3 "need_within" ["value", "least", "most", "part"] (spNN c_BadNumber) := ⟨_, _, ok_need_within F_need_within T R_BadNumber C_is_within, m_need_within, k_need_within, b_need_within⟩
  have C_counts_to : Cal l.prog w K mg base 1 "counts_to" ["tongue", "most"] (spCT K c_Tongue) := ⟨_, _, ok_counts_to F_counts_to T cl noT, m_counts_to, k_counts_to, b_counts_to⟩
  have C_how_many : CalX l.prog w K mg base 4 "how_many" ["tongue", "length"] (spHM K c_Tongue c_BadTongue c_BadNumber) := ⟨_, _, ok_how_many F_how_many T tgc C_need_tongue C_need_within C_counts_to, m_how_many, k_how_many, b_how_many⟩
  have K_how_many : CalXK l.prog w K mg base 4 "how_many" ["tongue", "length"] ["tongue", "length"] (fun l => l) (spHM K c_Tongue c_BadTongue c_BadNumber) := ⟨_, _, _, ok_how_many F_how_many T tgc C_need_tongue C_need_within C_counts_to, m_how_many, k_how_many, Fun.kb F_how_many (fun l => l) (fun r => r) fun _ _ _ _ _ _ ws hl => match ws, hl with | [_, _], _ => rfl⟩
  have C__law_sink : Cal l.prog w K mg base 1 "_law_sink" ["script"] (spSieve K) := ⟨_, _, ok_sieve F__law_sink T, m__law_sink, k__law_sink, b__law_sink⟩
  have C__law_fill : Cal l.prog w K mg base 1 "_law_fill" ["sink", "many"] (spSift) := ⟨_, _, ok_sift F__law_fill T, m__law_fill, k__law_fill, b__law_fill⟩
  have C__law_pick : Cal l.prog w K mg base 2 "_law_pick" ["sink", "some"] (spOne) := ⟨_, _, ok_one F__law_pick T C__law_fill, m__law_pick, k__law_pick, b__law_pick⟩
  have C__law_names : Cal l.prog w K mg base 3 "_law_names" ["sink"] (spNames) := ⟨_, _, ok_names F__law_names T C__law_fill C__law_pick, m__law_names, k__law_names, b__law_names⟩
  have C__law_counts : Cal l.prog w K mg base 1 "_law_counts" ["names", "most"] (spLC) := ⟨_, _, ok_law_counts F__law_counts T, m__law_counts, k__law_counts, b__law_counts⟩
  have FS : FnR l.prog w K mg base CX0 1 f_TS (spStr c_Tongue) := (FnOk.raw (ok_str F_TS T tgc) b_TS .nil).imp fun vs H Q E h => by rw [List.append_nil]; exact h
  exact ok_law F_law eT TB T F__law_heard m__law_heard k__law_heard b__law_heard tgc ⟨mkT, a_TI, i_TI, kcT⟩ (ok_Tongue (CB := c_BadName) F_TI T R_BadTongue cl noT C_is_row C_place_of_misfit) b_TI M_Tongue a_TS i_TS FS (PySem.W.mg_of X G at_BadText) (PySem.W.mg_of X G at_TooMany) M_BadTongue M_BadNumber (PySem.W.mg_of X G at_Misfit) (PySem.W.mg_of X G at_TickError) kd_BadTongue kd_BadNumber exBadTongue exBadNumber kn C_how_many K_how_many C__law_sink C__law_fill C__law_pick C__law_names C__law_counts

theorem walk {l : PySem.W.OpenLaw} {q : Program} {loose : List Str} {XP : (Str → Option Value) → Heap → Prop} {YP : World → Heap → Prop} {d : DefRec} {K : Params → PySem.W.Frag} (hn : l.most = some 63) (hdf : d.params.defaults = [])
    (hY : ∀ (w : World) (h : Heap), YP w h → (K w.params).In h)
    (F : ∀ (w : World) (mg : Str → Option Value) (fa : Addr) (h : Heap), YP w h → (K w.params).In h → h.Ns mainGlobals mg → mg d.name = some (.ref fa) → LawTG l w (K w.params) 12 63 "script" mg fa h) :
    PySem.W.WalkO q loose XP YP l.row.toRowW d [] (fun f vs => PySem.call f vs) :=
  Own.walk_ofTG (n := 63) (k := 12) (x := "script") hn (by decide) hdf ⟨rfl, by decide, by decide⟩ hY F
end K18

open PySem PySem.W PyProof.Rows in
set_option maxRecDepth 100000 in
set_option maxHeartbeats 0 in
theorem PySem.Challenge.cw_duetickers_k18_whole_counts_of_all_lengt_holds : PySem.Challenge.rw_duetickers_k18_whole_counts_of_all_lengt.Holds := by
  w_on; o_law; k_head; (case hw => w_witness2)
  k_fill
  refine K18.walk (l := PySem.Challenge.rw_duetickers_k18_whole_counts_of_all_lengt) rfl rfl (fun w h Y => PySem.W.km_in_of Y) ?F
  case F =>
    intro w mg fa h Y KX G hmg
    refine' K18.all_mk KX G hmg ?a__wall ?l__wall ?c__wall ?k__wall ?a_is_integer ?l_is_integer ?c_is_integer ?k_is_integer ?a_is_within ?l_is_within ?c_is_within ?k_is_within ?a_is_row ?l_is_row ?c_is_row ?k_is_row ?a_is_signs ?l_is_signs ?c_is_signs ?k_is_signs ?a_is_name ?l_is_name ?c_is_name ?k_is_name ?a_need_within ?l_need_within ?c_need_within ?k_need_within ?a_items_of ?l_items_of ?c_items_of ?k_items_of ?a_need_names ?l_need_names ?c_need_names ?k_need_names ?a_are_apart ?l_are_apart ?c_are_apart ?k_are_apart ?a_place_of_misfit ?l_place_of_misfit ?c_place_of_misfit ?k_place_of_misfit ?a_need_tongue ?l_need_tongue ?c_need_tongue ?k_need_tongue ?a_counts_to ?l_counts_to ?c_counts_to ?k_counts_to ?a_how_many ?l_how_many ?c_how_many ?k_how_many ?a__law_sink ?l__law_sink ?c__law_sink ?k__law_sink ?a__law_fill ?l__law_fill ?c__law_fill ?k__law_fill ?a__law_pick ?l__law_pick ?c__law_pick ?k__law_pick ?a__law_names ?l__law_names ?c__law_names ?k__law_names ?a__law_heard ?l__law_heard ?c__law_heard ?k__law_heard ?a__law_counts ?l__law_counts ?c__law_counts ?k__law_counts ?a_law ?l_law ?c_law ?k_law ?z_isinstance ?z_int ?z_bool ?z_list ?z_tuple ?z_len ?z_str ?z_all ?z_sorted ?z_any ?z_range ?z_enumerate ?z_sum ?z_abs ?z_max ?z_repr ?z_ValueError ?z_staticmethod ?g_MOST_SIGNS ?g_MOST_NAMES ?g_MANY_WORDS ?g_MOST_NAME ?g_MOST_LENGTH ?eT ?lT ?vT ?hT ?nT ?tT ?at_BadTongue ?xL_BadTongue ?rv_BadTongue ?sa_BadTongue ?eC_BadTongue ?tC_BadTongue ?kC_BadTongue ?ga_BadTongue ?gg_BadTongue ?hd_BadTongue ?cA_BadTongue ?cm_BadTongue ?no_BadTongue ?ai_BadTongue ?ti_BadTongue ?li_BadTongue ?ci_BadTongue ?ki_BadTongue ?at_BadNumber ?xL_BadNumber ?rv_BadNumber ?sa_BadNumber ?eC_BadNumber ?tC_BadNumber ?kC_BadNumber ?ga_BadNumber ?gg_BadNumber ?hd_BadNumber ?cA_BadNumber ?cm_BadNumber ?no_BadNumber ?ai_BadNumber ?ti_BadNumber ?li_BadNumber ?ci_BadNumber ?ki_BadNumber ?at_BadName ?xL_BadName ?rv_BadName ?sa_BadName ?eC_BadName ?tC_BadName ?kC_BadName ?ga_BadName ?gg_BadName ?hd_BadName ?cA_BadName ?cm_BadName ?no_BadName ?ai_BadName ?ti_BadName ?li_BadName ?ci_BadName ?ki_BadName ?cg ?ct ?at_TickError ?at_BadText ?at_TooMany ?at_Misfit ?kBadTongueX ?kBadTongueY ?kBadTongueB ?kBadTongueM ?kBadTongueF ?kBadNumberX ?kBadNumberY ?kBadNumberB ?kBadNumberM ?kBadNumberF ?eb ?ekBadTongue ?ekBadNumber ?at_Tongue ?pgT ?hdT ?poT ?saT ?mkT ?kcT ?noT ?haT ?hmT ?meT ?a_TI ?i_TI ?l_TI ?c_TI ?k_TI ?a_TS ?i_TS ?l_TS ?c_TS ?k_TS ?kn_NoneType ?kn_str ?kn_int ?kn_list
    (case a__wall => k_is)
    (case l__wall => k_is)
    (case c__wall => k_is)
    (case k__wall => k_is)
    (case a_is_integer => k_is)
    (case l_is_integer => k_is)
    (case c_is_integer => k_is)
    (case k_is_integer => k_is)
    (case a_is_within => k_is)
    (case l_is_within => k_is)
    (case c_is_within => k_is)
    (case k_is_within => k_is)
    (case a_is_row => k_is)
    (case l_is_row => k_is)
    (case c_is_row => k_is)
    (case k_is_row => k_is)
    (case a_is_signs => k_is)
    (case l_is_signs => k_is)
    (case c_is_signs => k_is)
    (case k_is_signs => k_is)
    (case a_is_name => k_is)
    (case l_is_name => k_is)
    (case c_is_name => k_is)
    (case k_is_name => k_is)
    (case a_need_within => k_is)
    (case l_need_within => k_is)
    (case c_need_within => k_is)
    (case k_need_within => k_is)
    (case a_items_of => k_is)
    (case l_items_of => k_is)
    (case c_items_of => k_is)
    (case k_items_of => k_is)
    (case a_need_names => k_is)
    (case l_need_names => k_is)
    (case c_need_names => k_is)
    (case k_need_names => k_is)
    (case a_are_apart => k_is)
    (case l_are_apart => k_is)
    (case c_are_apart => k_is)
    (case k_are_apart => k_is)
    (case a_place_of_misfit => k_is)
    (case l_place_of_misfit => k_is)
    (case c_place_of_misfit => k_is)
    (case k_place_of_misfit => k_is)
    (case a_need_tongue => k_is)
    (case l_need_tongue => k_is)
    (case c_need_tongue => k_is)
    (case k_need_tongue => k_is)
    (case a_counts_to => k_is)
    (case l_counts_to => k_is)
    (case c_counts_to => k_is)
    (case k_counts_to => k_is)
    (case a_how_many => k_is)
    (case l_how_many => k_is)
    (case c_how_many => k_is)
    (case k_how_many => k_is)
    (case a__law_sink => k_is)
    (case l__law_sink => k_is)
    (case c__law_sink => k_is)
    (case k__law_sink => k_is)
    (case a__law_fill => k_is)
    (case l__law_fill => k_is)
    (case c__law_fill => k_is)
    (case k__law_fill => k_is)
    (case a__law_pick => k_is)
    (case l__law_pick => k_is)
    (case c__law_pick => k_is)
    (case k__law_pick => k_is)
    (case a__law_names => k_is)
    (case l__law_names => k_is)
    (case c__law_names => k_is)
    (case k__law_names => k_is)
    (case a__law_heard => k_is)
    (case l__law_heard => k_is)
    (case c__law_heard => k_is)
    (case k__law_heard => k_is)
    (case a__law_counts => k_is)
    (case l__law_counts => k_is)
    (case c__law_counts => k_is)
    (case k__law_counts => k_is)
    (case a_law => k_is)
    (case l_law => k_is)
    (case c_law => k_is)
    (case k_law => k_is)
    (case z_isinstance => k_is)
    (case z_int => k_is)
    (case z_bool => k_is)
    (case z_list => k_is)
    (case z_tuple => k_is)
    (case z_len => k_is)
    (case z_str => k_is)
    (case z_all => k_is)
    (case z_sorted => k_is)
    (case z_any => k_is)
    (case z_range => k_is)
    (case z_enumerate => k_is)
    (case z_sum => k_is)
    (case z_abs => k_is)
    (case z_max => k_is)
    (case z_repr => k_is)
    (case z_ValueError => k_is)
    (case z_staticmethod => k_is)
    (case g_MOST_SIGNS => k_is)
    (case g_MOST_NAMES => k_is)
    (case g_MANY_WORDS => k_is)
    (case g_MOST_NAME => k_is)
    (case g_MOST_LENGTH => k_is)
    (case eT => rfl)
    (case lT => k_is)
    (case vT => rfl)
    (case hT => kernel_rfl)
    (case nT => kernel_rfl)
    (case tT => exact PySem.W.km_tabs_of Y _ (by k_mem))
    (case at_BadTongue => k_is)
    (case xL_BadTongue => k_is)
    (case rv_BadTongue => first | decide +kernel | rfl)
    (case sa_BadTongue => k_is)
    (case eC_BadTongue => k_is)
    (case tC_BadTongue => k_is)
    (case kC_BadTongue => k_is)
    (case ga_BadTongue => k_is)
    (case gg_BadTongue => k_is)
    (case hd_BadTongue => k_is)
    (case cA_BadTongue => k_is)
    (case cm_BadTongue => k_is)
    (case no_BadTongue => k_is)
    (case ai_BadTongue => k_is)
    (case ti_BadTongue => k_is)
    (case li_BadTongue => k_is)
    (case ci_BadTongue => k_is)
    (case ki_BadTongue => k_is)
    (case at_BadNumber => k_is)
    (case xL_BadNumber => k_is)
    (case rv_BadNumber => first | decide +kernel | rfl)
    (case sa_BadNumber => k_is)
    (case eC_BadNumber => k_is)
    (case tC_BadNumber => k_is)
    (case kC_BadNumber => k_is)
    (case ga_BadNumber => k_is)
    (case gg_BadNumber => k_is)
    (case hd_BadNumber => k_is)
    (case cA_BadNumber => k_is)
    (case cm_BadNumber => k_is)
    (case no_BadNumber => k_is)
    (case ai_BadNumber => k_is)
    (case ti_BadNumber => k_is)
    (case li_BadNumber => k_is)
    (case ci_BadNumber => k_is)
    (case ki_BadNumber => k_is)
    (case at_BadName => k_is)
    (case xL_BadName => k_is)
    (case rv_BadName => first | decide +kernel | rfl)
    (case sa_BadName => k_is)
    (case eC_BadName => k_is)
    (case tC_BadName => k_is)
    (case kC_BadName => k_is)
    (case ga_BadName => k_is)
    (case gg_BadName => k_is)
    (case hd_BadName => k_is)
    (case cA_BadName => k_is)
    (case cm_BadName => k_is)
    (case no_BadName => k_is)
    (case ai_BadName => k_is)
    (case ti_BadName => k_is)
    (case li_BadName => k_is)
    (case ci_BadName => k_is)
    (case ki_BadName => k_is)
    (case cg => k_is)
    (case ct => k_is)
    (case at_TickError => k_is)
    (case at_BadText => k_is)
    (case at_TooMany => k_is)
    (case at_Misfit => k_is)
    (case kBadTongueX => kit_is)
    (case kBadTongueY => kit_is)
    (case kBadTongueB => kit_is)
    (case kBadTongueM => kit_is)
    (case kBadTongueF => kit_is)
    (case kBadNumberX => kit_is)
    (case kBadNumberY => kit_is)
    (case kBadNumberB => kit_is)
    (case kBadNumberM => kit_is)
    (case kBadNumberF => kit_is)
    (case eb => k_is)
    (case ekBadTongue => first | k_is | kernel_rfl)
    (case ekBadNumber => first | k_is | kernel_rfl)
    (case at_Tongue => k_is)
    (case pgT => k_is)
    (case hdT => k_is)
    (case poT => k_is)
    (case saT => k_is)
    (case mkT => k_is)
    (case kcT => k_is)
    (case noT => k_is)
    (case haT => k_is)
    (case hmT => k_is)
    (case meT => kit_is)
    (case a_TI => k_is)
    (case i_TI => k_is)
    (case l_TI => k_is)
    (case c_TI => k_is)
    (case k_TI => k_is)
    (case a_TS => k_is)
    (case i_TS => k_is)
    (case l_TS => k_is)
    (case c_TS => k_is)
    (case k_TS => k_is)
    (case kn_NoneType => kit_is)
    (case kn_str => kit_is)
    (case kn_int => kit_is)
    (case kn_list => kit_is)
