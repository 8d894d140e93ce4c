import PyProof.Rows.All
import Wide.All
import OpenK.AllK
import Wide.FinOn
import HandS.Base
import HandS.Call
import HandS.List
import HandS.Comp
import HandS.Ends
import HandS.Dict
import HandS.Iter
import HandS.Text
import HandS.Words
import HandS.WordsList
import HandS.IsInst
import HandS.StrMore
import HandS.Defaults
import HandS.Codes
import HandS.EndBits
import KE.KExcIs
import HandS.Exc
import HandS.ExcInit
import HandS.Lambda
import HandS.EndTab
import HandS.WordsExc
import HandS.ExcOwn
import HandS.Walk
import HandS.DictComp
import KE.GoesMore
import HandS.SortInts
import PyProof.TupleOfSeq
import HandS.SlotsOwn
import KE.KCallOwn
import HandS.Flow
import HandS.Gcd
import HandS.Style
import HandS.Wide
import HandS.Deep
import HandS.FStr
import HandS.WideBits
import HandS.ExcCtx
import KE.KMathG
import KE.KMathGC
import KE.GoesZip
import KE.KUnpack
import HandS.TryMany
import HandS.ExcField
import PyProof.ReprLen
import PySem.Challenge.RW_duetickers_k61_what_laps_keep
set_option Elab.async false
set_option linter.all false
set_option maxRecDepth 100000
set_option maxHeartbeats 4000000
/-! Rules of our own: repr of data, identity with a truth, a text times a number, calls where nothing guards. -/
namespace Own
open PySem PySem.Spec PyProof.Rows L2

/-! ### repr(x), x data of any depth -/
def rRepr (K : PySem.W.Frag) : List V → Hp → VK → Prop := fun xs H Q =>
  ∃ x d, xs = [x] ∧ Dp K H x d ∧ d.showable = true ∧ d.hasDict = false ∧ d.depth ≤ 60 ∧ d.shown.length ≤ sizeLine ∧ Q (.str d.shown) H
theorem call_repr {X : Cx} (hg : X.A.guards = some []) (hu : X.A.units + 64 < cLine) : CallR X (.builtin "repr") (rRepr X.K) := by
  intro pins s σ H xs us Q I r h
  obtain ⟨x, d, rfl, hd, hs, hn, hdep, hsz, q⟩ := h
  cases r with
  | cons rx rn =>
    rename_i v us'
    cases rn
    cases hd with
    | non =>
      cases (show v = Value.none from rx)
      exact P.repr_of_none ⟨.str _, H, I.tok _, ⟨_, rfl⟩, q⟩
    | bl b =>
      cases (show v = Value.bool b from rx)
      exact P.repr_of_bool ⟨.str _, H, I.tok _, ⟨_, by cases b <;> rfl⟩, q⟩
    | int i =>
      obtain ⟨t, rfl⟩ := (show ∃ t, v = Value.int i t from rx)
      exact P.repr_of_int (of_decide_eq_true (by simpa only [PyData.showable] using hs)) ⟨.str _, H, I.tok _, ⟨_, rfl⟩, q⟩
    | str z =>
      obtain ⟨t, rfl⟩ := (show ∃ t, v = Value.str z t from rx)
      exact P.repr_of_str ⟨.str _, H, I.tok _, ⟨_, rfl⟩, q⟩ hsz
    | @lst a ys ds hl ha =>
      cases (show v = Value.ref a from rx)
      obtain ⟨as, rd⟩ := Dp.reads I (.list ds) (.ref a) _ (.lst hl ha) rfl
      exact repr_of_reads' rd hs (fun z => by rw [hn] at z; cases z) hg (by omega) (fun _ _ e => e) (fun h' u tk k => ⟨.str _, H, I.kept k, ⟨_, rfl⟩, q⟩) hsz
    | @tup a ys ds hl ha =>
      cases (show v = Value.ref a from rx)
      obtain ⟨as, rd⟩ := Dp.reads I (.tuple ds) (.ref a) _ (.tup hl ha) rfl
      exact repr_of_reads' rd hs (fun z => by rw [hn] at z; cases z) hg (by omega) (fun _ _ e => e) (fun h' u tk k => ⟨.str _, H, I.kept k, ⟨_, rfl⟩, q⟩) hsz

/-! ### x is not True -/
theorem op_notTrue {X : Cx} : OpR X (compareOp .IsNot) (fun x y H Q => ∃ b : Bool, y = .bl b ∧ Q (.bl (!decide (x = .bl b))) H) := by
  intro pins s σ H x y v u Q I rx ry h
  obtain ⟨b, rfl, q⟩ := h
  cases (show u = Value.bool b from ry)
  by_cases e : x = V.bl b
  · subst e
    cases (show v = Value.bool b from rx)
    exact wpAny_isNot_self rfl ⟨.bl false, H, I, rfl, by simpa using q⟩
  · refine wpAny_isNot_other ?_ ?_ ⟨.bl true, H, I, rfl, by simpa [e] using q⟩
    · cases x <;> first
        | (cases rx; rfl)
        | (obtain ⟨t, rfl⟩ := rx; rfl)
    · rintro rfl
      cases x <;> first
        | (cases rx; done)
        | (obtain ⟨t, z⟩ := rx; cases z; done)
        | (cases rx; exact e rfl)

/-! ### a text times a number -/
theorem op_mulS {X : Cx} : OpR X (binaryOp .Mult) (fun x y H Q => ∃ z i, x = .str z ∧ y = .int i ∧ z.length ≤ 1 ∧ 0 ≤ i ∧ i ≤ 100000 ∧ Q (.str (Txt.mul z i)) H) := by
  intro pins s σ H x y v u Q I rx ry h
  obtain ⟨z, i, rfl, rfl, hz, h0, h1, q⟩ := h
  obtain ⟨t, rfl⟩ := rx
  obtain ⟨t2, rfl⟩ := ry
  refine SB.mul ⟨?_, ?_, ?_⟩ fun t' k => ⟨.str _, H, I.tok _, ⟨_, rfl⟩, q⟩
  · have a : ¬ i < -(2 ^ 63 : Int) := by omega
    have b : ¬ i ≥ 2 ^ 63 := by omega
    simp [a, b]
    omega
  · intro h2 _
    have : (2 : Int) ^ 63 - 1 = 9223372036854775807 := by decide
    rw [this]
    have c : (1 : Int) ≤ 9223372036854775807 / i := by
      apply Int.le_ediv_of_mul_le (by omega); omega
    omega
  · intro h2 _
    unfold Builtin.Str.tooLong
    have e := sizeLine_eq
    have : z.length * i.toNat ≤ 1 * i.toNat := Nat.mul_le_mul_right _ hz
    first
      | (simp only [decide_eq_false_iff_not]; omega)
      | (simp; omega)

/-! ### a def that is called where no walk over data is under way (no guard) -/
structure FnG (P : Program) (w : World) (K : PySem.W.Frag) (mg : Str → Option Value) (base : Heap) (CX : CXT) (k : Nat) (f : Addr) (fd : FuncData) (ps : List Str) (sp : Sp) : Prop where
  len : ∀ vs H Q E, sp vs H Q E → vs.length = ps.length
  run : ∀ (A : Around) (outer : List Env) (s : Shared) (H : Hp) (args : Args) (us : List Value) (vs : List V) (Q : VK) (E : XK),
    Room k A → A.guards = some [] → Env0 P w K mg base A outer s H → BindsTo s fd args (ps.zip us) → Vals vs us → sp vs H Q E →
    codeAny (model P w) A (.call (.ref f) args) (CR CX outer P w H s Q E) s

section
variable {P : Program} {w : World} {K : PySem.W.Frag} {mg : Str → Option Value} {base : Heap} {CX : CXT} {k : Nat} {f : Addr} {fd : FuncData} {ps : List Str} {sp : Sp}
theorem FnG.of (F : FnOk P w K mg base CX k f fd ps sp) : FnG P w K mg base CX k f fd ps sp :=
  ⟨F.len, fun A outer s H args us vs Q E hr _ => F.run A outer s H args us vs Q E hr⟩
/-- a def by its body, which knows that nothing guards -/
theorem Fun.okG {x qual : Str} {st : Stmt} {N : List Str} (F : Fun K x qual st f fd) (S : FnScope N ps (defScope st)) (len : ∀ vs H Q E, sp vs H Q E → vs.length = ps.length)
    (body : ∀ (cdv : Value) (A : Around) (outer : List Env) (s : Shared) (H : Hp) (vs : List V) (Q : VK) (E : XK), Room k (A.deeper (envOfC qual (defScope st) s.heap.objs.size f cdv)) →
      A.guards = some [] → sp vs H Q E → ∃ t, PSs (cxOf CX0 P w K mg base N qual (defScope st) f cdv A outer s H E).nox (defBody st) t ∧ t { nx := fun _ H' => Q .non H', rt := Q } (start N vs) H) :
    FnG P w K mg base CX0 (k + 1) f fd ps sp := by
  obtain ⟨oc, od, kV, doc, pm, an, cdv, ct, osl, rfl, lk, hcd⟩ := F.ex
  refine ⟨len, ?_⟩
  intro A outer s H args us vs Q E room gd e0 bnd rel want
  have size := len vs H Q E want
  have inK : K.In s.heap := e0.mod.kin.keeps fun b o z => And.left (e0.bs b o z)
  have room0 : s.heap.NoLimit := e0.mod.nolimit.keeps fun b o z => And.left (e0.bs b o z)
  have slots : ∀ y ∈ ps.zip us, (defScope st).names.lookup y.1 = some .local ∨ ((defScope st).names.lookup y.1 = some .cell ∧
      ((cellsFrom (s.heap.objs.size + 1) (defScope st).names []).lookup y.1).isSome = true) := by
    rintro ⟨n, v⟩ z
    refine (S.par n (List.of_mem_zip z).1).imp id fun c => ⟨c, ?_⟩
    exact PySem.W.cellsFrom_some _ _ _ (.inl c)
  refine codeAny_call_function room.depth (inK _ _ lk) rfl S.co S.gen rfl (PySem.W.codeRec_of inK hcd) (bnd _ _ _ _ ?_)
  refine wpAny_newFunctionEnv_cells S.kind slots ?_
  rintro env rfl s1 x
  refine ⟨room0.keeps x.toInCall.keep, codeAny_func ?_⟩
  obtain ⟨t, walk, say⟩ := body cdv A outer s H vs Q E (room.deeper _) gd want
  have I := inv_start (CX := CX0) (E := E) S room.hd e0 size rel x
  refine wpAny_mono (walk.nox.run [] s1 (start N vs) H _ I say) (fun r s' z => ?_) (fun _ _ z => z)
  have last : ∀ {τ : L2.St} {G : Hp} {v : V} {u : Value}, Inv (cxOf CX0 P w K mg base N qual (defScope st) f cdv A outer s H E) [] τ G s' →
      RelV v u → Q v G → CE outer P w H s Q u s' := fun J r q => ⟨_, _, J.os, J.bare, J.base, J.hok, r, q⟩
  match r, z with
  | .ret u, z =>
    obtain ⟨v, τ, G, J, r1, q⟩ := z
    exact last J r1 q
  | .next, z =>
    obtain ⟨τ, G, J, q⟩ := z
    exact last (v := .non) (u := .none) J rfl q
  | .brk, z =>
    obtain ⟨τ, G, J, q⟩ := z
    exact q.elim
  | .cont, z =>
    obtain ⟨τ, G, J, q⟩ := z
    exact q.elim
end
section
variable {X : Cx} {CX : CXT} {k : Nat} {f : Addr} {fd : FuncData} {ps : List Str} {sp : Sp} {dvs : List V} {ds : List Value} {E : XK} {x : Str} {p pos : Pos} {e : Expr} {es : List Expr} {t : TA}
theorem run_fnG {pins : List (Addr × Obj)} {σ : L2.St} {H : Hp} {s : Shared} {Q : VK} {us : List Value} {vs : List V} (F : FnG X.prog X.w X.K X.mg X.base CX k f fd ps sp) (room : Room k X.A) (gd : X.A.guards = some [])
    (hb : Binds X.K fd ps ds) (hd : Vals dvs ds) (hx : Passes CX X E) (I : Inv X pins σ H s) (r : Vals vs us) (h : sp (vs ++ dvs) H Q E) : wpAny (model X.prog X.w) X.A (call (.ref f) us) (EP X pins σ Q) X.xe s := by
  have rel := r.append hd
  have size : (us ++ ds).length = ps.length := rel.length.symm.trans (F.len _ _ _ _ h)
  refine wpAny_call (codeAny_mono (F.run X.A X.stack s H ⟨us, []⟩ _ _ Q E room gd I.env0 (hb s us I.kIn size) rel h) ?_)
  intro r s' z
  match r, z with
  | .error e, z => exact hx pins σ H s e s' I z
  | .ok (.ret u), z => exact I.after z
  | .ok .next, z => exact z.elim
  | .ok .brk, z => exact z.elim
  | .ok .cont, z => exact z.elim
theorem pe_callG (F : FnG X.prog X.w X.K X.mg X.base CX k f fd ps sp) (room : Room k X.A) (gd : X.A.guards = some []) (hg : Gl X x) (hm : X.mg x = some (.ref f)) (hk : PySem.W.keepIn X.K (.ref f) = true)
    (hb : Binds X.K fd ps ds) (hd : Vals dvs ds) (hx : Passes CX X E) (ha : PA X (e :: es) t) (hdb : (x == ("__debug__" : Str)) = false := by decide)
    (he : starEach (e :: es) X.env = (false, eval e X.env) :: starEach es X.env := by rfl) (hpl : (backTo pos (starEach es X.env)).any (·.1) = false := by rfl) :
    PE X (.Call (.Name x p) (e :: es) [] pos) (tCall sp dvs E t) := by
  constructor
  intro pins s σ H Q I h
  refine wpAny_Call_Name_kw (ld_glob I hg hm ?_ hdb)
  refine PySem.W.callWith_K (h₀ := X.base) I.ok.mod.kin hk (thn (ha.run pos pins s σ H _ I h) ?_) he hpl
  rintro us s1 ⟨vs, H1, I1, r, q⟩
  exact ⟨I1.kIn, run_fnG F room gd hb hd hx I1 r q⟩
end
end Own
namespace Own
open PySem PySem.Spec PyProof.Rows L2
/-! ### a def of the top, with all that its callers want -/
structure Cal (P : Program) (w : World) (K : PySem.W.Frag) (mg : Str → Option Value) (base : Heap) (k : Nat) (x : Str) (ps : List Str) (sp : Sp) : Prop where
  ex : ∃ f fd, FnOk P w K mg base CX0 k f fd ps sp ∧ mg x = some (.ref f) ∧ PySem.W.keepIn K (.ref f) = true ∧ Binds K fd ps []
structure CalG (P : Program) (w : World) (K : PySem.W.Frag) (mg : Str → Option Value) (base : Heap) (k : Nat) (x : Str) (ps : List Str) (sp : Sp) : Prop where
  ex : ∃ f fd, FnG P w K mg base CX0 k f fd ps sp ∧ mg x = some (.ref f) ∧ PySem.W.keepIn K (.ref f) = true ∧ Binds K fd ps []
/-- the same, called by keywords alone -/
structure CalK (P : Program) (w : World) (K : PySem.W.Frag) (mg : Str → Option Value) (base : Heap) (k : Nat) (x : Str) (ps ks : List Str) (gV : List V → List V) (sp : Sp) : Prop where
  ex : ∃ f fd g, FnOk P w K mg base CX0 k f fd ps sp ∧ mg x = some (.ref f) ∧ PySem.W.keepIn K (.ref f) = true ∧ KBn K fd ps 0 ks g (fun _ zs => gV zs)
section
variable {X : Cx} {k : Nat} {x : Str} {ps ks : List Str} {sp : Sp} {p pos : Pos} {e : Expr} {es : List Expr} {kws : List Keyword} {t tk : TA} {gV : List V → List V}
theorem pe_cal (C : Cal X.prog X.w X.K X.mg X.base k x ps sp) (room : Room k X.A) (ha : PA X (e :: es) t) (hg : Gl X x := by rfl) (hdb : (x == ("__debug__" : Str)) = false := by decide)
    (he : starEach (e :: es) X.env = (false, eval e X.env) :: starEach es X.env := by rfl) (hpl : (backTo pos (starEach es X.env)).any (·.1) = false := by rfl) :
    PE X (.Call (.Name x p) (e :: es) [] pos) (tCall sp [] E0 t) := by
  obtain ⟨f, fd, F, m, kp, b⟩ := C.ex
  exact pe_call F room hg m kp b .nil pass0 ha hdb he hpl
theorem pe_cal0 (C : Cal X.prog X.w X.K X.mg X.base k x ps sp) (room : Room k X.A) (hg : Gl X x := by rfl) (hdb : (x == ("__debug__" : Str)) = false := by decide) :
    PE X (.Call (.Name x p) [] [] pos) (tCall sp [] E0 tNil) := by
  obtain ⟨f, fd, F, m, kp, b⟩ := C.ex
  exact pe_call0 F room hg m kp b .nil pass0 hdb
theorem pe_calG (C : CalG X.prog X.w X.K X.mg X.base k x ps sp) (room : Room k X.A) (gd : X.A.guards = some []) (ha : PA X (e :: es) t) (hg : Gl X x := by rfl) (hdb : (x == ("__debug__" : Str)) = false := by decide)
    (he : starEach (e :: es) X.env = (false, eval e X.env) :: starEach es X.env := by rfl) (hpl : (backTo pos (starEach es X.env)).any (·.1) = false := by rfl) :
    PE X (.Call (.Name x p) (e :: es) [] pos) (tCall sp [] E0 t) := by
  obtain ⟨f, fd, F, m, kp, b⟩ := C.ex
  exact pe_callG F room gd hg m kp b .nil pass0 ha hdb he hpl
/-- f(k = v, ..) -/
def tKw (m : Nat) (sp : Sp) (gV : List V → List V) (tk : TA) : TE := fun σ H Q => tk σ H fun zs H2 => zs.length = m ∧ sp (gV zs) H2 Q E0
theorem pe_calK (C : CalK X.prog X.w X.K X.mg X.base k x ps ks gV sp) (room : Room k X.A) (hkw : PK X kws tk) (hg : Gl X x := by rfl) (hall : (backToKw pos (keywordEach kws X.env)).all (·.1.isSome) = true := by rfl)
    (hks : (backToKw pos (keywordEach kws X.env)).filterMap (·.1) = ks := by rfl) (hdb : (x == ("__debug__" : Str)) = false := by decide)
    (hpl : ((backTo pos (starEach [] X.env)).any (·.1) || (backToKw pos (keywordEach kws X.env)).any (·.1.isNone)) = false := by rfl) :
    PE X (.Call (.Name x p) [] kws pos) (tKw ks.length sp gV tk) := by
  obtain ⟨f, fd, g, F, m, kp, b⟩ := C.ex
  constructor
  intro pins s σ H Q I h
  refine wpAny_Call_Name_kw (ld_glob I hg m ?_ hdb)
  refine PySem.W.callWith_KW0 (h₀ := X.base) I.ok.mod.kin kp hall (thn (hkw.run pos pins s σ H _ I h) ?_) hpl
  rintro ws s2 ⟨zs, H2, I2, rz, l, q⟩
  refine ⟨I2.kIn, ?_⟩
  rw [hks]
  exact run_fnN (vs := []) (us := []) F room b pass0 I2 .nil rz rfl l q
end
theorem Fun.kb {K : PySem.W.Frag} {x qual : Str} {st : Stmt} {f : Addr} {fd : FuncData} {ps ks : List Str} (F : Fun K x qual st f fd) (g : {α : Type} → List α → List α)
    (rel : ∀ {zs : List V} {ws : List Value}, Vals zs ws → Vals (g zs) (g ws))
    (h : ∀ (kV doc pm : Value) (an : Option Addr) (cdv ct : Value) (ws : List Value), ws.length = ks.length → bindArgs (PySem.W.fnOf x qual (defArgs st) (defBody st) (defScope st) .none kV doc pm an cdv ct) ⟨[], ks.zip ws⟩ = pure (ps.zip (g ws))) :
    KBn K fd ps 0 ks (fun _ ws => g ws) (fun _ zs => g zs) := by
  obtain ⟨oc, od, kV, doc, pm, an, cdv, ct, osl, rfl, lk, hcd⟩ := F.ex
  refine ⟨fun s us ws _ l1 l2 => ?_, fun _ r => rel r⟩
  cases List.length_eq_zero_iff.mp l1
  exact .of_eq (h kV doc pm an cdv ct ws l2)
/-- a number that stands at the top -/
theorem pe_gi {X : Cx} {x : Str} {i : Int} {pos : Pos} (h : ∃ t, X.mg x = some (.int i t)) (hg : Gl X x := by rfl) (hd : (x == ("__debug__" : Str)) = false := by decide) : PE X (.Name x pos) (tC (.int i)) := by
  obtain ⟨t, e⟩ := h
  exact pe_glob hg e ⟨t, rfl⟩ hd
/-- a built-in class as a value -/
theorem pe_ty {X : Cx} {x : Str} {n : String} {pos : Pos} (hm : X.mg x = none) (hv : bootBuiltins x = some (.type n)) (hg : Gl X x := by rfl) (hn : x ≠ "__name__" := by decide) (hd : (x == ("__debug__" : Str)) = false := by decide) : PE X (.Name x pos) (tC (.ty n)) :=
  pe_bltn hg hm hv rfl hn hd
/-! ### heaps -/
theorem same_new {H : Hp} {p : Addr} {o : HO} (h : H p = none) : Same H (upd H p o) := fun b u e => by
  rw [upd_ne (ne_of_none e h)]
  exact e
theorem same_mut {H H' : Hp} {p : Addr} {o : HO} (s : Same H H') (h : H p = none) : Same H (upd H' p o) := fun b u e => by
  rw [upd_ne (ne_of_none e h)]
  exact s b u e
theorem take_map_succ {α β : Type} {xs : List α} {i : Nat} {x : α} (f : α → β) (h : xs[i]? = some x) : (xs.take (i + 1)).map f = (xs.take i).map f ++ [f x] := by
  rw [List.take_succ, h, List.map_append]
  rfl
/-! ### the drawing list [cells, turn, rest] -/
/-- all but p stays -/
def But (p : Addr) (H H' : Hp) : Prop := ∀ b o, b ≠ p → H b = some o → H' b = some o
theorem But.refl (p : Addr) (H : Hp) : But p H H := fun _ _ _ h => h
theorem But.trans {p : Addr} {H H1 H2 : Hp} (a : But p H H1) (b : But p H1 H2) : But p H H2 := fun c o n h => b c o n (a c o n h)
theorem Same.but {p : Addr} {H H' : Hp} (s : Same H H') : But p H H' := fun b o _ h => s b o h
theorem But.upd {p : Addr} {H H' : Hp} {o : HO} (b : But p H H') : But p H (upd H' p o) := fun c u n h => by
  rw [upd_ne n]
  exact b c u n h
theorem But.new {p q : Addr} {H H' : Hp} {o : HO} (b : But p H H') (h : H' q = none) : But p H (L2.upd H' q o) := fun c u n e => by
  have z := b c u n e
  rw [upd_ne (ne_of_none z h)]
  exact z
/-- the list at p: the cells at q, how often was drawn (n at most), what is left of a great cell -/
def Sv (p q : Addr) (cs : List Int) (n : Nat) (H : Hp) : Prop :=
  ∃ at_ rest : Int, H p = some (.lst [.ref q, .int at_, .int rest]) ∧ H q = some (.lst (cs.map V.int)) ∧ p ≠ q ∧ 0 ≤ at_ ∧ at_ ≤ n ∧ 0 ≤ rest
theorem Sv.mono {p q : Addr} {cs : List Int} {n m : Nat} {H : Hp} (h : Sv p q cs n H) (le : n ≤ m) : Sv p q cs m H := by
  obtain ⟨a, r, h1, h2, h3, h4, h5, h6⟩ := h
  exact ⟨a, r, h1, h2, h3, h4, by omega, h6⟩
theorem Sv.same {p q : Addr} {cs : List Int} {n : Nat} {H H' : Hp} (h : Sv p q cs n H) (s : Same H H') : Sv p q cs n H' := by
  obtain ⟨a, r, h1, h2, h3⟩ := h
  exact ⟨a, r, s _ _ h1, s _ _ h2, h3⟩
theorem dp_ints {K : PySem.W.Frag} {H : Hp} : ∀ cs : List Int, DpAll K H (cs.map V.int) (cs.map PyData.int)
  | [] => .nil
  | c :: cs => .cons (.int c) (dp_ints cs)
theorem lay_ints : ∀ cs : List Int, PyData.canLayAll0 (cs.map PyData.int) = true
  | [] => by simp [PyData.canLayAll0]
  | c :: cs => by simp [PyData.canLayAll0, PyData.canLay0, lay_ints cs]
theorem dep_ints : ∀ cs : List Int, PyData.depthAll (cs.map PyData.int) = 0
  | [] => by simp [PyData.depthAll]
  | c :: cs => by simp [PyData.depthAll, PyData.depth, dep_ints cs]
theorem shaped_ints (cs : List Int) : SeqAt.shaped (.list (cs.map PyData.int)) = true := by
  simp [SeqAt.shaped, PyData.canLay0, PyData.depth, lay_ints, dep_ints]
theorem shaped_nil : SeqAt.shaped (.list []) = true := by
  simp [SeqAt.shaped, PyData.canLay0, PyData.depth, PyData.canLayAll0, PyData.depthAll]
theorem eqv_nil (ds : List PyData) : PyData.eqv (.list ds) (.list []) = ds.isEmpty := by
  cases ds <;> simp [PyData.eqv, PyData.eqvAll]
theorem hu1 {k : Nat} {A : Around} (hr : Room k A) : A.units < cLine := by
  have := hr.un
  omega
theorem hu64 {k : Nat} {A : Around} (hr : Room k A) : A.units + 64 < cLine := by
  have := hr.un
  omega
def spSift : Sp := fun vs H Q _ => ∃ (p q : Addr) (cs : List Int) (n : Nat) (m : Int), vs = [.ref p, .int m] ∧ 0 < m ∧ m < 1073741824 ∧ n ≤ 100000 ∧ cs.length ≤ 1000 ∧ Sv p q cs n H ∧
  ∀ r H', 0 ≤ r → r < m → But p H H' → Sv p q cs (n + 1) H' → Q (.int r) H'
theorem mulb {x y a b : Int} (x0 : 0 ≤ x) (xa : x ≤ a) (y0 : 0 ≤ y) (yb : y ≤ b) : 0 ≤ x * y ∧ x * y ≤ a * b :=
  ⟨Int.mul_nonneg x0 y0, Int.mul_le_mul xa yb y0 (Int.le_trans x0 xa)⟩
theorem cpow_of {i j : Int} (h0 : 0 ≤ j) (h1 : j ≤ 1000000) (a : -(2 ^ 64) < i) (b : i < 2 ^ 64) : CPow i j := ⟨h0, h1, by omega⟩
/-- some[draw], some a list that stands apart -/
def spOne : Sp := fun vs H Q _ => ∃ (p q : Addr) (cs : List Int) (n : Nat) (s : Addr) (xs : List V), vs = [.ref p, .ref s] ∧ H s = some (.lst xs) ∧ s ≠ p ∧ 0 < xs.length ∧ xs.length ≤ 1000 ∧ n ≤ 100000 ∧ cs.length ≤ 1000 ∧ Sv p q cs n H ∧
  ∀ x H', x ∈ xs → But p H H' → Sv p q cs (n + 1) H' → Q x H'
def spSieve (K : PySem.W.Frag) : Sp := fun vs H Q _ => ∃ (a : Addr) (ns : List Int), vs = [.ref a] ∧ SqL K H a (ns.map V.int) ∧
  ∀ p q cs H', H p = none → Same H H' → cs.length ≤ 63 → Sv p q cs 0 H' → Q (.ref p) H'
theorem map_mem_cut {ns : List Int} {lo hi : Option Int} : ∃ cs : List Int, cutV (ns.map V.int) lo hi = cs.map V.int ∧ cs.length ≤ ns.length := by
  refine ⟨(ns.drop (HT.sIx (ns.map V.int).length 0 lo)).take (HT.sIx (ns.map V.int).length (ns.map V.int).length hi - HT.sIx (ns.map V.int).length 0 lo), ?_, ?_⟩
  · unfold cutV
    rw [← List.map_drop, ← List.map_take]
  · rw [List.length_take, List.length_drop]
    omega
theorem cut_len {ns : List Int} {k : Nat} : (cutV (ns.map V.int) none (some (k : Int))).length ≤ k := by
  unfold cutV
  rw [List.length_take]
  have : HT.sIx (ns.map V.int).length (ns.map V.int).length (some (k : Int)) ≤ k := by
    unfold HT.sIx
    simp only []
    split <;> omega
  omega
/-! ### what is drawn by an expression: from any heap in which n was drawn at most, a value of which R holds, m drawn at most -/
def Dr (p q : Addr) (cs : List Int) (te : TE) (σ : L2.St) (n m : Nat) (H : Hp) (R : Hp → V → Prop) : Prop :=
  ∀ H1, But p H H1 → Sv p q cs n H1 → ∀ Q : VK, (∀ v H2, But p H1 H2 → Sv p q cs m H2 → R H2 v → Q v H2) → te σ H1 Q
def DrA (p q : Addr) (cs : List Int) (ta : TA) (σ : L2.St) (n m : Nat) (H : Hp) (k : Nat) (R : Hp → V → Prop) : Prop :=
  ∀ H1, But p H H1 → Sv p q cs n H1 → ∀ Q : List V → Hp → Prop, (∀ vs H2, But p H1 H2 → Sv p q cs m H2 → vs.length = k → (∀ v ∈ vs, R H2 v) → Q vs H2) → ta σ H1 Q
def Stb (p : Addr) (R : Hp → V → Prop) : Prop := ∀ H H' v, But p H H' → R H v → R H' v
section
variable {p q : Addr} {cs : List Int} {te tr ta tb : TE} {ts : TA} {σ : L2.St} {n m l : Nat} {H : Hp} {k : Nat} {R Ra Rb : Hp → V → Prop}
theorem Dr.imp (h : Dr p q cs te σ n m H Ra) (f : ∀ H v, Ra H v → R H v) : Dr p q cs te σ n m H R := fun H1 b s Q q => h H1 b s Q fun v H2 b2 s2 r => q v H2 b2 s2 (f _ _ r)
theorem DrA.nil : DrA p q cs tNil σ n n H 0 R := fun H1 b s Q q => q [] H1 (But.refl _ _) s rfl (fun v hv => by cases hv)
theorem DrA.cons (st : Stb p R) (h : Dr p q cs te σ n m H R) (t : DrA p q cs ts σ m l H k R) : DrA p q cs (tCons te ts) σ n l H (k + 1) R := fun H1 b s Q q =>
  h H1 b s _ fun v H2 b2 s2 r => t H2 (b.trans b2) s2 _ fun vs H3 b3 s3 lv rs => q (v :: vs) H3 (b2.trans b3) s3 (by rw [List.length_cons, lv]) fun u hu => by
    rcases List.mem_cons.mp hu with e | e
    · subst e
      exact st _ _ _ b3 r
    · exact rs u e
theorem dr_c {v : V} (h : ∀ H1, But p H H1 → R H1 v) : Dr p q cs (tC v) σ n n H R := fun H1 b s Q q => q v H1 (But.refl _ _) s (h H1 b)
theorem dr_v {i : Nat} {v : V} (e : σ[i]? = some (some v)) (h : ∀ H1, But p H H1 → R H1 v) : Dr p q cs (tVar i) σ n n H R := fun H1 b s Q q => ⟨v, e, q v H1 (But.refl _ _) s (h H1 b)⟩
theorem sv_ne {H1 : Hp} {a : Addr} (s : Sv p q cs n H1) (h : H1 a = none) : a ≠ p := by
  obtain ⟨_, _, h1, _⟩ := s
  exact (ne_of_none h1 h).symm
theorem dr_lst (h : DrA p q cs ts σ n m H k Ra) (st : Stb p Ra) (hk : k ≤ 1000) (f : ∀ a xs H1, H1 a = some (.lst xs) → a ≠ p → xs.length = k → (∀ x ∈ xs, Ra H1 x) → R H1 (.ref a)) : Dr p q cs (tLst ts) σ n m H R := fun H1 b s Q q =>
  h H1 b s _ fun vs H2 b2 s2 lv rs => ⟨by rw [lv]; exact Nat.le_trans hk (by decide), fun a ha => q _ _ (b2.new ha) (s2.same (same_new ha)) (f a vs _ upd_same (sv_ne s2 ha) lv fun x hx => st _ _ _ (Same.but (same_new ha)) (rs x hx))⟩
theorem dr_tup (h : DrA p q cs ts σ n m H k Ra) (st : Stb p Ra) (hk : k ≤ 1000) (f : ∀ a xs H1, H1 a = some (.tup xs) → a ≠ p → xs.length = k → (∀ x ∈ xs, Ra H1 x) → R H1 (.ref a)) : Dr p q cs (tTup ts) σ n m H R := fun H1 b s Q q =>
  h H1 b s _ fun vs H2 b2 s2 lv rs => ⟨by rw [lv]; exact Nat.le_trans hk (by decide), fun a ha => q _ _ (b2.new ha) (s2.same (same_new ha)) (f a vs _ upd_same (sv_ne s2 ha) lv fun x hx => st _ _ _ (Same.but (same_new ha)) (rs x hx))⟩
theorem dr_op {r : R2} (st : Stb p Ra) (ha : Dr p q cs ta σ n m H Ra) (hb : Dr p q cs tb σ m l H Rb) (hr : ∀ x y H1, Ra H1 x → Rb H1 y → ∀ Q : VK, (∀ v, R H1 v → Q v H1) → r x y H1 Q) : Dr p q cs (tOp r ta tb) σ n l H R := fun H1 b s Q q =>
  ha H1 b s _ fun x H2 b2 s2 r1 => hb H2 (b.trans b2) s2 _ fun y H3 b3 s3 r2 => hr x y H3 (st _ _ _ b3 r1) r2 Q fun v rv => q v H3 (b2.trans b3) s3 rv
theorem dr_un {r : V → Hp → VK → Prop} (ha : Dr p q cs ta σ n m H Ra) (hr : ∀ x H1, Ra H1 x → ∀ Q : VK, (∀ v, R H1 v → Q v H1) → r x H1 Q) : Dr p q cs (tUn r ta) σ n m H R := fun H1 b s Q q =>
  ha H1 b s _ fun x H2 b2 s2 r1 => hr x H2 r1 Q fun v rv => q v H2 b2 s2 rv
theorem dr_cb {r : List V → Hp → VK → Prop} (ha : Dr p q cs ta σ n m H Ra) (hr : ∀ x H1, Ra H1 x → ∀ Q : VK, (∀ v, R H1 v → Q v H1) → r [x] H1 Q) : Dr p q cs (tCB r (tCons ta tNil)) σ n m H R := fun H1 b s Q q =>
  ha H1 b s _ fun x H2 b2 s2 r1 => hr x H2 r1 Q fun v rv => q v H2 b2 s2 rv
theorem dr_sift {tm : TE} {z : Int} {j : Nat} (e : σ[j]? = some (some (.ref p))) (hm : Dr p q cs tm σ n n H fun _ v => v = .int z) (h0 : 0 < z) (h1 : z < 1073741824) (hn : n ≤ 100000) (hc : cs.length ≤ 1000) :
    Dr p q cs (tCall spSift [] E0 (tCons (tVar j) (tCons tm tNil))) σ n (n + 1) H fun _ v => ∃ r, v = .int r ∧ 0 ≤ r ∧ r < z := fun H1 b s Q k =>
  ⟨_, e, hm H1 b s _ fun v H2 b2 s2 ev => by
    subst ev
    exact ⟨p, q, cs, n, z, rfl, h0, h1, hn, hc, s2, fun r H3 r0 r1 b3 s3 => k _ _ (b2.trans b3) s3 ⟨r, rfl, r0, r1⟩⟩⟩
theorem dr_one {tl : TE} {j : Nat} (e : σ[j]? = some (some (.ref p))) (hl : Dr p q cs tl σ n m H fun H1 v => ∃ a xs, v = .ref a ∧ H1 a = some (.lst xs) ∧ a ≠ p ∧ xs.length = k ∧ ∀ x ∈ xs, R H1 x) (st : Stb p R) (h0 : 0 < k) (h1 : k ≤ 1000) (hn : m ≤ 100000) (hc : cs.length ≤ 1000) :
    Dr p q cs (tCall spOne [] E0 (tCons (tVar j) (tCons tl tNil))) σ n (m + 1) H R := fun H1 b s Q f =>
  ⟨_, e, hl H1 b s _ fun v H2 b2 s2 ev => by
    obtain ⟨a, xs, rfl, ha, hap, hx, hr⟩ := ev
    exact ⟨p, q, cs, m, a, xs, rfl, ha, hap, by omega, by omega, hn, hc, s2, fun x H3 hx b3 s3 => f _ _ (b2.trans b3) s3 (st _ _ _ b3 (hr x hx))⟩⟩
/-- a list of such, as a value -/
theorem dr_lstR (h : DrA p q cs ts σ n m H k R) (st : Stb p R) (hk : k ≤ 1000) : Dr p q cs (tLst ts) σ n m H fun H1 v => ∃ a xs, v = .ref a ∧ H1 a = some (.lst xs) ∧ a ≠ p ∧ xs.length = k ∧ ∀ x ∈ xs, R H1 x :=
  dr_lst h st hk fun a xs H1 e n l r => ⟨a, xs, rfl, e, n, l, r⟩
theorem dr_set {u : TS} {D : Ends} {i : Nat} (h : Dr p q cs te σ n m H R) (s : Sv p q cs n H) (f : ∀ v H2, But p H H2 → Sv p q cs m H2 → R H2 v → u D (σ.set i (some v)) H2) : tSeq (tAsg te (gName i)) u D σ H :=
  h H (But.refl _ _) s _ f
theorem dr_ret {D : Ends} (h : Dr p q cs te σ n m H R) (s : Sv p q cs n H) (f : ∀ v H2, But p H H2 → Sv p q cs m H2 → R H2 v → D.rt v H2) : tRet te D σ H :=
  h H (But.refl _ _) s _ f
end
/-! ### a list against the empty one; what is walked, of one or another kind; the signs of a text -/
theorem op_eqNil {X : Cx} (hu : X.A.units < cLine) : OpR X (compareOp .Eq) (fun x y H Q => ∃ a b xs, x = .ref a ∧ y = .ref b ∧ H a = some (.lst xs) ∧ H b = some (.lst []) ∧ Q (.bl xs.isEmpty) H) := by
  intro pins s σ H x y v u Q I rx ry h
  obtain ⟨a, b, xs, rfl, rfl, ha, hb, q⟩ := h
  cases (show v = Value.ref a from rx)
  cases (show u = Value.ref b from ry)
  obtain ⟨its, rv, pa, _⟩ := I.list (SqL.of ha)
  obtain ⟨jts, rw_, pb, _⟩ := I.list (SqL.of hb)
  cases rw_
  have e := rv.length
  cases xs with
  | nil =>
    have e2 : its.toArray.size = ([] : List Value).toArray.size := by simpa using e.symm
    refine SeqAt.eq_listAt (e := fun _ => true) pa.isList pb.isList e2 hu (fun j h1 h2 => absurd h2 (by simp)) ?_
    refine ⟨.bl true, H, I, ?_, q⟩
    show Value.bool _ = Value.bool true
    congr 1
    simp
  | cons x xs =>
    refine SeqAt.eq_list_lengthsAt pa.isList pb.isList ?_ hu ⟨.bl false, H, I, rfl, q⟩
    have : its.length = xs.length + 1 := by rw [← e, List.length_cons]
    simp [this]
theorem pi_alt {X : Cx} {tg e : Expr} {w1 w2 : TI} (h1 : PI X tg e w1) (h2 : PI X tg e w2) : PI X tg e (fun σ H R => w1 σ H R ∨ w2 σ H R) :=
  ⟨fun pins s σ H R I h => h.elim (h1.run pins s σ H R I) (h2.run pins s σ H R I)⟩
theorem lc_str {z : Str} {g : TG} {tt : TT} {te : TE} {vs : List Nat} {σ : L2.St} {H1 : Hp} {D : Addr} {Qd : Hp → Prop} (Pv : Nat → Hp → Prop) (h0 : Pv 0 (upd H1 D (.lst [])))
    (hs : ∀ i c H, z.cps[i]? = some c → Pv i H → g (.str ⟨#[c]⟩) (wipe σ vs) H fun σ2 H2 => wipe σ2 vs = wipe σ vs ∧ tt σ2 H2 fun b H3 =>
      if b = true then te σ2 H3 fun y H4 => ∃ acc, H4 D = some (.lst acc) ∧ acc.length < sizeLine ∧ Pv (i + 1) (upd H4 D (.lst (acc ++ [y]))) else Pv (i + 1) H3) (hd : ∀ H, Pv z.cps.size H → Qd H) :
    ∃ W : Nat → Nat → Hp → Prop, (∃ m, W 0 m (upd H1 D (.lst []))) ∧ ∀ i m H, W i m H →
      ((Its z).stop i H ∧ Qd H) ∨ ((Its z).go i H ∧ ∃ Nx : Hp → Prop, (∀ H', Nx H' → ∃ m', m' < m ∧ W (i + 1) m' H') ∧ ∀ x H', (Its z).yld i H x H' → g x (wipe σ vs) H' fun σ2 H2 => wipe σ2 vs = wipe σ vs ∧ tt σ2 H2 fun b H3 =>
        if b = true then te σ2 H3 fun y H4 => ∃ acc, H4 D = some (.lst acc) ∧ acc.length < sizeLine ∧ Nx (upd H4 D (.lst (acc ++ [y]))) else Nx H3) := by
  refine ⟨fun i m H => m = z.cps.size - i ∧ i ≤ z.cps.size ∧ Pv i H, ⟨_, rfl, Nat.zero_le _, h0⟩, ?_⟩
  rintro i m H ⟨em, hi, pv_⟩
  subst em
  rcases Nat.lt_or_ge i z.cps.size with lt | ge
  · refine .inr ⟨lt, Pv (i + 1), fun H' pn => ⟨z.cps.size - (i + 1), by omega, rfl, lt, pn⟩, ?_⟩
    rintro x H' ⟨eH, c, hc, ex⟩
    subst eH
    subst ex
    exact hs i c _ hc pv_
  · have : i = z.cps.size := Nat.le_antisymm hi ge
    subst this
    exact .inl ⟨ge, hd _ pv_⟩
/-! ### a text of some signs alone -/
theorem str_empty {z : Str} : z = Str.ofString "" ↔ z.length = 0 := by
  constructor
  · intro h
    subst h
    decide
  · intro h
    obtain ⟨c⟩ := z
    have : c.size = 0 := h
    have e : c = #[] := Array.eq_empty_of_size_eq_zero this
    subst e
    rfl
theorem strip_none (goes : Nat → Bool) (z : Str) : decide (Txt.stripBy goes true true z = Str.ofString "") = z.cps.toList.all goes := by
  obtain ⟨l1, l2, l3⟩ := PyProof.Rows.lo_facts goes z
  obtain ⟨h1, h2, h3, h4⟩ := PyProof.Rows.hi_facts goes z _ l1
  rw [PyProof.Rows.stripBy_eq]
  generalize e1 : PySem.stripLo goes true z = lo at *
  generalize e2 : PySem.stripHi goes true z lo = hi at *
  have len : (Builtin.Str.strSub z lo hi).length = hi - lo := by
    simp only [Builtin.Str.strSub, Str.length, Array.size_extract]
    have : hi ≤ z.cps.size := h2
    omega
  have at_ : ∀ k, k < z.length → z.cps.getD k 0 ∈ z.cps.toList := fun k hk => by
    have hk' : k < z.cps.size := hk
    rw [Array.getD, dif_pos hk']
    exact Array.getElem_mem_toList hk'
  rw [Bool.eq_iff_iff, decide_eq_true_iff, str_empty, len, List.all_eq_true]
  constructor
  · intro e c hc
    obtain ⟨k, hk, rfl⟩ := List.getElem_of_mem hc
    have hk' : k < z.length := by simpa [Str.length] using hk
    have g : goes (z.cps.getD k 0) = true := by
      rcases Nat.lt_or_ge k lo with h | h
      · exact l2 k h
      · exact h3 k (by omega) hk'
    rw [← PyProof.Rows.getD_list] at g
    have e3 : z.cps.toList.getD k 0 = z.cps.toList[k] := by
      rw [List.getD, List.getElem?_eq_getElem hk]
      rfl
    rw [e3] at g
    exact g
  · intro all
    rcases l3 with e | e
    · omega
    · rcases Nat.lt_or_ge lo z.length with h | h
      · rw [all _ (at_ lo h)] at e
        cases e
      · omega
/-- an expression's reading, said in other words -/
theorem pe_imp {X : Cx} {e : Expr} {t t' : TE} (h : PE X e t) (i : ∀ σ H Q, t' σ H Q → t σ H Q) : PE X e t' := ⟨fun pins s σ H Q I q => h.run pins s σ H Q I (i _ _ _ q)⟩
theorem sign0 (c : Nat) : decide (V.str ⟨#[c]⟩ = V.str (Str.ofString "0")) = decide (c = 48) := by
  have : Str.ofString "0" = ⟨#[48]⟩ := by decide
  rw [this]
  simp
theorem sign1 (c : Nat) : decide (V.str ⟨#[c]⟩ = V.str (Str.ofString "1")) = decide (c = 49) := by
  have : Str.ofString "1" = ⟨#[49]⟩ := by decide
  rw [this]
  simp
def badC (c : Nat) : Bool := !decide (c = 48) && !decide (c = 49)
theorem all_signs (l : List Nat) : (l.filter badC).isEmpty = l.all (Str.ofString "01").cps.contains := by
  have e : (Str.ofString "01").cps = #[48, 49] := by decide
  rw [e]
  induction l with
  | nil => rfl
  | cons c l ih =>
    rw [List.all_cons, ← ih, List.filter_cons]
    by_cases h1 : c = 48
    · subst h1; simp [badC]
    · by_cases h2 : c = 49
      · subst h2; simp [badC]
      · simp [badC, h1, h2]
theorem signs_all (z : Str) : decide (Txt.stripChars z (Str.ofString "01") = Str.ofString "") = (z.cps.toList.filter badC).isEmpty := by
  unfold Txt.stripChars
  rw [strip_none, all_signs]
theorem take_filter_no {α β : Type} {xs : List α} {i : Nat} {x : α} {b : α → Bool} (f : α → β) (h : xs[i]? = some x) (hb : b x = false) : ((xs.take (i + 1)).filter b).map f = ((xs.take i).filter b).map f := by
  rw [List.take_succ, h, List.filter_append]
  simp [hb]
theorem take_filter_yes {α β : Type} {xs : List α} {i : Nat} {x : α} {b : α → Bool} (f : α → β) (h : xs[i]? = some x) (hb : b x = true) : ((xs.take (i + 1)).filter b).map f = ((xs.take i).filter b).map f ++ [f x] := by
  rw [List.take_succ, h, List.filter_append]
  simp [hb]
theorem filter_not_empty {α : Type} (xs : List α) (b : α → Bool) : (xs.filter fun x => !b x).isEmpty = xs.all b := by
  induction xs with
  | nil => rfl
  | cons x xs ih =>
    rw [List.all_cons, List.filter_cons, ← ih]
    cases b x <;> simp
theorem seq_set {te : TE} {u : TS} {D : Ends} {i : Nat} {σ : L2.St} {H : Hp} (h : te σ H fun v H1 => u D (σ.set i (some v)) H1) : tSeq (tAsg te (gName i)) u D σ H := h
theorem dr_par {p q : Addr} {cs : List Int} {ts : TA} {σ : L2.St} {n m : Nat} {H : Hp} {R : Hp → V → Prop} {u : TS} {D : Ends} {i j : Nat} (h : DrA p q cs ts σ n m H 2 R) (s : Sv p q cs n H)
    (f : ∀ v w H2, But p H H2 → Sv p q cs m H2 → R H2 v → R H2 w → u D ((σ.set i (some v)).set j (some w)) H2) : tSeq (tPar i j ts) u D σ H := by
  refine h H (But.refl _ _) s _ ?_
  intro vs H2 b sv len r
  match vs, len with
  | [v, w], _ => exact ⟨v, w, rfl, f v w H2 b sv (r v (by simp)) (r w (by simp))⟩
/-- four truths as data -/
def D4 (a b c d : Bool) : PyData := .list [.bool a, .bool b, .bool c, .bool d]
theorem d4_dp {K : PySem.W.Frag} {H : Hp} {p : Addr} {a b c d : Bool} (h : H p = some (.lst [.bl a, .bl b, .bl c, .bl d])) : Dp K H (.ref p) (D4 a b c d) :=
  .lst (SqL.of h) (.cons (.bl a) (.cons (.bl b) (.cons (.bl c) (.cons (.bl d) .nil))))
theorem d4_show : ∀ a b c d : Bool, (D4 a b c d).showable = true ∧ (D4 a b c d).hasDict = false ∧ (D4 a b c d).depth ≤ 60 ∧ (D4 a b c d).shown.length ≤ sizeLine ∧ SeqAt.shaped (D4 a b c d) = true ∧ PyData.eqv (D4 a b c d) (D4 a b c d) = true := by decide +kernel
theorem vals_rev : ∀ {zs : List V} {ws : List Value}, Vals zs ws → Vals zs.reverse ws.reverse
  | _, _, .nil => .nil
  | _, _, .cons r t => by
    rw [List.reverse_cons, List.reverse_cons]
    exact (vals_rev t).append (.cons r .nil)
theorem yes_if {σ : L2.St} {H : Hp} {A B : Hp → Prop} (h : A H) : tYes σ H fun b H3 => if b = true then A H3 else B H3 := by
  show if true = true then A H else B H
  rw [if_pos rfl]
  exact h
theorem But.mut {p D : Addr} {H H' : Hp} {o : HO} (b : But p H H') (h : H D = none) : But p H (L2.upd H' D o) := fun c u n e => by
  rw [upd_ne (ne_of_none e h)]
  exact b c u n e
theorem Sv.but_upd {p q D : Addr} {cs : List Int} {n m : Nat} {H H0 : Hp} {o : HO} (s : Sv p q cs n H) (hD : D ≠ p) (h0 : H0 D = none) (s0 : Sv p q cs m H0) : Sv p q cs n (L2.upd H D o) := by
  obtain ⟨a, r, h1, h2, h3⟩ := s
  obtain ⟨_, _, _, q0, _⟩ := s0
  have hq : q ≠ D := fun e => by
    rw [e, h0] at q0
    cases q0
  exact ⟨a, r, by rw [upd_ne hD.symm]; exact h1, by rw [upd_ne hq]; exact h2, h3⟩
def IsV (u : V) : Hp → V → Prop := fun _ v => v = u
theorem IsV.stb {u : V} {p : Addr} : Stb p (IsV u) := fun _ _ _ _ h => h
section
variable {p q : Addr} {cs : List Int} {σ : L2.St} {n m l : Nat} {H : Hp}
theorem dr_pow {a b : Int} (h : CPow a b) : Dr p q cs (tOp (rI CPow fun i j => .int (i ^ j.toNat)) (tC (.int a)) (tC (.int b))) σ n n H (IsV (.int (a ^ b.toNat))) :=
  dr_op IsV.stb (dr_c (R := IsV (.int a)) fun _ _ => rfl) (dr_c (R := IsV (.int b)) fun _ _ => rfl) fun x y H1 rx ry Q q => ⟨a, b, rx, ry, h, q _ rfl⟩
theorem dr_neg {a : Int} : Dr p q cs (tUn (rU fun i => .int (-i)) (tC (.int a))) σ n n H (IsV (.int (-a))) :=
  dr_un (dr_c (R := IsV (.int a)) fun _ _ => rfl) fun x H1 rx Q q => ⟨a, rx, q _ rfl⟩
theorem dr_addI {ta tb : TE} {a b : Int} (ha : Dr p q cs ta σ n m H (IsV (.int a))) (hb : Dr p q cs tb σ m l H (IsV (.int b))) : Dr p q cs (tOp (rI0 fun i j => .int (i + j)) ta tb) σ n l H (IsV (.int (a + b))) :=
  dr_op IsV.stb ha hb fun x y H1 rx ry Q q => ⟨a, b, rx, ry, q _ rfl⟩
end
end Own
set_option Elab.async false
set_option linter.all false
set_option maxRecDepth 100000
set_option maxHeartbeats 4000000
namespace Own
open PySem PySem.Spec PyProof.Rows L2
theorem law_callG {P : Program} {w : World} {K : PySem.W.Frag} {mg mb : Str → Option Value} {k : Nat} {fa a : Addr} {fd : FuncData} {x : Str} {sp : Sp} {s₁ : Shared} {vs : List Value} {ns : List Int}
    (inK : K.In s₁.heap) (top : s₁.heap.Ns mainGlobals mg) (bi : s₁.heap.Ns builtinsNs mb) (bt : ∀ x : Str, x ≠ "__name__" → mb x = bootBuiltins x) (lim : s₁.heap.NoLimit) (bare : s₁.gens = #[])
    (at_ : s₁.heap.get? a = some { cls := .type "list", data := .seq vs.toArray }) (iv : IntsAre vs ns) (small : ns.length ≤ sizeLine) (room : Room k callerA)
    (F : ∀ base : Heap, K.In base → base.Ns mainGlobals mg → FnG P w K mg base CX0 k fa fd [x] sp) (bnd : ∀ (s : Shared) (u : Value), BindsTo s fd ⟨[u], []⟩ [(x, u)])
    (say : ∀ H : Hp, Only H → SqL K H a (ns.map V.int) → sp [.ref a] H (fun v _ => v = .bl true) fun _ _ _ => False) :
    codeAny (model P w) callerA (.call (.ref fa) ⟨[.ref a], []⟩) (fun r s' => r = .ok (.ret (.bool true)) ∧ OldK s₁.heap s'.heap ∧ s'.os = s₁.os ∧ AllBare s'.gens) s₁ := by
  have rv := vals_ints iv
  have lenV := iv.length
  have main : ∀ H : Hp, Only H → SqL K H a (ns.map V.int) → HOk P w H s₁.heap → (∀ b, H b ≠ none → b = a) → (H a ≠ none → K.lookup a = none) →
      codeAny (model P w) callerA (.call (.ref fa) ⟨[.ref a], []⟩) (fun r s' => r = .ok (.ret (.bool true)) ∧ OldK s₁.heap s'.heap ∧ s'.os = s₁.os ∧ AllBare s'.gens) s₁ := by
    intro H only sq hok just free
    have notA : ∀ {b : Addr} {o : Obj} {es : Array DictEntry} {ep : Nat}, s₁.heap.get? b = some o → o.data = .dict es ep → H b = none := by
      intro b o es ep e d
      by_cases q : H b = none
      · exact q
      · cases just b q
        rw [at_] at e
        cases e
        cases (show Data.seq vs.toArray _ = Data.dict es ep from d)
    have ns_ : ∀ {b : Addr} {m : Str → Option Value}, s₁.heap.Ns b m → (hidT s₁.heap H).Ns b m := by
      rintro b m ⟨o, es, ep, e, d, r⟩
      exact ⟨o, es, ep, hidT_get e (notA e d), d, r⟩
    have k_ : K.In (hidT s₁.heap H) := by
      intro b o e
      refine hidT_get (inK b o e) ?_
      by_cases q : H b = none
      · exact q
      · cases just b q
        rw [free q] at e
        cases e
    obtain ⟨mc, l1, l2⟩ := lim
    have M : Mod K mg (hidT s₁.heap H) := ⟨k_, ns_ top, ⟨mb, ns_ bi, bt⟩, ⟨mc, ns_ l1, l2⟩⟩
    have E0 : Env0 P w K mg (hidT s₁.heap H) callerA [] s₁ H :=
      ⟨rfl, M, fun b o e => of_hidT e, Nat.le_of_eq (hidT_size _ _), trivial, fun b hb => (List.not_mem_nil (show b ∈ ([] : List Addr) from hb)).elim, hok, .of_eq bare⟩
    refine codeAny_mono ((F _ k_ (ns_ top)).run callerA [] s₁ H ⟨[.ref a], []⟩ [.ref a] [.ref a] _ _ room rfl E0 (bnd s₁ (.ref a)) (.cons rfl .nil) (say H only sq)) ?_
    intro r s' h
    match r, h with
    | .error e, h => exact h.elim
    | .ok .next, h => exact h.elim
    | .ok .brk, h => exact h.elim
    | .ok .cont, h => exact h.elim
    | .ok (.ret u), h =>
      obtain ⟨v, G, os, br, un, hk2, r1, q⟩ := h
      cases (show v = V.bl true from q)
      cases (show u = Value.bool true from r1)
      refine ⟨rfl, OldK.of_keep ?_, os, br⟩
      intro b o e
      by_cases q : H b = none
      · exact un.keep b o e q (fun z => (List.not_mem_nil (show b ∈ ([] : List Addr) from z)).elim) (by simp)
      · rcases only b with z | ⟨ob, xs, z⟩
        · exact (q z).elim
        · have y1 := (hok b _ z).1
          have y2 := (hk2 b _ (un.frzs b ob _ z)).1
          rw [e] at y1
          cases y1
          exact y2
  have sz : (ns.map V.int).length ≤ sizeLine := by rw [List.length_map]; exact small
  by_cases hk : K.lookup a = none
  · have T : ∀ b u, (fun b => if b = a then some (HO.frz { cls := .type "list", data := .seq vs.toArray } (.lst (ns.map V.int))) else none) b = some u →
        b = a ∧ u = .frz { cls := .type "list", data := .seq vs.toArray } (.lst (ns.map V.int)) := by
      intro b u z
      by_cases hb : b = a
      · exact ⟨hb, (Option.some.inj ((if_pos hb).symm.trans z)).symm⟩
      · cases (if_neg hb).symm.trans z
    refine main (fun b => if b = a then some (HO.frz { cls := .type "list", data := .seq vs.toArray } (.lst (ns.map V.int))) else none) (fun b => ?_) (.inl (.inr ⟨_, if_pos rfl⟩)) (fun b u z => ?_) (fun b z => ?_) fun _ => hk
    · by_cases hb : b = a
      · exact .inr ⟨_, _, if_pos hb⟩
      · exact .inl (if_neg hb)
    · obtain ⟨rfl, rfl⟩ := T b u z
      exact ⟨at_, sz, vs, _, rv, at_⟩
    · by_cases hb : b = a
      · exact hb
      · exact (z (if_neg hb)).elim
  · obtain ⟨o, ho⟩ := Option.ne_none_iff_exists'.mp hk
    have e := inK a o ho
    rw [at_] at e
    cases e
    exact main (fun _ => none) (fun _ => .inl rfl) (.inr ⟨_, vs.toArray, _, ho, rfl, rfl, rfl, by rw [List.size_toArray, lenV]; exact small, by simpa using rv⟩)
      (fun b u z => by cases (show (none : Option HO) = some u from z)) (fun b z => (z rfl).elim) (fun z => (z rfl).elim)
theorem walk_ofG {l : PySem.W.OpenLaw} {n k : Nat} {q : Program} {loose : List Str} {XP : (Str → Option Value) → Heap → Prop} {YP : World → Heap → Prop} {d : DefRec} {K : Params → PySem.W.Frag} {sp : PySem.W.Frag → Sp} {x : Str}
    (hn : l.most = some n) (hn2 : n ≤ sizeLine) (hdf : d.params.defaults = []) (room : Room k callerA) (hY : ∀ (w : World) (h : Heap), YP w h → (K w.params).In h)
    (F : ∀ (w : World) (mg : Str → Option Value) (fa : Addr) (h : Heap), (K w.params).In h → h.Ns mainGlobals mg → mg d.name = some (.ref fa) →
      ∃ fd : FuncData, (∀ (s : Shared) (u : Value), BindsTo s fd ⟨[u], []⟩ [(x, u)]) ∧
        ∀ base : Heap, (K w.params).In base → base.Ns mainGlobals mg → FnG l.prog w (K w.params) mg base CX0 k fa fd [x] (sp (K w.params)))
    (say : ∀ (K : PySem.W.Frag) (H : Hp) (a : Addr) (ns : List Int), ns.length ≤ n → (∀ z ∈ ns, Builtin.Int.intBits z ≤ 1048576) → Only H → SqL K H a (ns.map V.int) → sp K [.ref a] H (fun v _ => v = .bl true) fun _ _ _ => False) :
    PySem.W.WalkO q loose XP YP l.row.toRowW d [] (fun f vs => PySem.call f vs) := by
  refine Att.attach_callB hn hdf ?_
  intro w s₀ s₁ mg mb fa o pm cd doc a vs ns G Y ho hd hcd hmg hobj iv hlen hbits hg
  have inK := hY w _ Y
  obtain ⟨fd, hb, hF⟩ := F w mg fa _ inK G.T.g hmg
  exact law_callG inK G.T.g G.T.b G.T.builtins G.T.nolimit hg hobj iv (Nat.le_trans hlen hn2) room hF hb (fun H only sq => say _ H a ns hlen hbits only sq)
end Own
set_option Elab.async false
set_option linter.all false
set_option maxRecDepth 100000
set_option maxHeartbeats 4000000
/-! Exceptions of own classes as values: made by place and by name, their fields, what they are. -/
namespace PySem
namespace HandSPX
open PySem.W PySem.Calls PyProof.Rows
section
variable {prog : Program} {w : World} {A : Around} {E : Value → Shared → Prop} {R : Result → Shared → Prop} {h : Heap} {g : Array GenState} {d : Drawn} {t : Nat} {os : OsState} {M : Model}
variable {nm q : Str} {C N : Addr} {bs bm bmB : List Value} {hdct : Bool} {sn : List Str} {sub : List Value} {ab : Bool} {col : Option Bool} {dd : Option Addr} {k0 k1 k2 k3 k5 : Option Value} {B newId initId : String}
theorem own_check_new_kw (F : ExcBaseFacts B newId initId bmB) (hT : ∀ X : String, bm.contains (.type X) = bmB.contains (.type X)) {rest : List Value} {kw : List (Str × Value)} {Q : Unit → Shared → Prop}
    (oC : h.get? C = some (excClassObj nm q C N bs bm hdct sn sub ab col dd k0 k1 k2 k3 k5 newId)) (fin : Q () ⟨h, g, d, t, os⟩) : wpAny M A (checkBuiltinCall newId ⟨.ref C :: rest, kw⟩) Q E ⟨h, g, d, t, os⟩ := by
  have inB : (Value.ref C :: bm).contains (.type B) = true := by
    rw [List.contains_cons, hT, F.hasB]
    exact Bool.or_true _
  have st := F.noStar
  simp only [checkBuiltinCall, F.newKind, F.newSplit, F.newRow]
  repeat (first
    | refine wpAny_loadPart_at oC ?_
    | (refine wpAny_isSubtype_exc oC ?_; rw [inB])
    | refine wpAny_staticBase_exc oC ?_
    | refine wpAny_madeBy_exc oC ?_
    | simp only [bne_self_eq_false, Bool.false_eq_true, if_false]
    | wp_step)
  exact fin
theorem own_new_kw (F : ExcBaseFacts B newId initId bmB) (hT : ∀ X : String, bm.contains (.type X) = bmB.contains (.type X)) {rest : List Value} {kw : List (Str × Value)}
    (oC : h.get? C = some (excClassObj nm q C N bs bm hdct sn sub ab col dd k0 k1 k2 k3 k5 newId))
    (fin : R (.ok (.ret (.ref (h.objs.size + 1)))) ⟨(h.push (W.kdv_tup rest)).push (excO C h.objs.size), g, d, t, os⟩) (few : rest.length ≤ sizeLine) :
    codeAny (model prog w) A (.builtin newId ⟨.ref C :: rest, kw⟩) R ⟨h, g, d, t, os⟩ := by
  have e0 := F.ends
  have inB : (Value.ref C :: bm).contains (.type B) = true := by
    rw [List.contains_cons, hT, F.hasB]
    exact Bool.or_true _
  have inA : (Value.ref C :: bm).contains (.type "AttributeError") = false := by
    rw [List.contains_cons, hT, F.noAttr]
    rfl
  have inN : (Value.ref C :: bm).contains (.type "NameError") = false := by
    rw [List.contains_cons, hT, F.noName]
    rfl
  refine codeAny_builtinAt F.entry ?_
  unfold Builtin.«BaseException.__new__»
  refine wpAt_bind ?_
  show wpAt _ _ _ (stack >>= _) _ _ _
  refine wpAt_bind (wpAt_stack fun p below => wpAt_of_wpAny ?_)
  wp_walk
  refine wpAt_of_wpAny ?_
  rw [F.owner]
  repeat (first
    | with_reducible refine wpAny_madeHere_exc F.canon oC ?_
    | with_reducible refine wpAny_loadPart_at oC ?_
    | (with_reducible refine wpAny_isSubtype_exc oC ?_; first | rw [inB] | rw [inA] | rw [inN])
    | wp_step)
  show R _ _
  rw [Heap.size_push]
  exact fin
theorem own_type_call_kw (F : ExcBaseFacts B newId initId bmB) (hT : ∀ X : String, bm.contains (.type X) = bmB.contains (.type X)) {rest : List Value} {kw : List (Str × Value)} {fI : Addr} {Q : Fin → Shared → Prop}
    (oC : h.get? C = some (excClassObj nm q C N bs bm hdct sn sub ab col dd k0 k1 k2 k3 k5 newId))
    (li : W.Looks (model prog w) h (typeLookup (.ref C) "__init__") (some (.ref fI))) (lb : ∀ self, W.Looks (model prog w) h (bindSpecial (.ref fI) self) (.ref fI, [self])) (few : rest.length ≤ sizeLine)
    (run : codeAny (model prog w) A (.call (.ref fI) ⟨.ref (h.objs.size + 1) :: rest, kw⟩)
      (fun r s' => match r with | .ok (.ret v) => v = .none ∧ Q (.done (.ret (.ref (h.objs.size + 1)))) s' | .ok _ => False | .error e => E e s')
      ⟨(h.push (W.kdv_tup rest)).push (excO C h.objs.size), g, d, t, os⟩) :
    wpAny (model prog w) A (Builtin.«type.__call__» ⟨.ref C :: rest, kw⟩) Q E ⟨h, g, d, t, os⟩ := by
  repeat (first
    | with_reducible refine wpAny_loadPart_at oC ?_
    | with_reducible refine wpAny_madeBy_exc oC ?_
    | wp_step)
  refine codeAny_call_builtin_code (Code.quiet_builtin _ F.quiet) (own_check_new_kw F hT oC ?_)
  refine own_new_kw F hT oC ?_ few
  show wpAny _ _ _ _ _ _
  have kp : ∀ b o, h.get? b = some o → ((h.push (W.kdv_tup rest)).push (excO C h.objs.size)).get? b = some o := fun b o e => Heap.get?_push_of_some _ (Heap.get?_push_of_some _ e)
  have oC1 := kp _ _ oC
  have oE : ((h.push (W.kdv_tup rest)).push (excO C h.objs.size)).get? (h.objs.size + 1) = some (excO C h.objs.size) := by heap_get
  have inC : (Value.ref C :: bm).contains (.ref C) = true := by simp
  have l1 := li.keeps kp
  have l2 := (lb (.ref (h.objs.size + 1))).keeps kp
  unfold isInstance
  repeat (first
    | with_reducible refine wpAny_loadPart_at oE ?_
    | (with_reducible refine wpAny_isSubtype_exc oC1 ?_; rw [inC])
    | wp_step)
  show wpAny _ _ (typeLookup (.ref C) _) _ _ _
  refine l1.at ?_
  refine wpAny_holding (wpAny_bind (l2.at ?_))
  refine wpAny_bind (wpAny_call (codeAny_mono run fun r s' z => ?_))
  rcases r with e | (v | _ | _ | _) <;> first | exact z | exact z.elim | skip
  obtain ⟨rfl, z⟩ := z
  first
    | exact wpAny_pure (wpAny_pure z)
    | (wp_walk; exact z)
theorem own_call_kw (F : ExcBaseFacts B newId initId bmB) (hT : ∀ X : String, bm.contains (.type X) = bmB.contains (.type X)) {rest : List Value} {kw : List (Str × Value)} {fI : Addr}
    (oC : h.get? C = some (excClassObj nm q C N bs bm hdct sn sub ab col dd k0 k1 k2 k3 k5 newId))
    (li : W.Looks (model prog w) h (typeLookup (.ref C) "__init__") (some (.ref fI))) (lb : ∀ self, W.Looks (model prog w) h (bindSpecial (.ref fI) self) (.ref fI, [self])) (few : rest.length ≤ sizeLine)
    (run : codeAny (model prog w) (A.under (.builtin "type.__call__" ⟨.ref C :: rest, kw⟩)) (.call (.ref fI) ⟨.ref (h.objs.size + 1) :: rest, kw⟩) (W.InitBack (h.objs.size + 1) R)
      ⟨(h.push (W.kdv_tup rest)).push (excO C h.objs.size), g, d, t, os⟩) :
    codeAny (model prog w) A (.call (.ref C) ⟨rest, kw⟩) R ⟨h, g, d, t, os⟩ := by
  have f1 := tc_lookup
  have f2 := tc_bind (.ref C)
  have ty : (⟨h, g, d, t, os⟩ : Shared).TypeIs (.ref C) "type" := ⟨_, oC, rfl⟩
  refine codeAny_of_tree ?_
  show wpAny _ _ (callAny (.ref C) _) _ _ _
  repeat (any_goals (first | assumption | with_reducible refine wpAny_loadPart_at oC ?_ | wp_step))
  refine ⟨rfl, ?_⟩
  refine codeAny_call_builtin_at (Code.quiet_builtin _ (by decide +kernel)) entry_typeCall (wpAny_check_type_call_sub oC (own_type_call_kw F hT oC li lb few ?_))
  refine codeAny_mono run fun r s' z => ?_
  rcases r with e | (v | _ | _ | _) <;> exact z
end
end HandSPX
end PySem

set_option Elab.async false
set_option linter.all false
set_option maxRecDepth 100000
set_option maxHeartbeats 4000000

namespace Own
open PySem PySem.Spec PyProof.Rows L2
/-- what the written part says of an exception class of the program's own -/
structure ExC (K : PySem.W.Frag) (C : Addr) : Prop where
  o : OexC K C
  ga : PySem.W.findIn K (.ref C) "__getattribute__" = some (some (.builtin "BaseException.__getattribute__"))
  gg : PySem.W.findIn K (.ref C) "__getattr__" = some none
  hd : PySem.W.hasDictIn K C = true
  cA : PySem.W.findIn K (.ref C) "__class__" = some (some (.builtin "object.__class__"))
  cg : PySem.W.specialIn K (.builtin "object.__class__") "__get__" = some (some (.builtin "getset_descriptor.__get__"))
  ct : PySem.W.takesIn K (.builtin "object.__class__") = some true
  cm : PySem.W.mroIn K C (.type "object") = some true
/-- an exception that was caught and is held, of the class cls, its own dict at d -/
def exv (cls : Value) (d : Option Addr) (a : Addr) : HO := .ext fun h => ∃ (oe : Obj) (vs : Array Value), h.get? a = some oe ∧ Zc cls d oe ∧ oe.data = .fields vs
/-- at a an exception of the class at C, its fields fs (in the dict at d) -/
def ExAt (H : Hp) (a C d : Addr) (fs : List (Str × V)) : Prop := (H a = some (exo a C (some d)) ∨ H a = some (exv (.ref C) (some d) a)) ∧ (H d = some (exd d fs) ∨ H d = some (.xd fs))
theorem ExAt.mono {H H' : Hp} {a C d : Addr} {fs : List (Str × V)} (s : Same H H') (h : ExAt H a C d fs) : ExAt H' a C d fs :=
  ⟨h.1.imp (s _ _) (s _ _), h.2.imp (s _ _) (s _ _)⟩
section
variable {X : Cx} {pins : List (Addr × Obj)} {σ : L2.St} {H : Hp} {s : Shared}
theorem ExAt.inst {a C d : Addr} {fs : List (Str × V)} (I : Inv X pins σ H s) (h : ExAt H a C d fs) :
    ∃ (oe od : Obj), PySem.W.InstAt s.heap a oe C (some od) ∧ ∃ mA : Str → Option Value, (∀ name, PySem.W.lookIn name od = some (mA name)) ∧ ∀ f, RelO (fs.lookup f) (mA f) := by
  obtain ⟨h1, h2⟩ := h
  obtain ⟨mA, hn, rel⟩ : ∃ mA, s.heap.Ns1 d mA ∧ ∀ f, RelO (fs.lookup f) (mA f) := by
    rcases h2 with h2 | h2
    · exact exd_at I.hok h2
    · exact I.hok d _ h2
  obtain ⟨od, ho, hl⟩ := lookIn_ns hn
  obtain ⟨oe, vs, he, hz, hdt⟩ : ∃ (oe : Obj) (vs : Array Value), s.heap.get? a = some oe ∧ Zc (.ref C) (some d) oe ∧ oe.data = .fields vs := by
    rcases h1 with h1 | h1
    · obtain ⟨t1, e⟩ := exo_at I.hok h1
      exact ⟨_, _, e, ⟨rfl, rfl⟩, rfl⟩
    · obtain ⟨q, _, _⟩ := (show ObjOk X.prog X.w H s.heap a (exv (.ref C) (some d) a) from I.hok a _ h1)
      exact q
  refine ⟨oe, od, ⟨he, hz.1, ?_, ?_⟩, mA, hl, rel⟩
  · unfold PySem.W.notCls
    rw [hdt]
  · rw [hz.2]
    exact ho
end
/-- isinstance(e, c) -/
def rIsX (K : PySem.W.Frag) : List V → Hp → VK → Prop := fun xs H Q => ∃ (a C d : Addr) (fs : List (Str × V)) (c : V) (cv : Value) (b : Bool), xs = [.ref a, c] ∧ ExC K C ∧ ExAt H a C d fs ∧ ClsV c cv ∧ PySem.W.kitOne K (.ref C) cv = some b ∧ Q (.bl b) H
theorem call_isX {X : Cx} : CallR X (.builtin "isinstance") (rIsX X.K) := by
  intro pins s σ H xs us Q I r h
  obtain ⟨a, C, d, fs, c, cv, b, rfl, T, he, hc, hk, q⟩ := h
  match us, r with
  | [u1, u2], .cons r1 (.cons r2 .nil) =>
    cases (show u1 = Value.ref a from r1)
    cases hc.eq r2
    obtain ⟨oe, od, J, _⟩ := he.inst I
    have cl : (PySem.W.clsIn X.K C).isSome = true := by
      obtain ⟨cd, z, _⟩ := PySem.W.any_some T.hd
      rw [z]
      rfl
    exact PySem.W.kia_one (PySem.W.kitx_exc (od := some od) cl T.ga T.gg T.o.exC T.cA T.cg T.ct T.cm) I.kIn J hk (fun z => nomatch z) fun tk => ⟨.bl b, H, I.kept (t' := tk) fun _ _ z => z, rfl, q⟩
/-- e.f -/
def tExF (K : PySem.W.Frag) (f : Str) (te : TE) : TE := fun σ H Q => te σ H fun x H1 => ∃ (a C d : Addr) (fs : List (Str × V)) (v : V), x = .ref a ∧ ExC K C ∧ PySem.W.findIn K (.ref C) f = some none ∧ ExAt H1 a C d fs ∧ fs.lookup f = some v ∧ Q v H1
theorem pe_exf {X : Cx} {e : Expr} {f : Str} {te : TE} {pos : Pos} (he : PE X e te) (hb : attributeBase e f X.env (eval e X.env) = eval e X.env := by rfl) : PE X (.Attribute e f pos) (tExF X.K f te) := by
  constructor
  intro pins s σ H Q I h
  refine attr_of hb (thn (he.run pins s σ H _ I h) ?_)
  rintro u s1 ⟨x, H1, I1, rx, a, C, d, fs, v, rfl, T, no, ea, l, q⟩
  cases (show u = Value.ref a from rx)
  obtain ⟨oe, od, J, mA, hl, rel⟩ := ea.inst I1
  obtain ⟨y, hy, ry⟩ := RelO.some_of (v := v) (o := mA f) (by rw [← l]; exact rel f)
  exact HandSPX.exc_get I1.kIn J T.ga T.gg T.o.exC (PySem.W.findObj_own T.hd no rfl (by rw [hl, hy])) (handed_of ry) ⟨v, H1, I1.tok _, ry, q⟩
section
variable {X : Cx} {CX : CXT} {k n : Nat} {fI C : Addr} {fd : FuncData} {ps ks : List Str} {sp : Sp} {x : Str} {p pos : Pos} {e : Expr} {es : List Expr} {kws : List Keyword} {t tk : TA} {g : List Value → List Value → List Value} {gV : List V → List V → List V}
theorem run_exn {pins : List (Addr × Obj)} {σ : L2.St} {H : Hp} {s : Shared} {Q : VK} {us ws : List Value} {vs zs : List V} (T : OexC X.K C) (iC : PySem.W.findIn X.K (.ref C) "__init__" = some (some (.ref fI)))
    (tI : PySem.W.typeIn X.K (.ref fI) = some (.type "function")) (G0 : FnOk X.prog X.w X.K X.mg X.base CX k fI fd ps sp) (room : Room (k + 1) X.A) (hb : KBn X.K fd ps (n + 1) ks g gV) (hx : Passes CX X (fun _ _ _ => False))
    (I : Inv X pins σ H s) (r : Vals vs us) (rz : Vals zs ws) (l1 : vs.length = n) (l2 : zs.length = ks.length) (few : n ≤ 1000)
    (h : ∀ a, H a = none → sp (gV (.ref a :: vs) zs) (upd H a (exo a C none)) (fun v H2 => v = .non ∧ Q (.ref a) H2) (fun _ _ _ => False)) :
    wpAny (model X.prog X.w) X.A (call (.ref C) us (ks.zip ws)) (EP X pins σ Q) X.xe s := by
  obtain ⟨nm, q, N, bs, bm, sn, sub, ab, col, dd, k0, k1, k2, k3, k5, hC, hbm⟩ := T.cls
  obtain ⟨hp, gs, dr, tk, os⟩ := s
  have le : hp.objs.size ≤ hp.objs.size + 1 := Nat.le_succ _
  have want := h (hp.objs.size + 1) (I.hok.fresh le)
  have kp : ∀ b o, hp.get? b = some o → ((hp.push (PySem.W.kdv_tup us)).push (PySem.HandSPX.excO C hp.objs.size)).get? b = some o := fun b o z => Heap.get?_push_of_some _ (Heap.get?_push_of_some _ z)
  have at_ : ((hp.push (PySem.W.kdv_tup us)).push (PySem.HandSPX.excO C hp.objs.size)).get? (hp.objs.size + 1) = some (PySem.HandSPX.excO C hp.objs.size) := by heap_get
  have J : Inv X pins σ (upd H (hp.objs.size + 1) (exo (hp.objs.size + 1) C none)) ⟨(hp.push (PySem.W.kdv_tup us)).push (PySem.HandSPX.excO C hp.objs.size), gs, dr, tk, os⟩ :=
    I.laid (t' := tk) (h' := (hp.push (PySem.W.kdv_tup us)).push (PySem.HandSPX.excO C hp.objs.size)) kp le (exo_ok at_)
  have r1 : Vals (V.ref (hp.objs.size + 1) :: vs) (Value.ref (hp.objs.size + 1) :: us) := .cons rfl r
  have r2 := hb.rel r1 rz
  have n1 : (Value.ref (hp.objs.size + 1) :: us).length = n + 1 := r1.length.symm.trans (congrArg Nat.succ l1)
  have n2 : ws.length = ks.length := rz.length.symm.trans l2
  have fewU : us.length ≤ sizeLine := by
    rw [← Paired.length r, l1, sizeLine_eq]
    omega
  refine wpAny_call (PySem.HandSPX.own_call_kw PySem.F.excBase_ValueError (fun Y => PySem.HandSPX.refsVE_contains Y bm hbm) (I.kIn _ _ hC) (PySem.W.looks_findIn I.kIn iC) (fun self => PySem.W.bind_fn I.kIn self tI) fewU ?_)
  refine codeAny_mono (G0.run _ X.stack _ _ ⟨Value.ref (hp.objs.size + 1) :: us, ks.zip ws⟩ _ _ _ (fun _ _ _ => False) (room.make C us (ks.zip ws)) (J.env0.make C us (ks.zip ws)) (hb.to _ _ ws J.kIn n1 n2) r2 want) ?_
  intro r s' z
  match r, z with
  | .error e, z => exact hx pins σ _ _ e s' J z
  | .ok .next, z => exact z.elim
  | .ok .brk, z => exact z.elim
  | .ok .cont, z => exact z.elim
  | .ok (.ret u), z =>
    obtain ⟨v, H2, J2, rv, ev, q3⟩ := J.after z
    subst ev
    exact ⟨rv, .ref _, H2, J2, rfl, q3⟩
/-- C(e, ..) -/
def tExn (C : Addr) (n : Nat) (sp : Sp) (gV : List V → List V → List V) (t tk : TA) (m : Nat) : TE := fun σ H Q => t σ H fun vs H1 => tk σ H1 fun zs H2 => vs.length = n ∧ zs.length = m ∧ n ≤ 1000 ∧
  ∀ a, H2 a = none → sp (gV (.ref a :: vs) zs) (upd H2 a (exo a C none)) (fun v H3 => v = .non ∧ Q (.ref a) H3) (fun _ _ _ => False)
theorem pe_exn (T : OexC X.K C) (iC : PySem.W.findIn X.K (.ref C) "__init__" = some (some (.ref fI))) (tI : PySem.W.typeIn X.K (.ref fI) = some (.type "function")) (G0 : FnOk X.prog X.w X.K X.mg X.base CX k fI fd ps sp) (room : Room (k + 1) X.A)
    (hb : KBn X.K fd ps (n + 1) [] g gV) (hx : Passes CX X (fun _ _ _ => False)) (hm : X.mg x = some (.ref C)) (ha : PA X (e :: es) t) (hg : Gl X x := by rfl)
    (hdb : (x == ("__debug__" : Str)) = false := by decide) (he : starEach (e :: es) X.env = (false, eval e X.env) :: starEach es X.env := by rfl) (hpl : (backTo pos (starEach es X.env)).any (·.1) = false := by rfl) :
    PE X (.Call (.Name x p) (e :: es) [] pos) (tExn C n sp gV t tNil 0) := by
  constructor
  intro pins s σ H Q I h
  refine wpAny_Call_Name_kw (ld_glob I hg hm ?_ hdb)
  refine PySem.W.callWith_K (h₀ := X.base) I.ok.mod.kin T.kC (thn (ha.run pos pins s σ H _ I h) ?_) he hpl
  rintro us s1 ⟨vs, H1, I1, r, l1, l2, few, q⟩
  exact ⟨I1.kIn, run_exn (ws := []) (zs := []) T iC tI G0 room hb hx I1 r .nil l1 rfl few q⟩
theorem pe_exnK (T : OexC X.K C) (iC : PySem.W.findIn X.K (.ref C) "__init__" = some (some (.ref fI))) (tI : PySem.W.typeIn X.K (.ref fI) = some (.type "function")) (G0 : FnOk X.prog X.w X.K X.mg X.base CX k fI fd ps sp) (room : Room (k + 1) X.A)
    (hb : KBn X.K fd ps 1 ks g gV) (hx : Passes CX X (fun _ _ _ => False)) (hm : X.mg x = some (.ref C)) (hkw : PK X kws tk) (hg : Gl X x := by rfl) (hall : (backToKw pos (keywordEach kws X.env)).all (·.1.isSome) = true := by rfl)
    (hks : (backToKw pos (keywordEach kws X.env)).filterMap (·.1) = ks := by rfl) (hdb : (x == ("__debug__" : Str)) = false := by decide)
    (hpl : ((backTo pos (starEach [] X.env)).any (·.1) || (backToKw pos (keywordEach kws X.env)).any (·.1.isNone)) = false := by rfl) :
    PE X (.Call (.Name x p) [] kws pos) (tExn C 0 sp gV tNil tk ks.length) := by
  constructor
  intro pins s σ H Q I h
  refine wpAny_Call_Name_kw (ld_glob I hg hm ?_ hdb)
  refine PySem.W.callWith_KW0 (h₀ := X.base) I.ok.mod.kin T.kC hall (thn (hkw.run pos pins s σ H _ I h) ?_) hpl
  rintro ws s2 ⟨zs, H2, I2, rz, l1, l2, few, q⟩
  refine ⟨I2.kIn, ?_⟩
  rw [hks]
  exact run_exn (vs := []) (us := []) T iC tI G0 room hb hx I2 .nil rz rfl l2 few q
end
/-- a class of exceptions, with all that making one wants: n fields, by place and by the names ks -/
structure Xcl (P : Program) (w : World) (K : PySem.W.Frag) (mg : Str → Option Value) (base : Heap) (x : Str) (C : Addr) (n : Nat) (ks : List Str) (gV : List V → List V → List V) (sp : Sp) : Prop where
  t : ExC K C
  at_ : mg x = some (.ref C)
  ex : ∃ fI fd ps g gK, PySem.W.findIn K (.ref C) "__init__" = some (some (.ref fI)) ∧ PySem.W.typeIn K (.ref fI) = some (.type "function") ∧ FnOk P w K mg base CX0 1 fI fd ps sp ∧
    KBn K fd ps (n + 1) [] g (fun vs _ => vs) ∧ KBn K fd ps 1 ks gK gV
theorem pe_xcl {X : Cx} {x : Str} {C : Addr} {n : Nat} {ks : List Str} {gV : List V → List V → List V} {sp : Sp} {p pos : Pos} {e : Expr} {es : List Expr} {t : TA} (T : Xcl X.prog X.w X.K X.mg X.base x C n ks gV sp) (room : Room 2 X.A) (ha : PA X (e :: es) t) (hg : Gl X x := by rfl)
    (hdb : (x == ("__debug__" : Str)) = false := by decide) (he : starEach (e :: es) X.env = (false, eval e X.env) :: starEach es X.env := by rfl) (hpl : (backTo pos (starEach es X.env)).any (·.1) = false := by rfl) :
    PE X (.Call (.Name x p) (e :: es) [] pos) (tExn C n sp (fun vs _ => vs) t tNil 0) := by
  obtain ⟨fI, fd, ps, g, gK, iC, tI, F, b1, b2⟩ := T.ex
  exact pe_exn T.t.o iC tI F room b1 pass0 T.at_ ha hg hdb he hpl
theorem pe_xclK {X : Cx} {x : Str} {C : Addr} {n : Nat} {ks : List Str} {gV : List V → List V → List V} {sp : Sp} {p pos : Pos} {kws : List Keyword} {tk : TA} (T : Xcl X.prog X.w X.K X.mg X.base x C n ks gV sp) (room : Room 2 X.A) (hkw : PK X kws tk) (hg : Gl X x := by rfl)
    (hall : (backToKw pos (keywordEach kws X.env)).all (·.1.isSome) = true := by rfl)
    (hks : (backToKw pos (keywordEach kws X.env)).filterMap (·.1) = ks := by rfl) (hdb : (x == ("__debug__" : Str)) = false := by decide)
    (hpl : ((backTo pos (starEach [] X.env)).any (·.1) || (backToKw pos (keywordEach kws X.env)).any (·.1.isNone)) = false := by rfl) :
    PE X (.Call (.Name x p) [] kws pos) (tExn C 0 sp gV tNil tk ks.length) := by
  obtain ⟨fI, fd, ps, g, gK, iC, tI, F, b1, b2⟩ := T.ex
  exact pe_exnK T.t.o iC tI F room b2 pass0 T.at_ hkw hg hall hks hdb hpl
/-- __init__ of one field, of two -/
def spI1 (K : PySem.W.Frag) (f : Str) : Sp := fun vs H Q _ => ∃ (a C : Addr) (y : V), vs = [.ref a, y] ∧ OexC K C ∧ PySem.W.findIn K (.ref C) f = some none ∧ H a = some (exo a C none) ∧
  ∀ dx, H dx = none → dx ≠ a → Q .non (upd (upd H dx (exd dx [(f, y)])) a (exo a C (some dx)))
def spI2 (K : PySem.W.Frag) (f g : Str) : Sp := fun vs H Q _ => ∃ (a C : Addr) (y z : V), vs = [.ref a, y, z] ∧ OexC K C ∧ PySem.W.findIn K (.ref C) f = some none ∧ PySem.W.findIn K (.ref C) g = some none ∧ H a = some (exo a C none) ∧
  ∀ dx, H dx = none → dx ≠ a → Q .non (upd (upd (upd H dx (exd dx [(f, y)])) a (exo a C (some dx))) dx (exd dx [(g, z), (f, y)]))
/-- a class or a def of the top as a value -/
theorem pe_gr {X : Cx} {x : Str} {a : Addr} {pos : Pos} (h : X.mg x = some (.ref a)) (hg : Gl X x := by rfl) (hd : (x == ("__debug__" : Str)) = false := by decide) : PE X (.Name x pos) (tC (.ref a)) := pe_glob hg h rfl hd
end Own
set_option Elab.async false
set_option linter.all false
set_option maxRecDepth 100000
set_option maxHeartbeats 4000000
namespace Own
open PySem PySem.Spec PyProof.Rows L2
section
variable {X : Cx}
/-- behind the suite: the exception at a, that was caught, is known from now on -/
theorem lay_exc {pins pinsI : List (Addr × Obj)} {σ σI : L2.St} {H HI : Hp} {s sI : Shared} {a : Addr} {oe : Obj} {cls : Value} {d : Option Addr} {vs : Array Value}
    (S : Inv (X.suite a ((a, oe) :: (X.pn ++ pins))) [] σ H s) (ok : X.Ok) (hz : Zc cls d oe) (hd : oe.data = .fields vs) (hex : X.ex = []) (I : Inv X pinsI σI HI sI) (hI : ∀ p ∈ X.pn ++ pins, ∃ o, sI.heap.get? p.1 = some o) (no : sI.heap.get? a = none) :
    Inv X pins σ (upd H a (exv cls d a)) s := by
  have J := S.unsuite ok
  obtain ⟨ha, na, nL, nF, _⟩ := S.pin (a, oe) (List.mem_append_left _ List.mem_cons_self)
  have ne0 : ∀ b o, X.s_0.heap.get? b = some o → b ≠ a := by
    intro b o e q
    obtain ⟨o2, e2⟩ := I.base.there b o e (by rw [hex]; exact List.not_mem_nil)
    rw [q, no] at e2
    cases e2
  have stays : ∀ b u, H b = some u → upd H a (exv cls d a) b = some u := fun b u e => (upd_ne (ne_of_none e na)).trans e
  have gone : ∀ b, b ≠ a → H b = none → upd H a (exv cls d a) b = none := fun b nb e => (upd_ne nb).trans e
  refine ⟨ok, J.os, J.bare, ?base, J.loc, J.cell, gone _ (Ne.symm nL) J.free, ?cells, ?pins, ?hok, J.len⟩
  case base =>
    obtain ⟨k1, k2, k3, k4, k5, k6, k7⟩ := J.base
    refine ⟨k1, k2, fun b o e n x => gone b (ne0 b o e) (k3 b o e n x), k4, fun b xs e => stays _ _ (k5 b xs e), fun b o u e => stays _ _ (k6 b o u e), fun b ps e => ?_⟩
    obtain ⟨more, em⟩ := k7 b ps e
    exact ⟨more, stays _ _ em⟩
  case cells =>
    intro y c e
    refine gone c (fun q => ?_) (J.freeC y c e)
    obtain ⟨v, o, ho, _⟩ := I.cell y c e
    rw [q, no] at ho
    cases ho
  case pins =>
    intro p hp
    obtain ⟨p1, p2, p3, p4, p5⟩ := J.pin p hp
    refine ⟨p1, gone _ (fun q => ?_) p2, p3, p4, p5⟩
    obtain ⟨o, ho⟩ := hI p hp
    rw [q, no] at ho
    cases ho
  case hok =>
    intro b u e
    by_cases hb : b = a
    · subst hb
      rw [upd_same] at e
      cases e
      exact ⟨⟨oe, vs, ha, hz, hd⟩, ⟨oe, ha⟩, fun h1 h2 ⟨o, ws, e1, e2, e3⟩ st => ⟨o, ws, st _ e1, e2, e3⟩⟩
    · rw [upd_ne hb] at e
      exact (J.hok b u e).stay (fun _ _ _ q => q) (fun c q => stays _ _ q) fun c xs q => stays _ _ q
end
/-- what 'except x as n: suite' wishes of an exception: behind the suite it is known where it lies -/
def wKeep (K : PySem.W.Frag) (c : Value) (i : Nat) (ts : Addr → Value → Option Addr → TS) (Wo : WX) (D : Ends) : WX := fun cls d σ H => ∃ b, PySem.W.exmOne K cls c = some b ∧ (b = false → Wo cls d σ H) ∧
  (b = true → ∀ a, H a = none → ts a cls d { nx := fun σ2 H2 => D.nx (σ2.set i none) (upd H2 a (exv cls d a)), rt := fun _ _ => False, bk := fun _ _ => False, ct := fun _ _ => False } (σ.set i (some (.ref a))) H)
section
variable {X : Cx} {x n : Str} {c : Value} {i : Nat} {body suite : List Stmt} {b0 : Stmt} {np pos pos' : Pos} {tb : WX → TS} {ts : Addr → Value → Option Addr → TS} {Wo : WX}
theorem ps_try_keep (hs : X.stack = X.env :: X.outer) (hf : X.env.frame = some X.env.locals) (hN : X.N.Nodup) (hi : X.N[i]? = some n) (hln : X.env.kindOf n = some .local) (hc : Names X x c) (tk : Takes X Wo) (hex : X.ex = [])
    (hb : ∀ (W : WX) (pn : List (Addr × Obj)) (xe : Value → Shared → Prop), Takes (X.tr pn xe) W → PassesOwn (model X.prog X.w) X.A X.env xe → PSs (X.tr pn xe) body (tb W))
    (hsu : ∀ (a : Addr) (oe : Obj) (cls : Value) (d : Option Addr) (pn : List (Addr × Obj)), Zc cls d oe → (∃ vs, oe.data = .fields vs) → PSs (X.suite a ((a, oe) :: pn)) (b0 :: suite) (ts a cls d)) :
    PS X (.Try body [.ExceptHandler (some (.Name x np)) (some n) (b0 :: suite) pos'] [] [] pos) (fun D σ H => tb (wKeep X.K c i ts Wo D) D σ H) := by
  constructor
  intro pins s σ H D I h
  have ok := I.ok
  have frames : X.A.frames = some (X.env :: X.outer) := ok.frames.trans (by rw [hs])
  refine wpAny_Try_except ?_
  have run := (hb (wKeep X.K c i ts Wo D) (X.pn ++ pins)
    (fun e s1 => wpAny (model X.prog X.w) X.A (noteFrame e X.env)
      (fun _ s2 => wpAny (model X.prog X.w) X.A (setFlight e none)
        (fun _ s3 => wpAny (model X.prog X.w) X.A (handleBy e X.env [.ExceptHandler (some (.Name x np)) (some n) (b0 :: suite) pos']) (SP X pins D) X.xe s3) X.xe s2) X.xe s1)
    ?takes PassesOwn.looking).run [] s σ H D (I.toTry _) h
  case takes =>
    rintro u sE ⟨a, B, sI, pinsI, σI, HI, cls, d, rfl, JI, nb, up, sky, na, os, ag, b, hb1, hno, hyes⟩
    have J : Inv X pins σI HI sI := JI.ofTry ok
    rw [hs] at sky
    show wpAny (model X.prog X.w) X.A (noteFrame (.ref a) X.env) _ _ _
    refine Sky.land Zc.steady frames hf sky fun hA flA upA => ?_
    have upA' := up.trans upA
    have JA : Inv X pins σI HI { sE with heap := hA } := J.landed nb flA.1 upA' os ag
    obtain ⟨oA, vA, getA, zA, dA⟩ := flA.there
    have offFrames : a ∉ frs (X.env :: X.outer) := by
      intro hm
      obtain ⟨_, o2, e2, nofld⟩ := flA.2.2.1.mem hm
      rw [getA] at e2
      cases e2
      exact nofld _ dA
    have nL : a ≠ X.env.locals := fun q => offFrames (List.mem_filterMap.mpr ⟨X.env, List.mem_cons_self, hf.trans (by rw [q])⟩)
    have nF : a ∉ X.fs := fun hm => by
      obtain ⟨ev, hev, q⟩ := List.mem_filterMap.mp hm
      exact offFrames (List.mem_filterMap.mpr ⟨ev, List.mem_cons_of_mem _ hev, q⟩)
    have notI : sI.heap.get? a = none := by
      cases q : sI.heap.get? a with
      | none => rfl
      | some o =>
        have := nb a o q (by rw [hs]; exact offFrames)
        rw [flA.2.1] at this
        cases this
    have SA := JA.suite getA dA na nL nF
    have ty : PySem.W.Looks (model X.prog X.w) hA (typeOf (.ref a)) cls := fun A' Q' E' s' k q => wpAny_typeOf_ref (k _ _ getA) (by rw [zA.1]; exact q)
    have match_ := PySem.W.exm_one (M := model X.prog X.w) JA.kIn ty hb1
    have cls_ : ∀ {Q' : Value → Shared → Prop} {E' : Value → Shared → Prop}, Q' c { sE with heap := hA } → wpAny (model X.prog X.w) (X.A.mark (some (.ref a))) (eval (.Name x np) X.env) Q' E' { sE with heap := hA } := by
      intro Q' E' q
      obtain ⟨hg, hdbg, hm | ⟨hm, hv, hnn⟩⟩ := hc
      · exact ld_glob (X := X.suite a ((a, oA) :: (X.pn ++ pins))) SA hg hm q hdbg
      · exact ld_blt (X := X.suite a ((a, oA) :: (X.pn ++ pins))) SA hg hm hv q hnn hdbg
    refine wpAny_handleBy_cons (codeAny_handlers_test (cls_ (match_.here ?_))) (fun q => by cases q)
    cases b with
    | false =>
      show wpAny _ X.A (handleBy (.ref a) X.env []) _ _ _
      refine wpAny_handleBy_nil ?_
      have on : wpAny (model X.prog X.w) X.A (setFlight (.ref a) X.env.frame) (fun _ s4 => wpAny (model X.prog X.w) X.A (throw (.ref a) : Sem Flow) (SP X pins D) X.xe s4) X.xe { sE with heap := hA } := by
        rw [hf]
        refine HandSPX.setFlight_upZ flA fun hB heldB upB => wpAny_throw (tk _ _ ?_)
        exact ⟨a, B, sI, pins, σI, HI, cls, d, rfl, J, nb, upA'.trans upB, .inr (.inr (by rw [hs]; exact heldB)), na, os, ag, hno rfl⟩
      obtain ⟨_, _, _, o5, v5, T5, _, _, e5, _, d5, n5, _⟩ := id flA
      unfold PySem.passOn
      refine wpAny_bind (wpAny_field e5 d5 n5 ?_)
      rw [if_neg (by simp : ¬ ((Value.ref T5 == Value.none) = true))]
      first
        | exact wpAny_bind on
        | exact wpAny_bind (wpAny_pure (wpAny_bind on))
    | true =>
      refine codeAny_handlers_suite_as ?_
      refine HandSPX.lands_againZ flA fun hB flB upB => ?_
      have JB : Inv X pins σI HI { sE with heap := hB } := J.landed nb flB.1 (upA'.trans upB) os ag
      obtain ⟨oB, vB, getB, zB, dB⟩ := flB.there
      refine store_ok (X := X.suite a ((a, oB) :: (X.pn ++ pins))) (v := .ref a) (JB.suite getB dB na nL nF) hN hi (.inl hln) rfl (fun sC SC => ?_) (.inr hln)
      refine wpAny_mono ((hsu a oB cls d (X.pn ++ pins) zB ⟨_, dB⟩).run [] sC _ HI _ SC (hyes rfl a na)) (fun f sD out => ?_) (fun _ _ z => z.elim)
      cases f with
      | brk =>
        obtain ⟨_, _, _, q⟩ := out
        exact q.elim
      | cont =>
        obtain ⟨_, _, _, q⟩ := out
        exact q.elim
      | ret u =>
        obtain ⟨_, _, _, _, _, q⟩ := out
        exact q.elim
      | next =>
        obtain ⟨σD, HD, SD, qD⟩ := out
        refine gone_ok (X := X.suite a ((a, oB) :: (X.pn ++ pins))) SD hN hi hln fun sF SF => ?_
        exact ⟨_, _, lay_exc SF ok zB dB hex J (fun p hp => ⟨_, (J.pin p hp).1⟩) notI, qD⟩
  refine wpAny_mono run (fun f s1 out => ?_) fun _ _ z => z
  cases f with
  | next =>
    obtain ⟨σ2, H2, J2, q⟩ := out
    exact wpAny_execs_nil ⟨σ2, H2, J2.ofTry ok, q⟩
  | ret u =>
    obtain ⟨v, σ2, H2, J2, r, q⟩ := out
    exact ⟨v, σ2, H2, J2.ofTry ok, r, q⟩
  | brk =>
    obtain ⟨σ2, H2, J2, q⟩ := out
    exact ⟨σ2, H2, J2.ofTry ok, q⟩
  | cont =>
    obtain ⟨σ2, H2, J2, q⟩ := out
    exact ⟨σ2, H2, J2.ofTry ok, q⟩
end
end Own
set_option Elab.async false
set_option linter.all false
set_option maxRecDepth 100000
set_option maxHeartbeats 4000000
namespace Own
open PySem PySem.Spec PyProof.Rows L2 LamX
/-- the exceptions that leave a state of so many slots -/
theorem takes_len {X : Cx} {W : WX} (tk : Takes X W) : Takes X fun cls d σ H => σ.length = X.N.length → W cls d σ H := by
  rintro u s' ⟨a, B, sI, pins, σ, H, cls, d, e, I, nb, up, sky, na, os, ag, w⟩
  exact tk u s' ⟨a, B, sI, pins, σ, H, cls, d, e, I, nb, up, sky, na, os, ag, w I.len⟩
/-- what a def makes of the lambda that it calls within try: Rer is its reading behind an error that was caught, Rok that behind none -/
def TTh (K : PySem.W.Frag) (CS : Addr) (Rok : Hp → VK → Prop) (Rer : Value → Option Addr → Addr → Hp → VK → Prop) : (XK → Hp → VK → Prop) → Hp → VK → Prop := fun tl H Q =>
  tl (fun cls d H' => PySem.W.exmOne K cls (.ref CS) = some true ∧ ∀ a, H' a = none → Rer cls d a (upd H' a (exv cls d a)) Q) H fun _ H' => Rok H' Q
theorem pe_mono {X : Cx} {e : Expr} {te : TE} (h : PE X e te) : PE X e (fun σ H Q => ∃ Qa : VK, (∀ v H', Qa v H' → Q v H') ∧ te σ H Qa) := by
  constructor
  rintro pins s σ H Q I ⟨Qa, m, t⟩
  exact thn (h.run pins s σ H Qa I t) fun v s1 ⟨y, H1, I1, r, z⟩ => ⟨y, H1, I1, r, m _ _ z⟩
section
variable {X : Cx}
theorem heard_gives {Ng : List Str} {x a e q caught err : Str} {sg : Scope} {g CS : Addr} {cdg : Value} {i j : Nat} {pk p0 p1 p2 p3 p4 p5 p6 p7 p8 p9 pa : Pos} {rest : List Stmt} {tr : TS} {Rok : Hp → VK → Prop} {Rer : Value → Option Addr → Addr → Hp → VK → Prop}
    (hge : sg.names.lookup e = some .globalImplicit) (hme : X.mg e = some (.ref CS)) (hde : (e == ("__debug__" : Str)) = false) (h0 : ∀ f : Addr, (L2.start Ng [V.ref f])[0]? = some (some (V.ref f))) (j0 : j ≠ 0) (ij : i ≠ j) (lj : j < Ng.length) (li : i < Ng.length)
    (hN : Ng.Nodup) (hi : Ng[i]? = some err) (hj : Ng[j]? = some caught) (kj : sg.names.lookup caught = some .local) (ki : sg.names.lookup err = some .local) (sz : ∀ f : Addr, (L2.start Ng [V.ref f]).length = Ng.length)
    (hde2 : (err == ("__debug__" : Str)) = false) (hcd2 : (err == ("__classdict__" : Str)) = false)
    (hrest : ∀ (s : Shared) (H : Hp), PSs (cxOf C8.CX0 X.prog X.w X.K X.mg X.base Ng x sg g cdg X.A X.stack s H C8.E0).nox rest tr)
    (hok : ∀ (σ : L2.St) (H : Hp) (Q : VK), σ.length = Ng.length → σ[j]? = some (some .non) → Rok H Q → tr { nx := fun _ H' => Q .non H', rt := Q } σ H)
    (her : ∀ (σ : L2.St) (H : Hp) (Q : VK) (cls : Value) (d : Option Addr) (b : Addr), σ.length = Ng.length → σ[j]? = some (some (.ref b)) → H b = some (exv cls d b) → Rer cls d b H Q → tr { nx := fun _ H' => Q .non H', rt := Q } σ H) :
    GivesTo X Ng x sg g cdg (.Assign [.Name caught p0] (.Constant .none 0 pk) p1 :: .Try [.Expr (.Call (.Name a p2) [] [] p3) p4] [.ExceptHandler (some (.Name e p5)) (some err) [.Assign [.Name caught p6] (.Name err p7) p8] p9] [] [] pa :: rest) a q (TTh X.K CS Rok Rer) := by
  intro f c' s H Q tl act hc h
  have hgl : Gl (cxOf C8.CX0 X.prog X.w X.K X.mg X.base Ng x sg g cdg X.A X.stack s H C8.E0).nox e := hge
  refine ⟨_, pss_cons (ps_set (X := (cxOf C8.CX0 X.prog X.w X.K X.mg X.base Ng x sg g cdg X.A X.stack s H C8.E0).nox) (i := j) hN hj (Or.inl kj) pe_non)
    (pss_cons (ps_try_keep (X := (cxOf C8.CX0 X.prog X.w X.K X.mg X.base Ng x sg g cdg X.A X.stack s H C8.E0).nox) (c := .ref CS) (i := i)
      (tb := fun W D σ H => ∃ (Ex : XK) (Qa : VK), (∀ cls d σ' H', Ex cls d H' → σ'.length = Ng.length → W cls d σ' H') ∧ (∀ v H', Qa v H' → D.nx σ H') ∧ σ[0]? = some (some (.ref f)) ∧ H c' = some (CodeO c' q) ∧ tl Ex H Qa)
      (ts := fun b cls d => tAsg (tVar i) (gName j)) rfl rfl hN hi ki ⟨hgl, hde, .inl hme⟩ LamX.takes0 rfl (fun W pn xe tk _ => ?body) (fun b oe cls d pn _ _ => ?suite)) (hrest s H)), ?say⟩
  case body =>
    constructor
    rintro pins s' σ H' D I ⟨Ex, Qa, hW, hQ, h1, h2, h3⟩
    have hp := act _ pn xe Ex p2 p3 (takes_len tk) hW
    exact (pss_one (ps_expr (pos := p4) (pe_mono hp))).run pins s' σ H' D I ⟨Qa, fun v H1 z => hQ v H1 z, h1, h2, h3⟩
  case suite => exact pss_one (ps_set (i := j) hN hj (Or.inl kj) (pe_var (i := i) hi (Or.inl ki) hde2 hcd2))
  case say =>
    have n0 : j < (L2.start Ng [V.ref f]).length := by
      rw [sz]
      exact lj
    refine ⟨_, _, fun cls d σ' H' hE len => ⟨true, hE.1, fun z => (nomatch z), fun _ b hb => ?_⟩, fun v H' hv => ?_, ?_, hc, h⟩
    · refine ⟨.ref b, by rw [List.getElem?_set_self (by omega)], ?_⟩
      refine her _ _ Q cls d b (by simp [len]) ?_ upd_same (hE.2 b hb)
      rw [List.getElem?_set_ne ij, List.getElem?_set_self (by rw [List.length_set]; omega)]
    · exact hok _ H' Q (by rw [List.length_set, sz]) (by rw [List.getElem?_set_self n0]) hv
    · rw [List.getElem?_set_ne j0]
      exact h0 f
end
end Own
set_option Elab.async false
set_option linter.all false
set_option maxRecDepth 100000
set_option maxHeartbeats 4000000
namespace Own
open PySem PySem.Spec PyProof.Rows L2 LamX
abbrev emptyTab : Obj := { cls := .none, data := .fields #[] }
/-- b is one of the tables -/
def IsTab (cs : List (Addr × Addr)) (b : Addr) : Prop := b ∈ cs.map Prod.snd
instance (cs : List (Addr × Addr)) (b : Addr) : Decidable (IsTab cs b) := inferInstanceAs (Decidable (b ∈ cs.map Prod.snd))
theorem IsTab.ex {cs : List (Addr × Addr)} {b : Addr} (h : IsTab cs b) : ∃ p ∈ cs, p.2 = b := List.mem_map.mp h
theorem IsTab.of {cs : List (Addr × Addr)} {p : Addr × Addr} (h : p ∈ cs) : IsTab cs p.2 := List.mem_map.mpr ⟨p, h, rfl⟩
theorem law_callTG {P : Program} {w : World} {K : PySem.W.Frag} {mg mb : Str → Option Value} {k : Nat} {fa a : Addr} {cs : List (Addr × Addr)} {fd : FuncData} {x : Str} {sp : Sp} {s₁ : Shared} {vs : List Value} {ns : List Int}
    (inK : K.In s₁.heap) (top : s₁.heap.Ns mainGlobals mg) (bi : s₁.heap.Ns builtinsNs mb) (bt : ∀ x : Str, x ≠ "__name__" → mb x = bootBuiltins x) (lim : s₁.heap.NoLimit) (bare : s₁.gens = #[])
    (tabs : ∀ p ∈ cs, s₁.heap.get? p.2 = some emptyTab) (noK : ∀ p ∈ cs, K.lookup p.2 = none) (heads : ∀ p ∈ cs, PySem.W.CodeHd s₁.heap p.1 p.2)
    (bmod : ∃ (bm : Addr) (ob : Obj), mg "__builtins__" = some (.ref bm) ∧ bm ≠ builtinsNs ∧ s₁.heap.get? bm = some ob ∧ ob.cls = .type "module" ∧ ob.dict = some builtinsNs ∧ ob.data = .plain)
    (at_ : s₁.heap.get? a = some { cls := .type "list", data := .seq vs.toArray }) (iv : IntsAre vs ns) (small : ns.length ≤ sizeLine) (room : Room k callerA)
    (F : ∀ base : Heap, K.In base → base.Ns mainGlobals mg → (∀ p ∈ cs, TabB base mg p.1 p.2) → FnG P w K mg base CX0 k fa fd [x] sp) (bnd : ∀ (s : Shared) (u : Value), BindsTo s fd ⟨[u], []⟩ [(x, u)])
    (say : ∀ H : Hp, (∀ p ∈ cs, H p.2 = some (.tbl #[])) → SqL K H a (ns.map V.int) → sp [.ref a] H (fun v _ => v = .bl true) fun _ _ _ => False) :
    codeAny (model P w) callerA (.call (.ref fa) ⟨[.ref a], []⟩) (fun r s' => r = .ok (.ret (.bool true)) ∧ OldK s₁.heap s'.heap ∧ s'.os = s₁.os ∧ AllBare s'.gens) s₁ := by
  have rv := vals_ints iv
  have lenV := iv.length
  have tabAt : ∀ b, IsTab cs b → s₁.heap.get? b = some emptyTab := by
    intro b hb
    obtain ⟨p, hp, rfl⟩ := hb.ex
    exact tabs p hp
  have aNot : ¬ IsTab cs a := by
    intro z
    have e := at_.symm.trans (tabAt a z)
    cases Option.some.inj e
  have main : ∀ H : Hp, (∀ p ∈ cs, H p.2 = some (.tbl #[])) → (∀ b, H b = none ∨ IsTab cs b ∨ ∃ o xs, H b = some (.frz o (.lst xs))) → SqL K H a (ns.map V.int) → HOk P w H s₁.heap → (∀ b, H b ≠ none → b = a ∨ IsTab cs b) → (H a ≠ none → K.lookup a = none) →
      codeAny (model P w) callerA (.call (.ref fa) ⟨[.ref a], []⟩) (fun r s' => r = .ok (.ret (.bool true)) ∧ OldK s₁.heap s'.heap ∧ s'.os = s₁.os ∧ AllBare s'.gens) s₁ := by
    intro H hT shape sq hok just free
    -- what is neither a list nor an empty record is not told
    have not_ : ∀ {b : Addr} {o : Obj}, s₁.heap.get? b = some o → (∀ us m, o.data ≠ .seq us m) → o.data ≠ .fields #[] → H b = none := by
      intro b o e n1 n2
      by_cases q : H b = none
      · exact q
      · rcases just b q with rfl | q
        · rw [at_] at e
          cases e
          exact (n1 _ _ rfl).elim
        · rw [tabAt b q] at e
          cases e
          exact (n2 rfl).elim
    have notD : ∀ {b : Addr} {o : Obj} {es : Array DictEntry} {ep : Nat}, s₁.heap.get? b = some o → o.data = .dict es ep → H b = none := by
      intro b o es ep e d
      refine not_ e (fun us m z => ?_) fun z => ?_ <;> · rw [d] at z; cases z
    have ns_ : ∀ {b : Addr} {m : Str → Option Value}, s₁.heap.Ns b m → (hidT s₁.heap H).Ns b m := by
      rintro b m ⟨o, es, ep, e, d, r⟩
      exact ⟨o, es, ep, hidT_get e (notD e d), d, r⟩
    have k_ : K.In (hidT s₁.heap H) := by
      intro b o e
      refine hidT_get (inK b o e) ?_
      by_cases q : H b = none
      · exact q
      · rcases just b q with rfl | z
        · rw [free q] at e
          cases e
        · obtain ⟨p, hp, rfl⟩ := z.ex
          rw [noK p hp] at e
          cases e
    obtain ⟨mc, l1, l2⟩ := lim
    have M : Mod K mg (hidT s₁.heap H) := ⟨k_, ns_ top, ⟨mb, ns_ bi, bt⟩, ⟨mc, ns_ l1, l2⟩⟩
    have TB : ∀ p ∈ cs, TabB (hidT s₁.heap H) mg p.1 p.2 := by
      intro p hp
      have pT := tabs p hp
      obtain ⟨oG, esG, epG, eG, dG, _⟩ := id top
      refine ⟨?code, ?mod, fun z => ?_⟩
      case code =>
        obtain ⟨o, us, file, tf, flags, tg, inF, text, tt, e1, r1, r2, r3, more⟩ := heads p hp
        refine ⟨o, us, file, tf, flags, tg, inF, text, tt, hidT_get e1 (not_ e1 (fun vs m z => ?_) fun z => ?_), r1, r2, r3, more⟩
        · exact Data.noConfusion (r2.symm.trans z)
        · have z2 := r2.symm.trans z
          cases z2
          simp at r3
      case mod =>
        obtain ⟨bm, ob, b1, b2, b3, b4, b5, b6⟩ := bmod
        refine ⟨bm, ob, b1, b2, ?_, ?_, hidT_get b3 (not_ b3 (fun vs m z => Data.noConfusion (b6.symm.trans z)) fun z => Data.noConfusion (b6.symm.trans z)), b4, b5, b6⟩
        · rintro rfl
          rw [eG] at b3
          cases b3
          exact Data.noConfusion (dG.symm.trans b6)
        · rintro rfl
          rw [pT] at b3
          cases b3
          cases b6
      · rw [z, pT] at eG
        cases eG
        cases dG
    have E0 : Env0 P w K mg (hidT s₁.heap H) callerA [] s₁ H :=
      ⟨rfl, M, fun b o e => of_hidT e, Nat.le_of_eq (hidT_size _ _), trivial, fun b hb => (List.not_mem_nil (show b ∈ ([] : List Addr) from hb)).elim, hok, .of_eq bare⟩
    refine codeAny_mono ((F _ k_ (ns_ top) TB).run callerA [] s₁ H ⟨[.ref a], []⟩ [.ref a] [.ref a] _ _ room rfl E0 (bnd s₁ (.ref a)) (.cons rfl .nil) (say H hT sq)) ?_
    intro r s' h
    match r, h with
    | .error e, h => exact h.elim
    | .ok .next, h => exact h.elim
    | .ok .brk, h => exact h.elim
    | .ok .cont, h => exact h.elim
    | .ok (.ret u), h =>
      obtain ⟨v, G, os, br, un, hk2, r1, q⟩ := h
      cases (show v = V.bl true from q)
      cases (show u = Value.bool true from r1)
      have kept : ∀ b o, ¬ IsTab cs b → s₁.heap.get? b = some o → s'.heap.get? b = some o := by
        intro b o nb e
        by_cases q : H b = none
        · exact un.keep b o e q (fun z => (List.not_mem_nil (show b ∈ ([] : List Addr) from z)).elim) (by simp)
        · rcases shape b with z | z | ⟨ob, xs, z⟩
          · exact (q z).elim
          · exact (nb z).elim
          · have y1 := (hok b _ z).1
            have y2 := (hk2 b _ (un.frzs b ob _ z)).1
            rw [e] at y1
            cases y1
            exact y2
      have grown : ∀ p ∈ cs, ∃ more : Array Value, s'.heap.get? p.2 = some { cls := .none, data := .fields more } := by
        intro p hp
        obtain ⟨more, z⟩ := un.tbls p.2 #[] (hT p hp)
        exact ⟨_, hk2 p.2 _ z⟩
      refine ⟨rfl, ⟨fun b o e => ?_, fun b o e => ?_⟩, os, br⟩
      · by_cases hb : IsTab cs b
        · obtain ⟨p, hp, rfl⟩ := hb.ex
          obtain ⟨more, hm⟩ := grown p hp
          have e' := (tabs p hp).symm.trans e
          cases Option.some.inj e'
          refine .inr (.inl ⟨((heads p hp).tab (tabs p hp)).isCodeTable, rfl, #[], more, rfl, ?_⟩)
          rw [Array.empty_append]
          exact hm
        · exact .inl (kept b o hb e)
      · by_cases hb : IsTab cs b
        · obtain ⟨p, hp, rfl⟩ := hb.ex
          obtain ⟨more, hm⟩ := grown p hp
          exact ⟨_, hm⟩
        · exact ⟨o, kept b o hb e⟩
  have lenOk : (ns.map V.int).length ≤ sizeLine := by rw [List.length_map]; exact small
  by_cases hk : K.lookup a = none
  · refine main (fun b => if b = a then some (HO.frz { cls := .type "list", data := .seq vs.toArray } (.lst (ns.map V.int))) else if IsTab cs b then some (.tbl #[]) else none) (fun p hp => ?_) (fun b => ?_) (.inl (.inr ⟨_, if_pos rfl⟩)) (fun b u z => ?_) (fun b z => ?_) fun _ => hk
    · show (if p.2 = a then _ else _) = _
      rw [if_neg (fun z => aNot (by rw [← z]; exact IsTab.of hp)), if_pos (IsTab.of hp)]
    · show (if b = a then _ else _) = none ∨ _ ∨ ∃ o xs, (if b = a then _ else _) = _
      by_cases hb : b = a
      · exact .inr (.inr ⟨_, _, if_pos hb⟩)
      · by_cases hb2 : IsTab cs b
        · exact .inr (.inl hb2)
        · exact .inl (by rw [if_neg hb, if_neg hb2])
    · have z' : (if b = a then some (HO.frz { cls := .type "list", data := .seq vs.toArray } (.lst (ns.map V.int))) else if IsTab cs b then some (.tbl #[]) else none) = some u := z
      by_cases hb : b = a
      · subst hb
        rw [if_pos rfl] at z'
        cases z'
        exact ⟨at_, lenOk, vs, _, rv, at_⟩
      · rw [if_neg hb] at z'
        by_cases hb2 : IsTab cs b
        · rw [if_pos hb2] at z'
          cases z'
          exact tabAt b hb2
        · rw [if_neg hb2] at z'
          cases z'
    · by_cases hb : b = a
      · exact .inl hb
      · by_cases hb2 : IsTab cs b
        · exact .inr hb2
        · exact (z (show (if b = a then _ else _) = none by rw [if_neg hb, if_neg hb2])).elim
  · obtain ⟨o, ho⟩ := Option.ne_none_iff_exists'.mp hk
    have e := inK a o ho
    rw [at_] at e
    cases e
    refine main (fun b => if IsTab cs b then some (.tbl #[]) else none) (fun p hp => if_pos (IsTab.of hp)) (fun b => ?_) (.inr ⟨_, vs.toArray, _, ho, rfl, rfl, rfl, by rw [List.size_toArray, lenV]; exact small, by simpa using rv⟩) (fun b u z => ?_) (fun b z => ?_)
      (fun z => (z (if_neg aNot)).elim)
    · by_cases hb : IsTab cs b
      · exact .inr (.inl hb)
      · exact .inl (if_neg hb)
    · have z' : (if IsTab cs b then some (HO.tbl #[]) else none) = some u := z
      by_cases hb : IsTab cs b
      · rw [if_pos hb] at z'
        cases z'
        exact tabAt b hb
      · rw [if_neg hb] at z'
        cases z'
    · by_cases hb : IsTab cs b
      · exact .inr hb
      · exact (z (if_neg hb)).elim
/-- what is known of the law's own def where it is called, tables told -/
def LawTG (l : PySem.W.OpenLaw) (w : World) (K : PySem.W.Frag) (k n : Nat) (x : Str) (mg : Str → Option Value) (fa : Addr) (h : Heap) : Prop :=
  ∃ (fd : FuncData) (cs : List (Addr × Addr)) (sp : Sp), (∀ p ∈ cs, h.get? p.2 = some emptyTab) ∧ (∀ p ∈ cs, K.lookup p.2 = none) ∧ (∀ p ∈ cs, PySem.W.CodeHd h p.1 p.2) ∧ (∀ (s : Shared) (u : Value), BindsTo s fd ⟨[u], []⟩ [(x, u)]) ∧
    (∀ (H : Hp) (a : Addr) (ns : List Int), ns.length ≤ n → (∀ z ∈ ns, Builtin.Int.intBits z ≤ 1048576) → (∀ p ∈ cs, H p.2 = some (.tbl #[])) → SqL K H a (ns.map V.int) → sp [.ref a] H (fun v _ => v = .bl true) fun _ _ _ => False) ∧
    ∀ base : Heap, K.In base → base.Ns mainGlobals mg → (∀ p ∈ cs, TabB base mg p.1 p.2) → FnG l.prog w K mg base CX0 k fa fd [x] sp
theorem walk_ofTG {l : PySem.W.OpenLaw} {n k : Nat} {q : Program} {loose : List Str} {XP : (Str → Option Value) → Heap → Prop} {YP : World → Heap → Prop} {d : DefRec} {K : Params → PySem.W.Frag} {x : Str}
    (hn : l.most = some n) (hn2 : n ≤ sizeLine) (hdf : d.params.defaults = []) (room : Room k callerA) (hY : ∀ (w : World) (h : Heap), YP w h → (K w.params).In h)
    (F : ∀ (w : World) (mg : Str → Option Value) (fa : Addr) (h : Heap), YP w h → (K w.params).In h → h.Ns mainGlobals mg → mg d.name = some (.ref fa) → LawTG l w (K w.params) k n x mg fa h) :
    PySem.W.WalkO q loose XP YP l.row.toRowW d [] (fun f vs => PySem.call f vs) := by
  refine Att.attach_callB hn hdf ?_
  intro w s₀ s₁ mg mb fa o pm cd doc a vs ns G Y ho hd hcd hmg hobj iv hlen hbits hg
  have inK := hY w _ Y
  obtain ⟨fd, cs, sp, hT, nT, C, hb, hsp, hF⟩ := F w mg fa _ Y inK G.T.g hmg
  exact law_callTG inK G.T.g G.T.b G.T.builtins G.T.nolimit hg hT nT C G.T.bmain hobj iv (Nat.le_trans hlen hn2) room hF hb fun H hH hS => hsp H a ns hlen hbits hH hS
end Own
set_option Elab.async false
set_option linter.all false
set_option maxRecDepth 100000
set_option maxHeartbeats 4000000
/-! calls of defs that may raise -/
namespace Own
open PySem PySem.Spec PyProof.Rows L2
/-- a def of the top that may raise, with all that a call wants -/
structure CalX (P : Program) (w : World) (K : PySem.W.Frag) (mg : Str → Option Value) (base : Heap) (k : Nat) (x : Str) (ps : List Str) (sp : Sp) : Prop where
  ex : ∃ f fd, FnOk P w K mg base (L2.CX P w) k f fd ps sp ∧ mg x = some (.ref f) ∧ PySem.W.keepIn K (.ref f) = true ∧ Binds K fd ps []
/-- .. called by keyword only -/
structure CalXK (P : Program) (w : World) (K : PySem.W.Frag) (mg : Str → Option Value) (base : Heap) (k : Nat) (x : Str) (ps ks : List Str) (gV : List V → List V) (sp : Sp) : Prop where
  ex : ∃ f fd g, FnOk P w K mg base (L2.CX P w) k f fd ps sp ∧ mg x = some (.ref f) ∧ PySem.W.keepIn K (.ref f) = true ∧ KBn K fd ps 0 ks g (fun _ zs => gV zs)
theorem pass_no {X : Cx} (σ : L2.St) : PassesAt (L2.CX X.prog X.w) X σ (fun _ _ _ => False) := by
  intro pins H s e s' I c
  obtain ⟨_, _, _, _, _, _, _, _, _, _, _, _, z⟩ := c
  exact z.elim
section
variable {X : Cx} {k : Nat} {x : Str} {ps ks : List Str} {sp : Sp} {p pos : Pos} {e : Expr} {es : List Expr} {kws : List Keyword} {t tk : TA} {W : WX} {gV : List V → List V}
/-- f(e, ..) where it is known that nothing is raised -/
theorem pe_calX (C : CalX X.prog X.w X.K X.mg X.base k x ps sp) (room : Room k X.A) (ha : PA X (e :: es) t) (hg : Gl X x := by rfl) (hdb : (x == ("__debug__" : Str)) = false := by decide)
    (he : starEach (e :: es) X.env = (false, eval e X.env) :: starEach es X.env := by rfl) (hpl : (backTo pos (starEach es X.env)).any (·.1) = false := by rfl) :
    PE X (.Call (.Name x p) (e :: es) [] pos) (tCallS sp (fun _ _ _ _ => False) t) := by
  obtain ⟨f, fd, F, m, kp, b⟩ := C.ex
  exact pe_callS F room hg m kp b (fun σ => pass_no σ) ha hdb he hpl
/-- f(e, ..) where the context takes what is raised -/
theorem pe_calE (C : CalX X.prog X.w X.K X.mg X.base k x ps sp) (tk : Takes X W) (room : Room k X.A) (ha : PA X (e :: es) t) (hg : Gl X x := by rfl) (hdb : (x == ("__debug__" : Str)) = false := by decide)
    (he : starEach (e :: es) X.env = (false, eval e X.env) :: starEach es X.env := by rfl) (hpl : (backTo pos (starEach es X.env)).any (·.1) = false := by rfl) :
    PE X (.Call (.Name x p) (e :: es) [] pos) (tCallS sp (fun σ => WE W σ) t) := by
  obtain ⟨f, fd, F, m, kp, b⟩ := C.ex
  exact pe_callS F room hg m kp b (fun σ => passAt tk σ) ha hdb he hpl
end
theorem passes_no {X : Cx} : Passes (L2.CX X.prog X.w) X (fun _ _ _ => False) := by
  intro pins σ H s e s' I c
  obtain ⟨_, _, _, _, _, _, _, _, _, _, _, _, z⟩ := c
  exact z.elim
section
variable {X : Cx} {k : Nat} {x : Str} {ps ks : List Str} {sp : Sp} {p pos : Pos} {kws : List Keyword} {tk : TA} {gV : List V → List V}
/-- f(k = v, ..) where it is known that nothing is raised -/
theorem pe_calXK (C : CalXK X.prog X.w X.K X.mg X.base k x ps ks gV sp) (room : Room k X.A) (hkw : PK X kws tk) (hg : Gl X x := by rfl) (hall : (backToKw pos (keywordEach kws X.env)).all (·.1.isSome) = true := by rfl)
    (hks : (backToKw pos (keywordEach kws X.env)).filterMap (·.1) = ks := by rfl) (hdb : (x == ("__debug__" : Str)) = false := by decide)
    (hpl : ((backTo pos (starEach [] X.env)).any (·.1) || (backToKw pos (keywordEach kws X.env)).any (·.1.isNone)) = false := by rfl) :
    PE X (.Call (.Name x p) [] kws pos) (tKw ks.length sp gV tk) := by
  obtain ⟨f, fd, g, F, m, kp, b⟩ := C.ex
  constructor
  intro pins s σ H Q I h
  refine wpAny_Call_Name_kw (ld_glob I hg m ?_ hdb)
  refine PySem.W.callWith_KW0 (h₀ := X.base) I.ok.mod.kin kp hall (thn (hkw.run pos pins s σ H _ I h) ?_) hpl
  rintro ws s2 ⟨zs, H2, I2, rz, l, q⟩
  refine ⟨I2.kIn, ?_⟩
  rw [hks]
  exact run_fnN (vs := []) (us := []) F room b passes_no I2 .nil rz rfl l q
end
/-- an exception class of one field, as a raise wants it -/
structure Rcl (P : Program) (w : World) (K : PySem.W.Frag) (mg : Str → Option Value) (base : Heap) (x : Str) (C : Addr) (fld : Str) : Prop where
  o : OexC K C
  at_ : mg x = some (.ref C)
  no : PySem.W.findIn K (.ref C) fld = some none
  ex : ∃ fI fd ps, PySem.W.findIn K (.ref C) "__init__" = some (some (.ref fI)) ∧ PySem.W.typeIn K (.ref fI) = some (.type "function") ∧ FnOk P w K mg base CX0 1 fI fd ps (spI1 K fld) ∧ Binds K fd ps []
theorem upd_del {H : Hp} {a d : Addr} {o1 o2 o3 u : HO} (ha : H a = none) (hd : d ≠ a) : L2.upd (L2.del (L2.upd (L2.upd (L2.upd H a o1) d o2) a o3) a) d u = L2.upd H d u := by
  funext b
  by_cases hb : b = d
  · subst hb
    rw [upd_same, upd_same]
  · rw [upd_ne hb, upd_ne hb]
    by_cases h : b = a
    · subst h
      rw [del_same, ha]
    · rw [del_ne h, upd_ne h, upd_ne hb, upd_ne h]
section
variable {X : Cx} {x fld : Str} {C : Addr} {p pos pos2 : Pos} {e : Expr} {te : TE} {W : WX}
/-- raise C(e) -/
theorem ps_raise1 (R : Rcl X.prog X.w X.K X.mg X.base x C fld) (hc : X.calm = true) (tk : Takes X W) (room : Room 2 X.A) (he : PE X e te) (hg : Gl X x := by rfl) (hdb : (x == ("__debug__" : Str)) = false := by decide)
    (hst : starEach [e] X.env = (false, eval e X.env) :: starEach [] X.env := by rfl) (hpl : (backTo pos (starEach [] X.env)).any (·.1) = false := by rfl) :
    PS X (.Raise (some (.Call (.Name x p) [e] [] pos)) none pos2) (fun _ σ H => te σ H fun y H1 => ∀ d, H1 d = none → W (.ref C) (some d) σ (upd H1 d (.xd [(fld, y)]))) := by
  obtain ⟨fI, fd, ps, iC, tI, F1, hb⟩ := R.ex
  have mk := pmk_oex (p := p) (pos := pos) R.o iC tI F1 room hb .nil pass0 hg R.at_ (pa_cons (pe_mono he) pa_nil hst) hdb hst hpl
  constructor
  intro pins s σ H D I h
  refine (ps_raise (pos := pos2) hc tk mk).run pins s σ H D I ⟨_, fun y H1 q => ?_, h⟩
  refine ⟨by show 1 ≤ 1000; decide, fun a ha => ?_⟩
  refine ⟨a, C, y, rfl, R.o, R.no, upd_same, fun dx hdx ne => ⟨rfl, dx, [(fld, y)], upd_same, Eq.trans (upd_ne ne) upd_same, ?_, ?_⟩⟩
  · rw [upd_ne ne] at hdx
    exact hdx
  · rw [upd_ne ne] at hdx
    rw [upd_del ha ne]
    exact q dx hdx
end
/-! rules whose reading names the written part, for another context than the def's own -/
theorem call_isXK {X : Cx} {K : PySem.W.Frag} (hK : X.K = K) : CallR X (.builtin "isinstance") (rIsX K) := hK ▸ call_isX
theorem call_isiK {X : Cx} {K : PySem.W.Frag} (hK : X.K = K) : CallR X (.builtin "isinstance") (rIsi K) := hK ▸ call_isi
theorem pe_exfL {X : Cx} {K : PySem.W.Frag} {e : Expr} {f : Str} {te : TE} {pos : Pos} (hK : X.K = K) (he : PE X e te) (hb : attributeBase e f X.env (eval e X.env) = eval e X.env := by rfl) : PE X (.Attribute e f pos) (tExF K f te) := hK ▸ pe_exf he hb
end Own
set_option Elab.async false
set_option linter.all false
set_option maxRecDepth 100000
set_option maxHeartbeats 4000000
/-! values of any kind, and what the checks tell of them -/
namespace Own
open PySem PySem.Spec PyProof.Rows L2
inductive An (H : Hp) : V → Prop
  | non : An H .non
  | bl (b : Bool) : An H (.bl b)
  | int (i : Int) : An H (.int i)
  | str {s : Str} (h : s.length ≤ 100000) : An H (.str s)
  | lst {a : Addr} {xs : List V} (h : H a = some (.lst xs)) : An H (.ref a)
  | tup {a : Addr} {xs : List V} (h : H a = some (.tup xs)) : An H (.ref a)
  | dK {a : Addr} {kvs : List (Key × V)} (h : H a = some (.dK kvs)) : An H (.ref a)
def tn (H : Hp) : V → String
  | .non => "NoneType"
  | .bl _ => "bool"
  | .int _ => "int"
  | .str _ => "str"
  | .ref a => match H a with
    | some (.lst _) => "list"
    | some (.tup _) => "tuple"
    | some (.dK _) => "dict"
    | _ => "?"
  | _ => "?"
def isT (n : String) (H : Hp) (v : V) : Bool := (tn H v == n) || ((n == "int") && (tn H v == "bool"))
theorem An.tyx {K : PySem.W.Frag} {H : Hp} {v : V} (h : An H v) : TyX K H v (.type (tn H v)) := by
  cases h with
  | non => exact .base .non
  | bl b => exact .base (.bl b)
  | int i => exact .base (.int i)
  | str h => exact .base (.str _)
  | @lst a xs h =>
    have e : tn H (.ref a) = "list" := by simp only [tn, h]
    rw [e]; exact .base (.lst h)
  | @tup a xs h =>
    have e : tn H (.ref a) = "tuple" := by simp only [tn, h]
    rw [e]; exact .base (.tup h)
  | @dK a kvs h =>
    have e : tn H (.ref a) = "dict" := by simp only [tn, h]
    rw [e]; exact .base (.dK h)
theorem tn_in {H : Hp} {v : V} (h : An H v) : tn H v ∈ ["NoneType", "bool", "int", "str", "list", "tuple", "dict"] := by
  cases h with
  | non => simp [tn]
  | bl b => simp [tn]
  | int i => simp [tn]
  | str h => simp [tn]
  | lst h => simp [tn, h]
  | tup h => simp [tn, h]
  | dK h => simp [tn, h]
theorem kits : ∀ a ∈ ["NoneType", "bool", "int", "str", "list", "tuple", "dict"], ∀ n ∈ ["int", "bool", "str", "list", "tuple"], kitB a n = some ((a == n) || ((n == "int") && (a == "bool"))) := by decide +kernel
theorem An.kit {K : PySem.W.Frag} {H : Hp} {v : V} {n : String} (h : An H v) (hn : n ∈ ["int", "bool", "str", "list", "tuple"]) : PySem.W.kitOne K (.type (tn H v)) (.type n) = some (isT n H v) := kit_ty (kits _ (tn_in h) _ hn)
def isI : V → Bool
  | .int _ => true
  | _ => false
theorem isI_an {H : Hp} {v : V} (h : An H v) : isI v = (isT "int" H v && !isT "bool" H v) := by
  cases h with
  | non => simp [isI, isT, tn]
  | bl b => simp [isI, isT, tn]
  | int i => simp [isI, isT, tn]
  | str h => simp [isI, isT, tn]
  | lst h => simp [isI, isT, tn, h]
  | tup h => simp [isI, isT, tn, h]
  | dK h => simp [isI, isT, tn, h]
theorem An.mono {H H' : Hp} {v : V} (s : Same H H') (h : An H v) : An H' v := by
  cases h with
  | non => exact .non
  | bl b => exact .bl b
  | int i => exact .int i
  | str h => exact .str h
  | lst h => exact .lst (s _ _ h)
  | tup h => exact .tup (s _ _ h)
  | dK h => exact .dK (s _ _ h)
theorem tn_mono {H H' : Hp} {v : V} (s : Same H H') (h : An H v) : tn H' v = tn H v := by
  cases h with
  | non => rfl
  | bl b => rfl
  | int i => rfl
  | str h => rfl
  | lst h => simp only [tn, h, s _ _ h]
  | tup h => simp only [tn, h, s _ _ h]
  | dK h => simp only [tn, h, s _ _ h]
def leB : V → V → Bool
  | .int i, .int j => decide (i ≤ j)
  | _, _ => true
def inB (v lo hi : V) : Bool := isI v && (leB lo v && leB v hi)
def Bd (v : V) : Prop := v = .non ∨ ∃ i, v = .int i
theorem ite_and {c : Bool} {A : Prop} {Q : VK} {b : Bool} {H : Hp} (q : Q (.bl (c && b)) H) (h : c = true → Q (.bl b) H → A) : if c = true then A else Q (.bl false) H := by
  cases c with
  | false => exact q
  | true => exact h rfl q
theorem isI_or {v : V} : (∃ i, v = .int i) ∨ isI v = false := by
  cases v <;> first | exact .inl ⟨_, rfl⟩ | exact .inr rfl
def rowB (H : Hp) (v : V) (a b : Int) : Bool := match v with
  | .ref p => match H p with
    | some (.lst xs) => decide (a ≤ xs.length) && decide ((xs.length : Int) ≤ b)
    | some (.tup xs) => decide (a ≤ xs.length) && decide ((xs.length : Int) ≤ b)
    | _ => false
  | _ => false
def sigB : V → Int → Int → Bool
  | .str s, a, b => decide (a ≤ s.length) && (decide ((s.length : Int) ≤ b) && decide (Txt.stripChars s "01" = ""))
  | _, _, _ => false
theorem isT_str {H : Hp} {v : V} (ha : An H v) : (∃ s : Str, v = .str s ∧ s.length ≤ 100000 ∧ isT "str" H v = true) ∨ (isT "str" H v = false ∧ ∀ a b, sigB v a b = false) := by
  cases ha with
  | str h => exact .inl ⟨_, rfl, h, rfl⟩
  | non => exact .inr ⟨rfl, fun _ _ => rfl⟩
  | bl b => exact .inr ⟨rfl, fun _ _ => rfl⟩
  | int i => exact .inr ⟨rfl, fun _ _ => rfl⟩
  | lst h => exact .inr ⟨by simp [isT, tn, h], fun _ _ => rfl⟩
  | tup h => exact .inr ⟨by simp [isT, tn, h], fun _ _ => rfl⟩
  | dK h => exact .inr ⟨by simp [isT, tn, h], fun _ _ => rfl⟩
def nameB (v : V) : Bool := sigB v 1 60
def items (H : Hp) : V → List V
  | .ref p => match H p with
    | some (.lst xs) => xs
    | some (.tup xs) => xs
    | _ => []
  | _ => []
structure An2 (H : Hp) (v : V) : Prop where
  an : An H v
  it : ∀ x ∈ items H v, An H x
theorem items_mono {H H' : Hp} {v : V} (s : Same H H') (h : An H v) : items H' v = items H v := by
  cases h with
  | non => rfl
  | bl b => rfl
  | int i => rfl
  | str h => rfl
  | lst h => simp only [items, h, s _ _ h]
  | tup h => simp only [items, h, s _ _ h]
  | dK h => simp only [items, h, s _ _ h]
theorem An2.mono {H H' : Hp} {v : V} (s : Same H H') (h : An2 H v) : An2 H' v :=
  ⟨h.an.mono s, fun x hx => (h.it x (by rw [items_mono s h.an] at hx; exact hx)).mono s⟩
def partB (x : V) : Bool := inB x (.int 1) (.int 1000000)
def pairB (H : Hp) (v : V) : Bool := rowB H v 2 2 && (items H v).all partB
def spIsInt : Sp := fun vs H Q _ => ∃ v, vs = [v] ∧ An H v ∧ Q (.bl (isI v)) H
def spWithin : Sp := fun vs H Q _ => ∃ v lo hi, vs = [v, lo, hi] ∧ An H v ∧ Bd lo ∧ Bd hi ∧ Q (.bl (inB v lo hi)) H
def spRow : Sp := fun vs H Q _ => ∃ v a b, vs = [v, .int a, .int b] ∧ An H v ∧ ∀ H', Same H H' → Q (.bl (rowB H v a b)) H'

def spSig : Sp := fun vs H Q _ => ∃ v a b, vs = [v, .int a, .int b] ∧ An H v ∧ Q (.bl (sigB v a b)) H
def spAny1 (r : Hp → V → Bool) : Sp := fun vs H Q _ => ∃ v, vs = [v] ∧ An H v ∧ Q (.bl (r H v)) H
def spPair : Sp := fun vs H Q _ => ∃ v, vs = [v] ∧ An2 H v ∧ ∀ H', Same H H' → Q (.bl (pairB H v)) H'
end Own
set_option Elab.async false
set_option linter.all false
set_option maxRecDepth 100000
set_option maxHeartbeats 4000000
/-! texts of the signs 0 and 1 -/
namespace Own
open PySem PySem.Spec PyProof.Rows L2
theorem takeWhile_all {p : Nat → Bool} : ∀ {l : List Nat}, (∀ c ∈ l, p c = true) → l.takeWhile p = l
  | [], _ => rfl
  | c :: l, h => by
    rw [List.takeWhile_cons, if_pos (h c List.mem_cons_self), takeWhile_all fun d hd => h d (List.mem_cons_of_mem _ hd)]
theorem strip_all {goes : Nat → Bool} {x : Str} (h : ∀ c ∈ x.cps.toList, goes c = true) : Txt.stripBy goes true true x = "" := by
  have lx : x.cps.toList.length = x.length := by simp [Str.length]
  have lo : stripLo goes true x = x.length := by
    unfold stripLo
    rw [if_pos rfl, takeWhile_all h, lx]
  have hi : stripHi goes true x x.length = x.length := by
    unfold stripHi
    rw [if_pos rfl, ← lx, List.drop_length]
    rfl
  unfold Txt.stripBy stripSame
  rw [lo, hi]
  by_cases h0 : x.length = 0
  · rw [h0]
    have : x.cps = #[] := by
      have := h0
      simp only [Str.length, Array.size_eq_zero_iff] at this
      exact this
    have e : x = "" := by
      cases x
      cases this
      rfl
    rw [if_pos (by rfl), e]
  · rw [if_neg (by simp [h0])]
    unfold stripped
    rw [lo, hi]
    unfold Builtin.Str.strSub
    have e : x.cps.extract x.length x.length = #[] := Array.extract_empty_of_stop_le_start (Nat.le_refl _)
    rw [e]
    rfl
/-- of the signs 0 and 1 alone -/
def Sg (z : Str) : Prop := ∀ c ∈ z.cps.toList, c = 48 ∨ c = 49
theorem Sg.strip {z : Str} (h : Sg z) : Txt.stripChars z "01" = "" := strip_all fun c hc => by
  rcases h c hc with rfl | rfl <;> decide +kernel
theorem Sg.name {z : Str} (h : Sg z) (h1 : 1 ≤ z.length) (h2 : z.length ≤ 60) : nameB (.str z) = true := by
  show (decide ((1 : Int) ≤ z.length) && (decide ((z.length : Int) ≤ 60) && decide (Txt.stripChars z "01" = ""))) = true
  rw [h.strip]
  simp only [Bool.and_eq_true, decide_eq_true_eq]
  exact ⟨by omega, by omega, trivial⟩
end Own
namespace Own
open PySem PySem.Spec PyProof.Rows L2
theorem joinL_nil : ∀ ys : List (List Nat), TL.joinL [] ys = ys.flatten
  | [] => rfl
  | [p] => by simp [TL.joinL]
  | p :: q :: r => by
    have ih := joinL_nil (q :: r)
    show p ++ ([] ++ TL.joinL [] (q :: r)) = _
    rw [ih, List.nil_append]
    simp
theorem join_empty (ys : List Str) : Txt.join "" ys = SX.S ((ys.map fun y => y.cps.toList).flatten) := by
  have h := SX.join_S [] (ys.map fun y => y.cps.toList)
  rw [joinL_nil] at h
  have e : (ys.map fun y => y.cps.toList).map SX.S = ys := by
    rw [List.map_map]
    conv => rhs; rw [← List.map_id ys]
    exact List.map_congr_left fun y _ => SX.S_tl y
  rw [e] at h
  exact h
/-- one sign each -/
theorem join_signs : ∀ {ys : List Str}, (∀ y ∈ ys, y = "0" ∨ y = "1") → (Txt.join "" ys).length = ys.length ∧ Sg (Txt.join "" ys) := by
  intro ys h
  rw [join_empty]
  have key : ∀ ys : List Str, (∀ y ∈ ys, y = "0" ∨ y = "1") → ((ys.map fun y => y.cps.toList).flatten).length = ys.length ∧ ∀ c ∈ (ys.map fun y => y.cps.toList).flatten, c = 48 ∨ c = 49 := by
    intro ys
    induction ys with
    | nil => intro _; exact ⟨rfl, fun c hc => by cases hc⟩
    | cons y ys ih =>
      intro h
      obtain ⟨a, b⟩ := ih fun z hz => h z (List.mem_cons_of_mem _ hz)
      have e : y.cps.toList = [48] ∨ y.cps.toList = [49] := by
        rcases h y List.mem_cons_self with rfl | rfl
        · exact .inl (by decide +kernel)
        · exact .inr (by decide +kernel)
      rw [List.map_cons, List.flatten_cons]
      rcases e with e | e <;> rw [e]
      · exact ⟨by simp [a], fun c hc => by rcases List.mem_cons.mp hc with rfl | hc; exact .inl rfl; exact b c hc⟩
      · exact ⟨by simp [a], fun c hc => by rcases List.mem_cons.mp hc with rfl | hc; exact .inr rfl; exact b c hc⟩
  obtain ⟨a, b⟩ := key ys h
  exact ⟨by rw [SX.S_len]; exact a, by simpa [Sg] using b⟩
end Own
set_option Elab.async false
set_option linter.all false
set_option maxRecDepth 100000
set_option maxHeartbeats 4000000
/-! [f(x) for x in xs], where nothing that stood before is changed -/
namespace Own
open PySem PySem.Spec PyProof.Rows L2
theorem same_app {H H' : Hp} {D : Addr} {o o' : HO} (s : Same (upd H D o) H') (hD : H D = none) : Same H (upd H' D o') := fun b u e => by
  have nb := ne_of_none e hD
  rw [upd_ne nb]
  exact s b u ((upd_ne nb).trans e)
theorem lc_map {J : It} {xs : List V} {G : Hp → Prop} {f : V → V} {te : TE} {vs : List Nat} {σ : L2.St} {H1 : Hp} {D : Addr} {Qd : Hp → Prop} {j : Nat} (w : Walk J xs.length G (YAt xs)) (hD : H1 D = none) (hG : ∀ H', Same H1 H' → G H') (few : xs.length ≤ sizeLine)
    (wp : ∀ x : V, wipe ((wipe σ vs).set j (some x)) vs = wipe σ vs)
    (hs : ∀ (i : Nat) (x : V) (H' : Hp) (R : VK), xs[i]? = some x → Same H1 H' → (∀ H'', Same H' H'' → R (f x) H'') → te ((wipe σ vs).set j (some x)) H' R) (hd : ∀ H', Same H1 H' → H' D = some (.lst (xs.map f)) → Qd H') :
    ∃ W : Nat → Nat → Hp → Prop, (∃ m, W 0 m (upd H1 D (.lst []))) ∧ ∀ i m H, W i m H →
      (J.stop i H ∧ Qd H) ∨ (J.go i H ∧ ∃ Nx : Hp → Prop, (∀ H', Nx H' → ∃ m', m' < m ∧ W (i + 1) m' H') ∧ ∀ x H', J.yld i H x H' → gName j x (wipe σ vs) H' fun σ2 H2 => wipe σ2 vs = wipe σ vs ∧ tYes σ2 H2 fun b H3 =>
        if b = true then te σ2 H3 fun y H4 => ∃ acc, H4 D = some (.lst acc) ∧ acc.length < sizeLine ∧ Nx (upd H4 D (.lst (acc ++ [y]))) else Nx H3) := by
  refine lc_it w (fun i H' => Same H1 H' ∧ H' D = some (.lst ((xs.take i).map f))) ⟨same_new hD, by rw [upd_same]; rfl⟩ (fun _ _ _ p => hG _ p.1) (fun i x H H' hi ⟨s, hl⟩ y => ?_) (fun H' ⟨s, hl⟩ => hd H' s (by rw [hl, List.take_length]))
  obtain ⟨rfl, hx⟩ := y
  refine ⟨wp x, yes_if ?_⟩
  refine hs i x H' _ hx s fun H2 s2 => ?_
  refine ⟨_, s2 _ _ hl, ?_, same_mut (s.trans s2) hD, ?_⟩
  · rw [List.length_map, List.length_take]
    omega
  · rw [upd_same, take_map_succ _ hx]
end Own
namespace Own
open PySem PySem.Spec PyProof.Rows L2
theorem take_rng {n i : Nat} (f : Nat → V) (_h : i < n) : (List.range (i + 1)).map f = (List.range i).map f ++ [f i] := by
  rw [List.range_succ, List.map_append]
  rfl
/-- .. over what yields f0 0, f0 1, .. -/
theorem lc_rng {J : It} {n : Nat} {G : Hp → Prop} {f0 f : Nat → V} {te : TE} {vs : List Nat} {σ : L2.St} {H1 : Hp} {D : Addr} {Qd : Hp → Prop} {j : Nat} (w : Walk J n G (YFn f0)) (hD : H1 D = none) (hG : ∀ H', Same H1 H' → G H') (few : n ≤ sizeLine)
    (wp : ∀ x : V, wipe ((wipe σ vs).set j (some x)) vs = wipe σ vs)
    (hs : ∀ (i : Nat) (H' : Hp) (R : VK), i < n → Same H1 H' → (∀ H'', Same H' H'' → R (f i) H'') → te ((wipe σ vs).set j (some (f0 i))) H' R) (hd : ∀ H', Same H1 H' → H' D = some (.lst ((List.range n).map f)) → Qd H') :
    ∃ W : Nat → Nat → Hp → Prop, (∃ m, W 0 m (upd H1 D (.lst []))) ∧ ∀ i m H, W i m H →
      (J.stop i H ∧ Qd H) ∨ (J.go i H ∧ ∃ Nx : Hp → Prop, (∀ H', Nx H' → ∃ m', m' < m ∧ W (i + 1) m' H') ∧ ∀ x H', J.yld i H x H' → gName j x (wipe σ vs) H' fun σ2 H2 => wipe σ2 vs = wipe σ vs ∧ tYes σ2 H2 fun b H3 =>
        if b = true then te σ2 H3 fun y H4 => ∃ acc, H4 D = some (.lst acc) ∧ acc.length < sizeLine ∧ Nx (upd H4 D (.lst (acc ++ [y]))) else Nx H3) := by
  refine lc_it w (fun i H' => Same H1 H' ∧ H' D = some (.lst ((List.range i).map f))) ⟨same_new hD, by rw [upd_same]; rfl⟩ (fun _ _ _ p => hG _ p.1) (fun i x H H' hi ⟨s, hl⟩ y => ?_) (fun H' ⟨s, hl⟩ => hd H' s hl)
  obtain ⟨rfl, rfl⟩ := y
  refine ⟨wp _, yes_if ?_⟩
  refine hs i H' _ hi s fun H2 s2 => ?_
  refine ⟨_, s2 _ _ hl, ?_, same_mut (s.trans s2) hD, ?_⟩
  · rw [List.length_map, List.length_range]
    omega
  · rw [upd_same, take_rng f hi]
end Own
namespace Own
open PySem PySem.Spec PyProof.Rows L2
/-! rules whose reading names the written part, for a comprehension's own context -/
theorem ix_listK {X : Cx} {K : PySem.W.Frag} (hK : X.K = K) : IxR X (rIxL K) := hK ▸ ix_list
theorem pe_bmK {X : Cx} {K : PySem.W.Frag} {o e : Expr} {es : List Expr} {to : TE} {t : TA} {name : Str} {apos cpos : Pos} {T id : String} {r : V → List V → Hp → VK → Prop} (hK : X.K = K) (pa : PlainAttrs T) (slot : Slot T name id) (hty : typeOf (.builtin id) = pure (.type "method_descriptor")) (hm : MtR X id r) (ho : PE X o to) (ha : PA X (e :: es) t)
    (hbase : attributeBase o name X.env (eval o X.env) = eval o X.env := by rfl)
    (hfew : ((backTo cpos (starEach (e :: es) X.env)).all (fun x => !x.1) && (backToKw cpos (keywordEach [] X.env)).all (fun x => x.1.isSome)
      && decide ((e :: es).length + ([] : List Keyword).length + (if ([] : List Keyword).isEmpty then 0 else 1) < 30)) = true := by rfl)
    (hline : (apos.endLine == cpos.line) = true := by rfl) (hs : starEach (e :: es) X.env = (false, eval e X.env) :: starEach es X.env := by rfl) (hplain : (backTo cpos (starEach es X.env)).any (·.1) = false := by rfl) :
    PE X (.Call (.Attribute o name apos) (e :: es) [] cpos) (tBM K T r to t) := hK ▸ pe_bm pa slot hty hm ho ha hbase hfew hline hs hplain
end Own
set_option Elab.async false
set_option linter.all false
set_option maxRecDepth 100000
set_option maxHeartbeats 4000000
/-! enumerate of a tuple; a dict comprehension over any walk -/
namespace Own
open PySem PySem.Spec PyProof.Rows L2
set_option maxHeartbeats 8000000 in
theorem own_meets_enum {v : Value} {o : Obj} {H : Heap → Prop} (B : Begins v o H) :
    Meets (Builtin.«enumerate.__new__» ⟨[.type "enumerate", v], []⟩) (fun _ R s => H s.heap ∧
      R (.ok (.ret (.ref (s.heap.push o).objs.size))) { s with heap := (s.heap.push o).push { cls := .type "enumerate", data := .fields #[.none, .bool false, .ref s.heap.objs.size, rawInt 0, .none, .none] } }) :=
  .of_wp fun prog w A R s h => by
    obtain ⟨hp, g, d, tk, os⟩ := s; obtain ⟨h1, h⟩ := h
    have hsub := sub_enumerate
    have q1 : ∀ {A' : Around} {E : Value → Shared → Prop} {Q : Value → Shared → Prop}, Q (.ref hp.objs.size) ⟨hp.push o, g, d, tk, os⟩ → wpAny (model prog w) A' (pyIter v) Q E ⟨hp, g, d, tk, os⟩ :=
      fun q => B.iter prog w _ _ ⟨hp, g, d, tk, os⟩ _ h1 q
    wp_walk using q1
    refine wpAny_stack_any fun st => wpAny_pure ?_
    split
    · rename_i c _ _ _ _ _
      cases (c == Value.type "enumerate")
      · wp_walk using q1
        exact ⟨_, rfl, h⟩
      · wp_walk using q1
        exact ⟨_, rfl, h⟩
    · wp_walk using q1
      exact ⟨_, rfl, h⟩
section
variable {prog : Program} {w : World} {A : Around} {E : Value → Shared → Prop} {s : Shared}
theorem own_enum_begins {v : Value} {o : Obj} {H : Heap → Prop} {Q : Value → Shared → Prop} (B : Begins v o H) (h1 : H s.heap)
    (h : ∀ h', IsEnum h' (s.heap.objs.size + 1) s.heap.objs.size 0 .none → h'.get? s.heap.objs.size = some o → h'.objs.size = s.heap.objs.size + 2 →
      (∀ b o, s.heap.get? b = some o → h'.get? b = some o) → Q (.ref (s.heap.objs.size + 1)) { s with heap := h' }) :
    wpAny (model prog w) A (call (.type "enumerate") [v]) Q E s := by
  refine callType_new F.called_enumerate (by decide) (F.typeCall_enumerate_1 _) (F.newCall_enumerate_1 _) (fun obj => F.args_object_init_2 obj _) F.entry_enumerate_new
    (own_meets_enum B) ⟨h1, ?_⟩
  have hz : (s.heap.push o).objs.size = s.heap.objs.size + 1 := Heap.size_push ..
  show _ ∧ _
  rw [hz]
  have he : IsEnum ((s.heap.push o).push { cls := .type "enumerate", data := .fields #[.none, .bool false, .ref s.heap.objs.size, rawInt 0, .none, .none] }) (s.heap.objs.size + 1) s.heap.objs.size 0 .none := by
    have := Heap.get?_push_size (s.heap.push o) (o := { cls := .type "enumerate", data := .fields #[.none, .bool false, .ref s.heap.objs.size, rawInt 0, .none, .none] }) rfl
    rw [hz] at this; exact this
  refine ⟨⟨_, he, rfl⟩, h _ he (Heap.get?_push_of_some _ (Heap.get?_push_size _ B.free)) (by rw [Heap.size_push, hz]) fun b o x => Heap.get?_push_of_some _ (Heap.get?_push_of_some _ x)⟩
end
def IteT (K : PySem.W.Frag) (a : Addr) : It :=
  ⟨fun i H => ∃ (xs : List V) (x : V), SqT K H a xs ∧ xs[i]? = some x, fun i H v H' => ∃ T x, v = .ref T ∧ H T = none ∧ H' = upd H T (.tup [.int (i : Nat), x]) ∧ ∀ xs, SqT K H a xs → xs[i]? = some x, fun i H => ∃ xs : List V, SqT K H a xs ∧ xs.length ≤ i⟩
theorem iter_ne {h : Heap} {it a : Addr} {i : Nat} {its : Array Value} (x : h.IsTupleIter it a i) (p : h.IsTuple a its) : a ≠ it := by
  rintro rfl
  obtain ⟨o, e, c, _⟩ := x
  obtain ⟨o', e', c', _⟩ := p
  rw [e] at e'
  cases e'
  rw [c] at c'
  exact absurd c' (by decide)
theorem enum_neT {h : Heap} {e it a : Addr} {c : Int} {old : Value} {its : Array Value} (x : IsEnum h e it c old) (p : h.IsTuple a its) : e ≠ a := by
  rintro rfl
  obtain ⟨o', e', c', _⟩ := p
  rw [x] at e'
  cases e'
  exact absurd (show Value.type "enumerate" = Value.type "tuple" from c') (by decide)
theorem turn_enumT {P : Program} {w : World} {K : PySem.W.Frag} {elts : List Expr} {kk : Nat} {tpos : Pos} (a e it : Addr) :
    Turn P w K (.Tuple elts kk tpos) (IteT K a) [e, it] e (fun i h => (∃ old, IsEnum h e it ((i : Nat) : Int) old) ∧ h.IsTupleIter it a i ∧ e ≠ it) where
  mem := by simp
  obj := fun i h st b hb => by
    obtain ⟨⟨old, he⟩, ⟨o, ho, hc, hd⟩, _⟩ := st
    have e' : b = e ∨ b = it := by simpa using hb
    rcases e' with z | z
    · rw [z]; exact ⟨_, he, fun v q => nomatch q⟩
    · rw [z]; exact ⟨o, ho, fun v q => by rw [hd] at q; cases q⟩
  keep := fun i h h' st k => let ⟨⟨old, he⟩, hi, hne⟩ := st; ⟨⟨old, k e (by simp) _ he⟩, hi.at fun o q => k it (by simp) o q, hne⟩
  item := by
    intro X hP hw hK hc i pins s σ H E I hf st hg
    subst hP hw hK
    obtain ⟨⟨old, he⟩, hit, hne⟩ := st
    obtain ⟨xs, x, hq, hx⟩ := hg
    obtain ⟨its, rv, p, hz⟩ := I.tuple hq
    have p : s.heap.IsTuple a its.toArray := p
    obtain ⟨u, hu, ru⟩ := rv.get hx
    have hel : e < s.heap.objs.size := Heap.lt_size he
    have hil : it < s.heap.objs.size := by obtain ⟨_, q, _⟩ := hit; exact Heap.lt_size q
    have ilt : i < its.toArray.size := by
      have := (List.getElem?_eq_some_iff.mp hu).1
      simpa using this
    refine wpAny_pyNext_enum_itemD (Draws.tuple (prog := X.prog) (w := X.w) (A := X.A.in1) (I.ok.hd hc) it a (iter_ne hit p) its.toArray) he ⟨hit, p⟩ ilt hne (by simp [hne, enum_neT he p]) fun x' h' tk hP ho hst hT hsz hk => ?_
    have xu : x' = u := by
      have hP : its.toArray[i]? = some x' := hP
      rw [List.getElem?_toArray, hu] at hP
      cases hP
      rfl
    subst xu
    obtain ⟨hit', p'⟩ := hst
    refine ⟨_, rfl, wpAny_letOwnedTupleGo_enum (s := { s with heap := h', toks := tk + 1 }) ho fun h'' he' sb => ?_⟩
    have hT2 : h''.get? s.heap.objs.size = some { cls := .type "tuple", data := .seq #[.int i tk, x'] } := (sb.2 _ (Nat.ne_of_gt hel)).trans hT
    have new : ObjOk X.prog X.w (upd H s.heap.objs.size (.tup [.int (i : Nat), x])) h'' s.heap.objs.size (.tup [.int (i : Nat), x]) :=
      ⟨by show 2 ≤ sizeLine; decide, [.int i tk, x'], .cons ⟨_, rfl⟩ (.cons ru .nil), ⟨_, hT2, rfl, _, rfl⟩⟩
    have I1 : Inv X pins σ (upd H s.heap.objs.size (.tup [.int (i : Nat), x])) { s with heap := h'', toks := tk + 1 } :=
      I.turnedNew (ch := [e, it]) (fun b ob hb q => (sb.2 b (fun z => hb (by simp [z]))).trans (hk b ob (fun z => hb (by simp [z])) (fun z => hb (by simp [z])) q)) hf (Nat.le_refl _) new
    refine ⟨.ref s.heap.objs.size, _, I1, rfl, ⟨_, x, rfl, I.hok.fresh (Nat.le_refl _), rfl, fun ys hy => by rw [I.tuple_inj hy hq]; exact hx⟩, ⟨⟨x', ?_⟩, hit'.at fun o q => (sb.2 it (Ne.symm hne)).trans q, hne⟩, fun b hb => ?_⟩
    · have e1 : ((i + 1 : Nat) : Int) = (i : Int) + 1 := by omega
      rw [e1]; exact he'
    · have hb' : b < s.heap.objs.size := by
        have e' : b = e ∨ b = it := by simpa using hb
        rcases e' with z | z
        · rw [z]; exact hel
        · rw [z]; exact hil
      rw [upd_ne (Nat.ne_of_lt hb')]
      exact (hf b hb).1
  done := by
    intro X hP hw hK hc i pins s σ H E I hf st hg
    subst hP hw hK
    obtain ⟨⟨old, he⟩, hit, hne⟩ := st
    obtain ⟨xs, hq, hx⟩ := hg
    obtain ⟨its, rv, p, hz⟩ := I.tuple hq
    have p : s.heap.IsTuple a its.toArray := p
    obtain ⟨f0, f1, f2, f3, f4, f5⟩ := hf it (by simp)
    have hl := rv.length
    have hT : s.TypeIs (.ref e) "enumerate" := ⟨_, he, rfl⟩
    unfold pyNext
    refine wpAny_bind (wpAny_attempt (wpAny_callSpecial?_slot (name := Str.ofString "__next__") hT F.slot_enumerate_next
      (wpAny_call_entry F.slot_enumerate_next hT F.entry_enumerate_next ?_ (F.args_enumerate_next_1 _))))
    show wpAny _ _ (field (.ref e) 2 >>= _) _ _ _
    refine wpAny_bind (wpAny_field he rfl (x := .ref it) rfl ?_)
    refine wpAny_bind (wpAny_nextOf_tuple_end (I.ok.hd hc) hit p (by simp; omega) fun h' x he' hx' => ?_)
    obtain ⟨o, ho, hc⟩ := hx'
    refine wpAny_bind (wpAny_isInstance (T := "StopIteration") (b := true) ⟨o, ho, hc⟩ isSubtype_stop ?_)
    exact wpAny_pure ⟨rfl, I.turned (t' := s.toks) (fun b o hb q => he' b o hb q) f0 f1 f3 f4 f5⟩
  self := fun A i s Q E st h => let ⟨⟨_, he⟩, _⟩ := st; wpAny_pyIter_enum he h
def iEnumT (K : PySem.W.Frag) (ta : TA) : TI := fun σ H R => ta σ H fun vs H1 => ∃ a xs, vs = [.ref a] ∧ SqT K H1 a xs ∧ R (IteT K a) H1
theorem pi_enumT {X : Cx} {e : Expr} {ta : TA} {p pos tpos : Pos} {elts : List Expr} {kk : Nat} (hg : Gl X "enumerate") (hm : X.mg "enumerate" = none) (ha : PA X [e] ta) (hs : starEach [e] X.env = [(false, eval e X.env)] := by rfl) :
    PI X (.Tuple elts kk tpos) (.Call (.Name "enumerate" p) [e] [] pos) (iEnumT X.K ta) := by
  refine ⟨fun pins s σ H R I h => ?_⟩
  refine Call_ (ld_blt I hg hm boot_enumerate (PyProof.Rows.callWith_type1 (thn (ha.run pos pins s σ H _ I h) fun us s1 ⟨vs, H1, I1, r1, q1⟩ => ?_) hs rfl))
  obtain ⟨a, xs, ex, hq, q⟩ := q1
  subst ex
  cases r1 with
  | cons r rr =>
    cases rr
    cases r
    obtain ⟨its, rv, p', hz⟩ := I1.tuple hq
    refine own_enum_begins (begins_tuple a its.toArray) (show s1.heap.IsTuple a its.toArray from p') fun h' he hit hsz hk => wpAny_pyIter_enum he ?_
    have I2 : Inv X pins σ H1 { s1 with heap := h' } := I1.kept (t' := s1.toks) hk
    refine ⟨s1.heap.objs.size + 1, [s1.heap.objs.size + 1, s1.heap.objs.size], _, _, H1, rfl, I2, turn_enumT a (s1.heap.objs.size + 1) s1.heap.objs.size, ⟨⟨.none, he⟩, ⟨_, hit, rfl, rfl⟩, Nat.succ_ne_self _⟩, fun b hb => ?_, q⟩
    have e' : b = s1.heap.objs.size + 1 ∨ b = s1.heap.objs.size := by simpa using hb
    have hle : s1.heap.objs.size ≤ b := by
      rcases e' with z | z
      · rw [z]; exact Nat.le_add_right _ _
      · rw [z]; exact Nat.le_refl _
    exact I1.fpOk hle (I1.hok.fresh hle)
theorem walk_enumT {K : PySem.W.Frag} {a : Addr} {xs : List V} : Walk (IteT K a) xs.length (fun H => SqT K H a xs) (YPair (fun i => some (.int (i : Nat))) (fun i => xs[i]?)) := by
  refine ⟨fun i _ hi q => ⟨xs, xs[i], q, by simp [hi]⟩, fun _ q => ⟨xs, q, Nat.le_refl _⟩, fun i H v H' _ q y => ?_⟩
  obtain ⟨T, x, h1, h2, h3, h4⟩ := y
  exact ⟨T, .int (i : Nat), x, h1, h2, h3, rfl, h4 xs q⟩
theorem dc_it {J : It} {n : Nat} {G : Hp → Prop} {Y : Nat → Hp → V → Hp → Prop} (w : Walk J n G Y) {g : TG} {tt : TT} {tk tv : TE} {vs : List Nat} {σ : L2.St} {H1 : Hp} {D : Addr} {Qd : Hp → Prop} (Pv : Nat → Hp → Prop) (h0 : Pv 0 (upd H1 D (.dK []))) (hG : ∀ i H, i ≤ n → Pv i H → G H)
    (hs : ∀ i x H H', i < n → Pv i H → Y i H x H' → g x (wipe σ vs) H' fun σ2 H2 => wipe σ2 vs = wipe σ vs ∧ tt σ2 H2 fun b H3 =>
      if b = true then tk σ2 H3 fun y H4 => tv σ2 H4 fun z H5 => ∃ kvs k, y = kV k ∧ H5 D = some (.dK kvs) ∧ kvs.length < sizeLine ∧ Pv (i + 1) (upd H5 D (.dK (putK kvs k z))) else Pv (i + 1) H3) (hd : ∀ H, Pv n H → Qd H) :
    ∃ W : Nat → Nat → Hp → Prop, (∃ m, W 0 m (upd H1 D (.dK []))) ∧ ∀ i m H, W i m H →
      (J.stop i H ∧ Qd H) ∨ (J.go i H ∧ ∃ Nx : Hp → Prop, (∀ H', Nx H' → ∃ m', m' < m ∧ W (i + 1) m' H') ∧ ∀ x H', J.yld i H x H' → g x (wipe σ vs) H' fun σ2 H2 => wipe σ2 vs = wipe σ vs ∧ tt σ2 H2 fun b H3 =>
        if b = true then tk σ2 H3 fun y H4 => tv σ2 H4 fun z H5 => ∃ kvs k, y = kV k ∧ H5 D = some (.dK kvs) ∧ kvs.length < sizeLine ∧ Nx (upd H5 D (.dK (putK kvs k z))) else Nx H3) := by
  refine ⟨fun i m H => m = n - i ∧ i ≤ n ∧ Pv i H, ⟨n, by simp, Nat.zero_le _, h0⟩, ?_⟩
  rintro i m H ⟨rfl, hi, p⟩
  have q := hG i H hi p
  by_cases hlt : i < n
  · exact .inr ⟨w.goes i H hlt q, Pv (i + 1), fun H' p' => ⟨n - (i + 1), by omega, rfl, hlt, p'⟩, fun x H' y => hs i x H H' hlt p (w.yields i H x H' hlt q y)⟩
  · have e : i = n := by omega
    subst e
    exact .inl ⟨w.stops H q, hd H p⟩

theorem sw_trueD {kx vx : Expr} {gs : List Comprehension} {scope : Scope} {pos py : Pos} {y : Str} {l : Nat} {env : Env} (hk : env.scope.kind = .function) (hy : env.scope.names.lookup y = some .local) (hl : (py.line == pos.line) = true)
    (ha : (scope.names.any fun (n, k) => n == y && (k == .local || k == .cell)) = false) : swapsWith (.DictComp kx vx gs scope pos) (some (.Name y py)) l env = pure true := by
  have ky : env.kindOf y = some .local := hy
  have hb : env.blockKind = .function := by unfold Env.blockKind; rw [hk]; rfl
  unfold swapsWith
  simp only [hb, ky, ha, Expr.pos, hl]
  rfl
theorem ps_setDc {X : Cx} {i : Nat} {y : Str} {py : Pos} {kx vx tg iter : Expr} {ifs : List Expr} {scope : Scope} {own : List (Str × Nat)} {pos spos : Pos} {wi : TI} {g : TG} {tt : TT} {tk tv : TE} (hc : X.calm = true) (hN : X.N.Nodup) (hy : X.N[i]? = some y) (hyl : X.env.scope.names.lookup y = some .local)
    (hsw : swapsWith (.DictComp kx vx [⟨tg, iter, ifs, 0⟩] scope pos) (some (.Name y py)) spos.line X.env = pure true) (hi : PI X tg iter wi) (ok : BlkOk X.N X.env.scope scope own)
    (hg : ∀ (s : Shared) (H : Hp) (C : Addr) (cl : List (Str × Addr)) (fp : List Addr), PG (X.blk s H scope (compEnvC scope cl C X.env) fp) tg g) (ht : ∀ (s : Shared) (H : Hp) (C : Addr) (cl : List (Str × Addr)) (fp : List Addr), PTs (X.blk s H scope (compEnvC scope cl C X.env) fp) ifs tt)
    (hk : ∀ (s : Shared) (H : Hp) (C : Addr) (cl : List (Str × Addr)) (fp : List Addr), PE (X.blk s H scope (compEnvC scope cl C X.env) fp) kx tk)
    (he : ∀ (s : Shared) (H : Hp) (C : Addr) (cl : List (Str × Addr)) (fp : List Addr), PE (X.blk s H scope (compEnvC scope cl C X.env) fp) vx tv) (hs : ∀ x, foldedSetIterable iter X.env x = pure x := by intro _; rfl) :
    PS X (.Assign [.Name y py] (.DictComp kx vx [⟨tg, iter, ifs, 0⟩] scope pos) spos) (tAsg (tDc wi g tt tk tv (own.map (·.2))) (gName i)) := by
  refine ⟨fun pins s σ H D I h => ?_⟩
  rw [exec_Assign_Name_used _ _ _ _ hsw]
  refine wpAny_bind (wpAny_standAt (wpAny_bind ?_))
  show wpAny _ X.A (do let _ ← comprehension (.DictComp kx vx [⟨tg, iter, ifs, 0⟩] scope pos) scope X.env (firstIterPos [⟨tg, iter, ifs, 0⟩] pos) newDict false (eval iter X.env) (some (assign (.Name y py) X.env))) _ _ s
  have h : tDc wi g tt tk tv (own.map (·.2)) σ H (fun x H1 => gName i x σ H1 D.nx) := h
  refine wpAny_bind (thn (dc_core (Qf := fun _ s' => SP X pins D .next s') hc hN I hi ok hg ht hk he hs h fun L C s' m H' I' q hn f => ?_) fun _ s' hq => wpAny_pure (wpAny_pure hq))
  show wpAny _ _ (assign (.Name y py) X.env (.ref L)) _ _ _
  refine wpAny_assign_Name (store_ok2 (v := V.ref L) I' hN hy (.inl hyl) rfl (fun s2 I2 ⟨a, sb, ha⟩ => ?_) (.inr hyl))
  obtain ⟨f0, f1, f2, f3, f4, f5⟩ := f
  have haC : C ≠ a := by
    rcases ha with z | z
    · rw [z]; exact f1
    · exact fun e => f4 y a z e.symm
  refine ⟨m, hn.sameBut sb haC, fun h3 sb3 => ?_⟩
  exact ⟨_, H', I2.turned (t' := s2.toks) (fun b o hb e => (sb3.2 b hb).trans e) f0 f1 f3 f4 f5, q⟩
theorem pg_tupK {X : Cx} {K : PySem.W.Frag} {es : List Expr} {k : Nat} {t : TGs} {n : Nat} {pos : Pos} (hK : X.K = K) (hc : X.calm = true) (h : PGs X es t)
    (hn : (assignEach es X.env).length = n := by rfl) (hst : (assignEach es X.env).findIdx? (·.1) = none := by rfl) : PG X (.Tuple es k pos) (gTup K n t) := hK ▸ pg_tup hc h hn hst
end Own
namespace Own
open PySem PySem.Spec PyProof.Rows L2
theorem mt_joinK {X : Cx} {K : PySem.W.Frag} (hK : X.K = K) : MtR X "str.join" (fun x xs H Q => ∃ (a : Str) (p : Addr) (ys : List Str), x = V.str a ∧ xs = [V.ref p] ∧ (SqL K H p (ys.map V.str) ∨ SqT K H p (ys.map V.str)) ∧ (ys.map (·.length)).sum + ys.length * a.length ≤ 16777216 ∧ Q (V.str (Txt.join a ys)) H) := hK ▸ mt_join
theorem erase_perm {α : Type} : ∀ (l : List α) (i : Nat) (h : i < l.length), l.Perm (l[i] :: l.eraseIdx i)
  | x :: l, 0, _ => .refl _
  | x :: l, i + 1, h => by
    have := erase_perm l i (Nat.lt_of_succ_lt_succ h)
    exact (this.cons x).trans (.swap _ _ _)
end Own
set_option Elab.async false
set_option linter.all false
set_option maxRecDepth 100000
set_option maxHeartbeats 4000000
/-! texts as lists of signs: none of which begins another one -/
namespace Own
open PySem PySem.Spec PyProof.Rows
def ApartL (l : List (List Nat)) : Prop := l.Pairwise fun a b => ¬ a <+: b ∧ ¬ b <+: a
theorem ApartL.perm {l m : List (List Nat)} (p : l.Perm m) : ApartL l ↔ ApartL m := p.pairwise_iff fun ⟨h1, h2⟩ => ⟨h2, h1⟩
theorem pre_le : ∀ {a b : List Nat}, a <+: b → ¬ b < a
  | [], _, _ => List.not_lt_nil _
  | x :: a, b, h => by
    cases b with
    | nil => simp at h
    | cons y b =>
      rw [List.cons_prefix_cons] at h
      obtain ⟨rfl, h⟩ := h
      intro z
      rcases List.cons_lt_cons_iff.mp z with q | ⟨_, q⟩
      · exact Nat.lt_irrefl _ q
      · exact pre_le h q
theorem le_pre : ∀ {a b c : List Nat}, ¬ b < a → ¬ c < b → a <+: c → a <+: b
  | [], b, _, _, _, _ => List.nil_prefix
  | x :: a, b, c, h1, h2, h => by
    cases c with
    | nil => simp at h
    | cons y c =>
      rw [List.cons_prefix_cons] at h
      obtain ⟨rfl, h⟩ := h
      cases b with
      | nil => exact (h1 (List.nil_lt_cons _ _)).elim
      | cons z b =>
        rw [List.cons_lt_cons_iff, not_or] at h1 h2
        have e : x = z := by omega
        subst e
        rw [List.cons_prefix_cons]
        exact ⟨rfl, le_pre (fun q => h1.2 ⟨rfl, q⟩) (fun q => h2.2 ⟨rfl, q⟩) h⟩
theorem le_anti {a b : List Nat} (h1 : ¬ b < a) (h2 : ¬ a < b) : a = b := by
  rw [List.not_lt] at h1 h2
  exact List.le_antisymm h1 h2
/-- of each two neighbours the first begins the second somewhere -/
def adj : List (List Nat) → Bool
  | a :: b :: r => a.isPrefixOf b || adj (b :: r)
  | _ => false
theorem adj_iff : ∀ {l : List (List Nat)}, l.Pairwise (fun x y => ¬ y < x) → (adj l = true ↔ ¬ ApartL l)
  | [], _ => by simp [adj, ApartL]
  | [a], _ => by simp [adj, ApartL]
  | a :: b :: r, h => by
    have h' := List.pairwise_cons.mp h
    have ih := adj_iff h'.2
    have hb := (List.pairwise_cons.mp h'.2).1
    have key : (∀ y ∈ b :: r, ¬ a <+: y ∧ ¬ y <+: a) ↔ ¬ a <+: b := by
      constructor
      · intro k
        exact (k b List.mem_cons_self).1
      · intro k y hy
        have up : ¬ y < b := by
          rcases List.mem_cons.mp hy with rfl | hy
          · exact List.lt_irrefl _
          · exact hb y hy
        have one : ¬ a <+: y := fun z => k (le_pre (h'.1 b List.mem_cons_self) up z)
        refine ⟨one, fun z => one ?_⟩
        have e := le_anti (h'.1 y hy) (pre_le z)
        rw [← e]
        exact List.prefix_rfl
    have eq : ApartL (a :: b :: r) ↔ ¬ a <+: b ∧ ApartL (b :: r) := by
      unfold ApartL
      rw [List.pairwise_cons, key]
    rw [eq]
    show (a.isPrefixOf b || adj (b :: r)) = true ↔ _
    rw [Bool.or_eq_true, List.isPrefixOf_iff_prefix, ih, Classical.not_and_iff_not_or_not, Classical.not_not]
theorem adj_range : ∀ l : List (List Nat), adj l = ((List.range (l.length - 1)).map fun i => (l.getD i []).isPrefixOf (l.getD (i + 1) [])).any id
  | [] => rfl
  | [_] => rfl
  | a :: b :: r => by
    have ih := adj_range (b :: r)
    show (a.isPrefixOf b || adj (b :: r)) = _
    rw [ih, show (a :: b :: r).length - 1 = ((b :: r).length - 1) + 1 by simp, List.range_succ_eq_map]
    simp [List.any_map, Function.comp_def]
end Own
namespace Own
open PySem PySem.Spec PyProof.Rows
theorem starts_pre (x y : Str) : Txt.startswith x y = (y.cps.toList).isPrefixOf x.cps.toList := by
  have lx : x.cps.toList.length = x.length := by simp [Str.length]
  have ly : y.cps.toList.length = y.length := by simp [Str.length]
  unfold Txt.startswith
  rw [StrLaws.subAt_eq, List.drop_zero, Bool.eq_iff_iff, Bool.and_eq_true, decide_eq_true_eq, beq_iff_eq, List.isPrefixOf_iff_prefix, List.prefix_iff_eq_take, ly]
  constructor
  · intro h
    exact h.2.symm
  · intro h
    refine ⟨?_, h.symm⟩
    have e := congrArg List.length h
    rw [List.length_take, lx, ly] at e
    omega
end Own
set_option Elab.async false
set_option linter.all false
set_option maxRecDepth 100000
set_option maxHeartbeats 4000000
/-! texts put together of names that are apart -/
namespace Own
open PySem PySem.Spec PyProof.Rows
def flat (L : List (List Nat)) (row : List Nat) : List Nat := (row.map fun i => L.getD i []).flatten
def Joins (L : List (List Nat)) (t : List Nat) (row : List Nat) : Prop := (∀ i ∈ row, i < L.length) ∧ flat L row = t
theorem flat_nil (L : List (List Nat)) : flat L [] = [] := rfl
theorem flat_cons (L : List (List Nat)) (i : Nat) (row : List Nat) : flat L (i :: row) = L.getD i [] ++ flat L row := rfl
theorem flat_app (L : List (List Nat)) (a b : List Nat) : flat L (a ++ b) = flat L a ++ flat L b := by
  unfold flat
  rw [List.map_append, List.flatten_append]
theorem ap_pre {L : List (List Nat)} (ap : ApartL L) {i j : Nat} {t : List Nat} (hi : i < L.length) (hj : j < L.length) (h1 : L.getD i [] <+: t) (h2 : L.getD j [] <+: t) : i = j := by
  have ei : L.getD i [] = L[i] := by simp [List.getD_eq_getElem?_getD, List.getElem?_eq_getElem hi]
  have ej : L.getD j [] = L[j] := by simp [List.getD_eq_getElem?_getD, List.getElem?_eq_getElem hj]
  rw [ei] at h1
  rw [ej] at h2
  unfold ApartL at ap
  rw [List.pairwise_iff_getElem] at ap
  have or_ := List.prefix_or_prefix_of_prefix h1 h2
  rcases Nat.lt_trichotomy i j with z | z | z
  · have := ap i j hi hj z
    rcases or_ with q | q
    · exact absurd q this.1
    · exact absurd q this.2
  · exact z
  · have := ap j i hj hi z
    rcases or_ with q | q
    · exact absurd q this.2
    · exact absurd q this.1
theorem getD_ne {L : List (List Nat)} (ne : ∀ x ∈ L, x ≠ []) {i : Nat} (hi : i < L.length) : L.getD i [] ≠ [] := by
  have ei : L.getD i [] = L[i] := by simp [List.getD_eq_getElem?_getD, List.getElem?_eq_getElem hi]
  rw [ei]
  exact ne _ (List.getElem_mem hi)
theorem joins_split {L : List (List Nat)} (ap : ApartL L) (ne : ∀ x ∈ L, x ≠ []) : ∀ (fs rest row : List Nat), (∀ i ∈ fs, i < L.length) → (∀ i ∈ row, i < L.length) → flat L row = flat L fs ++ rest → ∃ row', row = fs ++ row' ∧ flat L row' = rest
  | [], rest, row, _, _, e => ⟨row, rfl, e⟩
  | i :: fs, rest, row, hf, hr, e => by
    have hi := hf i List.mem_cons_self
    cases row with
    | nil =>
      rw [flat_nil, flat_cons, List.append_assoc] at e
      have : L.getD i [] = [] := (List.append_eq_nil_iff.mp e.symm).1
      exact absurd this (getD_ne ne hi)
    | cons j row =>
      have hj := hr j List.mem_cons_self
      rw [flat_cons, flat_cons, List.append_assoc] at e
      have p1 : L.getD j [] <+: L.getD i [] ++ (flat L fs ++ rest) := ⟨flat L row, e⟩
      have p2 : L.getD i [] <+: L.getD i [] ++ (flat L fs ++ rest) := List.prefix_append _ _
      have eij := ap_pre ap hj hi p1 p2
      subst eij
      have e' := List.append_cancel_left e
      obtain ⟨row', h1, h2⟩ := joins_split ap ne fs rest row (fun k hk => hf k (List.mem_cons_of_mem _ hk)) (fun k hk => hr k (List.mem_cons_of_mem _ hk)) e'
      exact ⟨row', by rw [h1]; rfl, h2⟩
theorem joins_uniq {L : List (List Nat)} (ap : ApartL L) (ne : ∀ x ∈ L, x ≠ []) {t r1 r2 : List Nat} (h1 : Joins L t r1) (h2 : Joins L t r2) : r1 = r2 := by
  obtain ⟨r', e, f⟩ := joins_split ap ne r1 [] r2 h1.1 h2.1 (by rw [List.append_nil, h1.2, h2.2])
  cases r' with
  | nil => rw [e, List.append_nil]
  | cons j r' =>
    have hj : j < L.length := h2.1 j (by rw [e]; simp)
    rw [flat_cons] at f
    exact absurd (List.append_eq_nil_iff.mp f).1 (getD_ne ne hj)
/-- where no name goes on nothing is put together -/
theorem joins_stop {L : List (List Nat)} (ap : ApartL L) (ne : ∀ x ∈ L, x ≠ []) {t fs rest row : List Nat} (hf : ∀ i ∈ fs, i < L.length) (e : t = flat L fs ++ rest) (hr : rest ≠ []) (no : ∀ i, i < L.length → ¬ L.getD i [] <+: rest) : ¬ Joins L t row := by
  rintro ⟨h1, h2⟩
  obtain ⟨r', e1, f⟩ := joins_split ap ne fs rest row hf h1 (by rw [h2, e])
  cases r' with
  | nil => exact hr f.symm
  | cons j r' =>
    refine no j (h1 j (by rw [e1]; simp)) ⟨flat L r', ?_⟩
    rw [← f, flat_cons]
theorem getD_map {zs : List Str} {i : Nat} {z : Str} (h : zs[i]? = some z) : (zs.map fun z => z.cps.toList).getD i [] = z.cps.toList := by
  rw [List.getD_eq_getElem?_getD, List.getElem?_map, h]
  rfl
theorem apart_nodup {zs : List Str} (ap : ApartL (zs.map fun z => z.cps.toList)) : ∀ (i j : Nat) (z : Str), zs[i]? = some z → zs[j]? = some z → i = j := by
  intro i j z hi hj
  refine ap_pre ap (t := z.cps.toList) ?_ ?_ ?_ ?_
  · rw [List.length_map]; exact (List.getElem?_eq_some_iff.mp hi).1
  · rw [List.length_map]; exact (List.getElem?_eq_some_iff.mp hj).1
  · rw [getD_map hi]; exact List.prefix_refl _
  · rw [getD_map hj]; exact List.prefix_refl _
end Own
set_option Elab.async false
set_option linter.all false
set_option maxRecDepth 100000
set_option maxHeartbeats 4000000
/-! sorted of texts, any number of them -/
namespace Own
open PySem PySem.Spec PyProof.Rows L2
def txV : Value → Str
  | .str z _ => z
  | _ => ""
def ltV (v u : Value) : Bool := decide ((txV v).cps.toList < (txV u).cps.toList)
theorem swo_txt : SrtO.Swo ltV := by
  constructor
  · intro v u h
    have h1 := of_decide_eq_true h
    exact decide_eq_false (List.lt_asymm h1)
  · intro x y z h1 h2
    have a := of_decide_eq_false h1
    have b := of_decide_eq_false h2
    refine decide_eq_false ?_
    rw [List.not_lt] at a b ⊢
    exact List.le_trans a b
theorem strs_all : ∀ {vs : List Value} {zs : List Str}, StrsAre vs zs → ∀ v ∈ vs, ∃ z t, v = Value.str z t
  | _, _, .nil, _, h => nomatch h
  | _, _, .cons z t r, v, h => by
    cases h with
    | head => exact ⟨z, t, rfl⟩
    | tail _ h => exact strs_all r v h
theorem strs_of : ∀ {vs : List Value}, (∀ v ∈ vs, ∃ z t, v = Value.str z t) → StrsAre vs (vs.map txV)
  | [], _ => .nil
  | v :: vs, h => by
    obtain ⟨z, t, rfl⟩ := h v (.head _)
    exact .cons z t (strs_of fun u hu => h u (.tail _ hu))
theorem strs_txV : ∀ {vs : List Value} {zs : List Str}, StrsAre vs zs → vs.map txV = zs
  | _, _, .nil => rfl
  | _, _, .cons z t r => congrArg (z :: ·) (strs_txV r)
/-- sorted(xs), texts, any number of them -/
def rSortedL (K : PySem.W.Frag) : List V → Hp → VK → Prop := fun vs H Q => ∃ (a : Addr) (xs : List Str), vs = [V.ref a] ∧ SqL K H a (xs.map V.str) ∧
  ∀ (ys : List Str) (p : Addr), ys.Perm xs → ys.Pairwise (fun x y => ¬ y.cps.toList < x.cps.toList) → H p = none → Q (.ref p) (upd H p (.lst (ys.map V.str)))
theorem cr_sortedL {X : Cx} : CallR X (.builtin "sorted") (rSortedL X.K) := by
  intro pins s σ H vs us Q I r h
  obtain ⟨a, xs, rfl, hs, q⟩ := h
  obtain ⟨its, rv, hl, hz⟩ := I.list hs
  rw [Vals.ref1 r]
  have hS := rv.strs
  refine SrtO.sorted_ord swo_txt hl.isList (by rw [← rv.length]; exact hz) (fun h2 h₁ a' _ _ => ?_) fun out h1 h2 => ?_
  · intro h' _
    refine ⟨oneType', fun Q E hq => ?_, fun p q hp hq => ?_⟩
    · match its, hS, h2 with
      | v1 :: v2 :: rest, hS, _ =>
        rw [keyKind_strs hS]
        exact wpAny_pure hq
      | [v], _, h => exact absurd h (by simp)
      | [], _, h => exact absurd h (by simp)
    · obtain ⟨z, t, e⟩ := strs_all hS _ hp
      obtain ⟨z', t', e'⟩ := strs_all hS _ hq
      show wpAny _ _ (keyLt' oneType' p.1 q.1) (fun r s' => s' = _ ∧ r = ltV p.1 q.1) _ _
      rw [e, e', keyLt'_oneType]
      exact oneLt_str ⟨rfl, rfl⟩
  · have all := strs_all hS
    have k1 : StrsAre out (out.map txV) := strs_of fun v hv => all v (h2.perm.mem_iff.mp hv)
    have k2 : (out.map txV).Perm xs := by
      have e := h2.perm.map txV
      rw [strs_txV hS] at e
      exact e
    have k3 : (out.map txV).Pairwise (fun x y => ¬ y.cps.toList < x.cps.toList) := List.pairwise_map.mpr (h1.imp fun {x y} h => of_decide_eq_false (p := (txV y).cps.toList < (txV x).cps.toList) h)
    obtain ⟨ep, at_⟩ := PyProof.Rows.sortedAll_at s.heap its out.toArray
    have few : ((out.map txV).map V.str).length ≤ sizeLine := by
      rw [List.length_map] at hz ⊢
      rw [k2.length_eq]
      exact hz
    exact ⟨.ref _, upd H (s.heap.objs.size + 1) (.lst ((out.map txV).map V.str)), I.laid (t' := s.toks) (fun _ _ => PyProof.Rows.sortedAll_old) (Nat.le_succ _) ⟨few, out, ep, vals_of_strs k1, at_⟩, rfl, q _ _ k2 k3 (I.hok.fresh (Nat.le_succ _))⟩
/-- what sorted answers of the texts at a -/
def SortsTo (xs : List Str) (H : Hp) (Q : VK) : Prop := ∀ (ys : List Str) (p : Addr), ys.Perm xs → ys.Pairwise (fun x y => ¬ y.cps.toList < x.cps.toList) → H p = none → Q (.ref p) (upd H p (.lst (ys.map V.str)))
theorem txt_sortable {prog : Program} {w : World} {A : Around} {s : Shared} {a : Addr} {its : List Value} {zs : List Str} (hS : StrsAre its zs) (h2 : 2 ≤ its.length) : SrtO.SortableO prog w A s a its ltV := by
  intro h' _
  refine ⟨oneType', fun Q E hq => ?_, fun p q hp hq => ?_⟩
  · match its, hS, h2 with
    | v1 :: v2 :: rest, hS, _ =>
      rw [keyKind_strs hS]
      exact wpAny_pure hq
    | [v], _, h => exact absurd h (by simp)
    | [], _, h => exact absurd h (by simp)
  · obtain ⟨z, t, e⟩ := strs_all hS _ hp
    obtain ⟨z', t', e'⟩ := strs_all hS _ hq
    show wpAny _ _ (keyLt' oneType' p.1 q.1) (fun r s' => s' = _ ∧ r = ltV p.1 q.1) _ _
    rw [e, e', keyLt'_oneType]
    exact oneLt_str ⟨rfl, rfl⟩
theorem txt_out {its out : List Value} {xs : List Str} (hS : StrsAre its xs) (h1 : SrtO.Srtd ltV out) (h2 : SrtO.Stb ltV out its) :
    StrsAre out (out.map txV) ∧ (out.map txV).Perm xs ∧ (out.map txV).Pairwise (fun x y => ¬ y.cps.toList < x.cps.toList) := by
  have all := strs_all hS
  refine ⟨strs_of fun v hv => all v (h2.perm.mem_iff.mp hv), ?_, ?_⟩
  · have e := h2.perm.map txV
    rw [strs_txV hS] at e
    exact e
  · exact List.pairwise_map.mpr (h1.imp fun {x y} h => of_decide_eq_false (p := (txV y).cps.toList < (txV x).cps.toList) h)
/-- the items of a list or a tuple, gathered: the heap behind it -/
theorem gather {prog : Program} {w : World} {A : Around} {E : Value → Shared → Prop} {s : Shared} {Q : List Value → Shared → Prop} (it : Addr) {T : String} {o : Obj} {items : Array Value} {n : Nat} (hT : T = "list" ∨ T = "tuple")
    (ho : s.heap.get? it = some o) (hc : o.cls = .type T) (hd : o.data = .seq items n) (hsz : items.size ≤ sizeLine)
    (hQ : ∀ h', s.heap.objs.size ≤ h'.objs.size → (∀ b u, s.heap.get? b = some u → h'.get? b = some u) → Q items.toList { s with heap := h' }) : wpAny (model prog w) A (collect (.ref it)) Q E s := by
  let new : Obj := { cls := .type "list", data := .seq ([] : List Value).toArray }
  let h2 : Heap := (s.heap.push new).update s.heap.objs.size (Obj.mapSeq (· ++ items))
  have at0 : (s.heap.push new).get? s.heap.objs.size = some { cls := .type "list", data := .seq #[] 0 } := Heap.get?_push_size _ rfl
  have at2 := Heap.get?_update_self (Obj.mapSeq (· ++ items)) at0 rfl
  have sz2 : s.heap.objs.size ≤ h2.objs.size := by
    show s.heap.objs.size ≤ ((s.heap.push new).update s.heap.objs.size (Obj.mapSeq (· ++ items))).objs.size
    rw [Heap.size_update, Heap.size_push]
    exact Nat.le_succ _
  have keep2 : ∀ b u, s.heap.get? b = some u → h2.get? b = some u := fun b u e =>
    (Heap.get?_update_other _ _ (Nat.ne_of_gt (Heap.lt_size e))).trans (Heap.get?_push_of_some _ e)
  unfold collect
  refine wpAny_bind (wpAny_runValue (codeAny_builtin F.entry_proto_collect ?_))
  rw [Around.under_plainId (A := A) F.plain_proto_collect _]
  show wpAny _ A.in1 (newList [] >>= fun l => again (.builtin "list.__iadd__" ⟨[l, .ref it], []⟩)) _ _ s
  refine wpAny_bind (wpAny_newObj_type (wpAny_pure ⟨plainId_quiet F.plain_list_iadd _, codeAny_builtin F.entry_list_iadd ?_⟩))
  rw [Around.under_plainId (A := A) F.plain_list_iadd _]
  show wpAny _ A.in1 (Builtin.List.listExtendWith (.ref s.heap.objs.size) (.ref it) (.ref s.heap.objs.size)) _ _ { s with heap := s.heap.push new }
  have last : wpAny (model prog w) A (do
      match (← load s.heap.objs.size).data with
      | .seq xs _ => pure xs.toList
      | _ => unsupported "internal:collect") Q E { s with heap := h2 } := by
    refine wpAny_bind (wpAny_load at2 (wpAny_pure ?_))
    have e : ((#[] : Array Value) ++ items).toList = items.toList := by simp
    show Q ((#[] : Array Value) ++ items).toList _
    rw [e]
    exact hQ _ sz2 keep2
  refine wpAny_mono (wpAny_extend_seq (hsz := hsz) (A := A) (R := fun r s' => r = .ok (.ret (.ref s.heap.objs.size)) ∧ s' = { s with heap := h2 }) (s := { s with heap := s.heap.push new })
    _ it _ 0 hT at0 (Heap.get?_push_of_some _ ho) hc hd ⟨rfl, rfl⟩) (fun fin s' z => ?_) (fun e s' z => by cases z.1)
  match fin, z with
  | .done f, z =>
    obtain ⟨e, rfl⟩ := z
    cases e
    exact last
  | .again c, z =>
    refine ⟨z.1, codeAny_mono z.2 fun r s2 q => ?_⟩
    obtain ⟨rfl, rfl⟩ := q
    exact last
/-- sorted(xs), a list or a tuple of texts -/
def rSortedA (K : PySem.W.Frag) : List V → Hp → VK → Prop := fun vs H Q => ∃ (a : Addr) (xs : List Str), vs = [V.ref a] ∧ (SqL K H a (xs.map V.str) ∨ SqT K H a (xs.map V.str)) ∧ SortsTo xs H Q
theorem cr_sortedA {X : Cx} : CallR X (.builtin "sorted") (rSortedA X.K) := by
  intro pins s σ H vs us Q I r h
  obtain ⟨a, xs, rfl, hs | hs, q⟩ := h
  · exact cr_sortedL pins s σ H _ us Q I r ⟨a, xs, rfl, hs, q⟩
  · obtain ⟨its, rv, ⟨o, ho, hc, n, hd⟩, hz⟩ := I.tuple hs
    rw [Vals.ref1 r]
    have hS := rv.strs
    have len : its.length = xs.length := by rw [← rv.length, List.length_map]
    have zl : its.length ≤ sizeLine := by rw [len]; rw [List.length_map] at hz; exact hz
    refine Calls.call_function_entry kind_sorted plain_sorted entry_sorted (args_sorted1 _) ?_
    unfold Builtin.«sorted»
    refine wpAny_bind (m := checkCount "sorted" 1 1 _) (wpAny_pure ?_)
    refine wpAny_bind (gather a (.inr rfl) ho hc hd (by rw [List.size_toArray]; exact zl) fun h1 big keep1 => ?_)
    have hz1 : its.toArray.toList.length ≤ sizeLine := zl
    refine wpAny_bind (wpAny_newList ?_ hz1)
    have at1 : (h1.push (seqObj "list" its.toArray 0)).get? h1.objs.size = some (seqObj "list" its.toArray 0) := Heap.get?_push_size _ rfl
    refine wpAny_bind (wpAny_holding (wpAny_call_entry slot_list_sort ⟨_, at1, rfl⟩ entry_list_sort (SrtO.list_sort_ord (vs := its) swo_txt at1 zl (fun h2 => txt_sortable hS h2) fun out o1 o2 => ⟨_, rfl, ?_⟩) (args_list_sort _)))
    obtain ⟨k1, k2, k3⟩ := txt_out hS o1 o2
    obtain ⟨ep, at_⟩ := PyProof.Rows.sortedHeap_at (vs := its) (out := out.toArray) at1
    have few : ((out.map txV).map V.str).length ≤ sizeLine := by
      rw [List.length_map, k2.length_eq]
      rw [len] at zl
      exact zl
    refine wpAny_pure ⟨_, rfl, .ref h1.objs.size, upd H h1.objs.size (.lst ((out.map txV).map V.str)), I.laid (t' := s.toks) (fun b u e => ?_) big ⟨few, out, ep, vals_of_strs k1, at_⟩, rfl, q _ _ k2 k3 (I.hok.fresh big)⟩
    have lt : b < h1.objs.size := Heap.lt_size (keep1 b u e)
    rw [PyProof.Rows.sortedHeap_old (Nat.ne_of_lt lt) (Heap.lt_size (Heap.get?_push_of_some _ (keep1 b u e)))]
    exact Heap.get?_push_of_some _ (keep1 b u e)
end Own
set_option Elab.async false
set_option linter.all false
set_option maxRecDepth 100000
set_option maxHeartbeats 4000000
/-! str(x) of an instance with its own __str__ -/
namespace Own
open PySem PySem.Spec PyProof.Rows L2
section
variable {X : Cx} {CX : CXT} {g C : Addr} {n : Nat} {sp : Sp} {E : XK}
def rStrOwn (C : Addr) (sp : Sp) (E : XK) : List V → Hp → VK → Prop := fun xs H Q => ∃ a dx fs, xs = [V.ref a] ∧ H a = some (.ins C dx fs) ∧ sp [.ref a] H (fun z H' => ∃ i, z = .str i ∧ Q z H') E
theorem call_strOwn (hs : PySem.W.findIn X.K (.ref C) "__str__" = some (some (.ref g))) (hf : PySem.W.isFn X.K (.ref g) = true) (F : FnR X.prog X.w X.K X.mg X.base CX n g sp) (hr : Room (n + 2) X.A) (hx : Passes CX X E) : CallR X (.type "str") (rStrOwn C sp E) := by
  intro pins s σ H xs us Q I r h
  obtain ⟨a, dx, fs, rfl, hi, q⟩ := h
  obtain ⟨u, rfl, ru⟩ := r.one
  cases (show u = Value.ref a from ru)
  obtain ⟨mA, O, _⟩ := ins_get I.hok hi
  obtain ⟨od, J, _⟩ := O.look
  have hr2 : Room n X.A.in1.in1 := (show Room (n + 1) X.A.in1 from Room.in1 hr).in1
  refine PySem.W.kso_call (Nat.lt_of_le_of_lt (Nat.le_trans (Nat.le_add_right _ _) (Nat.le_add_right _ _)) hr2.un) I.kIn J hs hf ?_
  refine wpAny_mono (wpAny_call (SlX.run_at (us := [.ref a]) (ws := [.ref a]) F hr2 I.env0.in1.in1 hx I (.cons rfl .nil) q)) (fun w s' z => ?_) fun _ _ x => x
  obtain ⟨z', H', I', rz, i, ei, qz⟩ := z
  subst ei
  obtain ⟨t, e⟩ := (show ∃ t, w = Value.str i t from rz)
  cases e
  exact ⟨.str i, H', I', ⟨t, rfl⟩, qz⟩
end
end Own
set_option Elab.async false
set_option linter.all false
set_option maxRecDepth 100000
set_option maxHeartbeats 4000000
/-! Values as trees: a def's body as a function of trees. -/
namespace DL
open PySem PySem.Spec PyProof.Rows L2 Own

/-- a value and all that it holds -/
inductive D where
  | non | bl (b : Bool) | int (i : Int) | str (x : Str) | ty (n : String) | cls (c : Str)
  | lst (xs : List D) | lsf (xs : List D) | tup (xs : List D) | dic (kvs : List (Key × D)) | ins (c : Str) (fs : List (Str × D))
/-- what a slot holds: d, nothing of which changes any more; o, an object of which nothing else knows; b, an object that was lent by the caller -/
inductive SV where
  | d (d : D) | o (d : D) | b (d : D)
def SV.val : SV → D
  | .d x => x | .o x => x | .b x => x
def SV.mut : SV → Bool
  | .d _ => false | .o _ => true | .b _ => true
def SV.put (e : D) : SV → SV
  | .d _ => .d e | .o _ => .o e | .b _ => .b e
abbrev Env := List (Option SV)
/-- what an expression gives: a value; the object of slot i; a new object -/
inductive T where
  | v (d : D) | s (i : Nat) | f (d : D)
inductive Out (α : Type) where
  | ok (a : α) | ex (c : Str) (fs : List (Str × D)) (env : Env) | no

mutual
inductive DR (K : PySem.W.Frag) (cl : Str → Addr) (F : Hp) : V → D → Prop
  | non : DR K cl F .non .non
  | bl {b : Bool} : DR K cl F (.bl b) (.bl b)
  | int {i : Int} : DR K cl F (.int i) (.int i)
  | str {x : Str} : DR K cl F (.str x) (.str x)
  | ty {n : String} : DR K cl F (.ty n) (.ty n)
  | cls {c : Str} : DR K cl F (.ref (cl c)) (.cls c)
  | lst {a : Addr} {vs : List V} {ds : List D} : F a = some (.lst vs) → DRs K cl F vs ds → DR K cl F (.ref a) (.lst ds)
  | lsf {a : Addr} {vs : List V} {ds : List D} : SqL K F a vs → DRs K cl F vs ds → DR K cl F (.ref a) (.lsf ds)
  | tup {a : Addr} {vs : List V} {ds : List D} : SqT K F a vs → DRs K cl F vs ds → DR K cl F (.ref a) (.tup ds)
  | dic {a : Addr} {vs : List (Key × V)} {ds : List (Key × D)} : F a = some (.dK vs) → DRk K cl F vs ds → DR K cl F (.ref a) (.dic ds)
  | ins {a dx : Addr} {c : Str} {vs : List (Str × V)} {ds : List (Str × D)} : F a = some (.ins (cl c) dx vs) → DRf K cl F vs ds → DR K cl F (.ref a) (.ins c ds)
inductive DRs (K : PySem.W.Frag) (cl : Str → Addr) (F : Hp) : List V → List D → Prop
  | nil : DRs K cl F [] []
  | cons {v : V} {vs : List V} {d : D} {ds : List D} : DR K cl F v d → DRs K cl F vs ds → DRs K cl F (v :: vs) (d :: ds)
inductive DRk (K : PySem.W.Frag) (cl : Str → Addr) (F : Hp) : List (Key × V) → List (Key × D) → Prop
  | nil : DRk K cl F [] []
  | cons {k : Key} {v : V} {vs : List (Key × V)} {d : D} {ds : List (Key × D)} : DR K cl F v d → DRk K cl F vs ds → DRk K cl F ((k, v) :: vs) ((k, d) :: ds)
inductive DRf (K : PySem.W.Frag) (cl : Str → Addr) (F : Hp) : List (Str × V) → List (Str × D) → Prop
  | nil : DRf K cl F [] []
  | cons {k : Str} {v : V} {vs : List (Str × V)} {d : D} {ds : List (Str × D)} : DR K cl F v d → DRf K cl F vs ds → DRf K cl F ((k, v) :: vs) ((k, d) :: ds)
end
theorem sql_same {K : PySem.W.Frag} {H H' : Hp} {a : Addr} {xs : List V} (e : Same H H') (h : SqL K H a xs) : SqL K H' a xs := by
  rcases h with (h | ⟨o, h⟩) | h
  · exact .inl (.inl (e _ _ h))
  · exact .inl (.inr ⟨o, e _ _ h⟩)
  · exact .inr h
theorem sqt_same {K : PySem.W.Frag} {H H' : Hp} {a : Addr} {xs : List V} (e : Same H H') (h : SqT K H a xs) : SqT K H' a xs := by
  rcases h with (h | ⟨o, h⟩) | h
  · exact .inl (.inl (e _ _ h))
  · exact .inl (.inr ⟨o, e _ _ h⟩)
  · exact .inr h
section
variable {K : PySem.W.Frag} {cl : Str → Addr} {F F' H H' : Hp}
mutual
theorem DR.mono (s : Same F F') : ∀ {d : D} {v : V}, DR K cl F v d → DR K cl F' v d
  | .non, _, h => by cases h; exact .non
  | .bl _, _, h => by cases h; exact .bl
  | .int _, _, h => by cases h; exact .int
  | .str _, _, h => by cases h; exact .str
  | .ty _, _, h => by cases h; exact .ty
  | .cls _, _, h => by cases h; exact .cls
  | .lst _, _, h => by
    cases h with
    | lst a b => exact .lst (s _ _ a) (DRs.mono s b)
  | .lsf _, _, h => by
    cases h with
    | lsf a b => exact .lsf (sql_same s a) (DRs.mono s b)
  | .tup _, _, h => by
    cases h with
    | tup a b => exact .tup (sqt_same s a) (DRs.mono s b)
  | .dic _, _, h => by
    cases h with
    | dic a b => exact .dic (s _ _ a) (DRk.mono s b)
  | .ins _ _, _, h => by
    cases h with
    | ins a b => exact .ins (s _ _ a) (DRf.mono s b)
theorem DRs.mono (s : Same F F') : ∀ {ds : List D} {vs : List V}, DRs K cl F vs ds → DRs K cl F' vs ds
  | [], _, h => by cases h; exact .nil
  | _ :: _, _, h => by
    cases h with
    | cons a b => exact .cons (DR.mono s a) (DRs.mono s b)
theorem DRk.mono (s : Same F F') : ∀ {ds : List (Key × D)} {vs : List (Key × V)}, DRk K cl F vs ds → DRk K cl F' vs ds
  | [], _, h => by cases h; exact .nil
  | (_, _) :: _, _, h => by
    cases h with
    | cons a b => exact .cons (DR.mono s a) (DRk.mono s b)
theorem DRf.mono (s : Same F F') : ∀ {ds : List (Str × D)} {vs : List (Str × V)}, DRf K cl F vs ds → DRf K cl F' vs ds
  | [], _, h => by cases h; exact .nil
  | (_, _) :: _, _, h => by
    cases h with
    | cons a b => exact .cons (DR.mono s a) (DRf.mono s b)
end
theorem DRs.length : ∀ {ds : List D} {vs : List V}, DRs K cl F vs ds → vs.length = ds.length
  | [], _, h => by cases h; rfl
  | _ :: _, _, h => by
    cases h with
    | cons a b => rw [List.length_cons, List.length_cons, DRs.length b]
theorem DRs.get : ∀ {ds : List D} {vs : List V} {i : Nat} {d : D}, DRs K cl F vs ds → ds[i]? = some d → ∃ v, vs[i]? = some v ∧ DR K cl F v d
  | [], _, _, _, _, e => by simp at e
  | _ :: _, _, 0, _, h, e => by
    cases h with
    | cons a b => simp at e; subst e; exact ⟨_, rfl, a⟩
  | _ :: _, _, i + 1, _, h, e => by
    cases h with
    | cons a b =>
      obtain ⟨v, h1, h2⟩ := DRs.get (i := i) b (by simpa using e)
      exact ⟨v, by simpa using h1, h2⟩
theorem DRs.get2 : ∀ {ds : List D} {vs : List V} {i : Nat} {v : V}, DRs K cl F vs ds → vs[i]? = some v → ∃ d, ds[i]? = some d ∧ DR K cl F v d
  | [], _, _, _, h, e => by cases h; simp at e
  | _ :: _, _, 0, _, h, e => by
    cases h with
    | cons a b => simp at e; subst e; exact ⟨_, rfl, a⟩
  | _ :: _, _, i + 1, _, h, e => by
    cases h with
    | cons a b =>
      obtain ⟨v, h1, h2⟩ := DRs.get2 (i := i) b (by simpa using e)
      exact ⟨v, by simpa using h1, h2⟩
theorem DRs.app : ∀ {ds es : List D} {vs us : List V}, DRs K cl F vs ds → DRs K cl F us es → DRs K cl F (vs ++ us) (ds ++ es)
  | [], _, _, _, h, g => by cases h; exact g
  | _ :: _, _, _, _, h, g => by
    cases h with
    | cons a b => exact .cons a (DRs.app b g)
theorem DRs.one {v : V} {d : D} (h : DR K cl F v d) : DRs K cl F [v] [d] := .cons h .nil
theorem DRs.take : ∀ {ds : List D} {vs : List V} (n : Nat), DRs K cl F vs ds → DRs K cl F (vs.take n) (ds.take n)
  | _, _, 0, _ => .nil
  | [], _, _ + 1, h => by cases h; exact .nil
  | _ :: _, _, n + 1, h => by
    cases h with
    | cons a b => exact .cons a (DRs.take n b)
theorem DRs.drop : ∀ {ds : List D} {vs : List V} (n : Nat), DRs K cl F vs ds → DRs K cl F (vs.drop n) (ds.drop n)
  | _, _, 0, h => h
  | [], _, _ + 1, h => by cases h; exact .nil
  | _ :: _, _, n + 1, h => by
    cases h with
    | cons a b => exact DRs.drop n b
theorem DRs.set {v : V} {d : D} (r : DR K cl F v d) : ∀ {ds : List D} {vs : List V} (i : Nat), DRs K cl F vs ds → DRs K cl F (vs.set i v) (ds.set i d)
  | [], _, _, h => by cases h; exact .nil
  | _ :: _, _, 0, h => by
    cases h with
    | cons a b => exact .cons r b
  | _ :: _, _, i + 1, h => by
    cases h with
    | cons a b => exact .cons a (DRs.set r i b)
theorem DRs.rev {ds : List D} : ∀ {vs : List V}, DRs K cl F vs ds → DRs K cl F vs.reverse ds.reverse := by
  induction ds with
  | nil => intro vs h; cases h; exact .nil
  | cons d ds ih =>
    intro vs h
    cases h with
    | cons a b =>
      rw [List.reverse_cons, List.reverse_cons]
      exact (ih b).app (.one a)
theorem DRs.erase : ∀ {ds : List D} {vs : List V} (i : Nat), DRs K cl F vs ds → DRs K cl F (vs.eraseIdx i) (ds.eraseIdx i)
  | [], _, _, h => by cases h; exact .nil
  | _ :: _, _, 0, h => by
    cases h with
    | cons a b => exact b
  | _ :: _, _, i + 1, h => by
    cases h with
    | cons a b => exact .cons a (DRs.erase i b)
theorem drs_of {f : D → V} : ∀ {ds : List D}, (∀ d ∈ ds, DR K cl F (f d) d) → DRs K cl F (ds.map f) ds
  | [], _ => .nil
  | d :: ds, h => .cons (h d List.mem_cons_self) (drs_of fun e he => h e (List.mem_cons_of_mem _ he))
theorem drs_ints : ∀ ns : List Int, DRs K cl F (ns.map V.int) (ns.map D.int)
  | [] => .nil
  | _ :: ns => .cons .int (drs_ints ns)
theorem drs_strs : ∀ ns : List Str, DRs K cl F (ns.map V.str) (ns.map D.str)
  | [] => .nil
  | _ :: ns => .cons .str (drs_strs ns)
theorem drs_ints_eq : ∀ {ns : List Int} {vs : List V}, DRs K cl F vs (ns.map D.int) → vs = ns.map V.int
  | [], _, h => by cases h; rfl
  | _ :: ns, _, h => by
    cases h with
    | cons a b => cases a; rw [drs_ints_eq b]; rfl
theorem drs_strs_eq : ∀ {ns : List Str} {vs : List V}, DRs K cl F vs (ns.map D.str) → vs = ns.map V.str
  | [], _, h => by cases h; rfl
  | _ :: ns, _, h => by
    cases h with
    | cons a b => cases a; rw [drs_strs_eq b]; rfl
theorem drs_bls_eq : ∀ {ns : List Bool} {vs : List V}, DRs K cl F vs (ns.map D.bl) → vs = ns.map V.bl
  | [], _, h => by cases h; rfl
  | _ :: ns, _, h => by
    cases h with
    | cons a b => cases a; rw [drs_bls_eq b]; rfl

/-- the top of it stands in H, what it holds in F -/
inductive DRt (K : PySem.W.Frag) (cl : Str → Addr) (F H : Hp) : V → D → Prop
  | non : DRt K cl F H .non .non
  | bl {b : Bool} : DRt K cl F H (.bl b) (.bl b)
  | int {i : Int} : DRt K cl F H (.int i) (.int i)
  | str {x : Str} : DRt K cl F H (.str x) (.str x)
  | ty {n : String} : DRt K cl F H (.ty n) (.ty n)
  | cls {c : Str} : DRt K cl F H (.ref (cl c)) (.cls c)
  | lst {a : Addr} {vs : List V} {ds : List D} : H a = some (.lst vs) → DRs K cl F vs ds → DRt K cl F H (.ref a) (.lst ds)
  | lsf {a : Addr} {vs : List V} {ds : List D} : SqL K F a vs → DRs K cl F vs ds → DRt K cl F H (.ref a) (.lsf ds)
  | tup {a : Addr} {vs : List V} {ds : List D} : SqT K F a vs → DRs K cl F vs ds → DRt K cl F H (.ref a) (.tup ds)
  | dic {a : Addr} {vs : List (Key × V)} {ds : List (Key × D)} : H a = some (.dK vs) → DRk K cl F vs ds → DRt K cl F H (.ref a) (.dic ds)
  | ins {a dx : Addr} {c : Str} {vs : List (Str × V)} {ds : List (Str × D)} : H a = some (.ins (cl c) dx vs) → DRf K cl F vs ds → DRt K cl F H (.ref a) (.ins c ds)
theorem DR.top {v : V} {d : D} (s : Same F H) (h : DR K cl F v d) : DRt K cl F H v d := by
  cases h with
  | non => exact .non
  | bl => exact .bl
  | int => exact .int
  | str => exact .str
  | ty => exact .ty
  | cls => exact .cls
  | lst a b => exact .lst (s _ _ a) b
  | lsf a b => exact .lsf a b
  | tup a b => exact .tup a b
  | dic a b => exact .dic (s _ _ a) b
  | ins a b => exact .ins (s _ _ a) b
theorem DRt.dr {v : V} {d : D} (s : Same F H) (h : DRt K cl F H v d) : DR K cl H v d := by
  cases h with
  | non => exact .non
  | bl => exact .bl
  | int => exact .int
  | str => exact .str
  | ty => exact .ty
  | cls => exact .cls
  | lst a b => exact .lst a (b.mono s)
  | lsf a b => exact .lsf (sql_same s a) (b.mono s)
  | tup a b => exact .tup (sqt_same s a) (b.mono s)
  | dic a b => exact .dic a (b.mono s)
  | ins a b => exact .ins a (b.mono s)
/-- an object that may be written: it stands in H, not in F -/
inductive OF (K : PySem.W.Frag) (cl : Str → Addr) (F H : Hp) : V → D → Prop
  | lst {a : Addr} {vs : List V} {ds : List D} : F a = none → H a = some (.lst vs) → DRs K cl F vs ds → OF K cl F H (.ref a) (.lst ds)
  | dic {a : Addr} {vs : List (Key × V)} {ds : List (Key × D)} : F a = none → H a = some (.dK vs) → DRk K cl F vs ds → OF K cl F H (.ref a) (.dic ds)
  | ins {a dx : Addr} {c : Str} {vs : List (Str × V)} {ds : List (Str × D)} : F a = none → H a = some (.ins (cl c) dx vs) → DRf K cl F vs ds → OF K cl F H (.ref a) (.ins c ds)
theorem OF.top {v : V} {d : D} (h : OF K cl F H v d) : DRt K cl F H v d := by
  cases h with
  | lst _ a b => exact .lst a b
  | dic _ a b => exact .dic a b
  | ins _ a b => exact .ins a b
theorem OF.ref {v : V} {d : D} (h : OF K cl F H v d) : ∃ a o, v = .ref a ∧ F a = none ∧ H a = some o := by
  cases h with
  | lst n a b => exact ⟨_, _, rfl, n, a⟩
  | dic n a b => exact ⟨_, _, rfl, n, a⟩
  | ins n a b => exact ⟨_, _, rfl, n, a⟩
/-- what it holds may grow, it itself stays -/
theorem OF.mono {a : Addr} {d : D} {o : HO} (s : Same F F') (n : F' a = none) (k : H a = some o → H' a = some o) (e : H a = some o) (h : OF K cl F H (.ref a) d) : OF K cl F' H' (.ref a) d := by
  cases h with
  | lst _ x b => exact .lst n (by rw [k e, ← e, x]) (b.mono s)
  | dic _ x b => exact .dic n (by rw [k e, ← e, x]) (b.mono s)
  | ins _ x b => exact .ins n (by rw [k e, ← e, x]) (b.mono s)
/-- frozen -/
theorem OF.frz {a : Addr} {d : D} (h : OF K cl F H (.ref a) d) : ∃ o, H a = some o ∧ Same F (upd F a o) ∧ DR K cl (upd F a o) (.ref a) d := by
  cases h with
  | lst n x b => exact ⟨_, x, same_new n, .lst upd_same (b.mono (same_new n))⟩
  | dic n x b => exact ⟨_, x, same_new n, .dic upd_same (b.mono (same_new n))⟩
  | ins n x b => exact ⟨_, x, same_new n, .ins upd_same (b.mono (same_new n))⟩
end

/-! ### states -/
/-- F and H grow: all but A stays, F by new ones and by A only -/
structure Grow (A : Addr → Prop) (F H F' H' : Hp) : Prop where
  f : Same F F'
  h : ∀ b o, H b = some o → ¬ A b → H' b = some o
  n : ∀ b o, H b = some o → ¬ A b → F b = none → F' b = none
  k : ∀ b o, H b = some o → ∃ o', H' b = some o'
theorem Grow.refl (A : Addr → Prop) (F H : Hp) : Grow A F H F H := ⟨Same.refl _, fun _ _ h _ => h, fun _ _ _ _ h => h, fun _ _ h => ⟨_, h⟩⟩
theorem Grow.trans {A : Addr → Prop} {F H F1 H1 F2 H2 : Hp} (a : Grow A F H F1 H1) (b : Grow A F1 H1 F2 H2) : Grow A F H F2 H2 :=
  ⟨a.f.trans b.f, fun x o e n => b.h x o (a.h x o e n) n, fun x o e n z => b.n x o (a.h x o e n) n (a.n x o e n z), fun x o e => let ⟨o', e'⟩ := a.k x o e; b.k x o' e'⟩
theorem Grow.free {A : Addr → Prop} {F H F' H' : Hp} (a : Grow A F H F' H') {b : Addr} (h : H' b = none) : H b = none := by
  cases e : H b with
  | none => rfl
  | some o =>
    obtain ⟨o', e'⟩ := a.k b o e
    rw [h] at e'
    cases e'
theorem Grow.imp {A A' : Addr → Prop} {F H F' H' : Hp} (a : Grow A F H F' H') (i : ∀ b, A b → A' b) : Grow A' F H F' H' :=
  ⟨a.f, fun x o e n => a.h x o e fun q => n (i x q), fun x o e n z => a.n x o e (fun q => n (i x q)) z, a.k⟩
/-- nothing but new ones -/
structure News (F H F' H' : Hp) : Prop where
  g : Grow (fun _ => False) F H F' H'
  s : Same F' H'
theorem News.hs {F H F' H' : Hp} (n : News F H F' H') : Same H H' := fun b o e => n.g.h b o e id
theorem News.refl {F H : Hp} (s : Same F H) : News F H F H := ⟨.refl _ _ _, s⟩
theorem News.trans {F H F1 H1 F2 H2 : Hp} (a : News F H F1 H1) (b : News F1 H1 F2 H2) : News F H F2 H2 := ⟨a.g.trans b.g, b.s⟩
/-- a new object that is frozen at once -/
theorem News.frz {F H : Hp} {p : Addr} {o : HO} (s : Same F H) (h : H p = none) : News F H (upd F p o) (upd H p o) := by
  have fp := s.free h
  refine ⟨⟨same_new fp, fun b u e _ => same_new h b u e, fun b u e _ z => ?_, fun b u e => ⟨u, same_new h b u e⟩⟩, fun b u e => ?_⟩
  · rw [upd_ne (ne_of_none e h)]
    exact z
  · by_cases q : b = p
    · subst q
      rw [upd_same] at e ⊢
      exact e
    · rw [upd_ne q] at e ⊢
      exact s b u e
/-- a new object that is not -/
theorem News.new {F H : Hp} {p : Addr} {o : HO} (s : Same F H) (h : H p = none) : News F H F (upd H p o) :=
  ⟨⟨Same.refl _, fun b u e _ => same_new h b u e, fun _ _ _ _ z => z, fun b u e => ⟨u, same_new h b u e⟩⟩, s.trans (same_new h)⟩
/-- what is known while a def runs: the heap at its entry, its arguments that it may change: slots and addresses -/
structure Bs where
  K : PySem.W.Frag
  cl : Str → Addr
  H0 : Hp
  F0 : Hp
  fx : List (Nat × Addr)
def Bs.A (B : Bs) (a : Addr) : Prop := a ∈ B.fx.map (·.2)
def SR (B : Bs) (F H : Hp) (v : V) : SV → Prop
  | .d d => DR B.K B.cl F v d
  | .o d => OF B.K B.cl F H v d ∧ ∀ a, v = .ref a → B.H0 a = none
  | .b d => OF B.K B.cl F H v d ∧ ∀ a, v = .ref a → B.A a
theorem SR.own {B : Bs} {F H : Hp} {v : V} {s : SV} (h : SR B F H v s) (m : s.mut = true) : OF B.K B.cl F H v s.val ∧ ∀ a, v = .ref a → B.A a ∨ B.H0 a = none := by
  cases s with
  | d _ => cases m
  | o d => exact ⟨h.1, fun a e => .inr (h.2 a e)⟩
  | b d => exact ⟨h.1, fun a e => .inl (h.2 a e)⟩
structure Rel (B : Bs) (env : Env) (F H : Hp) (σ : L2.St) : Prop where
  fh : Same F H
  gr : Grow B.A B.F0 B.H0 F H
  sl : ∀ (i : Nat) (s : SV), env[i]? = some (some s) → ∃ v, σ[i]? = some (some v) ∧ SR B F H v s
  sep : ∀ (i j : Nat) (s t : SV) (v : V), env[i]? = some (some s) → env[j]? = some (some t) → s.mut = true → t.mut = true → σ[i]? = some (some v) → σ[j]? = some (some v) → i = j
  len : env.length = σ.length
  fx : ∀ q ∈ B.fx, σ[q.1]? = some (some (.ref q.2)) ∧ ∃ d, env[q.1]? = some (some (.b d))
/-- the address of an owned object -/
def Ow (env : Env) (σ : L2.St) (a : Addr) : Prop := ∃ (i : Nat) (s : SV), env[i]? = some (some s) ∧ s.mut = true ∧ σ[i]? = some (some (V.ref a))
structure Step (σ : L2.St) (env : Env) (F H : Hp) (env' : Env) (F' H' : Hp) : Prop where
  g : Grow (Ow env σ) F H F' H'
  o : ∀ a, Ow env' σ a → Ow env σ a
theorem Step.refl (σ : L2.St) (env : Env) (F H : Hp) : Step σ env F H env F H := ⟨.refl _ _ _, fun _ h => h⟩
theorem Step.trans {σ : L2.St} {env env1 env2 : Env} {F H F1 H1 F2 H2 : Hp} (a : Step σ env F H env1 F1 H1) (b : Step σ env1 F1 H1 env2 F2 H2) : Step σ env F H env2 F2 H2 :=
  ⟨a.g.trans (b.g.imp a.o), fun x h => a.o x (b.o x h)⟩
theorem News.step {σ : L2.St} {env : Env} {F H F' H' : Hp} (n : News F H F' H') : Step σ env F H env F' H' := ⟨n.g.imp fun _ q => q.elim, fun _ h => h⟩
theorem OF.to {K : PySem.W.Frag} {cl : Str → Addr} {F F' H H' : Hp} {v : V} {d : D} (h : OF K cl F H v d) (s : Same F F') (n : ∀ a o, v = .ref a → H a = some o → F a = none → F' a = none ∧ H' a = some o) : OF K cl F' H' v d := by
  obtain ⟨a, o, rfl, fa, ha⟩ := h.ref
  obtain ⟨x, y⟩ := n a o rfl ha fa
  exact h.mono s x (fun _ => y) ha
section
variable {B : Bs} {env : Env} {F H F' H' : Hp} {σ : L2.St}
theorem SR.to {v : V} {s : SV} (h : SR B F H v s) (sF : Same F F') (n : ∀ a o, s.mut = true → v = .ref a → H a = some o → F a = none → F' a = none ∧ H' a = some o) : SR B F' H' v s := by
  cases s with
  | d d => exact DR.mono sF h
  | o d => exact ⟨h.1.to sF fun a o => n a o rfl, h.2⟩
  | b d => exact ⟨h.1.to sF fun a o => n a o rfl, h.2⟩
theorem SR.put {v : V} {s : SV} {d : D} (h : SR B F H v s) (m : s.mut = true) (w : OF B.K B.cl F' H' v d) : SR B F' H' v (s.put d) := by
  cases s with
  | d _ => cases m
  | o _ => exact ⟨w, h.2⟩
  | b _ => exact ⟨w, h.2⟩
theorem SR.news {v : V} {s : SV} (n : News F H F' H') (h : SR B F H v s) : SR B F' H' v s :=
  h.to n.g.f fun a o _ _ e z => ⟨n.g.n a o e id z, n.hs a o e⟩
theorem Rel.news (R : Rel B env F H σ) (n : News F H F' H') : Rel B env F' H' σ :=
  ⟨n.s, R.gr.trans (n.g.imp fun _ q => q.elim), fun i s e => let ⟨v, h1, h2⟩ := R.sl i s e; ⟨v, h1, h2.news n⟩, R.sep, R.len, R.fx⟩
theorem Rel.base (R : Rel B env F H σ) {a : Addr} (h : H a = none) : B.H0 a = none := R.gr.free h
theorem Rel.owS (R : Rel B env F H σ) {a : Addr} (h : Ow env σ a) : ∃ o, H a = some o ∧ F a = none := by
  obtain ⟨i, s, e1, e2, e3⟩ := h
  obtain ⟨v, h1, h2⟩ := R.sl i s e1
  rw [e3] at h1
  cases h1
  obtain ⟨b, o, eb, fb, hb⟩ := (h2.own e2).1.ref
  cases eb
  exact ⟨o, hb, fb⟩
/-- the object at a, which nothing else knows, is frozen -/
theorem Rel.frz (R : Rel B env F H σ) {a : Addr} {o : HO} (fa : F a = none) (ha : H a = some o) (hb : B.H0 a = none) (hn : ¬ Ow env σ a) : Rel B env (upd F a o) H σ := by
  have sF : Same F (upd F a o) := same_new fa
  refine ⟨fun b u e => ?_, ⟨R.gr.f.trans sF, R.gr.h, fun b u e n z => ?_, R.gr.k⟩, fun i s e => ?_, R.sep, R.len, R.fx⟩
  · by_cases q : b = a
    · subst q
      rw [upd_same] at e
      cases e
      exact ha
    · rw [upd_ne q] at e
      exact R.fh b u e
  · have ne : b ≠ a := by
      rintro rfl
      rw [e] at hb
      cases hb
    rw [upd_ne ne]
    exact R.gr.n b u e n z
  · obtain ⟨v, h1, h2⟩ := R.sl i s e
    refine ⟨v, h1, h2.to sF fun b u m eb hb2 fb => ?_⟩
    subst eb
    have ne : b ≠ a := by
      rintro rfl
      exact hn ⟨i, s, e, m, h1⟩
    exact ⟨by rw [upd_ne ne]; exact fb, hb2⟩
/-- slot i is frozen -/
theorem Rel.frzS (R : Rel B env F H σ) {i : Nat} {d : D} (e : env[i]? = some (some (.o d))) : ∃ v F', σ[i]? = some (some v) ∧ Rel B (env.set i (some (.d d))) F' H σ ∧ Step σ env F H (env.set i (some (.d d))) F' H ∧ DR B.K B.cl F' v d := by
  obtain ⟨v, es, h1, h2⟩ := R.sl i _ e
  obtain ⟨a, o, rfl, fa, ha⟩ := h1.ref
  have hb := h2 a rfl
  obtain ⟨o', ha', sF, dr⟩ := h1.frz
  rw [ha] at ha'
  cases ha'
  have li : i < env.length := (List.getElem?_eq_some_iff.mp e).1
  have own : Ow env σ a := ⟨i, _, e, rfl, es⟩
  have f : ∀ {j : Nat} {s : SV}, (env.set i (some (.d d)))[j]? = some (some s) → s.mut = true → env[j]? = some (some s) := fun {j s} h m => by
    by_cases q : i = j
    · subst q
      rw [List.getElem?_set_self li] at h
      cases h
      cases m
    · rw [List.getElem?_set_ne q] at h
      exact h
  refine ⟨_, upd F a o, es, ⟨fun b u e => ?_, ⟨R.gr.f.trans sF, R.gr.h, fun b u e n z => ?_, R.gr.k⟩, fun j s ej => ?_, fun j k s t v e1 e2 m1 m2 => R.sep j k s t v (f e1 m1) (f e2 m2) m1 m2, by rw [List.length_set]; exact R.len, fun q hq => ?_⟩, ⟨⟨sF, fun b u e _ => e, fun b u e n z => ?_, fun b u e => ⟨u, e⟩⟩, fun b => ?_⟩, dr⟩
  · by_cases q : b = a
    · subst q
      rw [upd_same] at e
      cases e
      exact ha
    · rw [upd_ne q] at e
      exact R.fh b u e
  · have ne : b ≠ a := by
      rintro rfl
      rw [e] at hb
      cases hb
    rw [upd_ne ne]
    exact R.gr.n b u e n z
  · by_cases q : i = j
    · subst q
      rw [List.getElem?_set_self li] at ej
      cases ej
      exact ⟨_, es, dr⟩
    · rw [List.getElem?_set_ne q] at ej
      obtain ⟨v, g1, g2⟩ := R.sl j s ej
      refine ⟨v, g1, g2.to sF fun b u m eb hb2 fb => ?_⟩
      subst eb
      have ne : b ≠ a := by
        rintro rfl
        exact q (R.sep i j _ s _ e ej rfl m es g1)
      exact ⟨by rw [upd_ne ne]; exact fb, hb2⟩
  · obtain ⟨h1, d2, h2⟩ := R.fx q hq
    refine ⟨h1, d2, ?_⟩
    have z : i ≠ q.1 := by
      intro z
      rw [← z, e] at h2
      cases h2
    rw [List.getElem?_set_ne z]
    exact h2
  · have ne : b ≠ a := by
      rintro rfl
      exact n own
    rw [upd_ne ne]
    exact z
  · rintro ⟨j, s, h1, m, h2⟩
    exact ⟨j, s, f h1 m, m, h2⟩
/-- a name is set -/
theorem Rel.set (R : Rel B env F H σ) {i : Nat} {v : V} {s : SV} (hs : SR B F H v s) (li : i < env.length) (hf : B.fx.all (fun q => q.1 != i) = true) (hn : ∀ a, s.mut = true → v = .ref a → ¬ Ow env σ a) : Rel B (env.set i (some s)) F H (σ.set i (some v)) := by
  have ls : i < σ.length := by rw [← R.len]; exact li
  refine ⟨R.fh, R.gr, fun j t ej => ?_, fun j k s1 s2 u e1 e2 m1 m2 z1 z2 => ?_, by rw [List.length_set, List.length_set]; exact R.len, fun q hq => ?_⟩
  · by_cases q : i = j
    · subst q
      rw [List.getElem?_set_self li] at ej
      cases ej
      exact ⟨v, List.getElem?_set_self ls, hs⟩
    · rw [List.getElem?_set_ne q] at ej
      obtain ⟨u, h1, h2⟩ := R.sl j t ej
      exact ⟨u, by rw [List.getElem?_set_ne q]; exact h1, h2⟩
  · by_cases q : i = j
    · subst q
      by_cases z : i = k
      · exact z
      · rw [List.getElem?_set_self li] at e1
        rw [List.getElem?_set_ne z] at e2 z2
        rw [List.getElem?_set_self ls] at z1
        cases e1
        cases z1
        obtain ⟨a, o, rfl, _⟩ := (hs.own m1).1.ref
        exact (hn a m1 rfl ⟨k, s2, e2, m2, z2⟩).elim
    · by_cases z : i = k
      · subst z
        rw [List.getElem?_set_self li] at e2
        rw [List.getElem?_set_ne q] at e1 z1
        rw [List.getElem?_set_self ls] at z2
        cases e2
        cases z2
        obtain ⟨a, o, rfl, _⟩ := (hs.own m2).1.ref
        exact (hn a m2 rfl ⟨j, s1, e1, m1, z1⟩).elim
      · rw [List.getElem?_set_ne q] at e1 z1
        rw [List.getElem?_set_ne z] at e2 z2
        exact R.sep j k s1 s2 u e1 e2 m1 m2 z1 z2
  · have ne : q.1 ≠ i := by
      have := List.all_eq_true.mp hf q hq
      simpa using this
    obtain ⟨h1, t, h2⟩ := R.fx q hq
    exact ⟨by rw [List.getElem?_set_ne (Ne.symm ne)]; exact h1, t, by rw [List.getElem?_set_ne (Ne.symm ne)]; exact h2⟩
/-- a slot is forgotten -/
theorem Rel.forget (R : Rel B env F H σ) {i : Nat} {ov : Option V} (hf : B.fx.all (fun q => q.1 != i) = true) : Rel B (env.set i none) F H (σ.set i ov) := by
  have f : ∀ {j : Nat} {s : SV}, (env.set i none)[j]? = some (some s) → i ≠ j ∧ env[j]? = some (some s) := fun {j s} h => by
    by_cases q : i = j
    · subst q
      by_cases li : i < env.length
      · rw [List.getElem?_set_self li] at h
        cases h
      · rw [List.getElem?_eq_none (by rw [List.length_set]; omega)] at h
        cases h
    · rw [List.getElem?_set_ne q] at h
      exact ⟨q, h⟩
  refine ⟨R.fh, R.gr, fun j t ej => ?_, fun j k s1 s2 u e1 e2 m1 m2 z1 z2 => ?_, by rw [List.length_set, List.length_set]; exact R.len, fun q hq => ?_⟩
  · obtain ⟨q, ej⟩ := f ej
    obtain ⟨u, h1, h2⟩ := R.sl j t ej
    exact ⟨u, by rw [List.getElem?_set_ne q]; exact h1, h2⟩
  · obtain ⟨q1, e1⟩ := f e1
    obtain ⟨q2, e2⟩ := f e2
    rw [List.getElem?_set_ne q1] at z1
    rw [List.getElem?_set_ne q2] at z2
    exact R.sep j k s1 s2 u e1 e2 m1 m2 z1 z2
  · have ne : q.1 ≠ i := by
      have := List.all_eq_true.mp hf q hq
      simpa using this
    obtain ⟨h1, t, h2⟩ := R.fx q hq
    exact ⟨by rw [List.getElem?_set_ne (Ne.symm ne)]; exact h1, t, by rw [List.getElem?_set_ne (Ne.symm ne)]; exact h2⟩
/-- the object of slot i is changed -/
theorem Rel.write (R : Rel B env F H σ) {i : Nat} {s : SV} {d' : D} {a : Addr} {o : HO} (e : env[i]? = some (some s)) (m : s.mut = true) (es : σ[i]? = some (some (.ref a))) (nw : OF B.K B.cl F (upd H a o) (.ref a) d') :
    Rel B (env.set i (some (s.put d'))) F (upd H a o) σ ∧ Step σ env F H (env.set i (some (s.put d'))) F (upd H a o) := by
  obtain ⟨v, es', hs⟩ := R.sl i s e
  rw [es] at es'
  cases es'
  obtain ⟨h1, hb⟩ := hs.own m
  have hb := hb a rfl
  obtain ⟨a', o0, ea, fa, ha⟩ := h1.ref
  cases ea
  have li : i < env.length := (List.getElem?_eq_some_iff.mp e).1
  have own : Ow env σ a := ⟨i, s, e, m, es⟩
  have f : ∀ {j : Nat} {t : SV}, (env.set i (some (s.put d')))[j]? = some (some t) → t.mut = true → ∃ u, env[j]? = some (some u) ∧ u.mut = true := fun {j t} h mt => by
    by_cases q : i = j
    · subst q
      exact ⟨s, e, m⟩
    · rw [List.getElem?_set_ne q] at h
      exact ⟨t, h, mt⟩
  refine ⟨⟨fun b u eb => ?_, ⟨R.gr.f, fun b u eb n => ?_, R.gr.n, fun b u eb => ?_⟩, fun j t ej => ?_, fun j k s1 s2 v e1 e2 m1 m2 => ?_, by rw [List.length_set]; exact R.len, fun q hq => ?_⟩, ⟨⟨Same.refl _, fun b u eb n => ?_, fun _ _ _ _ z => z, fun b u eb => ?_⟩, ?_⟩⟩
  · have ne : b ≠ a := by
      rintro rfl
      rw [fa] at eb
      cases eb
    rw [upd_ne ne]
    exact R.fh b u eb
  · have ne : b ≠ a := by
      rintro rfl
      rcases hb with hb | hb
      · exact n hb
      · rw [eb] at hb; cases hb
    rw [upd_ne ne]
    exact R.gr.h b u eb n
  · by_cases q : b = a
    · subst q
      exact ⟨o, upd_same⟩
    · rw [upd_ne q]
      exact R.gr.k b u eb
  · by_cases q : i = j
    · subst q
      rw [List.getElem?_set_self li] at ej
      cases ej
      exact ⟨_, es, hs.put m nw⟩
    · rw [List.getElem?_set_ne q] at ej
      obtain ⟨v, g1, g2⟩ := R.sl j t ej
      refine ⟨v, g1, g2.to (Same.refl _) fun b u mt eb hb2 fb => ?_⟩
      subst eb
      have ne : b ≠ a := by
        rintro rfl
        exact q (R.sep i j s t _ e ej m mt es g1)
      exact ⟨fb, by rw [upd_ne ne]; exact hb2⟩
  · obtain ⟨u1, g1, n1⟩ := f e1 m1
    obtain ⟨u2, g2, n2⟩ := f e2 m2
    exact R.sep j k _ _ v g1 g2 n1 n2
  · obtain ⟨h1, d2, h2⟩ := R.fx q hq
    refine ⟨h1, ?_⟩
    by_cases z : i = q.1
    · rw [← z, List.getElem?_set_self li]
      rw [← z, e] at h2
      cases h2
      exact ⟨_, rfl⟩
    · rw [List.getElem?_set_ne z]
      exact ⟨d2, h2⟩
  · have ne : b ≠ a := by
      rintro rfl
      exact n own
    rw [upd_ne ne]
    exact eb
  · by_cases q : b = a
    · subst q
      exact ⟨o, upd_same⟩
    · exact ⟨u, by rw [upd_ne q]; exact eb⟩
  · rintro b ⟨j, t, h1, mt, h2⟩
    obtain ⟨u, g, mu⟩ := f h1 mt
    exact ⟨j, u, g, mu, h2⟩
end
end DL
set_option Elab.async false
set_option linter.all false
set_option maxRecDepth 100000
set_option maxHeartbeats 4000000
namespace DL
open PySem PySem.Spec PyProof.Rows L2 Own

/-! ### readings -/
def Out.bind {α β : Type} (o : Out α) (f : α → Out β) : Out β := match o with
  | .ok a => f a
  | .ex c fs e => .ex c fs e
  | .no => .no
@[simp] theorem bind_ok {α β : Type} (a : α) (f : α → Out β) : (Out.ok a).bind f = f a := rfl
@[simp] theorem bind_ex {α β : Type} (c : Str) (fs : List (Str × D)) (e : Env) (f : α → Out β) : (Out.ex c fs e : Out α).bind f = .ex c fs e := rfl
@[simp] theorem bind_no {α β : Type} (f : α → Out β) : (Out.no : Out α).bind f = .no := rfl
def slot (env : Env) (i : Nat) : Option SV := match env[i]? with
  | some (some s) => some s
  | _ => none
theorem slot_some {env : Env} {i : Nat} {s : SV} (h : slot env i = some s) : env[i]? = some (some s) := by
  unfold slot at h
  split at h
  · rename_i s' e
    cases h
    exact e
  · cases h
/-- what it is now -/
def dr (env : Env) : T → Option D
  | .v d => some d
  | .f d => some d
  | .s i => (slot env i).map SV.val
def fzT : T → T
  | .f d => .v d
  | .v d => .v d
  | .s i => .s i
abbrev ME := Env → Out (T × Env)
abbrev MB := Env → Out (Bool × Env)
abbrev MA := Env → Out (List D × Env)
abbrev MD := Env → Out (D × Env)
/-- a new object is frozen -/
def fz (m : ME) : ME := fun env => (m env).bind fun p => .ok (fzT p.1, p.2)
/-- .. and one of a slot, too -/
def faO (p : T × Env) : Out (D × Env) := match p.1 with
  | .v d => .ok (d, p.2)
  | .f d => .ok (d, p.2)
  | .s i => match slot p.2 i with
    | some (.d d) => .ok (d, p.2)
    | some (.o d) => .ok (d, p.2.set i (some (.d d)))
    | _ => .no
def fa (m : ME) : MD := fun env => (m env).bind faO
def ExP (B : Bs) (W : WX) (σ : L2.St) (c : Str) (fs : List (Str × D)) (env' : Env) : Prop := ∀ F' H' dx vs, Rel B env' F' H' σ → H' dx = some (.xd vs) → DRf B.K B.cl F' vs fs → W (.ref (B.cl c)) (some dx) σ H'
def Sat {α : Type} (B : Bs) (W : WX) (σ : L2.St) (o : Out (α × Env)) (P : α → Env → Prop) : Prop := match o with
  | .ok a => P a.1 a.2
  | .ex c fs e => ExP B W σ c fs e
  | .no => False
section
variable {B : Bs} {W : WX} {σ : L2.St}
theorem Sat.of {α β : Type} {o : Out (α × Env)} {f : α × Env → Out (β × Env)} {P : β → Env → Prop} (h : Sat B W σ (o.bind f) P) : Sat B W σ o fun a e => Sat B W σ (f (a, e)) P := by
  cases o with
  | ok a => exact h
  | ex c fs e => exact h
  | no => exact h
theorem Sat.imp {α : Type} {o : Out (α × Env)} {P P' : α → Env → Prop} (h : Sat B W σ o P) (i : ∀ a e, P a e → P' a e) : Sat B W σ o P' := by
  cases o with
  | ok a => exact i _ _ h
  | ex c fs e => exact h
  | no => exact h
theorem Sat.ok {α : Type} {a : α} {e : Env} {P : α → Env → Prop} (h : P a e) : Sat B W σ (.ok (a, e)) P := h
end
/-- v is what t says; Hs: the heap ahead of it -/
def TR (B : Bs) (Hs F H : Hp) (σ : L2.St) (env : Env) (v : V) : T → Prop
  | .v d => DR B.K B.cl F v d
  | .s i => σ[i]? = some (some v)
  | .f d => OF B.K B.cl F H v d ∧ ∀ a, v = .ref a → ¬ Ow env σ a ∧ Hs a = none
/-- the reading of an expression by its tree -/
def tD (B : Bs) (W : WX) (m : ME) : TE := fun σ H Q => ∃ F env, Rel B env F H σ ∧ Sat B W σ (m env) fun t env' => ∀ v F' H', Rel B env' F' H' σ → Step σ env F H env' F' H' → TR B H F' H' σ env' v t → Q v H'
def tDB (B : Bs) (W : WX) (m : MB) : TT := fun σ H Q => ∃ F env, Rel B env F H σ ∧ Sat B W σ (m env) fun b env' => ∀ F' H', Rel B env' F' H' σ → Step σ env F H env' F' H' → Q b H'
def tDA (B : Bs) (W : WX) (m : MA) : TA := fun σ H Q => ∃ F env, Rel B env F H σ ∧ Sat B W σ (m env) fun ds env' => ∀ vs F' H', Rel B env' F' H' σ → Step σ env F H env' F' H' → DRs B.K B.cl F' vs ds → Q vs H'
/-- .. frozen -/
def tDD (B : Bs) (W : WX) (m : MD) : TE := fun σ H Q => ∃ F env, Rel B env F H σ ∧ Sat B W σ (m env) fun d env' => ∀ v F' H', Rel B env' F' H' σ → Step σ env F H env' F' H' → DR B.K B.cl F' v d → Q v H'
theorem pe_imp {X : Cx} {e : Expr} {t t' : TE} (h : PE X e t) (i : ∀ σ H Q, t' σ H Q → t σ H Q) : PE X e t' := ⟨fun pins s σ H Q I q => h.run pins s σ H Q I (i σ H Q q)⟩
theorem pt_imp {X : Cx} {e : Expr} {t t' : TT} (h : PT X e t) (i : ∀ σ H Q, t' σ H Q → t σ H Q) : PT X e t' := ⟨fun pins s σ H Q I q => h.run pins s σ H Q I (i σ H Q q)⟩
theorem pw_imp {X : Cx} {e : Expr} {t t' : TT} (h : PW X e t) (i : ∀ σ H Q, t' σ H Q → t σ H Q) : PW X e t' := ⟨fun w pins s σ H Q I q => h.run w pins s σ H Q I (i σ H Q q)⟩
theorem pa_imp {X : Cx} {e : List Expr} {t t' : TA} (h : PA X e t) (i : ∀ σ H Q, t' σ H Q → t σ H Q) : PA X e t' := ⟨fun pos pins s σ H Q I q => h.run pos pins s σ H Q I (i σ H Q q)⟩
theorem ps_imp {X : Cx} {e : Stmt} {t t' : TS} (h : PS X e t) (i : ∀ Dn σ H, t' Dn σ H → t Dn σ H) : PS X e t' := ⟨fun pins s σ H Dn I q => h.run pins s σ H Dn I (i Dn σ H q)⟩
theorem pss_imp {X : Cx} {e : List Stmt} {t t' : TS} (h : PSs X e t) (i : ∀ Dn σ H, t' Dn σ H → t Dn σ H) : PSs X e t' := ⟨fun pins s σ H Dn I q => h.run pins s σ H Dn I (i Dn σ H q)⟩
section
variable {B : Bs} {W : WX} {X : Cx} {σ : L2.St} {env : Env} {F H Hs : Hp}
/-- what t says, read now -/
theorem dr_top (R : Rel B env F H σ) {v : V} {t : T} {d : D} (h : TR B Hs F H σ env v t) (e : dr env t = some d) : DRt B.K B.cl F H v d := by
  cases t with
  | v x =>
    cases e
    exact DR.top R.fh h
  | f x =>
    cases e
    exact h.1.top
  | s i =>
    obtain ⟨s, e1, rfl⟩ := Option.map_eq_some_iff.mp (show (slot env i).map SV.val = some d from e)
    have e1 := slot_some e1
    obtain ⟨u, h1, h2⟩ := R.sl i s e1
    have h : σ[i]? = some (some v) := h
    rw [h] at h1
    cases h1
    cases s with
    | d x => exact DR.top R.fh h2
    | o x => exact h2.1.top
    | b x => exact h2.1.top
/-- what is no new object stays -/
theorem TR.step {env' : Env} {F' H' Hs' : Hp} {v : V} {t : T} (h : TR B Hs F H σ env v (fzT t)) (st : Step σ env F H env' F' H') : TR B Hs' F' H' σ env' v (fzT t) := by
  cases t with
  | v x => exact DR.mono st.g.f h
  | f x => exact DR.mono st.g.f h
  | s i => exact h
theorem Step.frz {env' : Env} {F' H' : Hp} {a : Addr} {o : HO} (st : Step σ env F H env' F' H') (fa : F' a = none) (ha : H a = none) : Step σ env F H env' (upd F' a o) H' :=
  ⟨⟨st.g.f.trans (same_new fa), st.g.h, fun b u e n z => by
    rw [upd_ne (ne_of_none e ha)]
    exact st.g.n b u e n z, st.g.k⟩, st.o⟩
/-- an expression's new object frozen -/
theorem tD_fz {m : ME} (σ : L2.St) (H : Hp) (Q : VK) (h : tD B W (fz m) σ H Q) : tD B W m σ H Q := by
  obtain ⟨F, env, R, S⟩ := h
  refine ⟨F, env, R, (Sat.of S).imp fun t e q v F' H' R' st tr => ?_⟩
  have q := (show ∀ v F' H', Rel B e F' H' σ → Step σ env F H e F' H' → TR B H F' H' σ e v (fzT t) → Q v H' from q)
  cases t with
  | v x => exact q v F' H' R' st tr
  | s i => exact q v F' H' R' st tr
  | f x =>
    obtain ⟨h1, h2⟩ := tr
    obtain ⟨a, o, rfl, fa, ha⟩ := h1.ref
    obtain ⟨o', ha', sF, dr⟩ := h1.frz
    rw [ha] at ha'
    cases ha'
    obtain ⟨n1, n2⟩ := h2 a rfl
    exact q _ (upd F' a o) H' (R'.frz fa ha (R.base n2) n1) (st.frz fa n2) dr
theorem tDD_fa {m : ME} (σ : L2.St) (H : Hp) (Q : VK) (h : tDD B W (fa m) σ H Q) : tD B W m σ H Q := by
  refine tD_fz σ H Q ?_
  obtain ⟨F, env, R, S⟩ := h
  refine ⟨F, env, R, ?_⟩
  have S := Sat.of S
  revert S
  show Sat B W σ (m env) _ → Sat B W σ ((m env).bind _) _
  cases m env with
  | no => exact id
  | ex c fs e => exact id
  | ok p =>
    obtain ⟨t, e⟩ := p
    intro q v F' H' R' st tr
    cases t with
    | v x => exact q v F' H' R' st tr
    | f x => exact q v F' H' R' st tr
    | s i =>
      have tr : σ[i]? = some (some v) := tr
      cases hs : slot e i with
      | none => simp only [Sat, fzT, faO, hs] at q
      | some s =>
        have es := slot_some hs
        cases s with
        | d d =>
          obtain ⟨u, h1, h2⟩ := R'.sl i _ es
          rw [tr] at h1
          cases h1
          simp only [Sat, fzT, faO, hs] at q
          exact q v F' H' R' st h2
        | o d =>
          obtain ⟨u, F2, h1, R2, st2, h2⟩ := R'.frzS es
          rw [tr] at h1
          cases h1
          simp only [Sat, fzT, faO, hs] at q
          exact q v F2 H' R2 (st.trans st2) h2
        | b d => simp only [Sat, fzT, faO, hs] at q
end
/-! ### names, constants -/
def mVar (i : Nat) : ME := fun env => match slot env i with
  | some (.d d) => .ok (.v d, env)
  | some _ => .ok (.s i, env)
  | none => .no
def mC (d : D) : ME := fun env => .ok (.v d, env)
section
variable {B : Bs} {W : WX} {X : Cx}
theorem de_var (i : Nat) {x : Str} {pos : Pos} (hN : X.N[i]? = some x := by rfl) (hv : Vis X.env.scope x := by first | exact Or.inl rfl | exact Or.inr (Or.inl rfl) | exact Or.inr (Or.inr rfl)) (hd : (x == ("__debug__" : Str)) = false := by decide)
    (hcd : (x == ("__classdict__" : Str)) = false := by decide) : PE X (.Name x pos) (tD B W (mVar i)) := by
  refine pe_imp (pe_var hN hv hd hcd) fun σ H Q h => ?_
  obtain ⟨F, env, R, S⟩ := h
  cases hs : slot env i with
  | none => simp only [Sat, mVar, hs] at S
  | some s =>
    obtain ⟨v, h1, h2⟩ := R.sl i s (slot_some hs)
    refine ⟨v, h1, ?_⟩
    cases s with
    | d d =>
      simp only [Sat, mVar, hs] at S
      exact S v F H R (.refl _ _ _ _) h2
    | o d =>
      simp only [Sat, mVar, hs] at S
      exact S v F H R (.refl _ _ _ _) h1
    | b d =>
      simp only [Sat, mVar, hs] at S
      exact S v F H R (.refl _ _ _ _) h1
theorem de_c {e : Expr} {v : V} {d : D} (h : PE X e (tC v)) (r : ∀ F, DR B.K B.cl F v d) : PE X e (tD B W (mC d)) := by
  refine pe_imp h fun σ H Q h => ?_
  obtain ⟨F, env, R, S⟩ := h
  exact S v F H R (.refl _ _ _ _) (r F)
theorem de_int {i j pos} : PE X (.Constant (.int i) j pos) (tD B W (mC (.int i))) := de_c pe_int fun _ => .int
theorem de_bl {b j pos} : PE X (.Constant (.bool b) j pos) (tD B W (mC (.bl b))) := de_c pe_bl fun _ => .bl
theorem de_non {j pos} : PE X (.Constant .none j pos) (tD B W (mC .non)) := de_c pe_non fun _ => .non
theorem de_str {x j pos} : PE X (.Constant (.str x) j pos) (tD B W (mC (.str x))) := de_c pe_str fun _ => .str
theorem de_gi {x : Str} {i : Int} {pos : Pos} (h : ∃ t, X.mg x = some (.int i t)) (hg : Gl X x := by rfl) (hd : (x == ("__debug__" : Str)) = false := by decide) : PE X (.Name x pos) (tD B W (mC (.int i))) := de_c (pe_gi h hg hd) fun _ => .int
theorem de_ty {x : Str} {n : String} {pos : Pos} (hm : X.mg x = none) (hv : bootBuiltins x = some (.type n)) (hg : Gl X x := by rfl) (hn : x ≠ "__name__" := by decide) (hd : (x == ("__debug__" : Str)) = false := by decide) : PE X (.Name x pos) (tD B W (mC (.ty n))) :=
  de_c (pe_ty hm hv hg hn hd) fun _ => .ty
end
/-! ### operations -/
/-- what an operation gives -/
def FT (K : PySem.W.Frag) (cl : Str → Addr) (F' H' H : Hp) (v : V) : T → Prop
  | .v d => DR K cl F' v d
  | .f d => OF K cl F' H' v d ∧ ∀ a, v = .ref a → H a = none
  | .s _ => False
theorem FT.tr {B : Bs} {Hs F H F' H' : Hp} {σ : L2.St} {env : Env} {v : V} {t : T} (R : Rel B env F H σ) (hs : ∀ a, H a = none → Hs a = none) (h : FT B.K B.cl F' H' H v t) : TR B Hs F' H' σ env v t := by
  cases t with
  | v d => exact h
  | s _ => exact h.elim
  | f d =>
    refine ⟨h.1, fun a e => ⟨fun z => ?_, hs a (h.2 a e)⟩⟩
    obtain ⟨o, ho, _⟩ := R.owS z
    rw [h.2 a e] at ho
    cases ho
def r2D (K : PySem.W.Frag) (cl : Str → Addr) (f : D → D → Option T) : R2 := fun x y H Q => ∃ F a b t, Same F H ∧ DRt K cl F H x a ∧ DRt K cl F H y b ∧ f a b = some t ∧ ∀ v F' H', News F H F' H' → FT K cl F' H' H v t → Q v H'
def r1D (K : PySem.W.Frag) (cl : Str → Addr) (f : D → Option T) : V → Hp → VK → Prop := fun x H Q => ∃ F a t, Same F H ∧ DRt K cl F H x a ∧ f a = some t ∧ ∀ v F' H', News F H F' H' → FT K cl F' H' H v t → Q v H'
def mBin (f : D → D → Option T) (ma mb : ME) : ME := fun env => (fz ma env).bind fun p => (fz mb p.2).bind fun q => match dr q.2 p.1, dr q.2 q.1 with
  | some a, some b => match f a b with
    | some t => .ok (t, q.2)
    | none => .no
  | _, _ => .no
def mUn (f : D → Option T) (ma : ME) : ME := fun env => (fz ma env).bind fun p => match dr p.2 p.1 with
  | some a => match f a with
    | some t => .ok (t, p.2)
    | none => .no
  | none => .no
theorem fz_ok {m : ME} {env e : Env} {t : T} (h : fz m env = .ok (t, e)) : fzT t = t := by
  unfold fz at h
  cases hm : m env with
  | no => rw [hm] at h; cases h
  | ex c fs e => rw [hm] at h; cases h
  | ok p =>
    rw [hm] at h
    cases h
    cases p.1 <;> rfl
theorem Sat.fz {B : Bs} {W : WX} {σ : L2.St} {m : ME} {env : Env} {P : T → Env → Prop} (h : Sat B W σ (fz m env) P) : Sat B W σ (DL.fz m env) fun t e => fzT t = t ∧ P t e := by
  have k : ∀ o, DL.fz m env = o → Sat B W σ o P → Sat B W σ o fun t e => fzT t = t ∧ P t e := by
    intro o e s
    cases o with
    | ok p => exact ⟨fz_ok e, s⟩
    | ex c fs e => exact s
    | no => exact s
  exact k _ rfl h
section
variable {B : Bs} {W : WX} {σ : L2.St}
theorem t_bin {f : D → D → Option T} {ma mb : ME} (H : Hp) (Q : VK) (h : tD B W (mBin f ma mb) σ H Q) : tOp (r2D B.K B.cl f) (tD B W ma) (tD B W mb) σ H Q := by
  obtain ⟨F, env, R, S⟩ := h
  refine tD_fz σ H _ ⟨F, env, R, (Sat.of S).fz.imp fun t1 e1 z v1 F1 H1 R1 st1 tr1 => ?_⟩
  obtain ⟨z1, S1⟩ := z
  refine tD_fz σ H1 _ ⟨F1, e1, R1, (Sat.of S1).imp fun t2 e2 S2 v2 F2 H2 R2 st2 tr2 => ?_⟩
  have tr1' : TR B H F2 H2 σ e2 v1 t1 := by
    rw [← z1] at tr1 ⊢
    exact tr1.step st2
  cases ha : dr e2 t1 with
  | none => simp only [Sat, ha] at S2
  | some a =>
    cases hb : dr e2 t2 with
    | none => simp only [Sat, ha, hb] at S2
    | some b =>
      cases hf : f a b with
      | none => simp only [Sat, ha, hb, hf] at S2
      | some t =>
        simp only [Sat, ha, hb, hf] at S2
        exact ⟨F2, a, b, t, R2.fh, dr_top R2 tr1' ha, dr_top R2 tr2 hb, hf, fun v F3 H3 n ft => S2 v F3 H3 (R2.news n) (st1.trans (st2.trans n.step)) (ft.tr R2 fun x hx => st1.g.free (st2.g.free hx))⟩
theorem t_un {f : D → Option T} {ma : ME} (H : Hp) (Q : VK) (h : tD B W (mUn f ma) σ H Q) : tUn (r1D B.K B.cl f) (tD B W ma) σ H Q := by
  obtain ⟨F, env, R, S⟩ := h
  refine tD_fz σ H _ ⟨F, env, R, (Sat.of S).imp fun t1 e1 S2 v1 F1 H1 R1 st1 tr1 => ?_⟩
  cases ha : dr e1 t1 with
  | none => simp only [Sat, ha] at S2
  | some a =>
    cases hf : f a with
    | none => simp only [Sat, ha, hf] at S2
    | some t =>
      simp only [Sat, ha, hf] at S2
      exact ⟨F1, a, t, R1.fh, dr_top R1 tr1 ha, hf, fun v F3 H3 n ft => S2 v F3 H3 (R1.news n) (st1.trans n.step) (ft.tr R1 fun x hx => st1.g.free hx)⟩
end
section
variable {B : Bs} {W : WX} {X : Cx} {a b : Expr} {ma mb : ME} {pos : Pos}
theorem de_op {op : Operator} {f : D → D → Option T} (ho : OpR X (binaryOp op) (r2D B.K B.cl f)) (ha : PE X a (tD B W ma)) (hb : PE X b (tD B W mb)) : PE X (.BinOp a op b pos) (tD B W (mBin f ma mb)) := pe_imp (pe_op ho ha hb) fun _ => t_bin
theorem de_cmp {op : CmpOp} {f : D → D → Option T} (ho : OpR X (compareOp op) (r2D B.K B.cl f)) (ha : PE X a (tD B W ma)) (hb : PE X b (tD B W mb)) (hm : behindInMarks op b = false := by exact nomark _) : PE X (.Compare a [op] [b] pos) (tD B W (mBin f ma mb)) := pe_imp (pe_cmpR ho ha hb hm) fun _ => t_bin
end
end DL
set_option Elab.async false
set_option linter.all false
set_option maxRecDepth 100000
set_option maxHeartbeats 4000000
namespace DL
open PySem PySem.Spec PyProof.Rows L2 Own

/-! ### tests -/
def truD : D → Option Bool
  | .non => some false
  | .bl b => some b
  | .int i => some (i != 0)
  | .str x => if x.length ≤ sizeLine then some ((x.length : Int) != 0) else none
  | .lst ds => some (!ds.isEmpty)
  | .tup ds => some (!ds.isEmpty)
  | .dic ds => some (!ds.isEmpty)
  | _ => none
def boD : D → Option Bool
  | .bl b => some b
  | _ => none
theorem truD_ok {K : PySem.W.Frag} {cl : Str → Addr} {F H : Hp} {v : V} {d : D} {k : Bool} (sm : Same F H) (h : DRt K cl F H v d) (e : truD d = some k) : TruV K v H k := by
  cases h with
  | non => cases e; rfl
  | bl => cases e; rfl
  | int => cases e; rfl
  | @str x =>
    have e : (if x.length ≤ sizeLine then some ((x.length : Int) != 0) else none) = some k := e
    by_cases h : x.length ≤ sizeLine
    · rw [if_pos h] at e
      cases e
      exact ⟨h, rfl⟩
    · rw [if_neg h] at e
      cases e
  | ty => cases e
  | cls => cases e
  | lst a b =>
    cases e
    refine .inl ⟨_, .of a, ?_⟩
    cases b <;> rfl
  | lsf a b => cases e
  | tup a b =>
    cases e
    refine .inr (.inl ⟨_, sqt_same sm a, ?_⟩)
    cases b <;> rfl
  | dic a b =>
    cases e
    refine .inr (.inr ⟨_, a, ?_⟩)
    cases b <;> rfl
  | ins a b => cases e
/-- a value's truth -/
def mTr (m : ME) : MB := fun env => (fz m env).bind fun p => match dr p.2 p.1 with
  | some d => match truD d with
    | some b => .ok (b, p.2)
    | none => .no
  | none => .no
/-- a comparison as a test -/
def mTe (m : ME) : MB := fun env => (m env).bind fun p => match p.1 with
  | .v d => match boD d with
    | some b => .ok (b, p.2)
    | none => .no
  | _ => .no
def mNotT (m : MB) : MB := fun env => (m env).bind fun p => .ok (!p.1, p.2)
def mAndT (m n : MB) : MB := fun env => (m env).bind fun p => if p.1 = true then n p.2 else .ok (false, p.2)
def mOrT (m n : MB) : MB := fun env => (m env).bind fun p => if p.1 = true then .ok (true, p.2) else n p.2
/-- and, or, not as values (of truths) -/
def mAnd (m n : ME) : ME := fun env => (mTe m env).bind fun p => if p.1 = true then n p.2 else .ok (.v (.bl false), p.2)
def mOr (m n : ME) : ME := fun env => (mTe m env).bind fun p => if p.1 = true then .ok (.v (.bl true), p.2) else n p.2
def mNot (m : ME) : ME := fun env => (mTe m env).bind fun p => .ok (.v (.bl !p.1), p.2)
def mIf (c : MB) (m n : ME) : ME := fun env => (c env).bind fun p => if p.1 = true then m p.2 else n p.2
section
variable {B : Bs} {W : WX} {σ : L2.St}
theorem tB_of {m : ME} (H : Hp) (Q : Bool → Hp → Prop) (h : tDB B W (mTe m) σ H Q) : tD B W m σ H fun x H1 => ∃ c, x = .bl c ∧ Q c H1 := by
  obtain ⟨F, env, R, S⟩ := h
  refine ⟨F, env, R, (Sat.of S).imp fun t e S2 v F1 H1 R1 st1 tr1 => ?_⟩
  cases t with
  | s i => simp only [Sat] at S2
  | f d => simp only [Sat] at S2
  | v d =>
    cases d with
    | bl b =>
      simp only [Sat, boD] at S2
      cases tr1
      exact ⟨b, rfl, S2 F1 H1 R1 st1⟩
    | _ => simp only [Sat, boD] at S2
theorem ite_sat {α : Type} {c : Bool} {o1 o2 : Out (α × Env)} {P : α → Env → Prop} (h : Sat B W σ (if c = true then o1 else o2) P) : if c = true then Sat B W σ o1 P else Sat B W σ o2 P := by
  cases c <;> exact h
end
section
variable {B : Bs} {W : WX} {X : Cx} {a b : Expr} {m n : ME} {mt nt : MB} {pos : Pos} {rest : List Expr}
theorem dt_truth (hK : X.K = B.K) (ha : PE X a (tD B W m)) (he : ∀ whole, isTrue a X.env whole = (do let v ← whole; standAt a.pos; holding [v] (truthy v)) := by intro _; rfl) : PT X a (tDB B W (mTr m)) := by
  refine pt_imp (pt_truth ha he) fun σ H Q h => ?_
  obtain ⟨F, env, R, S⟩ := h
  refine tD_fz σ H _ ⟨F, env, R, (Sat.of S).imp fun t e S2 v F1 H1 R1 st1 tr1 => ?_⟩
  cases hd : dr e t with
  | none => simp only [Sat, hd] at S2
  | some d =>
    cases hb : truD d with
    | none => simp only [Sat, hd, hb] at S2
    | some k =>
      simp only [Sat, hd, hb] at S2
      exact ⟨k, hK ▸ truD_ok R1.fh (dr_top R1 tr1 hd) hb, S2 F1 H1 R1 st1⟩
theorem dt_cmp {op : CmpOp} {f : D → D → Option T} (ho : OpR X (compareOp op) (r2D B.K B.cl f)) (ha : PE X a (tD B W m)) (hb : PE X b (tD B W n)) (hm : behindInMarks op b = false := by exact nomark _) : PT X (.Compare a [op] [b] pos) (tDB B W (mTe (mBin f m n))) :=
  pt_imp (pt_cmpR ho ha hb hm) fun _ H Q h => t_bin H _ (tB_of H Q h)
theorem dt_not (ha : PT X a (tDB B W mt)) : PT X (.UnaryOp .Not a pos) (tDB B W (mNotT mt)) := by
  refine pt_imp (pt_not ha) fun σ H Q h => ?_
  obtain ⟨F, env, R, S⟩ := h
  exact ⟨F, env, R, (Sat.of S).imp fun c e S2 F1 H1 R1 st1 => S2 F1 H1 R1 st1⟩
theorem dw_and1 (ha : PT X a (tDB B W mt)) : PW X (.BoolOp .And [a] pos) (tDB B W mt) := pw_and1 ha
theorem dw_or1 (ha : PT X a (tDB B W mt)) : PW X (.BoolOp .Or [a] pos) (tDB B W mt) := pw_or1 ha
theorem dw_and (ha : PT X a (tDB B W mt)) (hb : PW X (.BoolOp .And (b :: rest) pos) (tDB B W nt)) : PW X (.BoolOp .And (a :: b :: rest) pos) (tDB B W (mAndT mt nt)) := by
  refine pw_imp (pw_and ha hb) fun σ H Q h => ?_
  obtain ⟨F, env, R, S⟩ := h
  refine ⟨F, env, R, (Sat.of S).imp fun c e S2 F1 H1 R1 st1 => ?_⟩
  cases c with
  | true => exact iteT ⟨F1, e, R1, Sat.imp S2 fun b e2 q F2 H2 R2 st2 => q F2 H2 R2 (st1.trans st2)⟩
  | false => exact iteF (S2 F1 H1 R1 st1)
theorem dw_or (ha : PT X a (tDB B W mt)) (hb : PW X (.BoolOp .Or (b :: rest) pos) (tDB B W nt)) : PW X (.BoolOp .Or (a :: b :: rest) pos) (tDB B W (mOrT mt nt)) := by
  refine pw_imp (pw_or ha hb) fun σ H Q h => ?_
  obtain ⟨F, env, R, S⟩ := h
  refine ⟨F, env, R, (Sat.of S).imp fun c e S2 F1 H1 R1 st1 => ?_⟩
  cases c with
  | false => exact iteF ⟨F1, e, R1, Sat.imp S2 fun b e2 q F2 H2 R2 st2 => q F2 H2 R2 (st1.trans st2)⟩
  | true => exact iteT (S2 F1 H1 R1 st1)
theorem tD_more {σ : L2.St} {env e : Env} {F H F1 H1 : Hp} {Q : VK} {m : ME} (st1 : Step σ env F H e F1 H1) (R1 : Rel B e F1 H1 σ)
    (S : Sat B W σ (m e) fun t env' => ∀ v F' H', Rel B env' F' H' σ → Step σ env F H env' F' H' → TR B H F' H' σ env' v t → Q v H') : tD B W m σ H1 Q := by
  refine ⟨F1, e, R1, S.imp fun t e2 q v F2 H2 R2 st2 tr => q v F2 H2 R2 (st1.trans st2) ?_⟩
  cases t with
  | v d => exact tr
  | s i => exact tr
  | f d => exact ⟨tr.1, fun a ea => ⟨(tr.2 a ea).1, st1.g.free (tr.2 a ea).2⟩⟩
theorem de_one {op} (h : PE X a (tD B W m)) : PE X (.BoolOp op [a] pos) (tD B W m) := pe_one h
theorem de_and (ha : PE X a (tD B W m)) (hb : PE X (.BoolOp .And (b :: rest) pos) (tD B W n)) : PE X (.BoolOp .And (a :: b :: rest) pos) (tD B W (mAnd m n)) := by
  refine pe_imp (pe_and ha hb) fun σ H Q h => ?_
  obtain ⟨F, env, R, S⟩ := h
  refine tB_of H (fun c H1 => if c = true then tD B W n σ H1 Q else Q (.bl false) H1) ⟨F, env, R, (Sat.of S).imp fun c e S2 F1 H1 R1 st1 => ?_⟩
  cases c with
  | true => exact iteT (tD_more st1 R1 S2)
  | false => exact iteF (S2 _ F1 H1 R1 st1 .bl)
theorem de_or (ha : PE X a (tD B W m)) (hb : PE X (.BoolOp .Or (b :: rest) pos) (tD B W n)) : PE X (.BoolOp .Or (a :: b :: rest) pos) (tD B W (mOr m n)) := by
  refine pe_imp (pe_or ha hb) fun σ H Q h => ?_
  obtain ⟨F, env, R, S⟩ := h
  refine tB_of H (fun c H1 => if c = true then Q (.bl true) H1 else tD B W n σ H1 Q) ⟨F, env, R, (Sat.of S).imp fun c e S2 F1 H1 R1 st1 => ?_⟩
  cases c with
  | false => exact iteF (tD_more st1 R1 S2)
  | true => exact iteT (S2 _ F1 H1 R1 st1 .bl)
theorem de_not (ha : PE X a (tD B W m)) : PE X (.UnaryOp .Not a pos) (tD B W (mNot m)) := by
  refine pe_imp (pe_not ha) fun σ H Q h => ?_
  obtain ⟨F, env, R, S⟩ := h
  exact tB_of H (fun c H1 => Q (.bl !c) H1) ⟨F, env, R, (Sat.of S).imp fun c e S2 F1 H1 R1 st1 => S2 _ F1 H1 R1 st1 .bl⟩
theorem de_ifExp {c : Expr} (hc : PT X c (tDB B W mt)) (ha : PE X a (tD B W m)) (hb : PE X b (tD B W n)) : PE X (.IfExp c a b pos) (tD B W (mIf mt m n)) := by
  refine pe_imp (pe_ifExp hc ha hb) fun σ H Q h => ?_
  obtain ⟨F, env, R, S⟩ := h
  refine ⟨F, env, R, (Sat.of S).imp fun c e S2 F1 H1 R1 st1 => ?_⟩
  cases c with
  | true => exact iteT (tD_more st1 R1 S2)
  | false => exact iteF (tD_more st1 R1 S2)
end
/-! ### argument lists, displays -/
def mNil : MA := fun env => .ok ([], env)
def mCons (m : ME) (r : MA) : MA := fun env => (fa m env).bind fun p => (r p.2).bind fun q => .ok (p.1 :: q.1, q.2)
def mLst (m : MA) : ME := fun env => (m env).bind fun p => if p.1.length ≤ 1000 then .ok (.f (.lst p.1), p.2) else .no
def mTup (m : MA) : ME := fun env => (m env).bind fun p => if p.1.length ≤ 1000 then .ok (.v (.tup p.1), p.2) else .no
section
variable {B : Bs} {W : WX} {X : Cx} {e : Expr} {es : List Expr} {m : ME} {r : MA} {pos : Pos}
theorem da_nil : PA X [] (tDA B W mNil) := pa_imp pa_nil fun σ H Q h => by
  obtain ⟨F, env, R, S⟩ := h
  exact S [] F H R (.refl _ _ _ _) .nil
theorem da_cons (ha : PE X e (tD B W m)) (hr : PA X es (tDA B W r)) (hs : starEach (e :: es) X.env = (false, eval e X.env) :: starEach es X.env := by rfl) : PA X (e :: es) (tDA B W (mCons m r)) := by
  refine pa_imp (pa_cons ha hr hs) fun σ H Q h => ?_
  obtain ⟨F, env, R, S⟩ := h
  refine tDD_fa σ H _ ⟨F, env, R, (Sat.of S).imp fun d e S2 v F1 H1 R1 st1 tr1 => ?_⟩
  exact ⟨F1, e, R1, (Sat.of S2).imp fun ds e2 q vs F2 H2 R2 st2 trs => q (v :: vs) F2 H2 R2 (st1.trans st2) (.cons (tr1.mono st2.g.f) trs)⟩
theorem de_lst (h : PA X es (tDA B W r)) : PE X (.List es pos) (tD B W (mLst r)) := by
  refine pe_imp (pe_lst h) fun σ H Q h => ?_
  obtain ⟨F, env, R, S⟩ := h
  refine ⟨F, env, R, (Sat.of S).imp fun ds e S2 vs F1 H1 R1 st1 trs => ?_⟩
  by_cases hl : ds.length ≤ 1000
  · simp only [Sat, hl, if_true] at S2
    refine ⟨by rw [trs.length]; exact Nat.le_trans hl (by decide), fun p hp => ?_⟩
    refine S2 _ F1 _ (R1.news (.new R1.fh hp)) (st1.trans (News.new R1.fh hp).step) ⟨.lst (R1.fh.free hp) upd_same trs, fun a ea => ?_⟩
    cases ea
    refine ⟨fun z => ?_, st1.g.free hp⟩
    obtain ⟨o, ho, _⟩ := R1.owS z
    rw [hp] at ho
    cases ho
  · simp only [Sat, hl, if_false] at S2
theorem de_tup {x1} (h : PA X es (tDA B W r)) : PE X (.Tuple es x1 pos) (tD B W (mTup r)) := by
  refine pe_imp (pe_tup h) fun σ H Q h => ?_
  obtain ⟨F, env, R, S⟩ := h
  refine ⟨F, env, R, (Sat.of S).imp fun ds e S2 vs F1 H1 R1 st1 trs => ?_⟩
  by_cases hl : ds.length ≤ 1000
  · simp only [Sat, hl, if_true] at S2
    refine ⟨by rw [trs.length]; exact Nat.le_trans hl (by decide), fun p hp => ?_⟩
    have n : News F1 H1 (upd F1 p (.tup vs)) (upd H1 p (.tup vs)) := News.frz R1.fh hp
    exact S2 _ _ _ (R1.news n) (st1.trans n.step) (.tup (.of upd_same) (trs.mono n.g.f))
  · simp only [Sat, hl, if_false] at S2
end
/-! ### built-ins of one, of two -/
def rc1 (r : V → Hp → VK → Prop) : List V → Hp → VK → Prop := fun vs H Q => ∃ x, vs = [x] ∧ r x H Q
def rc2 (r : R2) : List V → Hp → VK → Prop := fun vs H Q => ∃ x y, vs = [x, y] ∧ r x y H Q
section
variable {B : Bs} {W : WX} {X : Cx} {a b : Expr} {m n : ME} {pos p : Pos} {x : Str} {id T : String} {f : D → Option DL.T} {f2 : D → D → Option DL.T}
theorem de_b1 (hc : CallR X (.builtin id) (rc1 (r1D B.K B.cl f))) (hm : X.mg x = none) (hv : bootBuiltins x = some (.builtin id)) (ha : PE X a (tD B W m)) (hg : Gl X x := by rfl) (hn : x ≠ "__name__" := by decide) (hdb : (x == ("__debug__" : Str)) = false := by decide)
    (he : starEach [a] X.env = (false, eval a X.env) :: starEach [] X.env := by rfl) (hpl : (backTo pos (starEach [] X.env)).any (·.1) = false := by rfl) : PE X (.Call (.Name x p) [a] [] pos) (tD B W (mUn f m)) :=
  pe_imp (pe_callB hc hg hm hv (pa_cons ha pa_nil he) hn hdb he hpl) fun σ H Q h => by
    obtain ⟨F, env, R, S⟩ := t_un H Q h
    exact ⟨F, env, R, S.imp fun t e q v F1 H1 R1 st tr => ⟨v, rfl, q v F1 H1 R1 st tr⟩⟩
theorem de_t1 (hc : CallR X (.type T) (rc1 (r1D B.K B.cl f))) (hm : X.mg x = none) (hv : bootBuiltins x = some (.type T)) (ha : PE X a (tD B W m)) (hg : Gl X x := by rfl) (hn : x ≠ "__name__" := by decide) (hdb : (x == ("__debug__" : Str)) = false := by decide)
    (he : starEach [a] X.env = (false, eval a X.env) :: starEach [] X.env := by rfl) (hpl : (backTo pos (starEach [] X.env)).any (·.1) = false := by rfl) : PE X (.Call (.Name x p) [a] [] pos) (tD B W (mUn f m)) :=
  pe_imp (pe_callTy hc hg hm hv (pa_cons ha pa_nil he) hn hdb he hpl) fun σ H Q h => by
    obtain ⟨F, env, R, S⟩ := t_un H Q h
    exact ⟨F, env, R, S.imp fun t e q v F1 H1 R1 st tr => ⟨v, rfl, q v F1 H1 R1 st tr⟩⟩
theorem de_b2 (hc : CallR X (.builtin id) (rc2 (r2D B.K B.cl f2))) (hm : X.mg x = none) (hv : bootBuiltins x = some (.builtin id)) (ha : PE X a (tD B W m)) (hb : PE X b (tD B W n)) (hg : Gl X x := by rfl) (hn : x ≠ "__name__" := by decide) (hdb : (x == ("__debug__" : Str)) = false := by decide)
    (he : starEach [a, b] X.env = (false, eval a X.env) :: starEach [b] X.env := by rfl) (he2 : starEach [b] X.env = (false, eval b X.env) :: starEach [] X.env := by rfl) (hpl : (backTo pos (starEach [b] X.env)).any (·.1) = false := by rfl) : PE X (.Call (.Name x p) [a, b] [] pos) (tD B W (mBin f2 m n)) :=
  pe_imp (pe_callB hc hg hm hv (pa_cons ha (pa_cons hb pa_nil he2) he) hn hdb he hpl) fun σ H Q h => by
    obtain ⟨F, env, R, S⟩ := t_bin H Q h
    refine ⟨F, env, R, S.imp fun t e q v F1 H1 R1 st tr => ?_⟩
    obtain ⟨F2, env2, R2, S2⟩ := q v F1 H1 R1 st tr
    exact ⟨F2, env2, R2, S2.imp fun t2 e2 q2 v2 F3 H3 R3 st3 tr3 => ⟨v, v2, rfl, q2 v2 F3 H3 R3 st3 tr3⟩⟩
end
end DL
set_option Elab.async false
set_option linter.all false
set_option maxRecDepth 100000
set_option maxHeartbeats 4000000
namespace DL
open PySem PySem.Spec PyProof.Rows L2 Own

/-! ### what is stored: a new object stays one -/
abbrev MN := Env → Out (SV × Env)
def newO (p : T × Env) : Out (SV × Env) := match p.1 with
  | .v d => .ok (.d d, p.2)
  | .f d => .ok (.o d, p.2)
  | .s i => match slot p.2 i with
    | some (.d d) => .ok (.d d, p.2)
    | some (.o d) => .ok (.d d, p.2.set i (some (.d d)))
    | _ => .no
def mNew (m : ME) : MN := fun env => (m env).bind newO
/-- what is handed back: an object of a slot goes along -/
def retO (p : T × Env) : Out (SV × Env) := match p.1 with
  | .v d => .ok (.d d, p.2)
  | .f d => .ok (.o d, p.2)
  | .s i => match slot p.2 i with
    | some (.d d) => .ok (.d d, p.2)
    | some (.o d) => .ok (.o d, p.2)
    | _ => .no
def NR (B : Bs) (Hs F H : Hp) (σ : L2.St) (env : Env) (v : V) : SV → Prop
  | .d d => DR B.K B.cl F v d
  | .o d => OF B.K B.cl F H v d ∧ ∀ a, v = .ref a → ¬ Ow env σ a ∧ Hs a = none
  | .b _ => False
def RR (B : Bs) (F H : Hp) (v : V) : SV → Prop
  | .d d => DR B.K B.cl F v d
  | .o d => OF B.K B.cl F H v d ∧ ∀ a, v = .ref a → B.H0 a = none
  | .b _ => False
def tDN (B : Bs) (W : WX) (m : MN) : TE := fun σ H Q => ∃ F env, Rel B env F H σ ∧ Sat B W σ (m env) fun s env' => ∀ v F' H', Rel B env' F' H' σ → Step σ env F H env' F' H' → NR B H F' H' σ env' v s → Q v H'
section
variable {B : Bs} {W : WX} {σ : L2.St} {env env' : Env} {Hs Hs' F H F' H' : Hp} {v : V} {s : SV}
theorem tDN_of {m : ME} (σ : L2.St) (H : Hp) (Q : VK) (h : tDN B W (mNew m) σ H Q) : tD B W m σ H Q := by
  obtain ⟨F, env, R, S⟩ := h
  refine ⟨F, env, R, (Sat.of S).imp fun t e q v F' H' R' st tr => ?_⟩
  cases t with
  | v x => exact q v F' H' R' st tr
  | f x => exact q v F' H' R' st tr
  | s i =>
    have tr : σ[i]? = some (some v) := tr
    cases hs : slot e i with
    | none => simp only [Sat, newO, hs] at q
    | some s =>
      have es := slot_some hs
      cases s with
      | d d =>
        obtain ⟨u, h1, h2⟩ := R'.sl i _ es
        rw [tr] at h1
        cases h1
        simp only [Sat, newO, hs] at q
        exact q v F' H' R' st h2
      | o d =>
        obtain ⟨u, F2, h1, R2, st2, h2⟩ := R'.frzS es
        rw [tr] at h1
        cases h1
        simp only [Sat, newO, hs] at q
        exact q v F2 H' R2 (st.trans st2) h2
      | b d => simp only [Sat, newO, hs] at q
/-- a value that is kept while others are reckoned -/
theorem NR.step (h : NR B Hs F H σ env v s) (st : Step σ env F H env' F' H') (hs : ∀ a, Hs a = none → Hs' a = none) : NR B Hs' F' H' σ env' v s := by
  cases s with
  | d d => exact DR.mono st.g.f h
  | b d => exact h.elim
  | o d =>
    obtain ⟨h1, h2⟩ := h
    refine ⟨h1.to st.g.f fun a o e ho fo => ⟨st.g.n a o ho (h2 a e).1 fo, st.g.h a o ho (h2 a e).1⟩, fun a e => ⟨fun z => (h2 a e).1 (st.o a z), hs a (h2 a e).2⟩⟩
theorem NR.sr (R : Rel B env F H σ) (h : NR B Hs F H σ env v s) (hb : ∀ a, Hs a = none → B.H0 a = none) : SR B F H v s := by
  cases s with
  | d d => exact h
  | b d => exact h.elim
  | o d => exact ⟨h.1, fun a e => hb a (h.2 a e).2⟩
theorem NR.ow (h : NR B Hs F H σ env v s) : ∀ a, s.mut = true → v = .ref a → ¬ Ow env σ a := by
  intro a m e
  cases s with
  | d d => cases m
  | b d => exact h.elim
  | o d => exact (h.2 a e).1
/-- some in a row -/
inductive NRs (B : Bs) (Hs F H : Hp) (σ : L2.St) (env : Env) : List V → List SV → Prop
  | nil : NRs B Hs F H σ env [] []
  | cons {v : V} {s : SV} {vs : List V} {ss : List SV} : NR B Hs F H σ env v s → NRs B Hs F H σ env vs ss → (∀ a, s.mut = true → v = .ref a → ∀ w ∈ vs.zip ss, w.2.mut = true → w.1 ≠ .ref a) → NRs B Hs F H σ env (v :: vs) (s :: ss)
end
theorem NRs.news {B : Bs} {σ : L2.St} {env : Env} {Hs F H : Hp} {vs : List V} {ss : List SV} (h : NRs B Hs F H σ env vs ss) : ∀ w ∈ vs.zip ss, w.2.mut = true → ∀ a, w.1 = .ref a → Hs a = none := by
  induction h with
  | nil => intro w hw; cases hw
  | @cons v s vs ss h1 h2 h3 ih =>
    intro w hw m a e
    rcases List.mem_cons.mp hw with q | q
    · subst q
      cases s with
      | d d => cases m
      | b d => exact h1.elim
      | o d => exact (h1.2 a e).2
    · exact ih w q m a e
theorem NRs.imp {B : Bs} {σ : L2.St} {env : Env} {Hs Hs' F H : Hp} {vs : List V} {ss : List SV} (h : NRs B Hs F H σ env vs ss) (hs : ∀ a, Hs a = none → Hs' a = none) : NRs B Hs' F H σ env vs ss := by
  induction h with
  | nil => exact .nil
  | @cons v s vs ss h1 h2 h3 ih =>
    refine .cons ?_ ih h3
    cases s with
    | d d => exact h1
    | b d => exact h1
    | o d => exact ⟨h1.1, fun a e => ⟨(h1.2 a e).1, hs a (h1.2 a e).2⟩⟩
abbrev MNs := Env → Out (List SV × Env)
def tDNs (B : Bs) (W : WX) (m : MNs) : TA := fun σ H Q => ∃ F env, Rel B env F H σ ∧ Sat B W σ (m env) fun ss env' => ∀ vs F' H', Rel B env' F' H' σ → Step σ env F H env' F' H' → NRs B H F' H' σ env' vs ss → Q vs H'
def nNil : MNs := fun env => .ok ([], env)
def nCons (m : ME) (r : MNs) : MNs := fun env => (mNew m env).bind fun p => (r p.2).bind fun q => .ok (p.1 :: q.1, q.2)
section
variable {B : Bs} {W : WX} {X : Cx} {e : Expr} {es : List Expr} {m : ME} {r : MNs} {pos : Pos}
theorem dn_nil : PA X [] (tDNs B W nNil) := pa_imp pa_nil fun σ H Q h => by
  obtain ⟨F, env, R, S⟩ := h
  exact S [] F H R (.refl _ _ _ _) .nil
theorem dn_cons (ha : PE X e (tD B W m)) (hr : PA X es (tDNs B W r)) (hs : starEach (e :: es) X.env = (false, eval e X.env) :: starEach es X.env := by rfl) : PA X (e :: es) (tDNs B W (nCons m r)) := by
  refine pa_imp (pa_cons ha hr hs) fun σ H Q h => ?_
  obtain ⟨F, env, R, S⟩ := h
  refine tDN_of σ H _ ⟨F, env, R, (Sat.of S).imp fun s e S2 v F1 H1 R1 st1 tr1 => ?_⟩
  refine ⟨F1, e, R1, (Sat.of S2).imp fun ss e2 q vs F2 H2 R2 st2 trs => q (v :: vs) F2 H2 R2 (st1.trans st2) (.cons (tr1.step st2 fun _ z => z) (trs.imp fun a z => st1.g.free z) fun a ms ev w hw mw z => ?_)⟩
  have := trs.news w hw mw a z
  cases s with
  | d d => cases ms
  | b d => exact tr1.elim
  | o d =>
    obtain ⟨b, o, eb, _, hb⟩ := tr1.1.ref
    rw [ev] at eb
    cases eb
    rw [this] at hb
    cases hb
end

/-! ### statements -/
inductive OutS where
  | nx (env : Env) | rt (r : SV) (env : Env) | bk (env : Env) | ct (env : Env) | ex (c : Str) (fs : List (Str × D)) (env : Env) | no
abbrev MS := Env → OutS
def sq {α : Type} (o : Out (α × Env)) (f : α → Env → OutS) : OutS := match o with
  | .ok a => f a.1 a.2
  | .ex c fs e => .ex c fs e
  | .no => .no
@[simp] theorem sq_ok {α : Type} (a : α × Env) (f : α → Env → OutS) : sq (.ok a) f = f a.1 a.2 := rfl
@[simp] theorem sq_ex {α : Type} (c : Str) (fs : List (Str × D)) (e : Env) (f : α → Env → OutS) : sq (.ex c fs e) f = .ex c fs e := rfl
@[simp] theorem sq_no {α : Type} (f : α → Env → OutS) : sq .no f = .no := rfl
def SatS (B : Bs) (W : WX) (F : Hp) (o : OutS) (Dn : Ends) : Prop := match o with
  | .nx e => ∀ σ' F' H', Rel B e F' H' σ' → Same F F' → Dn.nx σ' H'
  | .rt r e => ∀ v σ' F' H', Rel B e F' H' σ' → RR B F' H' v r → Dn.rt v H'
  | .bk e => ∀ σ' F' H', Rel B e F' H' σ' → Same F F' → Dn.bk σ' H'
  | .ct e => ∀ σ' F' H', Rel B e F' H' σ' → Same F F' → Dn.ct σ' H'
  | .ex c fs e => ∀ σ', ExP B W σ' c fs e
  | .no => False
def tDS (B : Bs) (W : WX) (m : MS) : TS := fun Dn σ H => ∃ F env, Rel B env F H σ ∧ SatS B W F (m env) Dn
section
variable {B : Bs} {W : WX} {σ : L2.St} {F F' : Hp}
theorem SatS.of {α : Type} {o : Out (α × Env)} {f : α → Env → OutS} {Dn : Ends} (h : SatS B W F (sq o f) Dn) : Sat B W σ o fun a e => SatS B W F (f a e) Dn := by
  cases o with
  | ok a => exact h
  | ex c fs e => exact h σ
  | no => exact h
theorem SatS.up {o : OutS} {Dn : Ends} (h : SatS B W F o Dn) (s : Same F F') : SatS B W F' o Dn := by
  cases o with
  | nx e => exact fun σ' F' H' R z => h σ' F' H' R (s.trans z)
  | bk e => exact fun σ' F' H' R z => h σ' F' H' R (s.trans z)
  | ct e => exact fun σ' F' H' R z => h σ' F' H' R (s.trans z)
  | rt r e => exact h
  | ex c fs e => exact h
  | no => exact h
end
def mPass : MS := fun env => .nx env
def mBrk : MS := fun env => .bk env
def mCnt : MS := fun env => .ct env
def mSeq (m n : MS) : MS := fun env => match m env with
  | .nx e => n e
  | o => o
def mDrop (m : ME) : MS := fun env => sq (m env) fun _ e => .nx e
def mSet (i : Nat) (m : ME) : MS := fun env => sq (mNew m env) fun s e => if i < e.length then .nx (e.set i (some s)) else .no
def mRet (m : ME) : MS := fun env => sq ((m env).bind retO) fun s e => .rt s e
def mIfS (c : MB) (m n : MS) : MS := fun env => sq (c env) fun b e => if b = true then m e else n e
def mPar2 (i j : Nat) (m : MNs) : MS := fun env => sq (m env) fun ss e => match ss with
  | [s, t] => if i < e.length ∧ j < e.length ∧ i ≠ j then .nx ((e.set i (some s)).set j (some t)) else .no
  | _ => .no
def mPar3 (i j k : Nat) (m : MNs) : MS := fun env => sq (m env) fun ss e => match ss with
  | [s, t, u] => if i < e.length ∧ j < e.length ∧ k < e.length ∧ i ≠ j ∧ i ≠ k ∧ j ≠ k then .nx (((e.set i (some s)).set j (some t)).set k (some u)) else .no
  | _ => .no
section
variable {B : Bs} {W : WX} {X : Cx} {st : Stmt} {rest : List Stmt} {m n : ME} {ms ns : MS} {mt : MB} {mn : MNs} {pos : Pos}
theorem ds_nil : PSs X [] (tDS B W mPass) := pss_imp pss_nil fun Dn σ H h => by
  obtain ⟨F, env, R, S⟩ := h
  exact S σ F H R (Same.refl _)
theorem ds_pass : PS X (.Pass pos) (tDS B W mPass) := ps_imp ps_pass fun Dn σ H h => by
  obtain ⟨F, env, R, S⟩ := h
  exact S σ F H R (Same.refl _)
theorem ds_break : PS X (.Break pos) (tDS B W mBrk) := ps_imp ps_break fun Dn σ H h => by
  obtain ⟨F, env, R, S⟩ := h
  exact S σ F H R (Same.refl _)
theorem ds_continue : PS X (.Continue pos) (tDS B W mCnt) := ps_imp ps_continue fun Dn σ H h => by
  obtain ⟨F, env, R, S⟩ := h
  exact S σ F H R (Same.refl _)
theorem ds_one (h : PS X st (tDS B W ms)) : PSs X [st] (tDS B W ms) := pss_one h
theorem ds_cons (h : PS X st (tDS B W ms)) (g : PSs X rest (tDS B W ns)) : PSs X (st :: rest) (tDS B W (mSeq ms ns)) := by
  refine pss_imp (pss_cons h g) fun Dn σ H h => ?_
  obtain ⟨F, env, R, S⟩ := h
  refine ⟨F, env, R, ?_⟩
  unfold mSeq at S
  cases hm : ms env with
  | nx e =>
    rw [hm] at S
    exact fun σ' F' H' R' s => ⟨F', e, R', S.up s⟩
  | rt r e => rw [hm] at S; exact S
  | bk e => rw [hm] at S; exact S
  | ct e => rw [hm] at S; exact S
  | ex c fs e => rw [hm] at S; exact S
  | no => rw [hm] at S; exact S
theorem ds_expr {e : Expr} (he : PE X e (tD B W m)) (hs : swapsWith e none pos.line X.env = pure false := by rfl) : PS X (.Expr e pos) (tDS B W (mDrop m)) := by
  refine ps_imp (ps_expr he hs) fun Dn σ H h => ?_
  obtain ⟨F, env, R, S⟩ := h
  exact ⟨F, env, R, (SatS.of S).imp fun t e q v F' H' R' st tr => q σ F' H' R' st.g.f⟩
theorem ds_set (i : Nat) {x : Str} {e : Expr} {pos' : Pos} (hN : X.N.Nodup) (hi : X.N[i]? = some x) (hx : Loc X.env.scope x) (he : PE X e (tD B W m)) (hb : B.fx.all (fun q => q.1 != i) = true := by rfl) (hs : swapsWith e (some (.Name x pos')) pos.line X.env = pure false := by rfl)
    (hf : X.fn x = true ∨ X.env.scope.names.lookup x = some .local := by first | exact .inl rfl | exact .inr rfl | assumption) : PS X (.Assign [.Name x pos'] e pos) (tDS B W (mSet i m)) := by
  refine ps_imp (ps_set hN hi hx he hs hf) fun Dn σ H h => ?_
  obtain ⟨F, env, R, S⟩ := h
  refine tDN_of σ H _ ⟨F, env, R, (SatS.of S).imp fun s e q v F' H' R' st tr => ?_⟩
  by_cases hl : i < e.length
  · simp only [hl, if_true] at q
    exact q _ F' H' (R'.set (tr.sr R' fun a z => R.base z) hl hb tr.ow) st.g.f
  · simp only [hl, if_false] at q
    exact q.elim
theorem ds_ret {e : Expr} (he : PE X e (tD B W m)) : PS X (.Return (some e) pos) (tDS B W (mRet m)) := by
  refine ps_imp (ps_ret he) fun Dn σ H h => ?_
  obtain ⟨F, env, R, S⟩ := h
  refine ⟨F, env, R, (Sat.of (SatS.of S)).imp fun t e q v F' H' R' st tr => ?_⟩
  cases t with
  | v d => exact q v σ F' H' R' tr
  | f d => exact q v σ F' H' R' ⟨tr.1, fun a ea => R.base (tr.2 a ea).2⟩
  | s i =>
    have tr : σ[i]? = some (some v) := tr
    cases hs : slot e i with
    | none => simp only [Sat, retO, hs] at q
    | some s =>
      have es := slot_some hs
      obtain ⟨u, h1, h2⟩ := R'.sl i _ es
      rw [tr] at h1
      cases h1
      cases s with
      | d d =>
        simp only [Sat, retO, hs] at q
        exact q v σ F' H' R' h2
      | o d =>
        simp only [Sat, retO, hs] at q
        exact q v σ F' H' R' h2
      | b d => simp only [Sat, retO, hs] at q
theorem ds_retN : PS X (.Return none pos) (tDS B W (mRet (mC .non))) := by
  refine ps_imp ps_retN fun Dn σ H h => ?_
  obtain ⟨F, env, R, S⟩ := h
  exact S _ σ F H R .non
theorem ds_if {c : Expr} {a b : List Stmt} (hc : PT X c (tDB B W mt)) (ha : PSs X a (tDS B W ms)) (hb : PSs X b (tDS B W ns)) : PS X (.If c a b pos) (tDS B W (mIfS mt ms ns)) := by
  refine ps_imp (ps_if hc ha hb) fun Dn σ H h => ?_
  obtain ⟨F, env, R, S⟩ := h
  refine ⟨F, env, R, (SatS.of S).imp fun b e q F' H' R' st => ?_⟩
  cases b with
  | true => exact iteT ⟨F', e, R', q.up st.g.f⟩
  | false => exact iteF ⟨F', e, R', q.up st.g.f⟩
theorem ow_set {env : Env} {σ : L2.St} {i : Nat} {v : V} {s : SV} {a : Addr} (h : Ow (env.set i (some s)) (σ.set i (some v)) a) : (s.mut = true ∧ v = .ref a) ∨ Ow env σ a := by
  obtain ⟨j, t, h1, h2, h3⟩ := h
  by_cases q : i = j
  · subst q
    by_cases l1 : i < env.length
    · by_cases l2 : i < σ.length
      · rw [List.getElem?_set_self l1] at h1
        rw [List.getElem?_set_self l2] at h3
        cases h1
        cases h3
        exact .inl ⟨h2, rfl⟩
      · rw [List.getElem?_eq_none (by rw [List.length_set]; omega)] at h3
        cases h3
    · rw [List.getElem?_eq_none (by rw [List.length_set]; omega)] at h1
      cases h1
  · rw [List.getElem?_set_ne q] at h1 h3
    exact .inr ⟨j, t, h1, h2, h3⟩
theorem ds_par2 {i j : Nat} {x y : Str} {a b : Expr} {px py pt : Pos} {kt k2 pt2} (hc : X.calm = true) (hN : X.N.Nodup) (hi : X.N[i]? = some x) (hj : X.N[j]? = some y) (hij : i ≠ j)
    (hx : X.env.scope.names.lookup x = some .local) (hy : X.env.scope.names.lookup y = some .local) (ha : PA X [a, b] (tDNs B W mn)) (hb1 : B.fx.all (fun q => q.1 != i) = true := by rfl) (hb2 : B.fx.all (fun q => q.1 != j) = true := by rfl)
    (hw : swappedStores [.Tuple [.Name x px, .Name y py] kt pt] (.Tuple [a, b] k2 pt2) X.env = pure (some [x, y]) := by rfl)
    (hs : swapsWithSole [.Tuple [.Name x px, .Name y py] kt pt] (.Tuple [a, b] k2 pt2) pos.line X.env = pure false := by rfl) :
    PS X (.Assign [.Tuple [.Name x px, .Name y py] kt pt] (.Tuple [a, b] k2 pt2) pos) (tDS B W (mPar2 i j mn)) := by
  refine ps_imp (ps_par hc hN hi hj hij hx hy ha hw hs) fun Dn σ H h => ?_
  obtain ⟨F, env, R, S⟩ := h
  refine ⟨F, env, R, (SatS.of S).imp fun ss e q vs F' H' R' st tr => ?_⟩
  cases tr with
  | nil => exact q.elim
  | @cons v s vs ss n1 tr d1 =>
  cases tr with
  | nil => exact q.elim
  | @cons w t vs ss n2 tr d2 =>
  cases tr with
  | cons n3 tr d3 => exact q.elim
  | nil =>
    by_cases hl : i < e.length ∧ j < e.length ∧ i ≠ j
    · dsimp only at q
      rw [if_pos hl] at q
      refine ⟨v, w, rfl, q _ F' H' ?_ st.g.f⟩
      have R1 := R'.set (n1.sr R' fun a z => R.base z) hl.1 hb1 n1.ow
      refine R1.set (n2.sr R' fun a z => R.base z) (by rw [List.length_set]; exact hl.2.1) hb2 fun a m ea z => ?_
      rcases ow_set z with ⟨z1, z2⟩ | z
      · exact d1 a z1 z2 (w, t) (by simp) m ea
      · exact n2.ow a m ea z
    · dsimp only at q
      rw [if_neg hl] at q
      exact q.elim
theorem ds_par3 {i j l : Nat} {x y z : Str} {a b c : Expr} {px py pz pt : Pos} {kt k2 pt2} (hc : X.calm = true) (hN : X.N.Nodup) (hi : X.N[i]? = some x) (hj : X.N[j]? = some y) (hl : X.N[l]? = some z) (hij : i ≠ j) (hil : i ≠ l) (hjl : j ≠ l)
    (hx : X.env.scope.names.lookup x = some .local) (hy : X.env.scope.names.lookup y = some .local) (hz : X.env.scope.names.lookup z = some .local) (ha : PA X [a, b, c] (tDNs B W mn)) (hb1 : B.fx.all (fun q => q.1 != i) = true := by rfl) (hb2 : B.fx.all (fun q => q.1 != j) = true := by rfl) (hb3 : B.fx.all (fun q => q.1 != l) = true := by rfl)
    (hw : swappedStores [.Tuple [.Name x px, .Name y py, .Name z pz] kt pt] (.Tuple [a, b, c] k2 pt2) X.env = pure (some [x, y, z]) := by rfl)
    (hs : swapsWithSole [.Tuple [.Name x px, .Name y py, .Name z pz] kt pt] (.Tuple [a, b, c] k2 pt2) pos.line X.env = pure false := by rfl) :
    PS X (.Assign [.Tuple [.Name x px, .Name y py, .Name z pz] kt pt] (.Tuple [a, b, c] k2 pt2) pos) (tDS B W (mPar3 i j l mn)) := by
  refine ps_imp (ps_par3 hc hN hi hj hl hij hil hjl hx hy hz ha hw hs) fun Dn σ H h => ?_
  obtain ⟨F, env, R, S⟩ := h
  refine ⟨F, env, R, (SatS.of S).imp fun ss e q vs F' H' R' st tr => ?_⟩
  cases tr with
  | nil => exact q.elim
  | @cons v s vs ss n1 tr d1 =>
  cases tr with
  | nil => exact q.elim
  | @cons w t vs ss n2 tr d2 =>
  cases tr with
  | nil => exact q.elim
  | @cons u r vs ss n3 tr d3 =>
  cases tr with
  | cons n3 tr d3 => exact q.elim
  | nil =>
    by_cases hl : i < e.length ∧ j < e.length ∧ l < e.length ∧ i ≠ j ∧ i ≠ l ∧ j ≠ l
    · dsimp only at q
      rw [if_pos hl] at q
      refine ⟨v, w, u, rfl, q _ F' H' ?_ st.g.f⟩
      have R1 := R'.set (n1.sr R' fun a z => R.base z) hl.1 hb1 n1.ow
      have R2 := R1.set (n2.sr R' fun a z => R.base z) (by rw [List.length_set]; exact hl.2.1) hb2 fun a m ea z => by
        rcases ow_set z with ⟨z1, z2⟩ | z
        · exact d1 a z1 z2 (w, t) (by simp) m ea
        · exact n2.ow a m ea z
      refine R2.set (n3.sr R' fun a z => R.base z) (by rw [List.length_set, List.length_set]; exact hl.2.2.1) hb3 fun a m ea z => ?_
      rcases ow_set z with ⟨z1, z2⟩ | z
      · exact d2 a z1 z2 (u, r) (by simp) m ea
      · rcases ow_set z with ⟨z1, z2⟩ | z
        · exact d1 a z1 z2 (u, r) (by simp) m ea
        · exact n3.ow a m ea z
    · dsimp only at q
      rw [if_neg hl] at q
      exact q.elim
end
end DL
set_option Elab.async false
set_option linter.all false
set_option maxRecDepth 100000
set_option maxHeartbeats 4000000
namespace DL
open PySem PySem.Spec PyProof.Rows L2 Own

/-! ### defs and their calls -/
inductive OutF where
  | ok (r : SV) (back : List D) | ex (c : Str) (fs : List (Str × D)) (back : List D) | no
abbrev MF := List SV → OutF
/-- what the lent objects hold -/
def backOf (io : List Nat) (e : Env) : List D := io.map fun k => match slot e k with
  | some s => s.val
  | none => .non
/-- a def of n names: those of io are lent -/
def runF (n : Nat) (io : List Nat) (m : MS) : MF := fun ss => match m (ss.map some ++ List.replicate (n - ss.length) none) with
  | .nx e => .ok (.d .non) (backOf io e)
  | .rt r e => .ok r (backOf io e)
  | .ex c fs e => .ex c fs (backOf io e)
  | _ => .no
structure ArgsOk (K : PySem.W.Frag) (cl : Str → Addr) (F H : Hp) (io : List Nat) (vs : List V) (ss : List SV) : Prop where
  len : ss.length = vs.length
  at_ : ∀ (k : Nat) (s : SV), ss[k]? = some s → ∃ v, vs[k]? = some v ∧ match s with
    | .d d => DR K cl F v d
    | .o _ => False
    | .b d => OF K cl F H v d ∧ k ∈ io
  io_ : ∀ k ∈ io, ∃ d, ss[k]? = some (SV.b d)
  sep : ∀ (k l : Nat) (a : Addr), k ∈ io → l ∈ io → vs[k]? = some (.ref a) → vs[l]? = some (.ref a) → k = l
def Lent (io : List Nat) (vs : List V) (a : Addr) : Prop := ∃ k ∈ io, vs[k]? = some (.ref a)
def BackOk (K : PySem.W.Frag) (cl : Str → Addr) (F' H' : Hp) (io : List Nat) (vs : List V) (back : List D) : Prop := ∀ (n k : Nat), io[n]? = some k → ∃ a d, vs[k]? = some (.ref a) ∧ back[n]? = some d ∧ OF K cl F' H' (.ref a) d
def RetOk (K : PySem.W.Frag) (cl : Str → Addr) (F' H' H : Hp) (v : V) : SV → Prop
  | .d d => DR K cl F' v d
  | .o d => OF K cl F' H' v d ∧ ∀ a, v = .ref a → H a = none
  | .b _ => False
/-- what a def promises, by its function of trees -/
def spF (K : PySem.W.Frag) (cl : Str → Addr) (io : List Nat) (n : Nat) (mf : MF) : Sp := fun vs H Q E => vs.length = n ∧ ∃ (F : Hp) (ss : List SV), Same F H ∧ ArgsOk K cl F H io vs ss ∧ match mf ss with
  | .ok r back => ∀ v F' H', Same F' H' → Grow (Lent io vs) F H F' H' → BackOk K cl F' H' io vs back → RetOk K cl F' H' H v r → Q v H'
  | .ex c fs back => ∀ F' H' dx us, Same F' H' → Grow (Lent io vs) F H F' H' → BackOk K cl F' H' io vs back → H' dx = some (.xd us) → DRf K cl F' us fs → E (.ref (cl c)) (some dx) H'
  | .no => False
def adr : Option V → Addr
  | some (.ref a) => a
  | _ => 0
def bsOf (K : PySem.W.Frag) (cl : Str → Addr) (H F : Hp) (io : List Nat) (vs : List V) : Bs := ⟨K, cl, H, F, io.map fun k => (k, adr vs[k]?)⟩
section
variable {K : PySem.W.Frag} {cl : Str → Addr} {F H : Hp} {io : List Nat} {vs : List V} {ss : List SV}
theorem ArgsOk.adr (A : ArgsOk K cl F H io vs ss) {k : Nat} (h : k ∈ io) : vs[k]? = some (.ref (adr vs[k]?)) ∧ ∃ d, ss[k]? = some (.b d) ∧ OF K cl F H (.ref (DL.adr vs[k]?)) d := by
  obtain ⟨d, hd⟩ := A.io_ k h
  obtain ⟨v, hv, o, _⟩ := A.at_ k _ hd
  obtain ⟨a, _, rfl, _⟩ := o.ref
  rw [hv]
  exact ⟨rfl, d, hd, o⟩
theorem lent_iff (A : ArgsOk K cl F H io vs ss) (a : Addr) : Lent io vs a ↔ (bsOf K cl H F io vs).A a := by
  unfold Bs.A bsOf
  constructor
  · rintro ⟨k, hk, e⟩
    refine List.mem_map.mpr ⟨(k, DL.adr vs[k]?), List.mem_map.mpr ⟨k, hk, rfl⟩, ?_⟩
    rw [e]
    rfl
  · intro h
    obtain ⟨q, hq, rfl⟩ := List.mem_map.mp h
    obtain ⟨k, hk, rfl⟩ := List.mem_map.mp hq
    exact ⟨k, hk, (A.adr hk).1⟩
theorem env_get {n : Nat} {i : Nat} {s : SV} (h : (ss.map some ++ List.replicate n none)[i]? = some (some s)) : ss[i]? = some s := by
  by_cases q : i < ss.length
  · rw [List.getElem?_append_left (by rw [List.length_map]; exact q), List.getElem?_map] at h
    obtain ⟨t, ht, e⟩ := Option.map_eq_some_iff.mp h
    cases e
    exact ht
  · rw [List.getElem?_append_right (by rw [List.length_map]; omega), List.getElem?_replicate] at h
    split at h
    · cases h
    · cases h
theorem get_env {n : Nat} {i : Nat} {s : SV} (h : ss[i]? = some s) : (ss.map some ++ List.replicate n none)[i]? = some (some s) := by
  have q := (List.getElem?_eq_some_iff.mp h).1
  rw [List.getElem?_append_left (by rw [List.length_map]; exact q), List.getElem?_map, h]
  rfl
theorem start_get {N : List Str} {i : Nat} {v : V} (h : vs[i]? = some v) : (start N vs)[i]? = some (some v) := by
  have q := (List.getElem?_eq_some_iff.mp h).1
  unfold L2.start
  rw [List.getElem?_append_left (by rw [List.length_map]; exact q), List.getElem?_map, h]
  rfl
theorem rel_start {N : List Str} (s : Same F H) (A : ArgsOk K cl F H io vs ss) (hn : vs.length ≤ N.length) : Rel (bsOf K cl H F io vs) (ss.map some ++ List.replicate (N.length - ss.length) none) F H (start N vs) := by
  refine ⟨s, .refl _ _ _, fun i t e => ?_, fun i j t u v e1 e2 m1 m2 s1 s2 => ?_, ?_, fun q hq => ?_⟩
  · obtain ⟨v, hv, r⟩ := A.at_ i t (env_get e)
    refine ⟨v, start_get hv, ?_⟩
    cases t with
    | d d => exact r
    | o d => exact r.elim
    | b d =>
      refine ⟨r.1, fun a ea => ?_⟩
      rw [← lent_iff A]
      subst ea
      exact ⟨i, r.2, hv⟩
  · have f : ∀ {i : Nat} {t : SV} {v : V}, ss[i]? = some t → t.mut = true → (start N vs)[i]? = some (some v) → i ∈ io ∧ vs[i]? = some v ∧ ∃ a, v = .ref a := by
      intro i t v e m es
      obtain ⟨w, hw, r⟩ := A.at_ i t e
      rw [start_get hw] at es
      cases es
      cases t with
      | d d => cases m
      | o d => exact r.elim
      | b d =>
        obtain ⟨a, _, rfl, _⟩ := r.1.ref
        exact ⟨r.2, hw, a, rfl⟩
    obtain ⟨i1, i2, a, rfl⟩ := f (env_get e1) m1 s1
    obtain ⟨j1, j2, _⟩ := f (env_get e2) m2 s2
    exact A.sep i j a i1 j1 i2 j2
  · unfold L2.start
    rw [List.length_append, List.length_append, List.length_map, List.length_map, List.length_replicate, List.length_replicate, A.len]
  · obtain ⟨k, hk, rfl⟩ := List.mem_map.mp hq
    obtain ⟨e, d, hd, _⟩ := A.adr hk
    exact ⟨start_get e, d, get_env hd⟩
theorem back_ok {N : List Str} {env : Env} {F' H' : Hp} {σ' : L2.St} (A : ArgsOk K cl F H io vs ss) (R : Rel (bsOf K cl H F io vs) env F' H' σ') : BackOk K cl F' H' io vs (backOf io env) := by
  intro n k hk
  have hm := List.mem_of_getElem? hk
  obtain ⟨e1, d, e2⟩ := R.fx (k, adr vs[k]?) (List.mem_map.mpr ⟨k, hm, rfl⟩)
  obtain ⟨v, e3, o, _⟩ := R.sl k _ e2
  have e1 : σ'[k]? = some (some (.ref (adr vs[k]?))) := e1
  rw [e1] at e3
  cases e3
  refine ⟨_, d, (A.adr hm).1, ?_, o⟩
  unfold backOf
  rw [List.getElem?_map, hk]
  have e2 : env[k]? = some (some (.b d)) := e2
  simp only [Option.map_some, slot, e2, SV.val]
end
section
variable {P : Program} {w : World} {K : PySem.W.Frag} {mg : Str → Option Value} {base : Heap} {cl : Str → Addr}
/-- a def by its body -/
theorem fn_ok {x qual : Str} {st : Stmt} {f : Addr} {fd : FuncData} {N ps : List Str} {k : Nat} {io : List Nat} {m : MS} (Fn : Fun K x qual st f fd) (S : FnScope N ps (defScope st))
    (body : ∀ (cdv : Value) (A : Around) (outer : List PySem.Env) (s : Shared) (H F : Hp) (vs : List V) (E : XK), Room k (A.deeper (envOfC qual (defScope st) s.heap.objs.size f cdv)) →
      PSs (cxOf (L2.CX P w) P w K mg base N qual (defScope st) f cdv A outer s H E) (defBody st) (tDS (bsOf K cl H F io vs) (fun c d _ H' => E c d H') m)) :
    FnOk P w K mg base (L2.CX P w) (k + 1) f fd ps (spF K cl io ps.length (runF N.length io m)) := by
  refine Fn.okX S (fun vs H Q E h => h.1) (fun cdv A outer s H vs Q E hr h => ?_)
  obtain ⟨hl, F, ss, sF, AO, h⟩ := h
  have hN : vs.length ≤ N.length := by
    have := congrArg List.length S.pre
    rw [List.length_take] at this
    omega
  refine ⟨_, body cdv A outer s H F vs E hr, F, _, rel_start sF AO hN, ?_⟩
  have gr : ∀ {e : Env} {F' H' : Hp} {σ' : L2.St}, Rel (bsOf K cl H F io vs) e F' H' σ' → Grow (Lent io vs) F H F' H' := fun R => R.gr.imp fun b z => (lent_iff AO b).mpr z
  unfold runF at h
  cases hm : m (ss.map some ++ List.replicate (N.length - ss.length) none) with
  | nx e =>
    rw [hm] at h
    exact fun σ' F' H' R _ => h .non F' H' R.fh (gr R) (back_ok (N := N) AO R) .non
  | rt r e =>
    rw [hm] at h
    refine fun v σ' F' H' R rr => h v F' H' R.fh (gr R) (back_ok (N := N) AO R) ?_
    cases r with
    | d d => exact rr
    | o d => exact rr
    | b d => exact rr
  | ex c fs e =>
    rw [hm] at h
    exact fun σ' F' H' dx us R => h F' H' dx us R.fh (gr R) (back_ok (N := N) AO R)
  | bk e => rw [hm] at h; exact h.elim
  | ct e => rw [hm] at h; exact h.elim
  | no => rw [hm] at h; exact h.elim
end

/-! ### calls -/
inductive AV where
  | d (d : D) | i (j : Nat)
abbrev MI := Env → Out (List AV × Env)
def iNil : MI := fun env => .ok ([], env)
def iCons (m : ME) (r : MI) : MI := fun env => (fa m env).bind fun p => (r p.2).bind fun q => .ok (.d p.1 :: q.1, q.2)
/-- slot j is lent -/
def iLend (j : Nat) (r : MI) : MI := fun env => (r env).bind fun q => .ok (.i j :: q.1, q.2)
def iLnd (j : Nat) (r : MI) : MI := fun env => if (slot env j).isSome then iLend j r env else .no
def AR (B : Bs) (F : Hp) (σ : L2.St) (v : V) : AV → Prop
  | .d d => DR B.K B.cl F v d
  | .i j => σ[j]? = some (some v)
inductive ARs (B : Bs) (F : Hp) (σ : L2.St) : List V → List AV → Prop
  | nil : ARs B F σ [] []
  | cons {v : V} {a : AV} {vs : List V} {as : List AV} : AR B F σ v a → ARs B F σ vs as → ARs B F σ (v :: vs) (a :: as)
def tDI (B : Bs) (W : WX) (m : MI) : TA := fun σ H Q => ∃ F env, Rel B env F H σ ∧ Sat B W σ (m env) fun as env' => ∀ vs F' H', Rel B env' F' H' σ → Step σ env F H env' F' H' → ARs B F' σ vs as → Q vs H'
theorem AR.mono {B : Bs} {F F' : Hp} {σ : L2.St} {v : V} {a : AV} (h : AR B F σ v a) (s : Same F F') : AR B F' σ v a := by
  cases a with
  | d d => exact DR.mono s h
  | i j => exact h
section
variable {B : Bs} {W : WX} {X : Cx} {e : Expr} {es : List Expr} {m : ME} {r : MI} {pos : Pos}
theorem di_nil : PA X [] (tDI B W iNil) := pa_imp pa_nil fun σ H Q h => by
  obtain ⟨F, env, R, S⟩ := h
  exact S [] F H R (.refl _ _ _ _) .nil
theorem di_cons (ha : PE X e (tD B W m)) (hr : PA X es (tDI B W r)) (hs : starEach (e :: es) X.env = (false, eval e X.env) :: starEach es X.env := by rfl) : PA X (e :: es) (tDI B W (iCons m r)) := by
  refine pa_imp (pa_cons ha hr hs) fun σ H Q h => ?_
  obtain ⟨F, env, R, S⟩ := h
  refine tDD_fa σ H _ ⟨F, env, R, (Sat.of S).imp fun d e S2 v F1 H1 R1 st1 tr1 => ?_⟩
  exact ⟨F1, e, R1, (Sat.of S2).imp fun ds e2 q vs F2 H2 R2 st2 trs => q (v :: vs) F2 H2 R2 (st1.trans st2) (.cons (AR.mono (a := .d d) tr1 st2.g.f) trs)⟩
theorem di_lend (j : Nat) {x : Str} {p : Pos} (hr : PA X es (tDI B W r)) (hN : X.N[j]? = some x := by rfl) (hv : Vis X.env.scope x := by first | exact Or.inl rfl | exact Or.inr (Or.inl rfl) | exact Or.inr (Or.inr rfl)) (hd : (x == ("__debug__" : Str)) = false := by decide)
    (hcd : (x == ("__classdict__" : Str)) = false := by decide) (hs : starEach (.Name x p :: es) X.env = (false, eval (.Name x p) X.env) :: starEach es X.env := by rfl) : PA X (.Name x p :: es) (tDI B W (iLnd j r)) := by
  refine pa_imp (pa_cons (pe_var hN hv hd hcd) hr hs) fun σ H Q h => ?_
  obtain ⟨F, env, R, S⟩ := h
  unfold iLnd at S
  by_cases hj : (slot env j).isSome = true
  · simp only [hj, if_true] at S
    obtain ⟨s, hs⟩ := Option.isSome_iff_exists.mp hj
    obtain ⟨v, h1, _⟩ := R.sl j s (slot_some hs)
    exact ⟨v, h1, F, env, R, (Sat.of S).imp fun as e2 q vs F2 H2 R2 st2 trs => q (v :: vs) F2 H2 R2 st2 (.cons h1 trs)⟩
  · simp only [hj] at S
    exact S.elim
end
/-- the slots that are lent, their places among the arguments -/
def lentS : List AV → List Nat
  | [] => []
  | .i j :: r => j :: lentS r
  | .d _ :: r => lentS r
def lentP (n : Nat) : List AV → List Nat
  | [] => []
  | .i _ :: r => n :: lentP (n + 1) r
  | .d _ :: r => lentP (n + 1) r
def argsSV (e : Env) : List AV → Option (List SV)
  | [] => some []
  | .d d :: r => (argsSV e r).map (.d d :: ·)
  | .i j :: r => match slot e j with
    | some s => if s.mut = true then (argsSV e r).map (.b s.val :: ·) else none
    | none => none
def putBack (e : Env) : List Nat → List D → Env
  | j :: js, d :: ds => putBack (match slot e j with
    | some s => e.set j (some (s.put d))
    | none => e) js ds
  | _, _ => e
def retT : SV → Option T
  | .d d => some (.v d)
  | .o d => some (.f d)
  | .b _ => none
def mCall (mf : MF) (io : List Nat) (n : Nat) (m : MI) : ME := fun env => (m env).bind fun p => if (lentS p.1).Nodup ∧ lentP 0 p.1 = io ∧ p.1.length = n then match argsSV p.2 p.1 with
  | some ss => match mf ss with
    | .ok r back => match retT r with
      | some t => .ok (t, putBack p.2 (lentS p.1) back)
      | none => .no
    | .ex c fs back => .ex c fs (putBack p.2 (lentS p.1) back)
    | .no => .no
  | none => .no else .no
section
variable {B : Bs} {W : WX} {σ : L2.St} {env : Env} {F H : Hp}
theorem put_put (s : SV) (d e : D) : (s.put d).put e = s.put e := by cases s <;> rfl
theorem mut_put (s : SV) (d : D) : (s.put d).mut = s.mut := by cases s <;> rfl
theorem put_val (s : SV) : s.put s.val = s := by cases s <;> rfl
theorem slot_of {e : Env} {i : Nat} {s : SV} (h : e[i]? = some (some s)) : slot e i = some s := by
  unfold slot
  rw [h]
/-- behind a call: the lent slots hold what came back -/
theorem Rel.back : ∀ {js : List Nat} {ds : List D} {env : Env} {F' H' : Hp} (A : Addr → Prop), js.Nodup → (∀ a, A a → ∃ j ∈ js, σ[j]? = some (some (V.ref a))) → Rel B env F H σ → Grow A F H F' H' → Same F' H' →
    (∀ (n j : Nat), js[n]? = some j → ∃ (s : SV) (a : Addr) (d : D), env[j]? = some (some s) ∧ s.mut = true ∧ σ[j]? = some (some (V.ref a)) ∧ ds[n]? = some d ∧ OF B.K B.cl F' H' (.ref a) d) → Rel B (putBack env js ds) F' H' σ ∧ Step σ env F H (putBack env js ds) F' H' := by
  intro js ds env F' H' A nd hA R g sm hb
  -- what putBack does, slot by slot
  have key : ∀ (js : List Nat) (ds : List D) (e : Env), js.Nodup → (∀ (n j : Nat), js[n]? = some j → ∃ (s : SV) (d : D), e[j]? = some (some s) ∧ ds[n]? = some d) →
      (putBack e js ds).length = e.length ∧ (∀ i, i ∉ js → (putBack e js ds)[i]? = e[i]?) ∧ ∀ (n j : Nat) (s : SV) (d : D), js[n]? = some j → e[j]? = some (some s) → ds[n]? = some d → (putBack e js ds)[j]? = some (some (s.put d)) := by
    intro js
    induction js with
    | nil => intro ds e _ _; exact ⟨rfl, fun _ _ => rfl, fun n j s d h => by simp at h⟩
    | cons j js ih =>
      intro ds e nd h
      obtain ⟨s, d, es, ed⟩ := h 0 j rfl
      cases ds with
      | nil => simp at ed
      | cons d' ds =>
        simp at ed
        subst ed
        have hs := slot_of es
        have li := (List.getElem?_eq_some_iff.mp es).1
        have hj : j ∉ js := (List.nodup_cons.mp nd).1
        have e1 : putBack e (j :: js) (d' :: ds) = putBack (e.set j (some (s.put d'))) js ds := by
          show putBack (match slot e j with
            | some s => e.set j (some (s.put d'))
            | none => e) js ds = _
          rw [hs]
        obtain ⟨i1, i2, i3⟩ := ih ds (e.set j (some (s.put d'))) (List.nodup_cons.mp nd).2 fun n k hk => by
          obtain ⟨t, d2, h1, h2⟩ := h (n + 1) k (by simpa using hk)
          have : j ≠ k := fun z => hj (z ▸ List.mem_of_getElem? hk)
          exact ⟨t, d2, by rw [List.getElem?_set_ne this]; exact h1, by simpa using h2⟩
        rw [e1]
        refine ⟨by rw [i1, List.length_set], fun i hi => ?_, fun n k t d2 hk ht hd => ?_⟩
        · rw [i2 i (fun z => hi (List.mem_cons_of_mem _ z)), List.getElem?_set_ne (fun z => hi (by rw [z]; exact List.mem_cons_self))]
        · cases n with
          | zero =>
            simp at hk hd
            subst hk
            subst hd
            rw [es] at ht
            cases ht
            rw [i2 j hj, List.getElem?_set_self li]
          | succ n =>
            have hk : js[n]? = some k := by simpa using hk
            have : j ≠ k := fun z => hj (z ▸ List.mem_of_getElem? hk)
            exact i3 n k t d2 hk (by rw [List.getElem?_set_ne this]; exact ht) (by simpa using hd)
  obtain ⟨k1, k2, k3⟩ := key js ds env nd fun n j h => by
    obtain ⟨s, a, d, h1, _, _, h2, _⟩ := hb n j h
    exact ⟨s, d, h1, h2⟩
  have own : ∀ a, A a → Ow env σ a := by
    intro a ha
    obtain ⟨j, hj, e⟩ := hA a ha
    obtain ⟨n, hn⟩ := List.getElem?_of_mem hj
    obtain ⟨s, b, d, h1, h2, _⟩ := hb n j hn
    exact ⟨j, s, h1, h2, e⟩
  have slotAt : ∀ (i : Nat) (t : SV), (putBack env js ds)[i]? = some (some t) → (i ∉ js ∧ env[i]? = some (some t)) ∨ ∃ (n : Nat) (s : SV) (a : Addr) (d : D), js[n]? = some i ∧ env[i]? = some (some s) ∧ s.mut = true ∧ σ[i]? = some (some (V.ref a)) ∧ t = s.put d ∧ OF B.K B.cl F' H' (.ref a) d := by
    intro i t h
    by_cases hi : i ∈ js
    · obtain ⟨n, hn⟩ := List.getElem?_of_mem hi
      obtain ⟨s, a, d, h1, h2, h3, h4, h5⟩ := hb n i hn
      rw [k3 n i s d hn h1 h4] at h
      cases h
      exact .inr ⟨n, s, a, d, hn, h1, h2, h3, rfl, h5⟩
    · rw [k2 i hi] at h
      exact .inl ⟨hi, h⟩
  have base : ∀ a, A a → B.A a ∨ B.H0 a = none := by
    intro a ha
    obtain ⟨j, s, h1, h2, h3⟩ := own a ha
    obtain ⟨v, h4, h5⟩ := R.sl j s h1
    rw [h3] at h4
    cases h4
    exact (h5.own h2).2 a rfl
  refine ⟨⟨sm, ⟨R.gr.f.trans g.f, fun b u e n => ?_, fun b u e n z => ?_, fun b u e => ?_⟩, fun i t e => ?_, fun i j t u v e1 e2 m1 m2 => ?_, by rw [k1]; exact R.len, fun q hq => ?_⟩, ⟨g.imp own, fun a ⟨i, t, h1, h2, h3⟩ => ?_⟩⟩
  · refine g.h b u (R.gr.h b u e n) fun ha => ?_
    rcases base b ha with q | q
    · exact n q
    · rw [e] at q; cases q
  · refine g.n b u (R.gr.h b u e n) (fun ha => ?_) (R.gr.n b u e n z)
    rcases base b ha with q | q
    · exact n q
    · rw [e] at q; cases q
  · obtain ⟨o, ho⟩ := R.gr.k b u e
    exact g.k b o ho
  · rcases slotAt i t e with ⟨hi, e⟩ | ⟨n, s, a, d, hn, h1, h2, h3, rfl, h5⟩
    · obtain ⟨v, h1, h2⟩ := R.sl i t e
      refine ⟨v, h1, h2.to g.f fun a o m ev ho fo => ?_⟩
      subst ev
      have na : ¬ A a := by
        intro z
        obtain ⟨j, hj, ej⟩ := hA a z
        obtain ⟨n, hn⟩ := List.getElem?_of_mem hj
        obtain ⟨s, b, d, h3, h4, h5, _⟩ := hb n j hn
        have := R.sep i j t s _ e h3 m h4 h1 ej
        exact hi (this ▸ hj)
      exact ⟨g.n a o ho na fo, g.h a o ho na⟩
    · obtain ⟨v, h6, h7⟩ := R.sl i s h1
      rw [h3] at h6
      cases h6
      exact ⟨_, h3, h7.put h2 h5⟩
  · have f : ∀ {i : Nat} {t : SV}, (putBack env js ds)[i]? = some (some t) → t.mut = true → ∃ s, env[i]? = some (some s) ∧ s.mut = true := fun {i t} h m => by
      rcases slotAt i t h with ⟨_, h⟩ | ⟨_, s, _, _, _, h1, h2, _⟩
      · exact ⟨t, h, m⟩
      · exact ⟨s, h1, h2⟩
    obtain ⟨s1, g1, n1⟩ := f e1 m1
    obtain ⟨s2, g2, n2⟩ := f e2 m2
    exact R.sep i j s1 s2 v g1 g2 n1 n2
  · obtain ⟨h1, d, h2⟩ := R.fx q hq
    refine ⟨h1, ?_⟩
    by_cases hi : q.1 ∈ js
    · obtain ⟨n, hn⟩ := List.getElem?_of_mem hi
      obtain ⟨s, a, d2, h3, _, _, h4, _⟩ := hb n q.1 hn
      rw [h2] at h3
      cases h3
      exact ⟨d2, k3 n q.1 _ d2 hn h2 h4⟩
    · exact ⟨d, by rw [k2 q.1 hi]; exact h2⟩
  · rcases slotAt i t h1 with ⟨_, h⟩ | ⟨_, s, _, _, _, h4, h5, _⟩
    · exact ⟨i, t, h, h2, h3⟩
    · exact ⟨i, s, h4, h5, h3⟩
end
section
variable {B : Bs} {W : WX} {σ : L2.St} {e : Env} {F H : Hp}
theorem args_ok (R : Rel B e F H σ) : ∀ {as : List AV} {vs : List V} {ss : List SV} (c : Nat), ARs B F σ vs as → argsSV e as = some ss → ss.length = vs.length ∧ as.length = vs.length ∧
    (∀ (k : Nat) (s : SV), ss[k]? = some s → ∃ v, vs[k]? = some v ∧ match s with
      | .d d => DR B.K B.cl F v d
      | .o _ => False
      | .b d => OF B.K B.cl F H v d ∧ c + k ∈ lentP c as) ∧
    ∀ (n k : Nat), (lentP c as)[n]? = some k → ∃ (j : Nat) (s : SV) (a : Addr), c ≤ k ∧ (lentS as)[n]? = some j ∧ e[j]? = some (some s) ∧ s.mut = true ∧ σ[j]? = some (some (V.ref a)) ∧ vs[k - c]? = some (.ref a) ∧ ss[k - c]? = some (.b s.val)
  | [], _, _, c, h, es => by
    cases h
    cases es
    exact ⟨rfl, rfl, fun k s h => by simp at h, fun n k h => by simp [lentP] at h⟩
  | .d d :: as, _, _, c, h, es => by
    cases h with
    | @cons v _ vs _ h1 h2 =>
      obtain ⟨ss, e1, rfl⟩ := Option.map_eq_some_iff.mp (show (argsSV e as).map (SV.d d :: ·) = some _ from es)
      obtain ⟨i1, i2, i3, i4⟩ := args_ok R (c + 1) h2 e1
      refine ⟨by rw [List.length_cons, List.length_cons, i1], by rw [List.length_cons, List.length_cons, i2], fun k s hk => ?_, fun n k hk => ?_⟩
      · cases k with
        | zero =>
          simp at hk
          subst hk
          exact ⟨v, rfl, h1⟩
        | succ k =>
          obtain ⟨w, hw, r⟩ := i3 k s (by simpa using hk)
          refine ⟨w, by simpa using hw, ?_⟩
          cases s with
          | d d => exact r
          | o d => exact r
          | b d => exact ⟨r.1, by rw [show c + (k + 1) = c + 1 + k by omega]; exact r.2⟩
      · obtain ⟨j, s, a, q1, q2, q3, q4, q5, q6, q7⟩ := i4 n k hk
        refine ⟨j, s, a, by omega, q2, q3, q4, q5, ?_, ?_⟩
        · rw [show k - c = k - (c + 1) + 1 by omega]
          simpa using q6
        · rw [show k - c = k - (c + 1) + 1 by omega]
          simpa using q7
  | .i j :: as, _, _, c, h, es => by
    cases h with
    | @cons v _ vs _ h1 h2 =>
      have h1 : σ[j]? = some (some v) := h1
      cases hs : slot e j with
      | none => simp only [argsSV, hs] at es; cases es
      | some s =>
        by_cases hm : s.mut = true
        · simp only [argsSV, hs, hm, if_true] at es
          obtain ⟨ss, e1, rfl⟩ := Option.map_eq_some_iff.mp es
          obtain ⟨i1, i2, i3, i4⟩ := args_ok R (c + 1) h2 e1
          obtain ⟨u, h3, h4⟩ := R.sl j s (slot_some hs)
          rw [h1] at h3
          cases h3
          obtain ⟨h5, _⟩ := h4.own hm
          obtain ⟨a, o, rfl, fa, ha⟩ := h5.ref
          refine ⟨by rw [List.length_cons, List.length_cons, i1], by rw [List.length_cons, List.length_cons, i2], fun k t hk => ?_, fun n k hk => ?_⟩
          · cases k with
            | zero =>
              simp at hk
              subst hk
              exact ⟨_, rfl, h5, by simp [lentP]⟩
            | succ k =>
              obtain ⟨w, hw, r⟩ := i3 k t (by simpa using hk)
              refine ⟨w, by simpa using hw, ?_⟩
              cases t with
              | d d => exact r
              | o d => exact r
              | b d => exact ⟨r.1, List.mem_cons_of_mem _ (by rw [show c + (k + 1) = c + 1 + k by omega]; exact r.2)⟩
          · cases n with
            | zero =>
              have hk : c = k := by simpa [lentP] using hk
              subst hk
              exact ⟨j, s, a, Nat.le_refl _, rfl, slot_some hs, hm, h1, by simp, by simp⟩
            | succ n =>
              obtain ⟨j', s', a', q1, q2, q3, q4, q5, q6, q7⟩ := i4 n k (by simpa [lentP] using hk)
              refine ⟨j', s', a', by omega, by simpa [lentS] using q2, q3, q4, q5, ?_, ?_⟩
              · rw [show k - c = k - (c + 1) + 1 by omega]
                simpa using q6
              · rw [show k - c = k - (c + 1) + 1 by omega]
                simpa using q7
        · simp only [argsSV, hs, hm] at es
          cases es
theorem lent_len : ∀ (as : List AV) (c : Nat), (lentP c as).length = (lentS as).length
  | [], _ => rfl
  | .d _ :: as, c => lent_len as (c + 1)
  | .i _ :: as, c => by
    show (lentP (c + 1) as).length + 1 = (lentS as).length + 1
    rw [lent_len as (c + 1)]
theorem nodup_get {js : List Nat} (nd : js.Nodup) {n m j : Nat} (h1 : js[n]? = some j) (h2 : js[m]? = some j) : n = m := by
  have l1 := (List.getElem?_eq_some_iff.mp h1).1
  exact (List.getElem?_inj l1 nd).mp (h1.trans h2.symm)
/-- f's promise serves a call -/
theorem call_ok {mf : MF} {io : List Nat} {n : Nat} {m : MI} (H : Hp) (Q : VK) (h : tD B W (mCall mf io n m) σ H Q) : tCallS (spF B.K B.cl io n mf) (fun σ => WE W σ) (tDI B W m) σ H Q := by
  obtain ⟨F, env, R, S⟩ := h
  refine ⟨F, env, R, (Sat.of S).imp fun as e q vs F1 H1 R1 st1 ar => ?_⟩
  dsimp only at q
  by_cases hc : (lentS as).Nodup ∧ lentP 0 as = io ∧ as.length = n
  · rw [if_pos hc] at q
    obtain ⟨nd, rfl, rfl⟩ := hc
    cases hss : argsSV e as with
    | none => simp only [Sat, hss] at q
    | some ss =>
      obtain ⟨l1, l2, a1, a2⟩ := args_ok R1 0 ar hss
      have lentAt : ∀ a, Lent (lentP 0 as) vs a → ∃ j ∈ lentS as, σ[j]? = some (some (V.ref a)) := by
        rintro a ⟨k, hk, ea⟩
        obtain ⟨n, hn⟩ := List.getElem?_of_mem hk
        obtain ⟨j, s, b, _, q2, _, _, q5, q6, _⟩ := a2 n k hn
        rw [Nat.sub_zero, ea] at q6
        cases q6
        exact ⟨j, List.mem_of_getElem? q2, q5⟩
      have backAt : ∀ {F' H' : Hp} {back : List D}, BackOk B.K B.cl F' H' (lentP 0 as) vs back → ∀ (n j : Nat), (lentS as)[n]? = some j → ∃ (s : SV) (a : Addr) (d : D), e[j]? = some (some s) ∧ s.mut = true ∧ σ[j]? = some (some (V.ref a)) ∧ back[n]? = some d ∧ OF B.K B.cl F' H' (.ref a) d := by
        intro F' H' back hb n j hj
        have ln : n < (lentP 0 as).length := by
          rw [lent_len]
          exact (List.getElem?_eq_some_iff.mp hj).1
        have hk := List.getElem?_eq_getElem ln
        obtain ⟨j', s, a, _, q2, q3, q4, q5, q6, _⟩ := a2 n _ hk
        rw [hj] at q2
        cases q2
        obtain ⟨b, d, z1, z2, z3⟩ := hb n _ hk
        rw [Nat.sub_zero, z1] at q6
        cases q6
        exact ⟨s, _, d, q3, q4, q5, z2, z3⟩
      refine ⟨l2.symm, F1, ss, R1.fh, ⟨l1, fun k s hk => ?_, fun k hk => ?_, fun k l a hk hl e1 e2 => ?_⟩, ?_⟩
      · obtain ⟨v, hv, r⟩ := a1 k s hk
        refine ⟨v, hv, ?_⟩
        cases s with
        | d d => exact r
        | o d => exact r
        | b d => exact ⟨r.1, by have := r.2; rw [Nat.zero_add] at this; exact this⟩
      · obtain ⟨n, hn⟩ := List.getElem?_of_mem hk
        obtain ⟨j, s, a, _, _, _, _, _, _, q7⟩ := a2 n k hn
        exact ⟨s.val, q7⟩
      · obtain ⟨n1, h1⟩ := List.getElem?_of_mem hk
        obtain ⟨n2, h2⟩ := List.getElem?_of_mem hl
        obtain ⟨j1, s1, b1, _, p2, p3, p4, p5, p6, _⟩ := a2 n1 k h1
        obtain ⟨j2, s2, b2, _, r2, r3, r4, r5, r6, _⟩ := a2 n2 l h2
        rw [Nat.sub_zero, e1] at p6
        rw [Nat.sub_zero, e2] at r6
        cases p6
        cases r6
        have := R1.sep j1 j2 s1 s2 _ p3 r3 p4 r4 p5 r5
        subst this
        have := nodup_get nd p2 r2
        subst this
        rw [h1] at h2
        exact Option.some.inj h2
      · simp only [hss] at q
        cases hmf : mf ss with
        | no => simp only [Sat, hmf] at q
        | ex c fs back =>
          simp only [Sat, hmf] at q
          intro F' H' dx us sm g bk hx fr
          obtain ⟨R2, _⟩ := R1.back (js := lentS as) (ds := back) _ nd lentAt g sm (backAt bk)
          exact q F' H' dx us R2 hx fr
        | ok r back =>
          intro v F' H' sm g bk ro
          obtain ⟨R2, st2⟩ := R1.back (js := lentS as) (ds := back) _ nd lentAt g sm (backAt bk)
          cases r with
          | d d =>
            simp only [Sat, hmf, retT] at q
            exact q v F' H' R2 (st1.trans st2) ro
          | o d =>
            simp only [Sat, hmf, retT] at q
            refine q v F' H' R2 (st1.trans st2) ⟨ro.1, fun a ea => ⟨fun z => ?_, st1.g.free (ro.2 a ea)⟩⟩
            obtain ⟨o, ho, _⟩ := R1.owS (st2.o a z)
            rw [ro.2 a ea] at ho
            cases ho
          | b d => simp only [Sat, hmf, retT] at q
  · rw [if_neg hc] at q
    exact q.elim
end
section
variable {B : Bs} {W : WX} {X : Cx} {k : Nat} {x : Str} {ps : List Str} {io : List Nat} {n : Nat} {mf : MF} {m : MI} {p pos : Pos} {e : Expr} {es : List Expr}
theorem de_call (C : CalX X.prog X.w X.K X.mg X.base k x ps (spF B.K B.cl io n mf)) (tk : Takes X W) (room : Room k X.A) (ha : PA X (e :: es) (tDI B W m)) (hg : Gl X x := by rfl) (hdb : (x == ("__debug__" : Str)) = false := by decide)
    (he : starEach (e :: es) X.env = (false, eval e X.env) :: starEach es X.env := by rfl) (hpl : (backTo pos (starEach es X.env)).any (·.1) = false := by rfl) :
    PE X (.Call (.Name x p) (e :: es) [] pos) (tD B W (mCall mf io n m)) := pe_imp (pe_calE C tk room ha hg hdb he hpl) fun _ => call_ok
end
end DL
set_option Elab.async false
set_option linter.all false
set_option maxRecDepth 100000
set_option maxHeartbeats 4000000
namespace DL
open PySem PySem.Spec PyProof.Rows L2 Own

/-! ### targets -/
abbrev GT := D → DL.Env → Option DL.Env
def Only (vs : List Nat) (σ σ' : L2.St) : Prop := σ'.length = σ.length ∧ ∀ i, i ∉ vs → σ'[i]? = σ[i]?
/-- the reading of a target; vs: the slots that it sets -/
def tDG (B : Bs) (vs : List Nat) (g : GT) : TG := fun v σ H Q => ∃ F env d e', Rel B env F H σ ∧ DR B.K B.cl F v d ∧ g d env = some e' ∧ ∀ σ', Rel B e' F H σ' → Only vs σ σ' → (∀ a, Ow e' σ' a → Ow env σ a) → Q σ' H
def tDGs (B : Bs) (vs : List Nat) (g : List D → DL.Env → Option DL.Env) : TGs := fun us σ H Q => ∃ F env ds e', Rel B env F H σ ∧ DRs B.K B.cl F us ds ∧ g ds env = some e' ∧ ∀ σ', Rel B e' F H σ' → Only vs σ σ' → (∀ a, Ow e' σ' a → Ow env σ a) → Q σ' H
def gN (i : Nat) : GT := fun d e => if i < e.length then some (e.set i (some (.d d))) else none
def gNilD : List D → DL.Env → Option DL.Env := fun ds e => match ds with
  | [] => some e
  | _ => none
def gConsD (g : GT) (r : List D → DL.Env → Option DL.Env) : List D → DL.Env → Option DL.Env := fun ds e => match ds with
  | d :: ds => (g d e).bind (r ds)
  | [] => none
def gTupD (n : Nat) (r : List D → DL.Env → Option DL.Env) : GT := fun d e => match d with
  | .tup ds => if ds.length = n then r ds e else none
  | _ => none
section
variable {B : Bs} {X : Cx}
theorem pg_imp {e : Expr} {t t' : TG} (h : PG X e t) (i : ∀ v σ H Q, t' v σ H Q → t v σ H Q) : PG X e t' := ⟨fun pins s σ H v u Q I r q => h.run pins s σ H v u Q I r (i v σ H Q q)⟩
theorem pgs_imp {e : List Expr} {t t' : TGs} (h : PGs X e t) (i : ∀ v σ H Q, t' v σ H Q → t v σ H Q) : PGs X e t' := ⟨fun pins s σ H v u Q I r q => h.run pins s σ H v u Q I r (i v σ H Q q)⟩
theorem dg_name (i : Nat) {x : Str} {pos : Pos} (hN : X.N.Nodup) (hi : X.N[i]? = some x) (hx : Loc X.env.scope x) (hb : B.fx.all (fun q => q.1 != i) = true := by rfl) (hf : X.fn x = true ∨ X.env.scope.names.lookup x = some .local := by first | exact .inl rfl | exact .inr rfl | assumption) : PG X (.Name x pos) (tDG B [i] (gN i)) :=
  pg_imp (pg_name hN hi hx hf) fun v σ H Q h => by
    obtain ⟨F, env, d, e', R, dr, hg, q⟩ := h
    unfold gN at hg
    by_cases hl : i < env.length
    · rw [if_pos hl] at hg
      cases hg
      refine q _ (R.set (s := .d d) dr hl hb fun a m => nomatch m) ⟨List.length_set, fun j hj => ?_⟩ fun a z => ?_
      · rw [List.getElem?_set_ne (fun z => hj (by rw [← z]; exact List.mem_singleton_self _))]
      · rcases ow_set z with ⟨z, _⟩ | z
        · cases z
        · exact z
    · rw [if_neg hl] at hg
      cases hg
theorem dgs_nil : PGs X [] (tDGs B [] gNilD) := pgs_imp pgs_nil fun vs σ H Q h => by
  obtain ⟨F, env, ds, e', R, dr, hg, q⟩ := h
  cases ds with
  | cons d ds => cases hg
  | nil =>
    cases dr
    cases hg
    exact ⟨rfl, q σ R ⟨rfl, fun _ _ => rfl⟩ fun _ z => z⟩
theorem dgs_cons {e : Expr} {es : List Expr} {v1 v2 : List Nat} {g : GT} {r : List D → DL.Env → Option DL.Env} (h1 : PG X e (tDG B v1 g)) (h2 : PGs X es (tDGs B v2 r)) (hs : (assignEach (e :: es) X.env).map (·.2) = assign e X.env :: (assignEach es X.env).map (·.2) := by rfl) : PGs X (e :: es) (tDGs B (v1 ++ v2) (gConsD g r)) :=
  pgs_imp (pgs_cons h1 h2 hs) fun vs σ H Q h => by
    obtain ⟨F, env, ds, e', R, dr, hg, q⟩ := h
    cases ds with
    | nil => cases hg
    | cons d ds =>
      cases dr with
      | cons a b =>
        obtain ⟨e1, g1, g2⟩ := Option.bind_eq_some_iff.mp (show (g d env).bind (r ds) = some e' from hg)
        refine ⟨_, _, rfl, F, env, d, e1, R, a, g1, fun σ1 R1 o1 w1 => ⟨F, e1, ds, e', R1, b, g2, fun σ2 R2 o2 w2 => q σ2 R2 ⟨o2.1.trans o1.1, fun i hi => ?_⟩ fun a z => w1 a (w2 a z)⟩⟩
        rw [o2.2 i (fun z => hi (List.mem_append_right _ z)), o1.2 i (fun z => hi (List.mem_append_left _ z))]
theorem dg_tup {es : List Expr} {k : Nat} {pos : Pos} {vs : List Nat} {n : Nat} {r : List D → DL.Env → Option DL.Env} (hK : X.K = B.K) (hc : X.calm = true) (h : PGs X es (tDGs B vs r))
    (hn : (assignEach es X.env).length = n := by rfl) (hst : (assignEach es X.env).findIdx? (·.1) = none := by rfl) : PG X (.Tuple es k pos) (tDG B vs (gTupD n r)) :=
  pg_imp (pg_tup hc h hn hst) fun v σ H Q hh => by
    obtain ⟨F, env, d, e', R, dr, hg, q⟩ := hh
    cases dr with
    | @tup a us ds x1 x2 =>
      have hg : (if ds.length = n then r ds env else none) = some e' := hg
      by_cases hl : ds.length = n
      · rw [if_pos hl] at hg
        exact ⟨a, us, rfl, hK ▸ sqt_same R.fh x1, by rw [x2.length, hl], F, env, ds, e', R, x2, hg, q⟩
      · rw [if_neg hl] at hg
        cases hg
    | _ => cases hg
/-- a, b = e -/
def mAsg (g : GT) (m : ME) : MS := fun env => sq (fa m env) fun d e => match g d e with
  | some e' => .nx e'
  | none => .no
theorem ds_asg {W : WX} {tg e : Expr} {pos : Pos} {vs : List Nat} {g : GT} {m : ME} (he : PE X e (tD B W m)) (hg : PG X tg (tDG B vs g)) (hs : swapsWithSole [tg] e pos.line X.env = pure false := by rfl) (hw : swappedStores [tg] e X.env = pure none := by rfl)
    (h1 : (assignEach [tg] X.env).map (·.2) = [assign tg X.env] := by rfl) : PS X (.Assign [tg] e pos) (tDS B W (mAsg g m)) :=
  ps_imp (ps_asg he hg hs hw h1) fun Dn σ H h => by
    obtain ⟨F, env, R, S⟩ := h
    refine tDD_fa σ H _ ⟨F, env, R, (SatS.of S).imp fun d e q v F1 H1 R1 st1 dr => ?_⟩
    cases hgd : g d e with
    | none => simp only [hgd] at q; exact q.elim
    | some e' =>
      simp only [hgd] at q
      exact ⟨F1, e, d, e', R1, dr, hgd, fun σ' R' _ _ => q σ' F1 H1 R' st1.g.f⟩
end

/-! ### what is walked -/
/-- an object of a slot that is walked: the slot, what it holds -/
def srcOk (src : Option (Nat × D)) (e : DL.Env) : Prop := match src with
  | none => True
  | some q => ∃ s, slot e q.1 = some s ∧ s.val = q.2
abbrev MIt := DL.Env → Out ((List D × Option (Nat × D)) × DL.Env)
def Gives (B : Bs) (J : It) (F' H' : Hp) (ds : List D) : Prop := J.stop ds.length H' ∧ ∀ (i : Nat) (d : D), ds[i]? = some d → J.go i H' ∧ ∀ x H'', J.yld i H' x H'' → ∃ F'', News F' H' F'' H'' ∧ DR B.K B.cl F'' x d
/-- the iterator J gives ds, as long as what is walked stays -/
def ItOk (B : Bs) (F : Hp) (σ : L2.St) (J : It) (ds : List D) (src : Option (Nat × D)) : Prop :=
  ∀ e F' H' σ', Rel B e F' H' σ' → Same F F' → srcOk src e → (∀ q, src = some q → σ'[q.1]? = σ[q.1]?) → Gives B J F' H' ds
theorem ItOk.walk {B : Bs} {F : Hp} {σ : L2.St} {J : It} {ds : List D} {src : Option (Nat × D)} (h : ItOk B F σ J ds src) :
    Walk J ds.length (fun H' => ∃ e F' σ', Rel B e F' H' σ' ∧ Same F F' ∧ srcOk src e ∧ ∀ q, src = some q → σ'[q.1]? = σ[q.1]?) (fun i H x H' => J.yld i H x H') :=
  ⟨fun i H hi ⟨e, F', σ', R, s, so, ss⟩ => ((h e F' H σ' R s so ss).2 i _ (List.getElem?_eq_getElem hi)).1, fun H ⟨e, F', σ', R, s, so, ss⟩ => (h e F' H σ' R s so ss).1, fun i H x H' _ _ y => y⟩
def tDIt (B : Bs) (W : WX) (m : MIt) : TI := fun σ H R => ∃ F env, Rel B env F H σ ∧ Sat B W σ (m env) fun p env' => ∀ J F' H', Rel B env' F' H' σ → Step σ env F H env' F' H' → ItOk B F' σ J p.1 p.2 → srcOk p.2 env' → R J H'
theorem pi_imp {X : Cx} {tg e : Expr} {t t' : TI} (h : PI X tg e t) (i : ∀ σ H R, t' σ H R → t σ H R) : PI X tg e t' := ⟨fun pins s σ H R I q => h.run pins s σ H R I (i σ H R q)⟩
theorem itl_gives {B : Bs} {F' H' : Hp} {a : Addr} {vs : List V} {ds : List D} (h : SqL B.K H' a vs) (r : DRs B.K B.cl F' vs ds) (s : Same F' H') : Gives B (Itl B.K a) F' H' ds := by
  refine ⟨⟨vs, h, by rw [r.length]; exact Nat.le_refl _⟩, fun i d hd => ?_⟩
  obtain ⟨v, hv, dr⟩ := r.get hd
  refine ⟨⟨vs, v, h, hv⟩, fun x H'' y => ?_⟩
  obtain ⟨rfl, hx⟩ := y
  have := hx vs h
  rw [hv] at this
  cases this
  exact ⟨F', .refl s, dr⟩
theorem itt_gives {B : Bs} {F' H' : Hp} {a : Addr} {vs : List V} {ds : List D} (h : SqT B.K H' a vs) (r : DRs B.K B.cl F' vs ds) (s : Same F' H') : Gives B (Itt B.K a) F' H' ds := by
  refine ⟨⟨vs, h, by rw [r.length]; exact Nat.le_refl _⟩, fun i d hd => ?_⟩
  obtain ⟨v, hv, dr⟩ := r.get hd
  refine ⟨⟨vs, v, h, hv⟩, fun x H'' y => ?_⟩
  obtain ⟨rfl, hx⟩ := y
  have := hx vs h
  rw [hv] at this
  cases this
  exact ⟨F', .refl s, dr⟩
theorem its_gives {B : Bs} {F' H' : Hp} {x : Str} (s : Same F' H') : Gives B (Its x) F' H' (x.cps.toList.map fun c => D.str ⟨#[c]⟩) := by
  refine ⟨?_, fun i d hd => ?_⟩
  · show x.cps.size ≤ (x.cps.toList.map fun c => D.str ⟨#[c]⟩).length
    rw [List.length_map, Array.length_toList]
    exact Nat.le_refl _
  · rw [List.getElem?_map] at hd
    obtain ⟨c, hc, rfl⟩ := Option.map_eq_some_iff.mp hd
    rw [Array.getElem?_toList] at hc
    refine ⟨?_, fun v H'' y => ?_⟩
    · show i < x.cps.size
      exact (Array.getElem?_eq_some_iff.mp hc).1
    · obtain ⟨rfl, c2, hc2, rfl⟩ := y
      rw [hc] at hc2
      cases hc2
      exact ⟨F', .refl s, .str⟩
theorem ite_gives {B : Bs} {F' H' : Hp} {a : Addr} {vs : List V} {ds : List D} (h : SqL B.K H' a vs) (r : DRs B.K B.cl F' vs ds) (s : Same F' H') : Gives B (Ite B.K a) F' H' (ds.mapIdx fun i d => D.tup [.int (i : Nat), d]) := by
  refine ⟨⟨vs, h, by rw [r.length, List.length_mapIdx]; exact Nat.le_refl _⟩, fun i d hd => ?_⟩
  rw [List.getElem?_mapIdx] at hd
  obtain ⟨d0, hd0, rfl⟩ := Option.map_eq_some_iff.mp hd
  obtain ⟨v, hv, dr⟩ := r.get hd0
  refine ⟨⟨vs, v, h, hv⟩, fun x H'' y => ?_⟩
  obtain ⟨Tt, u, rfl, hT, rfl, hx⟩ := y
  have := hx vs h
  rw [hv] at this
  cases this
  have n : News F' H' (upd F' Tt (.tup [.int (i : Nat), v])) (upd H' Tt (.tup [.int (i : Nat), v])) := News.frz s hT
  exact ⟨_, n, .tup (.of upd_same) (.cons .int (.one (dr.mono n.g.f)))⟩
theorem itet_gives {B : Bs} {F' H' : Hp} {a : Addr} {vs : List V} {ds : List D} (h : SqT B.K H' a vs) (r : DRs B.K B.cl F' vs ds) (s : Same F' H') : Gives B (IteT B.K a) F' H' (ds.mapIdx fun i d => D.tup [.int (i : Nat), d]) := by
  refine ⟨⟨vs, h, by rw [r.length, List.length_mapIdx]; exact Nat.le_refl _⟩, fun i d hd => ?_⟩
  rw [List.getElem?_mapIdx] at hd
  obtain ⟨d0, hd0, rfl⟩ := Option.map_eq_some_iff.mp hd
  obtain ⟨v, hv, dr⟩ := r.get hd0
  refine ⟨⟨vs, v, h, hv⟩, fun x H'' y => ?_⟩
  obtain ⟨Tt, u, rfl, hT, rfl, hx⟩ := y
  have := hx vs h
  rw [hv] at this
  cases this
  have n : News F' H' (upd F' Tt (.tup [.int (i : Nat), v])) (upd H' Tt (.tup [.int (i : Nat), v])) := News.frz s hT
  exact ⟨_, n, .tup (.of upd_same) (.cons .int (.one (dr.mono n.g.f)))⟩
theorem itz_gives {B : Bs} {F' H' : Hp} {a b : Addr} {vs us : List V} {ds es : List D} (h : SqL B.K H' a vs) (r : DRs B.K B.cl F' vs ds) (h2 : SqL B.K H' b us) (r2 : DRs B.K B.cl F' us es) (s : Same F' H') : Gives B (Itz B.K a b) F' H' (List.zipWith (fun d e => D.tup [d, e]) ds es) := by
  refine ⟨⟨vs, us, h, h2, ?_⟩, fun i d hd => ?_⟩
  · rw [List.length_zipWith, r.length, r2.length]
    omega
  · rw [List.getElem?_zipWith] at hd
    cases hd1 : ds[i]? with
    | none => rw [hd1] at hd; cases hd
    | some d1 =>
      cases hd2 : es[i]? with
      | none => rw [hd1, hd2] at hd; cases hd
      | some d2 =>
        rw [hd1, hd2] at hd
        cases hd
        obtain ⟨v, hv, dr⟩ := r.get hd1
        obtain ⟨u, hu, dr2⟩ := r2.get hd2
        refine ⟨⟨vs, us, v, u, h, h2, hv, hu⟩, fun x H'' y => ?_⟩
        obtain ⟨Tt, v', u', rfl, hT, rfl, hx, hy⟩ := y
        have e1 := hx vs h
        have e2 := hy us h2
        rw [hv] at e1
        rw [hu] at e2
        cases e1
        cases e2
        have n : News F' H' (upd F' Tt (.tup [v, u])) (upd H' Tt (.tup [v, u])) := News.frz s hT
        exact ⟨_, n, .tup (.of upd_same) (.cons (dr.mono n.g.f) (.one (dr2.mono n.g.f)))⟩
theorem itr_gives {B : Bs} {F' H' : Hp} {lo : Int} {n : Nat} (s : Same F' H') : Gives B (Itr lo n) F' H' ((List.range n).map fun i => D.int (lo + (i : Nat))) := by
  refine ⟨?_, fun i d hd => ?_⟩
  · show n ≤ ((List.range n).map fun i => D.int (lo + (i : Nat))).length
    rw [List.length_map, List.length_range]
    exact Nat.le_refl _
  · rw [List.getElem?_map] at hd
    obtain ⟨c, hc, rfl⟩ := Option.map_eq_some_iff.mp hd
    have lt : i < n := by
      have := (List.getElem?_eq_some_iff.mp hc).1
      rwa [List.length_range] at this
    rw [List.getElem?_range lt] at hc
    cases hc
    refine ⟨lt, fun v H'' y => ?_⟩
    obtain ⟨rfl, rfl⟩ := y
    exact ⟨F', .refl s, .int⟩
/-- the items of a value that is walked -/
def itemsD : D → Option (List D)
  | .lst ds => some ds
  | .tup ds => some ds
  | .str x => some (x.cps.toList.map fun c => D.str ⟨#[c]⟩)
  | _ => none
/-- a value; an object of a slot is walked as it stands (it may not change meanwhile) -/
def mIt (m : ME) : MIt := fun env => (fz m env).bind fun p => match dr p.2 p.1 with
  | some d => match itemsD d with
    | some ds => .ok ((ds, match p.1 with
      | .s i => some (i, d)
      | _ => none), p.2)
    | none => .no
  | none => .no
/-- .. is frozen -/
def mItF (m : ME) : MIt := fun env => (fa m env).bind fun p => match itemsD p.1 with
  | some ds => .ok ((ds, none), p.2)
  | none => .no
theorem fa_no {m : ME} {env : DL.Env} {p : D × DL.Env} (h : fa m env = .ok p) : True := trivial
section
variable {B : Bs} {W : WX} {X : Cx} {tg e : Expr} {m n : ME} {pos p : Pos}
theorem it_of (hK : X.K = B.K) (he : PE X e (tDD B W (fa m))) : PI X tg e (tDIt B W (mItF m)) := by
  refine pi_imp (pi_alt (pi_list he) (pi_alt (pi_tup he) (pi_str he))) fun σ H R h => ?_
  obtain ⟨F, env, Rl, S⟩ := h
  have S1 := Sat.of S
  revert S1
  cases hm : fa m env with
  | no => exact fun z => z.elim
  | ex c fs e' => exact fun z => .inl ⟨F, env, Rl, by rw [hm]; exact z⟩
  | ok q =>
    obtain ⟨d, e'⟩ := q
    intro z
    cases hi : itemsD d with
    | none => simp only [Sat, hi] at z
    | some ds =>
      simp only [Sat, hi] at z
      cases d with
      | lst xs =>
        cases hi
        refine .inl ⟨F, env, Rl, ?_⟩
        rw [hm]
        intro v F1 H1 R1 st1 dr
        cases dr with
        | lst h1 h2 =>
          rw [hK]
          exact ⟨_, rfl, ⟨_, .of (R1.fh _ _ h1)⟩, z _ F1 H1 R1 st1 (fun e2 F2 H2 σ2 R2 s _ _ => itl_gives (.of (R2.fh _ _ (s _ _ h1))) (h2.mono s) R2.fh) trivial⟩
      | tup xs =>
        cases hi
        refine .inr (.inl ⟨F, env, Rl, ?_⟩)
        rw [hm]
        intro v F1 H1 R1 st1 dr
        cases dr with
        | tup h1 h2 =>
          rw [hK]
          exact ⟨_, rfl, ⟨_, sqt_same R1.fh h1⟩, z _ F1 H1 R1 st1 (fun e2 F2 H2 σ2 R2 s _ _ => itt_gives (sqt_same R2.fh (sqt_same s h1)) (h2.mono s) R2.fh) trivial⟩
      | str x =>
        cases hi
        refine .inr (.inr ⟨F, env, Rl, ?_⟩)
        rw [hm]
        intro v F1 H1 R1 st1 dr
        cases dr with
        | str => exact ⟨_, rfl, z _ F1 H1 R1 st1 (fun e2 F2 H2 σ2 R2 s _ _ => its_gives R2.fh) trivial⟩
      | _ => cases hi
theorem pe_dd (he : PE X e (tD B W m)) : PE X e (tDD B W (fa m)) := pe_imp he fun σ H Q => tDD_fa σ H Q
theorem dit_val (hK : X.K = B.K) (he : PE X e (tD B W m)) : PI X tg e (tDIt B W (mItF m)) := it_of hK (pe_dd he)
/-- what stands at the walked value, each time -/
theorem view_ok {F H : Hp} {σ : L2.St} {env : DL.Env} {Hs : Hp} {v : V} {t : T} {d : D} (R : Rel B env F H σ) (tr : TR B Hs F H σ env v t) (hz : fzT t = t) (hd : dr env t = some d) :
    srcOk (match (generalizing := false) t with
      | .s i => some (i, d)
      | _ => none) env ∧ ∀ e F' H' σ', Rel B e F' H' σ' → Same F F' → srcOk (match (generalizing := false) t with
      | .s i => some (i, d)
      | _ => none) e → (∀ q, (match (generalizing := false) t with
      | .s i => some (i, d)
      | _ => none) = some q → σ'[q.1]? = σ[q.1]?) → DRt B.K B.cl F' H' v d := by
  cases t with
  | f x => cases hz
  | v x =>
    cases hd
    exact ⟨trivial, fun e F' H' σ' R' s _ _ => DR.top R'.fh (DR.mono s tr)⟩
  | s i =>
    obtain ⟨s, hs, rfl⟩ := Option.map_eq_some_iff.mp (show (slot env i).map SV.val = some d from hd)
    refine ⟨⟨s, hs, rfl⟩, fun e F' H' σ' R' sm so ss => ?_⟩
    have tr : σ[i]? = some (some v) := tr
    have es : σ'[i]? = σ[i]? := ss _ rfl
    have h : TR B Hs F' H' σ' e v (.s i) := by
      show σ'[i]? = _
      rw [es]
      exact tr
    obtain ⟨s2, hs2, e2⟩ := so
    refine dr_top R' h ?_
    show (slot e i).map SV.val = _
    rw [show slot e i = some s2 from hs2]
    exact congrArg some e2
theorem dit_view (hK : X.K = B.K) (he : PE X e (tD B W m)) : PI X tg e (tDIt B W (mIt m)) := by
  have he' : PE X e (tD B W (fz m)) := pe_imp he fun σ H Q => tD_fz σ H Q
  refine pi_imp (pi_alt (pi_list he') (pi_alt (pi_tup he') (pi_str he'))) fun σ H R h => ?_
  obtain ⟨F, env, Rl, S⟩ := h
  have S1 := (Sat.of S).fz
  revert S1
  cases hm : fz m env with
  | no => exact fun z => z.elim
  | ex c fs e' => exact fun z => .inl ⟨F, env, Rl, by rw [hm]; exact z⟩
  | ok q =>
    obtain ⟨t, e'⟩ := q
    rintro ⟨hz, z⟩
    cases hd : dr e' t with
    | none => simp only [Sat, hd] at z
    | some d =>
      cases hi : itemsD d with
      | none => simp only [Sat, hd, hi] at z
      | some ds =>
        simp only [Sat, hd, hi] at z
        cases d with
        | lst xs =>
          cases hi
          refine .inl ⟨F, env, Rl, ?_⟩
          rw [hm]
          intro v F1 H1 R1 st1 tr
          obtain ⟨v1, v2⟩ := view_ok R1 tr hz hd
          have top := dr_top R1 tr hd
          cases top with
          | lst h1 h2 =>
            rw [hK]
            refine ⟨_, rfl, ⟨_, .of h1⟩, z _ F1 H1 R1 st1 (fun e2 F2 H2 σ2 R2 s so ss => ?_) v1⟩
            cases v2 e2 F2 H2 σ2 R2 s so ss with
            | lst g1 g2 => exact itl_gives (.of g1) g2 R2.fh
        | tup xs =>
          cases hi
          refine .inr (.inl ⟨F, env, Rl, ?_⟩)
          rw [hm]
          intro v F1 H1 R1 st1 tr
          obtain ⟨v1, v2⟩ := view_ok R1 tr hz hd
          have top := dr_top R1 tr hd
          cases top with
          | tup h1 h2 =>
            rw [hK]
            refine ⟨_, rfl, ⟨_, sqt_same R1.fh h1⟩, z _ F1 H1 R1 st1 (fun e2 F2 H2 σ2 R2 s so ss => ?_) v1⟩
            cases v2 e2 F2 H2 σ2 R2 s so ss with
            | tup g1 g2 => exact itt_gives (sqt_same R2.fh g1) g2 R2.fh
        | str x =>
          cases hi
          refine .inr (.inr ⟨F, env, Rl, ?_⟩)
          rw [hm]
          intro v F1 H1 R1 st1 tr
          obtain ⟨v1, v2⟩ := view_ok R1 tr hz hd
          have top := dr_top R1 tr hd
          cases top with
          | str => exact ⟨_, rfl, z _ F1 H1 R1 st1 (fun e2 F2 H2 σ2 R2 s so ss => its_gives R2.fh) v1⟩
        | _ => cases hi
end
end DL
set_option Elab.async false
set_option linter.all false
set_option maxRecDepth 100000
set_option maxHeartbeats 4000000
namespace DL
open PySem PySem.Spec PyProof.Rows L2 Own
/-! ### range, enumerate, zip -/
def rngD (lo : Int) (n : Nat) : List D := (List.range n).map fun i => D.int (lo + (i : Nat))
def enumD (ds : List D) : List D := ds.mapIdx fun i d => D.tup [.int (i : Nat), d]
def zipD (ds es : List D) : List D := List.zipWith (fun d e => D.tup [d, e]) ds es
def mRng1 (m : ME) : MIt := fun env => (fa m env).bind fun p => match p.1 with
  | .int j => if -(2 ^ 62) ≤ j ∧ j < 2 ^ 62 then .ok ((rngD 0 j.toNat, none), p.2) else .no
  | _ => .no
def mRng2 (m n : ME) : MIt := fun env => (fa m env).bind fun p => (fa n p.2).bind fun q => match p.1, q.1 with
  | .int i, .int j => if -(2 ^ 62) ≤ i ∧ i < 2 ^ 62 ∧ -(2 ^ 62) ≤ j ∧ j < 2 ^ 62 then .ok ((rngD i (j - i).toNat, none), q.2) else .no
  | _, _ => .no
/-- enumerate of a list or a tuple, frozen -/
def mEnum (m : ME) : MIt := fun env => (fa m env).bind fun p => match p.1 with
  | .lst ds => .ok ((enumD ds, none), p.2)
  | .tup ds => .ok ((enumD ds, none), p.2)
  | _ => .no
/-- .. as it stands -/
def mEnumV (m : ME) : MIt := fun env => (fz m env).bind fun p => match dr p.2 p.1 with
  | some (.lst ds) => .ok ((enumD ds, match p.1 with
      | .s i => some (i, .lst ds)
      | _ => none), p.2)
  | some (.tup ds) => .ok ((enumD ds, match p.1 with
      | .s i => some (i, .tup ds)
      | _ => none), p.2)
  | _ => .no
def mZip (m n : ME) : MIt := fun env => (fa m env).bind fun p => (fa n p.2).bind fun q => match p.1, q.1 with
  | .lst ds, .lst es => .ok ((zipD ds es, none), q.2)
  | _, _ => .no
section
variable {B : Bs} {W : WX} {X : Cx} {tg a b : Expr} {m n : ME} {pos p tpos : Pos} {elts : List Expr} {kk : Nat}
theorem dit_range1 (hm : X.mg "range" = none) (ha : PE X a (tD B W m)) (hg : Gl X "range" := by rfl) (hs : starEach [a] X.env = [(false, eval a X.env)] := by rfl) : PI X tg (.Call (.Name "range" p) [a] [] pos) (tDIt B W (mRng1 m)) :=
  pi_imp (pi_range1 hg hm (pa_cons (pe_dd ha) pa_nil hs) hs) fun σ H R h => by
    obtain ⟨F, env, Rl, S⟩ := h
    refine ⟨F, env, Rl, (Sat.of S).imp fun d e q v F1 H1 R1 st1 dr => ?_⟩
    cases d with
    | int j =>
      dsimp only at q
      by_cases hj : -(2 ^ 62) ≤ j ∧ j < 2 ^ 62
      · rw [if_pos hj] at q
        cases dr
        exact ⟨j, rfl, hj.1, hj.2, q _ F1 H1 R1 st1 (fun e2 F2 H2 σ2 R2 s _ _ => itr_gives R2.fh) trivial⟩
      · rw [if_neg hj] at q
        exact q.elim
    | _ => exact q.elim
theorem dit_range2 (hm : X.mg "range" = none) (ha : PE X a (tD B W m)) (hb : PE X b (tD B W n)) (hg : Gl X "range" := by rfl) (hs : starEach [a, b] X.env = [(false, eval a X.env), (false, eval b X.env)] := by rfl) (hs2 : starEach [b] X.env = [(false, eval b X.env)] := by rfl) : PI X tg (.Call (.Name "range" p) [a, b] [] pos) (tDIt B W (mRng2 m n)) :=
  pi_imp (pi_range2 hg hm (pa_cons (pe_dd ha) (pa_cons (pe_dd hb) pa_nil hs2) (by rw [hs, hs2])) hs hs2) fun σ H R h => by
    obtain ⟨F, env, Rl, S⟩ := h
    refine ⟨F, env, Rl, (Sat.of S).imp fun d e S2 v F1 H1 R1 st1 dr => ?_⟩
    refine ⟨F1, e, R1, (Sat.of S2).imp fun d2 e2 q v2 F2 H2 R2 st2 dr2 => ?_⟩
    cases d with
    | int i =>
      cases d2 with
      | int j =>
        dsimp only at q
        by_cases hj : -(2 ^ 62) ≤ i ∧ i < 2 ^ 62 ∧ -(2 ^ 62) ≤ j ∧ j < 2 ^ 62
        · rw [if_pos hj] at q
          cases dr
          cases dr2
          exact ⟨i, j, rfl, hj, q _ F2 H2 R2 (st1.trans st2) (fun e2 F2 H2 σ2 R2 s _ _ => itr_gives R2.fh) trivial⟩
        · rw [if_neg hj] at q
          exact q.elim
      | _ => exact q.elim
    | _ => exact q.elim
theorem dit_enum (hK : X.K = B.K) (hm : X.mg "enumerate" = none) (ha : PE X a (tD B W m)) (hg : Gl X "enumerate" := by rfl) (hs : starEach [a] X.env = [(false, eval a X.env)] := by rfl) : PI X (.Tuple elts kk tpos) (.Call (.Name "enumerate" p) [a] [] pos) (tDIt B W (mEnum m)) := by
  refine pi_imp (pi_alt (pi_enum hg hm (pa_cons (pe_dd ha) pa_nil hs) hs) (pi_enumT hg hm (pa_cons (pe_dd ha) pa_nil hs) hs)) fun σ H R h => ?_
  obtain ⟨F, env, Rl, S⟩ := h
  have S1 := Sat.of S
  revert S1
  cases hm : fa m env with
  | no => exact fun z => z.elim
  | ex c fs e' => exact fun z => .inl ⟨F, env, Rl, by rw [hm]; exact z⟩
  | ok q =>
    obtain ⟨d, e'⟩ := q
    intro z
    cases d with
    | lst xs =>
      refine .inl ⟨F, env, Rl, ?_⟩
      rw [hm]
      intro v F1 H1 R1 st1 dr
      cases dr with
      | lst h1 h2 =>
        rw [hK]
        exact ⟨_, _, rfl, .of (R1.fh _ _ h1), z _ F1 H1 R1 st1 (fun e2 F2 H2 σ2 R2 s _ _ => ite_gives (.of (R2.fh _ _ (s _ _ h1))) (h2.mono s) R2.fh) trivial⟩
    | tup xs =>
      refine .inr ⟨F, env, Rl, ?_⟩
      rw [hm]
      intro v F1 H1 R1 st1 dr
      cases dr with
      | tup h1 h2 =>
        rw [hK]
        exact ⟨_, _, rfl, sqt_same R1.fh h1, z _ F1 H1 R1 st1 (fun e2 F2 H2 σ2 R2 s _ _ => itet_gives (sqt_same R2.fh (sqt_same s h1)) (h2.mono s) R2.fh) trivial⟩
    | _ => exact z.elim
theorem dit_enumV (hK : X.K = B.K) (hm : X.mg "enumerate" = none) (ha : PE X a (tD B W m)) (hg : Gl X "enumerate" := by rfl) (hs : starEach [a] X.env = [(false, eval a X.env)] := by rfl) : PI X (.Tuple elts kk tpos) (.Call (.Name "enumerate" p) [a] [] pos) (tDIt B W (mEnumV m)) := by
  have ha' : PE X a (tD B W (fz m)) := pe_imp ha fun σ H Q => tD_fz σ H Q
  refine pi_imp (pi_alt (pi_enum hg hm (pa_cons ha' pa_nil hs) hs) (pi_enumT hg hm (pa_cons ha' pa_nil hs) hs)) fun σ H R h => ?_
  obtain ⟨F, env, Rl, S⟩ := h
  have S1 := (Sat.of S).fz
  revert S1
  cases hm : fz m env with
  | no => exact fun z => z.elim
  | ex c fs e' => exact fun z => .inl ⟨F, env, Rl, by rw [hm]; exact z⟩
  | ok q =>
    obtain ⟨t, e'⟩ := q
    rintro ⟨hz, z⟩
    cases hd : dr e' t with
    | none => simp only [Sat, hd] at z
    | some d =>
      cases d with
      | lst xs =>
        simp only [Sat, hd] at z
        refine .inl ⟨F, env, Rl, ?_⟩
        rw [hm]
        intro v F1 H1 R1 st1 tr
        obtain ⟨v1, v2⟩ := view_ok R1 tr hz hd
        cases dr_top R1 tr hd with
        | lst h1 h2 =>
          rw [hK]
          refine ⟨_, _, rfl, .of h1, z _ F1 H1 R1 st1 (fun e2 F2 H2 σ2 R2 s so ss => ?_) v1⟩
          cases v2 e2 F2 H2 σ2 R2 s so ss with
          | lst g1 g2 => exact ite_gives (.of g1) g2 R2.fh
      | tup xs =>
        simp only [Sat, hd] at z
        refine .inr ⟨F, env, Rl, ?_⟩
        rw [hm]
        intro v F1 H1 R1 st1 tr
        obtain ⟨v1, v2⟩ := view_ok R1 tr hz hd
        cases dr_top R1 tr hd with
        | tup h1 h2 =>
          rw [hK]
          refine ⟨_, _, rfl, sqt_same R1.fh h1, z _ F1 H1 R1 st1 (fun e2 F2 H2 σ2 R2 s so ss => ?_) v1⟩
          cases v2 e2 F2 H2 σ2 R2 s so ss with
          | tup g1 g2 => exact itet_gives (sqt_same R2.fh g1) g2 R2.fh
      | _ => simp only [Sat, hd] at z
theorem dit_zip (hK : X.K = B.K) (hm : X.mg "zip" = none) (ha : PE X a (tD B W m)) (hb : PE X b (tD B W n)) (hg : Gl X "zip" := by rfl) (hs : starEach [a, b] X.env = (false, eval a X.env) :: starEach [b] X.env := by rfl) (hs2 : starEach [b] X.env = (false, eval b X.env) :: starEach [] X.env := by rfl)
    (hpl : (backTo pos (starEach [b] X.env)).any (·.1) = false := by rfl) : PI X (.Tuple elts kk tpos) (.Call (.Name "zip" p) [a, b] [] pos) (tDIt B W (mZip m n)) :=
  pi_imp (pi_zip hg hm (pa_cons (pe_dd ha) (pa_cons (pe_dd hb) pa_nil hs2) hs) hs hpl) fun σ H R h => by
    obtain ⟨F, env, Rl, S⟩ := h
    refine ⟨F, env, Rl, (Sat.of S).imp fun d e S2 v F1 H1 R1 st1 dr => ?_⟩
    refine ⟨F1, e, R1, (Sat.of S2).imp fun d2 e2 q v2 F2 H2 R2 st2 dr2 => ?_⟩
    cases d with
    | lst ds =>
      cases d2 with
      | lst es =>
        cases dr with
        | lst h1 h2 =>
          cases dr2 with
          | lst g1 g2 =>
            rw [hK]
            exact ⟨_, _, _, _, rfl, .of (R2.fh _ _ (st2.g.f _ _ h1)), .of (R2.fh _ _ g1), q _ F2 H2 R2 (st1.trans st2) (fun e3 F3 H3 σ3 R3 s _ _ => itz_gives (.of (R3.fh _ _ (s _ _ (st2.g.f _ _ h1)))) ((h2.mono st2.g.f).mono s) (.of (R3.fh _ _ (s _ _ g1))) (g2.mono s) R3.fh) trivial⟩
      | _ => exact q.elim
    | _ => exact q.elim
end

/-! ### for -/
/-- ds one by one -/
def forL (g : GT) (body : MS) : List D → DL.Env → OutS
  | [], e => .nx e
  | d :: ds, e => match g d e with
    | none => .no
    | some e1 => match body e1 with
      | .nx e2 => forL g body ds e2
      | .ct e2 => forL g body ds e2
      | .bk e2 => .nx e2
      | .rt r e2 => .rt r e2
      | .ex c fs e2 => .ex c fs e2
      | .no => .no
/-- (an object of a slot is frozen first) -/
def mFor (mi : MIt) (g : GT) (body : MS) : MS := fun env => sq (mi env) fun p e => match p.2 with
  | none => forL g body p.1 e
  | some _ => .no
theorem drop_cons {α : Type} {ds : List α} {i : Nat} {d : α} (h : ds[i]? = some d) : ds.drop i = d :: ds.drop (i + 1) := by
  obtain ⟨l, e⟩ := List.getElem?_eq_some_iff.mp h
  rw [List.drop_eq_getElem_cons l, e]
theorem ds_for {B : Bs} {W : WX} {X : Cx} {tg iter : Expr} {body : List Stmt} {pos : Pos} {mi : MIt} {g : GT} {vs : List Nat} {mb : MS} (hp : PassesOwn (model X.prog X.w) X.A X.env X.xe) (hc : X.calm = true) (hi : PI X tg iter (tDIt B W mi)) (hg : PG X tg (tDG B vs g)) (hb : PSs X body (tDS B W mb))
    (hs : ∀ x, foldedSetIterable iter X.env x = pure x := by intro _; rfl) : PS X (.For tg iter body [] pos) (tDS B W (mFor mi g mb)) := by
  refine ps_imp (ps_for hp hc hi hg hb hs) fun Dn σ H h => ?_
  obtain ⟨F, env, R, S⟩ := h
  refine ⟨F, env, R, (SatS.of S).imp fun p e q J F1 H1 R1 st1 ok _ => ?_⟩
  obtain ⟨ds, src⟩ := p
  cases src with
  | some _ => exact q.elim
  | none =>
    have q : SatS B W F1 (forL g mb ds e) Dn := SatS.up q st1.g.f
    have gv : ∀ e F' H' σ', Rel B e F' H' σ' → Same F1 F' → Gives B J F' H' ds := fun e F' H' σ' r s => ok e F' H' σ' r s trivial fun _ z => nomatch z
    refine ⟨fun i m σ' H' => m = ds.length - i ∧ i ≤ ds.length ∧ ∃ e' F', Rel B e' F' H' σ' ∧ Same F1 F' ∧ SatS B W F1 (forL g mb (ds.drop i) e') Dn, ⟨_, rfl, Nat.zero_le _, e, F1, R1, .refl _, q⟩, ?_⟩
    rintro i m σ' H' ⟨rfl, hi, e', F', R', s', q'⟩
    obtain ⟨g1, g2⟩ := gv e' F' H' σ' R' s'
    rcases Nat.lt_or_ge i ds.length with lt | ge
    · obtain ⟨d, hd⟩ : ∃ d, ds[i]? = some d := ⟨_, List.getElem?_eq_getElem lt⟩
      obtain ⟨g3, g4⟩ := g2 i d hd
      rw [drop_cons hd] at q'
      refine .inr ⟨g3, fun σ2 H2 => ∃ e2 F2, Rel B e2 F2 H2 σ2 ∧ Same F1 F2 ∧ SatS B W F1 (forL g mb (ds.drop (i + 1)) e2) Dn, fun σ2 H2 ⟨e2, F2, r2, s2, q2⟩ => ⟨ds.length - (i + 1), by omega, rfl, lt, e2, F2, r2, s2, q2⟩, fun x H'' y => ?_⟩
      obtain ⟨F'', nw, dr⟩ := g4 x H'' y
      cases hgd : g d e' with
      | none => simp only [forL, hgd] at q'; exact q'.elim
      | some e1 =>
        simp only [forL, hgd] at q'
        refine ⟨F'', e', d, e1, R'.news nw, dr, hgd, fun σ1 Rg _ _ => ⟨F'', e1, Rg, ?_⟩⟩
        have sF : Same F1 F'' := s'.trans nw.g.f
        cases hbd : mb e1 with
        | nx e2 => simp only [hbd] at q'; exact fun σ2 F2 H2 R2 s2 => ⟨e2, F2, R2, sF.trans s2, q'⟩
        | ct e2 => simp only [hbd] at q'; exact fun σ2 F2 H2 R2 s2 => ⟨e2, F2, R2, sF.trans s2, q'⟩
        | bk e2 => simp only [hbd] at q'; exact fun σ2 F2 H2 R2 s2 => q' σ2 F2 H2 R2 (sF.trans s2)
        | rt r e2 => simp only [hbd] at q'; exact q'
        | ex c fs e2 => simp only [hbd] at q'; exact q'
        | no => simp only [hbd] at q'; exact q'.elim
    · have : i = ds.length := by omega
      subst this
      rw [List.drop_length] at q'
      exact .inl ⟨g1, q' σ' F' H' R' s'⟩
end DL
set_option Elab.async false
set_option linter.all false
set_option maxRecDepth 100000
set_option maxHeartbeats 4000000
namespace DL
open PySem PySem.Spec PyProof.Rows L2 Own
/-! ### while -/
def whileL (c : MB) (body : MS) : Nat → DL.Env → OutS
  | 0, _ => .no
  | n + 1, e => sq (c e) fun b e1 => if b = true then match body e1 with
      | .nx e2 => whileL c body n e2
      | .ct e2 => whileL c body n e2
      | .bk e2 => .nx e2
      | .rt r e2 => .rt r e2
      | .ex c fs e2 => .ex c fs e2
      | .no => .no
    else .nx e1
/-- (fu: turns enough) -/
def mWhile (fu : DL.Env → Nat) (c : MB) (body : MS) : MS := fun env => whileL c body (fu env) env
theorem ds_while {B : Bs} {W : WX} {X : Cx} {c : Expr} {body : List Stmt} {pos : Pos} {mc : MB} {mb : MS} (fu : DL.Env → Nat) (hp : PassesOwn (model X.prog X.w) X.A X.env X.xe) (hc : PT X c (tDB B W mc)) (hb : PSs X body (tDS B W mb)) : PS X (.While c body [] pos) (tDS B W (mWhile fu mc mb)) := by
  refine ps_imp (ps_while hp hc hb) fun Dn σ H h => ?_
  obtain ⟨F, env, R, S⟩ := h
  refine ⟨fun m σ' H' => ∃ e' F', Rel B e' F' H' σ' ∧ Same F F' ∧ SatS B W F (whileL mc mb m e') Dn, ⟨fu env, env, F, R, .refl _, S⟩, ?_⟩
  rintro m σ' H' ⟨e', F', R', s', q'⟩
  cases m with
  | zero => exact q'.elim
  | succ m =>
    refine ⟨F', e', R', (SatS.of q').imp fun b e1 q F1 H1 R1 st1 => ?_⟩
    have s1 := s'.trans st1.g.f
    cases b with
    | false => exact iteF (q σ' F1 H1 R1 s1)
    | true =>
      refine iteT ⟨fun σ2 H2 => ∃ e2 F2, Rel B e2 F2 H2 σ2 ∧ Same F F2 ∧ SatS B W F (whileL mc mb m e2) Dn, fun σ2 H2 z => ⟨m, Nat.lt_succ_self _, z⟩, F1, e1, R1, ?_⟩
      have q : SatS B W F (match mb e1 with
        | .nx e2 => whileL mc mb m e2
        | .ct e2 => whileL mc mb m e2
        | .bk e2 => .nx e2
        | .rt r e2 => .rt r e2
        | .ex c fs e2 => .ex c fs e2
        | .no => .no) Dn := q
      cases hbd : mb e1 with
      | nx e2 => simp only [hbd] at q; exact fun σ2 F2 H2 R2 s2 => ⟨e2, F2, R2, s1.trans s2, q⟩
      | ct e2 => simp only [hbd] at q; exact fun σ2 F2 H2 R2 s2 => ⟨e2, F2, R2, s1.trans s2, q⟩
      | bk e2 => simp only [hbd] at q; exact fun σ2 F2 H2 R2 s2 => q σ2 F2 H2 R2 (s1.trans s2)
      | rt r e2 => simp only [hbd] at q; exact q
      | ex c fs e2 => simp only [hbd] at q; exact q
      | no => simp only [hbd] at q; exact q.elim
/-! ### list comprehensions -/
/-- the slots of a comprehension's own names -/
def wipeE : List Nat → DL.Env → DL.Env
  | [], e => e
  | v :: vs, e => (wipeE vs e).set v none
/-- .. as they were -/
def restE : List Nat → DL.Env → DL.Env → DL.Env
  | [], _, e => e
  | v :: vs, e0, e => (restE vs e0 e).set v (slot e0 v)
def ownFree (vs : List Nat) (e : DL.Env) : Bool := vs.all fun v => match slot e v with
  | none => true
  | some (.d _) => true
  | _ => false
def Out.bindN {α β : Type} (o : Out α) (f : α → Out β) : Out β := match o with
  | .ok a => f a
  | _ => .no
@[simp] theorem bindN_ok {α β : Type} (a : α) (f : α → Out β) : (Out.ok a).bindN f = f a := rfl
open Classical in
/-- the items that are kept -/
noncomputable def lcL (vs : List Nat) (src : Option (Nat × D)) (g : GT) (tt : MB) (te : ME) : List D → DL.Env → Out (List D × DL.Env)
  | [], e => .ok ([], e)
  | d :: ds, e => match g d e with
    | none => .no
    | some e1 => (tt e1).bindN fun p => if p.1 = true then (fa te p.2).bindN fun q => if srcOk src q.2 then (lcL vs src g tt te ds (wipeE vs q.2)).bind fun r => .ok (q.1 :: r.1, r.2) else .no
      else if srcOk src p.2 then lcL vs src g tt te ds (wipeE vs p.2) else .no
noncomputable def mLc (vs : List Nat) (mi : MIt) (g : GT) (tt : MB) (te : ME) : ME := fun env => (mi env).bind fun p => if ownFree vs p.2 = true ∧ p.1.1.length ≤ 100000 ∧ (∀ q, p.1.2 = some q → q.1 ∉ vs) then
  (lcL vs p.1.2 g tt te p.1.1 (wipeE vs p.2)).bind fun q => .ok (.f (.lst q.1), restE vs p.2 q.2) else .no
def mYes : MB := fun env => .ok (true, env)
def tDTs (B : Bs) (W : WX) (m : MB) : TT := tDB B W m
section
variable {B : Bs} {W : WX} {X : Cx} {σ : L2.St}
theorem wipe_get {vs : List Nat} {σ : L2.St} {i : Nat} : i ∉ vs → (wipe σ vs)[i]? = σ[i]? := by
  induction vs with
  | nil => exact fun _ => rfl
  | cons v vs ih =>
    intro h
    show ((wipe σ vs).set v none)[i]? = _
    rw [List.getElem?_set_ne (fun z => h (by rw [z]; exact List.mem_cons_self)), ih fun z => h (List.mem_cons_of_mem _ z)]
theorem wipe_in {vs : List Nat} {σ : L2.St} {i : Nat} : i ∈ vs → ∀ v, (wipe σ vs)[i]? ≠ some (some v) := by
  intro h v e
  exact (wipe_some e).2 h
theorem wipeE_get {vs : List Nat} {e : DL.Env} {i : Nat} : i ∉ vs → (wipeE vs e)[i]? = e[i]? := by
  induction vs with
  | nil => exact fun _ => rfl
  | cons v vs ih =>
    intro h
    show ((wipeE vs e).set v none)[i]? = _
    rw [List.getElem?_set_ne (fun z => h (by rw [z]; exact List.mem_cons_self)), ih fun z => h (List.mem_cons_of_mem _ z)]
theorem wipeE_len {vs : List Nat} {e : DL.Env} : (wipeE vs e).length = e.length := by
  induction vs with
  | nil => rfl
  | cons v vs ih =>
    show ((wipeE vs e).set v none).length = _
    rw [List.length_set, ih]
theorem wipe_ext {vs : List Nat} {σ σ' : L2.St} (h : Only vs σ σ') : wipe σ' vs = wipe σ vs := by
  refine List.ext_getElem? fun i => ?_
  by_cases hi : i ∈ vs
  · have no : ∀ (τ : L2.St), (∀ v, (wipe τ vs)[i]? ≠ some (some v)) := fun τ => wipe_in hi
    have l : (wipe σ' vs).length = (wipe σ vs).length := by rw [wipe_length, wipe_length, h.1]
    by_cases li : i < (wipe σ vs).length
    · have e1 := List.getElem?_eq_getElem li
      have li' : i < (wipe σ' vs).length := by omega
      have e2 := List.getElem?_eq_getElem li'
      rw [e1, e2]
      cases q1 : (wipe σ vs)[i] with
      | some v => rw [q1] at e1; exact (no σ v e1).elim
      | none =>
        cases q2 : (wipe σ' vs)[i] with
        | some v => rw [q2] at e2; exact (no σ' v e2).elim
        | none => rfl
    · rw [List.getElem?_eq_none (by omega), List.getElem?_eq_none (by omega)]
  · rw [wipe_get hi, wipe_get hi, h.2 i hi]
theorem Rel.wipe : ∀ {vs : List Nat} {env : DL.Env} {F H : Hp} {σ : L2.St}, Rel B env F H σ → (∀ v ∈ vs, B.fx.all (fun q => q.1 != v) = true) → Rel B (wipeE vs env) F H (L2.wipe σ vs)
  | [], _, _, _, _, R, _ => R
  | v :: vs, _, _, _, _, R, h => (Rel.wipe R fun w hw => h w (List.mem_cons_of_mem _ hw)).forget (h v List.mem_cons_self)
/-- a slot that is told -/
theorem Rel.tell {env : DL.Env} {F H : Hp} {σ : L2.St} (R : Rel B env F H σ) {i : Nat} {s : Option SV} (hs : ∀ t, s = some t → t.mut = false ∧ ∃ v, σ[i]? = some (some v) ∧ SR B F H v t) (hf : B.fx.all (fun q => q.1 != i) = true) : Rel B (env.set i s) F H σ := by
  have f : ∀ {j : Nat} {t : SV}, (env.set i s)[j]? = some (some t) → (i = j ∧ s = some t) ∨ env[j]? = some (some t) := fun {j t} h => by
    by_cases q : i = j
    · subst q
      by_cases li : i < env.length
      · rw [List.getElem?_set_self li] at h
        exact .inl ⟨rfl, Option.some.inj h⟩
      · rw [List.getElem?_eq_none (by rw [List.length_set]; omega)] at h
        cases h
    · rw [List.getElem?_set_ne q] at h
      exact .inr h
  refine ⟨R.fh, R.gr, fun j t ej => ?_, fun j k s1 s2 u e1 e2 m1 m2 z1 z2 => ?_, by rw [List.length_set]; exact R.len, fun q hq => ?_⟩
  · rcases f ej with ⟨rfl, e⟩ | e
    · exact (hs t e).2
    · exact R.sl j t e
  · rcases f e1 with ⟨rfl, e⟩ | e1
    · rw [(hs _ e).1] at m1
      cases m1
    · rcases f e2 with ⟨rfl, e⟩ | e2
      · rw [(hs _ e).1] at m2
        cases m2
      · exact R.sep j k s1 s2 u e1 e2 m1 m2 z1 z2
  · have ne : q.1 ≠ i := by
      have := List.all_eq_true.mp hf q hq
      simpa using this
    obtain ⟨h1, t, h2⟩ := R.fx q hq
    exact ⟨h1, t, by rw [List.getElem?_set_ne (Ne.symm ne)]; exact h2⟩
/-- slots that were forgotten and may stand for anything -/
theorem Rel.unwipe {vs : List Nat} {env : DL.Env} {F H : Hp} {σ : L2.St} (R : Rel B env F H (L2.wipe σ vs)) : Rel B env F H σ := by
  have g : ∀ {i : Nat} {v : V}, (L2.wipe σ vs)[i]? = some (some v) → σ[i]? = some (some v) := fun h => (wipe_some h).1
  refine ⟨R.fh, R.gr, fun i s e => ?_, fun i j s t v e1 e2 m1 m2 s1 s2 => ?_, by rw [R.len, wipe_length], fun q hq => ?_⟩
  · obtain ⟨v, h1, h2⟩ := R.sl i s e
    exact ⟨v, g h1, h2⟩
  · obtain ⟨u1, a1, _⟩ := R.sl i s e1
    obtain ⟨u2, a2, _⟩ := R.sl j t e2
    have b1 := g a1
    have b2 := g a2
    rw [s1] at b1
    rw [s2] at b2
    cases b1
    cases b2
    exact R.sep i j s t v e1 e2 m1 m2 a1 a2
  · obtain ⟨h1, h2⟩ := R.fx q hq
    exact ⟨g h1, h2⟩
theorem Rel.rest : ∀ {vs : List Nat} {e0 env : DL.Env} {F H : Hp} {σ : L2.St}, Rel B env F H σ → (∀ v ∈ vs, ∀ t, slot e0 v = some t → t.mut = false ∧ ∃ u, σ[v]? = some (some u) ∧ SR B F H u t) → (∀ v ∈ vs, B.fx.all (fun q => q.1 != v) = true) → Rel B (restE vs e0 env) F H σ
  | [], _, _, _, _, _, R, _, _ => R
  | v :: vs, _, _, _, _, _, R, h, hf => (Rel.rest R (fun w hw => h w (List.mem_cons_of_mem _ hw)) fun w hw => hf w (List.mem_cons_of_mem _ hw)).tell (h v List.mem_cons_self) (hf v List.mem_cons_self)
theorem restE_get {vs : List Nat} {e0 e : DL.Env} {i : Nat} : i ∉ vs → (restE vs e0 e)[i]? = e[i]? := by
  induction vs with
  | nil => exact fun _ => rfl
  | cons v vs ih =>
    intro h
    show ((restE vs e0 e).set v (slot e0 v))[i]? = _
    rw [List.getElem?_set_ne (fun z => h (by rw [z]; exact List.mem_cons_self)), ih fun z => h (List.mem_cons_of_mem _ z)]
theorem ow_wipe {vs : List Nat} {env : DL.Env} {σ : L2.St} {a : Addr} (h : Ow (wipeE vs env) (L2.wipe σ vs) a) : Ow env σ a := by
  obtain ⟨i, s, h1, h2, h3⟩ := h
  obtain ⟨h4, hi⟩ := wipe_some h3
  rw [wipeE_get hi] at h1
  exact ⟨i, s, h1, h2, h4⟩
theorem wipe_wipe {vs : List Nat} {σ : L2.St} : L2.wipe (L2.wipe σ vs) vs = L2.wipe σ vs := wipe_ext ⟨wipe_length σ vs, fun _ h => wipe_get h⟩
/-- an object that nothing knows is written -/
theorem Rel.touch {env : DL.Env} {F H : Hp} {σ : L2.St} {a : Addr} {o : HO} (R : Rel B env F H σ) (fa : F a = none) (hb : B.H0 a = none) (hn : ¬ Ow env σ a) : Rel B env F (upd H a o) σ := by
  refine ⟨fun b u e => ?_, ⟨R.gr.f, fun b u e n => ?_, R.gr.n, fun b u e => ?_⟩, fun i s e => ?_, R.sep, R.len, R.fx⟩
  · rw [upd_ne (ne_of_none e fa)]
    exact R.fh b u e
  · rw [upd_ne (ne_of_none e hb)]
    exact R.gr.h b u e n
  · rw [upd_ne (ne_of_none e hb)]
    exact R.gr.k b u e
  · obtain ⟨v, h1, h2⟩ := R.sl i s e
    refine ⟨v, h1, h2.to (Same.refl _) fun b u m eb hb2 fb => ⟨fb, ?_⟩⟩
    subst eb
    have ne : b ≠ a := by
      rintro rfl
      exact hn ⟨i, s, e, m, h1⟩
    rw [upd_ne ne]
    exact hb2
theorem Grow.touch {A : Addr → Prop} {F H F' H' : Hp} {a : Addr} {o : HO} (g : Grow A F H F' H') (h : H a = none) : Grow A F H F' (upd H' a o) :=
  ⟨g.f, fun b u e n => by
    rw [upd_ne (ne_of_none e h)]
    exact g.h b u e n, g.n, fun b u e => by
    rw [upd_ne (ne_of_none e h)]
    exact g.k b u e⟩
abbrev WF : WX := fun _ _ _ _ => False
theorem sat_bindN {α β : Type} {W' : WX} {σ' : L2.St} {o : Out (α × DL.Env)} {f : α × DL.Env → Out (β × DL.Env)} {P : β → DL.Env → Prop} (h : Sat B W σ (o.bindN f) P) : Sat B W' σ' o fun a e => Sat B W σ (f (a, e)) P := by
  cases o with
  | ok a => exact h
  | ex c fs e => exact h.elim
  | no => exact h.elim
theorem t_lc {mi : MIt} {gv vs : List Nat} {g : GT} {tt : MB} {te : ME} (hv : ∀ i ∈ gv, i ∈ vs) (hfx : ∀ v ∈ vs, B.fx.all (fun q => q.1 != v) = true) (σ : L2.St) (H : Hp) (Q : VK) (h : tD B W (mLc vs mi g tt te) σ H Q) : tLc (tDIt B W mi) (tDG B gv g) (tDB B WF tt) (tD B WF te) vs σ H Q := by
  obtain ⟨F, env, R, S⟩ := h
  refine ⟨F, env, R, (Sat.of S).imp fun p e1 q J F1 H1 R1 st1 iok so => ?_⟩
  intro D hD
  obtain ⟨ds, src⟩ := p
  dsimp only at q iok so
  by_cases hcond : ownFree vs e1 = true ∧ ds.length ≤ 100000 ∧ (∀ q, src = some q → q.1 ∉ vs)
  case neg =>
    rw [if_neg hcond] at q
    exact q.elim
  rw [if_pos hcond] at q
  obtain ⟨ofr, few, sv⟩ := hcond
  have q := Sat.of q
  have srcσ : ∀ z, src = some z → (wipe σ vs)[z.1]? = σ[z.1]? := fun z hz => wipe_get (sv z hz)
  have slotw : ∀ (e : DL.Env) (z : Nat × DL.D), src = some z → slot (wipeE vs e) z.1 = slot e z.1 := fun e z hz => by
    unfold slot
    rw [wipeE_get (sv z hz)]
  have srcw : ∀ e : DL.Env, srcOk src e → srcOk src (wipeE vs e) := by
    intro e h
    cases src with
    | none => trivial
    | some z =>
      obtain ⟨s, h1, h2⟩ := h
      exact ⟨s, by rw [slotw e z rfl]; exact h1, h2⟩
  have hDb : B.H0 D = none := R1.base hD
  have hDf : F1 D = none := R1.fh.free hD
  have noOw : ¬ Ow e1 σ D := fun z => by
    obtain ⟨o, ho, _⟩ := R1.owS z
    rw [hD] at ho
    cases ho
  refine lc_it iok.walk (fun i H' => ∃ (F' : Hp) (e' : DL.Env) (acc : List DL.D) (accV : List V), Rel B e' F' H' (wipe σ vs) ∧ Grow (Ow e1 σ) F1 H1 F' H' ∧ (∀ a, Ow e' (wipe σ vs) a → Ow e1 σ a) ∧ H' D = some (.lst accV) ∧ F' D = none ∧ DRs B.K B.cl F' accV acc ∧
    srcOk src e' ∧ acc.length ≤ i ∧ Sat B W σ (lcL vs src g tt te (ds.drop i) e') fun ys e => ∀ v F2 H2, Rel B (restE vs e1 e) F2 H2 σ → Step σ env F H (restE vs e1 e) F2 H2 → TR B H F2 H2 σ (restE vs e1 e) v (.f (.lst (acc ++ ys))) → Q v H2) ?_ ?_ ?_ ?_
  · exact ⟨F1, wipeE vs e1, [], [], (R1.wipe hfx).touch hDf hDb fun z => noOw (ow_wipe z), (Grow.refl _ _ _).touch hD, fun a z => ow_wipe z, upd_same, hDf, .nil, srcw _ so, Nat.zero_le _, q⟩
  · rintro i H' _ ⟨F', e', acc, accV, R', gr, ow, _, _, _, so', _, _⟩
    exact ⟨e', F', _, R', gr.f, so', srcσ⟩
  · rintro i x H' H'' hi ⟨F', e', acc, accV, R', gr, ow, hDl, hDF, dra, so', la, q'⟩ y
    obtain ⟨d, hd⟩ : ∃ d, ds[i]? = some d := ⟨_, List.getElem?_eq_getElem hi⟩
    obtain ⟨F'', nw, dr⟩ := ((iok e' F' H' _ R' gr.f so' srcσ).2 i d hd).2 x H'' y
    rw [drop_cons hd] at q'
    cases hgd : g d e' with
    | none => simp only [lcL, hgd] at q'; exact q'.elim
    | some e2 =>
      simp only [lcL, hgd] at q'
      have grw : ∀ {F3 H3 : Hp} {e3 : DL.Env} {σ3 : L2.St}, (∀ a, Ow e2 σ3 a → Ow e' (wipe σ vs) a) → Step σ3 e2 F'' H'' e3 F3 H3 → Grow (Ow e1 σ) F1 H1 F3 H3 := fun w st => (gr.trans (nw.g.imp fun _ z => z.elim)).trans (st.g.imp fun a z => ow a (w a z))
      have keepD : ∀ {F3 H3 : Hp} {e3 : DL.Env} {σ3 : L2.St}, (∀ a, Ow e2 σ3 a → Ow e' (wipe σ vs) a) → Step σ3 e2 F'' H'' e3 F3 H3 → H3 D = some (.lst accV) ∧ F3 D = none := fun w st => by
        have n : ¬ Ow e2 _ D := fun z => noOw (ow D (w D z))
        exact ⟨st.g.h D _ (nw.hs D _ hDl) n, st.g.n D _ (nw.hs D _ hDl) n (nw.g.n D _ hDl id hDF)⟩
      refine ⟨F'', e', d, e2, R'.news nw, dr, hgd, fun σ2 R2 only w2 => ⟨?_, F'', e2, R2, (sat_bindN q').imp fun b e3 q3 F3 H3 R3 st3 => ?_⟩⟩
      · rw [wipe_ext ⟨only.1, fun j hj => only.2 j fun z => hj (hv j z)⟩, wipe_wipe]
      · have wz : wipe σ2 vs = wipe σ vs := by rw [wipe_ext ⟨only.1, fun j hj => only.2 j fun z => hj (hv j z)⟩, wipe_wipe]
        dsimp only at q3
        cases b with
        | false =>
          rw [if_neg (by decide)] at q3
          by_cases hso : srcOk src e3
          · rw [if_pos hso] at q3
            obtain ⟨k1, k2⟩ := keepD w2 st3
            refine iteF ⟨F3, wipeE vs e3, acc, accV, ?_, grw w2 st3, fun a z => ?_, k1, k2, dra.mono (nw.g.f.trans st3.g.f), srcw _ hso, by omega, q3⟩
            · have := R3.wipe hfx
              rw [wz] at this
              exact this
            · have z' : Ow (wipeE vs e3) (wipe σ2 vs) a := by rw [wz]; exact z
              exact ow a (w2 a (st3.o a (ow_wipe z')))
          · rw [if_neg hso] at q3
            exact q3.elim
        | true =>
          rw [if_pos rfl] at q3
          refine iteT (tDD_fa σ2 H3 _ ⟨F3, e3, R3, (sat_bindN q3).imp fun dy e4 q4 vy F4 H4 R4 st4 dry => ?_⟩)
          dsimp only at q4
          by_cases hso : srcOk src e4
          · rw [if_pos hso] at q4
            have st34 := st3.trans st4
            obtain ⟨k1, k2⟩ := keepD w2 st34
            have nD : ¬ Ow (wipeE vs e4) (wipe σ vs) D := fun z => by
              have z' : Ow (wipeE vs e4) (wipe σ2 vs) D := by rw [wz]; exact z
              exact noOw (ow D (w2 D (st34.o D (ow_wipe z'))))
            refine ⟨accV, k1, ?_, F4, wipeE vs e4, acc ++ [dy], accV ++ [vy], ?_, (grw w2 st34).touch hD, fun a z => ?_, upd_same, k2, (dra.mono (nw.g.f.trans st34.g.f)).app (.one dry), srcw _ hso, ?_, ?_⟩
            · rw [dra.length, sizeLine_eq]
              have : i < ds.length := hi
              omega
            · have := R4.wipe hfx
              rw [wz] at this
              exact this.touch k2 hDb nD
            · have z' : Ow (wipeE vs e4) (wipe σ2 vs) a := by rw [wz]; exact z
              exact ow a (w2 a (st34.o a (ow_wipe z')))
            · rw [List.length_append]
              show acc.length + 1 ≤ i + 1
              omega
            · refine (Sat.of q4).imp fun ys e5 z v F5 H5 r5 s5 t5 => ?_
              rw [List.append_assoc] at t5
              exact z v F5 H5 r5 s5 t5
          · rw [if_neg hso] at q4
            exact q4.elim
  · rintro H' ⟨F', e', acc, accV, R', gr, ow, hDl, hDF, dra, so', la, q'⟩
    rw [List.drop_length] at q'
    have q' := (show ∀ v F2 H2, Rel B (restE vs e1 e') F2 H2 σ → Step σ env F H (restE vs e1 e') F2 H2 → TR B H F2 H2 σ (restE vs e1 e') v (.f (.lst (acc ++ []))) → Q v H2 from q')
    rw [List.append_nil] at q'
    have slots : ∀ v ∈ vs, ∀ t, slot e1 v = some t → t.mut = false ∧ ∃ u, σ[v]? = some (some u) ∧ SR B F' H' u t := by
      intro v hv t ht
      have := List.all_eq_true.mp ofr v hv
      rw [ht] at this
      cases t with
      | d d =>
        obtain ⟨u, h1, h2⟩ := R1.sl v _ (slot_some ht)
        exact ⟨rfl, u, h1, DR.mono gr.f h2⟩
      | o d => cases this
      | b d => cases this
    have Rz := R'.unwipe.rest slots hfx
    have owr : ∀ a, Ow (restE vs e1 e') σ a → Ow e1 σ a := by
      rintro a ⟨i, s, h1, h2, h3⟩
      by_cases hi : i ∈ vs
      · obtain ⟨u, g1, g2⟩ := Rz.sl i s h1
        have key : ∀ (ws : List Nat), i ∈ ws → (restE ws e1 e')[i]? = some (some s) → slot e1 i = some s := by
          intro ws
          induction ws with
          | nil => intro z; cases z
          | cons w ws ih =>
            intro z hh
            have hh : ((restE ws e1 e').set w (slot e1 w))[i]? = some (some s) := hh
            by_cases qq : w = i
            · subst qq
              by_cases li : w < (restE ws e1 e').length
              · rw [List.getElem?_set_self li] at hh
                exact Option.some.inj hh
              · rw [List.getElem?_eq_none (by rw [List.length_set]; omega)] at hh
                cases hh
            · rw [List.getElem?_set_ne qq] at hh
              rcases List.mem_cons.mp z with z | z
              · exact (qq z.symm).elim
              · exact ih z hh
        have := (slots i hi s (key vs hi h1)).1
        rw [h2] at this
        cases this
      · rw [restE_get hi] at h1
        exact ow a ⟨i, s, h1, h2, by rw [wipe_get hi]; exact h3⟩
    exact q' (.ref D) F' H' Rz (st1.trans ⟨gr, owr⟩) ⟨.lst hDF hDl dra, fun a ea => by
      cases ea
      exact ⟨fun z => noOw (owr _ z), st1.g.free hD⟩⟩
theorem de_lc {elt tg iter : Expr} {ifs : List Expr} {scope : Scope} {own : List (Str × Nat)} {pos : Pos} {mi : MIt} {gv : List Nat} {g : GT} {tt : MB} {te : ME} (hc : X.calm = true) (hN : X.N.Nodup) (hi : PI X tg iter (tDIt B W mi)) (ok : BlkOk X.N X.env.scope scope own)
    (hg : ∀ (s : Shared) (H : Hp) (C : Addr) (cl : List (Str × Addr)) (fp : List Addr), PG (X.blk s H scope (compEnvC scope cl C X.env) fp) tg (tDG B gv g)) (ht : ∀ (s : Shared) (H : Hp) (C : Addr) (cl : List (Str × Addr)) (fp : List Addr), PTs (X.blk s H scope (compEnvC scope cl C X.env) fp) ifs (tDB B WF tt))
    (he : ∀ (s : Shared) (H : Hp) (C : Addr) (cl : List (Str × Addr)) (fp : List Addr), PE (X.blk s H scope (compEnvC scope cl C X.env) fp) elt (tD B WF te))
    (hv : ∀ i ∈ gv, i ∈ own.map (·.2) := by decide) (hfx : (own.map (·.2)).all (fun v => B.fx.all (fun q => q.1 != v)) = true := by rfl)
    (hs : ∀ x, foldedSetIterable iter X.env x = pure x := by intro _; rfl) :
    PE X (.ListComp elt [⟨tg, iter, ifs, 0⟩] scope pos) (tD B W (mLc (own.map (·.2)) mi g tt te)) := by
  exact pe_imp (pe_lc hc hN hi ok hg ht he hs) fun σ H Q h => t_lc hv (List.all_eq_true.mp hfx) σ H Q h
/-- name = [..] -/
theorem ds_setLc (i : Nat) {y : Str} {py : Pos} {elt tg iter : Expr} {ifs : List Expr} {scope : Scope} {own : List (Str × Nat)} {pos spos : Pos} {mi : MIt} {gv : List Nat} {g : GT} {tt : MB} {te : ME} (hc : X.calm = true) (hN : X.N.Nodup) (hy : X.N[i]? = some y) (hyl : X.env.scope.names.lookup y = some .local)
    (hsw : swapsWith (.ListComp elt [⟨tg, iter, ifs, 0⟩] scope pos) (some (.Name y py)) spos.line X.env = pure true) (hi : PI X tg iter (tDIt B W mi)) (ok : BlkOk X.N X.env.scope scope own)
    (hg : ∀ (s : Shared) (H : Hp) (C : Addr) (cl : List (Str × Addr)) (fp : List Addr), PG (X.blk s H scope (compEnvC scope cl C X.env) fp) tg (tDG B gv g)) (ht : ∀ (s : Shared) (H : Hp) (C : Addr) (cl : List (Str × Addr)) (fp : List Addr), PTs (X.blk s H scope (compEnvC scope cl C X.env) fp) ifs (tDB B WF tt))
    (he : ∀ (s : Shared) (H : Hp) (C : Addr) (cl : List (Str × Addr)) (fp : List Addr), PE (X.blk s H scope (compEnvC scope cl C X.env) fp) elt (tD B WF te))
    (hb : B.fx.all (fun q => q.1 != i) = true := by rfl) (hv : ∀ i ∈ gv, i ∈ own.map (·.2) := by decide) (hfx : (own.map (·.2)).all (fun v => B.fx.all (fun q => q.1 != v)) = true := by rfl)
    (hs : ∀ x, foldedSetIterable iter X.env x = pure x := by intro _; rfl) :
    PS X (.Assign [.Name y py] (.ListComp elt [⟨tg, iter, ifs, 0⟩] scope pos) spos) (tDS B W (mSet i (mLc (own.map (·.2)) mi g tt te))) := by
  refine ps_imp (ps_setLc hc hN hy hyl hsw hi ok hg ht he hs) fun Dn σ H h => ?_
  obtain ⟨F, env, R, S⟩ := h
  refine t_lc hv (List.all_eq_true.mp hfx) σ H _ (tDN_of σ H _ ⟨F, env, R, (SatS.of S).imp fun s e q v F' H' R' st tr => ?_⟩)
  by_cases hl : i < e.length
  · simp only [hl, if_true] at q
    exact q _ F' H' (R'.set (tr.sr R' fun a z => R.base z) hl hb tr.ow) st.g.f
  · simp only [hl, if_false] at q
    exact q.elim
theorem dts_nil : PTs X [] (tDB B W mYes) := ⟨fun pins s σ H Q I h => by
  obtain ⟨F, env, R, S⟩ := h
  exact pts_nil.run pins s σ H Q I (S F H R (.refl _ _ _ _))⟩
theorem dts_one {c : Expr} {m : MB} (h : PT X c (tDB B W m)) : PTs X [c] (tDB B W m) := pts_one h
end
end DL
set_option Elab.async false
set_option linter.all false
set_option maxRecDepth 100000
set_option maxHeartbeats 4000000
namespace DL
open PySem PySem.Spec PyProof.Rows L2 Own
/-! ### operations on trees -/
theorem FT.vd {K : PySem.W.Frag} {cl : Str → Addr} {F' H' H : Hp} {v : V} {d : D} (h : DR K cl F' v d) : FT K cl F' H' H v (.v d) := h
section
variable {X : Cx} {K : PySem.W.Frag} {cl : Str → Addr}
/-- a new list, that of ds -/
theorem new_lst {F H : Hp} {p : Addr} {vs : List V} {ds : List D} (s : Same F H) (hp : H p = none) (r : DRs K cl F vs ds) : News F H F (upd H p (.lst vs)) ∧ FT K cl F (upd H p (.lst vs)) H (.ref p) (.f (.lst ds)) :=
  ⟨.new s hp, .lst (s.free hp) upd_same r, fun a ea => by cases ea; exact hp⟩
theorem new_tup {F H : Hp} {p : Addr} {vs : List V} {ds : List D} (s : Same F H) (hp : H p = none) (r : DRs K cl F vs ds) : News F H (upd F p (.tup vs)) (upd H p (.tup vs)) ∧ FT K cl (upd F p (.tup vs)) (upd H p (.tup vs)) H (.ref p) (.v (.tup ds)) :=
  have n : News F H (upd F p (.tup vs)) (upd H p (.tup vs)) := .frz s hp
  ⟨n, .tup (.of upd_same) (r.mono n.g.f)⟩
def b2d (k : Bool) : Int := if k then 1 else 0
def addD : D → D → Option T
  | .int i, .int j => some (.v (.int (i + j)))
  | .str x, .str y => if x.length + y.length ≤ sizeLine then some (.v (.str (x ++ y))) else none
  | .lst xs, .lst ys => if xs.length + ys.length ≤ sizeLine then some (.f (.lst (xs ++ ys))) else none
  | .tup xs, .tup ys => if xs ≠ [] ∧ xs.length + ys.length ≤ sizeLine then some (.v (.tup (xs ++ ys))) else none
  | _, _ => none
theorem opd_add (hK : X.K = K) : OpR X (binaryOp .Add) (r2D K cl addD) := by
  subst hK
  intro pins s σ H x y v u Q I rx ry h
  obtain ⟨F, a, b, t, sF, ha, hb, e, q⟩ := h
  cases ha with
  | int =>
    cases hb with
    | int => cases e; exact op_add pins s σ H _ _ v u Q I rx ry ⟨_, _, rfl, rfl, q _ F H (.refl sF) .int⟩
    | _ => cases e
  | @str x =>
    cases hb with
    | @str y =>
      have e : (if x.length + y.length ≤ sizeLine then some (T.v (.str (x ++ y))) else none) = some t := e
      split at e
      · cases e
        rename_i hl
        exact op_add_str pins s σ H _ _ v u Q I rx ry ⟨_, _, rfl, rfl, hl, q _ F H (.refl sF) .str⟩
      · cases e
    | _ => cases e
  | @lst a vs xs h1 h2 =>
    cases hb with
    | @lst b us ys g1 g2 =>
      have e : (if xs.length + ys.length ≤ sizeLine then some (T.f (.lst (xs ++ ys))) else none) = some t := e
      split at e
      · cases e
        rename_i hl
        refine op_cat pins s σ H _ _ v u Q I rx ry ⟨a, b, vs, us, rfl, rfl, h1, g1, by rw [h2.length, g2.length]; exact hl, fun p hp => ?_⟩
        obtain ⟨n, ft⟩ := new_lst sF hp (h2.app g2)
        exact q _ _ _ n ft
      · cases e
    | _ => cases e
  | @tup a vs xs h1 h2 =>
    cases hb with
    | @tup b us ys g1 g2 =>
      have e : (if xs ≠ [] ∧ xs.length + ys.length ≤ sizeLine then some (T.v (.tup (xs ++ ys))) else none) = some t := e
      split at e
      · cases e
        rename_i hl
        refine op_catT pins s σ H _ _ v u Q I rx ry ⟨a, b, vs, us, rfl, rfl, sqt_same sF h1, sqt_same sF g1, fun z => ?_, by rw [h2.length, g2.length]; exact hl.2, fun z => ?_, fun _ p hp => ?_⟩
        · have := h2.length
          rw [z] at this
          exact hl.1 (List.length_eq_zero_iff.mp this.symm)
        · subst z
          cases g2
          refine q _ F H (.refl sF) ?_
          rw [List.append_nil]
          exact .tup h1 h2
        · obtain ⟨n, ft⟩ := new_tup sF hp (h2.app g2)
          exact q _ _ _ n ft
      · cases e
    | _ => cases e
  | _ => cases e
def subD : D → D → Option T
  | .int i, .int j => some (.v (.int (i - j)))
  | _, _ => none
theorem opd_sub : OpR X (binaryOp .Sub) (r2D K cl subD) := by
  intro pins s σ H x y v u Q I rx ry h
  obtain ⟨F, a, b, t, sF, ha, hb, e, q⟩ := h
  cases ha with
  | int =>
    cases hb with
    | int => cases e; exact op_sub pins s σ H _ _ v u Q I rx ry ⟨_, _, rfl, rfl, q _ F H (.refl sF) .int⟩
    | _ => cases e
  | _ => cases e
def MulOk (i j : Int) : Prop := CMul i j ∨ CMulW i j
theorem DRs.rep {F : Hp} {vs : List V} {ds : List D} (h : DRs K cl F vs ds) : ∀ n : Nat, DRs K cl F (List.replicate n vs).flatten (List.replicate n ds).flatten
  | 0 => .nil
  | n + 1 => by
    rw [List.replicate_succ, List.replicate_succ, List.flatten_cons, List.flatten_cons]
    exact h.app (DRs.rep h n)
open Classical in
noncomputable def mulD : D → D → Option T
  | .int i, .int j => if MulOk i j then some (.v (.int (i * j))) else none
  | .lst xs, .int k => if -(2 ^ 63) ≤ k ∧ k < 2 ^ 63 ∧ xs.length * k.toNat ≤ sizeLine then some (.f (.lst (List.replicate k.toNat xs).flatten)) else none
  | .str z, .int i => if z.length ≤ 1 ∧ 0 ≤ i ∧ i ≤ 100000 then some (.v (.str (Txt.mul z i))) else none
  | _, _ => none
theorem opd_mul : OpR X (binaryOp .Mult) (r2D K cl mulD) := by
  intro pins s σ H x y v u Q I rx ry h
  obtain ⟨F, a, b, t, sF, ha, hb, e, q⟩ := h
  cases ha with
  | @int i =>
    cases hb with
    | @int j =>
      unfold mulD at e
      dsimp only at e
      split at e
      · cases e
        rename_i hm
        rcases hm with hm | hm
        · exact op_mul pins s σ H _ _ v u Q I rx ry ⟨_, _, rfl, rfl, hm, q _ F H (.refl sF) .int⟩
        · exact op_mulW pins s σ H _ _ v u Q I rx ry ⟨_, _, rfl, rfl, hm, q _ F H (.refl sF) .int⟩
      · cases e
    | _ => cases e
  | @lst a vs xs h1 h2 =>
    cases hb with
    | @int k =>
      unfold mulD at e
      dsimp only at e
      split at e
      · cases e
        rename_i hm
        refine op_rep pins s σ H _ _ v u Q I rx ry ⟨a, k, vs, rfl, rfl, h1, hm.1, hm.2.1, by rw [h2.length]; exact hm.2.2, fun p hp => ?_⟩
        obtain ⟨n, ft⟩ := new_lst sF hp (h2.rep k.toNat)
        exact q _ _ _ n ft
      · cases e
    | _ => cases e
  | @str z =>
    cases hb with
    | @int k =>
      unfold mulD at e
      dsimp only at e
      split at e
      · cases e
        rename_i hm
        exact op_mulS pins s σ H _ _ v u Q I rx ry ⟨_, _, rfl, rfl, hm.1, hm.2.1, hm.2.2, q _ F H (.refl sF) .str⟩
      · cases e
    | _ => cases e
  | _ => cases e
open Classical in
noncomputable def fdivD : D → D → Option T
  | .int i, .int j => if CDivW i j then some (.v (.int (i / j))) else none
  | _, _ => none
theorem opd_fdiv : OpR X (binaryOp .FloorDiv) (r2D K cl fdivD) := by
  intro pins s σ H x y v u Q I rx ry h
  obtain ⟨F, a, b, t, sF, ha, hb, e, q⟩ := h
  cases ha with
  | @int i =>
    cases hb with
    | @int j =>
      unfold fdivD at e
      dsimp only at e
      split at e
      · cases e
        rename_i hm
        exact op_fdivW pins s σ H _ _ v u Q I rx ry ⟨_, _, rfl, rfl, hm, q _ F H (.refl sF) .int⟩
      · cases e
    | _ => cases e
  | _ => cases e
def modD : D → D → Option T
  | .int i, .int j => if 0 < j then some (.v (.int (i % j))) else none
  | _, _ => none
theorem opd_mod : OpR X (binaryOp .Mod) (r2D K cl modD) := by
  intro pins s σ H x y v u Q I rx ry h
  obtain ⟨F, a, b, t, sF, ha, hb, e, q⟩ := h
  cases ha with
  | @int i =>
    cases hb with
    | @int j =>
      unfold modD at e
      dsimp only at e
      split at e
      · cases e
        rename_i hm
        exact op_mod pins s σ H _ _ v u Q I rx ry ⟨_, _, rfl, rfl, hm, q _ F H (.refl sF) .int⟩
      · cases e
    | _ => cases e
  | _ => cases e
open Classical in
noncomputable def powD : D → D → Option T
  | .int i, .int j => if CPow i j then some (.v (.int (i ^ j.toNat))) else none
  | _, _ => none
theorem opd_pow : OpR X (binaryOp .Pow) (r2D K cl powD) := by
  intro pins s σ H x y v u Q I rx ry h
  obtain ⟨F, a, b, t, sF, ha, hb, e, q⟩ := h
  cases ha with
  | @int i =>
    cases hb with
    | @int j =>
      unfold powD at e
      dsimp only at e
      split at e
      · cases e
        rename_i hm
        exact op_pow pins s σ H _ _ v u Q I rx ry ⟨_, _, rfl, rfl, hm, q _ F H (.refl sF) .int⟩
      · cases e
    | _ => cases e
  | _ => cases e
open Classical in
noncomputable def shlD : D → D → Option T
  | .int i, .int j => if CPow i j then some (.v (.int (i * 2 ^ j.toNat))) else none
  | _, _ => none
theorem opd_shl : OpR X (binaryOp .LShift) (r2D K cl shlD) := by
  intro pins s σ H x y v u Q I rx ry h
  obtain ⟨F, a, b, t, sF, ha, hb, e, q⟩ := h
  cases ha with
  | @int i =>
    cases hb with
    | @int j =>
      unfold shlD at e
      dsimp only at e
      split at e
      · cases e
        rename_i hm
        exact op_shl pins s σ H _ _ v u Q I rx ry ⟨_, _, rfl, rfl, hm, q _ F H (.refl sF) .int⟩
      · cases e
    | _ => cases e
  | _ => cases e
def shrD : D → D → Option T
  | .int i, .int j => if 0 ≤ j then some (.v (.int (i / 2 ^ j.toNat))) else none
  | _, _ => none
theorem opd_shr : OpR X (binaryOp .RShift) (r2D K cl shrD) := by
  intro pins s σ H x y v u Q I rx ry h
  obtain ⟨F, a, b, t, sF, ha, hb, e, q⟩ := h
  cases ha with
  | @int i =>
    cases hb with
    | @int j =>
      unfold shrD at e
      dsimp only at e
      split at e
      · cases e
        rename_i hm
        exact op_shr pins s σ H _ _ v u Q I rx ry ⟨_, _, rfl, rfl, hm, q _ F H (.refl sF) .int⟩
      · cases e
    | _ => cases e
  | _ => cases e
def negD : D → Option T
  | .int i => some (.v (.int (-i)))
  | _ => none
theorem und_neg : UnR X (unaryOp .USub) (r1D K cl negD) := by
  intro pins s σ H x v Q I rx h
  obtain ⟨F, a, t, sF, ha, e, q⟩ := h
  cases ha with
  | @int i => cases e; exact un_neg pins s σ H _ v Q I rx ⟨_, rfl, q _ F H (.refl sF) .int⟩
  | _ => cases e
theorem de_un {B : Bs} {W : WX} {op : UnaryOp} {f : D → Option DL.T} {a : Expr} {m : ME} {pos : Pos} (ho : UnR X (unaryOp op) (r1D B.K B.cl f)) (ha : PE X a (tD B W m)) : PE X (.UnaryOp op a pos) (tD B W (mUn f m)) := pe_imp (pe_un ho ha) fun _ => t_un
end

/-! ### comparisons -/
mutual
def py : D → Option PyData
  | .non => some .none
  | .bl b => some (.bool b)
  | .int i => some (.int i)
  | .str x => some (.str x)
  | .lst ds => (pys ds).map .list
  | .tup ds => (pys ds).map .tuple
  | _ => none
def pys : List D → Option (List PyData)
  | [] => some []
  | d :: ds => match py d, pys ds with
    | some p, some ps => some (p :: ps)
    | _, _ => none
end
section
variable {K : PySem.W.Frag} {cl : Str → Addr} {F : Hp}
mutual
theorem py_dp : ∀ {d : D} {p : PyData} {v : V}, DR K cl F v d → py d = some p → Dp K F v p
  | .non, _, _, h, e => by cases h; simp only [py] at e; cases e; exact .non
  | .bl b, _, _, h, e => by cases h; simp only [py] at e; cases e; exact .bl b
  | .int i, _, _, h, e => by cases h; simp only [py] at e; cases e; exact .int i
  | .str x, _, _, h, e => by cases h; simp only [py] at e; cases e; exact .str x
  | .lst ds, _, _, h, e => by
    cases h with
    | lst a b =>
      simp only [py] at e
      obtain ⟨ps, e1, rfl⟩ := Option.map_eq_some_iff.mp e
      exact .lst (.of a) (pys_dp b e1)
  | .tup ds, _, _, h, e => by
    cases h with
    | tup a b =>
      simp only [py] at e
      obtain ⟨ps, e1, rfl⟩ := Option.map_eq_some_iff.mp e
      exact .tup a (pys_dp b e1)
  | .ty _, _, _, _, e => by simp only [py] at e; cases e
  | .cls _, _, _, _, e => by simp only [py] at e; cases e
  | .dic _, _, _, _, e => by simp only [py] at e; cases e
  | .ins _ _, _, _, _, e => by simp only [py] at e; cases e
theorem pys_dp : ∀ {ds : List D} {ps : List PyData} {vs : List V}, DRs K cl F vs ds → pys ds = some ps → DpAll K F vs ps
  | [], _, _, h, e => by cases h; simp only [pys] at e; cases e; exact .nil
  | d :: ds, _, _, h, e => by
    cases h with
    | cons a b =>
      simp only [pys] at e
      cases e1 : py d with
      | none => rw [e1] at e; cases e
      | some p =>
        cases e2 : pys ds with
        | none => rw [e1, e2] at e; cases e
        | some ps =>
          rw [e1, e2] at e
          cases e
          exact .cons (py_dp a e1) (pys_dp b e2)
end
end
def scD : D → Option V
  | .non => some .non
  | .bl b => some (.bl b)
  | .int i => some (.int i)
  | .str x => some (.str x)
  | _ => none
/-- == of data, of texts and numbers -/
def eqB (a b : D) : Option Bool := match scD a, scD b with
  | some x, some y => if scal x y = true then some (decide (x = y)) else match py a, py b with
    | some p, some q => if SeqAt.shaped p = true ∧ SeqAt.shaped q = true then some (PyData.eqv p q) else none
    | _, _ => none
  | _, _ => match py a, py b with
    | some p, some q => if SeqAt.shaped p = true ∧ SeqAt.shaped q = true then some (PyData.eqv p q) else none
    | _, _ => none
def eqD (a b : D) : Option T := (eqB a b).map fun c => .v (.bl c)
def neD (a b : D) : Option T := (eqB a b).map fun c => .v (.bl !c)
section
variable {X : Cx} {K : PySem.W.Frag} {cl : Str → Addr}
theorem scD_dr {F H : Hp} {v : V} {d : D} {x : V} (h : DRt K cl F H v d) (e : scD d = some x) : v = x := by
  cases h <;> first | (cases e; rfl) | cases e
theorem eqB_cases {F H : Hp} {x y : V} {a b : D} {c : Bool} (sF : Same F H) (ha : DRt K cl F H x a) (hb : DRt K cl F H y b) (e : eqB a b = some c) :
    (scal x y = true ∧ decide (x = y) = c) ∨ ∃ p q, Dp K H x p ∧ Dp K H y q ∧ SeqAt.shaped p = true ∧ SeqAt.shaped q = true ∧ PyData.eqv p q = c := by
  have rest : (match py a, py b with
    | some p, some q => if SeqAt.shaped p = true ∧ SeqAt.shaped q = true then some (PyData.eqv p q) else none
    | _, _ => none) = some c → ∃ p q, Dp K H x p ∧ Dp K H y q ∧ SeqAt.shaped p = true ∧ SeqAt.shaped q = true ∧ PyData.eqv p q = c := by
    intro e
    cases e1 : py a with
    | none => simp only [e1] at e; cases e
    | some p =>
      cases e2 : py b with
      | none => simp only [e1, e2] at e; cases e
      | some q =>
        simp only [e1, e2] at e
        split at e
        · rename_i hs
          cases e
          exact ⟨p, q, py_dp (ha.dr sF) e1, py_dp (hb.dr sF) e2, hs.1, hs.2, rfl⟩
        · cases e
  unfold eqB at e
  cases h1 : scD a with
  | none => simp only [h1] at e; exact .inr (rest e)
  | some x' =>
    cases h2 : scD b with
    | none => simp only [h1, h2] at e; exact .inr (rest e)
    | some y' =>
      simp only [h1, h2] at e
      split at e
      · rename_i hs
        cases e
        rw [scD_dr ha h1, scD_dr hb h2]
        exact .inl ⟨hs, rfl⟩
      · exact .inr (rest e)
theorem opd_eq (hK : X.K = K) (hu : X.A.units + 64 < cLine) : OpR X (compareOp .Eq) (r2D K cl eqD) := by
  subst hK
  intro pins s σ H x y v u Q I rx ry h
  obtain ⟨F, a, b, t, sF, ha, hb, e, q⟩ := h
  obtain ⟨c, ec, rfl⟩ := Option.map_eq_some_iff.mp e
  rcases eqB_cases sF ha hb ec with ⟨h1, rfl⟩ | ⟨p, r, h1, h2, h3, h4, rfl⟩
  · exact op_eq pins s σ H _ _ v u Q I rx ry ⟨h1, q _ F H (.refl sF) .bl⟩
  · exact op_eqD hu pins s σ H _ _ v u Q I rx ry ⟨p, r, h1, h2, h3, h4, q _ F H (.refl sF) .bl⟩
theorem opd_ne (hK : X.K = K) (hu : X.A.units + 64 < cLine) : OpR X (compareOp .NotEq) (r2D K cl neD) := by
  subst hK
  intro pins s σ H x y v u Q I rx ry h
  obtain ⟨F, a, b, t, sF, ha, hb, e, q⟩ := h
  obtain ⟨c, ec, rfl⟩ := Option.map_eq_some_iff.mp e
  rcases eqB_cases sF ha hb ec with ⟨h1, rfl⟩ | ⟨p, r, h1, h2, h3, h4, rfl⟩
  · exact op_ne pins s σ H _ _ v u Q I rx ry ⟨h1, q _ F H (.refl sF) .bl⟩
  · exact op_neD hu pins s σ H _ _ v u Q I rx ry ⟨p, r, h1, h2, h3, h4, q _ F H (.refl sF) .bl⟩
def ltD : D → D → Option T
  | .int i, .int j => some (.v (.bl (decide (i < j))))
  | .str i, .str j => some (.v (.bl (decide (i.cps.toList < j.cps.toList))))
  | _, _ => none
def leD : D → D → Option T
  | .int i, .int j => some (.v (.bl (decide (i ≤ j))))
  | .str i, .str j => some (.v (.bl (!decide (j.cps.toList < i.cps.toList))))
  | _, _ => none
def gtD : D → D → Option T
  | .int i, .int j => some (.v (.bl (decide (j < i))))
  | .str i, .str j => some (.v (.bl (decide (j.cps.toList < i.cps.toList))))
  | _, _ => none
def geD : D → D → Option T
  | .int i, .int j => some (.v (.bl (decide (j ≤ i))))
  | .str i, .str j => some (.v (.bl (!decide (i.cps.toList < j.cps.toList))))
  | _, _ => none
theorem opd_lt : OpR X (compareOp .Lt) (r2D K cl ltD) := by
  intro pins s σ H x y v u Q I rx ry h
  obtain ⟨F, a, b, t, sF, ha, hb, e, q⟩ := h
  cases ha with
  | int =>
    cases hb with
    | int => cases e; exact op_lt pins s σ H _ _ v u Q I rx ry ⟨_, _, rfl, rfl, q _ F H (.refl sF) .bl⟩
    | _ => cases e
  | str =>
    cases hb with
    | str => cases e; exact op_lt_str pins s σ H _ _ v u Q I rx ry ⟨_, _, rfl, rfl, q _ F H (.refl sF) .bl⟩
    | _ => cases e
  | _ => cases e
theorem opd_le : OpR X (compareOp .LtE) (r2D K cl leD) := by
  intro pins s σ H x y v u Q I rx ry h
  obtain ⟨F, a, b, t, sF, ha, hb, e, q⟩ := h
  cases ha with
  | int =>
    cases hb with
    | int => cases e; exact op_le pins s σ H _ _ v u Q I rx ry ⟨_, _, rfl, rfl, q _ F H (.refl sF) .bl⟩
    | _ => cases e
  | str =>
    cases hb with
    | str => cases e; exact op_le_str pins s σ H _ _ v u Q I rx ry ⟨_, _, rfl, rfl, q _ F H (.refl sF) .bl⟩
    | _ => cases e
  | _ => cases e
theorem opd_gt : OpR X (compareOp .Gt) (r2D K cl gtD) := by
  intro pins s σ H x y v u Q I rx ry h
  obtain ⟨F, a, b, t, sF, ha, hb, e, q⟩ := h
  cases ha with
  | int =>
    cases hb with
    | int => cases e; exact op_gt pins s σ H _ _ v u Q I rx ry ⟨_, _, rfl, rfl, q _ F H (.refl sF) .bl⟩
    | _ => cases e
  | str =>
    cases hb with
    | str => cases e; exact op_gt_str pins s σ H _ _ v u Q I rx ry ⟨_, _, rfl, rfl, q _ F H (.refl sF) .bl⟩
    | _ => cases e
  | _ => cases e
theorem opd_ge : OpR X (compareOp .GtE) (r2D K cl geD) := by
  intro pins s σ H x y v u Q I rx ry h
  obtain ⟨F, a, b, t, sF, ha, hb, e, q⟩ := h
  cases ha with
  | int =>
    cases hb with
    | int => cases e; exact op_ge pins s σ H _ _ v u Q I rx ry ⟨_, _, rfl, rfl, q _ F H (.refl sF) .bl⟩
    | _ => cases e
  | str =>
    cases hb with
    | str => cases e; exact op_ge_str pins s σ H _ _ v u Q I rx ry ⟨_, _, rfl, rfl, q _ F H (.refl sF) .bl⟩
    | _ => cases e
  | _ => cases e
def isNon : D → Bool
  | .non => true
  | _ => false
def isD : D → D → Option T
  | a, .non => some (.v (.bl (isNon a)))
  | _, _ => none
def isnD : D → D → Option T
  | a, .non => some (.v (.bl (!isNon a)))
  | _, _ => none
theorem non_iff {F H : Hp} {v : V} {d : D} (h : DRt K cl F H v d) : decide (v = .non) = isNon d := by
  cases h <;> rfl
theorem opd_is : OpR X (compareOp .Is) (r2D K cl isD) := by
  intro pins s σ H x y v u Q I rx ry h
  obtain ⟨F, a, b, t, sF, ha, hb, e, q⟩ := h
  cases hb with
  | non =>
    have e : some (T.v (.bl (isNon a))) = some t := by cases a <;> exact e
    cases e
    exact op_isN pins s σ H _ _ v u Q I rx ry ⟨rfl, by rw [non_iff ha]; exact q _ F H (.refl sF) .bl⟩
  | _ => cases a <;> cases e
theorem opd_isn : OpR X (compareOp .IsNot) (r2D K cl isnD) := by
  intro pins s σ H x y v u Q I rx ry h
  obtain ⟨F, a, b, t, sF, ha, hb, e, q⟩ := h
  cases hb with
  | non =>
    have e : some (T.v (.bl (!isNon a))) = some t := by cases a <;> exact e
    cases e
    exact op_notN pins s σ H _ _ v u Q I rx ry ⟨rfl, by rw [non_iff ha]; exact q _ F H (.refl sF) .bl⟩
  | _ => cases a <;> cases e
end
end DL
set_option Elab.async false
set_option linter.all false
set_option maxRecDepth 100000
set_option maxHeartbeats 4000000
namespace DL
open PySem PySem.Spec PyProof.Rows L2 Own
/-! ### built-in functions -/
def intsOf : List D → Option (List Int)
  | [] => some []
  | .int i :: ds => (intsOf ds).map (i :: ·)
  | _ => none
def strsOf : List D → Option (List Str)
  | [] => some []
  | .str i :: ds => (strsOf ds).map (i :: ·)
  | _ => none
def blsOf : List D → Option (List Bool)
  | [] => some []
  | .bl i :: ds => (blsOf ds).map (i :: ·)
  | _ => none
theorem intsOf_eq : ∀ {ds : List D} {ns : List Int}, intsOf ds = some ns → ds = ns.map D.int
  | [], _, e => by cases e; rfl
  | .int i :: ds, _, e => by
    obtain ⟨ns, h, rfl⟩ := Option.map_eq_some_iff.mp (show (intsOf ds).map (i :: ·) = some _ from e)
    rw [intsOf_eq h]
    rfl
  | .non :: _, _, e => by cases e
  | .bl _ :: _, _, e => by cases e
  | .str _ :: _, _, e => by cases e
  | .ty _ :: _, _, e => by cases e
  | .cls _ :: _, _, e => by cases e
  | .lst _ :: _, _, e => by cases e
  | .tup _ :: _, _, e => by cases e
  | .dic _ :: _, _, e => by cases e
  | .ins _ _ :: _, _, e => by cases e
theorem strsOf_eq : ∀ {ds : List D} {ns : List Str}, strsOf ds = some ns → ds = ns.map D.str
  | [], _, e => by cases e; rfl
  | .str i :: ds, _, e => by
    obtain ⟨ns, h, rfl⟩ := Option.map_eq_some_iff.mp (show (strsOf ds).map (i :: ·) = some _ from e)
    rw [strsOf_eq h]
    rfl
  | .non :: _, _, e => by cases e
  | .bl _ :: _, _, e => by cases e
  | .int _ :: _, _, e => by cases e
  | .ty _ :: _, _, e => by cases e
  | .cls _ :: _, _, e => by cases e
  | .lst _ :: _, _, e => by cases e
  | .tup _ :: _, _, e => by cases e
  | .dic _ :: _, _, e => by cases e
  | .ins _ _ :: _, _, e => by cases e
theorem blsOf_eq : ∀ {ds : List D} {ns : List Bool}, blsOf ds = some ns → ds = ns.map D.bl
  | [], _, e => by cases e; rfl
  | .bl i :: ds, _, e => by
    obtain ⟨ns, h, rfl⟩ := Option.map_eq_some_iff.mp (show (blsOf ds).map (i :: ·) = some _ from e)
    rw [blsOf_eq h]
    rfl
  | .non :: _, _, e => by cases e
  | .str _ :: _, _, e => by cases e
  | .int _ :: _, _, e => by cases e
  | .ty _ :: _, _, e => by cases e
  | .cls _ :: _, _, e => by cases e
  | .lst _ :: _, _, e => by cases e
  | .tup _ :: _, _, e => by cases e
  | .dic _ :: _, _, e => by cases e
  | .ins _ _ :: _, _, e => by cases e
@[simp] theorem intsOf_map (ns : List Int) : intsOf (ns.map D.int) = some ns := by
  induction ns with
  | nil => rfl
  | cons n ns ih =>
    show (intsOf (ns.map D.int)).map (n :: ·) = _
    rw [ih]
    rfl
@[simp] theorem strsOf_map (ns : List Str) : strsOf (ns.map D.str) = some ns := by
  induction ns with
  | nil => rfl
  | cons n ns ih =>
    show (strsOf (ns.map D.str)).map (n :: ·) = _
    rw [ih]
    rfl
@[simp] theorem blsOf_map (ns : List Bool) : blsOf (ns.map D.bl) = some ns := by
  induction ns with
  | nil => rfl
  | cons n ns ih =>
    show (blsOf (ns.map D.bl)).map (n :: ·) = _
    rw [ih]
    rfl
def lenD : D → Option T
  | .str x => if x.length ≤ sizeLine then some (.v (.int (x.length : Nat))) else none
  | .lst ds => some (.v (.int (ds.length : Nat)))
  | .tup ds => some (.v (.int (ds.length : Nat)))
  | _ => none
def absD : D → Option T
  | .int i => some (.v (.int (if i < 0 then -i else i)))
  | _ => none
/-- int(x) -/
def intD : D → Option T
  | .int i => some (.v (.int i))
  | .bl k => some (.v (.int (if k then 1 else 0)))
  | _ => none
/-- bool(x) -/
def boolD : D → Option T
  | .int i => some (.v (.bl (i != 0)))
  | .bl k => some (.v (.bl k))
  | _ => none
/-- str(x) -/
def strD : D → Option T
  | .int i => if i.natAbs.log2 < 1920 then some (.v (.str (toString i))) else none
  | _ => none
def listD : D → Option T
  | .lst ds => some (.f (.lst ds))
  | .tup ds => some (.f (.lst ds))
  | _ => none
def tupleD : D → Option T
  | .lst ds => some (.v (.tup ds))
  | .tup ds => some (.v (.tup ds))
  | _ => none
def sumD : D → Option T
  | .lst ds => (intsOf ds).map fun ns => .v (.int ns.sum)
  | _ => none
def maxI : List Int → Int
  | [] => 0
  | n :: ns => ns.foldl (fun a b => if a < b then b else a) n
def minI : List Int → Int
  | [] => 0
  | n :: ns => ns.foldl (fun a b => if b < a then b else a) n
theorem maxI_go : ∀ (ns : List Int) (a : Int), (ns.foldl (fun a b => if a < b then b else a) a ∈ a :: ns) ∧ ∀ y ∈ a :: ns, y ≤ ns.foldl (fun a b => if a < b then b else a) a
  | [], a => ⟨by simp, fun y hy => by simp at hy; subst hy; exact Int.le_refl _⟩
  | n :: ns, a => by
    rw [List.foldl_cons]
    obtain ⟨h1, h2⟩ := maxI_go ns (if a < n then n else a)
    by_cases q : a < n
    · rw [if_pos q] at h1 h2 ⊢
      refine ⟨List.mem_cons_of_mem _ h1, fun y hy => ?_⟩
      rcases List.mem_cons.mp hy with rfl | hy
      · have := h2 n List.mem_cons_self
        omega
      · exact h2 y hy
    · rw [if_neg q] at h1 h2 ⊢
      refine ⟨?_, fun y hy => ?_⟩
      · rcases List.mem_cons.mp h1 with h | h
        · rw [h]; exact List.mem_cons_self
        · exact List.mem_cons_of_mem _ (List.mem_cons_of_mem _ h)
      · rcases List.mem_cons.mp hy with rfl | hy
        · exact h2 _ List.mem_cons_self
        · rcases List.mem_cons.mp hy with rfl | hy
          · have := h2 a List.mem_cons_self
            omega
          · exact h2 y (List.mem_cons_of_mem _ hy)
theorem minI_go : ∀ (ns : List Int) (a : Int), (ns.foldl (fun a b => if b < a then b else a) a ∈ a :: ns) ∧ ∀ y ∈ a :: ns, ns.foldl (fun a b => if b < a then b else a) a ≤ y
  | [], a => ⟨by simp, fun y hy => by simp at hy; subst hy; exact Int.le_refl _⟩
  | n :: ns, a => by
    rw [List.foldl_cons]
    obtain ⟨h1, h2⟩ := minI_go ns (if n < a then n else a)
    by_cases q : n < a
    · rw [if_pos q] at h1 h2 ⊢
      refine ⟨List.mem_cons_of_mem _ h1, fun y hy => ?_⟩
      rcases List.mem_cons.mp hy with rfl | hy
      · have := h2 n List.mem_cons_self
        omega
      · exact h2 y hy
    · rw [if_neg q] at h1 h2 ⊢
      refine ⟨?_, fun y hy => ?_⟩
      · rcases List.mem_cons.mp h1 with h | h
        · rw [h]; exact List.mem_cons_self
        · exact List.mem_cons_of_mem _ (List.mem_cons_of_mem _ h)
      · rcases List.mem_cons.mp hy with rfl | hy
        · exact h2 _ List.mem_cons_self
        · rcases List.mem_cons.mp hy with rfl | hy
          · have := h2 a List.mem_cons_self
            omega
          · exact h2 y (List.mem_cons_of_mem _ hy)
theorem maxI_mem {ns : List Int} (h : 0 < ns.length) : maxI ns ∈ ns ∧ ∀ y ∈ ns, y ≤ maxI ns := by
  cases ns with
  | nil => cases h
  | cons n ns => exact maxI_go ns n
theorem minI_mem {ns : List Int} (h : 0 < ns.length) : minI ns ∈ ns ∧ ∀ y ∈ ns, minI ns ≤ y := by
  cases ns with
  | nil => cases h
  | cons n ns => exact minI_go ns n
def maxD : D → Option T
  | .lst ds => (intsOf ds).bind fun ns => if 0 < ns.length then some (.v (.int (maxI ns))) else none
  | _ => none
def minD : D → Option T
  | .lst ds => (intsOf ds).bind fun ns => if 0 < ns.length then some (.v (.int (minI ns))) else none
  | _ => none
def anyD : D → Option T
  | .lst ds => (blsOf ds).map fun bs => .v (.bl (bs.any id))
  | _ => none
def allD : D → Option T
  | .lst ds => (blsOf ds).map fun bs => .v (.bl (bs.all id))
  | _ => none
def reprD (d : D) : Option T := match py d with
  | some p => if p.showable = true ∧ p.hasDict = false ∧ p.depth ≤ 60 ∧ p.shown.length ≤ sizeLine then some (.v (.str p.shown)) else none
  | none => none
def gcdD : D → D → Option T
  | .int a, .int b => some (.v (.int ((Nat.gcd a.natAbs b.natAbs : Nat) : Int)))
  | _, _ => none
/-- the texts in order -/
def srtS (zs : List Str) : List Str := zs.mergeSort fun x y => !decide (y.cps.toList < x.cps.toList)
def srtI (ns : List Int) : List Int := ns.mergeSort fun x y => decide (x ≤ y)
def sortedD : D → Option T
  | .lst ds => match strsOf ds with
    | some zs => some (.f (.lst ((srtS zs).map .str)))
    | none => none
  | .tup ds => match strsOf ds with
    | some zs => some (.f (.lst ((srtS zs).map .str)))
    | none => none
  | _ => none
theorem str_eq_of {x y : Str} (h : x.cps.toList = y.cps.toList) : x = y := by
  obtain ⟨x⟩ := x
  obtain ⟨y⟩ := y
  have : x = y := by
    have h : x.toList = y.toList := h
    exact Array.toList_inj.mp h
  rw [this]
theorem lt_tot (a b : List Nat) : ¬ b < a ∨ ¬ a < b := by
  by_cases h : b < a
  · exact .inr fun z => absurd (List.lt_trans h z) (List.lt_irrefl _)
  · exact .inl h
theorem lt_tr {a b c : List Nat} (h1 : ¬ b < a) (h2 : ¬ c < b) : ¬ c < a := fun z => by
  have h1 : a ≤ b := h1
  have h2 : b ≤ c := h2
  exact absurd z (List.not_lt.mpr (List.le_trans h1 h2))
theorem srtS_pw (zs : List Str) : (srtS zs).Pairwise fun x y => ¬ y.cps.toList < x.cps.toList := by
  have h := List.pairwise_mergeSort (le := fun x y : Str => !decide (y.cps.toList < x.cps.toList)) (fun a b c h1 h2 => ?_) (fun a b => ?_) zs
  · exact h.imp fun {x y} h => by simpa using h
  · simp only [Bool.not_eq_true', decide_eq_false_iff_not] at h1 h2 ⊢
    exact lt_tr h1 h2
  · simp only [Bool.or_eq_true, Bool.not_eq_true', decide_eq_false_iff_not]
    exact lt_tot _ _
theorem srtS_uniq {zs ys : List Str} (p : ys.Perm zs) (h : ys.Pairwise fun x y => ¬ y.cps.toList < x.cps.toList) : ys = srtS zs := by
  refine List.Perm.eq_of_pairwise (fun x y _ _ h1 h2 => ?_) h (srtS_pw zs) (p.trans (List.mergeSort_perm _ _).symm)
  exact str_eq_of (le_anti h1 h2)
section
variable {X : Cx} {K : PySem.W.Frag} {cl : Str → Addr}
theorem cd_len (hK : X.K = K) : CallR X (.builtin "len") (rc1 (r1D K cl lenD)) := by
  subst hK
  rintro pins s σ H xs us Q I r ⟨x, rfl, F, a, t, sF, ha, e, q⟩
  cases ha with
  | @str x =>
    have e : (if x.length ≤ sizeLine then some (T.v (.int (x.length : Nat))) else none) = some t := e
    split at e
    · rename_i hl
      cases e
      exact call_len pins s σ H _ us Q I r ⟨_, _, rfl, ⟨hl, rfl⟩, q _ F H (.refl sF) .int⟩
    · cases e
  | lst h1 h2 => cases e; exact call_len pins s σ H _ us Q I r ⟨_, _, rfl, .inl ⟨_, .of h1, rfl⟩, by rw [h2.length]; exact q _ F H (.refl sF) .int⟩
  | tup h1 h2 => cases e; exact call_len pins s σ H _ us Q I r ⟨_, _, rfl, .inr ⟨_, sqt_same sF h1, rfl⟩, by rw [h2.length]; exact q _ F H (.refl sF) .int⟩
  | _ => cases e
theorem cd_abs : CallR X (.builtin "abs") (rc1 (r1D K cl absD)) := by
  rintro pins s σ H xs us Q I r ⟨x, rfl, F, a, t, sF, ha, e, q⟩
  cases ha with
  | int => cases e; exact call_abs pins s σ H _ us Q I r ⟨_, rfl, q _ F H (.refl sF) .int⟩
  | _ => cases e
theorem cd_int : CallR X (.type "int") (rc1 (r1D K cl intD)) := by
  rintro pins s σ H xs us Q I r ⟨x, rfl, F, a, t, sF, ha, e, q⟩
  cases ha with
  | int => cases e; exact call_int1 pins s σ H _ us Q I r (.inl ⟨_, rfl, q _ F H (.refl sF) .int⟩)
  | bl => cases e; exact call_int1 pins s σ H _ us Q I r (.inr ⟨_, rfl, q _ F H (.refl sF) .int⟩)
  | _ => cases e
theorem cd_bool : CallR X (.type "bool") (rc1 (r1D K cl boolD)) := by
  rintro pins s σ H xs us Q I r ⟨x, rfl, F, a, t, sF, ha, e, q⟩
  cases ha with
  | int => cases e; exact call_bool1 pins s σ H _ us Q I r (.inl ⟨_, rfl, q _ F H (.refl sF) .bl⟩)
  | bl => cases e; exact call_bool1 pins s σ H _ us Q I r (.inr ⟨_, rfl, q _ F H (.refl sF) .bl⟩)
  | _ => cases e
theorem cd_str : CallR X (.type "str") (rc1 (r1D K cl strD)) := by
  rintro pins s σ H xs us Q I r ⟨x, rfl, F, a, t, sF, ha, e, q⟩
  cases ha with
  | @int i =>
    have e : (if i.natAbs.log2 < 1920 then some (T.v (.str (toString i))) else none) = some t := e
    split at e
    · rename_i hl
      cases e
      exact call_str_int pins s σ H _ us Q I r ⟨_, rfl, hl, q _ F H (.refl sF) .str⟩
    · cases e
  | _ => cases e
theorem cd_list (hK : X.K = K) : CallR X (.type "list") (rc1 (r1D K cl listD)) := by
  subst hK
  rintro pins s σ H xs us Q I r ⟨x, rfl, F, a, t, sF, ha, e, q⟩
  cases ha with
  | lst h1 h2 =>
    cases e
    refine call_list_of pins s σ H _ us Q I r ⟨_, _, rfl, .inl (.of h1), fun p hp => ?_⟩
    obtain ⟨n, ft⟩ := new_lst sF hp h2
    exact q _ _ _ n ft
  | tup h1 h2 =>
    cases e
    refine call_list_of pins s σ H _ us Q I r ⟨_, _, rfl, .inr (sqt_same sF h1), fun p hp => ?_⟩
    obtain ⟨n, ft⟩ := new_lst sF hp h2
    exact q _ _ _ n ft
  | _ => cases e
theorem cd_tuple (hK : X.K = K) : CallR X (.type "tuple") (rc1 (r1D K cl tupleD)) := by
  subst hK
  rintro pins s σ H xs us Q I r ⟨x, rfl, F, a, t, sF, ha, e, q⟩
  cases ha with
  | lst h1 h2 =>
    cases e
    refine call_tuple_of pins s σ H _ us Q I r ⟨_, _, rfl, .inl ⟨.of h1, fun p hp => ?_⟩⟩
    obtain ⟨n, ft⟩ := new_tup sF hp h2
    exact q _ _ _ n ft
  | tup h1 h2 =>
    cases e
    exact call_tuple_of pins s σ H _ us Q I r ⟨_, _, rfl, .inr ⟨sqt_same sF h1, q _ F H (.refl sF) (.tup h1 h2)⟩⟩
  | _ => cases e
theorem cd_sum (hK : X.K = K) (hc : X.calm = true) : CallR X (.builtin "sum") (rc1 (r1D K cl sumD)) := by
  subst hK
  rintro pins s σ H xs us Q I r ⟨x, rfl, F, a, t, sF, ha, e, q⟩
  cases ha with
  | @lst a vs ds h1 h2 =>
    obtain ⟨ns, en, rfl⟩ := Option.map_eq_some_iff.mp (show (intsOf ds).map _ = some t from e)
    rw [intsOf_eq en] at h2
    rw [drs_ints_eq h2] at h1
    exact cr_sum hc pins s σ H _ us Q I r ⟨_, ns, rfl, .of h1, q _ F H (.refl sF) .int⟩
  | _ => cases e
theorem cd_max (hK : X.K = K) (hc : X.calm = true) : CallR X (.builtin "max") (rc1 (r1D K cl maxD)) := by
  subst hK
  rintro pins s σ H xs us Q I r ⟨x, rfl, F, a, t, sF, ha, e, q⟩
  cases ha with
  | @lst a vs ds h1 h2 =>
    obtain ⟨ns, en, e⟩ := Option.bind_eq_some_iff.mp (show (intsOf ds).bind _ = some t from e)
    rw [intsOf_eq en] at h2
    rw [drs_ints_eq h2] at h1
    split at e
    · rename_i hl
      cases e
      refine cr_max hc pins s σ H _ us Q I r ⟨_, ns, rfl, .of h1, hl, fun m hm hy => ?_⟩
      obtain ⟨m1, m2⟩ := maxI_mem hl
      have : m = maxI ns := Int.le_antisymm (m2 m hm) (hy _ m1)
      rw [this]
      exact q _ F H (.refl sF) .int
    · cases e
  | _ => cases e
theorem cd_min (hK : X.K = K) (hc : X.calm = true) : CallR X (.builtin "min") (rc1 (r1D K cl minD)) := by
  subst hK
  rintro pins s σ H xs us Q I r ⟨x, rfl, F, a, t, sF, ha, e, q⟩
  cases ha with
  | @lst a vs ds h1 h2 =>
    obtain ⟨ns, en, e⟩ := Option.bind_eq_some_iff.mp (show (intsOf ds).bind _ = some t from e)
    rw [intsOf_eq en] at h2
    rw [drs_ints_eq h2] at h1
    split at e
    · rename_i hl
      cases e
      refine cr_min hc pins s σ H _ us Q I r ⟨_, ns, rfl, .of h1, hl, fun m hm hy => ?_⟩
      obtain ⟨m1, m2⟩ := minI_mem hl
      have : m = minI ns := Int.le_antisymm (hy _ m1) (m2 m hm)
      rw [this]
      exact q _ F H (.refl sF) .int
    · cases e
  | _ => cases e
theorem cd_any (hK : X.K = K) (hc : X.calm = true) : CallR X (.builtin "any") (rc1 (r1D K cl anyD)) := by
  subst hK
  rintro pins s σ H xs us Q I r ⟨x, rfl, F, a, t, sF, ha, e, q⟩
  cases ha with
  | @lst a vs ds h1 h2 =>
    obtain ⟨ns, en, rfl⟩ := Option.map_eq_some_iff.mp (show (blsOf ds).map _ = some t from e)
    rw [blsOf_eq en] at h2
    rw [drs_bls_eq h2] at h1
    exact cr_any hc pins s σ H _ us Q I r ⟨_, ns, rfl, .of h1, q _ F H (.refl sF) .bl⟩
  | _ => cases e
theorem cd_all (hK : X.K = K) (hc : X.calm = true) : CallR X (.builtin "all") (rc1 (r1D K cl allD)) := by
  subst hK
  rintro pins s σ H xs us Q I r ⟨x, rfl, F, a, t, sF, ha, e, q⟩
  cases ha with
  | @lst a vs ds h1 h2 =>
    obtain ⟨ns, en, rfl⟩ := Option.map_eq_some_iff.mp (show (blsOf ds).map _ = some t from e)
    rw [blsOf_eq en] at h2
    rw [drs_bls_eq h2] at h1
    exact cr_all hc pins s σ H _ us Q I r ⟨_, ns, rfl, .of h1, q _ F H (.refl sF) .bl⟩
  | _ => cases e
theorem cd_repr (hK : X.K = K) (hg : X.A.guards = some []) (hu : X.A.units + 64 < cLine) : CallR X (.builtin "repr") (rc1 (r1D K cl reprD)) := by
  subst hK
  rintro pins s σ H xs us Q I r ⟨x, rfl, F, a, t, sF, ha, e, q⟩
  unfold reprD at e
  cases ep : py a with
  | none => rw [ep] at e; cases e
  | some p =>
    rw [ep] at e
    dsimp only at e
    split at e
    · rename_i h
      cases e
      exact call_repr hg hu pins s σ H _ us Q I r ⟨x, p, rfl, py_dp (ha.dr sF) ep, h.1, h.2.1, h.2.2.1, h.2.2.2, q _ F H (.refl sF) .str⟩
    · cases e
theorem cd_gcd : CallR X (.builtin "math.gcd") (rc2 (r2D K cl gcdD)) := by
  rintro pins s σ H xs us Q I r ⟨x, y, rfl, F, a, b, t, sF, ha, hb, e, q⟩
  cases ha with
  | int =>
    cases hb with
    | int => cases e; exact cr_gcd pins s σ H _ us Q I r ⟨_, _, rfl, q _ F H (.refl sF) .int⟩
    | _ => cases e
  | _ => cases e
theorem cd_sorted (hK : X.K = K) : CallR X (.builtin "sorted") (rc1 (r1D K cl sortedD)) := by
  subst hK
  rintro pins s σ H xs us Q I r ⟨x, rfl, F, a, t, sF, ha, e, q⟩
  cases ha with
  | @lst a vs ds h1 h2 =>
    unfold sortedD at e
    cases ez : strsOf ds with
    | none => simp only [ez] at e; cases e
    | some zs =>
      simp only [ez] at e
      cases e
      rw [strsOf_eq ez] at h2
      rw [drs_strs_eq h2] at h1
      refine cr_sortedA pins s σ H _ us Q I r ⟨_, zs, rfl, .inl (.of h1), fun ys p pm pw hp => ?_⟩
      rw [srtS_uniq pm pw]
      obtain ⟨n, ft⟩ := new_lst (cl := cl) sF hp (drs_strs (K := X.K) (F := F) (srtS zs))
      exact q _ _ _ n ft
  | @tup a vs ds h1 h2 =>
    unfold sortedD at e
    cases ez : strsOf ds with
    | none => simp only [ez] at e; cases e
    | some zs =>
      simp only [ez] at e
      cases e
      rw [strsOf_eq ez] at h2
      rw [drs_strs_eq h2] at h1
      refine cr_sortedA pins s σ H _ us Q I r ⟨_, zs, rfl, .inr (sqt_same sF h1), fun ys p pm pw hp => ?_⟩
      rw [srtS_uniq pm pw]
      obtain ⟨n, ft⟩ := new_lst (cl := cl) sF hp (drs_strs (K := X.K) (F := F) (srtS zs))
      exact q _ _ _ n ft
  | _ => cases e
end
/-! ### isinstance -/
def tyN : D → String
  | .non => "NoneType"
  | .bl _ => "bool"
  | .int _ => "int"
  | .str _ => "str"
  | .lst _ => "list"
  | .tup _ => "tuple"
  | .dic _ => "dict"
  | _ => "?"
def tys : List String := ["NoneType", "bool", "int", "str", "list", "tuple", "dict"]
/-- isinstance(x, n), n a built-in type -/
def isTy (n : String) (d : D) : Bool := (tyN d == n) || ((n == "int") && (tyN d == "bool"))
def isiD (n : String) (d : D) : Option T := if tyN d ∈ tys then some (.v (.bl (isTy n d))) else none
def isi2D (n m : String) (d : D) : Option T := if tyN d ∈ tys then some (.v (.bl (isTy n d || isTy m d))) else none
section
variable {X : Cx} {K : PySem.W.Frag} {cl : Str → Addr}
theorem tyN_tyx {F H : Hp} {v : V} {d : D} (sF : Same F H) (h : DRt K cl F H v d) (ht : tyN d ∈ tys) : TyX K H v (.type (tyN d)) := by
  cases h with
  | non => exact .base .non
  | bl => exact .base (.bl _)
  | int => exact .base (.int _)
  | str => exact .base (.str _)
  | lst a b => exact .base (.lst a)
  | lsf a b => exact absurd ht (by simp [tyN, tys])
  | tup a b =>
    rcases a with (a | ⟨o, a⟩) | ⟨o, its, n, a, c, _⟩
    · exact .base (.tup (sF _ _ a))
    · exact .fTuple (sF _ _ a)
    · exact .kTuple a c
  | dic a b => exact .base (.dK a)
  | ty => exact absurd ht (by simp [tyN, tys])
  | cls => exact absurd ht (by simp [tyN, tys])
  | ins _ _ => exact absurd ht (by simp [tyN, tys])
theorem tyN_kit {d : D} {n : String} (ht : tyN d ∈ tys) (hn : n ∈ ["int", "bool", "str", "list", "tuple"]) : PySem.W.kitOne K (.type (tyN d)) (.type n) = some (isTy n d) := kit_ty (kits _ ht _ hn)
theorem DRt.up {F H H' : Hp} {v : V} {d : D} (s : Same H H') (h : DRt K cl F H v d) : DRt K cl F H' v d := by
  cases h with
  | non => exact .non
  | bl => exact .bl
  | int => exact .int
  | str => exact .str
  | ty => exact .ty
  | cls => exact .cls
  | lst a b => exact .lst (s _ _ a) b
  | lsf a b => exact .lsf a b
  | tup a b => exact .tup a b
  | dic a b => exact .dic (s _ _ a) b
  | ins a b => exact .ins (s _ _ a) b
end
section
variable {B : Bs} {W : WX} {X : Cx} {a : Expr} {m : ME} {pos p pn pn2 pt : Pos} {kt} {n1 n2 : Str} {n n' : String}
theorem de_isi (hK : X.K = B.K) (hm : X.mg "isinstance" = none) (ha : PE X a (tD B W m)) (hmn : X.mg n1 = none) (hvn : bootBuiltins n1 = some (.type n)) (hn : n ∈ ["int", "bool", "str", "list", "tuple"] := by decide) (hg : Gl X "isinstance" := by rfl) (hgn : Gl X n1 := by rfl)
    (hnn : n1 ≠ "__name__" := by decide) (hdn : (n1 == ("__debug__" : Str)) = false := by decide)
    (he : starEach [a, .Name n1 pn] X.env = (false, eval a X.env) :: starEach [.Name n1 pn] X.env := by rfl) (he2 : starEach [.Name n1 pn] X.env = (false, eval (.Name n1 pn) X.env) :: starEach [] X.env := by rfl) (hpl : (backTo pos (starEach [.Name n1 pn] X.env)).any (·.1) = false := by rfl) :
    PE X (.Call (.Name "isinstance" p) [a, .Name n1 pn] [] pos) (tD B W (mUn (isiD n) m)) :=
  pe_imp (pe_callB call_isi hg hm boot_isinstance (pa_cons ha (pa_cons (pe_ty hmn hvn hgn hnn hdn) pa_nil he2) he) (by decide) (by decide) he hpl) fun σ H Q h => by
    obtain ⟨F, env, R, S⟩ := t_un H Q h
    refine ⟨F, env, R, S.imp fun t e q v F1 H1 R1 st tr => ?_⟩
    obtain ⟨F2, d, t2, sF, hd, ef, q⟩ := q v F1 H1 R1 st tr
    unfold isiD at ef
    split at ef
    · rename_i ht
      cases ef
      exact ⟨v, .ty n, _, .type n, _, rfl, .ty n, hK ▸ tyN_tyx sF hd ht, tyN_kit ht hn, q _ F2 H1 (.refl sF) .bl⟩
    · cases ef
theorem de_isi2 (hK : X.K = B.K) (hm : X.mg "isinstance" = none) (ha : PE X a (tD B W m)) (hmn : X.mg n1 = none) (hvn : bootBuiltins n1 = some (.type n)) (hmn2 : X.mg n2 = none) (hvn2 : bootBuiltins n2 = some (.type n')) (hn : n ∈ ["int", "bool", "str", "list", "tuple"] := by decide) (hn2 : n' ∈ ["int", "bool", "str", "list", "tuple"] := by decide)
    (hg : Gl X "isinstance" := by rfl) (hgn : Gl X n1 := by rfl) (hgn2 : Gl X n2 := by rfl)
    (hnn : n1 ≠ "__name__" := by decide) (hdn : (n1 == ("__debug__" : Str)) = false := by decide) (hnn2 : n2 ≠ "__name__" := by decide) (hdn2 : (n2 == ("__debug__" : Str)) = false := by decide)
    (he : starEach [a, .Tuple [.Name n1 pn, .Name n2 pn2] kt pt] X.env = (false, eval a X.env) :: starEach [.Tuple [.Name n1 pn, .Name n2 pn2] kt pt] X.env := by rfl) (he2 : starEach [.Tuple [.Name n1 pn, .Name n2 pn2] kt pt] X.env = (false, eval (.Tuple [.Name n1 pn, .Name n2 pn2] kt pt) X.env) :: starEach [] X.env := by rfl)
    (he3 : starEach [.Name n1 pn, .Name n2 pn2] X.env = (false, eval (.Name n1 pn) X.env) :: starEach [.Name n2 pn2] X.env := by rfl) (he4 : starEach [.Name n2 pn2] X.env = (false, eval (.Name n2 pn2) X.env) :: starEach [] X.env := by rfl)
    (hpl : (backTo pos (starEach [.Tuple [.Name n1 pn, .Name n2 pn2] kt pt] X.env)).any (·.1) = false := by rfl) :
    PE X (.Call (.Name "isinstance" p) [a, .Tuple [.Name n1 pn, .Name n2 pn2] kt pt] [] pos) (tD B W (mUn (isi2D n n') m)) :=
  pe_imp (pe_callB call_isiT hg hm boot_isinstance (pa_cons ha (pa_cons (pe_tup (pa_cons (pe_ty hmn hvn hgn hnn hdn) (pa_cons (pe_ty hmn2 hvn2 hgn2 hnn2 hdn2) pa_nil he4) he3)) pa_nil he2) he) (by decide) (by decide) he hpl) fun σ H Q h => by
    obtain ⟨F, env, R, S⟩ := t_un H Q h
    refine ⟨F, env, R, S.imp fun t e q v F1 H1 R1 st tr => ?_⟩
    obtain ⟨F2, d, t2, sF, hd, ef, q⟩ := q v F1 H1 R1 st tr
    unfold isi2D at ef
    split at ef
    · rename_i ht
      cases ef
      refine ⟨by show 2 ≤ sizeLine; decide, fun tp hp => ?_⟩
      have nw : News F2 H1 F2 (upd H1 tp (.tup [.ty n, .ty n'])) := News.new sF hp
      refine ⟨v, tp, [.ty n, .ty n'], .type (tyN d), [.type n, .type n'], _, rfl, upd_same, .cons (.ty _) (.cons (.ty _) .nil), hK ▸ tyN_tyx nw.s (hd.up nw.hs) ht, ?_, q _ F2 _ nw .bl⟩
      show PySem.W.kitAny X.K (.type (tyN d)) [.type n, .type n'] = some (isTy n d || isTy n' d)
      have k1 := tyN_kit (K := X.K) ht hn
      have k2 := tyN_kit (K := X.K) ht hn2
      simp only [PySem.W.kitAny, k1, k2]
      cases isTy n d <;> cases isTy n' d <;> rfl
    · cases ef
end
end DL
set_option Elab.async false
set_option linter.all false
set_option maxRecDepth 100000
set_option maxHeartbeats 4000000
namespace DL
open PySem PySem.Spec PyProof.Rows L2 Own
/-! ### items, slices -/
def ixD : D → D → Option T
  | .lst ds, .int i => (atI ds i).map .v
  | .tup ds, .int i => (atI ds i).map .v
  | .str z, .int i => if z.length ≤ sizeLine then (atI z.cps.toList i).map fun c => .v (.str ⟨#[c]⟩) else none
  | _, _ => none
def cutD (ds : List D) (lo hi : Option Int) : List D := (ds.drop (HT.sIx ds.length 0 lo)).take (HT.sIx ds.length ds.length hi - HT.sIx ds.length 0 lo)
def slD : D → Option Int → Option Int → Option T
  | .lst ds, lo, hi => some (.f (.lst (cutD ds lo hi)))
  | .lsf ds, lo, hi => some (.f (.lst (cutD ds lo hi)))
  | .tup ds, lo, hi => if HT.sIx ds.length 0 lo = 0 ∧ HT.sIx ds.length ds.length hi = ds.length then none else some (.v (.tup (cutD ds lo hi)))
  | .str z, lo, hi => if z.length ≤ sizeLine then some (.v (.str (cutS z lo hi))) else none
  | _, _, _ => none
section
variable {X : Cx} {K : PySem.W.Frag} {cl : Str → Addr}
theorem DRs.atI {F : Hp} {vs : List V} {ds : List D} {i : Int} {d : D} (h : DRs K cl F vs ds) (e : L2.atI ds i = some d) : ∃ v, L2.atI vs i = some v ∧ DR K cl F v d := by
  unfold L2.atI at e ⊢
  obtain ⟨j, h1, h2⟩ := Option.bind_eq_some_iff.mp e
  obtain ⟨v, hv, r⟩ := h.get h2
  refine ⟨v, ?_, r⟩
  rw [h.length, h1]
  exact hv
theorem DRs.cut {F : Hp} {vs : List V} {ds : List D} (h : DRs K cl F vs ds) (lo hi : Option Int) : DRs K cl F (cutV vs lo hi) (cutD ds lo hi) := by
  unfold cutV cutD
  rw [h.length]
  exact (h.drop _).take _
theorem ixd (hK : X.K = K) : IxR X (r2D K cl ixD) := by
  subst hK
  intro value slice pins s σ H x y v u Q I rx ry h hs
  obtain ⟨F, a, b, t, sF, ha, hb, e, q⟩ := h
  cases ha with
  | @lst p vs ds h1 h2 =>
    cases hb with
    | @int i =>
      obtain ⟨d, e1, rfl⟩ := Option.map_eq_some_iff.mp (show (atI ds i).map T.v = some t from e)
      obtain ⟨w, hw, r⟩ := h2.atI e1
      exact ix_seq value slice pins s σ H _ _ v u Q I rx ry (.inl ⟨p, vs, i, w, rfl, rfl, .of h1, hw, q _ F H (.refl sF) r⟩) hs
    | _ => cases e
  | @tup p vs ds h1 h2 =>
    cases hb with
    | @int i =>
      obtain ⟨d, e1, rfl⟩ := Option.map_eq_some_iff.mp (show (atI ds i).map T.v = some t from e)
      obtain ⟨w, hw, r⟩ := h2.atI e1
      exact ix_seq value slice pins s σ H _ _ v u Q I rx ry (.inr (.inl ⟨p, vs, i, w, rfl, rfl, sqt_same sF h1, hw, q _ F H (.refl sF) r⟩)) hs
    | _ => cases e
  | @str z =>
    cases hb with
    | @int i =>
      have e : (if z.length ≤ sizeLine then (atI z.cps.toList i).map fun c => T.v (.str ⟨#[c]⟩) else none) = some t := e
      split at e
      · rename_i hl
        obtain ⟨c, e1, rfl⟩ := Option.map_eq_some_iff.mp e
        exact ix_seq value slice pins s σ H _ _ v u Q I rx ry (.inr (.inr ⟨z, i, c, rfl, rfl, hl, e1, q _ F H (.refl sF) .str⟩)) hs
      · cases e
    | _ => cases e
  | _ => cases e
theorem de_ix {B : Bs} {W : WX} {a b : Expr} {m n : ME} {pos : Pos} (hK : X.K = B.K) (ha : PE X a (tD B W m)) (hb : PE X b (tD B W n)) (hs : PlainIx b := by exact fun _ _ => rfl) : PE X (.Subscript a b pos) (tD B W (mBin ixD m n)) := pe_imp (pe_ix (ixd hK) ha hb hs) fun _ => t_bin
end
/-- a slice's part -/
abbrev MO := DL.Env → Out (Option Int × DL.Env)
def oNo : MO := fun env => .ok (none, env)
def oSo (m : ME) : MO := fun env => (fa m env).bind fun p => match p.1 with
  | .int i => .ok (some i, p.2)
  | _ => .no
def mSl (m : ME) (lo hi : MO) : ME := fun env => (fz m env).bind fun p => (lo p.2).bind fun l => (hi l.2).bind fun h => match dr h.2 p.1 with
  | some d => match slD d l.1 h.1 with
    | some t => .ok (t, h.2)
    | none => .no
  | none => .no
def tDO (B : Bs) (W : WX) (m : MO) : TO := fun σ H Q => ∃ F env, Rel B env F H σ ∧ Sat B W σ (m env) fun o env' => ∀ F' H', Rel B env' F' H' σ → Step σ env F H env' F' H' → Q o H'
section
variable {B : Bs} {W : WX} {X : Cx} {e : Expr} {m : ME} {lo hi : Option Expr} {ml mh : MO} {pos p2 : Pos}
theorem po_imp {e : Option Expr} {t t' : TO} (h : PO X e t) (i : ∀ σ H Q, t' σ H Q → t σ H Q) : PO X e t' := ⟨fun pins s σ H Q I q => h.run pins s σ H Q I (i σ H Q q)⟩
theorem do_no : PO X none (tDO B W oNo) := po_imp po_none fun σ H Q h => by
  obtain ⟨F, env, R, S⟩ := h
  exact S F H R (.refl _ _ _ _)
theorem do_so (h : PE X e (tD B W m)) : PO X (some e) (tDO B W (oSo m)) := po_imp (po_some h) fun σ H Q h => by
  obtain ⟨F, env, R, S⟩ := h
  refine tDD_fa σ H _ ⟨F, env, R, (Sat.of S).imp fun d e q v F1 H1 R1 st1 dr => ?_⟩
  cases d with
  | int i =>
    cases dr
    exact ⟨i, rfl, q F1 H1 R1 st1⟩
  | _ => exact q.elim
def rSlD (K : PySem.W.Frag) (cl : Str → Addr) : V → Option Int → Option Int → Hp → VK → Prop := fun x lo hi H Q => ∃ F a t, Same F H ∧ DRt K cl F H x a ∧ slD a lo hi = some t ∧ ∀ v F' H', News F H F' H' → FT K cl F' H' H v t → Q v H'
theorem sld {K : PySem.W.Frag} {cl : Str → Addr} (hK : X.K = K) : SlR X (rSlD K cl) := by
  subst hK
  intro pins s σ H x v vl vu lo hi sl Q I rx hs pl pu h
  obtain ⟨F, a, t, sF, ha, e, q⟩ := h
  cases ha with
  | @lst p vs ds h1 h2 =>
    cases e
    refine sl_list pins s σ H _ v vl vu lo hi sl Q I rx hs pl pu ⟨p, vs, rfl, .of h1, fun p' hp => ?_⟩
    obtain ⟨n, ft⟩ := new_lst sF hp (h2.cut lo hi)
    exact q _ _ _ n ft
  | @lsf p vs ds h1 h2 =>
    cases e
    refine sl_list pins s σ H _ v vl vu lo hi sl Q I rx hs pl pu ⟨p, vs, rfl, sql_same sF h1, fun p' hp => ?_⟩
    obtain ⟨n, ft⟩ := new_lst sF hp (h2.cut lo hi)
    exact q _ _ _ n ft
  | @tup p vs ds h1 h2 =>
    have e : (if HT.sIx ds.length 0 lo = 0 ∧ HT.sIx ds.length ds.length hi = ds.length then none else some (T.v (.tup (cutD ds lo hi)))) = some t := e
    split at e
    · cases e
    · rename_i hw
      cases e
      refine sl_tup pins s σ H _ v vl vu lo hi sl Q I rx hs pl pu ⟨p, vs, rfl, sqt_same sF h1, by rw [h2.length]; exact hw, fun p' hp => ?_⟩
      obtain ⟨n, ft⟩ := new_tup sF hp (h2.cut lo hi)
      exact q _ _ _ n ft
  | @str z =>
    have e : (if z.length ≤ sizeLine then some (T.v (.str (cutS z lo hi))) else none) = some t := e
    split at e
    · rename_i hl
      cases e
      exact sl_str pins s σ H _ v vl vu lo hi sl Q I rx hs pl pu ⟨z, rfl, hl, q _ F H (.refl sF) .str⟩
    · cases e
  | _ => cases e
theorem de_sl (hK : X.K = B.K) (he : PE X e (tD B W m)) (hl : PO X lo (tDO B W ml)) (hh : PO X hi (tDO B W mh)) : PE X (.Subscript e (.Slice lo hi none p2) pos) (tD B W (mSl m ml mh)) :=
  pe_imp (pe_slice (sld (cl := B.cl) hK) he hl hh) fun σ H Q h => by
    obtain ⟨F, env, R, S⟩ := h
    refine tD_fz σ H _ ⟨F, env, R, (Sat.of S).fz.imp fun t e1 z v F1 H1 R1 st1 tr => ?_⟩
    obtain ⟨hz, S1⟩ := z
    refine ⟨F1, e1, R1, (Sat.of S1).imp fun l e2 S2 F2 H2 R2 st2 => ⟨F2, e2, R2, (Sat.of S2).imp fun u e3 q F3 H3 R3 st3 => ?_⟩⟩
    have tr3 : TR B H F3 H3 σ e3 v t := by
      rw [← hz] at tr ⊢
      exact tr.step (st2.trans st3)
    cases hd : dr e3 t with
    | none => simp only [Sat, hd] at q
    | some d =>
      cases hs : slD d l u with
      | none => simp only [Sat, hd, hs] at q
      | some t2 =>
        simp only [Sat, hd, hs] at q
        exact ⟨F3, d, t2, R3.fh, dr_top R3 tr3 hd, hs, fun v F4 H4 n ft => q v F4 H4 (R3.news n) (st1.trans (st2.trans (st3.trans n.step))) (ft.tr R3 fun x hx => st1.g.free (st2.g.free (st3.g.free hx)))⟩
end
/-! ### max, min of two; bit_length; lcm -/
def max2D : D → D → Option T
  | .int i, .int j => some (.v (.int (if j > i then j else i)))
  | _, _ => none
def min2D : D → D → Option T
  | .int i, .int j => some (.v (.int (if j < i then j else i)))
  | _, _ => none
def bitsD : D → Option T
  | .int i => some (.v (.int (Builtin.Int.intBits i : Nat)))
  | _ => none
def lcmD : D → D → Option T
  | .int a, .int b => if a.natAbs.log2 < 13000 ∧ b.natAbs.log2 < 13000 then some (.v (.int ((a.natAbs.lcm b.natAbs : Nat) : Int))) else none
  | _, _ => none
section
variable {X : Cx} {K : PySem.W.Frag} {cl : Str → Addr}
theorem cd_max2 (hc : X.calm = true) : CallR X (.builtin "max") (rc2 (r2D K cl max2D)) := by
  rintro pins s σ H xs us Q I r ⟨x, y, rfl, F, a, b, t, sF, ha, hb, e, q⟩
  cases ha with
  | int =>
    cases hb with
    | int => cases e; exact call_max2 hc pins s σ H _ us Q I r ⟨_, _, rfl, q _ F H (.refl sF) .int⟩
    | _ => cases e
  | _ => cases e
theorem cd_min2 (hc : X.calm = true) : CallR X (.builtin "min") (rc2 (r2D K cl min2D)) := by
  rintro pins s σ H xs us Q I r ⟨x, y, rfl, F, a, b, t, sF, ha, hb, e, q⟩
  cases ha with
  | int =>
    cases hb with
    | int => cases e; exact call_min2 hc pins s σ H _ us Q I r ⟨_, _, rfl, q _ F H (.refl sF) .int⟩
    | _ => cases e
  | _ => cases e
theorem de_bits {B : Bs} {W : WX} {o : Expr} {m : ME} {apos pos : Pos} (ho : PE X o (tD B W m)) (h : PE X (.Call (.Attribute o "bit_length" apos) [] [] pos) (tBits (tD B W m))) : PE X (.Call (.Attribute o "bit_length" apos) [] [] pos) (tD B W (mUn bitsD m)) :=
  pe_imp h fun σ H Q h => by
    obtain ⟨F, env, R, S⟩ := t_un H Q h
    refine ⟨F, env, R, S.imp fun t e q v F1 H1 R1 st tr => ?_⟩
    obtain ⟨F2, d, t2, sF, hd, ef, q⟩ := q v F1 H1 R1 st tr
    cases hd with
    | int => cases ef; exact ⟨_, rfl, q _ F2 H1 (.refl sF) .int⟩
    | _ => cases ef
end
end DL
set_option Elab.async false
set_option linter.all false
set_option maxRecDepth 100000
set_option maxHeartbeats 4000000
namespace DL
open PySem PySem.Spec PyProof.Rows L2 Own
/-! ### chains -/
def mChain (f g : D → D → Option T) (ma mb mc : ME) : ME := fun env => (fz ma env).bind fun p => (fz mb p.2).bind fun q => match dr q.2 p.1, dr q.2 q.1 with
  | some a, some b => match f a b with
    | some (.v (.bl true)) => (fz mc q.2).bind fun r => match dr r.2 q.1, dr r.2 r.1 with
      | some b, some c => match g b c with
        | some t => .ok (t, r.2)
        | none => .no
      | _, _ => .no
    | some (.v (.bl false)) => .ok (.v (.bl false), q.2)
    | _ => .no
  | _, _ => .no
section
variable {B : Bs} {W : WX} {X : Cx} {σ : L2.St} {a b c : Expr} {ma mb mc : ME} {pos : Pos}
theorem t_chain {f g : D → D → Option T} (H : Hp) (Q : VK) (h : tD B W (mChain f g ma mb mc) σ H Q) : tChain (r2D B.K B.cl f) (r2D B.K B.cl g) (tD B W ma) (tD B W mb) (tD B W mc) σ H Q := by
  obtain ⟨F, env, R, S⟩ := h
  refine tD_fz σ H _ ⟨F, env, R, (Sat.of S).fz.imp fun t1 e1 z v1 F1 H1 R1 st1 tr1 => ?_⟩
  obtain ⟨z1, S1⟩ := z
  refine tD_fz σ H1 _ ⟨F1, e1, R1, (Sat.of S1).fz.imp fun t2 e2 z v2 F2 H2 R2 st2 tr2 => ?_⟩
  obtain ⟨z2, S2⟩ := z
  have tr1' : TR B H F2 H2 σ e2 v1 t1 := by
    rw [← z1] at tr1 ⊢
    exact tr1.step st2
  cases ha : dr e2 t1 with
  | none => simp only [Sat, ha] at S2
  | some a =>
    cases hb : dr e2 t2 with
    | none => simp only [Sat, ha, hb] at S2
    | some b =>
      cases hf : f a b with
      | none => simp only [Sat, ha, hb, hf] at S2
      | some t =>
        cases t with
        | s i => simp only [Sat, ha, hb, hf] at S2
        | f d => simp only [Sat, ha, hb, hf] at S2
        | v d =>
          cases d with
          | bl k =>
            refine ⟨F2, a, b, _, R2.fh, dr_top R2 tr1' ha, dr_top R2 tr2 hb, hf, fun v F3 H3 n ft => ?_⟩
            cases ft
            refine ⟨k, rfl, ?_⟩
            cases k with
            | false =>
              simp only [Sat, ha, hb, hf] at S2
              exact iteF (S2 _ F3 H3 (R2.news n) (st1.trans (st2.trans n.step)) .bl)
            | true =>
              simp only [ha, hb, hf] at S2
              refine iteT (tD_fz σ H3 _ ⟨F3, e2, R2.news n, (Sat.of S2).imp fun t3 e3 q v3 F4 H4 R4 st4 tr4 => ?_⟩)
              have tr2' : TR B H F4 H4 σ e3 v2 t2 := by
                rw [← z2] at tr2 ⊢
                exact tr2.step (n.step.trans st4)
              cases hb2 : dr e3 t2 with
              | none => simp only [Sat, hb2] at q
              | some b2 =>
                cases hc : dr e3 t3 with
                | none => simp only [Sat, hb2, hc] at q
                | some c =>
                  cases hg : g b2 c with
                  | none => simp only [Sat, hb2, hc, hg] at q
                  | some t =>
                    simp only [Sat, hb2, hc, hg] at q
                    exact ⟨F4, b2, c, t, R4.fh, dr_top R4 tr2' hb2, dr_top R4 tr4 hc, hg, fun v F5 H5 n2 ft => q v F5 H5 (R4.news n2) (st1.trans (st2.trans (n.step.trans (st4.trans n2.step)))) (ft.tr R4 fun x hx => st1.g.free (st2.g.free (n.g.free (st4.g.free hx))))⟩
          | _ => simp only [Sat, ha, hb, hf] at S2
theorem de_chain {op op' : CmpOp} {f g : D → D → Option T} (ho : OpR X (compareOp op) (r2D B.K B.cl f)) (ho' : OpR X (compareOp op') (r2D B.K B.cl g)) (ha : PE X a (tD B W ma)) (hb : PE X b (tD B W mb)) (hc : PE X c (tD B W mc))
    (hm : lastMarks [op, op'] [b, c] = false := by with_unfolding_all rfl) : PE X (.Compare a [op, op'] [b, c] pos) (tD B W (mChain f g ma mb mc)) := pe_imp (pe_chain ho ho' ha hb hc hm) fun _ => t_chain
theorem dt_chain {op op' : CmpOp} {f g : D → D → Option T} (ho : OpR X (compareOp op) (r2D B.K B.cl f)) (ho' : OpR X (compareOp op') (r2D B.K B.cl g)) (ha : PE X a (tD B W ma)) (hb : PE X b (tD B W mb)) (hc : PE X c (tD B W mc))
    (hm : lastMarks [op, op'] [b, c] = false := by with_unfolding_all rfl) : PT X (.Compare a [op, op'] [b, c] pos) (tDB B W (mTe (mChain f g ma mb mc))) := pt_imp (pt_chain ho ho' ha hb hc hm) fun _ H Q h => t_chain H _ (tB_of H Q h)
end
/-! ### raise -/
def mRaise (c fld : Str) (m : ME) : MS := fun env => sq (fa m env) fun d e => .ex c [(fld, d)] e
theorem ds_raise {B : Bs} {W : WX} {X : Cx} {x fld : Str} {p pos pos2 : Pos} {e : Expr} {m : ME} (R : Rcl X.prog X.w X.K X.mg X.base x (B.cl x) fld) (hc : X.calm = true) (tk : Takes X W) (room : Room 2 X.A) (he : PE X e (tD B W m)) (hg : Gl X x := by rfl) (hdb : (x == ("__debug__" : Str)) = false := by decide)
    (hst : starEach [e] X.env = (false, eval e X.env) :: starEach [] X.env := by rfl) (hpl : (backTo pos (starEach [] X.env)).any (·.1) = false := by rfl) :
    PS X (.Raise (some (.Call (.Name x p) [e] [] pos)) none pos2) (tDS B W (mRaise x fld m)) :=
  ps_imp (ps_raise1 R hc tk room he hg hdb hst hpl) fun Dn σ H h => by
    obtain ⟨F, env, Rl, S⟩ := h
    refine tDD_fa σ H _ ⟨F, env, Rl, (SatS.of S).imp fun d e q v F1 H1 R1 st1 dr dx hd => ?_⟩
    have nw : News F1 H1 F1 (upd H1 dx (.xd [(fld, v)])) := News.new R1.fh hd
    exact q σ F1 _ dx _ (R1.news nw) upd_same (.cons dr .nil)
/-! ### x += e -/
def mAug (i : Nat) (f : Int → Int → Int) (m : ME) : MS := fun env => match slot env i with
  | some (.d (.int a)) => sq (fa m env) fun d e => match d with
    | .int b => if i < e.length then .nx (e.set i (some (.d (.int (f a b))))) else .no
    | _ => .no
  | _ => .no
theorem ds_aug {B : Bs} {W : WX} {X : Cx} (i : Nat) {x : Str} {e : Expr} {op : Operator} {f : Int → Int → Int} {m : ME} {pos pos' : Pos} (hN : X.N.Nodup) (hi : X.N[i]? = some x) (hx : Loc X.env.scope x) (he : PE X e (tD B W m)) (ho : PIp X op (ipI f)) (hb : B.fx.all (fun q => q.1 != i) = true := by rfl)
    (hf : X.fn x = true ∨ X.env.scope.names.lookup x = some .local := by first | exact .inl rfl | exact .inr rfl | assumption) : PS X (.AugAssign (.Name x pos') op e pos) (tDS B W (mAug i f m)) :=
  ps_imp (ps_aug hN hi hx he ho hf) fun Dn σ H h => by
    obtain ⟨F, env, R, S⟩ := h
    unfold mAug at S
    cases hs : slot env i with
    | none => rw [hs] at S; exact S.elim
    | some s =>
      obtain ⟨v, h1, h2⟩ := R.sl i s (slot_some hs)
      refine ⟨v, h1, ?_⟩
      cases s with
      | o d => rw [hs] at S; exact S.elim
      | b d => rw [hs] at S; exact S.elim
      | d d =>
        cases d with
        | int a =>
          rw [hs] at S
          have h2 : DR B.K B.cl F v (.int a) := h2
          cases h2
          refine tDD_fa σ H _ ⟨F, env, R, (SatS.of S).imp fun d e q v F1 H1 R1 st1 dr => ?_⟩
          cases d with
          | int b =>
            cases dr
            dsimp only at q
            split at q
            · rename_i hl
              exact ⟨a, b, rfl, rfl, q _ F1 H1 (R1.set (s := .d (.int (f a b))) DR.int hl hb fun a m => nomatch m) st1.g.f⟩
            · exact q.elim
          | _ => exact q.elim
        | _ => rw [hs] at S; exact S.elim
/-! ### defs that know of no guard -/
/-- .. that raises nothing -/
def runG (n : Nat) (io : List Nat) (m : MS) : MF := fun ss => match m (ss.map some ++ List.replicate (n - ss.length) none) with
  | .nx e => .ok (.d .non) (backOf io e)
  | .rt r e => .ok r (backOf io e)
  | _ => .no
section
variable {P : Program} {w : World} {K : PySem.W.Frag} {mg : Str → Option Value} {base : Heap} {cl : Str → Addr}
theorem fn_okG {x qual : Str} {st : Stmt} {f : Addr} {fd : FuncData} {N ps : List Str} {k : Nat} {io : List Nat} {m : MS} (Fn : Fun K x qual st f fd) (S : FnScope N ps (defScope st))
    (body : ∀ (cdv : Value) (A : Around) (outer : List PySem.Env) (s : Shared) (H F : Hp) (vs : List V) (E : XK), Room k (A.deeper (envOfC qual (defScope st) s.heap.objs.size f cdv)) → A.guards = some [] →
      PSs (cxOf CX0 P w K mg base N qual (defScope st) f cdv A outer s H E).nox (defBody st) (tDS (bsOf K cl H F io vs) WF m)) :
    FnG P w K mg base CX0 (k + 1) f fd ps (spF K cl io ps.length (runG N.length io m)) := by
  refine Own.Fun.okG Fn S (fun vs H Q E h => h.1) (fun cdv A outer s H vs Q E hr gd h => ?_)
  obtain ⟨hl, F, ss, sF, AO, h⟩ := h
  have hN : vs.length ≤ N.length := by
    have := congrArg List.length S.pre
    rw [List.length_take] at this
    omega
  refine ⟨_, body cdv A outer s H F vs E hr gd, F, _, rel_start sF AO hN, ?_⟩
  have gr : ∀ {e : Env} {F' H' : Hp} {σ' : L2.St}, Rel (bsOf K cl H F io vs) e F' H' σ' → Grow (Lent io vs) F H F' H' := fun R => R.gr.imp fun b z => (lent_iff AO b).mpr z
  unfold runG at h
  cases hm : m (ss.map some ++ List.replicate (N.length - ss.length) none) with
  | nx e =>
    rw [hm] at h
    exact fun σ' F' H' R _ => h .non F' H' R.fh (gr R) (back_ok (N := N) AO R) .non
  | rt r e =>
    rw [hm] at h
    refine fun v σ' F' H' R rr => h v F' H' R.fh (gr R) (back_ok (N := N) AO R) ?_
    cases r with
    | d d => exact rr
    | o d => exact rr
    | b d => exact rr
  | ex c fs e => rw [hm] at h; exact h.elim
  | bk e => rw [hm] at h; exact h.elim
  | ct e => rw [hm] at h; exact h.elim
  | no => rw [hm] at h; exact h.elim
end
section
variable {B : Bs} {W : WX} {X : Cx} {k : Nat} {x : Str} {ps : List Str} {io : List Nat} {n : Nat} {mf : MF} {m : MI} {p pos : Pos} {e : Expr} {es : List Expr}
theorem de_callG (C : CalG X.prog X.w X.K X.mg X.base k x ps (spF B.K B.cl io n mf)) (room : Room k X.A) (gd : X.A.guards = some []) (ha : PA X (e :: es) (tDI B WF m)) (hg : Gl X x := by rfl) (hdb : (x == ("__debug__" : Str)) = false := by decide)
    (he : starEach (e :: es) X.env = (false, eval e X.env) :: starEach es X.env := by rfl) (hpl : (backTo pos (starEach es X.env)).any (·.1) = false := by rfl) :
    PE X (.Call (.Name x p) (e :: es) [] pos) (tD B WF (mCall mf io n m)) := pe_imp (pe_calG C room gd ha hg hdb he hpl) fun σ H Q h => by
  have h := call_ok H Q h
  obtain ⟨F, env, R, S⟩ := h
  refine ⟨F, env, R, S.imp fun as e q vs F' H' R' st ar => ?_⟩
  show spF B.K B.cl io n mf (vs ++ []) H' Q E0
  rw [List.append_nil]
  exact q vs F' H' R' st ar
end
/-! ### functions of a module -/
section
variable {B : Bs} {W : WX} {X : Cx} {K : PySem.W.Frag} {cl : Str → Addr} {a b : Expr} {m n : ME} {x : Str} {id : String} {p pos : Pos} {f2 : D → D → Option DL.T}
theorem de_bf2 (hc : CallR X (.builtin id) (rc2 (r2D B.K B.cl f2))) (hm : X.mg x = some (.builtin id)) (ha : PE X a (tD B W m)) (hb : PE X b (tD B W n)) (hg : Gl X x := by rfl) (hdb : (x == ("__debug__" : Str)) = false := by decide)
    (he : starEach [a, b] X.env = (false, eval a X.env) :: starEach [b] X.env := by rfl) (he2 : starEach [b] X.env = (false, eval b X.env) :: starEach [] X.env := by rfl) (hpl : (backTo pos (starEach [b] X.env)).any (·.1) = false := by rfl) : PE X (.Call (.Name x p) [a, b] [] pos) (tD B W (mBin f2 m n)) :=
  pe_imp (pe_callBfun hc hg hm (pa_cons ha (pa_cons hb pa_nil he2) he) hdb he hpl) fun σ H Q h => by
    obtain ⟨F, env, R, S⟩ := t_bin H Q h
    refine ⟨F, env, R, S.imp fun t e q v F1 H1 R1 st tr => ?_⟩
    obtain ⟨F2, env2, R2, S2⟩ := q v F1 H1 R1 st tr
    exact ⟨F2, env2, R2, S2.imp fun t2 e2 q2 v2 F3 H3 R3 st3 tr3 => ⟨v, v2, rfl, q2 v2 F3 H3 R3 st3 tr3⟩⟩
theorem lt_of_log2 {n k : Nat} (h : n.log2 < k) : n < 2 ^ k := by
  by_cases z : n = 0
  · rw [z]
    exact Nat.two_pow_pos k
  · exact (Nat.log2_lt z).mp h
theorem cd_lcm : CallR X (.builtin "math.lcm") (rc2 (r2D K cl lcmD)) := by
  rintro pins s σ H xs us Q I r ⟨x, y, rfl, F, a, b, t, sF, ha, hb, e, q⟩
  cases ha with
  | @int i =>
    cases hb with
    | @int j =>
      have e : (if i.natAbs.log2 < 13000 ∧ j.natAbs.log2 < 13000 then some (T.v (.int ((i.natAbs.lcm j.natAbs : Nat) : Int))) else none) = some t := e
      split at e
      · rename_i hb
        cases e
        obtain ⟨t1, t2, rfl⟩ := Vals.int2 r
        have hb' := hb
        have hb : i.natAbs < 2 ^ 13000 ∧ j.natAbs < 2 ^ 13000 := ⟨lt_of_log2 hb'.1, lt_of_log2 hb'.2⟩
        have l1 : (max 1 i.natAbs).log2 < 13000 := by
          rcases Nat.le_total 1 i.natAbs with h | h
          · rw [Nat.max_eq_right h]; exact hb'.1
          · rw [Nat.max_eq_left h]; decide
        have l2 : (max i.natAbs j.natAbs).log2 < 13000 := by
          rcases Nat.le_total i.natAbs j.natAbs with h | h
          · rw [Nat.max_eq_right h]; exact hb'.2
          · rw [Nat.max_eq_left h]; exact hb'.1
        have e1 : (Nat.lcm 1 i.natAbs).lcm j.natAbs = i.natAbs.lcm j.natAbs := by rw [PySem.W.mc_lcm_one]
        have sz : ((((Nat.lcm 1 i.natAbs).lcm j.natAbs : Nat) : Int)).natAbs.log2 < bitsLine := by
          rw [Int.natAbs_natCast, e1]
          have h1 : i.natAbs.lcm j.natAbs ≤ i.natAbs * j.natAbs := PySem.W.mc_lcm_le _ _
          have h2 : i.natAbs * j.natAbs < 2 ^ 26000 := by
            rw [show (26000 : Nat) = 13000 + 13000 from rfl, Nat.pow_add]
            exact Nat.mul_lt_mul'' hb.1 hb.2
          have := PySem.Flt.log2_lt_of (n := i.natAbs.lcm j.natAbs) (k := 26000) (by decide) (Nat.lt_of_le_of_lt h1 h2)
          have e : bitsLine = 134217728 := by decide
          omega
        have g := PySem.W.mg_run_lcm i t1 j t2 (by omega) (by omega) sz
        rw [e1] at g
        exact call_function_meets PySem.W.MGF.kind_lcm PySem.W.MGF.plain_lcm PySem.W.MGF.entry_lcm (PySem.W.MGF.args_lcm _ _) g.meets ⟨.int _, H, I.tok _, ⟨_, rfl⟩, q _ F H (.refl sF) .int⟩
      · cases e
    | _ => cases e
  | _ => cases e
end
end DL
set_option Elab.async false
set_option linter.all false
set_option maxRecDepth 100000
set_option maxHeartbeats 4000000
namespace DL
open PySem PySem.Spec PyProof.Rows L2 Own
section
variable {B : Bs} {W : WX} {X : Cx} {σ : L2.St}
/-- what stands in a slot that may be written -/
theorem Rel.mutL {env : Env} {F H : Hp} (R : Rel B env F H σ) {i : Nat} {s : SV} {ds : List D} (hs : slot env i = some s) (hm : s.mut = true) (hv : s.val = .lst ds) : ∃ a vs, σ[i]? = some (some (.ref a)) ∧ F a = none ∧ H a = some (.lst vs) ∧ DRs B.K B.cl F vs ds := by
  obtain ⟨v, h1, h2⟩ := R.sl i s (slot_some hs)
  obtain ⟨o, _⟩ := h2.own hm
  rw [hv] at o
  cases o with
  | @lst a vs _ fa ha r => exact ⟨a, vs, h1, fa, ha, r⟩
/-- x[k] = e -/
def mSetIx (i : Nat) (mi mv : ME) : MS := fun env => sq (fa mv env) fun d e1 => if (slot e1 i).isSome = true then sq (fa mi e1) fun k e2 => match slot e2 i with
  | some s => match s.val, k with
    | .lst ds, .int j => match ixN ds.length j with
      | some n => if s.mut = true then .nx (e2.set i (some (s.put (.lst (ds.set n d))))) else .no
      | none => .no
    | _, _ => .no
  | none => .no else .no
theorem ds_setIx (i : Nat) {x : Str} {e b : Expr} {mi mv : ME} {p pos pos2 : Pos} (hv : PE X e (tD B W mv)) (hi : PE X b (tD B W mi)) (hN : X.N[i]? = some x := by rfl) (hx : Vis X.env.scope x := by first | exact Or.inl rfl | exact Or.inr (Or.inl rfl) | exact Or.inr (Or.inr rfl)) (hd : (x == ("__debug__" : Str)) = false := by decide)
    (hcd : (x == ("__classdict__" : Str)) = false := by decide)
    (ha : ∀ v, assign (.Subscript (.Name x p) b pos) X.env v = (do
      let ov ← holding [v] (eval (.Name x p) X.env)
      let iv ← holding [v, ov] (eval b X.env)
      standAt pos
      holding [v, ov, iv] (setItem ov iv v)
      release [v, ov, iv] []) := by intro _; rfl)
    (hs : swapsWithSole [.Subscript (.Name x p) b pos] e pos2.line X.env = pure false := by rfl) (hw : swappedStores [.Subscript (.Name x p) b pos] e X.env = pure none := by rfl)
    (h1 : (assignEach [.Subscript (.Name x p) b pos] X.env).map (·.2) = [assign (.Subscript (.Name x p) b pos) X.env] := by rfl) : PS X (.Assign [.Subscript (.Name x p) b pos] e pos2) (tDS B W (mSetIx i mi mv)) :=
  ps_imp (ps_asg hv (pg_sub (pe_var hN hx hd hcd) hi set_list ha) hs hw h1) fun Dn σ H h => by
    obtain ⟨F, env, R, S⟩ := h
    refine tDD_fa σ H _ ⟨F, env, R, (SatS.of S).imp fun d e1 S2 v F1 H1 R1 st1 dr => ?_⟩
    by_cases hj : (slot e1 i).isSome = true
    case neg =>
      rw [if_neg hj] at S2
      exact S2.elim
    rw [if_pos hj] at S2
    obtain ⟨s1, hs1⟩ := Option.isSome_iff_exists.mp hj
    obtain ⟨o, ho, _⟩ := R1.sl i s1 (slot_some hs1)
    refine ⟨o, ho, tDD_fa σ H1 _ ⟨F1, e1, R1, (SatS.of S2).imp fun k e2 q w F2 H2 R2 st2 kr => ?_⟩⟩
    cases hs : slot e2 i with
    | none => simp only [hs] at q; exact q.elim
    | some s =>
      simp only [hs] at q
      cases hv : s.val with
      | lst ds =>
        cases k with
        | int j =>
          simp only [hv] at q
          cases hx : ixN ds.length j with
          | none => simp only [hx] at q; exact q.elim
          | some n =>
            simp only [hx] at q
            by_cases hm : s.mut = true
            · rw [if_pos hm] at q
              cases kr
              obtain ⟨a, vs, h1, fa, ha, r⟩ := R2.mutL hs hm hv
              rw [ho] at h1
              cases h1
              obtain ⟨R3, st3⟩ := R2.write (o := .lst (vs.set n v)) (slot_some hs) hm ho (.lst fa upd_same ((r.set (dr.mono st2.g.f) n)))
              exact ⟨a, vs, j, n, rfl, rfl, ha, by rw [r.length]; exact hx, q _ F2 _ R3 (st1.g.f.trans st2.g.f)⟩
            · rw [if_neg hm] at q
              exact q.elim
        | _ => simp only [hv] at q; exact q.elim
      | _ => simp only [hv] at q; exact q.elim
/-- x.append(e) -/
def mApp (i : Nat) (m : ME) : ME := fun env => if (slot env i).isSome = true then (fa m env).bind fun p => match slot p.2 i with
  | some s => match s.val with
    | .lst ds => if s.mut = true ∧ ds.length < 1000000 then .ok (.v .non, p.2.set i (some (s.put (.lst (ds ++ [p.1]))))) else .no
    | _ => .no
  | none => .no else .no
end
end DL
set_option Elab.async false
set_option linter.all false
set_option maxRecDepth 100000
set_option maxHeartbeats 4000000
/-! zip of lists and tuples in any mix -/
namespace DL
open PySem PySem.Spec PyProof.Rows L2 Own
/-- a list (true) or a tuple (false) -/
def SqK (t : Bool) (K : PySem.W.Frag) (H : Hp) (a : Addr) (xs : List V) : Prop := match t with
  | true => SqL K H a xs
  | false => SqT K H a xs
def isSeq (t : Bool) (h : Heap) (a : Addr) (its : Array Value) : Prop := match t with
  | true => h.IsList a its
  | false => h.IsTuple a its
def isIter (t : Bool) (h : Heap) (it a : Addr) (i : Nat) : Prop := match t with
  | true => h.IsListIter it a i
  | false => h.IsTupleIter it a i
def itObj (t : Bool) (a : Addr) : Obj := match t with
  | true => { cls := .type "list_iterator", data := .fields #[.ref a, .int 0 0] }
  | false => { cls := .type "tuple_iterator", data := .fields #[.ref a, .int 0 0] }
theorem begins_k (t : Bool) (a : Addr) (its : Array Value) : Begins (.ref a) (itObj t a) fun h => isSeq t h a its := by
  cases t with
  | true => exact begins_list a its
  | false => exact begins_tuple a its
theorem iter_new {t : Bool} {h : Heap} {it a : Addr} (e : h.get? it = some (itObj t a)) : isIter t h it a 0 := by
  cases t with
  | true => exact ⟨_, e, rfl, rfl⟩
  | false => exact ⟨_, e, rfl, rfl⟩
theorem isIter.obj {t : Bool} {h : Heap} {it a : Addr} {i : Nat} (x : isIter t h it a i) : ∃ o f, h.get? it = some o ∧ o.data = .fields f := by
  cases t with
  | true => obtain ⟨o, e, _, d⟩ := x; exact ⟨o, _, e, d⟩
  | false => obtain ⟨o, e, _, d⟩ := x; exact ⟨o, _, e, d⟩
theorem isIter.at {t : Bool} {h h' : Heap} {it a : Addr} {i : Nat} (x : isIter t h it a i) (k : ∀ o, h.get? it = some o → h'.get? it = some o) : isIter t h' it a i := by
  cases t with
  | true => exact Heap.IsListIter.at x k
  | false => exact Heap.IsTupleIter.at x k
theorem iter_ne_seq {t t2 : Bool} {h : Heap} {it a : Addr} {i : Nat} {its : Array Value} (x : isIter t h it a i) (p : isSeq t2 h a its) : a ≠ it := by
  rintro rfl
  have e1 : ∃ o, h.get? a = some o ∧ (o.cls = .type "list_iterator" ∨ o.cls = .type "tuple_iterator") := by
    cases t with
    | true => obtain ⟨o, e, c, _⟩ := x; exact ⟨o, e, .inl c⟩
    | false => obtain ⟨o, e, c, _⟩ := x; exact ⟨o, e, .inr c⟩
  have e2 : ∃ o, h.get? a = some o ∧ (o.cls = .type "list" ∨ o.cls = .type "tuple") := by
    cases t2 with
    | true => obtain ⟨o, e, c, _⟩ := p; exact ⟨o, e, .inl c⟩
    | false => obtain ⟨o, e, c, _⟩ := p; exact ⟨o, e, .inr c⟩
  obtain ⟨o, e, c⟩ := e1
  obtain ⟨o', e', c'⟩ := e2
  rw [e] at e'
  cases e'
  rcases c with c | c <;> rcases c' with c' | c' <;> (rw [c] at c'; revert c'; decide)
theorem draws_k {prog : Program} {w : World} {A : Around} (t : Bool) (hh : A.handled = none) (it l : Addr) (hne : l ≠ it) (items : Array Value) :
    Draws prog w A it [it, l] items.size (fun i v => items[i]? = some v) (fun i h => isIter t h it l i ∧ isSeq t h l items) := by
  cases t with
  | true => exact .list hh it l hne items
  | false => exact .tuple hh it l hne items
theorem seq_of {X : Cx} {pins : List (Addr × Obj)} {σ : L2.St} {H : Hp} {s : Shared} (I : L2.Inv X pins σ H s) {t : Bool} {a : Addr} {xs : List V} (h : SqK t X.K H a xs) : ∃ its : List Value, Vals xs its ∧ isSeq t s.heap a its.toArray := by
  cases t with
  | true => obtain ⟨its, rv, p, _⟩ := I.list h; exact ⟨its, rv, p.isList⟩
  | false => obtain ⟨its, rv, p, _⟩ := I.tuple h; exact ⟨its, rv, p⟩
theorem seq_inj {X : Cx} {pins : List (Addr × Obj)} {σ : L2.St} {H : Hp} {s : Shared} (I : L2.Inv X pins σ H s) {t : Bool} {a : Addr} {xs ys : List V} (h : SqK t X.K H a xs) (h2 : SqK t X.K H a ys) : xs = ys := by
  cases t with
  | true => exact I.list_inj h h2
  | false => exact I.tuple_inj h h2
/-- what stands at a and b at each turn, the items in new pairs -/
def ItzK (t1 t2 : Bool) (K : PySem.W.Frag) (a b : Addr) : It :=
  ⟨fun i H => ∃ (xs ys : List V) (x y : V), SqK t1 K H a xs ∧ SqK t2 K H b ys ∧ xs[i]? = some x ∧ ys[i]? = some y,
    fun i H v H' => ∃ T x y, v = .ref T ∧ H T = none ∧ H' = upd H T (.tup [x, y]) ∧ (∀ xs, SqK t1 K H a xs → xs[i]? = some x) ∧ ∀ ys, SqK t2 K H b ys → ys[i]? = some y,
    fun i H => ∃ xs ys : List V, SqK t1 K H a xs ∧ SqK t2 K H b ys ∧ ((i = xs.length ∧ i ≤ ys.length) ∨ (i = ys.length ∧ i ≤ xs.length))⟩
structure ZAp (z TI TO i1 i2 a b : Addr) : Prop where
  TIz : TI ≠ z
  TOz : TO ≠ z
  TITO : TI ≠ TO
  TIi1 : TI ≠ i1
  TIi2 : TI ≠ i2
  TOi1 : TO ≠ i1
  TOi2 : TO ≠ i2
  zi1 : z ≠ i1
  zi2 : z ≠ i2
  i12 : i1 ≠ i2
  az : z ≠ a
  bz : z ≠ b
  aT : TO ≠ a
  bT : TO ≠ b
  i1a : i1 ≠ a
  i1b : i1 ≠ b
  i2a : i2 ≠ a
  i2b : i2 ≠ b
theorem ZAp.sep {z TI TO i1 i2 a b : Addr} (D : ZAp z TI TO i1 i2 a b) : ZipSep2 z TI TO i1 i2 [i1, a] [i2, b] where
  TIz := D.TIz
  TOz := D.TOz
  TITO := D.TITO
  TIi1 := D.TIi1
  mem1 := by simp
  zf1 := by simp [D.zi1, D.az]
  Tf1 := by simp [D.TOi1, D.aT]
  TIi2 := D.TIi2
  mem2 := by simp
  zf2 := by simp [D.zi2, D.bz]
  Tf2 := by simp [D.TOi2, D.bT]
  sep1_2 := by simp [D.i12, D.i1b]
  sep2_1 := by simp [Ne.symm D.i12, D.i2a]
theorem turn_zipK {P : Program} {w : World} {K : PySem.W.Frag} {elts : List Expr} {kk : Nat} {tpos : Pos} {t1 t2 : Bool} {a b z TI TO i1 i2 : Addr} (D : ZAp z TI TO i1 i2 a b) :
    Turn P w K (.Tuple elts kk tpos) (ItzK t1 t2 K a b) [z, TI, TO, i1, i2] z (fun i h => IsZip h z TI TO .none ∧ IsTupOf2 h TI (.ref i1) (.ref i2) ∧ (∃ x y, IsTupOf2 h TO x y) ∧ isIter t1 h i1 a i ∧ isIter t2 h i2 b i) where
  mem := by simp
  obj := fun i h st c hc => by
    obtain ⟨hz, hTI, ⟨x, y, hTO⟩, q1, q2⟩ := st
    obtain ⟨o1, f1, e1, d1⟩ := q1.obj
    obtain ⟨o2, f2, e2, d2⟩ := q2.obj
    have e' : c = z ∨ c = TI ∨ c = TO ∨ c = i1 ∨ c = i2 := by simpa using hc
    rcases e' with q | q | q | q | q
    · rw [q]; exact ⟨_, hz, fun v q => nomatch q⟩
    · rw [q]; exact ⟨_, hTI, fun v q => nomatch q⟩
    · rw [q]; exact ⟨_, hTO, fun v q => nomatch q⟩
    · rw [q]; exact ⟨o1, e1, fun v q => by rw [d1] at q; cases q⟩
    · rw [q]; exact ⟨o2, e2, fun v q => by rw [d2] at q; cases q⟩
  keep := fun i h h' st k => by
    obtain ⟨hz, hTI, ⟨x, y, hTO⟩, h1, h2⟩ := st
    exact ⟨k z (by simp) _ hz, k TI (by simp) _ hTI, ⟨x, y, k TO (by simp) _ hTO⟩, h1.at fun o q => k i1 (by simp) o q, h2.at fun o q => k i2 (by simp) o q⟩
  item := by
    intro X hP hw hK hc i pins s σ H E I hf st hg
    subst hP hw hK
    obtain ⟨hz, hTI, ⟨x0, y0, hTO⟩, h1, h2⟩ := st
    obtain ⟨xs, ys, x, y, hqx, hqy, hx, hy⟩ := hg
    obtain ⟨its, rv, p⟩ := seq_of I hqx
    obtain ⟨its2, rv2, p2⟩ := seq_of I hqy
    obtain ⟨u, hu, ru⟩ := rv.get hx
    obtain ⟨u2, hu2, ru2⟩ := rv2.get hy
    have hzl : z < s.heap.objs.size := Heap.lt_size hz
    have lt1 : i < its.toArray.size := by have := (List.getElem?_eq_some_iff.mp hu).1; simpa using this
    have lt2 : i < its2.toArray.size := by have := (List.getElem?_eq_some_iff.mp hu2).1; simpa using this
    refine wpAny_pyNext_zipD2_item D.sep (draws_k (prog := X.prog) (w := X.w) (A := X.A.in1) t1 (I.ok.hd hc) i1 a (Ne.symm D.i1a) its.toArray) (draws_k (prog := X.prog) (w := X.w) (A := X.A.in1) t2 (I.ok.hd hc) i2 b (Ne.symm D.i2b) its2.toArray) hz hTI hTO ⟨h1, p⟩ ⟨h2, p2⟩ lt1 lt2 fun x1 x2 h' tk hx1 hx2 z' TO' st1 st2 hT hsz hk => ?_
    have e1 : x1 = u := by
      have hP : its.toArray[i]? = some x1 := hx1
      rw [List.getElem?_toArray, hu] at hP
      cases hP
      rfl
    have e2 : x2 = u2 := by
      have hP : its2.toArray[i]? = some x2 := hx2
      rw [List.getElem?_toArray, hu2] at hP
      cases hP
      rfl
    subst e1
    subst e2
    obtain ⟨h1', p1'⟩ := st1
    obtain ⟨h2', p2'⟩ := st2
    refine ⟨_, rfl, wpAny_letOwnedTupleGo_zip (s := { s with heap := h', toks := tk }) z' fun h'' z'' sb => ?_⟩
    have hT2 : h''.get? s.heap.objs.size = some { cls := .type "tuple", data := .seq #[x1, x2] } := (sb.2 _ (Nat.ne_of_gt hzl)).trans hT
    have new : ObjOk X.prog X.w (upd H s.heap.objs.size (.tup [x, y])) h'' s.heap.objs.size (.tup [x, y]) :=
      ⟨by show 2 ≤ sizeLine; decide, [x1, x2], .cons ru (.cons ru2 .nil), ⟨_, hT2, rfl, _, rfl⟩⟩
    have I1 : L2.Inv X pins σ (upd H s.heap.objs.size (.tup [x, y])) { s with heap := h'', toks := tk } :=
      I.turnedNew (ch := [z, TI, TO, i1, i2]) (fun c o hb q => (sb.2 c (fun q' => hb (by simp [q']))).trans (hk c o (fun q' => hb (by simp [q'])) (fun q' => hb (by simp [q'])) (fun q' => hb (by simp [q'])) (fun q' => hb (by simp [q'])) q)) hf (Nat.le_refl _) new
    refine ⟨.ref s.heap.objs.size, _, I1, rfl, ⟨_, x, y, rfl, I.hok.fresh (Nat.le_refl _), rfl, fun l hl => by rw [seq_inj I hl hqx]; exact hx, fun l hl => by rw [seq_inj I hl hqy]; exact hy⟩, ⟨z'', ?_, ⟨x1, x2, ?_⟩, ?_, ?_⟩, fun c hcm => ?_⟩
    · exact (sb.2 _ D.TIz).trans (hk _ _ D.TIz D.TITO D.TIi1 D.TIi2 hTI)
    · exact (sb.2 _ D.TOz).trans TO'
    · exact h1'.at fun o q => (sb.2 _ (Ne.symm D.zi1)).trans q
    · exact h2'.at fun o q => (sb.2 _ (Ne.symm D.zi2)).trans q
    · have hlt : c < s.heap.objs.size := by
        have e' : c = z ∨ c = TI ∨ c = TO ∨ c = i1 ∨ c = i2 := by simpa using hcm
        rcases e' with q | q | q | q | q
        · rw [q]; exact hzl
        · rw [q]; exact Heap.lt_size hTI
        · rw [q]; exact Heap.lt_size hTO
        · rw [q]; obtain ⟨_, _, e1, _⟩ := h1.obj; exact Heap.lt_size e1
        · rw [q]; obtain ⟨_, _, e2, _⟩ := h2.obj; exact Heap.lt_size e2
      rw [upd_ne (Nat.ne_of_lt hlt)]
      exact (hf c hcm).1
  done := by
    intro X hP hw hK hc i pins s σ H E I hf st hg
    subst hP hw hK
    obtain ⟨hz, hTI, ⟨x0, y0, hTO⟩, h1, h2⟩ := st
    obtain ⟨xs, ys, hqx, hqy, hend⟩ := hg
    obtain ⟨its, rv, p⟩ := seq_of I hqx
    obtain ⟨its2, rv2, p2⟩ := seq_of I hqy
    have l1 := rv.length
    have l2 := rv2.length
    have s1 : its.toArray.size = xs.length := by simp; omega
    have s2 : its2.toArray.size = ys.length := by simp; omega
    exact wpAny_pyNext_zipD2_end D.sep (draws_k (prog := X.prog) (w := X.w) (A := X.A.in1) t1 (I.ok.hd hc) i1 a (Ne.symm D.i1a) its.toArray) (draws_k (prog := X.prog) (w := X.w) (A := X.A.in1) t2 (I.ok.hd hc) i2 b (Ne.symm D.i2b) its2.toArray) hz hTI hTO ⟨h1, p⟩ ⟨h2, p2⟩ (by omega) (by omega) (by omega) fun h' tk hk => ⟨rfl, I.turnedL (t' := tk) (ch := [z, TI, TO, i1, i2]) (fun c o hb q =>
      hk c o (fun q' => hb (by simp [q'])) (fun q' => hb (by simp [q'])) (fun q' => hb (by simp [q'])) (fun q' => hb (by simp [q'])) q) hf⟩
  self := fun A i s Q E st h => wpAny_pyIter_zip st.1 h
def iZipK (K : PySem.W.Frag) (ta : TA) : TI := fun σ H R => ta σ H fun vs H1 => ∃ a b t1 t2 xs ys, vs = [.ref a, .ref b] ∧ SqK t1 K H1 a xs ∧ SqK t2 K H1 b ys ∧ R (ItzK t1 t2 K a b) H1
theorem isSeq.lt {t : Bool} {h : Heap} {a : Addr} {its : Array Value} (p : isSeq t h a its) : a < h.objs.size := by
  cases t with
  | true => obtain ⟨o, e, _⟩ := p; exact Heap.lt_size e
  | false => obtain ⟨o, e, _⟩ := p; exact Heap.lt_size e
theorem zap_new (n a b : Nat) (ha : a < n) (hb : b < n) : ZAp (n + 4) (n + 2) (n + 3) n (n + 1) a b := by
  constructor <;> (refine PySem.W.neN ?_; omega)
theorem pi_zipK {X : Cx} {e e2 : Expr} {ta : TA} {p pos tpos : Pos} {elts : List Expr} {kk : Nat} (hg : Gl X "zip") (hm : X.mg "zip" = none) (ha : PA X [e, e2] ta)
    (hs : starEach [e, e2] X.env = (false, eval e X.env) :: starEach [e2] X.env := by rfl) (hpl : (backTo pos (starEach [e2] X.env)).any (·.1) = false := by rfl) :
    PI X (.Tuple elts kk tpos) (.Call (.Name "zip" p) [e, e2] [] pos) (iZipK X.K ta) := by
  refine ⟨fun pins s σ H R I h => ?_⟩
  refine Call_ (ld_blt I hg hm PyProof.Rows.boot_zip (PyProof.Rows.callWith_type1 (thn (ha.run pos pins s σ H _ I h) fun us s1 ⟨vs, H1, I1, r1, q1⟩ => ?_) hs hpl))
  obtain ⟨a, b, t1, t2, xs, ys, ex, hqx, hqy, q⟩ := q1
  subst ex
  cases r1 with
  | cons r rr =>
    cases rr with
    | cons r' rr =>
      cases rr
      cases r
      cases r'
      obtain ⟨its, rv, p1⟩ := seq_of I1 hqx
      obtain ⟨its2, rv2, p2⟩ := seq_of I1 hqy
      refine zip_begins2 (begins_k t1 a its.toArray) (begins_k t2 b its2.toArray) p1 p2 fun h' hz hTI hTO h1 h2 hsz hk => wpAny_pyIter_zip hz ?_
      have I2 : L2.Inv X pins σ H1 { s1 with heap := h' } := I1.kept (t' := s1.toks) hk
      refine ⟨s1.heap.objs.size + 4, [s1.heap.objs.size + 4, s1.heap.objs.size + 2, s1.heap.objs.size + 3, s1.heap.objs.size, s1.heap.objs.size + 1], _, _, H1, rfl, I2, turn_zipK (zap_new s1.heap.objs.size a b p1.lt p2.lt), ⟨hz, hTI, ⟨_, _, hTO⟩, iter_new h1, iter_new h2⟩, fun c hcm => ?_, q⟩
      have e' : c = s1.heap.objs.size + 4 ∨ c = s1.heap.objs.size + 2 ∨ c = s1.heap.objs.size + 3 ∨ c = s1.heap.objs.size ∨ c = s1.heap.objs.size + 1 := by simpa using hcm
      have hle : s1.heap.objs.size ≤ c := by
        rcases e' with z | z | z | z | z
        · rw [z]; exact Nat.le_add_right _ _
        · rw [z]; exact Nat.le_add_right _ _
        · rw [z]; exact Nat.le_add_right _ _
        · rw [z]; exact Nat.le_refl _
        · rw [z]; exact Nat.le_add_right _ _
      exact I1.fpOk hle (I1.hok.fresh hle)
theorem SqK.same {t : Bool} {B : Bs} {F F' : Hp} {a : Addr} {xs : List V} (h : SqK t B.K F a xs) (s : Same F F') : SqK t B.K F' a xs := by
  cases t with
  | true => exact sql_same s h
  | false => exact sqt_same s h
theorem itzK_gives {B : Bs} {F' H' : Hp} {t1 t2 : Bool} {a b : Addr} {vs us : List V} {ds es : List D} (h : SqK t1 B.K H' a vs) (r : DRs B.K B.cl F' vs ds) (h2 : SqK t2 B.K H' b us) (r2 : DRs B.K B.cl F' us es) (s : Same F' H') : Gives B (ItzK t1 t2 B.K a b) F' H' (zipD ds es) := by
  unfold zipD
  refine ⟨⟨vs, us, h, h2, ?_⟩, fun i d hd => ?_⟩
  · rw [List.length_zipWith, r.length, r2.length]
    omega
  · rw [List.getElem?_zipWith] at hd
    cases hd1 : ds[i]? with
    | none => rw [hd1] at hd; cases hd
    | some d1 =>
      cases hd2 : es[i]? with
      | none => rw [hd1, hd2] at hd; cases hd
      | some d2 =>
        rw [hd1, hd2] at hd
        cases hd
        obtain ⟨v, hv, dr⟩ := r.get hd1
        obtain ⟨u, hu, dr2⟩ := r2.get hd2
        refine ⟨⟨vs, us, v, u, h, h2, hv, hu⟩, fun x H'' y => ?_⟩
        obtain ⟨Tt, v', u', rfl, hT, rfl, hx, hy⟩ := y
        have e1 := hx vs h
        have e2 := hy us h2
        rw [hv] at e1
        rw [hu] at e2
        cases e1
        cases e2
        have n : News F' H' (upd F' Tt (.tup [v, u])) (upd H' Tt (.tup [v, u])) := News.frz s hT
        exact ⟨_, n, .tup (.of upd_same) (.cons (dr.mono n.g.f) (.one (dr2.mono n.g.f)))⟩
def sqOf : D → Option (Bool × List D)
  | .lst ds => some (true, ds)
  | .tup ds => some (false, ds)
  | _ => none
theorem sqOf_dr {B : Bs} {F : Hp} {v : V} {d : D} {q : Bool × List D} (dr : DR B.K B.cl F v d) (h : sqOf d = some q) : ∃ a vs, v = .ref a ∧ SqK q.1 B.K F a vs ∧ DRs B.K B.cl F vs q.2 := by
  cases dr with
  | lst h1 h2 => cases h; exact ⟨_, _, rfl, .of h1, h2⟩
  | tup h1 h2 => cases h; exact ⟨_, _, rfl, h1, h2⟩
  | _ => cases h
/-- zip of lists and tuples, frozen -/
def mZipK (m n : ME) : MIt := fun env => (fa m env).bind fun p => (fa n p.2).bind fun q => match sqOf p.1, sqOf q.1 with
  | some x, some y => .ok ((zipD x.2 y.2, none), q.2)
  | _, _ => .no
theorem dit_zipK {B : Bs} {W : WX} {X : Cx} {a b : Expr} {m n : ME} {pos p tpos : Pos} {elts : List Expr} {kk : Nat} (hK : X.K = B.K) (hm : X.mg "zip" = none) (ha : PE X a (tD B W m)) (hb : PE X b (tD B W n)) (hg : Gl X "zip" := by rfl) (hs : starEach [a, b] X.env = (false, eval a X.env) :: starEach [b] X.env := by rfl) (hs2 : starEach [b] X.env = (false, eval b X.env) :: starEach [] X.env := by rfl)
    (hpl : (backTo pos (starEach [b] X.env)).any (·.1) = false := by rfl) : PI X (.Tuple elts kk tpos) (.Call (.Name "zip" p) [a, b] [] pos) (tDIt B W (mZipK m n)) :=
  pi_imp (pi_zipK hg hm (pa_cons (pe_dd ha) (pa_cons (pe_dd hb) pa_nil hs2) hs) hs hpl) fun σ H R h => by
    obtain ⟨F, env, Rl, S⟩ := h
    refine ⟨F, env, Rl, (Sat.of S).imp fun d e S2 v F1 H1 R1 st1 dr => ?_⟩
    refine ⟨F1, e, R1, (Sat.of S2).imp fun d2 e2 q v2 F2 H2 R2 st2 dr2 => ?_⟩
    cases hd : sqOf d with
    | none => simp only [hd] at q; exact q.elim
    | some x =>
      cases hd2 : sqOf d2 with
      | none => simp only [hd, hd2] at q; exact q.elim
      | some y =>
        simp only [hd, hd2] at q
        obtain ⟨a1, vs, rfl, h1, h2⟩ := sqOf_dr dr hd
        obtain ⟨b1, us, rfl, g1, g2⟩ := sqOf_dr dr2 hd2
        rw [hK]
        have k1 := h1.same st2.g.f
        exact ⟨a1, b1, x.1, y.1, vs, us, rfl, k1.same R2.fh, g1.same R2.fh, q _ F2 H2 R2 (st1.trans st2) (fun e3 F3 H3 σ3 R3 s _ _ => itzK_gives ((k1.same s).same R3.fh) ((h2.mono st2.g.f).mono s) ((g1.same s).same R3.fh) (g2.mono s) R3.fh) trivial⟩
end DL
set_option Elab.async false
set_option linter.all false
set_option maxRecDepth 100000
set_option maxHeartbeats 4000000
namespace DL
open PySem PySem.Spec PyProof.Rows L2 Own
/-! ### a list or a tuple taken apart -/
def gTupK (n : Nat) (r : List D → DL.Env → Option DL.Env) : GT := fun d e => match d with
  | .tup ds => if ds.length = n then r ds e else none
  | .lst ds => if ds.length = n then r ds e else none
  | _ => none
def gSqV (K : PySem.W.Frag) (n : Nat) (t : TGs) : TG := fun v σ H Q => ∃ k a xs, v = .ref a ∧ SqK k K H a xs ∧ xs.length = n ∧ t xs σ H Q
section
variable {B : Bs} {X : Cx}
theorem pg_tupA {es : List Expr} {k : Nat} {t : TGs} {n : Nat} {pos : Pos} (hc : X.calm = true) (h : PGs X es t)
    (hn : (assignEach es X.env).length = n := by rfl) (hst : (assignEach es X.env).findIdx? (·.1) = none := by rfl) : PG X (.Tuple es k pos) (gSqV X.K n t) := by
  refine ⟨fun pins s σ H v u Q I r hw => ?_⟩
  obtain ⟨kd, a, xs, e1, hq, hl, hw⟩ := hw
  subst e1
  cases kd with
  | false => exact (pg_tup (pos := pos) (k := k) hc h hn hst).run pins s σ H _ u Q I r ⟨a, xs, rfl, hq, hl, hw⟩
  | true =>
    cases r
    obtain ⟨its, rv, ht, hz⟩ := I.list hq
    rw [assign_Tuple]
    refine wpAny_bind (wpAny_standAt ?_)
    unfold unpack
    rw [show (assignEach es X.env).length = its.toArray.size by simp [hn, ← hl, rv.length], hst]
    refine wpAny_bind (wpAny_holding (PySem.W.kun_itemsOf (I.ok.hd hc) ht.isList fun h' hx => ?_))
    have I1 : L2.Inv X pins σ H { s with heap := h' } := I.kept (t' := s.toks) fun b o e => hx b o (Nat.ne_of_lt (Heap.lt_size e)) e
    exact h.run pins _ σ H xs _ Q I1 (by simpa using rv) hw
theorem dg_tupK {es : List Expr} {k : Nat} {pos : Pos} {vs : List Nat} {n : Nat} {r : List D → DL.Env → Option DL.Env} (hK : X.K = B.K) (hc : X.calm = true) (h : PGs X es (tDGs B vs r))
    (hn : (assignEach es X.env).length = n := by rfl) (hst : (assignEach es X.env).findIdx? (·.1) = none := by rfl) : PG X (.Tuple es k pos) (tDG B vs (gTupK n r)) :=
  pg_imp (pg_tupA hc h hn hst) fun v σ H Q hh => by
    obtain ⟨F, env, d, e', R, dr, hg, q⟩ := hh
    cases dr with
    | @tup a us ds x1 x2 =>
      have hg : (if ds.length = n then r ds env else none) = some e' := hg
      by_cases hl : ds.length = n
      · rw [if_pos hl] at hg
        exact ⟨false, a, us, rfl, hK ▸ sqt_same R.fh x1, by rw [x2.length, hl], F, env, ds, e', R, x2, hg, q⟩
      · rw [if_neg hl] at hg
        cases hg
    | @lst a us ds x1 x2 =>
      have hg : (if ds.length = n then r ds env else none) = some e' := hg
      by_cases hl : ds.length = n
      · rw [if_pos hl] at hg
        exact ⟨true, a, us, rfl, hK ▸ (show SqL B.K H a us from .of (R.fh _ _ x1)), by rw [x2.length, hl], F, env, ds, e', R, x2, hg, q⟩
      · rw [if_neg hl] at hg
        cases hg
    | _ => cases hg
end
/-! ### f(k = v, ..) -/
theorem pk_imp {X : Cx} {kws : List Keyword} {t t' : TA} (h : PK X kws t) (i : ∀ σ H Q, t' σ H Q → t σ H Q) : PK X kws t' := ⟨fun pos pins s σ H Q I q => h.run pos pins s σ H Q I (i σ H Q q)⟩
section
variable {B : Bs} {W : WX} {X : Cx} {e : Expr} {kws : List Keyword} {m : ME} {r : MI} {kpos : Pos} {nm : Option Str}
theorem dk_nil : PK X [] (tDI B W iNil) := pk_imp pk_nil fun σ H Q h => by
  obtain ⟨F, env, R, S⟩ := h
  exact S [] F H R (.refl _ _ _ _) .nil
theorem dk_cons (ha : PE X e (tD B W m)) (hr : PK X kws (tDI B W r)) : PK X (⟨nm, e, kpos⟩ :: kws) (tDI B W (iCons m r)) := by
  refine pk_imp (pk_cons ha hr) fun σ H Q h => ?_
  obtain ⟨F, env, R, S⟩ := h
  refine tDD_fa σ H _ ⟨F, env, R, (Sat.of S).imp fun d e S2 v F1 H1 R1 st1 tr1 => ?_⟩
  exact ⟨F1, e, R1, (Sat.of S2).imp fun ds e2 q vs F2 H2 R2 st2 trs => q (v :: vs) F2 H2 R2 (st1.trans st2) (.cons (AR.mono (a := .d d) tr1 st2.g.f) trs)⟩
end
/-- the values in the parameters' order -/
def gI (n : Nat) (g : {α : Type} → List α → List α) (m : MI) : MI := fun env => (m env).bind fun p => if p.1.length = n then .ok (g p.1, p.2) else .no
theorem ARs.length {B : Bs} {F : Hp} {σ : L2.St} {vs : List V} {as : List AV} (h : ARs B F σ vs as) : vs.length = as.length := by
  induction h with
  | nil => rfl
  | cons _ _ ih => rw [List.length_cons, List.length_cons, ih]
section
variable {X : Cx} {k : Nat} {x : Str} {ps ks : List Str} {sp : Sp} {p pos : Pos} {kws : List Keyword} {tk : TA} {gV : List V → List V} {W : WX}
theorem run_fnNS {CX : CXT} {n : Nat} {f : Addr} {fd : FuncData} {E : L2.St → XK} {g : List Value → List Value → List Value} {gV : List V → List V → List V} {pins : List (Addr × Obj)} {σ : L2.St} {H : Hp} {s : Shared} {Q : VK} {us ws : List Value} {vs zs : List V} (F : FnOk X.prog X.w X.K X.mg X.base CX k f fd ps sp) (hr : Room k X.A) (hb : KBn X.K fd ps n ks g gV) (hx : PassesAt CX X σ (E σ))
    (I : L2.Inv X pins σ H s) (r : Vals vs us) (rz : Vals zs ws) (l1 : vs.length = n) (l2 : zs.length = ks.length) (h : sp (gV vs zs) H Q (E σ)) : wpAny (model X.prog X.w) X.A (call (.ref f) us (ks.zip ws)) (EP X pins σ Q) X.xe s := by
  have r2 := hb.rel r rz
  refine wpAny_call (codeAny_mono (F.run X.A X.stack s H ⟨us, ks.zip ws⟩ (g us ws) (gV vs zs) Q (E σ) hr I.env0 (hb.to s us ws I.kIn (r.length.symm.trans l1) (rz.length.symm.trans l2)) r2 h) fun r s' hq => ?_)
  cases r with
  | error e => exact hx pins H s e s' I hq
  | ok fl =>
    cases fl with
    | ret u => exact I.after hq
    | next => exact False.elim hq
    | brk => exact False.elim hq
    | cont => exact False.elim hq
def tKwS (m : Nat) (sp : Sp) (gV : List V → List V) (E : L2.St → XK) (tk : TA) : TE := fun σ H Q => tk σ H fun zs H2 => zs.length = m ∧ sp (gV zs) H2 Q (E σ)
theorem pe_calEK (C : CalXK X.prog X.w X.K X.mg X.base k x ps ks gV sp) (tk0 : Takes X W) (room : Room k X.A) (hkw : PK X kws tk) (hg : Gl X x := by rfl) (hall : (backToKw pos (keywordEach kws X.env)).all (·.1.isSome) = true := by rfl)
    (hks : (backToKw pos (keywordEach kws X.env)).filterMap (·.1) = ks := by rfl) (hdb : (x == ("__debug__" : Str)) = false := by decide)
    (hpl : ((backTo pos (starEach [] X.env)).any (·.1) || (backToKw pos (keywordEach kws X.env)).any (·.1.isNone)) = false := by rfl) :
    PE X (.Call (.Name x p) [] kws pos) (tKwS ks.length sp gV (fun σ => WE W σ) tk) := by
  obtain ⟨f, fd, g, F, m, kp, b⟩ := C.ex
  constructor
  intro pins s σ H Q I h
  refine wpAny_Call_Name_kw (ld_glob I hg m ?_ hdb)
  refine PySem.W.callWith_KW0 (h₀ := X.base) I.ok.mod.kin kp hall (thn (hkw.run pos pins s σ H _ I h) ?_) hpl
  rintro ws s2 ⟨zs, H2, I2, rz, l, q⟩
  refine ⟨I2.kIn, ?_⟩
  rw [hks]
  exact run_fnNS (vs := []) (us := []) (E := fun σ => WE W σ) F room b (passAt tk0 σ) I2 .nil rz rfl l q
end
section
variable {B : Bs} {W : WX} {X : Cx} {k : Nat} {x : Str} {ps ks : List Str} {io : List Nat} {n : Nat} {mf : MF} {m : MI} {p pos : Pos} {kws : List Keyword} {g : {α : Type} → List α → List α}
theorem de_callK {nk : Nat} (C : CalXK X.prog X.w X.K X.mg X.base k x ps ks (fun zs => g zs) (spF B.K B.cl io n mf)) (rel : ∀ {F : Hp} {σ : L2.St} {vs : List V} {as : List AV}, vs.length = nk → ARs B F σ vs as → ARs B F σ (g vs) (g as)) (tk : Takes X W) (room : Room k X.A) (ha : PK X kws (tDI B W m)) (hnk : ks.length = nk := by rfl) (hg : Gl X x := by rfl)
    (hall : (backToKw pos (keywordEach kws X.env)).all (·.1.isSome) = true := by rfl)
    (hks : (backToKw pos (keywordEach kws X.env)).filterMap (·.1) = ks := by rfl) (hdb : (x == ("__debug__" : Str)) = false := by decide)
    (hpl : ((backTo pos (starEach [] X.env)).any (·.1) || (backToKw pos (keywordEach kws X.env)).any (·.1.isNone)) = false := by rfl) :
    PE X (.Call (.Name x p) [] kws pos) (tD B W (mCall mf io n (gI nk g m))) := pe_imp (pe_calEK C tk room ha hg hall hks hdb hpl) fun σ H Q h => by
  subst hnk
  have h := call_ok H Q h
  obtain ⟨F, env, R, S⟩ := h
  refine ⟨F, env, R, (Sat.of S).imp fun as e q vs F1 H1 R1 st1 ar => ?_⟩
  by_cases hl : as.length = ks.length
  · rw [if_pos hl] at q
    exact ⟨by rw [ar.length, hl], q (g vs) F1 H1 R1 st1 (rel (by rw [ar.length, hl]) ar)⟩
  · rw [if_neg hl] at q
    exact q.elim
end
/-- two values, the other way round -/
def gSwap {α : Type} : List α → List α
  | [a, b] => [b, a]
  | l => l
def gId {α : Type} (l : List α) : List α := l
theorem rel_id {B : Bs} {F : Hp} {σ : L2.St} {vs : List V} {as : List AV} {n : Nat} (_ : vs.length = n) (h : ARs B F σ vs as) : ARs B F σ (gId vs) (gId as) := h
theorem rel_swap {B : Bs} {F : Hp} {σ : L2.St} {vs : List V} {as : List AV} {n : Nat} (_ : vs.length = n) (h : ARs B F σ vs as) : ARs B F σ (gSwap vs) (gSwap as) := by
  cases h with
  | nil => exact .nil
  | cons a r =>
    cases r with
    | nil => exact .cons a .nil
    | cons b r =>
      cases r with
      | nil => exact .cons b (.cons a .nil)
      | cons c r => exact .cons a (.cons b (.cons c r))
end DL
set_option Elab.async false
set_option linter.all false
set_option maxRecDepth 100000
set_option maxHeartbeats 4000000
namespace DL
open PySem PySem.Spec PyProof.Rows L2 Own
/-- a list that may be changed -/
def isL : Option SV → Bool
  | some (.o (.lst _)) => true
  | some (.b (.lst _)) => true
  | _ => false
/-- x.append(e) -/
def mApd (i : Nat) (m : ME) : ME := fun env => if isL (slot env i) = true then (fa m env).bind fun p => match slot p.2 i with
  | some s => match s.val with
    | .lst ds => if s.mut = true ∧ ds.length < 1000000 then .ok (.v .non, p.2.set i (some (s.put (.lst (ds ++ [p.1]))))) else .no
    | _ => .no
  | none => .no else .no
/-- x.pop() -/
def mPop (i : Nat) : ME := fun env => if isL (slot env i) = true then match slot env i with
  | some s => match s.val with
    | .lst ds => match ds[ds.length - 1]? with
      | some d => .ok (.v d, env.set i (some (s.put (.lst ds.dropLast))))
      | none => .no
    | _ => .no
  | none => .no else .no
/-- x.pop(e) -/
def mPopAt (i : Nat) (m : ME) : ME := fun env => if isL (slot env i) = true then (fa m env).bind fun p => match slot p.2 i with
  | some s => match s.val, p.1 with
    | .lst ds, .int j => if s.mut = true ∧ -(2 ^ 63) ≤ j ∧ j < 2 ^ 63 then match seqIndex? j ds.length with
      | some k => match ds[k]? with
        | some d => .ok (.v d, p.2.set i (some (s.put (.lst (ds.eraseIdx k)))))
        | none => .no
      | none => .no else .no
    | _, _ => .no
  | none => .no else .no
section
variable {B : Bs} {W : WX} {X : Cx} {σ : L2.St}
theorem isL_at {env : DL.Env} {F H : Hp} (R : Rel B env F H σ) {i : Nat} (h : isL (slot env i) = true) : ∃ (s : SV) (a : Addr) (vs : List V), slot env i = some s ∧ s.mut = true ∧ σ[i]? = some (some (.ref a)) ∧ H a = some (.lst vs) := by
  cases hs : slot env i with
  | none => rw [hs] at h; cases h
  | some s =>
    obtain ⟨v, h1, h2⟩ := R.sl i s (slot_some hs)
    rw [hs] at h
    cases s with
    | d d => cases h
    | o d =>
      cases d with
      | lst ds =>
        cases h2.1 with
        | lst fa ha r => exact ⟨_, _, _, rfl, rfl, h1, ha⟩
      | _ => cases h
    | b d =>
      cases d with
      | lst ds =>
        cases h2.1 with
        | lst fa ha r => exact ⟨_, _, _, rfl, rfl, h1, ha⟩
      | _ => cases h
theorem de_app (i : Nat) {x : Str} {e : Expr} {m : ME} {p apos cpos : Pos} (he : PE X e (tD B W m)) (hN : X.N[i]? = some x := by rfl) (hx : Vis X.env.scope x := by first | exact Or.inl rfl | exact Or.inr (Or.inl rfl) | exact Or.inr (Or.inr rfl)) (hd : (x == ("__debug__" : Str)) = false := by decide)
    (hcd : (x == ("__classdict__" : Str)) = false := by decide)
    (hbase : attributeBase (.Name x p) "append" X.env (eval (.Name x p) X.env) = eval (.Name x p) X.env := by rfl)
    (hfew : ((backTo cpos (starEach [e] X.env)).all (fun x => !x.1) && (backToKw cpos (keywordEach [] X.env)).all (fun x => x.1.isSome)
      && decide (([e] : List Expr).length + ([] : List Keyword).length + (if ([] : List Keyword).isEmpty then 0 else 1) < 30)) = true := by rfl)
    (hline : (apos.endLine == cpos.line) = true := by rfl) (hs : starEach [e] X.env = (false, eval e X.env) :: starEach [] X.env := by rfl) (hplain : (backTo cpos (starEach [] X.env)).any (·.1) = false := by rfl) :
    PE X (.Call (.Attribute (.Name x p) "append" apos) [e] [] cpos) (tD B W (mApd i m)) :=
  pe_imp (pe_bm PySem.F.plainAttrs_list PySem.F.slot_list_append PySem.F.type_list_append mt_append (pe_var hN hx hd hcd) (pa_cons (pe_dd he) pa_nil hs) hbase hfew hline hs hplain) fun σ H Q h => by
    obtain ⟨F, env, R, S⟩ := h
    unfold mApd at S
    by_cases hj : isL (slot env i) = true
    case neg =>
      rw [if_neg hj] at S
      exact S.elim
    rw [if_pos hj] at S
    obtain ⟨s1, a1, vs1, hs1, hm1, ho, ha1⟩ := isL_at R hj
    refine ⟨_, ho, .inl ⟨rfl, _, .of ha1⟩, F, env, R, (Sat.of S).imp fun d e2 q v F2 H2 R2 st2 dr => ?_⟩
    cases hs : slot e2 i with
    | none => simp only [hs] at q; exact q.elim
    | some s =>
      simp only [hs] at q
      cases hv : s.val with
      | lst ds =>
        simp only [hv] at q
        by_cases hm : s.mut = true ∧ ds.length < 1000000
        · rw [if_pos hm] at q
          obtain ⟨a, vs, h1, fa, ha, r⟩ := R2.mutL hs hm.1 hv
          rw [ho] at h1
          cases h1
          obtain ⟨R3, st3⟩ := R2.write (o := .lst (vs ++ [v])) (slot_some hs) hm.1 ho (.lst fa upd_same (r.app (.one dr)))
          have hl : vs.length < sizeLine := by
            rw [r.length]
            exact Nat.lt_trans hm.2 (by decide)
          exact ⟨_, vs, v, rfl, rfl, ha, hl, q .non F2 _ R3 (st2.trans st3) .non⟩
        · rw [if_neg hm] at q
          exact q.elim
      | _ => simp only [hv] at q; exact q.elim
theorem DRs.init {K : PySem.W.Frag} {cl : Str → Addr} {F : Hp} {vs : List V} {ds : List D} (h : DRs K cl F vs ds) : DRs K cl F vs.dropLast ds.dropLast := by
  rw [List.dropLast_eq_take, List.dropLast_eq_take, h.length]
  exact h.take _
theorem de_pop (i : Nat) {x : Str} {p apos cpos : Pos} (hN : X.N[i]? = some x := by rfl) (hx : Vis X.env.scope x := by first | exact Or.inl rfl | exact Or.inr (Or.inl rfl) | exact Or.inr (Or.inr rfl)) (hd : (x == ("__debug__" : Str)) = false := by decide)
    (hcd : (x == ("__classdict__" : Str)) = false := by decide)
    (hbase : attributeBase (.Name x p) "pop" X.env (eval (.Name x p) X.env) = eval (.Name x p) X.env := by rfl) (hline : (apos.endLine == cpos.line) = true := by rfl) :
    PE X (.Call (.Attribute (.Name x p) "pop" apos) [] [] cpos) (tD B W (mPop i)) :=
  pe_imp (pe_bm0 PySem.F.plainAttrs_list PySem.F.slot_list_pop PySem.F.type_list_pop mt_pop (pe_var hN hx hd hcd) hbase hline) fun σ H Q h => by
    obtain ⟨F, env, R, S⟩ := h
    unfold mPop at S
    by_cases hj : isL (slot env i) = true
    case neg =>
      rw [if_neg hj] at S
      exact S.elim
    rw [if_pos hj] at S
    obtain ⟨s, a1, vs1, hs, hm, ho, ha1⟩ := isL_at R hj
    refine ⟨_, ho, .inl ⟨rfl, _, .of ha1⟩, ?_⟩
    simp only [hs] at S
    cases hv : s.val with
    | lst ds =>
      simp only [hv] at S
      cases hg : ds[ds.length - 1]? with
      | none => simp only [hg] at S; exact S.elim
      | some d =>
        simp only [hg] at S
        obtain ⟨a, vs, h1, fa, ha, r⟩ := R.mutL hs hm hv
        rw [ho] at h1
        cases h1
        obtain ⟨v, hvv, dv⟩ := r.get hg
        obtain ⟨R3, st3⟩ := R.write (o := .lst vs.dropLast) (slot_some hs) hm ho (.lst fa upd_same r.init)
        exact ⟨_, vs, v, rfl, rfl, ha, by rw [r.length]; exact hvv, S v F _ R3 st3 dv⟩
    | _ => simp only [hv] at S; exact S.elim
theorem de_popAt (i : Nat) {x : Str} {e : Expr} {m : ME} {p apos cpos : Pos} (he : PE X e (tD B W m)) (hN : X.N[i]? = some x := by rfl) (hx : Vis X.env.scope x := by first | exact Or.inl rfl | exact Or.inr (Or.inl rfl) | exact Or.inr (Or.inr rfl)) (hd : (x == ("__debug__" : Str)) = false := by decide)
    (hcd : (x == ("__classdict__" : Str)) = false := by decide)
    (hbase : attributeBase (.Name x p) "pop" X.env (eval (.Name x p) X.env) = eval (.Name x p) X.env := by rfl)
    (hfew : ((backTo cpos (starEach [e] X.env)).all (fun x => !x.1) && (backToKw cpos (keywordEach [] X.env)).all (fun x => x.1.isSome)
      && decide (([e] : List Expr).length + ([] : List Keyword).length + (if ([] : List Keyword).isEmpty then 0 else 1) < 30)) = true := by rfl)
    (hline : (apos.endLine == cpos.line) = true := by rfl) (hs : starEach [e] X.env = (false, eval e X.env) :: starEach [] X.env := by rfl) (hplain : (backTo cpos (starEach [] X.env)).any (·.1) = false := by rfl) :
    PE X (.Call (.Attribute (.Name x p) "pop" apos) [e] [] cpos) (tD B W (mPopAt i m)) :=
  pe_imp (pe_bm PySem.F.plainAttrs_list PySem.F.slot_list_pop PySem.F.type_list_pop mt_popAt (pe_var hN hx hd hcd) (pa_cons (pe_dd he) pa_nil hs) hbase hfew hline hs hplain) fun σ H Q h => by
    obtain ⟨F, env, R, S⟩ := h
    unfold mPopAt at S
    by_cases hj : isL (slot env i) = true
    case neg =>
      rw [if_neg hj] at S
      exact S.elim
    rw [if_pos hj] at S
    obtain ⟨s1, a1, vs1, hs1, hm1, ho, ha1⟩ := isL_at R hj
    refine ⟨_, ho, .inl ⟨rfl, _, .of ha1⟩, F, env, R, (Sat.of S).imp fun d e2 q v F2 H2 R2 st2 dr => ?_⟩
    cases hs : slot e2 i with
    | none => simp only [hs] at q; exact q.elim
    | some s =>
      simp only [hs] at q
      cases hv : s.val with
      | lst ds =>
        cases d with
        | int j =>
          simp only [hv] at q
          by_cases hm : s.mut = true ∧ -(2 ^ 63) ≤ j ∧ j < 2 ^ 63
          · rw [if_pos hm] at q
            cases hk : seqIndex? j ds.length with
            | none => simp only [hk] at q; exact q.elim
            | some k =>
              simp only [hk] at q
              cases hg : ds[k]? with
              | none => simp only [hg] at q; exact q.elim
              | some d =>
                simp only [hg] at q
                obtain ⟨a, vs, h1, fa, ha, r⟩ := R2.mutL hs hm.1 hv
                rw [ho] at h1
                cases h1
                cases dr
                obtain ⟨w, hw, dw⟩ := r.get hg
                obtain ⟨R3, st3⟩ := R2.write (o := .lst (vs.eraseIdx k)) (slot_some hs) hm.1 ho (.lst fa upd_same (r.erase k))
                exact ⟨_, vs, j, k, w, rfl, rfl, ha, hm.2.1, hm.2.2, by rw [r.length]; exact hk, hw, q w F2 _ R3 (st2.trans st3) dw⟩
          · rw [if_neg hm] at q
            exact q.elim
        | _ => simp only [hv] at q; exact q.elim
      | _ => simp only [hv] at q; exact q.elim
end
end DL
set_option Elab.async false
set_option linter.all false
set_option maxRecDepth 100000
set_option maxHeartbeats 4000000
/-! methods of texts -/
namespace DL
open PySem PySem.Spec PyProof.Rows L2 Own
def mStr1 (f : Str → D → Option DL.T) (ma mb : ME) : ME := fun env => (fa ma env).bind fun p => match p.1 with
  | .str x => (fz mb p.2).bind fun q => match dr q.2 q.1 with
    | some d => match f x d with
      | some t => .ok (t, q.2)
      | none => .no
    | none => .no
  | _ => .no
def mStr0 (f : Str → Option DL.T) (ma : ME) : ME := fun env => (fa ma env).bind fun p => match p.1 with
  | .str x => match f x with
    | some t => .ok (t, p.2)
    | none => .no
  | _ => .no
/-- what a method of a text x gives for a value -/
def s1D (K : PySem.W.Frag) (cl : Str → Addr) (f : Str → D → Option DL.T) : V → List V → Hp → VK → Prop := fun v ys H Q => ∃ x y F d t, v = .str x ∧ ys = [y] ∧ Same F H ∧ DRt K cl F H y d ∧ f x d = some t ∧ ∀ v F' H', News F H F' H' → FT K cl F' H' H v t → Q v H'
section
variable {B : Bs} {W : WX} {X : Cx}
theorem MtR.imp {id : String} {r r' : V → List V → Hp → VK → Prop} (h : MtR X id r) (i : ∀ x xs H Q, r' x xs H Q → r x xs H Q) : MtR X id r' := fun pins s σ H x xs v us Q I rx rs q => h pins s σ H x xs v us Q I rx rs (i _ _ _ _ q)
theorem de_s1 {name : Str} {id : String} {f : Str → D → Option DL.T} {o e : Expr} {mo m : ME} {apos cpos : Pos} (slot : Slot "str" name id) (hty : typeOf (.builtin id) = pure (.type "method_descriptor")) (hm : MtR X id (s1D B.K B.cl f)) (ho : PE X o (tD B W mo)) (he : PE X e (tD B W m))
    (hbase : attributeBase o name X.env (eval o X.env) = eval o X.env := by rfl)
    (hfew : ((backTo cpos (starEach [e] X.env)).all (fun x => !x.1) && (backToKw cpos (keywordEach [] X.env)).all (fun x => x.1.isSome)
      && decide (([e] : List Expr).length + ([] : List Keyword).length + (if ([] : List Keyword).isEmpty then 0 else 1) < 30)) = true := by rfl)
    (hline : (apos.endLine == cpos.line) = true := by rfl) (hs : starEach [e] X.env = (false, eval e X.env) :: starEach [] X.env := by rfl) (hplain : (backTo cpos (starEach [] X.env)).any (·.1) = false := by rfl) :
    PE X (.Call (.Attribute o name apos) [e] [] cpos) (tD B W (mStr1 f mo m)) :=
  pe_imp (pe_bm PySem.F.plainAttrs_str slot hty hm (pe_dd ho) (pa_cons he pa_nil hs) hbase hfew hline hs hplain) fun σ H Q h => by
    obtain ⟨F, env, R, S⟩ := h
    refine ⟨F, env, R, (Sat.of S).imp fun d e1 S2 v F1 H1 R1 st1 dr => ?_⟩
    cases d with
    | str x =>
      cases dr
      refine ⟨rfl, tD_fz σ H1 _ ⟨F1, e1, R1, (Sat.of S2).fz.imp fun t e2 z v F2 H2 R2 st2 tr => ?_⟩⟩
      obtain ⟨hz, S3⟩ := z
      cases hd : DL.dr e2 t with
      | none => simp only [Sat, hd] at S3
      | some d =>
        cases hf : f x d with
        | none => simp only [Sat, hd, hf] at S3
        | some t' =>
          simp only [Sat, hd, hf] at S3
          exact ⟨x, v, F2, d, t', rfl, rfl, R2.fh, dr_top R2 tr hd, hf, fun v F3 H3 n ft => S3 v F3 H3 (R2.news n) ((st1.trans st2).trans n.step) (ft.tr R2 fun y hy => (st1.trans st2).g.free hy)⟩
    | _ => exact S2.elim
theorem de_s0 {name : Str} {id : String} {f : Str → Option DL.T} {o : Expr} {mo : ME} {apos cpos : Pos} (slot : Slot "str" name id) (hty : typeOf (.builtin id) = pure (.type "method_descriptor")) (hm : MtR X id (fun v ys H Q => ∃ x F t, v = .str x ∧ ys = [] ∧ Same F H ∧ f x = some t ∧ ∀ v F' H', News F H F' H' → FT B.K B.cl F' H' H v t → Q v H')) (ho : PE X o (tD B W mo))
    (hbase : attributeBase o name X.env (eval o X.env) = eval o X.env := by rfl) (hline : (apos.endLine == cpos.line) = true := by rfl) :
    PE X (.Call (.Attribute o name apos) [] [] cpos) (tD B W (mStr0 f mo)) :=
  pe_imp (pe_bm0 PySem.F.plainAttrs_str slot hty hm (pe_dd ho) hbase hline) fun σ H Q h => by
    obtain ⟨F, env, R, S⟩ := h
    refine ⟨F, env, R, (Sat.of S).imp fun d e1 S2 v F1 H1 R1 st1 dr => ?_⟩
    cases d with
    | str x =>
      cases dr
      cases hf : f x with
      | none => simp only [Sat, hf] at S2
      | some t' =>
        simp only [Sat, hf] at S2
        exact ⟨rfl, x, F1, t', rfl, rfl, R1.fh, hf, fun v F3 H3 n ft => S2 v F3 H3 (R1.news n) (st1.trans n.step) (ft.tr R1 fun y hy => st1.g.free hy)⟩
    | _ => exact S2.elim
end
/-! ### what they give -/
def startsD (x : Str) : D → Option DL.T
  | .str y => some (.v (.bl (Txt.startswith x y)))
  | _ => none
def stripD (x : Str) : D → Option DL.T
  | .str y => if x.length ≤ sizeLine then some (.v (.str (Txt.stripChars x y))) else none
  | _ => none
def splitD (x : Str) : D → Option DL.T
  | .str y => if (y.length == 0) = false ∧ x.length + 2 ≤ sizeLine then some (.f (.lst ((Txt.split x y).map D.str))) else none
  | _ => none
def joinD (x : Str) (d : D) : Option DL.T := match seqOf d with
  | some ds => match strsOf ds with
    | some ys => if (ys.map (·.length)).sum + ys.length * x.length ≤ 16777216 then some (.v (.str (Txt.join x ys))) else none
    | none => none
  | none => none
where seqOf : D → Option (List D)
  | .lst ds => some ds
  | .tup ds => some ds
  | _ => none
def zfillD (x : Str) : D → Option DL.T
  | .int i => if PadOk i = true then some (.v (.str (Txt.zfill x i))) else none
  | _ => none
def countD (x : Str) : D → Option DL.T
  | .str y => some (.v (.int (Txt.count x y)))
  | _ => none
section
variable {X : Cx} {K : PySem.W.Frag} {cl : Str → Addr}
theorem ms_starts : MtR X "str.startswith" (s1D K cl startsD) := MtR.imp mt_startswith fun v ys H Q h => by
  obtain ⟨x, y, F, d, t, rfl, rfl, sF, hd, hf, q⟩ := h
  cases hd with
  | str => cases hf; exact ⟨_, _, rfl, rfl, q _ F H (.refl sF) .bl⟩
  | _ => cases hf
theorem ms_count : MtR X "str.count" (s1D K cl countD) := MtR.imp mt_count fun v ys H Q h => by
  obtain ⟨x, y, F, d, t, rfl, rfl, sF, hd, hf, q⟩ := h
  cases hd with
  | str => cases hf; exact ⟨_, _, rfl, rfl, q _ F H (.refl sF) .int⟩
  | _ => cases hf
theorem ms_strip : MtR X "str.strip" (s1D K cl stripD) := MtR.imp mt_stripChars fun v ys H Q h => by
  obtain ⟨x, y, F, d, t, rfl, rfl, sF, hd, hf, q⟩ := h
  cases hd with
  | str =>
    unfold stripD at hf
    dsimp only at hf
    split at hf
    · rename_i hl
      cases hf
      exact ⟨_, _, rfl, rfl, hl, q _ F H (.refl sF) .str⟩
    · cases hf
  | _ => cases hf
theorem ms_zfill : MtR X "str.zfill" (s1D K cl zfillD) := MtR.imp mt_zfill fun v ys H Q h => by
  obtain ⟨x, y, F, d, t, rfl, rfl, sF, hd, hf, q⟩ := h
  cases hd with
  | int =>
    unfold zfillD at hf
    dsimp only at hf
    split at hf
    · rename_i hl
      cases hf
      exact ⟨_, _, rfl, rfl, hl, q _ F H (.refl sF) .str⟩
    · cases hf
  | _ => cases hf
theorem drs_strsD {F : Hp} : ∀ zs : List Str, DRs K cl F (zs.map V.str) (zs.map D.str)
  | [] => .nil
  | _ :: zs => .cons .str (drs_strsD zs)
theorem ms_split : MtR X "str.split" (s1D K cl splitD) := MtR.imp mt_split fun v ys H Q h => by
  obtain ⟨x, y, F, d, t, rfl, rfl, sF, hd, hf, q⟩ := h
  cases hd with
  | str =>
    unfold splitD at hf
    dsimp only at hf
    split at hf
    · rename_i hl
      cases hf
      refine ⟨_, _, rfl, rfl, hl.1, hl.2, fun p hp => ?_⟩
      obtain ⟨n, ft⟩ := new_lst sF hp (drs_strsD (Txt.split x _))
      exact q _ _ _ n ft
    · cases hf
  | _ => cases hf
theorem ms_join (hK : X.K = K) : MtR X "str.join" (s1D K cl joinD) := MtR.imp mt_join fun v ys H Q h => by
  subst hK
  obtain ⟨x, y, F, d, t, rfl, rfl, sF, hd, hf, q⟩ := h
  cases hd with
  | lst h1 h2 =>
    rename_i vs ds
    have hf : (match strsOf ds with
      | some ys => if (ys.map (·.length)).sum + ys.length * x.length ≤ 16777216 then some (DL.T.v (.str (Txt.join x ys))) else none
      | none => none) = some t := hf
    cases hz : strsOf ds with
    | none => rw [hz] at hf; cases hf
    | some zs =>
      rw [hz] at hf
      dsimp only at hf
      split at hf
      · rename_i hl
        cases hf
        refine ⟨_, _, zs, rfl, rfl, .inl ?_, hl, q _ F H (.refl sF) .str⟩
        have e := strsOf_eq hz
        subst e
        rw [← drs_strs_eq h2]
        exact .of h1
      · cases hf
  | tup h1 h2 =>
    rename_i vs ds
    have hf : (match strsOf ds with
      | some ys => if (ys.map (·.length)).sum + ys.length * x.length ≤ 16777216 then some (DL.T.v (.str (Txt.join x ys))) else none
      | none => none) = some t := hf
    cases hz : strsOf ds with
    | none => rw [hz] at hf; cases hf
    | some zs =>
      rw [hz] at hf
      dsimp only at hf
      split at hf
      · rename_i hl
        cases hf
        refine ⟨_, _, zs, rfl, rfl, .inr ?_, hl, q _ F H (.refl sF) .str⟩
        have e := strsOf_eq hz
        subst e
        rw [← drs_strs_eq h2]
        exact sqt_same sF h1
      · cases hf
  | _ => cases hf
end
end DL
set_option Elab.async false
set_option linter.all false
set_option maxRecDepth 100000
set_option maxHeartbeats 4000000
namespace DL
open PySem PySem.Spec PyProof.Rows L2 Own
/-- an exception class of two fields, as a raise wants it -/
structure Rcl2 (P : Program) (w : World) (K : PySem.W.Frag) (mg : Str → Option Value) (base : Heap) (x : Str) (C : Addr) (f g : Str) : Prop where
  o : OexC K C
  at_ : mg x = some (.ref C)
  no : PySem.W.findIn K (.ref C) f = some none
  no2 : PySem.W.findIn K (.ref C) g = some none
  ex : ∃ fI fd ps, PySem.W.findIn K (.ref C) "__init__" = some (some (.ref fI)) ∧ PySem.W.typeIn K (.ref fI) = some (.type "function") ∧ FnOk P w K mg base CX0 1 fI fd ps (spI2 K f g) ∧ Binds K fd ps []
theorem upd_del2 {H : Hp} {a d : Addr} {o1 o2 o3 o4 u : HO} (ha : H a = none) (hd : d ≠ a) : L2.upd (L2.del (L2.upd (L2.upd (L2.upd (L2.upd H a o1) d o2) a o3) d o4) a) d u = L2.upd H d u := by
  funext b
  by_cases hb : b = d
  · subst hb
    rw [upd_same, upd_same]
  · rw [upd_ne hb, upd_ne hb]
    by_cases h : b = a
    · subst h
      rw [del_same, ha]
    · rw [del_ne h, upd_ne hb, upd_ne h, upd_ne hb, upd_ne h]
section
variable {X : Cx} {x f g : Str} {C : Addr} {p pos pos2 : Pos} {e e2 : Expr} {te te2 : TE} {W : WX}
theorem ps_raise2 (R : Rcl2 X.prog X.w X.K X.mg X.base x C f g) (hc : X.calm = true) (tk : Takes X W) (room : Room 2 X.A) (he : PE X e te) (he2 : PE X e2 te2) (hg : Gl X x := by rfl) (hdb : (x == ("__debug__" : Str)) = false := by decide)
    (hst : starEach [e, e2] X.env = (false, eval e X.env) :: starEach [e2] X.env := by rfl) (hst2 : starEach [e2] X.env = (false, eval e2 X.env) :: starEach [] X.env := by rfl) (hpl : (backTo pos (starEach [e2] X.env)).any (·.1) = false := by rfl) :
    PS X (.Raise (some (.Call (.Name x p) [e, e2] [] pos)) none pos2) (fun _ σ H => te σ H fun y H1 => te2 σ H1 fun z H2 => ∀ d, H2 d = none → W (.ref C) (some d) σ (upd H2 d (.xd [(g, z), (f, y)]))) := by
  obtain ⟨fI, fd, ps, iC, tI, F1, hb⟩ := R.ex
  have mk := pmk_oex (p := p) (pos := pos) R.o iC tI F1 room hb .nil pass0 hg R.at_ (pa_cons (pe_mono he) (pa_cons (pe_mono he2) pa_nil hst2) hst) hdb hst hpl
  constructor
  intro pins s σ H D I h
  refine (ps_raise (pos := pos2) hc tk mk).run pins s σ H D I ⟨_, fun y H1 q => ?_, h⟩
  refine ⟨_, fun z H2 q2 => ?_, q⟩
  refine ⟨by show 2 ≤ 1000; decide, fun a ha => ?_⟩
  refine ⟨a, C, y, z, rfl, R.o, R.no, R.no2, upd_same, fun dx hdx ne => ⟨rfl, dx, [(g, z), (f, y)], (upd_ne (Ne.symm ne)).trans upd_same, upd_same, ?_, ?_⟩⟩
  · rw [upd_ne ne] at hdx
    exact hdx
  · rw [upd_ne ne] at hdx
    rw [upd_del2 ha ne]
    exact q2 dx hdx
def mRaise2 (c f g : Str) (m n : ME) : MS := fun env => sq (fa m env) fun d e => sq (fa n e) fun d2 e2 => .ex c [(g, d2), (f, d)] e2
theorem ds_raise2 {B : Bs} {m n : ME} (R : Rcl2 X.prog X.w X.K X.mg X.base x (B.cl x) f g) (hc : X.calm = true) (tk : Takes X W) (room : Room 2 X.A) (he : PE X e (tD B W m)) (he2 : PE X e2 (tD B W n)) (hg : Gl X x := by rfl) (hdb : (x == ("__debug__" : Str)) = false := by decide)
    (hst : starEach [e, e2] X.env = (false, eval e X.env) :: starEach [e2] X.env := by rfl) (hst2 : starEach [e2] X.env = (false, eval e2 X.env) :: starEach [] X.env := by rfl) (hpl : (backTo pos (starEach [e2] X.env)).any (·.1) = false := by rfl) :
    PS X (.Raise (some (.Call (.Name x p) [e, e2] [] pos)) none pos2) (tDS B W (mRaise2 x f g m n)) :=
  ps_imp (ps_raise2 R hc tk room he he2 hg hdb hst hst2 hpl) fun Dn σ H h => by
    obtain ⟨F, env, Rl, S⟩ := h
    refine tDD_fa σ H _ ⟨F, env, Rl, (SatS.of S).imp fun d e q v F1 H1 R1 st1 dr => ?_⟩
    refine tDD_fa σ H1 _ ⟨F1, e, R1, (SatS.of q).imp fun d2 e2 q v2 F2 H2 R2 st2 dr2 dx hd => ?_⟩
    have nw : News F2 H2 F2 (upd H2 dx (.xd [(g, v2), (f, v)])) := News.new R2.fh hd
    exact q σ F2 _ dx _ (R2.news nw) upd_same (.cons dr2 (.cons (dr.mono st2.g.f) .nil))
end
/-- x.bit_length() -/
theorem de_bitsX {B : Bs} {W : WX} {X : Cx} {o : Expr} {m : ME} {apos pos : Pos} (ho : PE X o (tD B W m)) (hbase : attributeBase o "bit_length" X.env (eval o X.env) = eval o X.env := by rfl) (hline : (apos.endLine == pos.line) = true := by rfl) : PE X (.Call (.Attribute o "bit_length" apos) [] [] pos) (tD B W (mUn bitsD m)) :=
  de_bits ho (pe_bits ho hbase hline)
end DL
set_option Elab.async false
set_option linter.all false
set_option maxRecDepth 100000
set_option maxHeartbeats 4000000
/-! try with a clause that names the error, and another one behind it -/
namespace DL
open PySem PySem.Spec PyProof.Rows L2 Own
/-- what two clauses wish of an exception: the first one names it (slot i) -/
def wTwo (K : PySem.W.Frag) (c : Value) (i : Nat) (ts : Addr → Value → Option Addr → TS) (c2 : Value) (ts2 : Addr → Value → Option Addr → TS) (Wo : WX) (D : Ends) : WX := fun cls d σ H => ∃ b, PySem.W.exmOne K cls c = some b ∧
  (b = true → ∀ a, H a = none → ts a cls d { nx := fun σ2 H2 => D.nx (σ2.set i none) H2, rt := D.rt, bk := fun σ2 H2 => D.bk (σ2.set i none) H2, ct := fun σ2 H2 => D.ct (σ2.set i none) H2 } (σ.set i (some (.ref a))) H) ∧
  (b = false → ∃ b2, PySem.W.exmOne K cls c2 = some b2 ∧ (b2 = true → ∀ a, H a = none → ts2 a cls d D σ H) ∧ (b2 = false → Wo cls d σ H))
section
variable {X : Cx} {x y n : Str} {c c2 : Value} {i : Nat} {body suite suite2 : List Stmt} {b0 b2 : Stmt} {np np2 pos pos' pos2 : Pos} {tb : WX → TS} {ts ts2 : Addr → Value → Option Addr → TS} {Wo : WX}
theorem ps_try_two (hs : X.stack = X.env :: X.outer) (hf : X.env.frame = some X.env.locals) (hN : X.N.Nodup) (hi : X.N[i]? = some n) (hln : X.env.kindOf n = some .local) (hc : Names X x c) (hc2 : Names X y c2) (tk : Takes X Wo)
    (hb : ∀ (W : WX) (pn : List (Addr × Obj)) (xe : Value → Shared → Prop), Takes (X.tr pn xe) W → PassesOwn (model X.prog X.w) X.A X.env xe → PSs (X.tr pn xe) body (tb W))
    (hsu : ∀ (a : Addr) (oe : Obj) (cls : Value) (d : Option Addr) (pn : List (Addr × Obj)), Zc cls d oe → (∃ vs, oe.data = .fields vs) → PSs (X.suite a ((a, oe) :: pn)) (b0 :: suite) (ts a cls d))
    (hsu2 : ∀ (a : Addr) (oe : Obj) (cls : Value) (d : Option Addr) (pn : List (Addr × Obj)), Zc cls d oe → (∃ vs, oe.data = .fields vs) → PSs (X.suite a ((a, oe) :: pn)) (b2 :: suite2) (ts2 a cls d)) :
    PS X (.Try body [.ExceptHandler (some (.Name x np)) (some n) (b0 :: suite) pos', .ExceptHandler (some (.Name y np2)) none (b2 :: suite2) pos2] [] [] pos) (fun D σ H => tb (wTwo X.K c i ts c2 ts2 Wo D) D σ H) := by
  constructor
  intro pins s σ H D I h
  have ok := I.ok
  have frames : X.A.frames = some (X.env :: X.outer) := ok.frames.trans (by rw [hs])
  refine wpAny_Try_except ?_
  have run := (hb (wTwo X.K c i ts c2 ts2 Wo D) (X.pn ++ pins)
    (fun e s1 => wpAny (model X.prog X.w) X.A (noteFrame e X.env)
      (fun _ s2 => wpAny (model X.prog X.w) X.A (setFlight e none)
        (fun _ s3 => wpAny (model X.prog X.w) X.A (handleBy e X.env [.ExceptHandler (some (.Name x np)) (some n) (b0 :: suite) pos', .ExceptHandler (some (.Name y np2)) none (b2 :: suite2) pos2]) (SP X pins D) X.xe s3) X.xe s2) X.xe s1)
    ?takes PassesOwn.looking).run [] s σ H D (I.toTry _) h
  case takes =>
    rintro u sE ⟨a, B, sI, pinsI, σI, HI, cls, d, rfl, JI, nb, up, sky, na, os, ag, b, hb1, hyes, hno⟩
    have J : Inv X pins σI HI sI := JI.ofTry ok
    rw [hs] at sky
    show wpAny (model X.prog X.w) X.A (noteFrame (.ref a) X.env) _ _ _
    refine Sky.land Zc.steady frames hf sky fun hA flA upA => ?_
    have upA' := up.trans upA
    have JA : Inv X pins σI HI { sE with heap := hA } := J.landed nb flA.1 upA' os ag
    obtain ⟨oA, vA, getA, zA, dA⟩ := flA.there
    have offFrames : a ∉ frs (X.env :: X.outer) := by
      intro hm
      obtain ⟨_, o2, e2, nofld⟩ := flA.2.2.1.mem hm
      rw [getA] at e2
      cases e2
      exact nofld _ dA
    have nL : a ≠ X.env.locals := fun q => offFrames (List.mem_filterMap.mpr ⟨X.env, List.mem_cons_self, hf.trans (by rw [q])⟩)
    have nF : a ∉ X.fs := fun hm => by
      obtain ⟨ev, hev, q⟩ := List.mem_filterMap.mp hm
      exact offFrames (List.mem_filterMap.mpr ⟨ev, List.mem_cons_of_mem _ hev, q⟩)
    have notI : sI.heap.get? a = none := by
      cases q : sI.heap.get? a with
      | none => rfl
      | some o =>
        have := nb a o q (by rw [hs]; exact offFrames)
        rw [flA.2.1] at this
        cases this
    have SA := JA.suite getA dA na nL nF
    have ty : PySem.W.Looks (model X.prog X.w) hA (typeOf (.ref a)) cls := fun A' Q' E' s' k q => wpAny_typeOf_ref (k _ _ getA) (by rw [zA.1]; exact q)
    have match_ := PySem.W.exm_one (M := model X.prog X.w) JA.kIn ty hb1
    have cls_ : ∀ {Q' : Value → Shared → Prop} {E' : Value → Shared → Prop}, Q' c { sE with heap := hA } → wpAny (model X.prog X.w) (X.A.mark (some (.ref a))) (eval (.Name x np) X.env) Q' E' { sE with heap := hA } := by
      intro Q' E' q
      obtain ⟨hg, hdbg, hm | ⟨hm, hv, hnn⟩⟩ := hc
      · exact ld_glob (X := X.suite a ((a, oA) :: (X.pn ++ pins))) SA hg hm q hdbg
      · exact ld_blt (X := X.suite a ((a, oA) :: (X.pn ++ pins))) SA hg hm hv q hnn hdbg
    refine wpAny_handleBy_cons (codeAny_handlers_test (cls_ (match_.here ?_))) (fun q => by cases q)
    cases b with
    | false =>
      obtain ⟨b', hb2, hyes2, hno2⟩ := hno rfl
      show wpAny _ X.A (handleBy (.ref a) X.env [.ExceptHandler (some (.Name y np2)) none (b2 :: suite2) pos2]) _ _ _
      have match2 := PySem.W.exm_one (M := model X.prog X.w) JA.kIn ty hb2
      have cls2 : ∀ {Q' : Value → Shared → Prop} {E' : Value → Shared → Prop}, Q' c2 { sE with heap := hA } → wpAny (model X.prog X.w) (X.A.mark (some (.ref a))) (eval (.Name y np2) X.env) Q' E' { sE with heap := hA } := by
        intro Q' E' q
        obtain ⟨hg, hdbg, hm | ⟨hm, hv, hnn⟩⟩ := hc2
        · exact ld_glob (X := X.suite a ((a, oA) :: (X.pn ++ pins))) SA hg hm q hdbg
        · exact ld_blt (X := X.suite a ((a, oA) :: (X.pn ++ pins))) SA hg hm hv q hnn hdbg
      refine wpAny_handleBy_cons (codeAny_handlers_test (cls2 (match2.here ?_))) (fun q => by cases q)
      cases b' with
      | true =>
        refine codeAny_handlers_suite ?_
        refine HandSPX.lands_againZ flA fun hB flB upB => ?_
        have JB : Inv X pins σI HI { sE with heap := hB } := J.landed nb flB.1 (upA'.trans upB) os ag
        obtain ⟨oB, vB, getB, zB, dB⟩ := flB.there
        refine wpAny_mono ((hsu2 a oB cls d (X.pn ++ pins) zB ⟨_, dB⟩).run [] _ _ HI _ (JB.suite getB dB na nL nF) (hyes2 rfl a na)) (fun f sD out => ?_) (fun _ _ z => z.elim)
        cases f with
        | ret u =>
          obtain ⟨v, σD, HD, SD, rD, qD⟩ := out
          exact ⟨v, σD, HD, SD.unsuite ok, rD, qD⟩
        | next =>
          obtain ⟨σD, HD, SD, qD⟩ := out
          exact ⟨σD, HD, SD.unsuite ok, qD⟩
        | brk =>
          obtain ⟨σD, HD, SD, qD⟩ := out
          exact ⟨σD, HD, SD.unsuite ok, qD⟩
        | cont =>
          obtain ⟨σD, HD, SD, qD⟩ := out
          exact ⟨σD, HD, SD.unsuite ok, qD⟩
      | false =>
        have hno : false = false → Wo cls d σI HI := hno2
        show wpAny _ X.A (handleBy (.ref a) X.env []) _ _ _
        refine wpAny_handleBy_nil ?_
        have on : wpAny (model X.prog X.w) X.A (setFlight (.ref a) X.env.frame) (fun _ s4 => wpAny (model X.prog X.w) X.A (throw (.ref a) : Sem Flow) (SP X pins D) X.xe s4) X.xe { sE with heap := hA } := by
          rw [hf]
          refine HandSPX.setFlight_upZ flA fun hB heldB upB => wpAny_throw (tk _ _ ?_)
          exact ⟨a, B, sI, pins, σI, HI, cls, d, rfl, J, nb, upA'.trans upB, .inr (.inr (by rw [hs]; exact heldB)), na, os, ag, hno rfl⟩
        obtain ⟨_, _, _, o5, v5, T5, _, _, e5, _, d5, n5, _⟩ := id flA
        unfold PySem.passOn
        refine wpAny_bind (wpAny_field e5 d5 n5 ?_)
        rw [if_neg (by simp : ¬ ((Value.ref T5 == Value.none) = true))]
        first
          | exact wpAny_bind on
          | exact wpAny_bind (wpAny_pure (wpAny_bind on))
    | true =>
      refine codeAny_handlers_suite_as ?_
      refine HandSPX.lands_againZ flA fun hB flB upB => ?_
      have JB : Inv X pins σI HI { sE with heap := hB } := J.landed nb flB.1 (upA'.trans upB) os ag
      obtain ⟨oB, vB, getB, zB, dB⟩ := flB.there
      refine store_ok (X := X.suite a ((a, oB) :: (X.pn ++ pins))) (v := .ref a) (JB.suite getB dB na nL nF) hN hi (.inl hln) rfl (fun sC SC => ?_) (.inr hln)
      refine wpAny_mono ((hsu a oB cls d (X.pn ++ pins) zB ⟨_, dB⟩).run [] sC _ HI _ SC (hyes rfl a na)) (fun f sD out => ?_) (fun _ _ z => z.elim)
      cases f with
      | brk =>
        obtain ⟨σD, HD, SD, qD⟩ := out
        refine gone_ok (X := X.suite a ((a, oB) :: (X.pn ++ pins))) SD hN hi hln fun sF SF => ?_
        exact ⟨_, _, SF.unsuite ok, qD⟩
      | cont =>
        obtain ⟨σD, HD, SD, qD⟩ := out
        refine gone_ok (X := X.suite a ((a, oB) :: (X.pn ++ pins))) SD hN hi hln fun sF SF => ?_
        exact ⟨_, _, SF.unsuite ok, qD⟩
      | ret u =>
        obtain ⟨v, σD, HD, SD, rD, qD⟩ := out
        refine gone_ok (X := X.suite a ((a, oB) :: (X.pn ++ pins))) SD hN hi hln fun sF SF => ?_
        exact ⟨v, _, _, SF.unsuite ok, rD, qD⟩
      | next =>
        obtain ⟨σD, HD, SD, qD⟩ := out
        refine gone_ok (X := X.suite a ((a, oB) :: (X.pn ++ pins))) SD hN hi hln fun sF SF => ?_
        exact ⟨_, _, SF.unsuite ok, qD⟩
  refine wpAny_mono run (fun f s1 out => ?_) fun _ _ z => z
  cases f with
  | next =>
    obtain ⟨σ2, H2, J2, q⟩ := out
    exact wpAny_execs_nil ⟨σ2, H2, J2.ofTry ok, q⟩
  | ret u =>
    obtain ⟨v, σ2, H2, J2, r, q⟩ := out
    exact ⟨v, σ2, H2, J2.ofTry ok, r, q⟩
  | brk =>
    obtain ⟨σ2, H2, J2, q⟩ := out
    exact ⟨σ2, H2, J2.ofTry ok, q⟩
  | cont =>
    obtain ⟨σ2, H2, J2, q⟩ := out
    exact ⟨σ2, H2, J2.ofTry ok, q⟩
end
end DL
set_option Elab.async false
set_option linter.all false
set_option maxRecDepth 100000
set_option maxHeartbeats 4000000
namespace DL
open PySem PySem.Spec PyProof.Rows L2 Own
def tDS0 (B : Bs) (W : WX) (m : MS) : TS := fun Dn σ H => ∃ F env, Rel B env F H σ ∧ SatS B W B.F0 (m env) Dn
section
variable {B : Bs} {W : WX} {X : Cx} {st : Stmt} {rest : List Stmt} {ms ns : MS}
theorem ds0_of (h : PS X st (tDS B W ms)) : PS X st (tDS0 B W ms) := ps_imp h fun Dn σ H ⟨F, env, R, S⟩ => ⟨F, env, R, S.up R.gr.f⟩
theorem ds0s_of (h : PSs X rest (tDS B W ms)) : PSs X rest (tDS0 B W ms) := pss_imp h fun Dn σ H ⟨F, env, R, S⟩ => ⟨F, env, R, S.up R.gr.f⟩
theorem ds0_cons (h : PS X st (tDS0 B W ms)) (g : PSs X rest (tDS0 B W ns)) : PSs X (st :: rest) (tDS0 B W (mSeq ms ns)) := by
  refine pss_imp (pss_cons h g) fun Dn σ H h => ?_
  obtain ⟨F, env, R, S⟩ := h
  refine ⟨F, env, R, ?_⟩
  unfold mSeq at S
  cases hm : ms env with
  | nx e =>
    rw [hm] at S
    exact fun σ' F' H' R' s => ⟨F', e, R', S⟩
  | rt r e => rw [hm] at S; exact S
  | bk e => rw [hm] at S; exact S
  | ct e => rw [hm] at S; exact S
  | ex c fs e => rw [hm] at S; exact S
  | no => rw [hm] at S; exact S
end
section
variable {P : Program} {w : World} {K : PySem.W.Frag} {mg : Str → Option Value} {base : Heap} {cl : Str → Addr}
/-- a def with a try at its top -/
theorem fn_ok0 {x qual : Str} {st : Stmt} {f : Addr} {fd : FuncData} {N ps : List Str} {k : Nat} {io : List Nat} {m : MS} (Fn : Fun K x qual st f fd) (S : FnScope N ps (defScope st))
    (body : ∀ (cdv : Value) (A : Around) (outer : List PySem.Env) (s : Shared) (H F : Hp) (vs : List V) (E : XK), Room k (A.deeper (envOfC qual (defScope st) s.heap.objs.size f cdv)) →
      PSs (cxOf (L2.CX P w) P w K mg base N qual (defScope st) f cdv A outer s H E) (defBody st) (tDS0 (bsOf K cl H F io vs) (fun c d _ H' => E c d H') m)) :
    FnOk P w K mg base (L2.CX P w) (k + 1) f fd ps (spF K cl io ps.length (runF N.length io m)) := by
  refine Fn.okX S (fun vs H Q E h => h.1) (fun cdv A outer s H vs Q E hr h => ?_)
  obtain ⟨hl, F, ss, sF, AO, h⟩ := h
  have hN : vs.length ≤ N.length := by
    have := congrArg List.length S.pre
    rw [List.length_take] at this
    omega
  refine ⟨_, body cdv A outer s H F vs E hr, F, _, rel_start sF AO hN, ?_⟩
  have gr : ∀ {e : DL.Env} {F' H' : Hp} {σ' : L2.St}, Rel (bsOf K cl H F io vs) e F' H' σ' → Grow (Lent io vs) F H F' H' := fun R => R.gr.imp fun b z => (lent_iff AO b).mpr z
  unfold runF at h
  cases hm : m (ss.map some ++ List.replicate (N.length - ss.length) none) with
  | nx e =>
    rw [hm] at h
    exact fun σ' F' H' R _ => h .non F' H' R.fh (gr R) (back_ok (N := N) AO R) .non
  | rt r e =>
    rw [hm] at h
    refine fun v σ' F' H' R rr => h v F' H' R.fh (gr R) (back_ok (N := N) AO R) ?_
    cases r with
    | d d => exact rr
    | o d => exact rr
    | b d => exact rr
  | ex c fs e =>
    rw [hm] at h
    exact fun σ' F' H' dx us R => h F' H' dx us R.fh (gr R) (back_ok (N := N) AO R)
  | bk e => rw [hm] at h; exact h.elim
  | ct e => rw [hm] at h; exact h.elim
  | no => rw [hm] at h; exact h.elim
end
/-- try: body, except c1 as n: y = n.fld, except C2: suite -/
def mTrySet (mb : MS) (i j : Nat) (c1 fld : Str) (sub : Str → Option Bool) (m2 : MS) : MS := fun env => match mb env with
  | .ex c fs e => if c = c1 then (match fs.lookup fld with
      | some d => if i < e.length ∧ j < e.length then .nx (((e.set i none).set j (some (.d d))).set i none) else .no
      | none => .no) else match sub c with
      | some true => m2 e
      | some false => .ex c fs e
      | none => .no
  | o => o
theorem drf_lookup {K : PySem.W.Frag} {cl : Str → Addr} {F : Hp} {f : Str} : ∀ {fs : List (Str × D)} {vs : List (Str × V)} {d : D}, DRf K cl F vs fs → fs.lookup f = some d → ∃ v, vs.lookup f = some v ∧ DR K cl F v d
  | [], _, _, h, e => by cases e
  | (k, d0) :: fs, _, d, h, e => by
    cases h with
    | cons a b =>
      rw [List.lookup_cons] at e ⊢
      cases hk : (f == k) with
      | true =>
        rw [hk] at e
        cases e
        exact ⟨_, rfl, a⟩
      | false =>
        rw [hk] at e
        exact drf_lookup b e
section
variable {B : Bs} {W : WX} {X : Cx} {x y n z : Str} {c2 : Value} {i j : Nat} {body suite2 : List Stmt} {b2 : Stmt} {np np2 np3 pos pos' pos2 py apos spos : Pos} {mb m2 : MS} {fld : Str} {sub : Str → Option Bool}
theorem ds_trySet (hs : X.stack = X.env :: X.outer) (hf : X.env.frame = some X.env.locals) (hN : X.N.Nodup) (hi : X.N[i]? = some n) (hln : X.env.kindOf n = some .local) (hj : X.N[j]? = some z) (hlz : Loc X.env.scope z)
    (hc : Names X x (.ref (B.cl x))) (hc2 : Names X y c2) (tk : Takes X W) (T : XfC X.K (B.cl x)) (no : PySem.W.findIn X.K (.ref (B.cl x)) fld = some none)
    (h1 : PySem.W.exmOne X.K (.ref (B.cl x)) (.ref (B.cl x)) = some true) (h2 : ∀ c b, c ≠ x → sub c = some b → PySem.W.exmOne X.K (.ref (B.cl c)) (.ref (B.cl x)) = some false ∧ PySem.W.exmOne X.K (.ref (B.cl c)) c2 = some b)
    (hb : ∀ (W : WX) (pn : List (Addr × Obj)) (xe : Value → Shared → Prop), Takes (X.tr pn xe) W → PassesOwn (model X.prog X.w) X.A X.env xe → PSs (X.tr pn xe) body (tDS B W mb))
    (hsu2 : ∀ (a : Addr) (oe : Obj) (cls : Value) (d : Option Addr) (pn : List (Addr × Obj)), PSs (X.suite a ((a, oe) :: pn)) (b2 :: suite2) (tDS B W m2))
    (hvi : Vis X.env.scope n) (hdn : (n == ("__debug__" : Str)) = false) (hcn : (n == ("__classdict__" : Str)) = false)
    (hbi : B.fx.all (fun q => q.1 != i) = true) (hbj : B.fx.all (fun q => q.1 != j) = true)
    (hfz : X.fn z = true ∨ X.env.scope.names.lookup z = some .local)
    (hat : ∀ (a : Addr) (pn : List (Addr × Obj)), attributeBase (.Name n np3) fld (X.suite a pn).env (eval (.Name n np3) (X.suite a pn).env) = eval (.Name n np3) (X.suite a pn).env)
    (hsw : swapsWith (.Attribute (.Name n np3) fld apos) (some (.Name z py)) spos.line X.env = pure false) :
    PS X (.Try body [.ExceptHandler (some (.Name x np)) (some n) [.Assign [.Name z py] (.Attribute (.Name n np3) fld apos) spos] pos', .ExceptHandler (some (.Name y np2)) none (b2 :: suite2) pos2] [] [] pos) (tDS0 B W (mTrySet mb i j x fld sub m2)) := by
  refine ps_imp (ps_try_two (tb := fun W => tDS B W mb) (ts := fun a cls d => fun D σ H => tXf a cls d (B.cl x) fld (tVar i) σ H fun v H1 => D.nx (σ.set j (some v)) H1) (ts2 := fun _ _ _ => tDS B W m2) hs hf hN hi hln hc hc2 tk hb (fun a oe cls d pn hz hd => ?_) (fun a oe cls d pn _ _ => hsu2 a oe cls d pn)) fun Dn σ H h => ?_
  · refine pss_imp (pss_one (ps_set (i := j) hN hj hlz (pe_xf T no hz hd (pe_var (X := X.suite a ((a, oe) :: pn)) hi hvi hdn hcn) (hat a ((a, oe) :: pn))) hsw hfz)) fun D σ H h => h
  · obtain ⟨F, env, R, S⟩ := h
    refine ⟨F, env, R, ?_⟩
    unfold mTrySet at S
    cases hm : mb env with
    | nx e => rw [hm] at S; exact fun σ' F' H' R' s => S σ' F' H' R' R'.gr.f
    | rt r e => rw [hm] at S; exact S
    | bk e => rw [hm] at S; exact fun σ' F' H' R' s => S σ' F' H' R' R'.gr.f
    | ct e => rw [hm] at S; exact fun σ' F' H' R' s => S σ' F' H' R' R'.gr.f
    | no => rw [hm] at S; exact S.elim
    | ex c fs e =>
      rw [hm] at S
      dsimp only at S
      intro σ' F' H' dx vs R' hx hfs
      by_cases hcx : c = x
      · subst hcx
        rw [if_pos rfl] at S
        refine ⟨true, h1, fun _ a ha => ?_, (fun q => nomatch q)⟩
        cases hl : fs.lookup fld with
        | none => rw [hl] at S; exact S.elim
        | some d =>
          rw [hl] at S
          dsimp only at S
          by_cases hij : i < e.length ∧ j < e.length
          · rw [if_pos hij] at S
            obtain ⟨v, hv, dv⟩ := drf_lookup hfs hl
            have R1 := R'.forget (i := i) (ov := some (.ref a)) hbi
            have R2 := R1.set (i := j) (s := .d d) (v := v) dv (by rw [List.length_set]; exact hij.2) hbj fun a m => nomatch m
            have R3 := R2.forget (i := i) (ov := none) hbi
            have sl : (σ'.set i (some (V.ref a)))[i]? = some (some (.ref a)) := List.getElem?_set_self (by rw [← R'.len]; exact hij.1)
            exact ⟨_, sl, rfl, rfl, dx, vs, v, rfl, hx, hv, S _ F' H' R3 R3.gr.f⟩
          · rw [if_neg hij] at S
            exact S.elim
      · rw [if_neg hcx] at S
        cases hsb : sub c with
        | none => rw [hsb] at S; exact S.elim
        | some b =>
          obtain ⟨g1, g2⟩ := h2 c b hcx hsb
          refine ⟨false, g1, (fun q => nomatch q), fun _ => ⟨b, g2, fun hb a ha => ?_, fun hb => ?_⟩⟩
          · subst hb
            rw [hsb] at S
            exact ⟨F', e, R', SatS.up S R'.gr.f⟩
          · subst hb
            rw [hsb] at S
            exact S σ' F' H' dx vs R' hx hfs
end
end DL
set_option Elab.async false
set_option linter.all false
set_option maxRecDepth 100000
set_option maxHeartbeats 4000000
namespace K61
open PySem PySem.Spec PyProof.Rows L2 Own DL
def top (i : Nat) : Stmt := PySem.Challenge.pw_duetickers_k61_what_laps_keep.main.body.getD i (.Pass ⟨0, 0, 0, 0⟩)
abbrev s_is_integer : Stmt := top 5
abbrev N_is_integer : List Str := ["value"]
theorem sc_is_integer : FnScope N_is_integer ["value"] (defScope s_is_integer) := ⟨rfl, rfl, rfl, by decide +kernel, rfl, by decide +kernel, by decide +kernel⟩
abbrev s_is_within : Stmt := top 6
abbrev N_is_within : List Str := ["value", "least", "most"]
theorem sc_is_within : FnScope N_is_within ["value", "least", "most"] (defScope s_is_within) := ⟨rfl, rfl, rfl, by decide +kernel, rfl, by decide +kernel, by decide +kernel⟩
abbrev s_is_row : Stmt := top 7
abbrev N_is_row : List Str := ["value", "least", "most"]
theorem sc_is_row : FnScope N_is_row ["value", "least", "most"] (defScope s_is_row) := ⟨rfl, rfl, rfl, by decide +kernel, rfl, by decide +kernel, by decide +kernel⟩
abbrev s_is_row_within : Stmt := top 8
abbrev N_is_row_within : List Str := ["value", "many", "least", "most", "number"]
theorem sc_is_row_within : FnScope N_is_row_within ["value", "many", "least", "most"] (defScope s_is_row_within) := ⟨rfl, rfl, rfl, by decide +kernel, rfl, by decide +kernel, by decide +kernel⟩
abbrev s_need_within : Stmt := top 9
abbrev N_need_within : List Str := ["value", "least", "most", "part"]
theorem sc_need_within : FnScope N_need_within ["value", "least", "most", "part"] (defScope s_need_within) := ⟨rfl, rfl, rfl, by decide +kernel, rfl, by decide +kernel, by decide +kernel⟩
abbrev s_reduced : Stmt := top 11
abbrev N_reduced : List Str := ["up", "down", "common"]
theorem sc_reduced : FnScope N_reduced ["up", "down"] (defScope s_reduced) := ⟨rfl, rfl, rfl, by decide +kernel, rfl, by decide +kernel, by decide +kernel⟩
abbrev s_need_lengths : Stmt := top 16
abbrev N_need_lengths : List Str := ["lengths"]
theorem sc_need_lengths : FnScope N_need_lengths ["lengths"] (defScope s_need_lengths) := ⟨rfl, rfl, rfl, by decide +kernel, rfl, by decide +kernel, by decide +kernel⟩
abbrev s_steps_in : Stmt := top 17
abbrev N_steps_in : List Str := ["lengths", "lap", "length"]
theorem sc_steps_in : FnScope N_steps_in ["lengths", "lap"] (defScope s_steps_in) := ⟨rfl, rfl, rfl, by decide +kernel, rfl, by decide +kernel, by decide +kernel⟩
abbrev s_steps_before : Stmt := top 18
abbrev N_steps_before : List Str := ["lengths", "lap", "many"]
theorem sc_steps_before : FnScope N_steps_before ["lengths", "lap"] (defScope s_steps_before) := ⟨rfl, rfl, rfl, by decide +kernel, rfl, by decide +kernel, by decide +kernel⟩
abbrev s_lap_tick : Stmt := top 19
abbrev N_lap_tick : List Str := ["lengths", "place", "step", "lap", "before"]
theorem sc_lap_tick : FnScope N_lap_tick ["lengths", "place", "step"] (defScope s_lap_tick) := ⟨rfl, rfl, rfl, by decide +kernel, rfl, by decide +kernel, by decide +kernel⟩
abbrev s_lap_factors : Stmt := top 20
abbrev N_lap_factors : List Str := ["lengths", "shares", "sums", "length", "place", "total", "share"]
theorem sc_lap_factors : FnScope N_lap_factors ["lengths"] (defScope s_lap_factors) := ⟨rfl, rfl, rfl, by decide +kernel, rfl, by decide +kernel, by decide +kernel⟩
abbrev s__law_sower : Stmt := top 22
abbrev N__law_sower : List Str := ["script", "cell"]
theorem sc__law_sower : FnScope N__law_sower ["script"] (defScope s__law_sower) := ⟨rfl, rfl, rfl, by decide +kernel, rfl, by decide +kernel, by decide +kernel⟩
abbrev s__law_scatter : Stmt := top 23
abbrev N__law_scatter : List Str := ["sower", "many", "left", "turn", "cell", "mixed"]
theorem sc__law_scatter : FnScope N__law_scatter ["sower", "many"] (defScope s__law_scatter) := ⟨rfl, rfl, rfl, by decide +kernel, rfl, by decide +kernel, by decide +kernel⟩
abbrev s__law_grain : Stmt := top 24
abbrev N__law_grain : List Str := ["sower", "some"]
theorem sc__law_grain : FnScope N__law_grain ["sower", "some"] (defScope s__law_grain) := ⟨rfl, rfl, rfl, by decide +kernel, rfl, by decide +kernel, by decide +kernel⟩
abbrev s__law_halved : Stmt := top 25
abbrev N__law_halved : List Str := ["up", "down", "turn"]
theorem sc__law_halved : FnScope N__law_halved ["up", "down"] (defScope s__law_halved) := ⟨rfl, rfl, rfl, by decide +kernel, rfl, by decide +kernel, by decide +kernel⟩
abbrev s__law_due : Stmt := top 26
abbrev N__law_due : List Str := ["lengths", "place", "up", "its", "length", "share"]
theorem sc__law_due : FnScope N__law_due ["lengths", "place"] (defScope s__law_due) := ⟨rfl, rfl, rfl, by decide +kernel, rfl, by decide +kernel, by decide +kernel⟩
abbrev s__law_place_right : Stmt := top 27
abbrev N__law_place_right : List Str := ["sower", "lengths", "place", "pair", "up", "down", "step"]
theorem sc__law_place_right : FnScope N__law_place_right ["sower", "lengths", "place", "pair"] (defScope s__law_place_right) := ⟨rfl, rfl, rfl, by decide +kernel, rfl, by decide +kernel, by decide +kernel⟩
abbrev s__law_no_lengths : Stmt := top 28
abbrev N__law_no_lengths : List Str := ["value", "found", "error"]
theorem sc__law_no_lengths : FnScope N__law_no_lengths ["value"] (defScope s__law_no_lengths) := ⟨rfl, rfl, rfl, by decide +kernel, rfl, by decide +kernel, by decide +kernel⟩
abbrev s_law : Stmt := top 29
abbrev N_law : List Str := ["script", "sower", "turn", "most", "lengths", "place", "due", "told", "kept", "pair", "at", "odd", "bad", "lap"]
theorem sc_law : FnScope N_law ["script"] (defScope s_law) := ⟨rfl, rfl, rfl, by decide +kernel, rfl, by decide +kernel, by decide +kernel⟩
abbrev s_BadNumber_init : Stmt := inClass (top 3) 0
abbrev N_BadNumber_init : List Str := ["self", "part"]
theorem sc_BadNumber_init : FnScope N_BadNumber_init ["self", "part"] (defScope s_BadNumber_init) := ⟨rfl, rfl, rfl, by decide +kernel, rfl, by decide +kernel, by decide +kernel⟩
structure Txt (mg : Str → Option Value) : Prop where
  b_isinstance : mg "isinstance" = none
  b_int : mg "int" = none
  b_bool : mg "bool" = none
  b_list : mg "list" = none
  b_tuple : mg "tuple" = none
  b_len : mg "len" = none
  b_all : mg "all" = none
  b_sum : mg "sum" = none
  b_range : mg "range" = none
  b_zip : mg "zip" = none
  b_abs : mg "abs" = none
  b_enumerate : mg "enumerate" = none
  b_repr : mg "repr" = none
  b_ValueError : mg "ValueError" = none
  b_max : mg "max" = none
  g_MOST_PLACES : ∃ t, mg "MOST_PLACES" = some (.int 40 t)
  g_MOST_LENGTH : ∃ t, mg "MOST_LENGTH" = some (.int 30 t)
  g_MOST_STEP : ∃ t, mg "MOST_STEP" = some (.int 1000000000 t)
  g_gcd : mg "gcd" = some (.builtin "math.gcd")
section
variable {P : Program} {w : World} {K : PySem.W.Frag} {mg : Str → Option Value} {base : Heap} {cl : Str → Addr}
/-! ### is_integer -/
noncomputable def m_is_integer : MS := (mRet (mAnd (mUn (isiD "int") (mVar 0)) (mNot (mUn (isiD "bool") (mVar 0)))))
noncomputable def mf_is_integer : MF := runF N_is_integer.length [] m_is_integer
theorem ok_is_integer {f : Addr} {fd : FuncData} (F : Fun K "is_integer" "is_integer" s_is_integer f fd) (T : Txt mg) : FnOk P w K mg base (L2.CX P w) 1 f fd ["value"] (spF K cl [] 1 mf_is_integer) :=
  fn_ok F sc_is_integer fun cdv A outer s H F vs E hr => (ds_one (ds_ret (de_and (de_isi rfl T.b_isinstance (de_var 0) T.b_int boot_int) (de_one (de_not (de_isi rfl T.b_isinstance (de_var 0) T.b_bool boot_bool))))))
/-! ### is_within -/
noncomputable def m_is_within : MS := (mSeq (mIfS (mNotT (mTr (mCall mf_is_integer [] 1 (iCons (mVar 0) iNil))))
  (mRet (mC (.bl false)))
  mPass)
  (mRet (mAnd (mOr (mBin isD (mVar 1) (mC .non)) (mBin leD (mVar 1) (mVar 0))) (mOr (mBin isD (mVar 2) (mC .non)) (mBin leD (mVar 0) (mVar 2))))))
noncomputable def mf_is_within : MF := runF N_is_within.length [] m_is_within
theorem ok_is_within {f : Addr} {fd : FuncData} (F : Fun K "is_within" "is_within" s_is_within f fd) (T : Txt mg) (C_is_integer : CalX P w K mg base 1 "is_integer" ["value"] (spF K cl [] 1 mf_is_integer)) : FnOk P w K mg base (L2.CX P w) 2 f fd ["value", "least", "most"] (spF K cl [] 3 mf_is_within) :=
  fn_ok F sc_is_within fun cdv A outer s H F vs E hr => (ds_cons (ds_if (dt_not (dt_truth rfl (de_call C_is_integer (takes_of rfl rfl rfl rfl) (hr.mono (by decide)) (di_cons (de_var 0) di_nil))))
  (ds_one (ds_ret de_bl))
  ds_nil)
  (ds_one (ds_ret (de_and (de_or (de_cmp opd_is (de_var 1) de_non) (de_one (de_cmp opd_le (de_var 1) (de_var 0)))) (de_one (de_or (de_cmp opd_is (de_var 2) de_non) (de_one (de_cmp opd_le (de_var 0) (de_var 2)))))))))
/-! ### is_row -/
noncomputable def m_is_row : MS := (mRet (mAnd (mUn (isi2D "list" "tuple") (mVar 0)) (mChain leD leD (mVar 1) (mUn lenD (mVar 0)) (mVar 2))))
noncomputable def mf_is_row : MF := runF N_is_row.length [] m_is_row
theorem ok_is_row {f : Addr} {fd : FuncData} (F : Fun K "is_row" "is_row" s_is_row f fd) (T : Txt mg) : FnOk P w K mg base (L2.CX P w) 1 f fd ["value", "least", "most"] (spF K cl [] 3 mf_is_row) :=
  fn_ok F sc_is_row fun cdv A outer s H F vs E hr => (ds_one (ds_ret (de_and (de_isi2 rfl T.b_isinstance (de_var 0) T.b_list boot_list T.b_tuple boot_tuple) (de_one (de_chain opd_le opd_le (de_var 1) (de_b1 (cd_len rfl) T.b_len boot_len (de_var 0)) (de_var 2))))))
/-! ### is_row_within -/
noncomputable def m_is_row_within : MS := (mRet (mAnd (mCall mf_is_row [] 3 (iCons (mVar 0) (iCons (mC (.int 1)) (iCons (mVar 1) iNil)))) (mUn allD (mLc [4] (mIt (mVar 0)) (gN 4) mYes (mCall mf_is_within [] 3 (iCons (mVar 4) (iCons (mVar 2) (iCons (mVar 3) iNil))))))))
noncomputable def mf_is_row_within : MF := runF N_is_row_within.length [] m_is_row_within
theorem ok_is_row_within {f : Addr} {fd : FuncData} (F : Fun K "is_row_within" "is_row_within" s_is_row_within f fd) (T : Txt mg) (C_is_within : CalX P w K mg base 2 "is_within" ["value", "least", "most"] (spF K cl [] 3 mf_is_within)) (C_is_row : CalX P w K mg base 1 "is_row" ["value", "least", "most"] (spF K cl [] 3 mf_is_row)) : FnOk P w K mg base (L2.CX P w) 3 f fd ["value", "many", "least", "most"] (spF K cl [] 4 mf_is_row_within) :=
  fn_ok F sc_is_row_within fun cdv A outer s H F vs E hr => (ds_one (ds_ret (de_and (de_call C_is_row (takes_of rfl rfl rfl rfl) (hr.mono (by decide)) (di_cons (de_var 0) (di_cons de_int (di_cons (de_var 1) di_nil)))) (de_one (de_b1 (cd_all rfl rfl) T.b_all boot_all (de_lc (own := [("number", 4)]) rfl sc_is_row_within.nd (dit_view rfl (de_var 0)) (blkOk_by (own := [("number", 4)]) (N := N_is_row_within) (sc := defScope s_is_row_within) (by decide +kernel)) (fun _ _ _ _ _ => (dg_name 4 sc_is_row_within.nd rfl (Or.inl rfl))) (fun _ _ _ _ _ => dts_nil) (fun _ _ _ _ _ => (de_call C_is_within takes0 (hr.mono (by decide)) (di_cons (de_var 4) (di_cons (de_var 2) (di_cons (de_var 3) di_nil)))))))))))
/-! ### need_within -/
noncomputable def m_need_within : MS := (mIfS (mNotT (mTr (mCall mf_is_within [] 3 (iCons (mVar 0) (iCons (mVar 1) (iCons (mVar 2) iNil))))))
  (mRaise "BadNumber" "part" (mVar 3))
  mPass)
noncomputable def mf_need_within : MF := runF N_need_within.length [] m_need_within
theorem ok_need_within {f : Addr} {fd : FuncData} (F : Fun K "need_within" "need_within" s_need_within f fd) (T : Txt mg) (C_is_within : CalX P w K mg base 2 "is_within" ["value", "least", "most"] (spF K cl [] 3 mf_is_within)) (R_BadNumber : Rcl P w K mg base "BadNumber" (cl "BadNumber") "part") : FnOk P w K mg base (L2.CX P w) 3 f fd ["value", "least", "most", "part"] (spF K cl [] 4 mf_need_within) :=
  fn_ok F sc_need_within fun cdv A outer s H F vs E hr => (ds_one (ds_if (dt_not (dt_truth rfl (de_call C_is_within (takes_of rfl rfl rfl rfl) (hr.mono (by decide)) (di_cons (de_var 0) (di_cons (de_var 1) (di_cons (de_var 2) di_nil))))))
  (ds_one (ds_raise R_BadNumber rfl (takes_of rfl rfl rfl rfl) (hr.mono (by decide)) (de_var 3)))
  ds_nil))
/-! ### reduced -/
noncomputable def m_reduced : MS := (mSeq (mSet 2 (mBin gcdD (mVar 0) (mVar 1)))
  (mRet (mTup (mCons (mBin fdivD (mVar 0) (mVar 2)) (mCons (mBin fdivD (mVar 1) (mVar 2)) mNil)))))
noncomputable def mf_reduced : MF := runF N_reduced.length [] m_reduced
theorem ok_reduced {f : Addr} {fd : FuncData} (F : Fun K "reduced" "reduced" s_reduced f fd) (T : Txt mg) : FnOk P w K mg base (L2.CX P w) 1 f fd ["up", "down"] (spF K cl [] 2 mf_reduced) :=
  fn_ok F sc_reduced fun cdv A outer s H F vs E hr => (ds_cons (ds_set 2 sc_reduced.nd rfl (Or.inl rfl) (de_bf2 cd_gcd T.g_gcd (de_var 0) (de_var 1)))
  (ds_one (ds_ret (de_tup (da_cons (de_op opd_fdiv (de_var 0) (de_var 2)) (da_cons (de_op opd_fdiv (de_var 1) (de_var 2)) da_nil))))))
/-! ### need_lengths -/
noncomputable def m_need_lengths : MS := (mIfS (mNotT (mTr (mCall mf_is_row_within [] 4 (iCons (mVar 0) (iCons (mC (.int 40)) (iCons (mC (.int 1)) (iCons (mC (.int 30)) iNil)))))))
  (mRaise "BadNumber" "part" (mC (.str "lengths")))
  mPass)
noncomputable def mf_need_lengths : MF := runF N_need_lengths.length [] m_need_lengths
theorem ok_need_lengths {f : Addr} {fd : FuncData} (F : Fun K "need_lengths" "need_lengths" s_need_lengths f fd) (T : Txt mg) (C_is_row_within : CalX P w K mg base 3 "is_row_within" ["value", "many", "least", "most"] (spF K cl [] 4 mf_is_row_within)) (R_BadNumber : Rcl P w K mg base "BadNumber" (cl "BadNumber") "part") : FnOk P w K mg base (L2.CX P w) 4 f fd ["lengths"] (spF K cl [] 1 mf_need_lengths) :=
  fn_ok F sc_need_lengths fun cdv A outer s H F vs E hr => (ds_one (ds_if (dt_not (dt_truth rfl (de_call C_is_row_within (takes_of rfl rfl rfl rfl) (hr.mono (by decide)) (di_cons (de_var 0) (di_cons (de_gi T.g_MOST_PLACES) (di_cons de_int (di_cons (de_gi T.g_MOST_LENGTH) di_nil)))))))
  (ds_one (ds_raise R_BadNumber rfl (takes_of rfl rfl rfl rfl) (hr.mono (by decide)) de_str))
  ds_nil))
/-! ### steps_in -/
noncomputable def m_steps_in : MS := (mRet (mLc [2] (mIt (mVar 0)) (gN 2) mYes (mIf (mTe (mBin leD (mVar 2) (mVar 1))) (mBin shlD (mC (.int 1)) (mBin subD (mVar 1) (mVar 2))) (mC (.int 0)))))
noncomputable def mf_steps_in : MF := runF N_steps_in.length [] m_steps_in
theorem ok_steps_in {f : Addr} {fd : FuncData} (F : Fun K "steps_in" "steps_in" s_steps_in f fd) (T : Txt mg) : FnOk P w K mg base (L2.CX P w) 1 f fd ["lengths", "lap"] (spF K cl [] 2 mf_steps_in) :=
  fn_ok F sc_steps_in fun cdv A outer s H F vs E hr => (ds_one (ds_ret (de_lc (own := [("length", 2)]) rfl sc_steps_in.nd (dit_view rfl (de_var 0)) (blkOk_by (own := [("length", 2)]) (N := N_steps_in) (sc := defScope s_steps_in) (by decide +kernel)) (fun _ _ _ _ _ => (dg_name 2 sc_steps_in.nd rfl (Or.inl rfl))) (fun _ _ _ _ _ => dts_nil) (fun _ _ _ _ _ => (de_ifExp (dt_cmp opd_le (de_var 2) (de_var 1)) (de_op opd_shl de_int (de_op opd_sub (de_var 1) (de_var 2))) de_int)))))
/-! ### steps_before -/
noncomputable def m_steps_before : MS := (mRet (mLc [2] (mIt (mCall mf_steps_in [] 2 (iCons (mVar 0) (iCons (mVar 1) iNil)))) (gN 2) mYes (mBin max2D (mBin subD (mVar 2) (mC (.int 1))) (mC (.int 0)))))
noncomputable def mf_steps_before : MF := runF N_steps_before.length [] m_steps_before
theorem ok_steps_before {f : Addr} {fd : FuncData} (F : Fun K "steps_before" "steps_before" s_steps_before f fd) (T : Txt mg) (C_steps_in : CalX P w K mg base 1 "steps_in" ["lengths", "lap"] (spF K cl [] 2 mf_steps_in)) : FnOk P w K mg base (L2.CX P w) 2 f fd ["lengths", "lap"] (spF K cl [] 2 mf_steps_before) :=
  fn_ok F sc_steps_before fun cdv A outer s H F vs E hr => (ds_one (ds_ret (de_lc (own := [("many", 2)]) rfl sc_steps_before.nd (dit_view rfl (de_call C_steps_in (takes_of rfl rfl rfl rfl) (hr.mono (by decide)) (di_cons (de_var 0) (di_cons (de_var 1) di_nil)))) (blkOk_by (own := [("many", 2)]) (N := N_steps_before) (sc := defScope s_steps_before) (by decide +kernel)) (fun _ _ _ _ _ => (dg_name 2 sc_steps_before.nd rfl (Or.inl rfl))) (fun _ _ _ _ _ => dts_nil) (fun _ _ _ _ _ => (de_b2 (cd_max2 rfl) T.b_max boot_max (de_op opd_sub (de_var 2) de_int) de_int)))))
/-! ### lap_tick -/
noncomputable def m_lap_tick : MS := (mSeq (mDrop (mCall mf_need_lengths [] 1 (iCons (mVar 0) iNil)))
  (mSeq (mDrop (mCall mf_need_within [] 4 (iCons (mVar 1) (iCons (mC (.int 0)) (iCons (mBin subD (mUn lenD (mVar 0)) (mC (.int 1))) (iCons (mC (.str "place")) iNil))))))
  (mSeq (mDrop (mCall mf_need_within [] 4 (iCons (mVar 2) (iCons (mC (.int 1)) (iCons (mC (.int 1000000000)) (iCons (mC (.str "step")) iNil))))))
  (mSeq (mSet 3 (mBin subD (mBin addD (mBin ixD (mVar 0) (mVar 1)) (mUn bitsD (mVar 2))) (mC (.int 1))))
  (mSeq (mSet 4 (mCall mf_steps_before [] 2 (iCons (mVar 0) (iCons (mVar 3) iNil))))
  (mRet (mBin subD (mBin addD (mBin addD (mUn sumD (mVar 4)) (mUn sumD (mSl (mCall mf_steps_in [] 2 (iCons (mVar 0) (iCons (mVar 3) iNil))) oNo (oSo (mVar 1))))) (mVar 2)) (mBin ixD (mVar 4) (mVar 1)))))))))
noncomputable def mf_lap_tick : MF := runF N_lap_tick.length [] m_lap_tick
theorem ok_lap_tick {f : Addr} {fd : FuncData} (F : Fun K "lap_tick" "lap_tick" s_lap_tick f fd) (T : Txt mg) (C_need_lengths : CalX P w K mg base 4 "need_lengths" ["lengths"] (spF K cl [] 1 mf_need_lengths)) (C_need_within : CalX P w K mg base 3 "need_within" ["value", "least", "most", "part"] (spF K cl [] 4 mf_need_within)) (C_steps_before : CalX P w K mg base 2 "steps_before" ["lengths", "lap"] (spF K cl [] 2 mf_steps_before)) (C_steps_in : CalX P w K mg base 1 "steps_in" ["lengths", "lap"] (spF K cl [] 2 mf_steps_in)) : FnOk P w K mg base (L2.CX P w) 5 f fd ["lengths", "place", "step"] (spF K cl [] 3 mf_lap_tick) :=
  fn_ok F sc_lap_tick fun cdv A outer s H F vs E hr => (ds_cons (ds_expr (de_call C_need_lengths (takes_of rfl rfl rfl rfl) (hr.mono (by decide)) (di_cons (de_var 0) di_nil)))
  (ds_cons (ds_expr (de_call C_need_within (takes_of rfl rfl rfl rfl) (hr.mono (by decide)) (di_cons (de_var 1) (di_cons de_int (di_cons (de_op opd_sub (de_b1 (cd_len rfl) T.b_len boot_len (de_var 0)) de_int) (di_cons de_str di_nil))))))
  (ds_cons (ds_expr (de_call C_need_within (takes_of rfl rfl rfl rfl) (hr.mono (by decide)) (di_cons (de_var 2) (di_cons de_int (di_cons (de_gi T.g_MOST_STEP) (di_cons de_str di_nil))))))
  (ds_cons (ds_set 3 sc_lap_tick.nd rfl (Or.inl rfl) (de_op opd_sub (de_op (opd_add rfl) (de_ix rfl (de_var 0) (de_var 1)) (de_bitsX (de_var 2))) de_int))
  (ds_cons (ds_set 4 sc_lap_tick.nd rfl (Or.inl rfl) (de_call C_steps_before (takes_of rfl rfl rfl rfl) (hr.mono (by decide)) (di_cons (de_var 0) (di_cons (de_var 3) di_nil))))
  (ds_one (ds_ret (de_op opd_sub (de_op (opd_add rfl) (de_op (opd_add rfl) (de_b1 (cd_sum rfl rfl) T.b_sum boot_sum (de_var 4)) (de_b1 (cd_sum rfl rfl) T.b_sum boot_sum (de_sl rfl (de_call C_steps_in (takes_of rfl rfl rfl rfl) (hr.mono (by decide)) (di_cons (de_var 0) (di_cons (de_var 3) di_nil))) do_no (do_so (de_var 1))))) (de_var 2)) (de_ix rfl (de_var 4) (de_var 1))))))))))
/-! ### lap_factors -/
noncomputable def m_lap_factors : MS := (mSeq (mDrop (mCall mf_need_lengths [] 1 (iCons (mVar 0) iNil)))
  (mSeq (mSet 1 (mLc [3] (mIt (mVar 0)) (gN 3) mYes (mBin shlD (mC (.int 1)) (mBin subD (mC (.int 30)) (mVar 3)))))
  (mSeq (mSet 2 (mLc [4] (mRng1 (mUn lenD (mVar 1))) (gN 4) mYes (mBin addD (mUn sumD (mVar 1)) (mUn sumD (mSl (mVar 1) oNo (oSo (mVar 4)))))))
  (mRet (mUn tupleD (mLc [5, 6] (mZipK (mVar 2) (mVar 1)) (gTupK 2 (gConsD (gN 5) (gConsD (gN 6) gNilD))) mYes (mCall mf_reduced [] 2 (iCons (mVar 5) (iCons (mVar 6) iNil)))))))))
noncomputable def mf_lap_factors : MF := runF N_lap_factors.length [] m_lap_factors
theorem ok_lap_factors {f : Addr} {fd : FuncData} (F : Fun K "lap_factors" "lap_factors" s_lap_factors f fd) (T : Txt mg) (C_need_lengths : CalX P w K mg base 4 "need_lengths" ["lengths"] (spF K cl [] 1 mf_need_lengths)) (C_reduced : CalX P w K mg base 1 "reduced" ["up", "down"] (spF K cl [] 2 mf_reduced)) : FnOk P w K mg base (L2.CX P w) 5 f fd ["lengths"] (spF K cl [] 1 mf_lap_factors) :=
  fn_ok F sc_lap_factors fun cdv A outer s H F vs E hr => (ds_cons (ds_expr (de_call C_need_lengths (takes_of rfl rfl rfl rfl) (hr.mono (by decide)) (di_cons (de_var 0) di_nil)))
  (ds_cons (ds_set 1 sc_lap_factors.nd rfl (Or.inr rfl) (de_lc (own := [("length", 3)]) rfl sc_lap_factors.nd (dit_view rfl (de_var 0)) (blkOk_by (own := [("length", 3)]) (N := N_lap_factors) (sc := defScope s_lap_factors) (by decide +kernel)) (fun _ _ _ _ _ => (dg_name 3 sc_lap_factors.nd rfl (Or.inl rfl))) (fun _ _ _ _ _ => dts_nil) (fun _ _ _ _ _ => (de_op opd_shl de_int (de_op opd_sub (de_gi T.g_MOST_LENGTH) (de_var 3))))))
  (ds_cons (ds_setLc (own := [("place", 4)]) 2 rfl sc_lap_factors.nd rfl rfl (sw_true rfl rfl rfl (by decide +kernel)) (dit_range1 T.b_range (de_b1 (cd_len rfl) T.b_len boot_len (de_var 1))) (blkOk_by (own := [("place", 4)]) (N := N_lap_factors) (sc := defScope s_lap_factors) (by decide +kernel)) (fun _ _ _ _ _ => (dg_name 4 sc_lap_factors.nd rfl (Or.inl rfl))) (fun _ _ _ _ _ => dts_nil) (fun _ _ _ _ _ => (de_op (opd_add rfl) (de_b1 (cd_sum rfl rfl) T.b_sum boot_sum (de_var 1)) (de_b1 (cd_sum rfl rfl) T.b_sum boot_sum (de_sl rfl (de_var 1) do_no (do_so (de_var 4)))))))
  (ds_one (ds_ret (de_t1 (cd_tuple rfl) T.b_tuple boot_tuple (de_lc (own := [("total", 5), ("share", 6)]) rfl sc_lap_factors.nd (dit_zipK rfl T.b_zip (de_var 2) (de_var 1)) (blkOk_by (own := [("total", 5), ("share", 6)]) (N := N_lap_factors) (sc := defScope s_lap_factors) (by decide +kernel)) (fun _ _ _ _ _ => (dg_tupK rfl rfl (dgs_cons (dg_name 5 sc_lap_factors.nd rfl (Or.inl rfl)) (dgs_cons (dg_name 6 sc_lap_factors.nd rfl (Or.inl rfl)) dgs_nil)))) (fun _ _ _ _ _ => dts_nil) (fun _ _ _ _ _ => (de_call C_reduced takes0 (hr.mono (by decide)) (di_cons (de_var 5) (di_cons (de_var 6) di_nil)))))))))))
/-! ### _law_sower -/
noncomputable def m__law_sower : MS := (mRet (mLst (mCons (mLc [1] (mIt (mSl (mVar 0) oNo (oSo (mC (.int 60))))) (gN 1) mYes (mUn intD (mVar 1))) (mCons (mC (.int 0)) (mCons (mC (.int 0)) mNil)))))
noncomputable def mf__law_sower : MF := runF N__law_sower.length [] m__law_sower
theorem ok__law_sower {f : Addr} {fd : FuncData} (F : Fun K "_law_sower" "_law_sower" s__law_sower f fd) (T : Txt mg) : FnOk P w K mg base (L2.CX P w) 1 f fd ["script"] (spF K cl [] 1 mf__law_sower) :=
  fn_ok F sc__law_sower fun cdv A outer s H F vs E hr => (ds_one (ds_ret (de_lst (da_cons (de_lc (own := [("cell", 1)]) rfl sc__law_sower.nd (dit_view rfl (de_sl rfl (de_var 0) do_no (do_so de_int))) (blkOk_by (own := [("cell", 1)]) (N := N__law_sower) (sc := defScope s__law_sower) (by decide +kernel)) (fun _ _ _ _ _ => (dg_name 1 sc__law_sower.nd rfl (Or.inl rfl))) (fun _ _ _ _ _ => dts_nil) (fun _ _ _ _ _ => (de_t1 cd_int T.b_int boot_int (de_var 1)))) (da_cons de_int (da_cons de_int da_nil))))))
/-! ### _law_scatter -/
noncomputable def m__law_scatter : MS := (mSeq (mIfS (mTe (mBin gtD (mBin ixD (mVar 0) (mC (.int 2))) (mC (.int 0))))
  (mSeq (mSet 2 (mUn intD (mBin ixD (mVar 0) (mC (.int 2)))))
  (mSeq (mSetIx 0 (mC (.int 2)) (mBin fdivD (mVar 2) (mVar 1)))
  (mRet (mBin modD (mUn intD (mVar 2)) (mVar 1)))))
  mPass)
  (mSeq (mSet 3 (mBin ixD (mVar 0) (mC (.int 1))))
  (mSeq (mSetIx 0 (mC (.int 1)) (mBin addD (mVar 3) (mC (.int 1))))
  (mSeq (mSet 4 (mBin addD (mBin mulD (mC (.int 304849)) (mVar 3)) (mC (.int 8233))))
  (mSeq (mIfS (mTe (mBin neD (mBin ixD (mVar 0) (mC (.int 0))) (mLst mNil)))
  (mSet 4 (mBin ixD (mBin ixD (mVar 0) (mC (.int 0))) (mBin modD (mUn intD (mVar 3)) (mUn lenD (mBin ixD (mVar 0) (mC (.int 0)))))))
  mPass)
  (mSeq (mIfS (mAndT (mTe (mBin ltD (mVar 3) (mUn lenD (mBin ixD (mVar 0) (mC (.int 0)))))) (mTe (mBin geD (mUn absD (mVar 4)) (mBin powD (mC (.int 10)) (mC (.int 18))))))
  (mSeq (mSet 2 (mBin addD (mBin mulD (mC (.int 2)) (mBin subD (mUn absD (mUn intD (mVar 4))) (mBin powD (mC (.int 10)) (mC (.int 18))))) (mUn intD (mBin ltD (mVar 4) (mC (.int 0))))))
  (mSeq (mSetIx 0 (mC (.int 2)) (mBin fdivD (mVar 2) (mVar 1)))
  (mRet (mBin modD (mUn intD (mVar 2)) (mVar 1)))))
  mPass)
  (mSeq (mSet 5 (mBin modD (mUn intD (mBin powD (mBin addD (mBin addD (mBin modD (mUn intD (mVar 4)) (mC (.int 2147483629))) (mBin mulD (mC (.int 72733)) (mVar 3))) (mC (.int 8233))) (mC (.int 5)))) (mC (.int 2147483579))))
  (mSeq (mSet 5 (mBin modD (mUn intD (mBin powD (mBin addD (mBin addD (mBin mulD (mVar 5) (mBin addD (mBin mulD (mC (.int 2)) (mVar 3)) (mC (.int 7537)))) (mBin mulD (mBin mulD (mC (.int 304849)) (mVar 3)) (mVar 3))) (mC (.int 72733))) (mC (.int 3)))) (mC (.int 2147483587))))
  (mRet (mBin modD (mUn intD (mBin fdivD (mVar 5) (mC (.int 64)))) (mVar 1)))))))))))
noncomputable def mf__law_scatter : MF := runF N__law_scatter.length [0] m__law_scatter
theorem ok__law_scatter {f : Addr} {fd : FuncData} (F : Fun K "_law_scatter" "_law_scatter" s__law_scatter f fd) (T : Txt mg) : FnOk P w K mg base (L2.CX P w) 1 f fd ["sower", "many"] (spF K cl [0] 2 mf__law_scatter) :=
  fn_ok F sc__law_scatter fun cdv A outer s H F vs E hr => (ds_cons (ds_if (dt_cmp opd_gt (de_ix rfl (de_var 0) de_int) de_int)
  (ds_cons (ds_set 2 sc__law_scatter.nd rfl (Or.inl rfl) (de_t1 cd_int T.b_int boot_int (de_ix rfl (de_var 0) de_int)))
  (ds_cons (ds_setIx 0 (de_op opd_fdiv (de_var 2) (de_var 1)) de_int)
  (ds_one (ds_ret (de_op opd_mod (de_t1 cd_int T.b_int boot_int (de_var 2)) (de_var 1))))))
  ds_nil)
  (ds_cons (ds_set 3 sc__law_scatter.nd rfl (Or.inl rfl) (de_ix rfl (de_var 0) de_int))
  (ds_cons (ds_setIx 0 (de_op (opd_add rfl) (de_var 3) de_int) de_int)
  (ds_cons (ds_set 4 sc__law_scatter.nd rfl (Or.inl rfl) (de_op (opd_add rfl) (de_op opd_mul de_int (de_var 3)) de_int))
  (ds_cons (ds_if (dt_cmp (opd_ne rfl (hu64 hr)) (de_ix rfl (de_var 0) de_int) (de_lst da_nil))
  (ds_one (ds_set 4 sc__law_scatter.nd rfl (Or.inl rfl) (de_ix rfl (de_ix rfl (de_var 0) de_int) (de_op opd_mod (de_t1 cd_int T.b_int boot_int (de_var 3)) (de_b1 (cd_len rfl) T.b_len boot_len (de_ix rfl (de_var 0) de_int))))))
  ds_nil)
  (ds_cons (ds_if (PW.pt (dw_and (dt_cmp opd_lt (de_var 3) (de_b1 (cd_len rfl) T.b_len boot_len (de_ix rfl (de_var 0) de_int))) (dw_and1 (dt_cmp opd_ge (de_b1 cd_abs T.b_abs boot_abs (de_var 4)) (de_op opd_pow de_int de_int)))))
  (ds_cons (ds_set 2 sc__law_scatter.nd rfl (Or.inl rfl) (de_op (opd_add rfl) (de_op opd_mul de_int (de_op opd_sub (de_b1 cd_abs T.b_abs boot_abs (de_t1 cd_int T.b_int boot_int (de_var 4))) (de_op opd_pow de_int de_int))) (de_t1 cd_int T.b_int boot_int (de_cmp opd_lt (de_var 4) de_int))))
  (ds_cons (ds_setIx 0 (de_op opd_fdiv (de_var 2) (de_var 1)) de_int)
  (ds_one (ds_ret (de_op opd_mod (de_t1 cd_int T.b_int boot_int (de_var 2)) (de_var 1))))))
  ds_nil)
  (ds_cons (ds_set 5 sc__law_scatter.nd rfl (Or.inl rfl) (de_op opd_mod (de_t1 cd_int T.b_int boot_int (de_op opd_pow (de_op (opd_add rfl) (de_op (opd_add rfl) (de_op opd_mod (de_t1 cd_int T.b_int boot_int (de_var 4)) de_int) (de_op opd_mul de_int (de_var 3))) de_int) de_int)) de_int))
  (ds_cons (ds_set 5 sc__law_scatter.nd rfl (Or.inl rfl) (de_op opd_mod (de_t1 cd_int T.b_int boot_int (de_op opd_pow (de_op (opd_add rfl) (de_op (opd_add rfl) (de_op opd_mul (de_var 5) (de_op (opd_add rfl) (de_op opd_mul de_int (de_var 3)) de_int)) (de_op opd_mul (de_op opd_mul de_int (de_var 3)) (de_var 3))) de_int) de_int)) de_int))
  (ds_one (ds_ret (de_op opd_mod (de_t1 cd_int T.b_int boot_int (de_op opd_fdiv (de_var 5) de_int)) (de_var 1))))))))))))
/-! ### _law_grain -/
noncomputable def m__law_grain : MS := (mRet (mBin ixD (mVar 1) (mCall mf__law_scatter [0] 2 (iLnd 0 (iCons (mUn lenD (mVar 1)) iNil)))))
noncomputable def mf__law_grain : MF := runF N__law_grain.length [0] m__law_grain
theorem ok__law_grain {f : Addr} {fd : FuncData} (F : Fun K "_law_grain" "_law_grain" s__law_grain f fd) (T : Txt mg) (C__law_scatter : CalX P w K mg base 1 "_law_scatter" ["sower", "many"] (spF K cl [0] 2 mf__law_scatter)) : FnOk P w K mg base (L2.CX P w) 2 f fd ["sower", "some"] (spF K cl [0] 2 mf__law_grain) :=
  fn_ok F sc__law_grain fun cdv A outer s H F vs E hr => (ds_one (ds_ret (de_ix rfl (de_var 1) (de_call C__law_scatter (takes_of rfl rfl rfl rfl) (hr.mono (by decide)) (di_lend 0 (di_cons (de_b1 (cd_len rfl) T.b_len boot_len (de_var 1)) di_nil))))))
/-! ### _law_halved -/
noncomputable def m__law_halved : MS := (mSeq (mFor (mRng1 (mC (.int 60))) (gN 2)
  (mIfS (mAndT (mTe (mBin eqD (mBin modD (mUn intD (mVar 0)) (mC (.int 2))) (mC (.int 0)))) (mTe (mBin eqD (mBin modD (mUn intD (mVar 1)) (mC (.int 2))) (mC (.int 0)))))
  (mPar2 0 1 (nCons (mBin fdivD (mVar 0) (mC (.int 2))) (nCons (mBin fdivD (mVar 1) (mC (.int 2))) nNil)))
  mPass))
  (mRet (mTup (mCons (mVar 0) (mCons (mVar 1) mNil)))))
noncomputable def mf__law_halved : MF := runF N__law_halved.length [] m__law_halved
theorem ok__law_halved {f : Addr} {fd : FuncData} (F : Fun K "_law_halved" "_law_halved" s__law_halved f fd) (T : Txt mg) : FnOk P w K mg base (L2.CX P w) 1 f fd ["up", "down"] (spF K cl [] 2 mf__law_halved) :=
  fn_ok F sc__law_halved fun cdv A outer s H F vs E hr => (ds_cons (ds_for (passes_of rfl) rfl (dit_range1 T.b_range de_int) (dg_name 2 sc__law_halved.nd rfl (Or.inl rfl))
  (ds_one (ds_if (PW.pt (dw_and (dt_cmp (opd_eq rfl (hu64 hr)) (de_op opd_mod (de_t1 cd_int T.b_int boot_int (de_var 0)) de_int) de_int) (dw_and1 (dt_cmp (opd_eq rfl (hu64 hr)) (de_op opd_mod (de_t1 cd_int T.b_int boot_int (de_var 1)) de_int) de_int))))
  (ds_one (ds_par2 (i := 0) (j := 1) rfl sc__law_halved.nd rfl rfl (by decide) rfl rfl (dn_cons (de_op opd_fdiv (de_var 0) de_int) (dn_cons (de_op opd_fdiv (de_var 1) de_int) dn_nil))))
  ds_nil)))
  (ds_one (ds_ret (de_tup (da_cons (de_var 0) (da_cons (de_var 1) da_nil))))))
/-! ### _law_due -/
noncomputable def m__law_due : MS := (mSeq (mSet 2 (mC (.int 0)))
  (mSeq (mFor (mEnum (mVar 0)) (gTupK 2 (gConsD (gN 3) (gConsD (gN 4) gNilD)))
  (mSeq (mSet 5 (mBin shlD (mC (.int 1)) (mBin subD (mC (.int 30)) (mVar 4))))
  (mSet 2 (mBin addD (mBin addD (mVar 2) (mVar 5)) (mIf (mTe (mBin ltD (mVar 3) (mVar 1))) (mVar 5) (mC (.int 0)))))))
  (mRet (mCall mf__law_halved [] 2 (iCons (mVar 2) (iCons (mBin shlD (mC (.int 1)) (mBin subD (mC (.int 30)) (mBin ixD (mVar 0) (mVar 1)))) iNil))))))
noncomputable def mf__law_due : MF := runF N__law_due.length [] m__law_due
theorem ok__law_due {f : Addr} {fd : FuncData} (F : Fun K "_law_due" "_law_due" s__law_due f fd) (T : Txt mg) (C__law_halved : CalX P w K mg base 1 "_law_halved" ["up", "down"] (spF K cl [] 2 mf__law_halved)) : FnOk P w K mg base (L2.CX P w) 2 f fd ["lengths", "place"] (spF K cl [] 2 mf__law_due) :=
  fn_ok F sc__law_due fun cdv A outer s H F vs E hr => (ds_cons (ds_set 2 sc__law_due.nd rfl (Or.inl rfl) de_int)
  (ds_cons (ds_for (passes_of rfl) rfl (dit_enum rfl T.b_enumerate (de_var 0)) (dg_tupK rfl rfl (dgs_cons (dg_name 3 sc__law_due.nd rfl (Or.inl rfl)) (dgs_cons (dg_name 4 sc__law_due.nd rfl (Or.inl rfl)) dgs_nil)))
  (ds_cons (ds_set 5 sc__law_due.nd rfl (Or.inl rfl) (de_op opd_shl de_int (de_op opd_sub de_int (de_var 4))))
  (ds_one (ds_set 2 sc__law_due.nd rfl (Or.inl rfl) (de_op (opd_add rfl) (de_op (opd_add rfl) (de_var 2) (de_var 5)) (de_ifExp (dt_cmp opd_lt (de_var 3) (de_var 1)) (de_var 5) de_int))))))
  (ds_one (ds_ret (de_call C__law_halved (takes_of rfl rfl rfl rfl) (hr.mono (by decide)) (di_cons (de_var 2) (di_cons (de_op opd_shl de_int (de_op opd_sub de_int (de_ix rfl (de_var 0) (de_var 1)))) di_nil)))))))
/-! ### _law_place_right -/
noncomputable def m__law_place_right : MS := (mSeq (mAsg (gTupK 2 (gConsD (gN 4) (gConsD (gN 5) gNilD))) (mVar 3))
  (mSeq (mFor (mItF (mLst (mCons (mC (.int 1)) (mCons (mC (.int 2)) (mCons (mC (.int 3)) (mCons (mC (.int 4)) (mCons (mC (.int 7)) (mCons (mC (.int 8)) (mCons (mBin addD (mC (.int 1)) (mCall mf__law_scatter [0] 2 (iLnd 0 (iCons (mC (.int 1000)) iNil)))) (mCons (mBin shlD (mC (.int 1)) (mCall mf__law_scatter [0] 2 (iLnd 0 (iCons (mC (.int 29)) iNil)))) mNil)))))))))) (gN 6)
  (mIfS (mTe (mBin gtD (mBin mulD (mCall mf_lap_tick [] 3 (iCons (mVar 1) (iCons (mVar 2) (iCons (mVar 6) iNil)))) (mVar 5)) (mBin mulD (mVar 4) (mVar 6))))
  (mRet (mC (.bl false)))
  mPass))
  (mSeq (mSet 6 (mBin shlD (mC (.int 1)) (mC (.int 29))))
  (mRet (mBin geD (mBin mulD (mBin addD (mCall mf_lap_tick [] 3 (iCons (mVar 1) (iCons (mVar 2) (iCons (mVar 6) iNil)))) (mUn lenD (mVar 1))) (mVar 5)) (mBin mulD (mVar 4) (mVar 6)))))))
noncomputable def mf__law_place_right : MF := runF N__law_place_right.length [0] m__law_place_right
theorem ok__law_place_right {f : Addr} {fd : FuncData} (F : Fun K "_law_place_right" "_law_place_right" s__law_place_right f fd) (T : Txt mg) (C__law_scatter : CalX P w K mg base 1 "_law_scatter" ["sower", "many"] (spF K cl [0] 2 mf__law_scatter)) (C_lap_tick : CalX P w K mg base 5 "lap_tick" ["lengths", "place", "step"] (spF K cl [] 3 mf_lap_tick)) : FnOk P w K mg base (L2.CX P w) 6 f fd ["sower", "lengths", "place", "pair"] (spF K cl [0] 4 mf__law_place_right) :=
  fn_ok F sc__law_place_right fun cdv A outer s H F vs E hr => (ds_cons (ds_asg (de_var 3) (dg_tupK rfl rfl (dgs_cons (dg_name 4 sc__law_place_right.nd rfl (Or.inl rfl)) (dgs_cons (dg_name 5 sc__law_place_right.nd rfl (Or.inl rfl)) dgs_nil))))
  (ds_cons (ds_for (passes_of rfl) rfl (dit_val rfl (de_lst (da_cons de_int (da_cons de_int (da_cons de_int (da_cons de_int (da_cons de_int (da_cons de_int (da_cons (de_op (opd_add rfl) de_int (de_call C__law_scatter (takes_of rfl rfl rfl rfl) (hr.mono (by decide)) (di_lend 0 (di_cons de_int di_nil)))) (da_cons (de_op opd_shl de_int (de_call C__law_scatter (takes_of rfl rfl rfl rfl) (hr.mono (by decide)) (di_lend 0 (di_cons de_int di_nil)))) da_nil)))))))))) (dg_name 6 sc__law_place_right.nd rfl (Or.inl rfl))
  (ds_one (ds_if (dt_cmp opd_gt (de_op opd_mul (de_call C_lap_tick (takes_of rfl rfl rfl rfl) (hr.mono (by decide)) (di_cons (de_var 1) (di_cons (de_var 2) (di_cons (de_var 6) di_nil)))) (de_var 5)) (de_op opd_mul (de_var 4) (de_var 6)))
  (ds_one (ds_ret de_bl))
  ds_nil)))
  (ds_cons (ds_set 6 sc__law_place_right.nd rfl (Or.inl rfl) (de_op opd_shl de_int de_int))
  (ds_one (ds_ret (de_cmp opd_ge (de_op opd_mul (de_op (opd_add rfl) (de_call C_lap_tick (takes_of rfl rfl rfl rfl) (hr.mono (by decide)) (di_cons (de_var 1) (di_cons (de_var 2) (di_cons (de_var 6) di_nil)))) (de_b1 (cd_len rfl) T.b_len boot_len (de_var 1))) (de_var 5)) (de_op opd_mul (de_var 4) (de_var 6))))))))
/-! ### _law_no_lengths -/
noncomputable def m__law_no_lengths : MS := (mSeq (mSet 1 (mC .non))
  (mSeq (mTrySet (mDrop (mCall mf_lap_factors [] 1 (iCons (mVar 0) iNil))) 2 1 "BadNumber" "part" (fun _ => none) (mSet 1 (mC (.str "none such"))))
  (mRet (mVar 1))))
noncomputable def mf__law_no_lengths : MF := runF N__law_no_lengths.length [] m__law_no_lengths
theorem ok__law_no_lengths {f : Addr} {fd : FuncData} (F : Fun K "_law_no_lengths" "_law_no_lengths" s__law_no_lengths f fd) (T : Txt mg) (C_lap_factors : CalX P w K mg base 5 "lap_factors" ["lengths"] (spF K cl [] 1 mf_lap_factors)) (R_BadNumber : Rcl P w K mg base "BadNumber" (cl "BadNumber") "part") (X_BadNumber : XfC K (cl "BadNumber") ∧ PySem.W.exmOne K (.ref (cl "BadNumber")) (.ref (cl "BadNumber")) = some true) {cTickError : Addr} (at_TickError : mg "TickError" = some (.ref cTickError)) : FnOk P w K mg base (L2.CX P w) 6 f fd ["value"] (spF K cl [] 1 mf__law_no_lengths) :=
  fn_ok0 F sc__law_no_lengths fun cdv A outer s H F vs E hr => (ds0_cons (ds0_of (ds_set 1 sc__law_no_lengths.nd rfl (Or.inl rfl) de_non))
  (ds0_cons (ds_trySet (i := 2) (j := 1) (x := "BadNumber") (sub := fun _ => none) rfl rfl sc__law_no_lengths.nd rfl rfl rfl (Or.inl rfl) ⟨rfl, by decide, .inl R_BadNumber.at_⟩ ⟨rfl, by decide, .inl at_TickError⟩ (takes_of rfl rfl rfl rfl) X_BadNumber.1 R_BadNumber.no X_BadNumber.2 (fun _ _ _ h => nomatch h) (fun _ _ _ tk1 pw1 => (ds_one (ds_expr (de_call C_lap_factors tk1 (hr.mono (by decide)) (di_cons (de_var 0) di_nil))))) (fun _ _ _ _ _ => (ds_one (ds_set 1 sc__law_no_lengths.nd rfl (Or.inl rfl) de_str))) (Or.inl rfl) (by decide) (by decide) rfl rfl (Or.inr rfl) (fun _ _ => rfl) rfl)
  (ds0s_of (ds_one (ds_ret (de_var 1))))))
/-! ### law -/
noncomputable def m_law : MS := (mSeq (mSet 1 (mCall mf__law_sower [] 1 (iCons (mVar 0) iNil)))
  (mSeq (mFor (mRng1 (mC (.int 4))) (gN 2)
  (mSeq (mSet 3 (mCall mf__law_grain [0] 2 (iLnd 1 (iCons (mLst (mCons (mC (.int 4)) (mCons (mC (.int 2)) (mCons (mC (.int 9)) (mCons (mC (.int 30)) mNil))))) iNil))))
  (mSeq (mSet 4 (mLc [13] (mRng1 (mBin addD (mC (.int 1)) (mCall mf__law_scatter [0] 2 (iLnd 1 (iCons (mC (.int 8)) iNil))))) (gN 13) mYes (mBin addD (mC (.int 1)) (mCall mf__law_scatter [0] 2 (iLnd 1 (iCons (mVar 3) iNil))))))
  (mSeq (mSet 6 (mUn tupleD (mLc [5] (mRng1 (mUn lenD (mVar 4))) (gN 5) mYes (mCall mf__law_due [] 2 (iCons (mVar 4) (iCons (mVar 5) iNil))))))
  (mSeq (mPar2 7 8 (nCons (mCall mf_lap_factors [] 1 (iCons (mVar 4) iNil)) (nCons (mUn listD (mVar 4)) nNil)))
  (mSeq (mIfS (mOrT (mTe (mBin neD (mUn reprD (mVar 7)) (mUn reprD (mVar 6)))) (mOrT (mTe (mBin neD (mCall mf_lap_factors [] 1 (gI 1 (@gId) (iCons (mUn tupleD (mVar 4)) iNil))) (mVar 7))) (mTe (mBin neD (mVar 4) (mVar 8)))))
  (mRet (mC (.bl false)))
  mPass)
  (mSeq (mFor (mEnum (mVar 7)) (gTupK 2 (gConsD (gN 5) (gConsD (gN 9) gNilD)))
  (mIfS (mAndT (mTe (mBin ltD (mVar 3) (mC (.int 30)))) (mNotT (mTr (mCall mf__law_place_right [0] 4 (iLnd 1 (iCons (mVar 4) (iCons (mVar 5) (iCons (mVar 9) iNil))))))))
  (mRet (mC (.bl false)))
  mPass))
  (mSeq (mPar2 10 11 (nCons (mCall mf__law_scatter [0] 2 (iLnd 1 (iCons (mBin addD (mUn lenD (mVar 4)) (mC (.int 1))) iNil))) (nCons (mCall mf__law_grain [0] 2 (iLnd 1 (iCons (mLst (mCons (mC (.int 0)) (mCons (mC (.int 31)) (mCons (mC .non) (mCons (mC (.bl true)) (mCons (mC (.str "2")) (mCons (mUn negD (mC (.int 1))) (mCons (mLst (mCons (mC (.int 3)) mNil)) mNil)))))))) iNil))) nNil)))
  (mSeq (mSet 12 (mCall mf__law_grain [0] 2 (iLnd 1 (iCons (mLst (mCons (mBin addD (mBin addD (mSl (mVar 4) oNo (oSo (mVar 10))) (mLst (mCons (mVar 11) mNil))) (mSl (mVar 4) (oSo (mVar 10)) oNo)) (mCons (mLst mNil) (mCons (mC .non) (mCons (mC (.int 5)) (mCons (mC (.str "1")) (mCons (mBin mulD (mLst (mCons (mC (.int 1)) mNil)) (mC (.int 41))) mNil))))))) iNil))))
  (mIfS (mTe (mBin neD (mCall mf__law_no_lengths [] 1 (iCons (mVar 12) iNil)) (mC (.str "lengths"))))
  (mRet (mC (.bl false)))
  mPass))))))))))
  (mRet (mAnd (mBin eqD (mUn lenD (mCall mf_lap_factors [] 1 (iCons (mBin mulD (mLst (mCons (mC (.int 30)) mNil)) (mC (.int 40))) iNil))) (mC (.int 40))) (mBin eqD (mCall mf_lap_factors [] 1 (iCons (mLst (mCons (mC (.int 30)) (mCons (mC (.int 1)) mNil))) iNil)) (mTup (mCons (mTup (mCons (mC (.int 536870913)) (mCons (mC (.int 1)) mNil))) (mCons (mCall mf__law_halved [] 2 (iCons (mBin addD (mC (.int 536870912)) (mC (.int 2))) (iCons (mC (.int 536870912)) iNil))) mNil))))))))
noncomputable def mf_law : MF := runG N_law.length [] m_law
theorem ok_law {f : Addr} {fd : FuncData} (F : Fun K "law" "law" s_law f fd) (T : Txt mg) (C__law_sower : CalX P w K mg base 1 "_law_sower" ["script"] (spF K cl [] 1 mf__law_sower)) (C__law_grain : CalX P w K mg base 2 "_law_grain" ["sower", "some"] (spF K cl [0] 2 mf__law_grain)) (C__law_scatter : CalX P w K mg base 1 "_law_scatter" ["sower", "many"] (spF K cl [0] 2 mf__law_scatter)) (C__law_due : CalX P w K mg base 2 "_law_due" ["lengths", "place"] (spF K cl [] 2 mf__law_due)) (C_lap_factors : CalX P w K mg base 5 "lap_factors" ["lengths"] (spF K cl [] 1 mf_lap_factors)) (CK_lap_factors_l : CalXK P w K mg base 5 "lap_factors" ["lengths"] ["lengths"] (fun zs => gId zs) (spF K cl [] 1 mf_lap_factors)) (C__law_place_right : CalX P w K mg base 6 "_law_place_right" ["sower", "lengths", "place", "pair"] (spF K cl [0] 4 mf__law_place_right)) (C__law_no_lengths : CalX P w K mg base 6 "_law_no_lengths" ["value"] (spF K cl [] 1 mf__law_no_lengths)) (C__law_halved : CalX P w K mg base 1 "_law_halved" ["up", "down"] (spF K cl [] 2 mf__law_halved)) : FnG P w K mg base CX0 7 f fd ["script"] (spF K cl [] 1 mf_law) :=
  fn_okG F sc_law fun cdv A outer s H F vs E hr gd => (ds_cons (ds_set 1 sc_law.nd rfl (Or.inr rfl) (de_call C__law_sower takes0 (hr.mono (by decide)) (di_cons (de_var 0) di_nil)))
  (ds_cons (ds_for PassesOwn.never rfl (dit_range1 T.b_range de_int) (dg_name 2 sc_law.nd rfl (Or.inl rfl))
  (ds_cons (ds_set 3 sc_law.nd rfl (Or.inr rfl) (de_call C__law_grain takes0 (hr.mono (by decide)) (di_lend 1 (di_cons (de_lst (da_cons de_int (da_cons de_int (da_cons de_int (da_cons de_int da_nil))))) di_nil))))
  (ds_cons (ds_set 4 sc_law.nd rfl (Or.inr rfl) (de_lc (own := [("lap", 13)]) rfl sc_law.nd (dit_range1 T.b_range (de_op (opd_add rfl) de_int (de_call C__law_scatter takes0 (hr.mono (by decide)) (di_lend 1 (di_cons de_int di_nil))))) (blkOk_by (own := [("lap", 13)]) (N := N_law) (sc := defScope s_law) (by decide +kernel)) (fun _ _ _ _ _ => (dg_name 13 sc_law.nd rfl (Or.inl rfl))) (fun _ _ _ _ _ => dts_nil) (fun _ _ _ _ _ => (de_op (opd_add rfl) de_int (de_call C__law_scatter takes0 (hr.mono (by decide)) (di_lend 1 (di_cons (de_var 3) di_nil)))))))
  (ds_cons (ds_set 6 sc_law.nd rfl (Or.inl rfl) (de_t1 (cd_tuple rfl) T.b_tuple boot_tuple (de_lc (own := [("place", 5)]) rfl sc_law.nd (dit_range1 T.b_range (de_b1 (cd_len rfl) T.b_len boot_len (de_var 4))) (blkOk_by (own := [("place", 5)]) (N := N_law) (sc := defScope s_law) (by decide +kernel)) (fun _ _ _ _ _ => (dg_name 5 sc_law.nd rfl (Or.inl rfl))) (fun _ _ _ _ _ => dts_nil) (fun _ _ _ _ _ => (de_call C__law_due takes0 (hr.mono (by decide)) (di_cons (de_var 4) (di_cons (de_var 5) di_nil)))))))
  (ds_cons (ds_par2 (i := 7) (j := 8) rfl sc_law.nd rfl rfl (by decide) rfl rfl (dn_cons (de_call C_lap_factors takes0 (hr.mono (by decide)) (di_cons (de_var 4) di_nil)) (dn_cons (de_t1 (cd_list rfl) T.b_list boot_list (de_var 4)) dn_nil)))
  (ds_cons (ds_if (PW.pt (dw_or (dt_cmp (opd_ne rfl (hu64 hr)) (de_b1 (cd_repr rfl gd (hu64 hr)) T.b_repr boot_repr (de_var 7)) (de_b1 (cd_repr rfl gd (hu64 hr)) T.b_repr boot_repr (de_var 6))) (dw_or (dt_cmp (opd_ne rfl (hu64 hr)) (de_callK (g := @gId) CK_lap_factors_l (fun l h => rel_id l h) takes0 (hr.mono (by decide)) (dk_cons (de_t1 (cd_tuple rfl) T.b_tuple boot_tuple (de_var 4)) dk_nil)) (de_var 7)) (dw_or1 (dt_cmp (opd_ne rfl (hu64 hr)) (de_var 4) (de_var 8))))))
  (ds_one (ds_ret de_bl))
  ds_nil)
  (ds_cons (ds_for PassesOwn.never rfl (dit_enum rfl T.b_enumerate (de_var 7)) (dg_tupK rfl rfl (dgs_cons (dg_name 5 sc_law.nd rfl (Or.inl rfl)) (dgs_cons (dg_name 9 sc_law.nd rfl (Or.inl rfl)) dgs_nil)))
  (ds_one (ds_if (PW.pt (dw_and (dt_cmp opd_lt (de_var 3) de_int) (dw_and1 (dt_not (dt_truth rfl (de_call C__law_place_right takes0 (hr.mono (by decide)) (di_lend 1 (di_cons (de_var 4) (di_cons (de_var 5) (di_cons (de_var 9) di_nil))))))))))
  (ds_one (ds_ret de_bl))
  ds_nil)))
  (ds_cons (ds_par2 (i := 10) (j := 11) rfl sc_law.nd rfl rfl (by decide) rfl rfl (dn_cons (de_call C__law_scatter takes0 (hr.mono (by decide)) (di_lend 1 (di_cons (de_op (opd_add rfl) (de_b1 (cd_len rfl) T.b_len boot_len (de_var 4)) de_int) di_nil))) (dn_cons (de_call C__law_grain takes0 (hr.mono (by decide)) (di_lend 1 (di_cons (de_lst (da_cons de_int (da_cons de_int (da_cons de_non (da_cons de_bl (da_cons de_str (da_cons (de_un und_neg de_int) (da_cons (de_lst (da_cons de_int da_nil)) da_nil)))))))) di_nil))) dn_nil)))
  (ds_cons (ds_set 12 sc_law.nd rfl (Or.inl rfl) (de_call C__law_grain takes0 (hr.mono (by decide)) (di_lend 1 (di_cons (de_lst (da_cons (de_op (opd_add rfl) (de_op (opd_add rfl) (de_sl rfl (de_var 4) do_no (do_so (de_var 10))) (de_lst (da_cons (de_var 11) da_nil))) (de_sl rfl (de_var 4) (do_so (de_var 10)) do_no)) (da_cons (de_lst da_nil) (da_cons de_non (da_cons de_int (da_cons de_str (da_cons (de_op opd_mul (de_lst (da_cons de_int da_nil)) de_int) da_nil))))))) di_nil))))
  (ds_one (ds_if (dt_cmp (opd_ne rfl (hu64 hr)) (de_call C__law_no_lengths takes0 (hr.mono (by decide)) (di_cons (de_var 12) di_nil)) de_str)
  (ds_one (ds_ret de_bl))
  ds_nil)))))))))))
  (ds_one (ds_ret (de_and (de_cmp (opd_eq rfl (hu64 hr)) (de_b1 (cd_len rfl) T.b_len boot_len (de_call C_lap_factors takes0 (hr.mono (by decide)) (di_cons (de_op opd_mul (de_lst (da_cons de_int da_nil)) de_int) di_nil))) de_int) (de_one (de_cmp (opd_eq rfl (hu64 hr)) (de_call C_lap_factors takes0 (hr.mono (by decide)) (di_cons (de_lst (da_cons de_int (da_cons de_int da_nil))) di_nil)) (de_tup (da_cons (de_tup (da_cons de_int (da_cons de_int da_nil))) (da_cons (de_call C__law_halved takes0 (hr.mono (by decide)) (di_cons (de_op (opd_add rfl) de_int de_int) (di_cons de_int di_nil))) da_nil))))))))))
end
end K61
set_option Elab.async false
set_option linter.all false
set_option maxRecDepth 100000
set_option maxHeartbeats 4000000
/-! how long what repr writes is -/
namespace Own
open PySem PySem.Spec PyProof.Rows L2
section
variable {K : PySem.W.Frag}
/-- what is written of such data -/
structure Sh (n l : Nat) (d : PyData) : Prop where
  s : d.showable = true
  h : d.hasDict = false
  n : d.depth ≤ n
  l : d.shown.length ≤ l
theorem Sh.mono {n l n' l' : Nat} {d : PyData} (h : Sh n l d) (a : n ≤ n') (b : l ≤ l') : Sh n' l' d := ⟨h.s, h.h, Nat.le_trans h.n a, Nat.le_trans h.l b⟩
theorem Sh.list {n l : Nat} : ∀ {ds : List PyData}, (∀ d ∈ ds, Sh n l d) → PyData.showableAll ds = true ∧ PyData.hasDictAll ds = false ∧ PyData.depthAll ds ≤ n ∧ ((PyData.shownAll ds).map (·.length)).sum ≤ ds.length * l ∧ (PyData.shownAll ds).length = ds.length
  | [], _ => by simp [PyData.showableAll, PyData.hasDictAll, PyData.depthAll, PyData.shownAll]
  | d :: ds, h => by
    obtain ⟨a1, a2, a3, a4, a5⟩ := Sh.list (n := n) (l := l) (ds := ds) fun x hx => h x (List.mem_cons_of_mem _ hx)
    have hd := h d List.mem_cons_self
    refine ⟨by simp [PyData.showableAll, hd.s, a1], by simp [PyData.hasDictAll, hd.h, a2], ?_, ?_, by simp [PyData.shownAll, a5]⟩
    · simp only [PyData.depthAll]
      have := hd.n
      omega
    · simp only [PyData.shownAll, List.map_cons, List.sum_cons, List.length_cons]
      have := hd.l
      rw [Nat.succ_mul]
      omega
theorem Sh.lst {n l k : Nat} {ds : List PyData} (h : ∀ d ∈ ds, Sh n l d) (hk : ds.length ≤ k) : Sh (n + 1) (k * l + 2 * k + 3) (.list ds) := by
  obtain ⟨a1, a2, a3, a4, a5⟩ := Sh.list h
  refine ⟨by simpa [PyData.showable] using a1, by simpa [PyData.hasDict] using a2, by simp only [PyData.depth]; omega, ?_⟩
  simp only [PyData.shown]
  have := listText_len_le (PyData.shownAll ds)
  rw [a5] at this
  have b := Nat.mul_le_mul_right l hk
  omega
theorem paired_mem {α β : Type} {F : α → β → Prop} : ∀ {xs : List α} {ys : List β}, Paired F xs ys → ∀ y ∈ ys, ∃ x, F x y
  | _, _, .cons a r, y, hy => by
    rcases List.mem_cons.mp hy with e | e
    · subst e
      exact ⟨_, a⟩
    · exact paired_mem r y e

theorem Sh.two {d e : PyData} (hd : Sh 0 50 d) (he : Sh 0 50 e) : Sh 1 200 (.tuple [d, e]) := by
  refine ⟨by simp [PyData.showable, PyData.showableAll, hd.s, he.s], by simp [PyData.hasDict, PyData.hasDictAll, hd.h, he.h], ?_, ?_⟩
  · have := hd.n
    have := he.n
    simp only [PyData.depth, PyData.depthAll]
    omega
  · have h1 := hd.l
    have h2 := he.l
    simp only [PyData.shown, PyData.shownAll]
    have := tupleText_len_le [d.shown, e.shown]
    simp at this
    omega
theorem sh_int {i : Int} (h : i.natAbs < 10 ^ 21) : Sh 0 50 (.int i) := by
  refine ⟨?_, by simp [PyData.hasDict], by simp [PyData.depth], ?_⟩
  · have : i.natAbs < 2 ^ 80 := by omega
    have := PySem.Flt.log2_lt_of (by decide) this
    simp only [PyData.showable, decide_eq_true_eq]
    omega
  · simp only [PyData.shown]
    rw [show (Str.ofString (toString i)).length = (toString i).length from PySem.ofString_length _]
    have := int_text_length_le10 (a := i) (k := 21) (by decide) h
    omega
theorem ne_rep {te1 te2 : TE} {σ : L2.St} {H : Hp} {R : Bool → Hp → Prop} (h : te1 σ H fun x H1 => rRepr K [x] H1 fun y H2 => te2 σ H2 fun z H3 => rRepr K [z] H3 fun u H4 => rNe y u H4 (fun b H5 => ∃ k, b = .bl k ∧ R k H5)) :
    tTest (tOp rNe (tCB (rRepr K) (tCons te1 tNil)) (tCB (rRepr K) (tCons te2 tNil))) σ H R := h
theorem nx_in {D : Ends} {σ : L2.St} {H : Hp} (h : D.nx σ H) : tNext D σ H := h
theorem ret_eq {te1 te2 tb : TE} {σ : L2.St} {H : Hp} {D : Ends} (h : te1 σ H fun x H1 => rRepr K [x] H1 fun y H2 => te2 σ H2 fun z H3 => rRepr K [z] H3 fun u H4 => rEq y u H4 (fun b H5 => ∃ c, b = .bl c ∧ if c = true then tb σ H5 D.rt else D.rt (.bl false) H5)) :
    tRet (tAndV (tOp rEq (tCB (rRepr K) (tCons te1 tNil)) (tCB (rRepr K) (tCons te2 tNil))) tb) D σ H := h
theorem rep_bl {b : Bool} {H : Hp} {Q : VK} (q : Q (.str (PyData.bool b).shown) H) : rRepr K [.bl b] H Q :=
  ⟨.bl b, .bool b, rfl, .bl b, by simp [PyData.showable], by simp [PyData.hasDict], by simp [PyData.depth], by simp only [PyData.shown]; cases b <;> decide, q⟩

theorem Sh.tup {n l k : Nat} {ds : List PyData} (h : ∀ d ∈ ds, Sh n l d) (hk : ds.length ≤ k) : Sh (n + 1) (k * l + 2 * k + 3) (.tuple ds) := by
  obtain ⟨a1, a2, a3, a4, a5⟩ := Sh.list h
  refine ⟨by simpa [PyData.showable] using a1, by simpa [PyData.hasDict] using a2, by simp only [PyData.depth]; omega, ?_⟩
  simp only [PyData.shown]
  have := tupleText_len_le (PyData.shownAll ds)
  rw [a5] at this
  have b := Nat.mul_le_mul_right l hk
  omega
theorem sh_non : Sh 0 50 .none := ⟨by simp [PyData.showable], by simp [PyData.hasDict], by simp [PyData.depth], by simp only [PyData.shown]; decide⟩
theorem rep_of {x : V} {d : PyData} {n l : Nat} {H : Hp} {Q : VK} (hd : Dp K H x d) (s : Sh n l d) (hn : n ≤ 60) (hl : l ≤ 2 ^ 24) (q : Q (.str d.shown) H) : rRepr K [x] H Q :=
  ⟨x, d, rfl, hd, s.s, s.h, Nat.le_trans s.n hn, Nat.le_trans s.l hl, q⟩
theorem dp_rows {H : Hp} : ∀ row : List Nat, DpAll K H (row.map fun (i : Nat) => V.int i) (row.map fun (i : Nat) => PyData.int i)
  | [] => .nil
  | i :: row => .cons (.int _) (dp_rows row)
theorem sh_row {row : List Nat} (h : ∀ i ∈ row, i < 10 ^ 20) (hl : row.length ≤ 2000) : Sh 1 (2000 * 50 + 2 * 2000 + 3) (.tuple (row.map fun (i : Nat) => PyData.int i)) := by
  refine Sh.tup (fun d hd => ?_) (by rw [List.length_map]; exact hl)
  obtain ⟨i, hi, rfl⟩ := List.mem_map.mp hd
  have := h i hi
  exact sh_int (by rw [Int.natAbs_natCast]; omega)
end
end Own
set_option Elab.async false
set_option linter.all false
set_option maxRecDepth 100000
set_option maxHeartbeats 4000000
/-! what a reading ends in, as a wish (for proofs over functions of trees) -/
namespace DL
open PySem PySem.Spec PyProof.Rows L2 Own
abbrev XE' := Str → List (Str × D) → DL.Env → Prop
def NoE : XE' := fun _ _ _ => False
def OW {α : Type} (o : Out α) (Q : α → Prop) (E : XE') : Prop := match o with
  | .ok a => Q a
  | .ex c fs e => E c fs e
  | .no => False
structure SE where
  nx : DL.Env → Prop
  rt : SV → DL.Env → Prop
  bk : DL.Env → Prop
  ct : DL.Env → Prop
  ex : XE'
def SW (o : OutS) (T : SE) : Prop := match o with
  | .nx e => T.nx e
  | .rt r e => T.rt r e
  | .bk e => T.bk e
  | .ct e => T.ct e
  | .ex c fs e => T.ex c fs e
  | .no => False
def FW (o : OutF) (Q : SV → List D → Prop) (E : Str → List (Str × D) → List D → Prop) : Prop := match o with
  | .ok r b => Q r b
  | .ex c fs b => E c fs b
  | .no => False
def OB {α : Type} (o : Option α) (Q : α → Prop) : Prop := match o with
  | some a => Q a
  | none => False
theorem OB_some {α : Type} {a : α} {Q : α → Prop} : OB (some a) Q = Q a := rfl
theorem OB_none {α : Type} {Q : α → Prop} : OB (none : Option α) Q = False := rfl
theorem OB_map {α β : Type} {o : Option α} {f : α → β} {Q : β → Prop} : OB (o.map f) Q = OB o fun a => Q (f a) := by cases o <;> rfl
theorem OB_bind {α β : Type} {o : Option α} {f : α → Option β} {Q : β → Prop} : OB (o.bind f) Q = OB o fun a => OB (f a) Q := by cases o <;> rfl
theorem OB_ite {α : Type} {c : Prop} [Decidable c] {a : α} {Q : α → Prop} : OB (if c then some a else none) Q = (c ∧ Q a) := by
  by_cases h : c
  · rw [if_pos h]; exact propext ⟨fun q => ⟨h, q⟩, fun q => q.2⟩
  · rw [if_neg h]; exact propext ⟨fun q => q.elim, fun q => h q.1⟩
section
variable {α β : Type} {Q : α → Prop} {E : XE'} {T : SE} {env : DL.Env}
theorem OW_ok {a : α} : OW (.ok a) Q E = Q a := rfl
theorem OW_no : OW (.no : Out α) Q E = False := rfl
theorem OW_bind {o : Out β} {f : β → Out α} : OW (o.bind f) Q E = OW o (fun a => OW (f a) Q E) E := by cases o <;> rfl
theorem OW_imp {o : Out α} {Q' : α → Prop} {E' : XE'} (h : OW o Q E) (i : ∀ a, Q a → Q' a) (j : ∀ c fs e, E c fs e → E' c fs e) : OW o Q' E' := by
  cases o with
  | ok a => exact i a h
  | ex c fs e => exact j c fs e h
  | no => exact h
theorem SW_imp {o : OutS} {T T' : SE} (h : SW o T) (a : ∀ e, T.nx e → T'.nx e) (b : ∀ r e, T.rt r e → T'.rt r e) (c : ∀ e, T.bk e → T'.bk e) (d : ∀ e, T.ct e → T'.ct e) (j : ∀ x fs e, T.ex x fs e → T'.ex x fs e) : SW o T' := by
  cases o with
  | nx e => exact a e h
  | rt r e => exact b r e h
  | bk e => exact c e h
  | ct e => exact d e h
  | ex x fs e => exact j x fs e h
  | no => exact h
theorem SW_sq {o : Out (α × DL.Env)} {f : α → DL.Env → OutS} : SW (sq o f) T = OW o (fun p => SW (f p.1 p.2) T) T.ex := by cases o <;> rfl
/-! ### slots -/
theorem slot_z {s : Option SV} {l : DL.Env} : slot (s :: l) 0 = s := by cases s <;> rfl
theorem slot_s {s : Option SV} {l : DL.Env} {i : Nat} : slot (s :: l) (i + 1) = slot l i := rfl
/-! ### expressions -/
def SL (o : Option SV) (i : Nat) (env : DL.Env) (Q : DL.T × DL.Env → Prop) : Prop := match o with
  | some (.d d) => Q (.v d, env)
  | some _ => Q (.s i, env)
  | none => False
theorem SL_d {d : D} {i : Nat} {Q : DL.T × DL.Env → Prop} : SL (some (.d d)) i env Q = Q (.v d, env) := rfl
theorem SL_o {d : D} {i : Nat} {Q : DL.T × DL.Env → Prop} : SL (some (.o d)) i env Q = Q (.s i, env) := rfl
theorem SL_b {d : D} {i : Nat} {Q : DL.T × DL.Env → Prop} : SL (some (.b d)) i env Q = Q (.s i, env) := rfl
theorem OW_var {i : Nat} {Q : DL.T × DL.Env → Prop} : OW (mVar i env) Q E = SL (slot env i) i env Q := by
  unfold mVar SL
  cases slot env i with
  | none => rfl
  | some s => cases s <;> rfl
theorem OW_c {d : D} {Q : DL.T × DL.Env → Prop} : OW (mC d env) Q E = Q (.v d, env) := rfl
theorem OW_fz {m : ME} {Q : DL.T × DL.Env → Prop} : OW (fz m env) Q E = OW (m env) (fun p => Q (fzT p.1, p.2)) E := by
  unfold fz
  rw [OW_bind]
  rfl
theorem fzT_v {d : D} : fzT (.v d) = .v d := rfl
theorem fzT_f {d : D} : fzT (.f d) = .v d := rfl
theorem fzT_s {i : Nat} : fzT (.s i) = .s i := rfl
theorem dr_v {d : D} : dr env (.v d) = some d := rfl
theorem dr_f {d : D} : dr env (.f d) = some d := rfl
theorem dr_s {i : Nat} : dr env (.s i) = (slot env i).map SV.val := rfl
theorem OW_fa {m : ME} {Q : D × DL.Env → Prop} : OW (fa m env) Q E = OW (m env) (fun p => OW (faO p) Q E) E := by
  unfold fa
  rw [OW_bind]
theorem OW_faO_v {d : D} {Q : D × DL.Env → Prop} : OW (faO (.v d, env)) Q E = Q (d, env) := rfl
theorem OW_faO_f {d : D} {Q : D × DL.Env → Prop} : OW (faO (.f d, env)) Q E = Q (d, env) := rfl
def SF (o : Option SV) (i : Nat) (env : DL.Env) (Q : D × DL.Env → Prop) : Prop := match o with
  | some (.d d) => Q (d, env)
  | some (.o d) => Q (d, env.set i (some (.d d)))
  | _ => False
theorem SF_d {d : D} {i : Nat} {Q : D × DL.Env → Prop} : SF (some (.d d)) i env Q = Q (d, env) := rfl
theorem SF_o {d : D} {i : Nat} {Q : D × DL.Env → Prop} : SF (some (.o d)) i env Q = Q (d, env.set i (some (.d d))) := rfl
theorem OW_faO_s {i : Nat} {Q : D × DL.Env → Prop} : OW (faO (.s i, env)) Q E = SF (slot env i) i env Q := by
  unfold faO SF
  dsimp only
  cases slot env i with
  | none => rfl
  | some s => cases s <;> rfl
theorem OW_bin {f : D → D → Option DL.T} {a b : ME} {Q : DL.T × DL.Env → Prop} : OW (mBin f a b env) Q E = OW (fz a env) (fun p => OW (fz b p.2) (fun q => OB (dr q.2 p.1) fun x => OB (dr q.2 q.1) fun y => OB (f x y) fun t => Q (t, q.2)) E) E := by
  unfold mBin
  rw [OW_bind]
  congr 1
  funext p
  rw [OW_bind]
  congr 1
  funext q
  cases dr q.2 p.1 with
  | none => rfl
  | some x =>
    cases dr q.2 q.1 with
    | none => rfl
    | some y =>
      simp only [OB_some]
      cases f x y <;> rfl
theorem OW_un {f : D → Option DL.T} {a : ME} {Q : DL.T × DL.Env → Prop} : OW (mUn f a env) Q E = OW (fz a env) (fun p => OB (dr p.2 p.1) fun x => OB (f x) fun t => Q (t, p.2)) E := by
  unfold mUn
  rw [OW_bind]
  congr 1
  funext p
  cases dr p.2 p.1 with
  | none => rfl
  | some x =>
    simp only [OB_some]
    cases f x <;> rfl
theorem OW_tr {m : ME} {Q : Bool × DL.Env → Prop} : OW (mTr m env) Q E = OW (fz m env) (fun p => OB (dr p.2 p.1) fun x => OB (truD x) fun b => Q (b, p.2)) E := by
  unfold mTr
  rw [OW_bind]
  congr 1
  funext p
  cases dr p.2 p.1 with
  | none => rfl
  | some x =>
    simp only [OB_some]
    cases truD x <;> rfl
def TB (t : DL.T) (Q : Bool → Prop) : Prop := match t with
  | .v (.bl b) => Q b
  | _ => False
theorem TB_v {b : Bool} {Q : Bool → Prop} : TB (.v (.bl b)) Q = Q b := rfl
theorem OW_te {m : ME} {Q : Bool × DL.Env → Prop} : OW (mTe m env) Q E = OW (m env) (fun p => TB p.1 fun b => Q (b, p.2)) E := by
  unfold mTe
  rw [OW_bind]
  congr 1
  funext p
  obtain ⟨t, e⟩ := p
  cases t with
  | v d => cases d <;> rfl
  | s i => rfl
  | f d => rfl
theorem OW_notT {m : MB} {Q : Bool × DL.Env → Prop} : OW (mNotT m env) Q E = OW (m env) (fun p => Q (!p.1, p.2)) E := by
  unfold mNotT
  rw [OW_bind]
  rfl
/-- both ways -/
def IF (b : Bool) (P R : Prop) : Prop := (b = true → P) ∧ (b = false → R)
theorem IF_ite {b : Bool} {P R : Prop} : (if b = true then P else R) = IF b P R := by
  cases b
  · exact propext ⟨fun h => ⟨fun z => (nomatch z), fun _ => h⟩, fun h => h.2 rfl⟩
  · exact propext ⟨fun h => ⟨fun _ => h, fun z => (nomatch z)⟩, fun h => h.1 rfl⟩
theorem IF_t {P R : Prop} : IF true P R = P := propext ⟨fun h => h.1 rfl, fun h => ⟨fun _ => h, fun z => nomatch z⟩⟩
theorem IF_f {P R : Prop} : IF false P R = R := propext ⟨fun h => h.2 rfl, fun h => ⟨fun z => (nomatch z), fun _ => h⟩⟩
theorem IF_n {b : Bool} {P R : Prop} : IF (!b) P R = IF b R P := by cases b <;> simp only [IF_t, IF_f, Bool.not_true, Bool.not_false]
theorem IF_d {c : Prop} [Decidable c] {P R : Prop} : IF (decide c) P R = ((c → P) ∧ (¬ c → R)) := by
  unfold IF
  rw [decide_eq_true_eq, decide_eq_false_iff_not]
theorem OW_ifb {b : Bool} {x y : Out α} : OW (if b = true then x else y) Q E = IF b (OW x Q E) (OW y Q E) := by
  rw [← IF_ite]
  split <;> rfl
theorem SW_ifb {b : Bool} {x y : OutS} : SW (if b = true then x else y) T = IF b (SW x T) (SW y T) := by
  rw [← IF_ite]
  split <;> rfl
theorem OW_andT {m n : MB} {Q : Bool × DL.Env → Prop} : OW (mAndT m n env) Q E = OW (m env) (fun p => IF p.1 (OW (n p.2) Q E) (Q (false, p.2))) E := by
  unfold mAndT
  rw [OW_bind]
  congr 1
  funext p
  rw [OW_ifb]
  rfl
theorem OW_orT {m n : MB} {Q : Bool × DL.Env → Prop} : OW (mOrT m n env) Q E = OW (m env) (fun p => IF p.1 (Q (true, p.2)) (OW (n p.2) Q E)) E := by
  unfold mOrT
  rw [OW_bind]
  congr 1
  funext p
  rw [OW_ifb]
  rfl
theorem OW_and {m n : ME} {Q : DL.T × DL.Env → Prop} : OW (mAnd m n env) Q E = OW (m env) (fun p => TB p.1 fun b => IF b (OW (n p.2) Q E) (Q (.v (.bl false), p.2))) E := by
  unfold mAnd
  rw [OW_bind, OW_te]
  congr 1
  funext p
  congr 1
  funext b
  rw [OW_ifb]
  rfl
theorem OW_or {m n : ME} {Q : DL.T × DL.Env → Prop} : OW (mOr m n env) Q E = OW (m env) (fun p => TB p.1 fun b => IF b (Q (.v (.bl true), p.2)) (OW (n p.2) Q E)) E := by
  unfold mOr
  rw [OW_bind, OW_te]
  congr 1
  funext p
  congr 1
  funext b
  rw [OW_ifb]
  rfl
theorem OW_not {m : ME} {Q : DL.T × DL.Env → Prop} : OW (mNot m env) Q E = OW (m env) (fun p => TB p.1 fun b => Q (.v (.bl !b), p.2)) E := by
  unfold mNot
  rw [OW_bind, OW_te]
  rfl
theorem OW_if {c : MB} {m n : ME} {Q : DL.T × DL.Env → Prop} : OW (mIf c m n env) Q E = OW (c env) (fun p => IF p.1 (OW (m p.2) Q E) (OW (n p.2) Q E)) E := by
  unfold mIf
  rw [OW_bind]
  congr 1
  funext p
  rw [OW_ifb]
theorem OW_nil {Q : List D × DL.Env → Prop} : OW (mNil env) Q E = Q ([], env) := rfl
theorem OW_cons {m : ME} {r : MA} {Q : List D × DL.Env → Prop} : OW (mCons m r env) Q E = OW (fa m env) (fun p => OW (r p.2) (fun q => Q (p.1 :: q.1, q.2)) E) E := by
  unfold mCons
  rw [OW_bind]
  congr 1
  funext p
  rw [OW_bind]
  rfl
theorem OW_iteP {c : Prop} [Decidable c] {o : Out α} : OW (if c then o else .no) Q E = (c ∧ OW o Q E) := by
  by_cases h : c
  · rw [if_pos h]; exact propext ⟨fun q => ⟨h, q⟩, fun q => q.2⟩
  · rw [if_neg h]; exact propext ⟨fun q => q.elim, fun q => h q.1⟩
theorem SW_iteP {c : Prop} [Decidable c] {o : OutS} : SW (if c then o else .no) T = (c ∧ SW o T) := by
  by_cases h : c
  · rw [if_pos h]; exact propext ⟨fun q => ⟨h, q⟩, fun q => q.2⟩
  · rw [if_neg h]; exact propext ⟨fun q => q.elim, fun q => h q.1⟩
theorem OW_lst {m : MA} {Q : DL.T × DL.Env → Prop} : OW (mLst m env) Q E = OW (m env) (fun p => p.1.length ≤ 1000 ∧ Q (.f (.lst p.1), p.2)) E := by
  unfold mLst
  rw [OW_bind]
  congr 1
  funext p
  rw [OW_iteP]
  rfl
theorem OW_tup {m : MA} {Q : DL.T × DL.Env → Prop} : OW (mTup m env) Q E = OW (m env) (fun p => p.1.length ≤ 1000 ∧ Q (.v (.tup p.1), p.2)) E := by
  unfold mTup
  rw [OW_bind]
  congr 1
  funext p
  rw [OW_iteP]
  rfl
theorem OW_chain {f g : D → D → Option DL.T} {a b c : ME} {Q : DL.T × DL.Env → Prop} : OW (mChain f g a b c env) Q E = OW (fz a env) (fun p => OW (fz b p.2) (fun q => OB (dr q.2 p.1) fun x => OB (dr q.2 q.1) fun y => OB (f x y) fun t => TB t fun k => IF k (OW (fz c q.2) (fun r => OB (dr r.2 q.1) fun y => OB (dr r.2 r.1) fun z => OB (g y z) fun t => Q (t, r.2)) E) (Q (.v (.bl false), q.2))) E) E := by
  unfold mChain
  rw [OW_bind]
  congr 1
  funext p
  rw [OW_bind]
  congr 1
  funext q
  cases dr q.2 p.1 with
  | none => rfl
  | some x =>
    cases hq : dr q.2 q.1 with
    | none => rfl
    | some y =>
      simp only [OB_some]
      cases f x y with
      | none => rfl
      | some t =>
        simp only [OB_some]
        cases t with
        | s i => rfl
        | f d => rfl
        | v d =>
          cases d with
          | bl k =>
            cases k
            · simp only [TB_v, IF_f]
              rfl
            · simp only [TB_v, IF_t]
              rw [OW_bind]
              congr 1
              funext r
              cases dr r.2 q.1 with
              | none => rfl
              | some y =>
                cases dr r.2 r.1 with
                | none => rfl
                | some z =>
                  simp only [OB_some]
                  cases g y z <;> rfl
          | _ => rfl
theorem OW_oNo {Q : Option Int × DL.Env → Prop} : OW (oNo env) Q E = Q (none, env) := rfl
def TI' (d : D) (Q : Int → Prop) : Prop := match d with
  | .int i => Q i
  | _ => False
theorem TI_i {i : Int} {Q : Int → Prop} : TI' (.int i) Q = Q i := rfl
theorem OW_oSo {m : ME} {Q : Option Int × DL.Env → Prop} : OW (oSo m env) Q E = OW (fa m env) (fun p => TI' p.1 fun i => Q (some i, p.2)) E := by
  unfold oSo
  rw [OW_bind]
  congr 1
  funext p
  obtain ⟨d, e⟩ := p
  cases d <;> rfl
theorem OW_sl {m : ME} {lo hi : MO} {Q : DL.T × DL.Env → Prop} : OW (mSl m lo hi env) Q E = OW (fz m env) (fun p => OW (lo p.2) (fun l => OW (hi l.2) (fun h => OB (dr h.2 p.1) fun d => OB (slD d l.1 h.1) fun t => Q (t, h.2)) E) E) E := by
  unfold mSl
  rw [OW_bind]
  congr 1
  funext p
  rw [OW_bind]
  congr 1
  funext l
  rw [OW_bind]
  congr 1
  funext h
  cases dr h.2 p.1 with
  | none => rfl
  | some d =>
    simp only [OB_some]
    cases slD d l.1 h.1 <;> rfl
/-! ### statements -/
theorem SW_nx {e : DL.Env} : SW (.nx e) T = T.nx e := rfl
theorem SW_rt {r : SV} {e : DL.Env} : SW (.rt r e) T = T.rt r e := rfl
theorem SW_pass : SW (mPass env) T = T.nx env := rfl
theorem SW_brk : SW (mBrk env) T = T.bk env := rfl
theorem SW_cnt : SW (mCnt env) T = T.ct env := rfl
theorem SW_seq {m n : MS} : SW (mSeq m n env) T = SW (m env) { T with nx := fun e => SW (n e) T } := by
  unfold mSeq
  cases m env <;> rfl
theorem SW_drop {m : ME} : SW (mDrop m env) T = OW (m env) (fun p => T.nx p.2) T.ex := by
  unfold mDrop
  rw [SW_sq]
  rfl
theorem OW_new {m : ME} {Q : SV × DL.Env → Prop} : OW (mNew m env) Q E = OW (m env) (fun p => OW (newO p) Q E) E := by
  unfold mNew
  rw [OW_bind]
theorem OW_newO_v {d : D} {Q : SV × DL.Env → Prop} : OW (newO (.v d, env)) Q E = Q (.d d, env) := rfl
theorem OW_newO_f {d : D} {Q : SV × DL.Env → Prop} : OW (newO (.f d, env)) Q E = Q (.o d, env) := rfl
theorem OW_newO_s {i : Nat} {Q : SV × DL.Env → Prop} : OW (newO (.s i, env)) Q E = SF (slot env i) i env (fun p => Q (.d p.1, p.2)) := by
  unfold newO SF
  dsimp only
  cases slot env i with
  | none => rfl
  | some s => cases s <;> rfl
theorem OW_retO_v {d : D} {Q : SV × DL.Env → Prop} : OW (retO (.v d, env)) Q E = Q (.d d, env) := rfl
theorem OW_retO_f {d : D} {Q : SV × DL.Env → Prop} : OW (retO (.f d, env)) Q E = Q (.o d, env) := rfl
def SRt (o : Option SV) (Q : SV → Prop) : Prop := match o with
  | some (.d d) => Q (.d d)
  | some (.o d) => Q (.o d)
  | _ => False
theorem SRt_d {d : D} {Q : SV → Prop} : SRt (some (.d d)) Q = Q (.d d) := rfl
theorem SRt_o {d : D} {Q : SV → Prop} : SRt (some (.o d)) Q = Q (.o d) := rfl
theorem OW_retO_s {i : Nat} {Q : SV × DL.Env → Prop} : OW (retO (.s i, env)) Q E = SRt (slot env i) (fun s => Q (s, env)) := by
  unfold retO SRt
  dsimp only
  cases slot env i with
  | none => rfl
  | some s => cases s <;> rfl
theorem SW_set {i : Nat} {m : ME} : SW (mSet i m env) T = OW (mNew m env) (fun p => i < p.2.length ∧ T.nx (p.2.set i (some p.1))) T.ex := by
  unfold mSet
  rw [SW_sq]
  congr 1
  funext p
  rw [SW_iteP]
  rfl
theorem SW_ret {m : ME} : SW (mRet m env) T = OW (m env) (fun p => OW (retO p) (fun q => T.rt q.1 q.2) T.ex) T.ex := by
  unfold mRet
  rw [SW_sq, OW_bind]
  rfl
theorem SW_ifS {c : MB} {m n : MS} : SW (mIfS c m n env) T = OW (c env) (fun p => IF p.1 (SW (m p.2) T) (SW (n p.2) T)) T.ex := by
  unfold mIfS
  rw [SW_sq]
  congr 1
  funext p
  rw [SW_ifb]
theorem SW_asg {g : GT} {m : ME} : SW (mAsg g m env) T = OW (fa m env) (fun p => OB (g p.1 p.2) T.nx) T.ex := by
  unfold mAsg
  rw [SW_sq]
  congr 1
  funext p
  cases g p.1 p.2 <;> rfl
theorem OW_nNil {Q : List SV × DL.Env → Prop} : OW (nNil env) Q E = Q ([], env) := rfl
theorem OW_nCons {m : ME} {r : MNs} {Q : List SV × DL.Env → Prop} : OW (nCons m r env) Q E = OW (mNew m env) (fun p => OW (r p.2) (fun q => Q (p.1 :: q.1, q.2)) E) E := by
  unfold nCons
  rw [OW_bind]
  congr 1
  funext p
  rw [OW_bind]
  rfl
def L2' {α : Type} (l : List α) (Q : α → α → Prop) : Prop := match l with
  | [a, b] => Q a b
  | _ => False
theorem L2_2 {α : Type} {a b : α} {Q : α → α → Prop} : L2' [a, b] Q = Q a b := rfl
theorem SW_par2 {i j : Nat} {m : MNs} : SW (mPar2 i j m env) T = OW (m env) (fun p => L2' p.1 fun s t => (i < p.2.length ∧ j < p.2.length ∧ i ≠ j) ∧ T.nx ((p.2.set i (some s)).set j (some t))) T.ex := by
  unfold mPar2
  rw [SW_sq]
  congr 1
  funext p
  obtain ⟨l, e⟩ := p
  match l with
  | [] => rfl
  | [a] => rfl
  | [a, b] =>
    show SW (if _ then _ else _) T = _
    rw [SW_iteP]
    rfl
  | a :: b :: c :: l => rfl
def L3' {α : Type} (l : List α) (Q : α → α → α → Prop) : Prop := match l with
  | [a, b, c] => Q a b c
  | _ => False
theorem L3_3 {α : Type} {a b c : α} {Q : α → α → α → Prop} : L3' [a, b, c] Q = Q a b c := rfl
theorem SW_par3 {i j k : Nat} {m : MNs} : SW (mPar3 i j k m env) T = OW (m env) (fun p => L3' p.1 fun s t u => (i < p.2.length ∧ j < p.2.length ∧ k < p.2.length ∧ i ≠ j ∧ i ≠ k ∧ j ≠ k) ∧ T.nx (((p.2.set i (some s)).set j (some t)).set k (some u))) T.ex := by
  unfold mPar3
  rw [SW_sq]
  congr 1
  funext p
  obtain ⟨l, e⟩ := p
  match l with
  | [] => rfl
  | [a] => rfl
  | [a, b] => rfl
  | [a, b, c] =>
    show SW (if _ then _ else _) T = _
    rw [SW_iteP]
    rfl
  | a :: b :: c :: d :: l => rfl
def SI' (o : Option SV) (Q : Int → Prop) : Prop := match o with
  | some (.d (.int a)) => Q a
  | _ => False
theorem SI_i {a : Int} {Q : Int → Prop} : SI' (some (.d (.int a))) Q = Q a := rfl
theorem SW_aug {i : Nat} {f : Int → Int → Int} {m : ME} : SW (mAug i f m env) T = SI' (slot env i) fun a => OW (fa m env) (fun p => TI' p.1 fun b => i < p.2.length ∧ T.nx (p.2.set i (some (.d (.int (f a b)))))) T.ex := by
  unfold mAug SI'
  cases slot env i with
  | none => rfl
  | some s =>
    cases s with
    | o d => rfl
    | b d => rfl
    | d d =>
      cases d with
      | int a =>
        dsimp only
        rw [SW_sq]
        congr 1
        funext p
        obtain ⟨x, e⟩ := p
        cases x with
        | int b =>
          show SW (if _ then _ else _) T = _
          rw [SW_iteP]
          rfl
        | _ => rfl
      | _ => rfl
theorem SW_raise {c fld : Str} {m : ME} : SW (mRaise c fld m env) T = OW (fa m env) (fun p => T.ex c [(fld, p.1)] p.2) T.ex := by
  unfold mRaise
  rw [SW_sq]
  rfl
def SX (o : Option SV) (k : D) (Q : SV → List D → Nat → Prop) : Prop := match o with
  | some s => match s.val, k with
    | .lst ds, .int j => match ixN ds.length j with
      | some n => if s.mut = true then Q s ds n else False
      | none => False
    | _, _ => False
  | none => False
theorem SX_o {ds : List D} {j : Int} {Q : SV → List D → Nat → Prop} : SX (some (.o (.lst ds))) (.int j) Q = OB (ixN ds.length j) (Q (.o (.lst ds)) ds) := by
  show (match ixN ds.length j with
      | some n => if true = true then Q (.o (.lst ds)) ds n else False
      | none => False) = _
  cases ixN ds.length j <;> simp [OB]
theorem SX_b {ds : List D} {j : Int} {Q : SV → List D → Nat → Prop} : SX (some (.b (.lst ds))) (.int j) Q = OB (ixN ds.length j) (Q (.b (.lst ds)) ds) := by
  show (match ixN ds.length j with
      | some n => if true = true then Q (.b (.lst ds)) ds n else False
      | none => False) = _
  cases ixN ds.length j <;> simp [OB]
theorem SW_setIx {i : Nat} {mi mv : ME} : SW (mSetIx i mi mv env) T = OW (fa mv env) (fun p => (slot p.2 i).isSome = true ∧ OW (fa mi p.2) (fun q => SX (slot q.2 i) q.1 fun s ds n => T.nx (q.2.set i (some (s.put (.lst (ds.set n p.1)))))) T.ex) T.ex := by
  unfold mSetIx
  rw [SW_sq]
  congr 1
  funext p
  rw [SW_iteP]
  congr 1
  rw [SW_sq]
  congr 1
  funext q
  unfold SX
  cases slot q.2 i with
  | none => rfl
  | some s =>
    dsimp only
    cases s.val with
    | lst ds =>
      cases q.1 with
      | int j =>
        dsimp only
        cases ixN ds.length j with
        | none => rfl
        | some n =>
          dsimp only
          split <;> rfl
      | _ => rfl
    | _ => rfl
end
end DL
set_option Elab.async false
set_option linter.all false
set_option maxRecDepth 100000
set_option maxHeartbeats 4000000
namespace DL
open PySem PySem.Spec PyProof.Rows L2 Own
section
variable {α β : Type} {Q : α → Prop} {E : XE'} {T : SE} {env : DL.Env}
/-! ### calls -/
theorem OW_call {mf : MF} {io : List Nat} {n : Nat} {m : MI} {Q : DL.T × DL.Env → Prop} : OW (mCall mf io n m env) Q E = OW (m env) (fun p => ((lentS p.1).Nodup ∧ lentP 0 p.1 = io ∧ p.1.length = n) ∧ OB (argsSV p.2 p.1) fun ss => FW (mf ss) (fun r back => OB (retT r) fun t => Q (t, putBack p.2 (lentS p.1) back)) (fun c fs back => E c fs (putBack p.2 (lentS p.1) back))) E := by
  unfold mCall
  rw [OW_bind]
  congr 1
  funext p
  rw [OW_iteP]
  congr 1
  cases argsSV p.2 p.1 with
  | none => rfl
  | some ss =>
    dsimp only [OB]
    cases mf ss with
    | ok r b =>
      dsimp only [FW]
      cases retT r <;> rfl
    | ex c fs b => rfl
    | no => rfl
theorem OW_iNil {Q : List AV × DL.Env → Prop} : OW (iNil env) Q E = Q ([], env) := rfl
theorem OW_iCons {m : ME} {r : MI} {Q : List AV × DL.Env → Prop} : OW (iCons m r env) Q E = OW (fa m env) (fun p => OW (r p.2) (fun q => Q (.d p.1 :: q.1, q.2)) E) E := by
  unfold iCons
  rw [OW_bind]
  congr 1
  funext p
  rw [OW_bind]
  rfl
theorem OW_iLnd {j : Nat} {r : MI} {Q : List AV × DL.Env → Prop} : OW (iLnd j r env) Q E = ((slot env j).isSome = true ∧ OW (r env) (fun q => Q (.i j :: q.1, q.2)) E) := by
  unfold iLnd iLend
  rw [OW_iteP]
  congr 1
  rw [OW_bind]
  rfl
theorem OW_gI {n : Nat} {g : {α : Type} → List α → List α} {m : MI} {Q : List AV × DL.Env → Prop} : OW (gI n g m env) Q E = OW (m env) (fun p => p.1.length = n ∧ Q (g p.1, p.2)) E := by
  unfold gI
  rw [OW_bind]
  congr 1
  funext p
  rw [OW_iteP]
  rfl
theorem argsSV_nil : argsSV env [] = some [] := rfl
theorem argsSV_d {d : D} {r : List AV} : argsSV env (.d d :: r) = (argsSV env r).map (.d d :: ·) := rfl
theorem argsSV_i {j : Nat} {r : List AV} : argsSV env (.i j :: r) = (match slot env j with
    | some s => if s.mut = true then (argsSV env r).map (.b s.val :: ·) else none
    | none => none) := rfl
def SMt (o : Option SV) (k : Option (List SV)) : Option (List SV) := match o with
    | some s => if s.mut = true then k.map (.b s.val :: ·) else none
    | none => none
theorem argsSV_i' {j : Nat} {r : List AV} : argsSV env (.i j :: r) = SMt (slot env j) (argsSV env r) := rfl
theorem SMt_o {d : D} {k : Option (List SV)} : SMt (some (.o d)) k = k.map (.b d :: ·) := rfl
theorem SMt_b {d : D} {k : Option (List SV)} : SMt (some (.b d)) k = k.map (.b d :: ·) := rfl
theorem pb_nil {ds : List D} : putBack env [] ds = env := by cases ds <;> rfl
theorem pb_nil2 {js : List Nat} : putBack env js [] = env := by cases js <;> rfl
def SPt (o : Option SV) (j : Nat) (d : D) (env : DL.Env) : DL.Env := match o with
    | some s => env.set j (some (s.put d))
    | none => env
theorem pb_cons {j : Nat} {js : List Nat} {d : D} {ds : List D} : putBack env (j :: js) (d :: ds) = putBack (SPt (slot env j) j d env) js ds := rfl
theorem SPt_o {j : Nat} {d x : D} : SPt (some (.o x)) j d env = env.set j (some (.o d)) := rfl
theorem SPt_b {j : Nat} {d x : D} : SPt (some (.b x)) j d env = env.set j (some (.b d)) := rfl
theorem retT_d {d : D} : retT (.d d) = some (.v d) := rfl
theorem retT_o {d : D} : retT (.o d) = some (.f d) := rfl
theorem lS_nil : lentS [] = [] := rfl
theorem lS_d {d : D} {r : List AV} : lentS (.d d :: r) = lentS r := rfl
theorem lS_i {j : Nat} {r : List AV} : lentS (.i j :: r) = j :: lentS r := rfl
theorem lP_nil {n : Nat} : lentP n [] = [] := rfl
theorem lP_d {n : Nat} {d : D} {r : List AV} : lentP n (.d d :: r) = lentP (n + 1) r := rfl
theorem lP_i {n : Nat} {j : Nat} {r : List AV} : lentP n (.i j :: r) = n :: lentP (n + 1) r := rfl
def SVl (o : Option SV) : D := match o with
  | some s => s.val
  | none => .non
theorem SVl_d {d : D} : SVl (some (.d d)) = d := rfl
theorem SVl_o {d : D} : SVl (some (.o d)) = d := rfl
theorem SVl_b {d : D} : SVl (some (.b d)) = d := rfl
theorem backOf_nil : backOf [] env = [] := rfl
theorem backOf_cons {k : Nat} {io : List Nat} : backOf (k :: io) env = SVl (slot env k) :: backOf io env := rfl
/-! ### defs -/
def ends (io : List Nat) (Q : SV → List D → Prop) (E : Str → List (Str × D) → List D → Prop) : SE := ⟨fun e => Q (.d .non) (backOf io e), fun r e => Q r (backOf io e), fun _ => False, fun _ => False, fun c fs e => E c fs (backOf io e)⟩
theorem FW_run {n : Nat} {io : List Nat} {m : MS} {ss : List SV} {Q : SV → List D → Prop} {E : Str → List (Str × D) → List D → Prop} : FW (runF n io m ss) Q E = SW (m (ss.map some ++ List.replicate (n - ss.length) none)) (ends io Q E) := by
  unfold runF
  cases m (ss.map some ++ List.replicate (n - ss.length) none) <;> rfl
theorem FW_runG {n : Nat} {io : List Nat} {m : MS} {ss : List SV} {Q : SV → List D → Prop} {E : Str → List (Str × D) → List D → Prop} : FW (runG n io m ss) Q E = SW (m (ss.map some ++ List.replicate (n - ss.length) none)) { ends io Q E with ex := NoE } := by
  unfold runG
  cases m (ss.map some ++ List.replicate (n - ss.length) none) <;> rfl
theorem FW_imp {o : OutF} {Q Q' : SV → List D → Prop} {E E' : Str → List (Str × D) → List D → Prop} (h : FW o Q E) (i : ∀ r b, Q r b → Q' r b) (j : ∀ c fs b, E c fs b → E' c fs b) : FW o Q' E' := by
  cases o with
  | ok r b => exact i r b h
  | ex c fs b => exact j c fs b h
  | no => exact h
theorem FW_ok {o : OutF} {r : SV} {b : List D} {Q : SV → List D → Prop} {E : Str → List (Str × D) → List D → Prop} (e : o = .ok r b) (h : Q r b) : FW o Q E := by
  rw [e]
  exact h
def eqOf (r : SV) (b : List D) : SV → List D → Prop := fun r' b' => r' = r ∧ b' = b
theorem of_FW {o : OutF} {r : SV} {b : List D} {E : Str → List (Str × D) → List D → Prop} (h : FW o (eqOf r b) E) (n : ∀ c fs b, ¬ E c fs b) : o = .ok r b := by
  cases o with
  | ok r' b' => obtain ⟨rfl, rfl⟩ := h; rfl
  | ex c fs b => exact (n _ _ _ h).elim
  | no => exact h.elim
/-! ### what is walked -/
theorem OW_itF {m : ME} {Q : (List D × Option (Nat × D)) × DL.Env → Prop} : OW (mItF m env) Q E = OW (fa m env) (fun p => OB (itemsD p.1) fun ds => Q ((ds, none), p.2)) E := by
  unfold mItF
  rw [OW_bind]
  congr 1
  funext p
  cases itemsD p.1 <;> rfl
def Sc (t : DL.T) (d : D) : Option (Nat × D) := match t with
  | .s i => some (i, d)
  | _ => none
theorem Sc_v {x d : D} : Sc (.v x) d = none := rfl
theorem Sc_s {i : Nat} {d : D} : Sc (.s i) d = some (i, d) := rfl
theorem OW_it {m : ME} {Q : (List D × Option (Nat × D)) × DL.Env → Prop} : OW (mIt m env) Q E = OW (fz m env) (fun p => OB (dr p.2 p.1) fun d => OB (itemsD d) fun ds => Q ((ds, Sc p.1 d), p.2)) E := by
  unfold mIt
  rw [OW_bind]
  congr 1
  funext p
  cases dr p.2 p.1 with
  | none => rfl
  | some d =>
    dsimp only [OB]
    cases itemsD d <;> rfl
theorem OW_rng1 {m : ME} {Q : (List D × Option (Nat × D)) × DL.Env → Prop} : OW (mRng1 m env) Q E = OW (fa m env) (fun p => TI' p.1 fun j => (-(2 ^ 62) ≤ j ∧ j < 2 ^ 62) ∧ Q ((rngD 0 j.toNat, none), p.2)) E := by
  unfold mRng1
  rw [OW_bind]
  congr 1
  funext p
  obtain ⟨d, e⟩ := p
  cases d with
  | int j =>
    show OW (if _ then _ else _) Q E = _
    rw [OW_iteP]
    rfl
  | _ => rfl
theorem OW_rng2 {m n : ME} {Q : (List D × Option (Nat × D)) × DL.Env → Prop} : OW (mRng2 m n env) Q E = OW (fa m env) (fun p => OW (fa n p.2) (fun q => TI' p.1 fun i => TI' q.1 fun j => (-(2 ^ 62) ≤ i ∧ i < 2 ^ 62 ∧ -(2 ^ 62) ≤ j ∧ j < 2 ^ 62) ∧ Q ((rngD i (j - i).toNat, none), q.2)) E) E := by
  unfold mRng2
  rw [OW_bind]
  congr 1
  funext p
  rw [OW_bind]
  congr 1
  funext q
  obtain ⟨d, e⟩ := p
  obtain ⟨d2, e2⟩ := q
  cases d with
  | int i =>
    cases d2 with
    | int j =>
      show OW (if _ then _ else _) Q E = _
      rw [OW_iteP]
      rfl
    | _ => rfl
  | _ => rfl
theorem OW_zipK {m n : ME} {Q : (List D × Option (Nat × D)) × DL.Env → Prop} : OW (mZipK m n env) Q E = OW (fa m env) (fun p => OW (fa n p.2) (fun q => OB (sqOf p.1) fun x => OB (sqOf q.1) fun y => Q ((zipD x.2 y.2, none), q.2)) E) E := by
  unfold mZipK
  rw [OW_bind]
  congr 1
  funext p
  rw [OW_bind]
  congr 1
  funext q
  cases sqOf p.1 with
  | none => rfl
  | some x => cases sqOf q.1 <;> rfl
theorem sqOf_l {ds : List D} : sqOf (.lst ds) = some (true, ds) := rfl
theorem sqOf_t {ds : List D} : sqOf (.tup ds) = some (false, ds) := rfl
def seqD (d : D) : Option (List D) := match d with
  | .lst ds => some ds
  | .tup ds => some ds
  | _ => none
theorem seqD_l {ds : List D} : seqD (.lst ds) = some ds := rfl
theorem seqD_t {ds : List D} : seqD (.tup ds) = some ds := rfl
theorem OW_enum {m : ME} {Q : (List D × Option (Nat × D)) × DL.Env → Prop} : OW (mEnum m env) Q E = OW (fa m env) (fun p => OB (seqD p.1) fun ds => Q ((enumD ds, none), p.2)) E := by
  unfold mEnum
  rw [OW_bind]
  congr 1
  funext p
  obtain ⟨d, e⟩ := p
  cases d <;> rfl
theorem OW_enumV {m : ME} {Q : (List D × Option (Nat × D)) × DL.Env → Prop} : OW (mEnumV m env) Q E = OW (fz m env) (fun p => OB (dr p.2 p.1) fun d => OB (seqD d) fun ds => Q ((enumD ds, Sc p.1 d), p.2)) E := by
  unfold mEnumV
  rw [OW_bind]
  congr 1
  funext p
  cases dr p.2 p.1 with
  | none => rfl
  | some d => cases d <;> rfl
theorem items_l {ds : List D} : itemsD (.lst ds) = some ds := rfl
theorem items_t {ds : List D} : itemsD (.tup ds) = some ds := rfl
/-! ### for -/
theorem SW_for {mi : MIt} {g : GT} {b : MS} : SW (mFor mi g b env) T = OW (mi env) (fun p => p.1.2 = none ∧ SW (forL g b p.1.1 p.2) T) T.ex := by
  unfold mFor
  rw [SW_sq]
  congr 1
  funext p
  obtain ⟨⟨ds, src⟩, e⟩ := p
  cases src with
  | none =>
    show SW (forL g b ds e) T = _
    exact propext ⟨fun h => ⟨rfl, h⟩, fun h => h.2⟩
  | some q =>
    show SW .no T = _
    exact propext ⟨fun h => h.elim, fun h => nomatch h.1⟩
theorem SW_for0 {g : GT} {b : MS} : SW (forL g b [] env) T = T.nx env := rfl
theorem SW_forS {g : GT} {b : MS} {d : D} {ds : List D} : SW (forL g b (d :: ds) env) T = OB (g d env) fun e1 => SW (b e1) { T with nx := fun e2 => SW (forL g b ds e2) T, ct := fun e2 => SW (forL g b ds e2) T, bk := T.nx } := by
  show SW (match g d env with
    | none => .no
    | some e1 => match b e1 with
      | .nx e2 => forL g b ds e2
      | .ct e2 => forL g b ds e2
      | .bk e2 => .nx e2
      | .rt r e2 => .rt r e2
      | .ex c fs e2 => .ex c fs e2
      | .no => .no) T = _
  cases g d env with
  | none => rfl
  | some e1 =>
    dsimp only [OB]
    cases b e1 <;> rfl
/-- a loop by what holds ahead of each item -/
theorem SW_forI {g : GT} {b : MS} (I : Nat → DL.Env → Prop) : ∀ (ds : List D) (k : Nat) (e : DL.Env), I k e → (∀ i d e, ds[i]? = some d → I (k + i) e → OB (g d e) fun e1 => SW (b e1) { T with nx := I (k + i + 1), ct := I (k + i + 1), bk := T.nx }) → (∀ e, I (k + ds.length) e → T.nx e) → SW (forL g b ds e) T
  | [], k, e, h, _, z => z e h
  | d :: ds, k, e, h, s, z => by
    rw [SW_forS]
    have := s 0 d e rfl h
    cases hg : g d e with
    | none => rw [hg] at this; exact this
    | some e1 =>
      rw [hg] at this
      refine SW_imp this (fun e2 h2 => ?_) (fun _ _ h => h) (fun _ h => h) (fun e2 h2 => ?_) (fun _ _ _ h => h)
      all_goals
        refine SW_forI I ds (k + 1) e2 h2 (fun i d' e' hd hi => ?_) fun e' he => z e' ?_
        · have e1 : k + 1 + i = k + (i + 1) := by omega
          rw [e1] at hi ⊢
          exact s (i + 1) d' e' hd hi
        · rw [List.length_cons, show k + (ds.length + 1) = k + 1 + ds.length by omega]
          exact he
/-! ### while -/
theorem SW_while {fu : DL.Env → Nat} {c : MB} {b : MS} : SW (mWhile fu c b env) T = SW (whileL c b (fu env) env) T := rfl
theorem SW_whileI {c : MB} {b : MS} (I : Nat → DL.Env → Prop) (s : ∀ n e, I n e → OW (c e) (fun p => IF p.1 (SW (b p.2) { T with nx := fun e2 => ∃ m, m < n ∧ I m e2, ct := fun e2 => ∃ m, m < n ∧ I m e2, bk := T.nx }) (T.nx p.2)) T.ex) : ∀ (f n : Nat) (e : DL.Env), n < f → I n e → SW (whileL c b f e) T
  | 0, n, e, h, _ => absurd h (Nat.not_lt_zero n)
  | f + 1, n, e, h, hi => by
    show SW (sq (c e) fun k e1 => if k = true then (match b e1 with
      | .nx e2 => whileL c b f e2
      | .ct e2 => whileL c b f e2
      | .bk e2 => .nx e2
      | .rt r e2 => .rt r e2
      | .ex c fs e2 => .ex c fs e2
      | .no => .no)
    else .nx e1) T
    rw [SW_sq]
    refine OW_imp (s n e hi) (fun p hp => ?_) fun _ _ _ h => h
    rw [SW_ifb]
    refine ⟨fun hb => ?_, fun hb => hp.2 hb⟩
    have hp := hp.1 hb
    cases hbd : b p.2 with
    | nx e2 => rw [hbd] at hp; obtain ⟨m, hm, hI⟩ := hp; exact SW_whileI I s f m e2 (by omega) hI
    | ct e2 => rw [hbd] at hp; obtain ⟨m, hm, hI⟩ := hp; exact SW_whileI I s f m e2 (by omega) hI
    | bk e2 => rw [hbd] at hp; exact hp
    | rt r e2 => rw [hbd] at hp; exact hp
    | ex x fs e2 => rw [hbd] at hp; exact hp
    | no => rw [hbd] at hp; exact hp
/-! ### comprehensions -/
theorem OW_lc {vs : List Nat} {mi : MIt} {g : GT} {tt : MB} {te : ME} {Q : DL.T × DL.Env → Prop} : OW (mLc vs mi g tt te env) Q E = OW (mi env) (fun p => (ownFree vs p.2 = true ∧ p.1.1.length ≤ 100000 ∧ (∀ q, p.1.2 = some q → q.1 ∉ vs)) ∧ OW (lcL vs p.1.2 g tt te p.1.1 (wipeE vs p.2)) (fun q => Q (.f (.lst q.1), restE vs p.2 q.2)) E) E := by
  classical
  unfold mLc
  rw [OW_bind]
  congr 1
  funext p
  rw [OW_iteP]
  congr 1
  rw [OW_bind]
  rfl
theorem OW_bindN {o : Out β} {f : β → Out α} (h : OW o (fun a => OW (f a) Q E) NoE) : OW (o.bindN f) Q E := by
  cases o with
  | ok a => exact h
  | ex c fs e => exact h.elim
  | no => exact h
theorem OW_lcI {vs : List Nat} {src : Option (Nat × D)} {g : GT} {tt : MB} {te : ME} {Q : List D × DL.Env → Prop} (J : Nat → List D → DL.Env → Prop) : ∀ (ds : List D) (k : Nat) (acc : List D) (e : DL.Env), J k acc e →
    (∀ i d acc e, ds[i]? = some d → J (k + i) acc e → OB (g d e) fun e1 => OW (tt e1) (fun p => IF p.1 (OW (fa te p.2) (fun q => srcOk src q.2 ∧ J (k + i + 1) (acc ++ [q.1]) (wipeE vs q.2)) NoE) (srcOk src p.2 ∧ J (k + i + 1) acc (wipeE vs p.2))) NoE) →
    (∀ acc' e, J (k + ds.length) acc' e → ∀ r, acc' = acc ++ r → Q (r, e)) → OW (lcL vs src g tt te ds e) Q E
  | [], k, acc, e, h, _, z => z acc e h [] (by simp)
  | d :: ds, k, acc, e, h, s, z => by
    classical
    have h0 := s 0 d acc e rfl h
    unfold lcL
    cases hg : g d e with
    | none => rw [hg] at h0; exact h0
    | some e1 =>
      rw [hg] at h0
      refine OW_bindN (OW_imp h0 (fun p hp => ?_) fun _ _ _ h => h)
      rw [OW_ifb]
      have nxt : ∀ (i : Nat) (d' : D) (acc : List D) (e' : DL.Env), ds[i]? = some d' → J (k + 1 + i) acc e' → OB (g d' e') fun e1 => OW (tt e1) (fun p => IF p.1 (OW (fa te p.2) (fun q => srcOk src q.2 ∧ J (k + 1 + i + 1) (acc ++ [q.1]) (wipeE vs q.2)) NoE) (srcOk src p.2 ∧ J (k + 1 + i + 1) acc (wipeE vs p.2))) NoE := fun i d' acc e' hd hj => by
        have e1 : k + 1 + i = k + (i + 1) := by omega
        rw [e1] at hj ⊢
        exact s (i + 1) d' acc e' hd hj
      refine ⟨fun hb => ?_, fun hb => ?_⟩
      · refine OW_bindN (OW_imp (hp.1 hb) (fun q hq => ?_) fun _ _ _ h => h)
        rw [OW_iteP]
        refine ⟨hq.1, ?_⟩
        rw [OW_bind]
        refine OW_lcI J ds (k + 1) (acc ++ [q.1]) _ hq.2 nxt fun acc' e' hj r hr => ?_
        refine z acc' e' (by rw [List.length_cons, show k + (ds.length + 1) = k + 1 + ds.length by omega]; exact hj) (q.1 :: r) ?_
        rw [hr, List.append_assoc]
        rfl
      · have hq := hp.2 hb
        rw [OW_iteP]
        refine ⟨hq.1, ?_⟩
        refine OW_lcI J ds (k + 1) acc _ hq.2 nxt fun acc' e' hj r hr => ?_
        exact z acc' e' (by rw [List.length_cons, show k + (ds.length + 1) = k + 1 + ds.length by omega]; exact hj) r hr
theorem srcOk_n : srcOk none env = True := rfl
theorem srcOk_s {i : Nat} {d : D} : srcOk (some (i, d)) env = ∃ s, slot env i = some s ∧ s.val = d := rfl
theorem OW_yes {Q : Bool × DL.Env → Prop} : OW (mYes env) Q E = Q (true, env) := rfl
/-- of a comprehension that keeps the slots: f of each item -/
theorem OW_lcP {vs : List Nat} {src : Option (Nat × D)} {g : GT} {te : ME} {Q : List D × DL.Env → Prop} (f : D → D) (e0 : DL.Env) (ds : List D) (hs : ∀ d ∈ ds, OB (g d e0) fun e1 => OW (fa te e1) (fun q => q.1 = f d ∧ srcOk src q.2 ∧ wipeE vs q.2 = e0) NoE) (h : Q (ds.map f, e0)) : OW (lcL vs src g mYes te ds e0) Q E := by
  refine OW_lcI (fun i acc e => acc = (ds.take i).map f ∧ e = e0) ds 0 [] e0 ⟨by simp, rfl⟩ (fun i d acc e hd hj => ?_) fun acc' e hj r hr => ?_
  · obtain ⟨rfl, rfl⟩ := hj
    have h1 := hs d (List.mem_of_getElem? hd)
    cases hg : g d e with
    | none => rw [hg] at h1; exact h1
    | some e1 =>
      rw [hg] at h1
      rw [OB_some, OW_yes, IF_t]
      refine OW_imp h1 (fun q hq => ⟨hq.2.1, ?_, hq.2.2⟩) fun _ _ _ h => h
      rw [hq.1, Nat.zero_add, List.take_add_one, hd]
      simp
  · obtain ⟨h1, rfl⟩ := hj
    have : r = ds.map f := by
      rw [List.nil_append] at hr
      rw [← hr, h1, Nat.zero_add, List.take_length]
    rw [this]
    exact h
theorem OW_bindE {o : Out β} {f : β → Out α} : OW (o.bindN f) Q E = OW o (fun a => OW (f a) Q E) NoE := by cases o <;> rfl
theorem OW_lc0 {vs : List Nat} {src : Option (Nat × D)} {g : GT} {tt : MB} {te : ME} {e : DL.Env} {Q : List D × DL.Env → Prop} : OW (lcL vs src g tt te [] e) Q E = Q ([], e) := rfl
theorem OW_lcY {vs : List Nat} {src : Option (Nat × D)} {g : GT} {te : ME} {d : D} {ds : List D} {e : DL.Env} {Q : List D × DL.Env → Prop} : OW (lcL vs src g mYes te (d :: ds) e) Q E = OB (g d e) fun e1 => OW (fa te e1) (fun q => srcOk src q.2 ∧ OW (lcL vs src g mYes te ds (wipeE vs q.2)) (fun r => Q (q.1 :: r.1, r.2)) E) NoE := by
  classical
  show OW (match g d e with
    | none => .no
    | some e1 => (mYes e1).bindN fun p => if p.1 = true then (fa te p.2).bindN fun q => if srcOk src q.2 then (lcL vs src g mYes te ds (wipeE vs q.2)).bind fun r => .ok (q.1 :: r.1, r.2) else .no
      else if srcOk src p.2 then lcL vs src g mYes te ds (wipeE vs p.2) else .no) Q E = _
  cases g d e with
  | none => rfl
  | some e1 =>
    rw [OB_some]
    dsimp only
    rw [OW_bindE, OW_yes, OW_ifb, IF_t, OW_bindE]
    congr 1
    funext q
    rw [OW_iteP, OW_bind]
    rfl
/-! ### targets -/
theorem gN_eq {i : Nat} {d : D} (h : i < env.length) : gN i d env = some (env.set i (some (.d d))) := if_pos h
theorem OB_gN {i : Nat} {d : D} {Q : DL.Env → Prop} : OB (gN i d env) Q = (i < env.length ∧ Q (env.set i (some (.d d)))) := by
  unfold gN
  rw [OB_ite]
theorem OB_gK {n : Nat} {r : List D → DL.Env → Option DL.Env} {d : D} {Q : DL.Env → Prop} : OB (gTupK n r d env) Q = OB (seqD d) fun ds => ds.length = n ∧ OB (r ds env) Q := by
  cases d with
  | tup ds =>
    show OB (if _ then _ else _) Q = _
    by_cases h : ds.length = n
    · rw [if_pos h]; exact propext ⟨fun q => ⟨h, q⟩, fun q => q.2⟩
    · rw [if_neg h]; exact propext ⟨fun q => q.elim, fun q => h q.1⟩
  | lst ds =>
    show OB (if _ then _ else _) Q = _
    by_cases h : ds.length = n
    · rw [if_pos h]; exact propext ⟨fun q => ⟨h, q⟩, fun q => q.2⟩
    · rw [if_neg h]; exact propext ⟨fun q => q.elim, fun q => h q.1⟩
  | _ => rfl
theorem OB_gCons {g : GT} {r : List D → DL.Env → Option DL.Env} {d : D} {ds : List D} {Q : DL.Env → Prop} : OB (gConsD g r (d :: ds) env) Q = OB (g d env) fun e1 => OB (r ds e1) Q := by
  show OB ((g d env).bind (r ds)) Q = _
  rw [OB_bind]
theorem OB_gNil {Q : DL.Env → Prop} : OB (gNilD [] env) Q = Q env := rfl
/-! ### operations -/
variable {i j : Int} {Q : DL.T → Prop}
theorem OB_add : OB (addD (.int i) (.int j)) Q = Q (.v (.int (i + j))) := rfl
theorem OB_sub : OB (subD (.int i) (.int j)) Q = Q (.v (.int (i - j))) := rfl
theorem OB_mul : OB (mulD (.int i) (.int j)) Q = (MulOk i j ∧ Q (.v (.int (i * j)))) := by
  classical
  show OB (if _ then _ else _) Q = _
  rw [OB_ite]
theorem OB_mulL {xs : List D} {k : Int} : OB (mulD (.lst xs) (.int k)) Q = ((-(2 ^ 63) ≤ k ∧ k < 2 ^ 63 ∧ xs.length * k.toNat ≤ sizeLine) ∧ Q (.f (.lst (List.replicate k.toNat xs).flatten))) := by
  show OB (if _ then _ else _) Q = _
  rw [OB_ite]
theorem OB_fdiv : OB (fdivD (.int i) (.int j)) Q = (CDivW i j ∧ Q (.v (.int (i / j)))) := by
  classical
  show OB (if _ then _ else _) Q = _
  rw [OB_ite]
theorem OB_mod : OB (modD (.int i) (.int j)) Q = (0 < j ∧ Q (.v (.int (i % j)))) := by
  show OB (if _ then _ else _) Q = _
  rw [OB_ite]
theorem OB_pow : OB (powD (.int i) (.int j)) Q = (CPow i j ∧ Q (.v (.int (i ^ j.toNat)))) := by
  classical
  show OB (if _ then _ else _) Q = _
  rw [OB_ite]
theorem OB_shl : OB (shlD (.int i) (.int j)) Q = (CPow i j ∧ Q (.v (.int (i * 2 ^ j.toNat)))) := by
  classical
  show OB (if _ then _ else _) Q = _
  rw [OB_ite]
theorem OB_bits : OB (bitsD (.int i)) Q = Q (.v (.int (Builtin.Int.intBits i : Nat))) := rfl
theorem OB_sl_l {ds : List D} {lo hi : Option Int} : OB (slD (.lst ds) lo hi) Q = Q (.f (.lst (cutD ds lo hi))) := rfl
theorem OB_sl_f {ds : List D} {lo hi : Option Int} : OB (slD (.lsf ds) lo hi) Q = Q (.f (.lst (cutD ds lo hi))) := rfl
theorem OB_neg : OB (negD (.int i)) Q = Q (.v (.int (-i))) := rfl
theorem OB_lt : OB (ltD (.int i) (.int j)) Q = Q (.v (.bl (decide (i < j)))) := rfl
theorem OB_le : OB (leD (.int i) (.int j)) Q = Q (.v (.bl (decide (i ≤ j)))) := rfl
theorem OB_gt : OB (gtD (.int i) (.int j)) Q = Q (.v (.bl (decide (j < i)))) := rfl
theorem OB_ge : OB (geD (.int i) (.int j)) Q = Q (.v (.bl (decide (j ≤ i)))) := rfl
theorem OB_eq {a b : D} : OB (eqD a b) Q = OB (eqB a b) fun c => Q (.v (.bl c)) := by
  unfold eqD
  rw [OB_map]
theorem OB_ne {a b : D} : OB (neD a b) Q = OB (eqB a b) fun c => Q (.v (.bl !c)) := by
  unfold neD
  rw [OB_map]
theorem eqB_int : eqB (.int i) (.int j) = some (decide (i = j)) := by
  unfold eqB
  simp only [scD]
  rw [if_pos (by rfl)]
  congr 1
  simp
theorem eqB_str {x y : Str} : eqB (.str x) (.str y) = some (decide (x = y)) := by
  unfold eqB
  simp only [scD]
  rw [if_pos (by rfl)]
  congr 1
  simp
theorem OB_is {a : D} : OB (isD a .non) Q = Q (.v (.bl (isNon a))) := by cases a <;> rfl
theorem OB_isn {a : D} : OB (isnD a .non) Q = Q (.v (.bl (!isNon a))) := by cases a <;> rfl
theorem OB_len_l {ds : List D} : OB (lenD (.lst ds)) Q = Q (.v (.int (ds.length : Nat))) := rfl
theorem OB_len_t {ds : List D} : OB (lenD (.tup ds)) Q = Q (.v (.int (ds.length : Nat))) := rfl
theorem OB_abs : OB (absD (.int i)) Q = Q (.v (.int (if i < 0 then -i else i))) := rfl
theorem OB_int : OB (intD (.int i)) Q = Q (.v (.int i)) := rfl
theorem OB_intb {b : Bool} : OB (intD (.bl b)) Q = Q (.v (.int (if b then 1 else 0))) := rfl
theorem OB_ix_l {ds : List D} : OB (ixD (.lst ds) (.int i)) Q = OB (atI ds i) fun d => Q (.v d) := by
  show OB ((atI ds i).map _) Q = _
  rw [OB_map]
theorem OB_ix_t {ds : List D} : OB (ixD (.tup ds) (.int i)) Q = OB (atI ds i) fun d => Q (.v d) := by
  show OB ((atI ds i).map _) Q = _
  rw [OB_map]
theorem OB_gcd : OB (gcdD (.int i) (.int j)) Q = Q (.v (.int ((Nat.gcd i.natAbs j.natAbs : Nat) : Int))) := rfl
theorem OB_lcm : OB (lcmD (.int i) (.int j)) Q = ((i.natAbs.log2 < 13000 ∧ j.natAbs.log2 < 13000) ∧ Q (.v (.int ((i.natAbs.lcm j.natAbs : Nat) : Int)))) := by
  show OB (if _ then _ else _) Q = _
  rw [OB_ite]
theorem OB_max2 : OB (max2D (.int i) (.int j)) Q = Q (.v (.int (if j > i then j else i))) := rfl
theorem OB_min2 : OB (min2D (.int i) (.int j)) Q = Q (.v (.int (if j < i then j else i))) := rfl
theorem atI_nat {α : Type} {l : List α} {n : Nat} : atI l ((n : Nat) : Int) = l[n]? := by
  unfold L2.atI L2.ixN
  rw [if_pos (by omega)]
  by_cases h : n < l.length
  · rw [if_pos (by omega), Int.toNat_natCast]
    rfl
  · rw [if_neg (by omega), List.getElem?_eq_none (by omega)]
    rfl
end
theorem atI0 {α : Type} {a : α} {l : List α} : atI (a :: l) 0 = some a := by
  unfold L2.atI L2.ixN
  rw [if_pos (by decide), if_pos (by rw [List.length_cons]; omega)]
  rfl
theorem atI1 {α : Type} {a b : α} {l : List α} : atI (a :: b :: l) 1 = some b := by
  unfold L2.atI L2.ixN
  rw [if_pos (by decide), if_pos (by rw [List.length_cons, List.length_cons]; omega)]
  rfl
theorem atI2 {α : Type} {a b c : α} {l : List α} : atI (a :: b :: c :: l) 2 = some c := by
  unfold L2.atI L2.ixN
  rw [if_pos (by decide), if_pos (by rw [List.length_cons, List.length_cons, List.length_cons]; omega)]
  rfl
theorem ixN_b {n : Nat} : ixN (n + 1) 0 = some 0 := by
  unfold L2.ixN
  rw [if_pos (by decide), if_pos (by omega)]
  rfl
theorem ixN_1 {n : Nat} : ixN (n + 1 + 1) 1 = some 1 := by
  unfold L2.ixN
  rw [if_pos (by decide), if_pos (by omega)]
  rfl
theorem ixN_2 {n : Nat} : ixN (n + 1 + 1 + 1) 2 = some 2 := by
  unfold L2.ixN
  rw [if_pos (by decide), if_pos (by omega)]
  rfl
theorem no_src {P : Nat × D → Prop} : (∀ q : Nat × D, none = some q → P q) = True := propext ⟨fun _ => trivial, fun _ _ h => nomatch h⟩
theorem rng_len {lo : Int} {n : Nat} : (rngD lo n).length = n := by unfold rngD; rw [List.length_map, List.length_range]
theorem enum_len {ds : List D} : (enumD ds).length = ds.length := List.length_mapIdx
theorem enum_get {ds : List D} {i : Nat} {x : D} (h : (enumD ds)[i]? = some x) : ∃ d, ds[i]? = some d ∧ x = .tup [.int (i : Nat), d] := by
  unfold enumD at h
  rw [List.getElem?_mapIdx] at h
  obtain ⟨d, hd, rfl⟩ := Option.map_eq_some_iff.mp h
  exact ⟨d, hd, rfl⟩
theorem rng_get {lo : Int} {n i : Nat} {x : D} (h : (rngD lo n)[i]? = some x) : i < n ∧ x = .int (lo + (i : Nat)) := by
  unfold rngD at h
  rw [List.getElem?_map] at h
  obtain ⟨k, hk, rfl⟩ := Option.map_eq_some_iff.mp h
  obtain ⟨l, rfl⟩ := List.getElem?_eq_some_iff.mp hk
  rw [List.length_range] at l
  rw [List.getElem_range]
  exact ⟨l, rfl⟩
theorem zip_len {ds es : List D} : (zipD ds es).length = min ds.length es.length := List.length_zipWith
theorem zip_get {ds es : List D} {i : Nat} {x : D} (h : (zipD ds es)[i]? = some x) : ∃ d e, ds[i]? = some d ∧ es[i]? = some e ∧ x = .tup [d, e] := by
  unfold zipD at h
  rw [List.getElem?_zipWith] at h
  cases hd : ds[i]? with
  | none => rw [hd] at h; cases h
  | some d =>
    cases he : es[i]? with
    | none => rw [hd, he] at h; cases h
    | some e =>
      rw [hd, he] at h
      cases h
      exact ⟨d, e, rfl, rfl, rfl⟩
section
variable {Q : DL.T → Prop}
theorem OB_all {ds : List D} : OB (allD (.lst ds)) Q = OB (blsOf ds) fun bs => Q (.v (.bl (bs.all id))) := by
  show OB ((blsOf ds).map _) Q = _
  rw [OB_map]
theorem OB_any {ds : List D} : OB (anyD (.lst ds)) Q = OB (blsOf ds) fun bs => Q (.v (.bl (bs.any id))) := by
  show OB ((blsOf ds).map _) Q = _
  rw [OB_map]
theorem OB_sum {ds : List D} : OB (sumD (.lst ds)) Q = OB (intsOf ds) fun ns => Q (.v (.int ns.sum)) := by
  show OB ((intsOf ds).map _) Q = _
  rw [OB_map]
theorem bls_nil : blsOf [] = some [] := rfl
theorem bls_cons {b : Bool} {ds : List D} : blsOf (.bl b :: ds) = (blsOf ds).map (b :: ·) := rfl
theorem ints_nil : intsOf [] = some [] := rfl
theorem ints_cons {i : Int} {ds : List D} : intsOf (.int i :: ds) = (intsOf ds).map (i :: ·) := rfl
theorem isi_int_int {i : Int} : OB (isiD "int" (.int i)) Q = Q (.v (.bl true)) := rfl
theorem isi_int_bl {b : Bool} : OB (isiD "int" (.bl b)) Q = Q (.v (.bl true)) := rfl
theorem isi_int_str {x : Str} : OB (isiD "int" (.str x)) Q = Q (.v (.bl false)) := rfl
theorem isi_int_lst {ds : List D} : OB (isiD "int" (.lst ds)) Q = Q (.v (.bl false)) := rfl
theorem isi_int_tup {ds : List D} : OB (isiD "int" (.tup ds)) Q = Q (.v (.bl false)) := rfl
theorem isi_int_non  : OB (isiD "int" (.non)) Q = Q (.v (.bl false)) := rfl
theorem isi_bool_int {i : Int} : OB (isiD "bool" (.int i)) Q = Q (.v (.bl false)) := rfl
theorem isi_bool_bl {b : Bool} : OB (isiD "bool" (.bl b)) Q = Q (.v (.bl true)) := rfl
theorem isi_bool_str {x : Str} : OB (isiD "bool" (.str x)) Q = Q (.v (.bl false)) := rfl
theorem isi_bool_lst {ds : List D} : OB (isiD "bool" (.lst ds)) Q = Q (.v (.bl false)) := rfl
theorem isi_bool_tup {ds : List D} : OB (isiD "bool" (.tup ds)) Q = Q (.v (.bl false)) := rfl
theorem isi_bool_non  : OB (isiD "bool" (.non)) Q = Q (.v (.bl false)) := rfl
theorem isi_str_int {i : Int} : OB (isiD "str" (.int i)) Q = Q (.v (.bl false)) := rfl
theorem isi_str_bl {b : Bool} : OB (isiD "str" (.bl b)) Q = Q (.v (.bl false)) := rfl
theorem isi_str_str {x : Str} : OB (isiD "str" (.str x)) Q = Q (.v (.bl true)) := rfl
theorem isi_str_lst {ds : List D} : OB (isiD "str" (.lst ds)) Q = Q (.v (.bl false)) := rfl
theorem isi_str_tup {ds : List D} : OB (isiD "str" (.tup ds)) Q = Q (.v (.bl false)) := rfl
theorem isi_str_non  : OB (isiD "str" (.non)) Q = Q (.v (.bl false)) := rfl
theorem isi_list_int {i : Int} : OB (isiD "list" (.int i)) Q = Q (.v (.bl false)) := rfl
theorem isi_list_bl {b : Bool} : OB (isiD "list" (.bl b)) Q = Q (.v (.bl false)) := rfl
theorem isi_list_str {x : Str} : OB (isiD "list" (.str x)) Q = Q (.v (.bl false)) := rfl
theorem isi_list_lst {ds : List D} : OB (isiD "list" (.lst ds)) Q = Q (.v (.bl true)) := rfl
theorem isi_list_tup {ds : List D} : OB (isiD "list" (.tup ds)) Q = Q (.v (.bl false)) := rfl
theorem isi_list_non  : OB (isiD "list" (.non)) Q = Q (.v (.bl false)) := rfl
theorem isi_tuple_int {i : Int} : OB (isiD "tuple" (.int i)) Q = Q (.v (.bl false)) := rfl
theorem isi_tuple_bl {b : Bool} : OB (isiD "tuple" (.bl b)) Q = Q (.v (.bl false)) := rfl
theorem isi_tuple_str {x : Str} : OB (isiD "tuple" (.str x)) Q = Q (.v (.bl false)) := rfl
theorem isi_tuple_lst {ds : List D} : OB (isiD "tuple" (.lst ds)) Q = Q (.v (.bl false)) := rfl
theorem isi_tuple_tup {ds : List D} : OB (isiD "tuple" (.tup ds)) Q = Q (.v (.bl true)) := rfl
theorem isi_tuple_non  : OB (isiD "tuple" (.non)) Q = Q (.v (.bl false)) := rfl
theorem isi2_int {i : Int} : OB (isi2D "list" "tuple" (.int i)) Q = Q (.v (.bl false)) := rfl
theorem isi2_bl {b : Bool} : OB (isi2D "list" "tuple" (.bl b)) Q = Q (.v (.bl false)) := rfl
theorem isi2_str {x : Str} : OB (isi2D "list" "tuple" (.str x)) Q = Q (.v (.bl false)) := rfl
theorem isi2_lst {ds : List D} : OB (isi2D "list" "tuple" (.lst ds)) Q = Q (.v (.bl true)) := rfl
theorem isi2_tup {ds : List D} : OB (isi2D "list" "tuple" (.tup ds)) Q = Q (.v (.bl true)) := rfl
theorem isi2_non  : OB (isi2D "list" "tuple" (.non)) Q = Q (.v (.bl false)) := rfl
theorem OB_tuple_l {ds : List D} : OB (tupleD (.lst ds)) Q = Q (.v (.tup ds)) := rfl
theorem OB_tuple_t {ds : List D} : OB (tupleD (.tup ds)) Q = Q (.v (.tup ds)) := rfl
theorem OB_list_l {ds : List D} : OB (listD (.lst ds)) Q = Q (.f (.lst ds)) := rfl
theorem OB_list_t {ds : List D} : OB (listD (.tup ds)) Q = Q (.f (.lst ds)) := rfl
theorem OB_sumI {ns : List Int} : OB (sumD (.lst (ns.map D.int))) Q = Q (.v (.int ns.sum)) := by
  show OB ((intsOf (ns.map D.int)).map _) Q = _
  rw [intsOf_map]
  rfl
theorem OB_allB {bs : List Bool} : OB (allD (.lst (bs.map D.bl))) Q = Q (.v (.bl (bs.all id))) := by
  show OB ((blsOf (bs.map D.bl)).map _) Q = _
  rw [blsOf_map]
  rfl
theorem tru_bl {b : Bool} : truD (.bl b) = some b := rfl
theorem tru_int {i : Int} : truD (.int i) = some (i != 0) := rfl
theorem tru_lst {ds : List D} : truD (.lst ds) = some (!ds.isEmpty) := rfl
theorem tru_tup {ds : List D} : truD (.tup ds) = some (!ds.isEmpty) := rfl
theorem tru_non : truD .non = some false := rfl
end
theorem nd0 : (([] : List Nat).Nodup) = True := by simp
theorem nd1 {j : Nat} : (([j] : List Nat).Nodup) = True := by simp
theorem n_lt (a b : Nat) (h : Nat.blt a b = true) : (a < b) = True := by simp [Nat.blt_eq] at h; simp [h]
theorem put_o {d e : D} : SV.put e (.o d) = .o e := rfl
theorem put_b {d e : D} : SV.put e (.b d) = .b e := rfl
theorem val_o {d : D} : SV.val (.o d) = d := rfl
theorem val_b {d : D} : SV.val (.b d) = d := rfl
theorem val_d {d : D} : SV.val (.d d) = d := rfl
end DL
namespace DL
open PySem PySem.Spec PyProof.Rows L2 Own
theorem mul_l {i j : Int} (a : -(2 ^ 64) < i) (b : i < 2 ^ 64) : DL.MulOk i j := .inl (.inl ⟨a, b⟩)
theorem mul_r {i j : Int} (a : -(2 ^ 64) < j) (b : j < 2 ^ 64) : DL.MulOk i j := .inl (.inr ⟨a, b⟩)
theorem div_s {i j : Int} (a : 0 < j) (b : j < 2 ^ 64) : CDivW i j := wide_div (b := 64) a (by omega) (by decide) (by decide)
theorem div_n {i j : Int} {b : Nat} (a : 0 < j) (h : j.natAbs < 2 ^ b) (h0 : 0 < b) (h9 : b ≤ 9000) : CDivW i j := wide_div a h h0 h9
theorem pw_ok {i j : Int} (a : 0 ≤ j) (b : j ≤ 1000000) (c : -(2 ^ 64) < i) (d : i < 2 ^ 64) : CPow i j := ⟨a, b, by omega⟩
theorem pys_ints : ∀ ns : List Int, pys (ns.map D.int) = some (ns.map PyData.int)
  | [] => rfl
  | n :: ns => by
    rw [List.map_cons, pys, pys_ints ns]
    rfl
theorem py_l {ds : List D} : py (.lst ds) = (pys ds).map .list := rfl
theorem py_t {ds : List D} : py (.tup ds) = (pys ds).map .tuple := rfl
end DL
namespace DL
open PySem PySem.Spec PyProof.Rows L2 Own
theorem eqB_nil {ns : List Int} : eqB (.lst (ns.map D.int)) (.lst []) = some (decide (ns = [])) := by
  unfold eqB
  simp only [scD]
  rw [py_l, pys_ints]
  show (if SeqAt.shaped (.list (ns.map PyData.int)) = true ∧ SeqAt.shaped (.list []) = true then some (PyData.eqv (.list (ns.map PyData.int)) (.list [])) else none) = _
  rw [if_pos ⟨Own.shaped_ints ns, Own.shaped_nil⟩, Own.eqv_nil]
  cases ns <;> simp
theorem atI_ints {ns : List Int} {i : Int} (h0 : 0 ≤ i) (h : i < ns.length) : ∃ c : Int, atI (ns.map D.int) i = some (.int c) := by
  obtain ⟨k, rfl⟩ := Int.eq_ofNat_of_zero_le h0
  refine ⟨ns[k]'(by omega), ?_⟩
  rw [atI_nat, List.getElem?_map, List.getElem?_eq_getElem (by omega)]
  rfl
/-- the bound of the draws' last power -/
theorem cube_ok {t : Int} {p : Nat} {a b c : Int} (t0 : 0 ≤ t) (t1 : t < 2 ^ 31) (hp : p ≤ 2 ^ 20) (a0 : 0 ≤ a) (a1 : a < 2 ^ 20) (b0 : 0 ≤ b) (b1 : b < 2 ^ 20) (c0 : 0 ≤ c) (c1 : c < 2 ^ 20) : CPow (t * (2 * (p : Nat) + a) + b * (p : Nat) * (p : Nat) + c) 3 := by
  have h1 : t * (2 * (p : Nat) + a) ≤ 2 ^ 31 * 2 ^ 22 := Int.mul_le_mul (by omega) (by omega) (by omega) (by decide)
  have h0 : 0 ≤ t * (2 * (p : Nat) + a) := Int.mul_nonneg t0 (by omega)
  have h2 : b * (p : Nat) ≤ 2 ^ 20 * 2 ^ 20 := Int.mul_le_mul (by omega) (by omega) (by omega) (by decide)
  have h3 : 0 ≤ b * (p : Nat) := Int.mul_nonneg b0 (by omega)
  have h4 : b * (p : Nat) * (p : Nat) ≤ 2 ^ 20 * 2 ^ 20 * 2 ^ 20 := Int.mul_le_mul h2 (by omega) (by omega) (by decide)
  have h5 : 0 ≤ b * (p : Nat) * (p : Nat) := Int.mul_nonneg h3 (by omega)
  exact pw_ok (by decide) (by decide) (by omega) (by omega)
end DL
set_option Elab.async false
set_option linter.all false
set_option maxRecDepth 100000
set_option maxHeartbeats 4000000
namespace DL
open PySem PySem.Spec PyProof.Rows L2 Own
/-- the numbers that are handed out -/
def Nt (n : Nat) (d : D) : Prop := ∃ (ns : List Int) (p : Nat) (rest : Int), d = .lst [.lst (ns.map D.int), .int (p : Nat), .int rest] ∧ p ≤ n ∧ 0 ≤ rest
theorem Nt.mono {n m : Nat} {d : D} (h : Nt n d) (l : n ≤ m) : Nt m d := by
  obtain ⟨ns, p, rest, rfl, hp, hr⟩ := h
  exact ⟨ns, p, rest, rfl, Nat.le_trans hp l, hr⟩
/-- a comprehension whose items take b numbers each -/
theorem OW_lcD {vs : List Nat} {g : GT} {te : ME} {Q : List D × DL.Env → Prop} {E : XE'} (ev : D → DL.Env) (P : D → Prop) (n0 b : Nat) {ds : List D} {d : D} (h : Nt n0 d)
    (hs : ∀ (i : Nat) (x d' : D), ds[i]? = some x → Nt (n0 + i * b) d' → OB (g x (ev d')) fun e1 => OW (fa te e1) (fun q => P q.1 ∧ ∃ d'', Nt (n0 + i * b + b) d'' ∧ wipeE vs q.2 = ev d'') NoE)
    (q : ∀ (r : List D) (d' : D), r.length = ds.length → (∀ x ∈ r, P x) → Nt (n0 + ds.length * b) d' → Q (r, ev d')) : OW (lcL vs none g mYes te ds (ev d)) Q E := by
  refine OW_lcI (fun i acc e => acc.length = i ∧ (∀ x ∈ acc, P x) ∧ ∃ d', Nt (n0 + i * b) d' ∧ e = ev d') ds 0 [] (ev d) ⟨rfl, (fun _ h => nomatch h), d, by simpa using h, rfl⟩ (fun i x acc e hx hj => ?_) fun acc' e hj r hr => ?_
  · obtain ⟨hl, hP, d', hd, rfl⟩ := hj
    rw [Nat.zero_add] at hd hl
    have h1 := hs i x d' hx hd
    cases hg : g x (ev d') with
    | none => rw [hg] at h1; exact h1
    | some e1 =>
      rw [hg] at h1
      rw [OB_some, OW_yes, IF_t]
      refine OW_imp h1 (fun q hq => ⟨trivial, ?_, fun y hy => ?_, ?_⟩) fun _ _ _ h => h
      · rw [List.length_append, hl, Nat.zero_add]
        rfl
      · rcases List.mem_append.mp hy with z | z
        · exact hP y z
        · rw [List.mem_singleton.mp z]
          exact hq.1
      · obtain ⟨d'', h2, h3⟩ := hq.2
        refine ⟨d'', ?_, h3⟩
        rw [Nat.zero_add, Nat.succ_mul, ← Nat.add_assoc]
        exact h2
  · obtain ⟨hl, hP, d', hd, rfl⟩ := hj
    rw [List.nil_append] at hr
    subst hr
    rw [Nat.zero_add] at hl hd
    exact q _ d' hl hP hd
theorem FW_det {o : OutF} {r : SV} {b : List D} (h : ∀ (Q : SV → List D → Prop) (E : Str → List (Str × D) → List D → Prop), Q r b → FW o Q E) (Q : SV → List D → Prop) (E : Str → List (Str × D) → List D → Prop) : FW o Q E = Q r b := by
  have := h (eqOf r b) (fun _ _ _ => False) ⟨rfl, rfl⟩
  rw [of_FW this fun _ _ _ z => z]
  rfl
theorem FW_detX {o : OutF} {c : Str} {fs : List (Str × D)} {b : List D} (h : ∀ (Q : SV → List D → Prop) (E : Str → List (Str × D) → List D → Prop), E c fs b → FW o Q E) (Q : SV → List D → Prop) (E : Str → List (Str × D) → List D → Prop) : FW o Q E = E c fs b := by
  have := h (fun _ _ => False) (fun c' fs' b' => c' = c ∧ fs' = fs ∧ b' = b) ⟨rfl, rfl, rfl⟩
  cases o with
  | ok r b' => exact this.elim
  | ex c' fs' b' => obtain ⟨rfl, rfl, rfl⟩ := this; rfl
  | no => exact this.elim
theorem OW_det {α : Type} {o : Out α} {a : α} (h : OW o (fun b => b = a) NoE) (Q : α → Prop) (E : XE') : OW o Q E = Q a := by
  cases o with
  | ok b => cases h; rfl
  | ex c fs e => exact h.elim
  | no => exact h.elim
theorem OW_lcPE {vs : List Nat} {src : Option (Nat × D)} {g : GT} {te : ME} (f : D → D) (e0 : DL.Env) (ds : List D) (hs : ∀ d ∈ ds, OB (g d e0) fun e1 => OW (fa te e1) (fun q => q.1 = f d ∧ srcOk src q.2 ∧ wipeE vs q.2 = e0) NoE) (Q : List D × DL.Env → Prop) (E : XE') : OW (lcL vs src g mYes te ds e0) Q E = Q (ds.map f, e0) :=
  OW_det (OW_lcP f e0 ds hs rfl) Q E
/-- a list or a tuple of these -/
def Sq (d : D) (ds : List D) : Prop := d = .lst ds ∨ d = .tup ds
theorem Sq.items {d : D} {ds : List D} (h : Sq d ds) : itemsD d = some ds := by rcases h with rfl | rfl <;> rfl
theorem Sq.seq {d : D} {ds : List D} (h : Sq d ds) : seqD d = some ds := by rcases h with rfl | rfl <;> rfl
theorem Sq.sq {d : D} {ds : List D} (h : Sq d ds) : ∃ b, sqOf d = some (b, ds) := by
  rcases h with rfl | rfl
  · exact ⟨_, rfl⟩
  · exact ⟨_, rfl⟩
theorem map_of {α : Type} {f : α → D} {P : α → Prop} : ∀ {r : List D}, (∀ x ∈ r, ∃ a, x = f a ∧ P a) → ∃ l : List α, r = l.map f ∧ ∀ a ∈ l, P a
  | [], _ => ⟨[], rfl, fun _ h => nomatch h⟩
  | x :: r, h => by
    obtain ⟨a, rfl, ha⟩ := h x List.mem_cons_self
    obtain ⟨l, rfl, hl⟩ := map_of (f := f) (P := P) (r := r) fun y hy => h y (List.mem_cons_of_mem _ hy)
    refine ⟨a :: l, rfl, fun b hb => ?_⟩
    rcases List.mem_cons.mp hb with rfl | hb
    · exact ha
    · exact hl b hb
theorem sum_bd {lo hi : Int} : ∀ {ns : List Int}, (∀ a ∈ ns, lo ≤ a ∧ a ≤ hi) → lo * ns.length ≤ ns.sum ∧ ns.sum ≤ hi * ns.length
  | [], _ => by simp
  | n :: ns, h => by
    have h1 := h n List.mem_cons_self
    have h2 := sum_bd (ns := ns) fun a ha => h a (List.mem_cons_of_mem _ ha)
    rw [List.sum_cons, List.length_cons, Int.natCast_add, Int.mul_add, Int.mul_add]
    simp only [Int.natCast_one, Int.mul_one]
    omega
/-- what repr writes of it is bounded -/
def Rp (n l : Nat) (d : D) : Prop := ∃ p, py d = some p ∧ Sh n l p
theorem sh_intN {i : Int} {k : Nat} (hk : 0 < k) (k5 : k ≤ 480) (h : i.natAbs < 10 ^ k) : Sh 0 (k + 1) (.int i) := by
  refine ⟨?_, by simp [PyData.hasDict], by simp [PyData.depth], ?_⟩
  · have h2 : (10 : Nat) ^ k ≤ (2 ^ 4) ^ k := Nat.pow_le_pow_left (by decide) k
    rw [← Nat.pow_mul] at h2
    have := PySem.Flt.log2_lt_of (k := 4 * k) (by omega) (Nat.lt_of_lt_of_le h h2)
    simp only [PyData.showable, decide_eq_true_eq]
    omega
  · simp only [PyData.shown]
    rw [show (Str.ofString (toString i)).length = (toString i).length from PySem.ofString_length _]
    exact int_text_length_le10 (a := i) (k := k) hk h
theorem Rp.int {i : Int} {k : Nat} (hk : 0 < k) (k5 : k ≤ 480) (h : i.natAbs < 10 ^ k) : Rp 0 (k + 1) (.int i) := ⟨_, rfl, sh_intN hk k5 h⟩
theorem Rp.mono {n l n' l' : Nat} {d : D} (h : Rp n l d) (a : n ≤ n') (b : l ≤ l') : Rp n' l' d := by
  obtain ⟨p, h1, h2⟩ := h
  exact ⟨p, h1, h2.mono a b⟩
theorem pys_of {n l : Nat} : ∀ {ds : List D}, (∀ d ∈ ds, Rp n l d) → ∃ ps, pys ds = some ps ∧ ps.length = ds.length ∧ ∀ p ∈ ps, Sh n l p
  | [], _ => ⟨[], rfl, rfl, fun _ h => nomatch h⟩
  | d :: ds, h => by
    obtain ⟨p, h1, h2⟩ := h d List.mem_cons_self
    obtain ⟨ps, h3, h4, h5⟩ := pys_of (ds := ds) fun e he => h e (List.mem_cons_of_mem _ he)
    refine ⟨p :: ps, by rw [pys, h1, h3], by rw [List.length_cons, List.length_cons, h4], fun q hq => ?_⟩
    rcases List.mem_cons.mp hq with rfl | hq
    · exact h2
    · exact h5 q hq
theorem Rp.lst {n l k : Nat} {ds : List D} (h : ∀ d ∈ ds, Rp n l d) (hk : ds.length ≤ k) : Rp (n + 1) (k * l + 2 * k + 3) (.lst ds) := by
  obtain ⟨ps, h1, h2, h3⟩ := pys_of h
  exact ⟨.list ps, by rw [py_l, h1]; rfl, Sh.lst h3 (by omega)⟩
theorem Rp.tup {n l k : Nat} {ds : List D} (h : ∀ d ∈ ds, Rp n l d) (hk : ds.length ≤ k) : Rp (n + 1) (k * l + 2 * k + 3) (.tup ds) := by
  obtain ⟨ps, h1, h2, h3⟩ := pys_of h
  exact ⟨.tuple ps, by rw [py_t, h1]; rfl, Sh.tup h3 (by omega)⟩
theorem Rp.repr {n l : Nat} {d : D} (h : Rp n l d) (hn : n ≤ 60) (hl : l ≤ 2 ^ 24) : ∃ s, reprD d = some (.v (.str s)) := by
  obtain ⟨p, h1, h2⟩ := h
  refine ⟨p.shown, ?_⟩
  unfold reprD
  rw [h1]
  exact if_pos ⟨h2.s, h2.h, Nat.le_trans h2.n hn, Nat.le_trans h2.l hl⟩
theorem eqB_data {a b : D} {p : PyData} (ha : py a = some p) (hb : py b = some p) (na : scD a = none) (hs : SeqAt.shaped p = true) : eqB a b = some true := by
  unfold eqB
  rw [na]
  dsimp only
  rw [ha, hb]
  show (if SeqAt.shaped p = true ∧ SeqAt.shaped p = true then some (PyData.eqv p p) else none) = _
  rw [if_pos ⟨hs, hs⟩, SeqAt.eqv_refl _ (SeqAt.canLay_of_shaped hs)]
/-- what a law's def is asked -/
def spLawD (K : PySem.W.Frag) : Sp := fun vs H Q _ => ∃ (a : Addr) (ns : List Int), vs = [.ref a] ∧ SqL K H a (ns.map V.int) ∧ (ns.length ≤ 63 ∧ ∀ H', Q (.bl true) H')
theorem drs_intsD {K : PySem.W.Frag} {cl : Str → Addr} {F : Hp} : ∀ ns : List Int, DRs K cl F (ns.map V.int) (ns.map D.int)
  | [] => .nil
  | _ :: ns => .cons .int (drs_intsD ns)
theorem spLaw_of {K : PySem.W.Frag} {cl : Str → Addr} {mf : MF} (h : ∀ ns : List Int, ns.length ≤ 63 → FW (mf [.d (.lsf (ns.map D.int))]) (fun r _ => r = .d (.bl true)) (fun _ _ _ => False)) (vs : List V) (H : Hp) (Q : VK) (E : XK) (q : spLawD K vs H Q E) : spF K cl [] 1 mf vs H Q E := by
  obtain ⟨a, ns, rfl, hS, hl, q⟩ := q
  refine ⟨rfl, H, [.d (.lsf (ns.map D.int))], .refl _, ⟨rfl, fun k s hk => ?_, (fun k hk => nomatch hk), (fun k l a hk => nomatch hk)⟩, ?_⟩
  · cases k with
    | zero =>
      simp at hk
      subst hk
      exact ⟨_, rfl, .lsf hS (drs_intsD ns)⟩
    | succ k => simp at hk
  · have := h ns hl
    cases hm : mf [.d (.lsf (ns.map D.int))] with
    | ok r b =>
      rw [hm] at this
      cases (show r = .d (.bl true) from this)
      intro v F' H' _ _ _ ro
      have ro : DR K cl F' v (.bl true) := ro
      cases ro
      exact q H'
    | ex c fs b => rw [hm] at this; exact this.elim
    | no => rw [hm] at this; exact this.elim
theorem fnG_imp {P : Program} {w : World} {K : PySem.W.Frag} {mg : Str → Option Value} {base : Heap} {CX : CXT} {k : Nat} {f : Addr} {fd : FuncData} {ps : List Str} {sp sp' : Sp} (F : FnG P w K mg base CX k f fd ps sp) (i : ∀ vs H Q E, sp' vs H Q E → sp vs H Q E) : FnG P w K mg base CX k f fd ps sp' :=
  ⟨fun vs H Q E h => F.len vs H Q E (i _ _ _ _ h), fun A outer s H args us vs Q E r g e b v h => F.run A outer s H args us vs Q E r g e b v (i _ _ _ _ h)⟩
theorem vals_swap {vs : List V} {us : List Value} (h : Vals vs us) : Vals (gSwap vs) (gSwap us) := by
  cases h with
  | nil => exact .nil
  | cons a r =>
    cases r with
    | nil => exact .cons a .nil
    | cons b r =>
      cases r with
      | nil => exact .cons b (.cons a .nil)
      | cons c r => exact .cons a (.cons b (.cons c r))
theorem vals_id {vs : List V} {us : List Value} (h : Vals vs us) : Vals (gId vs) (gId us) := h
end DL
set_option Elab.async false
set_option linter.all false
set_option maxRecDepth 100000
set_option maxHeartbeats 4000000
namespace K61
open PySem PySem.Spec PyProof.Rows L2 Own DL
theorem count_ok {n : Nat} {d : D} {m : Int} {Q : SV → List D → Prop} {E : Str → List (Str × D) → List D → Prop} (h : Nt n d) (m0 : 0 < m) (m1 : m < 2 ^ 64) (hn : n ≤ 2 ^ 20) (q : ∀ (r : Int) (d' : D), 0 ≤ r → r < m → Nt (n + 1) d' → Q (.d (.int r)) [d']) : FW (mf__law_scatter [.b d, .d (.int m)]) Q E := by
  obtain ⟨ns, p, rest, rfl, hp, hr⟩ := h
  unfold mf__law_scatter
  rw [FW_run]
  unfold m__law_scatter
  simp only [show N__law_scatter.length = 6 from rfl]
  simp only [DL.SW_nx, DL.SW_rt, DL.SW_pass, DL.SW_brk, DL.SW_cnt, DL.SW_seq, DL.SW_drop, DL.SW_set, DL.SW_ret, DL.SW_ifS, DL.SW_asg, DL.SW_par2, DL.SW_par3, DL.SW_aug, DL.SW_raise, DL.SW_setIx, DL.SW_for, DL.SW_for0, DL.SW_forS, DL.SW_while, DL.OW_ok, DL.OW_no, DL.OW_var, DL.OW_c, DL.OW_fz, DL.OW_fa, DL.OW_faO_v, DL.OW_faO_f, DL.OW_faO_s, DL.OW_bin, DL.OW_un, DL.OW_tr, DL.OW_te, DL.OW_notT, DL.OW_andT, DL.OW_orT, DL.OW_and, DL.OW_or, DL.OW_not, DL.OW_if, DL.OW_nil, DL.OW_cons, DL.OW_lst, DL.OW_tup, DL.OW_chain, DL.OW_oNo, DL.OW_oSo, DL.OW_sl, DL.OW_new, DL.OW_newO_v, DL.OW_newO_f, DL.OW_newO_s, DL.OW_retO_v, DL.OW_retO_f, DL.OW_retO_s, DL.OW_nNil, DL.OW_nCons, DL.OW_call, DL.OW_iNil, DL.OW_iCons, DL.OW_iLnd, DL.OW_gI, DL.OW_itF, DL.OW_it, DL.OW_rng1, DL.OW_rng2, DL.OW_zipK, DL.OW_enum, DL.OW_enumV, DL.OW_lc, DL.OW_yes, DL.SL_d, DL.SL_o, DL.SL_b, DL.SF_d, DL.SF_o, DL.SRt_d, DL.SRt_o, DL.TB_v, DL.TI_i, DL.L2_2, DL.L3_3, DL.SI_i, DL.SX_o, DL.SX_b, DL.IF_t, DL.IF_f, reduceCtorEq, DL.isi_int_int, DL.isi_int_bl, DL.isi_int_str, DL.isi_int_lst, DL.isi_int_tup, DL.isi_int_non, DL.isi_bool_int, DL.isi_bool_bl, DL.isi_bool_str, DL.isi_bool_lst, DL.isi_bool_tup, DL.isi_bool_non, DL.isi_str_int, DL.isi_str_bl, DL.isi_str_str, DL.isi_str_lst, DL.isi_str_tup, DL.isi_str_non, DL.isi_list_int, DL.isi_list_bl, DL.isi_list_str, DL.isi_list_lst, DL.isi_list_tup, DL.isi_list_non, DL.isi_tuple_int, DL.isi_tuple_bl, DL.isi_tuple_str, DL.isi_tuple_lst, DL.isi_tuple_tup, DL.isi_tuple_non, DL.isi2_int, DL.isi2_bl, DL.isi2_str, DL.isi2_lst, DL.isi2_tup, DL.isi2_non, DL.OB_tuple_l, DL.OB_tuple_t, DL.OB_list_l, DL.OB_list_t, DL.OB_sum, DL.OB_all, DL.OB_any, DL.bls_nil, DL.bls_cons, DL.blsOf_map, DL.ints_nil, DL.ints_cons, DL.intsOf_map, DL.OB_map, DL.OW_lc0, DL.OW_lcY, id, List.all_map, DL.tru_bl, DL.tru_int, DL.tru_lst, DL.tru_tup, DL.tru_non, DL.IF_n, DL.IF_d, DL.OB_some, DL.OB_none, DL.OB_ite, DL.fzT_v, DL.fzT_f, DL.fzT_s, DL.dr_v, DL.dr_f, DL.dr_s, DL.slot_z, DL.slot_s, DL.Sc_v, DL.Sc_s, DL.argsSV_nil, DL.argsSV_d, DL.argsSV_i', DL.SMt_o, DL.SMt_b, DL.pb_nil, DL.pb_nil2, DL.pb_cons, DL.SPt_o, DL.SPt_b, DL.retT_d, DL.retT_o, DL.lS_nil, DL.lS_d, DL.lS_i, DL.lP_nil, DL.lP_d, DL.lP_i, DL.SVl_d, DL.SVl_o, DL.SVl_b, DL.backOf_nil, DL.backOf_cons, DL.sqOf_l, DL.sqOf_t, DL.seqD_l, DL.seqD_t, DL.items_l, DL.items_t, DL.srcOk_n, DL.OB_gN, DL.OB_gK, DL.OB_gCons, DL.OB_gNil, DL.OB_add, DL.OB_sub, DL.OB_mul, DL.OB_mulL, DL.OB_fdiv, DL.OB_mod, DL.OB_pow, DL.OB_shl, DL.OB_bits, DL.OB_sl_l, DL.OB_sl_f, DL.OB_neg, DL.OB_lt, DL.OB_le, DL.OB_gt, DL.OB_ge, DL.OB_eq, DL.OB_ne, DL.eqB_int, DL.eqB_str, DL.OB_is, DL.OB_isn, DL.OB_len_l, DL.OB_len_t, DL.OB_abs, DL.OB_int, DL.OB_intb, DL.OB_ix_l, DL.OB_ix_t, DL.OB_gcd, DL.OB_lcm, DL.OB_max2, DL.OB_min2, DL.isNon, false_implies, implies_true, DL.rng_len, DL.enum_len, DL.zip_len, Int.toNat_natCast, DL.atI0, DL.atI1, DL.nd0, DL.nd1, DL.atI2, DL.ixN_b, DL.ixN_1, DL.ixN_2, DL.wipeE, DL.restE, DL.ownFree, Option.map_some, Option.isSome_some, DL.put_o, DL.put_b, DL.val_o, DL.val_b, DL.val_d, DL.ends, List.map_cons, List.map_nil, List.cons_append, List.nil_append, List.length_cons, List.length_nil, List.set_cons_zero, List.set_cons_succ, List.set_nil, List.replicate_zero, List.replicate_succ, List.all_cons, List.all_nil, Bool.and_true, Bool.and_self, true_and, and_true, and_self, Nat.reduceAdd, Nat.reduceLT, Nat.reduceLeDiff, Nat.reduceSub, Nat.zero_le, Nat.zero_add]
  have hp2 : p ≤ 2 ^ 20 := by omega
  have ep : ((p : Nat) : Int) + 1 = ((p + 1 : Nat) : Int) := by omega
  have e18 : CPow 10 18 := pw_ok (by decide) (by decide) (by decide) (by decide)
  refine ⟨fun h => ⟨div_s m0 m1, m0, q _ _ (Int.emod_nonneg _ (by omega)) (Int.emod_lt_of_pos _ m0) ⟨ns, p, _, rfl, by omega, Int.ediv_nonneg hr (by omega)⟩⟩, fun h => ⟨mul_l (by decide) (by decide), ?_⟩⟩
  rw [eqB_nil, OB_some, IF_d]
  have e10 : ∀ c : Int, (10 : Int) ^ Int.toNat 18 ≤ (if c < 0 then -c else c) → 0 ≤ 2 * ((if c < 0 then -c else c) - 10 ^ Int.toNat 18) + if decide (c < 0) = true then 1 else 0 := by
    intro c hc
    split <;> omega
  have tail : ∀ (c : Int) {P : Prop}, P → P := fun _ _ h => h
  constructor
  · intro h0
    generalize (304849 * (p : Int) + 8233) = c
    refine ⟨fun h1 => ⟨e18, fun h2 => ⟨e18, mul_l (by decide) (by decide), div_s m0 m1, m0, q _ _ (Int.emod_nonneg _ (by omega)) (Int.emod_lt_of_pos _ m0) ⟨ns, p + 1, _, by rw [ep], by omega, Int.ediv_nonneg (e10 c h2) (by omega)⟩⟩, fun h2 => ?_⟩, fun h1 => ?_⟩
    all_goals
      refine ⟨by decide, mul_l (by decide) (by decide), pw_ok (by decide) (by decide) (by omega) (by omega), by decide, mul_l (by decide) (by decide), mul_l (by omega) (by omega), mul_l (by decide) (by decide), mul_r (by omega) (by omega), cube_ok (by omega) (by omega) hp2 (by decide) (by decide) (by decide) (by decide) (by decide) (by decide), by decide, div_s (by decide) (by decide), m0, q _ _ (Int.emod_nonneg _ (by omega)) (Int.emod_lt_of_pos _ m0) ⟨ns, p + 1, rest, by rw [ep], by omega, hr⟩⟩
  · intro h0
    have hl : 0 < ns.length := List.length_pos_iff.mpr h0
    rw [List.length_map]
    refine ⟨by omega, ?_⟩
    obtain ⟨c, hc⟩ := atI_ints (ns := ns) (i := (p : Int) % (ns.length : Nat)) (Int.emod_nonneg _ (by omega)) (Int.emod_lt_of_pos _ (by omega))
    rw [hc]
    simp only [DL.SW_nx, DL.SW_rt, DL.SW_pass, DL.SW_brk, DL.SW_cnt, DL.SW_seq, DL.SW_drop, DL.SW_set, DL.SW_ret, DL.SW_ifS, DL.SW_asg, DL.SW_par2, DL.SW_par3, DL.SW_aug, DL.SW_raise, DL.SW_setIx, DL.SW_for, DL.SW_for0, DL.SW_forS, DL.SW_while, DL.OW_ok, DL.OW_no, DL.OW_var, DL.OW_c, DL.OW_fz, DL.OW_fa, DL.OW_faO_v, DL.OW_faO_f, DL.OW_faO_s, DL.OW_bin, DL.OW_un, DL.OW_tr, DL.OW_te, DL.OW_notT, DL.OW_andT, DL.OW_orT, DL.OW_and, DL.OW_or, DL.OW_not, DL.OW_if, DL.OW_nil, DL.OW_cons, DL.OW_lst, DL.OW_tup, DL.OW_chain, DL.OW_oNo, DL.OW_oSo, DL.OW_sl, DL.OW_new, DL.OW_newO_v, DL.OW_newO_f, DL.OW_newO_s, DL.OW_retO_v, DL.OW_retO_f, DL.OW_retO_s, DL.OW_nNil, DL.OW_nCons, DL.OW_call, DL.OW_iNil, DL.OW_iCons, DL.OW_iLnd, DL.OW_gI, DL.OW_itF, DL.OW_it, DL.OW_rng1, DL.OW_rng2, DL.OW_zipK, DL.OW_enum, DL.OW_enumV, DL.OW_lc, DL.OW_yes, DL.SL_d, DL.SL_o, DL.SL_b, DL.SF_d, DL.SF_o, DL.SRt_d, DL.SRt_o, DL.TB_v, DL.TI_i, DL.L2_2, DL.L3_3, DL.SI_i, DL.SX_o, DL.SX_b, DL.IF_t, DL.IF_f, reduceCtorEq, DL.isi_int_int, DL.isi_int_bl, DL.isi_int_str, DL.isi_int_lst, DL.isi_int_tup, DL.isi_int_non, DL.isi_bool_int, DL.isi_bool_bl, DL.isi_bool_str, DL.isi_bool_lst, DL.isi_bool_tup, DL.isi_bool_non, DL.isi_str_int, DL.isi_str_bl, DL.isi_str_str, DL.isi_str_lst, DL.isi_str_tup, DL.isi_str_non, DL.isi_list_int, DL.isi_list_bl, DL.isi_list_str, DL.isi_list_lst, DL.isi_list_tup, DL.isi_list_non, DL.isi_tuple_int, DL.isi_tuple_bl, DL.isi_tuple_str, DL.isi_tuple_lst, DL.isi_tuple_tup, DL.isi_tuple_non, DL.isi2_int, DL.isi2_bl, DL.isi2_str, DL.isi2_lst, DL.isi2_tup, DL.isi2_non, DL.OB_tuple_l, DL.OB_tuple_t, DL.OB_list_l, DL.OB_list_t, DL.OB_sum, DL.OB_all, DL.OB_any, DL.bls_nil, DL.bls_cons, DL.blsOf_map, DL.ints_nil, DL.ints_cons, DL.intsOf_map, DL.OB_map, DL.OW_lc0, DL.OW_lcY, id, List.all_map, DL.tru_bl, DL.tru_int, DL.tru_lst, DL.tru_tup, DL.tru_non, DL.IF_n, DL.IF_d, DL.OB_some, DL.OB_none, DL.OB_ite, DL.fzT_v, DL.fzT_f, DL.fzT_s, DL.dr_v, DL.dr_f, DL.dr_s, DL.slot_z, DL.slot_s, DL.Sc_v, DL.Sc_s, DL.argsSV_nil, DL.argsSV_d, DL.argsSV_i', DL.SMt_o, DL.SMt_b, DL.pb_nil, DL.pb_nil2, DL.pb_cons, DL.SPt_o, DL.SPt_b, DL.retT_d, DL.retT_o, DL.lS_nil, DL.lS_d, DL.lS_i, DL.lP_nil, DL.lP_d, DL.lP_i, DL.SVl_d, DL.SVl_o, DL.SVl_b, DL.backOf_nil, DL.backOf_cons, DL.sqOf_l, DL.sqOf_t, DL.seqD_l, DL.seqD_t, DL.items_l, DL.items_t, DL.srcOk_n, DL.OB_gN, DL.OB_gK, DL.OB_gCons, DL.OB_gNil, DL.OB_add, DL.OB_sub, DL.OB_mul, DL.OB_mulL, DL.OB_fdiv, DL.OB_mod, DL.OB_pow, DL.OB_shl, DL.OB_bits, DL.OB_sl_l, DL.OB_sl_f, DL.OB_neg, DL.OB_lt, DL.OB_le, DL.OB_gt, DL.OB_ge, DL.OB_eq, DL.OB_ne, DL.eqB_int, DL.eqB_str, DL.OB_is, DL.OB_isn, DL.OB_len_l, DL.OB_len_t, DL.OB_abs, DL.OB_int, DL.OB_intb, DL.OB_ix_l, DL.OB_ix_t, DL.OB_gcd, DL.OB_lcm, DL.OB_max2, DL.OB_min2, DL.isNon, false_implies, implies_true, DL.rng_len, DL.enum_len, DL.zip_len, Int.toNat_natCast, DL.atI0, DL.atI1, DL.nd0, DL.nd1, DL.atI2, DL.ixN_b, DL.ixN_1, DL.ixN_2, DL.wipeE, DL.restE, DL.ownFree, Option.map_some, Option.isSome_some, DL.put_o, DL.put_b, DL.val_o, DL.val_b, DL.val_d, DL.ends, List.map_cons, List.map_nil, List.cons_append, List.nil_append, List.length_cons, List.length_nil, List.set_cons_zero, List.set_cons_succ, List.set_nil, List.replicate_zero, List.replicate_succ, List.all_cons, List.all_nil, Bool.and_true, Bool.and_self, true_and, and_true, and_self, Nat.reduceAdd, Nat.reduceLT, Nat.reduceLeDiff, Nat.reduceSub, Nat.zero_le, Nat.zero_add]
    refine ⟨fun h1 => ⟨e18, fun h2 => ⟨e18, mul_l (by decide) (by decide), div_s m0 m1, m0, q _ _ (Int.emod_nonneg _ (by omega)) (Int.emod_lt_of_pos _ m0) ⟨ns, p + 1, _, by rw [ep], by omega, Int.ediv_nonneg (e10 c h2) (by omega)⟩⟩, fun h2 => ?_⟩, fun h1 => ?_⟩
    all_goals
      refine ⟨by decide, mul_l (by decide) (by decide), pw_ok (by decide) (by decide) (by omega) (by omega), by decide, mul_l (by decide) (by decide), mul_l (by omega) (by omega), mul_l (by decide) (by decide), mul_r (by omega) (by omega), cube_ok (by omega) (by omega) hp2 (by decide) (by decide) (by decide) (by decide) (by decide) (by decide), by decide, div_s (by decide) (by decide), m0, q _ _ (Int.emod_nonneg _ (by omega)) (Int.emod_lt_of_pos _ m0) ⟨ns, p + 1, rest, by rw [ep], by omega, hr⟩⟩

theorem pick_ok {n : Nat} {d : D} {xs : List D} {Q : SV → List D → Prop} {E : Str → List (Str × D) → List D → Prop} (h : Nt n d) (x0 : 0 < xs.length) (x1 : xs.length < 2 ^ 63) (hn : n ≤ 2 ^ 20) (q : ∀ (x : D) (d' : D), x ∈ xs → Nt (n + 1) d' → Q (.d x) [d']) : FW (mf__law_grain [.b d, .d (.lst xs)]) Q E := by
  unfold mf__law_grain
  rw [FW_run]
  unfold m__law_grain
  simp only [show N__law_grain.length = 2 from rfl]
  simp only [DL.SW_nx, DL.SW_rt, DL.SW_pass, DL.SW_brk, DL.SW_cnt, DL.SW_seq, DL.SW_drop, DL.SW_set, DL.SW_ret, DL.SW_ifS, DL.SW_asg, DL.SW_par2, DL.SW_par3, DL.SW_aug, DL.SW_raise, DL.SW_setIx, DL.SW_for, DL.SW_for0, DL.SW_forS, DL.SW_while, DL.OW_ok, DL.OW_no, DL.OW_var, DL.OW_c, DL.OW_fz, DL.OW_fa, DL.OW_faO_v, DL.OW_faO_f, DL.OW_faO_s, DL.OW_bin, DL.OW_un, DL.OW_tr, DL.OW_te, DL.OW_notT, DL.OW_andT, DL.OW_orT, DL.OW_and, DL.OW_or, DL.OW_not, DL.OW_if, DL.OW_nil, DL.OW_cons, DL.OW_lst, DL.OW_tup, DL.OW_chain, DL.OW_oNo, DL.OW_oSo, DL.OW_sl, DL.OW_new, DL.OW_newO_v, DL.OW_newO_f, DL.OW_newO_s, DL.OW_retO_v, DL.OW_retO_f, DL.OW_retO_s, DL.OW_nNil, DL.OW_nCons, DL.OW_call, DL.OW_iNil, DL.OW_iCons, DL.OW_iLnd, DL.OW_gI, DL.OW_itF, DL.OW_it, DL.OW_rng1, DL.OW_rng2, DL.OW_zipK, DL.OW_enum, DL.OW_enumV, DL.OW_lc, DL.OW_yes, DL.SL_d, DL.SL_o, DL.SL_b, DL.SF_d, DL.SF_o, DL.SRt_d, DL.SRt_o, DL.TB_v, DL.TI_i, DL.L2_2, DL.L3_3, DL.SI_i, DL.SX_o, DL.SX_b, DL.IF_t, DL.IF_f, reduceCtorEq, DL.isi_int_int, DL.isi_int_bl, DL.isi_int_str, DL.isi_int_lst, DL.isi_int_tup, DL.isi_int_non, DL.isi_bool_int, DL.isi_bool_bl, DL.isi_bool_str, DL.isi_bool_lst, DL.isi_bool_tup, DL.isi_bool_non, DL.isi_str_int, DL.isi_str_bl, DL.isi_str_str, DL.isi_str_lst, DL.isi_str_tup, DL.isi_str_non, DL.isi_list_int, DL.isi_list_bl, DL.isi_list_str, DL.isi_list_lst, DL.isi_list_tup, DL.isi_list_non, DL.isi_tuple_int, DL.isi_tuple_bl, DL.isi_tuple_str, DL.isi_tuple_lst, DL.isi_tuple_tup, DL.isi_tuple_non, DL.isi2_int, DL.isi2_bl, DL.isi2_str, DL.isi2_lst, DL.isi2_tup, DL.isi2_non, DL.OB_tuple_l, DL.OB_tuple_t, DL.OB_list_l, DL.OB_list_t, DL.OB_sum, DL.OB_all, DL.OB_any, DL.bls_nil, DL.bls_cons, DL.blsOf_map, DL.ints_nil, DL.ints_cons, DL.intsOf_map, DL.OB_map, DL.OW_lc0, DL.OW_lcY, id, List.all_map, DL.tru_bl, DL.tru_int, DL.tru_lst, DL.tru_tup, DL.tru_non, DL.IF_n, DL.IF_d, DL.OB_some, DL.OB_none, DL.OB_ite, DL.fzT_v, DL.fzT_f, DL.fzT_s, DL.dr_v, DL.dr_f, DL.dr_s, DL.slot_z, DL.slot_s, DL.Sc_v, DL.Sc_s, DL.argsSV_nil, DL.argsSV_d, DL.argsSV_i', DL.SMt_o, DL.SMt_b, DL.pb_nil, DL.pb_nil2, DL.pb_cons, DL.SPt_o, DL.SPt_b, DL.retT_d, DL.retT_o, DL.lS_nil, DL.lS_d, DL.lS_i, DL.lP_nil, DL.lP_d, DL.lP_i, DL.SVl_d, DL.SVl_o, DL.SVl_b, DL.backOf_nil, DL.backOf_cons, DL.sqOf_l, DL.sqOf_t, DL.seqD_l, DL.seqD_t, DL.items_l, DL.items_t, DL.srcOk_n, DL.OB_gN, DL.OB_gK, DL.OB_gCons, DL.OB_gNil, DL.OB_add, DL.OB_sub, DL.OB_mul, DL.OB_mulL, DL.OB_fdiv, DL.OB_mod, DL.OB_pow, DL.OB_shl, DL.OB_bits, DL.OB_sl_l, DL.OB_sl_f, DL.OB_neg, DL.OB_lt, DL.OB_le, DL.OB_gt, DL.OB_ge, DL.OB_eq, DL.OB_ne, DL.eqB_int, DL.eqB_str, DL.OB_is, DL.OB_isn, DL.OB_len_l, DL.OB_len_t, DL.OB_abs, DL.OB_int, DL.OB_intb, DL.OB_ix_l, DL.OB_ix_t, DL.OB_gcd, DL.OB_lcm, DL.OB_max2, DL.OB_min2, DL.isNon, false_implies, implies_true, DL.rng_len, DL.enum_len, DL.zip_len, Int.toNat_natCast, DL.atI0, DL.atI1, DL.nd0, DL.nd1, DL.atI2, DL.ixN_b, DL.ixN_1, DL.ixN_2, DL.wipeE, DL.restE, DL.ownFree, Option.map_some, Option.isSome_some, DL.put_o, DL.put_b, DL.val_o, DL.val_b, DL.val_d, DL.ends, List.map_cons, List.map_nil, List.cons_append, List.nil_append, List.length_cons, List.length_nil, List.set_cons_zero, List.set_cons_succ, List.set_nil, List.replicate_zero, List.replicate_succ, List.all_cons, List.all_nil, Bool.and_true, Bool.and_self, true_and, and_true, and_self, Nat.reduceAdd, Nat.reduceLT, Nat.reduceLeDiff, Nat.reduceSub, Nat.zero_le, Nat.zero_add]
  refine count_ok h (by omega) (by omega) hn fun r d' r0 r1 h' => ?_
  simp only [DL.SW_nx, DL.SW_rt, DL.SW_pass, DL.SW_brk, DL.SW_cnt, DL.SW_seq, DL.SW_drop, DL.SW_set, DL.SW_ret, DL.SW_ifS, DL.SW_asg, DL.SW_par2, DL.SW_par3, DL.SW_aug, DL.SW_raise, DL.SW_setIx, DL.SW_for, DL.SW_for0, DL.SW_forS, DL.SW_while, DL.OW_ok, DL.OW_no, DL.OW_var, DL.OW_c, DL.OW_fz, DL.OW_fa, DL.OW_faO_v, DL.OW_faO_f, DL.OW_faO_s, DL.OW_bin, DL.OW_un, DL.OW_tr, DL.OW_te, DL.OW_notT, DL.OW_andT, DL.OW_orT, DL.OW_and, DL.OW_or, DL.OW_not, DL.OW_if, DL.OW_nil, DL.OW_cons, DL.OW_lst, DL.OW_tup, DL.OW_chain, DL.OW_oNo, DL.OW_oSo, DL.OW_sl, DL.OW_new, DL.OW_newO_v, DL.OW_newO_f, DL.OW_newO_s, DL.OW_retO_v, DL.OW_retO_f, DL.OW_retO_s, DL.OW_nNil, DL.OW_nCons, DL.OW_call, DL.OW_iNil, DL.OW_iCons, DL.OW_iLnd, DL.OW_gI, DL.OW_itF, DL.OW_it, DL.OW_rng1, DL.OW_rng2, DL.OW_zipK, DL.OW_enum, DL.OW_enumV, DL.OW_lc, DL.OW_yes, DL.SL_d, DL.SL_o, DL.SL_b, DL.SF_d, DL.SF_o, DL.SRt_d, DL.SRt_o, DL.TB_v, DL.TI_i, DL.L2_2, DL.L3_3, DL.SI_i, DL.SX_o, DL.SX_b, DL.IF_t, DL.IF_f, reduceCtorEq, DL.isi_int_int, DL.isi_int_bl, DL.isi_int_str, DL.isi_int_lst, DL.isi_int_tup, DL.isi_int_non, DL.isi_bool_int, DL.isi_bool_bl, DL.isi_bool_str, DL.isi_bool_lst, DL.isi_bool_tup, DL.isi_bool_non, DL.isi_str_int, DL.isi_str_bl, DL.isi_str_str, DL.isi_str_lst, DL.isi_str_tup, DL.isi_str_non, DL.isi_list_int, DL.isi_list_bl, DL.isi_list_str, DL.isi_list_lst, DL.isi_list_tup, DL.isi_list_non, DL.isi_tuple_int, DL.isi_tuple_bl, DL.isi_tuple_str, DL.isi_tuple_lst, DL.isi_tuple_tup, DL.isi_tuple_non, DL.isi2_int, DL.isi2_bl, DL.isi2_str, DL.isi2_lst, DL.isi2_tup, DL.isi2_non, DL.OB_tuple_l, DL.OB_tuple_t, DL.OB_list_l, DL.OB_list_t, DL.OB_sum, DL.OB_all, DL.OB_any, DL.bls_nil, DL.bls_cons, DL.blsOf_map, DL.ints_nil, DL.ints_cons, DL.intsOf_map, DL.OB_map, DL.OW_lc0, DL.OW_lcY, id, List.all_map, DL.tru_bl, DL.tru_int, DL.tru_lst, DL.tru_tup, DL.tru_non, DL.IF_n, DL.IF_d, DL.OB_some, DL.OB_none, DL.OB_ite, DL.fzT_v, DL.fzT_f, DL.fzT_s, DL.dr_v, DL.dr_f, DL.dr_s, DL.slot_z, DL.slot_s, DL.Sc_v, DL.Sc_s, DL.argsSV_nil, DL.argsSV_d, DL.argsSV_i', DL.SMt_o, DL.SMt_b, DL.pb_nil, DL.pb_nil2, DL.pb_cons, DL.SPt_o, DL.SPt_b, DL.retT_d, DL.retT_o, DL.lS_nil, DL.lS_d, DL.lS_i, DL.lP_nil, DL.lP_d, DL.lP_i, DL.SVl_d, DL.SVl_o, DL.SVl_b, DL.backOf_nil, DL.backOf_cons, DL.sqOf_l, DL.sqOf_t, DL.seqD_l, DL.seqD_t, DL.items_l, DL.items_t, DL.srcOk_n, DL.OB_gN, DL.OB_gK, DL.OB_gCons, DL.OB_gNil, DL.OB_add, DL.OB_sub, DL.OB_mul, DL.OB_mulL, DL.OB_fdiv, DL.OB_mod, DL.OB_pow, DL.OB_shl, DL.OB_bits, DL.OB_sl_l, DL.OB_sl_f, DL.OB_neg, DL.OB_lt, DL.OB_le, DL.OB_gt, DL.OB_ge, DL.OB_eq, DL.OB_ne, DL.eqB_int, DL.eqB_str, DL.OB_is, DL.OB_isn, DL.OB_len_l, DL.OB_len_t, DL.OB_abs, DL.OB_int, DL.OB_intb, DL.OB_ix_l, DL.OB_ix_t, DL.OB_gcd, DL.OB_lcm, DL.OB_max2, DL.OB_min2, DL.isNon, false_implies, implies_true, DL.rng_len, DL.enum_len, DL.zip_len, Int.toNat_natCast, DL.atI0, DL.atI1, DL.nd0, DL.nd1, DL.atI2, DL.ixN_b, DL.ixN_1, DL.ixN_2, DL.wipeE, DL.restE, DL.ownFree, Option.map_some, Option.isSome_some, DL.put_o, DL.put_b, DL.val_o, DL.val_b, DL.val_d, DL.ends, List.map_cons, List.map_nil, List.cons_append, List.nil_append, List.length_cons, List.length_nil, List.set_cons_zero, List.set_cons_succ, List.set_nil, List.replicate_zero, List.replicate_succ, List.all_cons, List.all_nil, Bool.and_true, Bool.and_self, true_and, and_true, and_self, Nat.reduceAdd, Nat.reduceLT, Nat.reduceLeDiff, Nat.reduceSub, Nat.zero_le, Nat.zero_add]
  obtain ⟨k, rfl⟩ := Int.eq_ofNat_of_zero_le r0
  rw [DL.atI_nat, List.getElem?_eq_getElem (by omega)]
  simp only [DL.SW_nx, DL.SW_rt, DL.SW_pass, DL.SW_brk, DL.SW_cnt, DL.SW_seq, DL.SW_drop, DL.SW_set, DL.SW_ret, DL.SW_ifS, DL.SW_asg, DL.SW_par2, DL.SW_par3, DL.SW_aug, DL.SW_raise, DL.SW_setIx, DL.SW_for, DL.SW_for0, DL.SW_forS, DL.SW_while, DL.OW_ok, DL.OW_no, DL.OW_var, DL.OW_c, DL.OW_fz, DL.OW_fa, DL.OW_faO_v, DL.OW_faO_f, DL.OW_faO_s, DL.OW_bin, DL.OW_un, DL.OW_tr, DL.OW_te, DL.OW_notT, DL.OW_andT, DL.OW_orT, DL.OW_and, DL.OW_or, DL.OW_not, DL.OW_if, DL.OW_nil, DL.OW_cons, DL.OW_lst, DL.OW_tup, DL.OW_chain, DL.OW_oNo, DL.OW_oSo, DL.OW_sl, DL.OW_new, DL.OW_newO_v, DL.OW_newO_f, DL.OW_newO_s, DL.OW_retO_v, DL.OW_retO_f, DL.OW_retO_s, DL.OW_nNil, DL.OW_nCons, DL.OW_call, DL.OW_iNil, DL.OW_iCons, DL.OW_iLnd, DL.OW_gI, DL.OW_itF, DL.OW_it, DL.OW_rng1, DL.OW_rng2, DL.OW_zipK, DL.OW_enum, DL.OW_enumV, DL.OW_lc, DL.OW_yes, DL.SL_d, DL.SL_o, DL.SL_b, DL.SF_d, DL.SF_o, DL.SRt_d, DL.SRt_o, DL.TB_v, DL.TI_i, DL.L2_2, DL.L3_3, DL.SI_i, DL.SX_o, DL.SX_b, DL.IF_t, DL.IF_f, reduceCtorEq, DL.isi_int_int, DL.isi_int_bl, DL.isi_int_str, DL.isi_int_lst, DL.isi_int_tup, DL.isi_int_non, DL.isi_bool_int, DL.isi_bool_bl, DL.isi_bool_str, DL.isi_bool_lst, DL.isi_bool_tup, DL.isi_bool_non, DL.isi_str_int, DL.isi_str_bl, DL.isi_str_str, DL.isi_str_lst, DL.isi_str_tup, DL.isi_str_non, DL.isi_list_int, DL.isi_list_bl, DL.isi_list_str, DL.isi_list_lst, DL.isi_list_tup, DL.isi_list_non, DL.isi_tuple_int, DL.isi_tuple_bl, DL.isi_tuple_str, DL.isi_tuple_lst, DL.isi_tuple_tup, DL.isi_tuple_non, DL.isi2_int, DL.isi2_bl, DL.isi2_str, DL.isi2_lst, DL.isi2_tup, DL.isi2_non, DL.OB_tuple_l, DL.OB_tuple_t, DL.OB_list_l, DL.OB_list_t, DL.OB_sum, DL.OB_all, DL.OB_any, DL.bls_nil, DL.bls_cons, DL.blsOf_map, DL.ints_nil, DL.ints_cons, DL.intsOf_map, DL.OB_map, DL.OW_lc0, DL.OW_lcY, id, List.all_map, DL.tru_bl, DL.tru_int, DL.tru_lst, DL.tru_tup, DL.tru_non, DL.IF_n, DL.IF_d, DL.OB_some, DL.OB_none, DL.OB_ite, DL.fzT_v, DL.fzT_f, DL.fzT_s, DL.dr_v, DL.dr_f, DL.dr_s, DL.slot_z, DL.slot_s, DL.Sc_v, DL.Sc_s, DL.argsSV_nil, DL.argsSV_d, DL.argsSV_i', DL.SMt_o, DL.SMt_b, DL.pb_nil, DL.pb_nil2, DL.pb_cons, DL.SPt_o, DL.SPt_b, DL.retT_d, DL.retT_o, DL.lS_nil, DL.lS_d, DL.lS_i, DL.lP_nil, DL.lP_d, DL.lP_i, DL.SVl_d, DL.SVl_o, DL.SVl_b, DL.backOf_nil, DL.backOf_cons, DL.sqOf_l, DL.sqOf_t, DL.seqD_l, DL.seqD_t, DL.items_l, DL.items_t, DL.srcOk_n, DL.OB_gN, DL.OB_gK, DL.OB_gCons, DL.OB_gNil, DL.OB_add, DL.OB_sub, DL.OB_mul, DL.OB_mulL, DL.OB_fdiv, DL.OB_mod, DL.OB_pow, DL.OB_shl, DL.OB_bits, DL.OB_sl_l, DL.OB_sl_f, DL.OB_neg, DL.OB_lt, DL.OB_le, DL.OB_gt, DL.OB_ge, DL.OB_eq, DL.OB_ne, DL.eqB_int, DL.eqB_str, DL.OB_is, DL.OB_isn, DL.OB_len_l, DL.OB_len_t, DL.OB_abs, DL.OB_int, DL.OB_intb, DL.OB_ix_l, DL.OB_ix_t, DL.OB_gcd, DL.OB_lcm, DL.OB_max2, DL.OB_min2, DL.isNon, false_implies, implies_true, DL.rng_len, DL.enum_len, DL.zip_len, Int.toNat_natCast, DL.atI0, DL.atI1, DL.nd0, DL.nd1, DL.atI2, DL.ixN_b, DL.ixN_1, DL.ixN_2, DL.wipeE, DL.restE, DL.ownFree, Option.map_some, Option.isSome_some, DL.put_o, DL.put_b, DL.val_o, DL.val_b, DL.val_d, DL.ends, List.map_cons, List.map_nil, List.cons_append, List.nil_append, List.length_cons, List.length_nil, List.set_cons_zero, List.set_cons_succ, List.set_nil, List.replicate_zero, List.replicate_succ, List.all_cons, List.all_nil, Bool.and_true, Bool.and_self, true_and, and_true, and_self, Nat.reduceAdd, Nat.reduceLT, Nat.reduceLeDiff, Nat.reduceSub, Nat.zero_le, Nat.zero_add]
  exact q _ _ (List.getElem_mem _) h'
end K61
set_option Elab.async false
set_option linter.all false
set_option maxRecDepth 100000
set_option maxHeartbeats 4000000
set_option exponentiation.threshold 20000
namespace K61
open PySem PySem.Spec PyProof.Rows L2 Own DL
section
variable {Q : SV → List D → Prop} {E : Str → List (Str × D) → List D → Prop}
abbrev nD (n : Nat) : D := .int (n : Nat)
/-- a value of the drawn kinds -/
def Kd : D → Prop
  | .non => True
  | .bl _ => True
  | .int _ => True
  | .str _ => True
  | .lst _ => True
  | .tup _ => True
  | _ => False
def isI : D → Bool
  | .int _ => true
  | _ => false
def okD (a b : Int) : D → Bool
  | .int i => decide (a ≤ i) && decide (i ≤ b)
  | _ => false
theorem is_integer_d {d : D} (h : Kd d) : FW (mf_is_integer [.d d]) Q E = Q (.d (.bl (isI d))) [] := by
  unfold mf_is_integer
  rw [FW_run]
  unfold m_is_integer
  simp only [show N_is_integer.length = 1 from rfl]
  cases d with
  | non => simp only [DL.SW_nx, DL.SW_rt, DL.SW_pass, DL.SW_brk, DL.SW_cnt, DL.SW_seq, DL.SW_drop, DL.SW_set, DL.SW_ret, DL.SW_ifS, DL.SW_asg, DL.SW_par2, DL.SW_par3, DL.SW_aug, DL.SW_raise, DL.SW_setIx, DL.SW_for, DL.SW_for0, DL.SW_forS, DL.SW_while, DL.OW_ok, DL.OW_no, DL.OW_var, DL.OW_c, DL.OW_fz, DL.OW_fa, DL.OW_faO_v, DL.OW_faO_f, DL.OW_faO_s, DL.OW_bin, DL.OW_un, DL.OW_tr, DL.OW_te, DL.OW_notT, DL.OW_andT, DL.OW_orT, DL.OW_and, DL.OW_or, DL.OW_not, DL.OW_if, DL.OW_nil, DL.OW_cons, DL.OW_lst, DL.OW_tup, DL.OW_chain, DL.OW_oNo, DL.OW_oSo, DL.OW_sl, DL.OW_new, DL.OW_newO_v, DL.OW_newO_f, DL.OW_newO_s, DL.OW_retO_v, DL.OW_retO_f, DL.OW_retO_s, DL.OW_nNil, DL.OW_nCons, DL.OW_call, DL.OW_iNil, DL.OW_iCons, DL.OW_iLnd, DL.OW_gI, DL.OW_itF, DL.OW_it, DL.OW_rng1, DL.OW_rng2, DL.OW_zipK, DL.OW_enum, DL.OW_enumV, DL.OW_lc, DL.OW_yes, DL.SL_d, DL.SL_o, DL.SL_b, DL.SF_d, DL.SF_o, DL.SRt_d, DL.SRt_o, DL.TB_v, DL.TI_i, DL.L2_2, DL.L3_3, DL.SI_i, DL.SX_o, DL.SX_b, DL.IF_t, DL.IF_f, reduceCtorEq, DL.isi_int_int, DL.isi_int_bl, DL.isi_int_str, DL.isi_int_lst, DL.isi_int_tup, DL.isi_int_non, DL.isi_bool_int, DL.isi_bool_bl, DL.isi_bool_str, DL.isi_bool_lst, DL.isi_bool_tup, DL.isi_bool_non, DL.isi_str_int, DL.isi_str_bl, DL.isi_str_str, DL.isi_str_lst, DL.isi_str_tup, DL.isi_str_non, DL.isi_list_int, DL.isi_list_bl, DL.isi_list_str, DL.isi_list_lst, DL.isi_list_tup, DL.isi_list_non, DL.isi_tuple_int, DL.isi_tuple_bl, DL.isi_tuple_str, DL.isi_tuple_lst, DL.isi_tuple_tup, DL.isi_tuple_non, DL.isi2_int, DL.isi2_bl, DL.isi2_str, DL.isi2_lst, DL.isi2_tup, DL.isi2_non, DL.OB_tuple_l, DL.OB_tuple_t, DL.OB_list_l, DL.OB_list_t, DL.OB_sum, DL.OB_all, DL.OB_any, DL.bls_nil, DL.bls_cons, DL.blsOf_map, DL.ints_nil, DL.ints_cons, DL.intsOf_map, DL.OB_map, DL.OW_lc0, DL.OW_lcY, id, List.all_map, DL.tru_bl, DL.tru_int, DL.tru_lst, DL.tru_tup, DL.tru_non, DL.IF_n, DL.IF_d, DL.OB_some, DL.OB_none, DL.OB_ite, DL.fzT_v, DL.fzT_f, DL.fzT_s, DL.dr_v, DL.dr_f, DL.dr_s, DL.slot_z, DL.slot_s, DL.Sc_v, DL.Sc_s, DL.argsSV_nil, DL.argsSV_d, DL.argsSV_i', DL.SMt_o, DL.SMt_b, DL.pb_nil, DL.pb_nil2, DL.pb_cons, DL.SPt_o, DL.SPt_b, DL.retT_d, DL.retT_o, DL.lS_nil, DL.lS_d, DL.lS_i, DL.lP_nil, DL.lP_d, DL.lP_i, DL.SVl_d, DL.SVl_o, DL.SVl_b, DL.backOf_nil, DL.backOf_cons, DL.sqOf_l, DL.sqOf_t, DL.seqD_l, DL.seqD_t, DL.items_l, DL.items_t, DL.srcOk_n, DL.OB_gN, DL.OB_gK, DL.OB_gCons, DL.OB_gNil, DL.OB_add, DL.OB_sub, DL.OB_mul, DL.OB_mulL, DL.OB_fdiv, DL.OB_mod, DL.OB_pow, DL.OB_shl, DL.OB_bits, DL.OB_sl_l, DL.OB_sl_f, DL.OB_neg, DL.OB_lt, DL.OB_le, DL.OB_gt, DL.OB_ge, DL.OB_eq, DL.OB_ne, DL.eqB_int, DL.eqB_str, DL.OB_is, DL.OB_isn, DL.OB_len_l, DL.OB_len_t, DL.OB_abs, DL.OB_int, DL.OB_intb, DL.OB_ix_l, DL.OB_ix_t, DL.OB_gcd, DL.OB_lcm, DL.OB_max2, DL.OB_min2, DL.isNon, false_implies, implies_true, DL.rng_len, DL.enum_len, DL.zip_len, Int.toNat_natCast, DL.atI0, DL.atI1, DL.nd0, DL.nd1, DL.atI2, DL.ixN_b, DL.ixN_1, DL.ixN_2, DL.wipeE, DL.restE, DL.ownFree, Option.map_some, Option.isSome_some, DL.put_o, DL.put_b, DL.val_o, DL.val_b, DL.val_d, DL.ends, List.map_cons, List.map_nil, List.cons_append, List.nil_append, List.length_cons, List.length_nil, List.set_cons_zero, List.set_cons_succ, List.set_nil, List.replicate_zero, List.replicate_succ, List.all_cons, List.all_nil, Bool.and_true, Bool.and_self, true_and, and_true, and_self, Nat.reduceAdd, Nat.reduceLT, Nat.reduceLeDiff, Nat.reduceSub, Nat.zero_le, Nat.zero_add]; rfl
  | bl b => simp only [DL.SW_nx, DL.SW_rt, DL.SW_pass, DL.SW_brk, DL.SW_cnt, DL.SW_seq, DL.SW_drop, DL.SW_set, DL.SW_ret, DL.SW_ifS, DL.SW_asg, DL.SW_par2, DL.SW_par3, DL.SW_aug, DL.SW_raise, DL.SW_setIx, DL.SW_for, DL.SW_for0, DL.SW_forS, DL.SW_while, DL.OW_ok, DL.OW_no, DL.OW_var, DL.OW_c, DL.OW_fz, DL.OW_fa, DL.OW_faO_v, DL.OW_faO_f, DL.OW_faO_s, DL.OW_bin, DL.OW_un, DL.OW_tr, DL.OW_te, DL.OW_notT, DL.OW_andT, DL.OW_orT, DL.OW_and, DL.OW_or, DL.OW_not, DL.OW_if, DL.OW_nil, DL.OW_cons, DL.OW_lst, DL.OW_tup, DL.OW_chain, DL.OW_oNo, DL.OW_oSo, DL.OW_sl, DL.OW_new, DL.OW_newO_v, DL.OW_newO_f, DL.OW_newO_s, DL.OW_retO_v, DL.OW_retO_f, DL.OW_retO_s, DL.OW_nNil, DL.OW_nCons, DL.OW_call, DL.OW_iNil, DL.OW_iCons, DL.OW_iLnd, DL.OW_gI, DL.OW_itF, DL.OW_it, DL.OW_rng1, DL.OW_rng2, DL.OW_zipK, DL.OW_enum, DL.OW_enumV, DL.OW_lc, DL.OW_yes, DL.SL_d, DL.SL_o, DL.SL_b, DL.SF_d, DL.SF_o, DL.SRt_d, DL.SRt_o, DL.TB_v, DL.TI_i, DL.L2_2, DL.L3_3, DL.SI_i, DL.SX_o, DL.SX_b, DL.IF_t, DL.IF_f, reduceCtorEq, DL.isi_int_int, DL.isi_int_bl, DL.isi_int_str, DL.isi_int_lst, DL.isi_int_tup, DL.isi_int_non, DL.isi_bool_int, DL.isi_bool_bl, DL.isi_bool_str, DL.isi_bool_lst, DL.isi_bool_tup, DL.isi_bool_non, DL.isi_str_int, DL.isi_str_bl, DL.isi_str_str, DL.isi_str_lst, DL.isi_str_tup, DL.isi_str_non, DL.isi_list_int, DL.isi_list_bl, DL.isi_list_str, DL.isi_list_lst, DL.isi_list_tup, DL.isi_list_non, DL.isi_tuple_int, DL.isi_tuple_bl, DL.isi_tuple_str, DL.isi_tuple_lst, DL.isi_tuple_tup, DL.isi_tuple_non, DL.isi2_int, DL.isi2_bl, DL.isi2_str, DL.isi2_lst, DL.isi2_tup, DL.isi2_non, DL.OB_tuple_l, DL.OB_tuple_t, DL.OB_list_l, DL.OB_list_t, DL.OB_sum, DL.OB_all, DL.OB_any, DL.bls_nil, DL.bls_cons, DL.blsOf_map, DL.ints_nil, DL.ints_cons, DL.intsOf_map, DL.OB_map, DL.OW_lc0, DL.OW_lcY, id, List.all_map, DL.tru_bl, DL.tru_int, DL.tru_lst, DL.tru_tup, DL.tru_non, DL.IF_n, DL.IF_d, DL.OB_some, DL.OB_none, DL.OB_ite, DL.fzT_v, DL.fzT_f, DL.fzT_s, DL.dr_v, DL.dr_f, DL.dr_s, DL.slot_z, DL.slot_s, DL.Sc_v, DL.Sc_s, DL.argsSV_nil, DL.argsSV_d, DL.argsSV_i', DL.SMt_o, DL.SMt_b, DL.pb_nil, DL.pb_nil2, DL.pb_cons, DL.SPt_o, DL.SPt_b, DL.retT_d, DL.retT_o, DL.lS_nil, DL.lS_d, DL.lS_i, DL.lP_nil, DL.lP_d, DL.lP_i, DL.SVl_d, DL.SVl_o, DL.SVl_b, DL.backOf_nil, DL.backOf_cons, DL.sqOf_l, DL.sqOf_t, DL.seqD_l, DL.seqD_t, DL.items_l, DL.items_t, DL.srcOk_n, DL.OB_gN, DL.OB_gK, DL.OB_gCons, DL.OB_gNil, DL.OB_add, DL.OB_sub, DL.OB_mul, DL.OB_mulL, DL.OB_fdiv, DL.OB_mod, DL.OB_pow, DL.OB_shl, DL.OB_bits, DL.OB_sl_l, DL.OB_sl_f, DL.OB_neg, DL.OB_lt, DL.OB_le, DL.OB_gt, DL.OB_ge, DL.OB_eq, DL.OB_ne, DL.eqB_int, DL.eqB_str, DL.OB_is, DL.OB_isn, DL.OB_len_l, DL.OB_len_t, DL.OB_abs, DL.OB_int, DL.OB_intb, DL.OB_ix_l, DL.OB_ix_t, DL.OB_gcd, DL.OB_lcm, DL.OB_max2, DL.OB_min2, DL.isNon, false_implies, implies_true, DL.rng_len, DL.enum_len, DL.zip_len, Int.toNat_natCast, DL.atI0, DL.atI1, DL.nd0, DL.nd1, DL.atI2, DL.ixN_b, DL.ixN_1, DL.ixN_2, DL.wipeE, DL.restE, DL.ownFree, Option.map_some, Option.isSome_some, DL.put_o, DL.put_b, DL.val_o, DL.val_b, DL.val_d, DL.ends, List.map_cons, List.map_nil, List.cons_append, List.nil_append, List.length_cons, List.length_nil, List.set_cons_zero, List.set_cons_succ, List.set_nil, List.replicate_zero, List.replicate_succ, List.all_cons, List.all_nil, Bool.and_true, Bool.and_self, true_and, and_true, and_self, Nat.reduceAdd, Nat.reduceLT, Nat.reduceLeDiff, Nat.reduceSub, Nat.zero_le, Nat.zero_add]; rfl
  | int i => simp only [DL.SW_nx, DL.SW_rt, DL.SW_pass, DL.SW_brk, DL.SW_cnt, DL.SW_seq, DL.SW_drop, DL.SW_set, DL.SW_ret, DL.SW_ifS, DL.SW_asg, DL.SW_par2, DL.SW_par3, DL.SW_aug, DL.SW_raise, DL.SW_setIx, DL.SW_for, DL.SW_for0, DL.SW_forS, DL.SW_while, DL.OW_ok, DL.OW_no, DL.OW_var, DL.OW_c, DL.OW_fz, DL.OW_fa, DL.OW_faO_v, DL.OW_faO_f, DL.OW_faO_s, DL.OW_bin, DL.OW_un, DL.OW_tr, DL.OW_te, DL.OW_notT, DL.OW_andT, DL.OW_orT, DL.OW_and, DL.OW_or, DL.OW_not, DL.OW_if, DL.OW_nil, DL.OW_cons, DL.OW_lst, DL.OW_tup, DL.OW_chain, DL.OW_oNo, DL.OW_oSo, DL.OW_sl, DL.OW_new, DL.OW_newO_v, DL.OW_newO_f, DL.OW_newO_s, DL.OW_retO_v, DL.OW_retO_f, DL.OW_retO_s, DL.OW_nNil, DL.OW_nCons, DL.OW_call, DL.OW_iNil, DL.OW_iCons, DL.OW_iLnd, DL.OW_gI, DL.OW_itF, DL.OW_it, DL.OW_rng1, DL.OW_rng2, DL.OW_zipK, DL.OW_enum, DL.OW_enumV, DL.OW_lc, DL.OW_yes, DL.SL_d, DL.SL_o, DL.SL_b, DL.SF_d, DL.SF_o, DL.SRt_d, DL.SRt_o, DL.TB_v, DL.TI_i, DL.L2_2, DL.L3_3, DL.SI_i, DL.SX_o, DL.SX_b, DL.IF_t, DL.IF_f, reduceCtorEq, DL.isi_int_int, DL.isi_int_bl, DL.isi_int_str, DL.isi_int_lst, DL.isi_int_tup, DL.isi_int_non, DL.isi_bool_int, DL.isi_bool_bl, DL.isi_bool_str, DL.isi_bool_lst, DL.isi_bool_tup, DL.isi_bool_non, DL.isi_str_int, DL.isi_str_bl, DL.isi_str_str, DL.isi_str_lst, DL.isi_str_tup, DL.isi_str_non, DL.isi_list_int, DL.isi_list_bl, DL.isi_list_str, DL.isi_list_lst, DL.isi_list_tup, DL.isi_list_non, DL.isi_tuple_int, DL.isi_tuple_bl, DL.isi_tuple_str, DL.isi_tuple_lst, DL.isi_tuple_tup, DL.isi_tuple_non, DL.isi2_int, DL.isi2_bl, DL.isi2_str, DL.isi2_lst, DL.isi2_tup, DL.isi2_non, DL.OB_tuple_l, DL.OB_tuple_t, DL.OB_list_l, DL.OB_list_t, DL.OB_sum, DL.OB_all, DL.OB_any, DL.bls_nil, DL.bls_cons, DL.blsOf_map, DL.ints_nil, DL.ints_cons, DL.intsOf_map, DL.OB_map, DL.OW_lc0, DL.OW_lcY, id, List.all_map, DL.tru_bl, DL.tru_int, DL.tru_lst, DL.tru_tup, DL.tru_non, DL.IF_n, DL.IF_d, DL.OB_some, DL.OB_none, DL.OB_ite, DL.fzT_v, DL.fzT_f, DL.fzT_s, DL.dr_v, DL.dr_f, DL.dr_s, DL.slot_z, DL.slot_s, DL.Sc_v, DL.Sc_s, DL.argsSV_nil, DL.argsSV_d, DL.argsSV_i', DL.SMt_o, DL.SMt_b, DL.pb_nil, DL.pb_nil2, DL.pb_cons, DL.SPt_o, DL.SPt_b, DL.retT_d, DL.retT_o, DL.lS_nil, DL.lS_d, DL.lS_i, DL.lP_nil, DL.lP_d, DL.lP_i, DL.SVl_d, DL.SVl_o, DL.SVl_b, DL.backOf_nil, DL.backOf_cons, DL.sqOf_l, DL.sqOf_t, DL.seqD_l, DL.seqD_t, DL.items_l, DL.items_t, DL.srcOk_n, DL.OB_gN, DL.OB_gK, DL.OB_gCons, DL.OB_gNil, DL.OB_add, DL.OB_sub, DL.OB_mul, DL.OB_mulL, DL.OB_fdiv, DL.OB_mod, DL.OB_pow, DL.OB_shl, DL.OB_bits, DL.OB_sl_l, DL.OB_sl_f, DL.OB_neg, DL.OB_lt, DL.OB_le, DL.OB_gt, DL.OB_ge, DL.OB_eq, DL.OB_ne, DL.eqB_int, DL.eqB_str, DL.OB_is, DL.OB_isn, DL.OB_len_l, DL.OB_len_t, DL.OB_abs, DL.OB_int, DL.OB_intb, DL.OB_ix_l, DL.OB_ix_t, DL.OB_gcd, DL.OB_lcm, DL.OB_max2, DL.OB_min2, DL.isNon, false_implies, implies_true, DL.rng_len, DL.enum_len, DL.zip_len, Int.toNat_natCast, DL.atI0, DL.atI1, DL.nd0, DL.nd1, DL.atI2, DL.ixN_b, DL.ixN_1, DL.ixN_2, DL.wipeE, DL.restE, DL.ownFree, Option.map_some, Option.isSome_some, DL.put_o, DL.put_b, DL.val_o, DL.val_b, DL.val_d, DL.ends, List.map_cons, List.map_nil, List.cons_append, List.nil_append, List.length_cons, List.length_nil, List.set_cons_zero, List.set_cons_succ, List.set_nil, List.replicate_zero, List.replicate_succ, List.all_cons, List.all_nil, Bool.and_true, Bool.and_self, true_and, and_true, and_self, Nat.reduceAdd, Nat.reduceLT, Nat.reduceLeDiff, Nat.reduceSub, Nat.zero_le, Nat.zero_add]; rfl
  | str x => simp only [DL.SW_nx, DL.SW_rt, DL.SW_pass, DL.SW_brk, DL.SW_cnt, DL.SW_seq, DL.SW_drop, DL.SW_set, DL.SW_ret, DL.SW_ifS, DL.SW_asg, DL.SW_par2, DL.SW_par3, DL.SW_aug, DL.SW_raise, DL.SW_setIx, DL.SW_for, DL.SW_for0, DL.SW_forS, DL.SW_while, DL.OW_ok, DL.OW_no, DL.OW_var, DL.OW_c, DL.OW_fz, DL.OW_fa, DL.OW_faO_v, DL.OW_faO_f, DL.OW_faO_s, DL.OW_bin, DL.OW_un, DL.OW_tr, DL.OW_te, DL.OW_notT, DL.OW_andT, DL.OW_orT, DL.OW_and, DL.OW_or, DL.OW_not, DL.OW_if, DL.OW_nil, DL.OW_cons, DL.OW_lst, DL.OW_tup, DL.OW_chain, DL.OW_oNo, DL.OW_oSo, DL.OW_sl, DL.OW_new, DL.OW_newO_v, DL.OW_newO_f, DL.OW_newO_s, DL.OW_retO_v, DL.OW_retO_f, DL.OW_retO_s, DL.OW_nNil, DL.OW_nCons, DL.OW_call, DL.OW_iNil, DL.OW_iCons, DL.OW_iLnd, DL.OW_gI, DL.OW_itF, DL.OW_it, DL.OW_rng1, DL.OW_rng2, DL.OW_zipK, DL.OW_enum, DL.OW_enumV, DL.OW_lc, DL.OW_yes, DL.SL_d, DL.SL_o, DL.SL_b, DL.SF_d, DL.SF_o, DL.SRt_d, DL.SRt_o, DL.TB_v, DL.TI_i, DL.L2_2, DL.L3_3, DL.SI_i, DL.SX_o, DL.SX_b, DL.IF_t, DL.IF_f, reduceCtorEq, DL.isi_int_int, DL.isi_int_bl, DL.isi_int_str, DL.isi_int_lst, DL.isi_int_tup, DL.isi_int_non, DL.isi_bool_int, DL.isi_bool_bl, DL.isi_bool_str, DL.isi_bool_lst, DL.isi_bool_tup, DL.isi_bool_non, DL.isi_str_int, DL.isi_str_bl, DL.isi_str_str, DL.isi_str_lst, DL.isi_str_tup, DL.isi_str_non, DL.isi_list_int, DL.isi_list_bl, DL.isi_list_str, DL.isi_list_lst, DL.isi_list_tup, DL.isi_list_non, DL.isi_tuple_int, DL.isi_tuple_bl, DL.isi_tuple_str, DL.isi_tuple_lst, DL.isi_tuple_tup, DL.isi_tuple_non, DL.isi2_int, DL.isi2_bl, DL.isi2_str, DL.isi2_lst, DL.isi2_tup, DL.isi2_non, DL.OB_tuple_l, DL.OB_tuple_t, DL.OB_list_l, DL.OB_list_t, DL.OB_sum, DL.OB_all, DL.OB_any, DL.bls_nil, DL.bls_cons, DL.blsOf_map, DL.ints_nil, DL.ints_cons, DL.intsOf_map, DL.OB_map, DL.OW_lc0, DL.OW_lcY, id, List.all_map, DL.tru_bl, DL.tru_int, DL.tru_lst, DL.tru_tup, DL.tru_non, DL.IF_n, DL.IF_d, DL.OB_some, DL.OB_none, DL.OB_ite, DL.fzT_v, DL.fzT_f, DL.fzT_s, DL.dr_v, DL.dr_f, DL.dr_s, DL.slot_z, DL.slot_s, DL.Sc_v, DL.Sc_s, DL.argsSV_nil, DL.argsSV_d, DL.argsSV_i', DL.SMt_o, DL.SMt_b, DL.pb_nil, DL.pb_nil2, DL.pb_cons, DL.SPt_o, DL.SPt_b, DL.retT_d, DL.retT_o, DL.lS_nil, DL.lS_d, DL.lS_i, DL.lP_nil, DL.lP_d, DL.lP_i, DL.SVl_d, DL.SVl_o, DL.SVl_b, DL.backOf_nil, DL.backOf_cons, DL.sqOf_l, DL.sqOf_t, DL.seqD_l, DL.seqD_t, DL.items_l, DL.items_t, DL.srcOk_n, DL.OB_gN, DL.OB_gK, DL.OB_gCons, DL.OB_gNil, DL.OB_add, DL.OB_sub, DL.OB_mul, DL.OB_mulL, DL.OB_fdiv, DL.OB_mod, DL.OB_pow, DL.OB_shl, DL.OB_bits, DL.OB_sl_l, DL.OB_sl_f, DL.OB_neg, DL.OB_lt, DL.OB_le, DL.OB_gt, DL.OB_ge, DL.OB_eq, DL.OB_ne, DL.eqB_int, DL.eqB_str, DL.OB_is, DL.OB_isn, DL.OB_len_l, DL.OB_len_t, DL.OB_abs, DL.OB_int, DL.OB_intb, DL.OB_ix_l, DL.OB_ix_t, DL.OB_gcd, DL.OB_lcm, DL.OB_max2, DL.OB_min2, DL.isNon, false_implies, implies_true, DL.rng_len, DL.enum_len, DL.zip_len, Int.toNat_natCast, DL.atI0, DL.atI1, DL.nd0, DL.nd1, DL.atI2, DL.ixN_b, DL.ixN_1, DL.ixN_2, DL.wipeE, DL.restE, DL.ownFree, Option.map_some, Option.isSome_some, DL.put_o, DL.put_b, DL.val_o, DL.val_b, DL.val_d, DL.ends, List.map_cons, List.map_nil, List.cons_append, List.nil_append, List.length_cons, List.length_nil, List.set_cons_zero, List.set_cons_succ, List.set_nil, List.replicate_zero, List.replicate_succ, List.all_cons, List.all_nil, Bool.and_true, Bool.and_self, true_and, and_true, and_self, Nat.reduceAdd, Nat.reduceLT, Nat.reduceLeDiff, Nat.reduceSub, Nat.zero_le, Nat.zero_add]; rfl
  | lst ds => simp only [DL.SW_nx, DL.SW_rt, DL.SW_pass, DL.SW_brk, DL.SW_cnt, DL.SW_seq, DL.SW_drop, DL.SW_set, DL.SW_ret, DL.SW_ifS, DL.SW_asg, DL.SW_par2, DL.SW_par3, DL.SW_aug, DL.SW_raise, DL.SW_setIx, DL.SW_for, DL.SW_for0, DL.SW_forS, DL.SW_while, DL.OW_ok, DL.OW_no, DL.OW_var, DL.OW_c, DL.OW_fz, DL.OW_fa, DL.OW_faO_v, DL.OW_faO_f, DL.OW_faO_s, DL.OW_bin, DL.OW_un, DL.OW_tr, DL.OW_te, DL.OW_notT, DL.OW_andT, DL.OW_orT, DL.OW_and, DL.OW_or, DL.OW_not, DL.OW_if, DL.OW_nil, DL.OW_cons, DL.OW_lst, DL.OW_tup, DL.OW_chain, DL.OW_oNo, DL.OW_oSo, DL.OW_sl, DL.OW_new, DL.OW_newO_v, DL.OW_newO_f, DL.OW_newO_s, DL.OW_retO_v, DL.OW_retO_f, DL.OW_retO_s, DL.OW_nNil, DL.OW_nCons, DL.OW_call, DL.OW_iNil, DL.OW_iCons, DL.OW_iLnd, DL.OW_gI, DL.OW_itF, DL.OW_it, DL.OW_rng1, DL.OW_rng2, DL.OW_zipK, DL.OW_enum, DL.OW_enumV, DL.OW_lc, DL.OW_yes, DL.SL_d, DL.SL_o, DL.SL_b, DL.SF_d, DL.SF_o, DL.SRt_d, DL.SRt_o, DL.TB_v, DL.TI_i, DL.L2_2, DL.L3_3, DL.SI_i, DL.SX_o, DL.SX_b, DL.IF_t, DL.IF_f, reduceCtorEq, DL.isi_int_int, DL.isi_int_bl, DL.isi_int_str, DL.isi_int_lst, DL.isi_int_tup, DL.isi_int_non, DL.isi_bool_int, DL.isi_bool_bl, DL.isi_bool_str, DL.isi_bool_lst, DL.isi_bool_tup, DL.isi_bool_non, DL.isi_str_int, DL.isi_str_bl, DL.isi_str_str, DL.isi_str_lst, DL.isi_str_tup, DL.isi_str_non, DL.isi_list_int, DL.isi_list_bl, DL.isi_list_str, DL.isi_list_lst, DL.isi_list_tup, DL.isi_list_non, DL.isi_tuple_int, DL.isi_tuple_bl, DL.isi_tuple_str, DL.isi_tuple_lst, DL.isi_tuple_tup, DL.isi_tuple_non, DL.isi2_int, DL.isi2_bl, DL.isi2_str, DL.isi2_lst, DL.isi2_tup, DL.isi2_non, DL.OB_tuple_l, DL.OB_tuple_t, DL.OB_list_l, DL.OB_list_t, DL.OB_sum, DL.OB_all, DL.OB_any, DL.bls_nil, DL.bls_cons, DL.blsOf_map, DL.ints_nil, DL.ints_cons, DL.intsOf_map, DL.OB_map, DL.OW_lc0, DL.OW_lcY, id, List.all_map, DL.tru_bl, DL.tru_int, DL.tru_lst, DL.tru_tup, DL.tru_non, DL.IF_n, DL.IF_d, DL.OB_some, DL.OB_none, DL.OB_ite, DL.fzT_v, DL.fzT_f, DL.fzT_s, DL.dr_v, DL.dr_f, DL.dr_s, DL.slot_z, DL.slot_s, DL.Sc_v, DL.Sc_s, DL.argsSV_nil, DL.argsSV_d, DL.argsSV_i', DL.SMt_o, DL.SMt_b, DL.pb_nil, DL.pb_nil2, DL.pb_cons, DL.SPt_o, DL.SPt_b, DL.retT_d, DL.retT_o, DL.lS_nil, DL.lS_d, DL.lS_i, DL.lP_nil, DL.lP_d, DL.lP_i, DL.SVl_d, DL.SVl_o, DL.SVl_b, DL.backOf_nil, DL.backOf_cons, DL.sqOf_l, DL.sqOf_t, DL.seqD_l, DL.seqD_t, DL.items_l, DL.items_t, DL.srcOk_n, DL.OB_gN, DL.OB_gK, DL.OB_gCons, DL.OB_gNil, DL.OB_add, DL.OB_sub, DL.OB_mul, DL.OB_mulL, DL.OB_fdiv, DL.OB_mod, DL.OB_pow, DL.OB_shl, DL.OB_bits, DL.OB_sl_l, DL.OB_sl_f, DL.OB_neg, DL.OB_lt, DL.OB_le, DL.OB_gt, DL.OB_ge, DL.OB_eq, DL.OB_ne, DL.eqB_int, DL.eqB_str, DL.OB_is, DL.OB_isn, DL.OB_len_l, DL.OB_len_t, DL.OB_abs, DL.OB_int, DL.OB_intb, DL.OB_ix_l, DL.OB_ix_t, DL.OB_gcd, DL.OB_lcm, DL.OB_max2, DL.OB_min2, DL.isNon, false_implies, implies_true, DL.rng_len, DL.enum_len, DL.zip_len, Int.toNat_natCast, DL.atI0, DL.atI1, DL.nd0, DL.nd1, DL.atI2, DL.ixN_b, DL.ixN_1, DL.ixN_2, DL.wipeE, DL.restE, DL.ownFree, Option.map_some, Option.isSome_some, DL.put_o, DL.put_b, DL.val_o, DL.val_b, DL.val_d, DL.ends, List.map_cons, List.map_nil, List.cons_append, List.nil_append, List.length_cons, List.length_nil, List.set_cons_zero, List.set_cons_succ, List.set_nil, List.replicate_zero, List.replicate_succ, List.all_cons, List.all_nil, Bool.and_true, Bool.and_self, true_and, and_true, and_self, Nat.reduceAdd, Nat.reduceLT, Nat.reduceLeDiff, Nat.reduceSub, Nat.zero_le, Nat.zero_add]; rfl
  | tup ds => simp only [DL.SW_nx, DL.SW_rt, DL.SW_pass, DL.SW_brk, DL.SW_cnt, DL.SW_seq, DL.SW_drop, DL.SW_set, DL.SW_ret, DL.SW_ifS, DL.SW_asg, DL.SW_par2, DL.SW_par3, DL.SW_aug, DL.SW_raise, DL.SW_setIx, DL.SW_for, DL.SW_for0, DL.SW_forS, DL.SW_while, DL.OW_ok, DL.OW_no, DL.OW_var, DL.OW_c, DL.OW_fz, DL.OW_fa, DL.OW_faO_v, DL.OW_faO_f, DL.OW_faO_s, DL.OW_bin, DL.OW_un, DL.OW_tr, DL.OW_te, DL.OW_notT, DL.OW_andT, DL.OW_orT, DL.OW_and, DL.OW_or, DL.OW_not, DL.OW_if, DL.OW_nil, DL.OW_cons, DL.OW_lst, DL.OW_tup, DL.OW_chain, DL.OW_oNo, DL.OW_oSo, DL.OW_sl, DL.OW_new, DL.OW_newO_v, DL.OW_newO_f, DL.OW_newO_s, DL.OW_retO_v, DL.OW_retO_f, DL.OW_retO_s, DL.OW_nNil, DL.OW_nCons, DL.OW_call, DL.OW_iNil, DL.OW_iCons, DL.OW_iLnd, DL.OW_gI, DL.OW_itF, DL.OW_it, DL.OW_rng1, DL.OW_rng2, DL.OW_zipK, DL.OW_enum, DL.OW_enumV, DL.OW_lc, DL.OW_yes, DL.SL_d, DL.SL_o, DL.SL_b, DL.SF_d, DL.SF_o, DL.SRt_d, DL.SRt_o, DL.TB_v, DL.TI_i, DL.L2_2, DL.L3_3, DL.SI_i, DL.SX_o, DL.SX_b, DL.IF_t, DL.IF_f, reduceCtorEq, DL.isi_int_int, DL.isi_int_bl, DL.isi_int_str, DL.isi_int_lst, DL.isi_int_tup, DL.isi_int_non, DL.isi_bool_int, DL.isi_bool_bl, DL.isi_bool_str, DL.isi_bool_lst, DL.isi_bool_tup, DL.isi_bool_non, DL.isi_str_int, DL.isi_str_bl, DL.isi_str_str, DL.isi_str_lst, DL.isi_str_tup, DL.isi_str_non, DL.isi_list_int, DL.isi_list_bl, DL.isi_list_str, DL.isi_list_lst, DL.isi_list_tup, DL.isi_list_non, DL.isi_tuple_int, DL.isi_tuple_bl, DL.isi_tuple_str, DL.isi_tuple_lst, DL.isi_tuple_tup, DL.isi_tuple_non, DL.isi2_int, DL.isi2_bl, DL.isi2_str, DL.isi2_lst, DL.isi2_tup, DL.isi2_non, DL.OB_tuple_l, DL.OB_tuple_t, DL.OB_list_l, DL.OB_list_t, DL.OB_sum, DL.OB_all, DL.OB_any, DL.bls_nil, DL.bls_cons, DL.blsOf_map, DL.ints_nil, DL.ints_cons, DL.intsOf_map, DL.OB_map, DL.OW_lc0, DL.OW_lcY, id, List.all_map, DL.tru_bl, DL.tru_int, DL.tru_lst, DL.tru_tup, DL.tru_non, DL.IF_n, DL.IF_d, DL.OB_some, DL.OB_none, DL.OB_ite, DL.fzT_v, DL.fzT_f, DL.fzT_s, DL.dr_v, DL.dr_f, DL.dr_s, DL.slot_z, DL.slot_s, DL.Sc_v, DL.Sc_s, DL.argsSV_nil, DL.argsSV_d, DL.argsSV_i', DL.SMt_o, DL.SMt_b, DL.pb_nil, DL.pb_nil2, DL.pb_cons, DL.SPt_o, DL.SPt_b, DL.retT_d, DL.retT_o, DL.lS_nil, DL.lS_d, DL.lS_i, DL.lP_nil, DL.lP_d, DL.lP_i, DL.SVl_d, DL.SVl_o, DL.SVl_b, DL.backOf_nil, DL.backOf_cons, DL.sqOf_l, DL.sqOf_t, DL.seqD_l, DL.seqD_t, DL.items_l, DL.items_t, DL.srcOk_n, DL.OB_gN, DL.OB_gK, DL.OB_gCons, DL.OB_gNil, DL.OB_add, DL.OB_sub, DL.OB_mul, DL.OB_mulL, DL.OB_fdiv, DL.OB_mod, DL.OB_pow, DL.OB_shl, DL.OB_bits, DL.OB_sl_l, DL.OB_sl_f, DL.OB_neg, DL.OB_lt, DL.OB_le, DL.OB_gt, DL.OB_ge, DL.OB_eq, DL.OB_ne, DL.eqB_int, DL.eqB_str, DL.OB_is, DL.OB_isn, DL.OB_len_l, DL.OB_len_t, DL.OB_abs, DL.OB_int, DL.OB_intb, DL.OB_ix_l, DL.OB_ix_t, DL.OB_gcd, DL.OB_lcm, DL.OB_max2, DL.OB_min2, DL.isNon, false_implies, implies_true, DL.rng_len, DL.enum_len, DL.zip_len, Int.toNat_natCast, DL.atI0, DL.atI1, DL.nd0, DL.nd1, DL.atI2, DL.ixN_b, DL.ixN_1, DL.ixN_2, DL.wipeE, DL.restE, DL.ownFree, Option.map_some, Option.isSome_some, DL.put_o, DL.put_b, DL.val_o, DL.val_b, DL.val_d, DL.ends, List.map_cons, List.map_nil, List.cons_append, List.nil_append, List.length_cons, List.length_nil, List.set_cons_zero, List.set_cons_succ, List.set_nil, List.replicate_zero, List.replicate_succ, List.all_cons, List.all_nil, Bool.and_true, Bool.and_self, true_and, and_true, and_self, Nat.reduceAdd, Nat.reduceLT, Nat.reduceLeDiff, Nat.reduceSub, Nat.zero_le, Nat.zero_add]; rfl
  | _ => exact h.elim
theorem is_within_d {d : D} {a b : Int} (h : Kd d) : FW (mf_is_within [.d d, .d (.int a), .d (.int b)]) Q E = Q (.d (.bl (okD a b d))) [] := by
  unfold mf_is_within
  rw [FW_run]
  unfold m_is_within
  simp only [show N_is_within.length = 3 from rfl]
  simp only [DL.SW_nx, DL.SW_rt, DL.SW_pass, DL.SW_brk, DL.SW_cnt, DL.SW_seq, DL.SW_drop, DL.SW_set, DL.SW_ret, DL.SW_ifS, DL.SW_asg, DL.SW_par2, DL.SW_par3, DL.SW_aug, DL.SW_raise, DL.SW_setIx, DL.SW_for, DL.SW_for0, DL.SW_forS, DL.SW_while, DL.OW_ok, DL.OW_no, DL.OW_var, DL.OW_c, DL.OW_fz, DL.OW_fa, DL.OW_faO_v, DL.OW_faO_f, DL.OW_faO_s, DL.OW_bin, DL.OW_un, DL.OW_tr, DL.OW_te, DL.OW_notT, DL.OW_andT, DL.OW_orT, DL.OW_and, DL.OW_or, DL.OW_not, DL.OW_if, DL.OW_nil, DL.OW_cons, DL.OW_lst, DL.OW_tup, DL.OW_chain, DL.OW_oNo, DL.OW_oSo, DL.OW_sl, DL.OW_new, DL.OW_newO_v, DL.OW_newO_f, DL.OW_newO_s, DL.OW_retO_v, DL.OW_retO_f, DL.OW_retO_s, DL.OW_nNil, DL.OW_nCons, DL.OW_call, DL.OW_iNil, DL.OW_iCons, DL.OW_iLnd, DL.OW_gI, DL.OW_itF, DL.OW_it, DL.OW_rng1, DL.OW_rng2, DL.OW_zipK, DL.OW_enum, DL.OW_enumV, DL.OW_lc, DL.OW_yes, DL.SL_d, DL.SL_o, DL.SL_b, DL.SF_d, DL.SF_o, DL.SRt_d, DL.SRt_o, DL.TB_v, DL.TI_i, DL.L2_2, DL.L3_3, DL.SI_i, DL.SX_o, DL.SX_b, DL.IF_t, DL.IF_f, reduceCtorEq, DL.isi_int_int, DL.isi_int_bl, DL.isi_int_str, DL.isi_int_lst, DL.isi_int_tup, DL.isi_int_non, DL.isi_bool_int, DL.isi_bool_bl, DL.isi_bool_str, DL.isi_bool_lst, DL.isi_bool_tup, DL.isi_bool_non, DL.isi_str_int, DL.isi_str_bl, DL.isi_str_str, DL.isi_str_lst, DL.isi_str_tup, DL.isi_str_non, DL.isi_list_int, DL.isi_list_bl, DL.isi_list_str, DL.isi_list_lst, DL.isi_list_tup, DL.isi_list_non, DL.isi_tuple_int, DL.isi_tuple_bl, DL.isi_tuple_str, DL.isi_tuple_lst, DL.isi_tuple_tup, DL.isi_tuple_non, DL.isi2_int, DL.isi2_bl, DL.isi2_str, DL.isi2_lst, DL.isi2_tup, DL.isi2_non, DL.OB_tuple_l, DL.OB_tuple_t, DL.OB_list_l, DL.OB_list_t, DL.OB_sum, DL.OB_all, DL.OB_any, DL.bls_nil, DL.bls_cons, DL.blsOf_map, DL.ints_nil, DL.ints_cons, DL.intsOf_map, DL.OB_map, DL.OW_lc0, DL.OW_lcY, id, List.all_map, DL.tru_bl, DL.tru_int, DL.tru_lst, DL.tru_tup, DL.tru_non, DL.IF_n, DL.IF_d, DL.OB_some, DL.OB_none, DL.OB_ite, DL.fzT_v, DL.fzT_f, DL.fzT_s, DL.dr_v, DL.dr_f, DL.dr_s, DL.slot_z, DL.slot_s, DL.Sc_v, DL.Sc_s, DL.argsSV_nil, DL.argsSV_d, DL.argsSV_i', DL.SMt_o, DL.SMt_b, DL.pb_nil, DL.pb_nil2, DL.pb_cons, DL.SPt_o, DL.SPt_b, DL.retT_d, DL.retT_o, DL.lS_nil, DL.lS_d, DL.lS_i, DL.lP_nil, DL.lP_d, DL.lP_i, DL.SVl_d, DL.SVl_o, DL.SVl_b, DL.backOf_nil, DL.backOf_cons, DL.sqOf_l, DL.sqOf_t, DL.seqD_l, DL.seqD_t, DL.items_l, DL.items_t, DL.srcOk_n, DL.OB_gN, DL.OB_gK, DL.OB_gCons, DL.OB_gNil, DL.OB_add, DL.OB_sub, DL.OB_mul, DL.OB_mulL, DL.OB_fdiv, DL.OB_mod, DL.OB_pow, DL.OB_shl, DL.OB_bits, DL.OB_sl_l, DL.OB_sl_f, DL.OB_neg, DL.OB_lt, DL.OB_le, DL.OB_gt, DL.OB_ge, DL.OB_eq, DL.OB_ne, DL.eqB_int, DL.eqB_str, DL.OB_is, DL.OB_isn, DL.OB_len_l, DL.OB_len_t, DL.OB_abs, DL.OB_int, DL.OB_intb, DL.OB_ix_l, DL.OB_ix_t, DL.OB_gcd, DL.OB_lcm, DL.OB_max2, DL.OB_min2, DL.isNon, false_implies, implies_true, DL.rng_len, DL.enum_len, DL.zip_len, Int.toNat_natCast, DL.atI0, DL.atI1, DL.nd0, DL.nd1, DL.atI2, DL.ixN_b, DL.ixN_1, DL.ixN_2, DL.wipeE, DL.restE, DL.ownFree, Option.map_some, Option.isSome_some, DL.put_o, DL.put_b, DL.val_o, DL.val_b, DL.val_d, DL.ends, List.map_cons, List.map_nil, List.cons_append, List.nil_append, List.length_cons, List.length_nil, List.set_cons_zero, List.set_cons_succ, List.set_nil, List.replicate_zero, List.replicate_succ, List.all_cons, List.all_nil, Bool.and_true, Bool.and_self, true_and, and_true, and_self, Nat.reduceAdd, Nat.reduceLT, Nat.reduceLeDiff, Nat.reduceSub, Nat.zero_le, Nat.zero_add, is_integer_d h]
  cases d with
  | int i =>
    simp only [DL.SW_nx, DL.SW_rt, DL.SW_pass, DL.SW_brk, DL.SW_cnt, DL.SW_seq, DL.SW_drop, DL.SW_set, DL.SW_ret, DL.SW_ifS, DL.SW_asg, DL.SW_par2, DL.SW_par3, DL.SW_aug, DL.SW_raise, DL.SW_setIx, DL.SW_for, DL.SW_for0, DL.SW_forS, DL.SW_while, DL.OW_ok, DL.OW_no, DL.OW_var, DL.OW_c, DL.OW_fz, DL.OW_fa, DL.OW_faO_v, DL.OW_faO_f, DL.OW_faO_s, DL.OW_bin, DL.OW_un, DL.OW_tr, DL.OW_te, DL.OW_notT, DL.OW_andT, DL.OW_orT, DL.OW_and, DL.OW_or, DL.OW_not, DL.OW_if, DL.OW_nil, DL.OW_cons, DL.OW_lst, DL.OW_tup, DL.OW_chain, DL.OW_oNo, DL.OW_oSo, DL.OW_sl, DL.OW_new, DL.OW_newO_v, DL.OW_newO_f, DL.OW_newO_s, DL.OW_retO_v, DL.OW_retO_f, DL.OW_retO_s, DL.OW_nNil, DL.OW_nCons, DL.OW_call, DL.OW_iNil, DL.OW_iCons, DL.OW_iLnd, DL.OW_gI, DL.OW_itF, DL.OW_it, DL.OW_rng1, DL.OW_rng2, DL.OW_zipK, DL.OW_enum, DL.OW_enumV, DL.OW_lc, DL.OW_yes, DL.SL_d, DL.SL_o, DL.SL_b, DL.SF_d, DL.SF_o, DL.SRt_d, DL.SRt_o, DL.TB_v, DL.TI_i, DL.L2_2, DL.L3_3, DL.SI_i, DL.SX_o, DL.SX_b, DL.IF_t, DL.IF_f, reduceCtorEq, DL.isi_int_int, DL.isi_int_bl, DL.isi_int_str, DL.isi_int_lst, DL.isi_int_tup, DL.isi_int_non, DL.isi_bool_int, DL.isi_bool_bl, DL.isi_bool_str, DL.isi_bool_lst, DL.isi_bool_tup, DL.isi_bool_non, DL.isi_str_int, DL.isi_str_bl, DL.isi_str_str, DL.isi_str_lst, DL.isi_str_tup, DL.isi_str_non, DL.isi_list_int, DL.isi_list_bl, DL.isi_list_str, DL.isi_list_lst, DL.isi_list_tup, DL.isi_list_non, DL.isi_tuple_int, DL.isi_tuple_bl, DL.isi_tuple_str, DL.isi_tuple_lst, DL.isi_tuple_tup, DL.isi_tuple_non, DL.isi2_int, DL.isi2_bl, DL.isi2_str, DL.isi2_lst, DL.isi2_tup, DL.isi2_non, DL.OB_tuple_l, DL.OB_tuple_t, DL.OB_list_l, DL.OB_list_t, DL.OB_sum, DL.OB_all, DL.OB_any, DL.bls_nil, DL.bls_cons, DL.blsOf_map, DL.ints_nil, DL.ints_cons, DL.intsOf_map, DL.OB_map, DL.OW_lc0, DL.OW_lcY, id, List.all_map, DL.tru_bl, DL.tru_int, DL.tru_lst, DL.tru_tup, DL.tru_non, DL.IF_n, DL.IF_d, DL.OB_some, DL.OB_none, DL.OB_ite, DL.fzT_v, DL.fzT_f, DL.fzT_s, DL.dr_v, DL.dr_f, DL.dr_s, DL.slot_z, DL.slot_s, DL.Sc_v, DL.Sc_s, DL.argsSV_nil, DL.argsSV_d, DL.argsSV_i', DL.SMt_o, DL.SMt_b, DL.pb_nil, DL.pb_nil2, DL.pb_cons, DL.SPt_o, DL.SPt_b, DL.retT_d, DL.retT_o, DL.lS_nil, DL.lS_d, DL.lS_i, DL.lP_nil, DL.lP_d, DL.lP_i, DL.SVl_d, DL.SVl_o, DL.SVl_b, DL.backOf_nil, DL.backOf_cons, DL.sqOf_l, DL.sqOf_t, DL.seqD_l, DL.seqD_t, DL.items_l, DL.items_t, DL.srcOk_n, DL.OB_gN, DL.OB_gK, DL.OB_gCons, DL.OB_gNil, DL.OB_add, DL.OB_sub, DL.OB_mul, DL.OB_mulL, DL.OB_fdiv, DL.OB_mod, DL.OB_pow, DL.OB_shl, DL.OB_bits, DL.OB_sl_l, DL.OB_sl_f, DL.OB_neg, DL.OB_lt, DL.OB_le, DL.OB_gt, DL.OB_ge, DL.OB_eq, DL.OB_ne, DL.eqB_int, DL.eqB_str, DL.OB_is, DL.OB_isn, DL.OB_len_l, DL.OB_len_t, DL.OB_abs, DL.OB_int, DL.OB_intb, DL.OB_ix_l, DL.OB_ix_t, DL.OB_gcd, DL.OB_lcm, DL.OB_max2, DL.OB_min2, DL.isNon, false_implies, implies_true, DL.rng_len, DL.enum_len, DL.zip_len, Int.toNat_natCast, DL.atI0, DL.atI1, DL.nd0, DL.nd1, DL.atI2, DL.ixN_b, DL.ixN_1, DL.ixN_2, DL.wipeE, DL.restE, DL.ownFree, Option.map_some, Option.isSome_some, DL.put_o, DL.put_b, DL.val_o, DL.val_b, DL.val_d, DL.ends, List.map_cons, List.map_nil, List.cons_append, List.nil_append, List.length_cons, List.length_nil, List.set_cons_zero, List.set_cons_succ, List.set_nil, List.replicate_zero, List.replicate_succ, List.all_cons, List.all_nil, Bool.and_true, Bool.and_self, true_and, and_true, and_self, Nat.reduceAdd, Nat.reduceLT, Nat.reduceLeDiff, Nat.reduceSub, Nat.zero_le, Nat.zero_add, isI, Bool.not_true, okD]
    by_cases h : a ≤ i <;> simp [h]
  | non => simp only [DL.SW_nx, DL.SW_rt, DL.SW_pass, DL.SW_brk, DL.SW_cnt, DL.SW_seq, DL.SW_drop, DL.SW_set, DL.SW_ret, DL.SW_ifS, DL.SW_asg, DL.SW_par2, DL.SW_par3, DL.SW_aug, DL.SW_raise, DL.SW_setIx, DL.SW_for, DL.SW_for0, DL.SW_forS, DL.SW_while, DL.OW_ok, DL.OW_no, DL.OW_var, DL.OW_c, DL.OW_fz, DL.OW_fa, DL.OW_faO_v, DL.OW_faO_f, DL.OW_faO_s, DL.OW_bin, DL.OW_un, DL.OW_tr, DL.OW_te, DL.OW_notT, DL.OW_andT, DL.OW_orT, DL.OW_and, DL.OW_or, DL.OW_not, DL.OW_if, DL.OW_nil, DL.OW_cons, DL.OW_lst, DL.OW_tup, DL.OW_chain, DL.OW_oNo, DL.OW_oSo, DL.OW_sl, DL.OW_new, DL.OW_newO_v, DL.OW_newO_f, DL.OW_newO_s, DL.OW_retO_v, DL.OW_retO_f, DL.OW_retO_s, DL.OW_nNil, DL.OW_nCons, DL.OW_call, DL.OW_iNil, DL.OW_iCons, DL.OW_iLnd, DL.OW_gI, DL.OW_itF, DL.OW_it, DL.OW_rng1, DL.OW_rng2, DL.OW_zipK, DL.OW_enum, DL.OW_enumV, DL.OW_lc, DL.OW_yes, DL.SL_d, DL.SL_o, DL.SL_b, DL.SF_d, DL.SF_o, DL.SRt_d, DL.SRt_o, DL.TB_v, DL.TI_i, DL.L2_2, DL.L3_3, DL.SI_i, DL.SX_o, DL.SX_b, DL.IF_t, DL.IF_f, reduceCtorEq, DL.isi_int_int, DL.isi_int_bl, DL.isi_int_str, DL.isi_int_lst, DL.isi_int_tup, DL.isi_int_non, DL.isi_bool_int, DL.isi_bool_bl, DL.isi_bool_str, DL.isi_bool_lst, DL.isi_bool_tup, DL.isi_bool_non, DL.isi_str_int, DL.isi_str_bl, DL.isi_str_str, DL.isi_str_lst, DL.isi_str_tup, DL.isi_str_non, DL.isi_list_int, DL.isi_list_bl, DL.isi_list_str, DL.isi_list_lst, DL.isi_list_tup, DL.isi_list_non, DL.isi_tuple_int, DL.isi_tuple_bl, DL.isi_tuple_str, DL.isi_tuple_lst, DL.isi_tuple_tup, DL.isi_tuple_non, DL.isi2_int, DL.isi2_bl, DL.isi2_str, DL.isi2_lst, DL.isi2_tup, DL.isi2_non, DL.OB_tuple_l, DL.OB_tuple_t, DL.OB_list_l, DL.OB_list_t, DL.OB_sum, DL.OB_all, DL.OB_any, DL.bls_nil, DL.bls_cons, DL.blsOf_map, DL.ints_nil, DL.ints_cons, DL.intsOf_map, DL.OB_map, DL.OW_lc0, DL.OW_lcY, id, List.all_map, DL.tru_bl, DL.tru_int, DL.tru_lst, DL.tru_tup, DL.tru_non, DL.IF_n, DL.IF_d, DL.OB_some, DL.OB_none, DL.OB_ite, DL.fzT_v, DL.fzT_f, DL.fzT_s, DL.dr_v, DL.dr_f, DL.dr_s, DL.slot_z, DL.slot_s, DL.Sc_v, DL.Sc_s, DL.argsSV_nil, DL.argsSV_d, DL.argsSV_i', DL.SMt_o, DL.SMt_b, DL.pb_nil, DL.pb_nil2, DL.pb_cons, DL.SPt_o, DL.SPt_b, DL.retT_d, DL.retT_o, DL.lS_nil, DL.lS_d, DL.lS_i, DL.lP_nil, DL.lP_d, DL.lP_i, DL.SVl_d, DL.SVl_o, DL.SVl_b, DL.backOf_nil, DL.backOf_cons, DL.sqOf_l, DL.sqOf_t, DL.seqD_l, DL.seqD_t, DL.items_l, DL.items_t, DL.srcOk_n, DL.OB_gN, DL.OB_gK, DL.OB_gCons, DL.OB_gNil, DL.OB_add, DL.OB_sub, DL.OB_mul, DL.OB_mulL, DL.OB_fdiv, DL.OB_mod, DL.OB_pow, DL.OB_shl, DL.OB_bits, DL.OB_sl_l, DL.OB_sl_f, DL.OB_neg, DL.OB_lt, DL.OB_le, DL.OB_gt, DL.OB_ge, DL.OB_eq, DL.OB_ne, DL.eqB_int, DL.eqB_str, DL.OB_is, DL.OB_isn, DL.OB_len_l, DL.OB_len_t, DL.OB_abs, DL.OB_int, DL.OB_intb, DL.OB_ix_l, DL.OB_ix_t, DL.OB_gcd, DL.OB_lcm, DL.OB_max2, DL.OB_min2, DL.isNon, false_implies, implies_true, DL.rng_len, DL.enum_len, DL.zip_len, Int.toNat_natCast, DL.atI0, DL.atI1, DL.nd0, DL.nd1, DL.atI2, DL.ixN_b, DL.ixN_1, DL.ixN_2, DL.wipeE, DL.restE, DL.ownFree, Option.map_some, Option.isSome_some, DL.put_o, DL.put_b, DL.val_o, DL.val_b, DL.val_d, DL.ends, List.map_cons, List.map_nil, List.cons_append, List.nil_append, List.length_cons, List.length_nil, List.set_cons_zero, List.set_cons_succ, List.set_nil, List.replicate_zero, List.replicate_succ, List.all_cons, List.all_nil, Bool.and_true, Bool.and_self, true_and, and_true, and_self, Nat.reduceAdd, Nat.reduceLT, Nat.reduceLeDiff, Nat.reduceSub, Nat.zero_le, Nat.zero_add, isI, Bool.not_false, okD]
  | bl b => simp only [DL.SW_nx, DL.SW_rt, DL.SW_pass, DL.SW_brk, DL.SW_cnt, DL.SW_seq, DL.SW_drop, DL.SW_set, DL.SW_ret, DL.SW_ifS, DL.SW_asg, DL.SW_par2, DL.SW_par3, DL.SW_aug, DL.SW_raise, DL.SW_setIx, DL.SW_for, DL.SW_for0, DL.SW_forS, DL.SW_while, DL.OW_ok, DL.OW_no, DL.OW_var, DL.OW_c, DL.OW_fz, DL.OW_fa, DL.OW_faO_v, DL.OW_faO_f, DL.OW_faO_s, DL.OW_bin, DL.OW_un, DL.OW_tr, DL.OW_te, DL.OW_notT, DL.OW_andT, DL.OW_orT, DL.OW_and, DL.OW_or, DL.OW_not, DL.OW_if, DL.OW_nil, DL.OW_cons, DL.OW_lst, DL.OW_tup, DL.OW_chain, DL.OW_oNo, DL.OW_oSo, DL.OW_sl, DL.OW_new, DL.OW_newO_v, DL.OW_newO_f, DL.OW_newO_s, DL.OW_retO_v, DL.OW_retO_f, DL.OW_retO_s, DL.OW_nNil, DL.OW_nCons, DL.OW_call, DL.OW_iNil, DL.OW_iCons, DL.OW_iLnd, DL.OW_gI, DL.OW_itF, DL.OW_it, DL.OW_rng1, DL.OW_rng2, DL.OW_zipK, DL.OW_enum, DL.OW_enumV, DL.OW_lc, DL.OW_yes, DL.SL_d, DL.SL_o, DL.SL_b, DL.SF_d, DL.SF_o, DL.SRt_d, DL.SRt_o, DL.TB_v, DL.TI_i, DL.L2_2, DL.L3_3, DL.SI_i, DL.SX_o, DL.SX_b, DL.IF_t, DL.IF_f, reduceCtorEq, DL.isi_int_int, DL.isi_int_bl, DL.isi_int_str, DL.isi_int_lst, DL.isi_int_tup, DL.isi_int_non, DL.isi_bool_int, DL.isi_bool_bl, DL.isi_bool_str, DL.isi_bool_lst, DL.isi_bool_tup, DL.isi_bool_non, DL.isi_str_int, DL.isi_str_bl, DL.isi_str_str, DL.isi_str_lst, DL.isi_str_tup, DL.isi_str_non, DL.isi_list_int, DL.isi_list_bl, DL.isi_list_str, DL.isi_list_lst, DL.isi_list_tup, DL.isi_list_non, DL.isi_tuple_int, DL.isi_tuple_bl, DL.isi_tuple_str, DL.isi_tuple_lst, DL.isi_tuple_tup, DL.isi_tuple_non, DL.isi2_int, DL.isi2_bl, DL.isi2_str, DL.isi2_lst, DL.isi2_tup, DL.isi2_non, DL.OB_tuple_l, DL.OB_tuple_t, DL.OB_list_l, DL.OB_list_t, DL.OB_sum, DL.OB_all, DL.OB_any, DL.bls_nil, DL.bls_cons, DL.blsOf_map, DL.ints_nil, DL.ints_cons, DL.intsOf_map, DL.OB_map, DL.OW_lc0, DL.OW_lcY, id, List.all_map, DL.tru_bl, DL.tru_int, DL.tru_lst, DL.tru_tup, DL.tru_non, DL.IF_n, DL.IF_d, DL.OB_some, DL.OB_none, DL.OB_ite, DL.fzT_v, DL.fzT_f, DL.fzT_s, DL.dr_v, DL.dr_f, DL.dr_s, DL.slot_z, DL.slot_s, DL.Sc_v, DL.Sc_s, DL.argsSV_nil, DL.argsSV_d, DL.argsSV_i', DL.SMt_o, DL.SMt_b, DL.pb_nil, DL.pb_nil2, DL.pb_cons, DL.SPt_o, DL.SPt_b, DL.retT_d, DL.retT_o, DL.lS_nil, DL.lS_d, DL.lS_i, DL.lP_nil, DL.lP_d, DL.lP_i, DL.SVl_d, DL.SVl_o, DL.SVl_b, DL.backOf_nil, DL.backOf_cons, DL.sqOf_l, DL.sqOf_t, DL.seqD_l, DL.seqD_t, DL.items_l, DL.items_t, DL.srcOk_n, DL.OB_gN, DL.OB_gK, DL.OB_gCons, DL.OB_gNil, DL.OB_add, DL.OB_sub, DL.OB_mul, DL.OB_mulL, DL.OB_fdiv, DL.OB_mod, DL.OB_pow, DL.OB_shl, DL.OB_bits, DL.OB_sl_l, DL.OB_sl_f, DL.OB_neg, DL.OB_lt, DL.OB_le, DL.OB_gt, DL.OB_ge, DL.OB_eq, DL.OB_ne, DL.eqB_int, DL.eqB_str, DL.OB_is, DL.OB_isn, DL.OB_len_l, DL.OB_len_t, DL.OB_abs, DL.OB_int, DL.OB_intb, DL.OB_ix_l, DL.OB_ix_t, DL.OB_gcd, DL.OB_lcm, DL.OB_max2, DL.OB_min2, DL.isNon, false_implies, implies_true, DL.rng_len, DL.enum_len, DL.zip_len, Int.toNat_natCast, DL.atI0, DL.atI1, DL.nd0, DL.nd1, DL.atI2, DL.ixN_b, DL.ixN_1, DL.ixN_2, DL.wipeE, DL.restE, DL.ownFree, Option.map_some, Option.isSome_some, DL.put_o, DL.put_b, DL.val_o, DL.val_b, DL.val_d, DL.ends, List.map_cons, List.map_nil, List.cons_append, List.nil_append, List.length_cons, List.length_nil, List.set_cons_zero, List.set_cons_succ, List.set_nil, List.replicate_zero, List.replicate_succ, List.all_cons, List.all_nil, Bool.and_true, Bool.and_self, true_and, and_true, and_self, Nat.reduceAdd, Nat.reduceLT, Nat.reduceLeDiff, Nat.reduceSub, Nat.zero_le, Nat.zero_add, isI, Bool.not_false, okD]
  | str x => simp only [DL.SW_nx, DL.SW_rt, DL.SW_pass, DL.SW_brk, DL.SW_cnt, DL.SW_seq, DL.SW_drop, DL.SW_set, DL.SW_ret, DL.SW_ifS, DL.SW_asg, DL.SW_par2, DL.SW_par3, DL.SW_aug, DL.SW_raise, DL.SW_setIx, DL.SW_for, DL.SW_for0, DL.SW_forS, DL.SW_while, DL.OW_ok, DL.OW_no, DL.OW_var, DL.OW_c, DL.OW_fz, DL.OW_fa, DL.OW_faO_v, DL.OW_faO_f, DL.OW_faO_s, DL.OW_bin, DL.OW_un, DL.OW_tr, DL.OW_te, DL.OW_notT, DL.OW_andT, DL.OW_orT, DL.OW_and, DL.OW_or, DL.OW_not, DL.OW_if, DL.OW_nil, DL.OW_cons, DL.OW_lst, DL.OW_tup, DL.OW_chain, DL.OW_oNo, DL.OW_oSo, DL.OW_sl, DL.OW_new, DL.OW_newO_v, DL.OW_newO_f, DL.OW_newO_s, DL.OW_retO_v, DL.OW_retO_f, DL.OW_retO_s, DL.OW_nNil, DL.OW_nCons, DL.OW_call, DL.OW_iNil, DL.OW_iCons, DL.OW_iLnd, DL.OW_gI, DL.OW_itF, DL.OW_it, DL.OW_rng1, DL.OW_rng2, DL.OW_zipK, DL.OW_enum, DL.OW_enumV, DL.OW_lc, DL.OW_yes, DL.SL_d, DL.SL_o, DL.SL_b, DL.SF_d, DL.SF_o, DL.SRt_d, DL.SRt_o, DL.TB_v, DL.TI_i, DL.L2_2, DL.L3_3, DL.SI_i, DL.SX_o, DL.SX_b, DL.IF_t, DL.IF_f, reduceCtorEq, DL.isi_int_int, DL.isi_int_bl, DL.isi_int_str, DL.isi_int_lst, DL.isi_int_tup, DL.isi_int_non, DL.isi_bool_int, DL.isi_bool_bl, DL.isi_bool_str, DL.isi_bool_lst, DL.isi_bool_tup, DL.isi_bool_non, DL.isi_str_int, DL.isi_str_bl, DL.isi_str_str, DL.isi_str_lst, DL.isi_str_tup, DL.isi_str_non, DL.isi_list_int, DL.isi_list_bl, DL.isi_list_str, DL.isi_list_lst, DL.isi_list_tup, DL.isi_list_non, DL.isi_tuple_int, DL.isi_tuple_bl, DL.isi_tuple_str, DL.isi_tuple_lst, DL.isi_tuple_tup, DL.isi_tuple_non, DL.isi2_int, DL.isi2_bl, DL.isi2_str, DL.isi2_lst, DL.isi2_tup, DL.isi2_non, DL.OB_tuple_l, DL.OB_tuple_t, DL.OB_list_l, DL.OB_list_t, DL.OB_sum, DL.OB_all, DL.OB_any, DL.bls_nil, DL.bls_cons, DL.blsOf_map, DL.ints_nil, DL.ints_cons, DL.intsOf_map, DL.OB_map, DL.OW_lc0, DL.OW_lcY, id, List.all_map, DL.tru_bl, DL.tru_int, DL.tru_lst, DL.tru_tup, DL.tru_non, DL.IF_n, DL.IF_d, DL.OB_some, DL.OB_none, DL.OB_ite, DL.fzT_v, DL.fzT_f, DL.fzT_s, DL.dr_v, DL.dr_f, DL.dr_s, DL.slot_z, DL.slot_s, DL.Sc_v, DL.Sc_s, DL.argsSV_nil, DL.argsSV_d, DL.argsSV_i', DL.SMt_o, DL.SMt_b, DL.pb_nil, DL.pb_nil2, DL.pb_cons, DL.SPt_o, DL.SPt_b, DL.retT_d, DL.retT_o, DL.lS_nil, DL.lS_d, DL.lS_i, DL.lP_nil, DL.lP_d, DL.lP_i, DL.SVl_d, DL.SVl_o, DL.SVl_b, DL.backOf_nil, DL.backOf_cons, DL.sqOf_l, DL.sqOf_t, DL.seqD_l, DL.seqD_t, DL.items_l, DL.items_t, DL.srcOk_n, DL.OB_gN, DL.OB_gK, DL.OB_gCons, DL.OB_gNil, DL.OB_add, DL.OB_sub, DL.OB_mul, DL.OB_mulL, DL.OB_fdiv, DL.OB_mod, DL.OB_pow, DL.OB_shl, DL.OB_bits, DL.OB_sl_l, DL.OB_sl_f, DL.OB_neg, DL.OB_lt, DL.OB_le, DL.OB_gt, DL.OB_ge, DL.OB_eq, DL.OB_ne, DL.eqB_int, DL.eqB_str, DL.OB_is, DL.OB_isn, DL.OB_len_l, DL.OB_len_t, DL.OB_abs, DL.OB_int, DL.OB_intb, DL.OB_ix_l, DL.OB_ix_t, DL.OB_gcd, DL.OB_lcm, DL.OB_max2, DL.OB_min2, DL.isNon, false_implies, implies_true, DL.rng_len, DL.enum_len, DL.zip_len, Int.toNat_natCast, DL.atI0, DL.atI1, DL.nd0, DL.nd1, DL.atI2, DL.ixN_b, DL.ixN_1, DL.ixN_2, DL.wipeE, DL.restE, DL.ownFree, Option.map_some, Option.isSome_some, DL.put_o, DL.put_b, DL.val_o, DL.val_b, DL.val_d, DL.ends, List.map_cons, List.map_nil, List.cons_append, List.nil_append, List.length_cons, List.length_nil, List.set_cons_zero, List.set_cons_succ, List.set_nil, List.replicate_zero, List.replicate_succ, List.all_cons, List.all_nil, Bool.and_true, Bool.and_self, true_and, and_true, and_self, Nat.reduceAdd, Nat.reduceLT, Nat.reduceLeDiff, Nat.reduceSub, Nat.zero_le, Nat.zero_add, isI, Bool.not_false, okD]
  | lst ds => simp only [DL.SW_nx, DL.SW_rt, DL.SW_pass, DL.SW_brk, DL.SW_cnt, DL.SW_seq, DL.SW_drop, DL.SW_set, DL.SW_ret, DL.SW_ifS, DL.SW_asg, DL.SW_par2, DL.SW_par3, DL.SW_aug, DL.SW_raise, DL.SW_setIx, DL.SW_for, DL.SW_for0, DL.SW_forS, DL.SW_while, DL.OW_ok, DL.OW_no, DL.OW_var, DL.OW_c, DL.OW_fz, DL.OW_fa, DL.OW_faO_v, DL.OW_faO_f, DL.OW_faO_s, DL.OW_bin, DL.OW_un, DL.OW_tr, DL.OW_te, DL.OW_notT, DL.OW_andT, DL.OW_orT, DL.OW_and, DL.OW_or, DL.OW_not, DL.OW_if, DL.OW_nil, DL.OW_cons, DL.OW_lst, DL.OW_tup, DL.OW_chain, DL.OW_oNo, DL.OW_oSo, DL.OW_sl, DL.OW_new, DL.OW_newO_v, DL.OW_newO_f, DL.OW_newO_s, DL.OW_retO_v, DL.OW_retO_f, DL.OW_retO_s, DL.OW_nNil, DL.OW_nCons, DL.OW_call, DL.OW_iNil, DL.OW_iCons, DL.OW_iLnd, DL.OW_gI, DL.OW_itF, DL.OW_it, DL.OW_rng1, DL.OW_rng2, DL.OW_zipK, DL.OW_enum, DL.OW_enumV, DL.OW_lc, DL.OW_yes, DL.SL_d, DL.SL_o, DL.SL_b, DL.SF_d, DL.SF_o, DL.SRt_d, DL.SRt_o, DL.TB_v, DL.TI_i, DL.L2_2, DL.L3_3, DL.SI_i, DL.SX_o, DL.SX_b, DL.IF_t, DL.IF_f, reduceCtorEq, DL.isi_int_int, DL.isi_int_bl, DL.isi_int_str, DL.isi_int_lst, DL.isi_int_tup, DL.isi_int_non, DL.isi_bool_int, DL.isi_bool_bl, DL.isi_bool_str, DL.isi_bool_lst, DL.isi_bool_tup, DL.isi_bool_non, DL.isi_str_int, DL.isi_str_bl, DL.isi_str_str, DL.isi_str_lst, DL.isi_str_tup, DL.isi_str_non, DL.isi_list_int, DL.isi_list_bl, DL.isi_list_str, DL.isi_list_lst, DL.isi_list_tup, DL.isi_list_non, DL.isi_tuple_int, DL.isi_tuple_bl, DL.isi_tuple_str, DL.isi_tuple_lst, DL.isi_tuple_tup, DL.isi_tuple_non, DL.isi2_int, DL.isi2_bl, DL.isi2_str, DL.isi2_lst, DL.isi2_tup, DL.isi2_non, DL.OB_tuple_l, DL.OB_tuple_t, DL.OB_list_l, DL.OB_list_t, DL.OB_sum, DL.OB_all, DL.OB_any, DL.bls_nil, DL.bls_cons, DL.blsOf_map, DL.ints_nil, DL.ints_cons, DL.intsOf_map, DL.OB_map, DL.OW_lc0, DL.OW_lcY, id, List.all_map, DL.tru_bl, DL.tru_int, DL.tru_lst, DL.tru_tup, DL.tru_non, DL.IF_n, DL.IF_d, DL.OB_some, DL.OB_none, DL.OB_ite, DL.fzT_v, DL.fzT_f, DL.fzT_s, DL.dr_v, DL.dr_f, DL.dr_s, DL.slot_z, DL.slot_s, DL.Sc_v, DL.Sc_s, DL.argsSV_nil, DL.argsSV_d, DL.argsSV_i', DL.SMt_o, DL.SMt_b, DL.pb_nil, DL.pb_nil2, DL.pb_cons, DL.SPt_o, DL.SPt_b, DL.retT_d, DL.retT_o, DL.lS_nil, DL.lS_d, DL.lS_i, DL.lP_nil, DL.lP_d, DL.lP_i, DL.SVl_d, DL.SVl_o, DL.SVl_b, DL.backOf_nil, DL.backOf_cons, DL.sqOf_l, DL.sqOf_t, DL.seqD_l, DL.seqD_t, DL.items_l, DL.items_t, DL.srcOk_n, DL.OB_gN, DL.OB_gK, DL.OB_gCons, DL.OB_gNil, DL.OB_add, DL.OB_sub, DL.OB_mul, DL.OB_mulL, DL.OB_fdiv, DL.OB_mod, DL.OB_pow, DL.OB_shl, DL.OB_bits, DL.OB_sl_l, DL.OB_sl_f, DL.OB_neg, DL.OB_lt, DL.OB_le, DL.OB_gt, DL.OB_ge, DL.OB_eq, DL.OB_ne, DL.eqB_int, DL.eqB_str, DL.OB_is, DL.OB_isn, DL.OB_len_l, DL.OB_len_t, DL.OB_abs, DL.OB_int, DL.OB_intb, DL.OB_ix_l, DL.OB_ix_t, DL.OB_gcd, DL.OB_lcm, DL.OB_max2, DL.OB_min2, DL.isNon, false_implies, implies_true, DL.rng_len, DL.enum_len, DL.zip_len, Int.toNat_natCast, DL.atI0, DL.atI1, DL.nd0, DL.nd1, DL.atI2, DL.ixN_b, DL.ixN_1, DL.ixN_2, DL.wipeE, DL.restE, DL.ownFree, Option.map_some, Option.isSome_some, DL.put_o, DL.put_b, DL.val_o, DL.val_b, DL.val_d, DL.ends, List.map_cons, List.map_nil, List.cons_append, List.nil_append, List.length_cons, List.length_nil, List.set_cons_zero, List.set_cons_succ, List.set_nil, List.replicate_zero, List.replicate_succ, List.all_cons, List.all_nil, Bool.and_true, Bool.and_self, true_and, and_true, and_self, Nat.reduceAdd, Nat.reduceLT, Nat.reduceLeDiff, Nat.reduceSub, Nat.zero_le, Nat.zero_add, isI, Bool.not_false, okD]
  | tup ds => simp only [DL.SW_nx, DL.SW_rt, DL.SW_pass, DL.SW_brk, DL.SW_cnt, DL.SW_seq, DL.SW_drop, DL.SW_set, DL.SW_ret, DL.SW_ifS, DL.SW_asg, DL.SW_par2, DL.SW_par3, DL.SW_aug, DL.SW_raise, DL.SW_setIx, DL.SW_for, DL.SW_for0, DL.SW_forS, DL.SW_while, DL.OW_ok, DL.OW_no, DL.OW_var, DL.OW_c, DL.OW_fz, DL.OW_fa, DL.OW_faO_v, DL.OW_faO_f, DL.OW_faO_s, DL.OW_bin, DL.OW_un, DL.OW_tr, DL.OW_te, DL.OW_notT, DL.OW_andT, DL.OW_orT, DL.OW_and, DL.OW_or, DL.OW_not, DL.OW_if, DL.OW_nil, DL.OW_cons, DL.OW_lst, DL.OW_tup, DL.OW_chain, DL.OW_oNo, DL.OW_oSo, DL.OW_sl, DL.OW_new, DL.OW_newO_v, DL.OW_newO_f, DL.OW_newO_s, DL.OW_retO_v, DL.OW_retO_f, DL.OW_retO_s, DL.OW_nNil, DL.OW_nCons, DL.OW_call, DL.OW_iNil, DL.OW_iCons, DL.OW_iLnd, DL.OW_gI, DL.OW_itF, DL.OW_it, DL.OW_rng1, DL.OW_rng2, DL.OW_zipK, DL.OW_enum, DL.OW_enumV, DL.OW_lc, DL.OW_yes, DL.SL_d, DL.SL_o, DL.SL_b, DL.SF_d, DL.SF_o, DL.SRt_d, DL.SRt_o, DL.TB_v, DL.TI_i, DL.L2_2, DL.L3_3, DL.SI_i, DL.SX_o, DL.SX_b, DL.IF_t, DL.IF_f, reduceCtorEq, DL.isi_int_int, DL.isi_int_bl, DL.isi_int_str, DL.isi_int_lst, DL.isi_int_tup, DL.isi_int_non, DL.isi_bool_int, DL.isi_bool_bl, DL.isi_bool_str, DL.isi_bool_lst, DL.isi_bool_tup, DL.isi_bool_non, DL.isi_str_int, DL.isi_str_bl, DL.isi_str_str, DL.isi_str_lst, DL.isi_str_tup, DL.isi_str_non, DL.isi_list_int, DL.isi_list_bl, DL.isi_list_str, DL.isi_list_lst, DL.isi_list_tup, DL.isi_list_non, DL.isi_tuple_int, DL.isi_tuple_bl, DL.isi_tuple_str, DL.isi_tuple_lst, DL.isi_tuple_tup, DL.isi_tuple_non, DL.isi2_int, DL.isi2_bl, DL.isi2_str, DL.isi2_lst, DL.isi2_tup, DL.isi2_non, DL.OB_tuple_l, DL.OB_tuple_t, DL.OB_list_l, DL.OB_list_t, DL.OB_sum, DL.OB_all, DL.OB_any, DL.bls_nil, DL.bls_cons, DL.blsOf_map, DL.ints_nil, DL.ints_cons, DL.intsOf_map, DL.OB_map, DL.OW_lc0, DL.OW_lcY, id, List.all_map, DL.tru_bl, DL.tru_int, DL.tru_lst, DL.tru_tup, DL.tru_non, DL.IF_n, DL.IF_d, DL.OB_some, DL.OB_none, DL.OB_ite, DL.fzT_v, DL.fzT_f, DL.fzT_s, DL.dr_v, DL.dr_f, DL.dr_s, DL.slot_z, DL.slot_s, DL.Sc_v, DL.Sc_s, DL.argsSV_nil, DL.argsSV_d, DL.argsSV_i', DL.SMt_o, DL.SMt_b, DL.pb_nil, DL.pb_nil2, DL.pb_cons, DL.SPt_o, DL.SPt_b, DL.retT_d, DL.retT_o, DL.lS_nil, DL.lS_d, DL.lS_i, DL.lP_nil, DL.lP_d, DL.lP_i, DL.SVl_d, DL.SVl_o, DL.SVl_b, DL.backOf_nil, DL.backOf_cons, DL.sqOf_l, DL.sqOf_t, DL.seqD_l, DL.seqD_t, DL.items_l, DL.items_t, DL.srcOk_n, DL.OB_gN, DL.OB_gK, DL.OB_gCons, DL.OB_gNil, DL.OB_add, DL.OB_sub, DL.OB_mul, DL.OB_mulL, DL.OB_fdiv, DL.OB_mod, DL.OB_pow, DL.OB_shl, DL.OB_bits, DL.OB_sl_l, DL.OB_sl_f, DL.OB_neg, DL.OB_lt, DL.OB_le, DL.OB_gt, DL.OB_ge, DL.OB_eq, DL.OB_ne, DL.eqB_int, DL.eqB_str, DL.OB_is, DL.OB_isn, DL.OB_len_l, DL.OB_len_t, DL.OB_abs, DL.OB_int, DL.OB_intb, DL.OB_ix_l, DL.OB_ix_t, DL.OB_gcd, DL.OB_lcm, DL.OB_max2, DL.OB_min2, DL.isNon, false_implies, implies_true, DL.rng_len, DL.enum_len, DL.zip_len, Int.toNat_natCast, DL.atI0, DL.atI1, DL.nd0, DL.nd1, DL.atI2, DL.ixN_b, DL.ixN_1, DL.ixN_2, DL.wipeE, DL.restE, DL.ownFree, Option.map_some, Option.isSome_some, DL.put_o, DL.put_b, DL.val_o, DL.val_b, DL.val_d, DL.ends, List.map_cons, List.map_nil, List.cons_append, List.nil_append, List.length_cons, List.length_nil, List.set_cons_zero, List.set_cons_succ, List.set_nil, List.replicate_zero, List.replicate_succ, List.all_cons, List.all_nil, Bool.and_true, Bool.and_self, true_and, and_true, and_self, Nat.reduceAdd, Nat.reduceLT, Nat.reduceLeDiff, Nat.reduceSub, Nat.zero_le, Nat.zero_add, isI, Bool.not_false, okD]
  | _ => exact h.elim
theorem is_row_s {d : D} {ds : List D} {a b : Int} (h : Sq d ds) : FW (mf_is_row [.d d, .d (.int a), .d (.int b)]) Q E = Q (.d (.bl (decide (a ≤ (ds.length : Nat)) && decide (((ds.length : Nat) : Int) ≤ b)))) [] := by
  unfold mf_is_row
  rw [FW_run]
  unfold m_is_row
  simp only [show N_is_row.length = 3 from rfl]
  rcases h with rfl | rfl
  all_goals
    simp only [DL.SW_nx, DL.SW_rt, DL.SW_pass, DL.SW_brk, DL.SW_cnt, DL.SW_seq, DL.SW_drop, DL.SW_set, DL.SW_ret, DL.SW_ifS, DL.SW_asg, DL.SW_par2, DL.SW_par3, DL.SW_aug, DL.SW_raise, DL.SW_setIx, DL.SW_for, DL.SW_for0, DL.SW_forS, DL.SW_while, DL.OW_ok, DL.OW_no, DL.OW_var, DL.OW_c, DL.OW_fz, DL.OW_fa, DL.OW_faO_v, DL.OW_faO_f, DL.OW_faO_s, DL.OW_bin, DL.OW_un, DL.OW_tr, DL.OW_te, DL.OW_notT, DL.OW_andT, DL.OW_orT, DL.OW_and, DL.OW_or, DL.OW_not, DL.OW_if, DL.OW_nil, DL.OW_cons, DL.OW_lst, DL.OW_tup, DL.OW_chain, DL.OW_oNo, DL.OW_oSo, DL.OW_sl, DL.OW_new, DL.OW_newO_v, DL.OW_newO_f, DL.OW_newO_s, DL.OW_retO_v, DL.OW_retO_f, DL.OW_retO_s, DL.OW_nNil, DL.OW_nCons, DL.OW_call, DL.OW_iNil, DL.OW_iCons, DL.OW_iLnd, DL.OW_gI, DL.OW_itF, DL.OW_it, DL.OW_rng1, DL.OW_rng2, DL.OW_zipK, DL.OW_enum, DL.OW_enumV, DL.OW_lc, DL.OW_yes, DL.SL_d, DL.SL_o, DL.SL_b, DL.SF_d, DL.SF_o, DL.SRt_d, DL.SRt_o, DL.TB_v, DL.TI_i, DL.L2_2, DL.L3_3, DL.SI_i, DL.SX_o, DL.SX_b, DL.IF_t, DL.IF_f, reduceCtorEq, DL.isi_int_int, DL.isi_int_bl, DL.isi_int_str, DL.isi_int_lst, DL.isi_int_tup, DL.isi_int_non, DL.isi_bool_int, DL.isi_bool_bl, DL.isi_bool_str, DL.isi_bool_lst, DL.isi_bool_tup, DL.isi_bool_non, DL.isi_str_int, DL.isi_str_bl, DL.isi_str_str, DL.isi_str_lst, DL.isi_str_tup, DL.isi_str_non, DL.isi_list_int, DL.isi_list_bl, DL.isi_list_str, DL.isi_list_lst, DL.isi_list_tup, DL.isi_list_non, DL.isi_tuple_int, DL.isi_tuple_bl, DL.isi_tuple_str, DL.isi_tuple_lst, DL.isi_tuple_tup, DL.isi_tuple_non, DL.isi2_int, DL.isi2_bl, DL.isi2_str, DL.isi2_lst, DL.isi2_tup, DL.isi2_non, DL.OB_tuple_l, DL.OB_tuple_t, DL.OB_list_l, DL.OB_list_t, DL.OB_sum, DL.OB_all, DL.OB_any, DL.bls_nil, DL.bls_cons, DL.blsOf_map, DL.ints_nil, DL.ints_cons, DL.intsOf_map, DL.OB_map, DL.OW_lc0, DL.OW_lcY, id, List.all_map, DL.tru_bl, DL.tru_int, DL.tru_lst, DL.tru_tup, DL.tru_non, DL.IF_n, DL.IF_d, DL.OB_some, DL.OB_none, DL.OB_ite, DL.fzT_v, DL.fzT_f, DL.fzT_s, DL.dr_v, DL.dr_f, DL.dr_s, DL.slot_z, DL.slot_s, DL.Sc_v, DL.Sc_s, DL.argsSV_nil, DL.argsSV_d, DL.argsSV_i', DL.SMt_o, DL.SMt_b, DL.pb_nil, DL.pb_nil2, DL.pb_cons, DL.SPt_o, DL.SPt_b, DL.retT_d, DL.retT_o, DL.lS_nil, DL.lS_d, DL.lS_i, DL.lP_nil, DL.lP_d, DL.lP_i, DL.SVl_d, DL.SVl_o, DL.SVl_b, DL.backOf_nil, DL.backOf_cons, DL.sqOf_l, DL.sqOf_t, DL.seqD_l, DL.seqD_t, DL.items_l, DL.items_t, DL.srcOk_n, DL.OB_gN, DL.OB_gK, DL.OB_gCons, DL.OB_gNil, DL.OB_add, DL.OB_sub, DL.OB_mul, DL.OB_mulL, DL.OB_fdiv, DL.OB_mod, DL.OB_pow, DL.OB_shl, DL.OB_bits, DL.OB_sl_l, DL.OB_sl_f, DL.OB_neg, DL.OB_lt, DL.OB_le, DL.OB_gt, DL.OB_ge, DL.OB_eq, DL.OB_ne, DL.eqB_int, DL.eqB_str, DL.OB_is, DL.OB_isn, DL.OB_len_l, DL.OB_len_t, DL.OB_abs, DL.OB_int, DL.OB_intb, DL.OB_ix_l, DL.OB_ix_t, DL.OB_gcd, DL.OB_lcm, DL.OB_max2, DL.OB_min2, DL.isNon, false_implies, implies_true, DL.rng_len, DL.enum_len, DL.zip_len, Int.toNat_natCast, DL.atI0, DL.atI1, DL.nd0, DL.nd1, DL.atI2, DL.ixN_b, DL.ixN_1, DL.ixN_2, DL.wipeE, DL.restE, DL.ownFree, Option.map_some, Option.isSome_some, DL.put_o, DL.put_b, DL.val_o, DL.val_b, DL.val_d, DL.ends, List.map_cons, List.map_nil, List.cons_append, List.nil_append, List.length_cons, List.length_nil, List.set_cons_zero, List.set_cons_succ, List.set_nil, List.replicate_zero, List.replicate_succ, List.all_cons, List.all_nil, Bool.and_true, Bool.and_self, true_and, and_true, and_self, Nat.reduceAdd, Nat.reduceLT, Nat.reduceLeDiff, Nat.reduceSub, Nat.zero_le, Nat.zero_add]
    by_cases h : a ≤ (ds.length : Nat) <;> simp [h]
theorem is_row_n {d : D} {a b : D} (h : Kd d) (h2 : ∀ ds, ¬ Sq d ds) : FW (mf_is_row [.d d, .d a, .d b]) Q E = Q (.d (.bl false)) [] := by
  unfold mf_is_row
  rw [FW_run]
  unfold m_is_row
  simp only [show N_is_row.length = 3 from rfl]
  cases d with
  | non => simp only [DL.SW_nx, DL.SW_rt, DL.SW_pass, DL.SW_brk, DL.SW_cnt, DL.SW_seq, DL.SW_drop, DL.SW_set, DL.SW_ret, DL.SW_ifS, DL.SW_asg, DL.SW_par2, DL.SW_par3, DL.SW_aug, DL.SW_raise, DL.SW_setIx, DL.SW_for, DL.SW_for0, DL.SW_forS, DL.SW_while, DL.OW_ok, DL.OW_no, DL.OW_var, DL.OW_c, DL.OW_fz, DL.OW_fa, DL.OW_faO_v, DL.OW_faO_f, DL.OW_faO_s, DL.OW_bin, DL.OW_un, DL.OW_tr, DL.OW_te, DL.OW_notT, DL.OW_andT, DL.OW_orT, DL.OW_and, DL.OW_or, DL.OW_not, DL.OW_if, DL.OW_nil, DL.OW_cons, DL.OW_lst, DL.OW_tup, DL.OW_chain, DL.OW_oNo, DL.OW_oSo, DL.OW_sl, DL.OW_new, DL.OW_newO_v, DL.OW_newO_f, DL.OW_newO_s, DL.OW_retO_v, DL.OW_retO_f, DL.OW_retO_s, DL.OW_nNil, DL.OW_nCons, DL.OW_call, DL.OW_iNil, DL.OW_iCons, DL.OW_iLnd, DL.OW_gI, DL.OW_itF, DL.OW_it, DL.OW_rng1, DL.OW_rng2, DL.OW_zipK, DL.OW_enum, DL.OW_enumV, DL.OW_lc, DL.OW_yes, DL.SL_d, DL.SL_o, DL.SL_b, DL.SF_d, DL.SF_o, DL.SRt_d, DL.SRt_o, DL.TB_v, DL.TI_i, DL.L2_2, DL.L3_3, DL.SI_i, DL.SX_o, DL.SX_b, DL.IF_t, DL.IF_f, reduceCtorEq, DL.isi_int_int, DL.isi_int_bl, DL.isi_int_str, DL.isi_int_lst, DL.isi_int_tup, DL.isi_int_non, DL.isi_bool_int, DL.isi_bool_bl, DL.isi_bool_str, DL.isi_bool_lst, DL.isi_bool_tup, DL.isi_bool_non, DL.isi_str_int, DL.isi_str_bl, DL.isi_str_str, DL.isi_str_lst, DL.isi_str_tup, DL.isi_str_non, DL.isi_list_int, DL.isi_list_bl, DL.isi_list_str, DL.isi_list_lst, DL.isi_list_tup, DL.isi_list_non, DL.isi_tuple_int, DL.isi_tuple_bl, DL.isi_tuple_str, DL.isi_tuple_lst, DL.isi_tuple_tup, DL.isi_tuple_non, DL.isi2_int, DL.isi2_bl, DL.isi2_str, DL.isi2_lst, DL.isi2_tup, DL.isi2_non, DL.OB_tuple_l, DL.OB_tuple_t, DL.OB_list_l, DL.OB_list_t, DL.OB_sum, DL.OB_all, DL.OB_any, DL.bls_nil, DL.bls_cons, DL.blsOf_map, DL.ints_nil, DL.ints_cons, DL.intsOf_map, DL.OB_map, DL.OW_lc0, DL.OW_lcY, id, List.all_map, DL.tru_bl, DL.tru_int, DL.tru_lst, DL.tru_tup, DL.tru_non, DL.IF_n, DL.IF_d, DL.OB_some, DL.OB_none, DL.OB_ite, DL.fzT_v, DL.fzT_f, DL.fzT_s, DL.dr_v, DL.dr_f, DL.dr_s, DL.slot_z, DL.slot_s, DL.Sc_v, DL.Sc_s, DL.argsSV_nil, DL.argsSV_d, DL.argsSV_i', DL.SMt_o, DL.SMt_b, DL.pb_nil, DL.pb_nil2, DL.pb_cons, DL.SPt_o, DL.SPt_b, DL.retT_d, DL.retT_o, DL.lS_nil, DL.lS_d, DL.lS_i, DL.lP_nil, DL.lP_d, DL.lP_i, DL.SVl_d, DL.SVl_o, DL.SVl_b, DL.backOf_nil, DL.backOf_cons, DL.sqOf_l, DL.sqOf_t, DL.seqD_l, DL.seqD_t, DL.items_l, DL.items_t, DL.srcOk_n, DL.OB_gN, DL.OB_gK, DL.OB_gCons, DL.OB_gNil, DL.OB_add, DL.OB_sub, DL.OB_mul, DL.OB_mulL, DL.OB_fdiv, DL.OB_mod, DL.OB_pow, DL.OB_shl, DL.OB_bits, DL.OB_sl_l, DL.OB_sl_f, DL.OB_neg, DL.OB_lt, DL.OB_le, DL.OB_gt, DL.OB_ge, DL.OB_eq, DL.OB_ne, DL.eqB_int, DL.eqB_str, DL.OB_is, DL.OB_isn, DL.OB_len_l, DL.OB_len_t, DL.OB_abs, DL.OB_int, DL.OB_intb, DL.OB_ix_l, DL.OB_ix_t, DL.OB_gcd, DL.OB_lcm, DL.OB_max2, DL.OB_min2, DL.isNon, false_implies, implies_true, DL.rng_len, DL.enum_len, DL.zip_len, Int.toNat_natCast, DL.atI0, DL.atI1, DL.nd0, DL.nd1, DL.atI2, DL.ixN_b, DL.ixN_1, DL.ixN_2, DL.wipeE, DL.restE, DL.ownFree, Option.map_some, Option.isSome_some, DL.put_o, DL.put_b, DL.val_o, DL.val_b, DL.val_d, DL.ends, List.map_cons, List.map_nil, List.cons_append, List.nil_append, List.length_cons, List.length_nil, List.set_cons_zero, List.set_cons_succ, List.set_nil, List.replicate_zero, List.replicate_succ, List.all_cons, List.all_nil, Bool.and_true, Bool.and_self, true_and, and_true, and_self, Nat.reduceAdd, Nat.reduceLT, Nat.reduceLeDiff, Nat.reduceSub, Nat.zero_le, Nat.zero_add]
  | bl b => simp only [DL.SW_nx, DL.SW_rt, DL.SW_pass, DL.SW_brk, DL.SW_cnt, DL.SW_seq, DL.SW_drop, DL.SW_set, DL.SW_ret, DL.SW_ifS, DL.SW_asg, DL.SW_par2, DL.SW_par3, DL.SW_aug, DL.SW_raise, DL.SW_setIx, DL.SW_for, DL.SW_for0, DL.SW_forS, DL.SW_while, DL.OW_ok, DL.OW_no, DL.OW_var, DL.OW_c, DL.OW_fz, DL.OW_fa, DL.OW_faO_v, DL.OW_faO_f, DL.OW_faO_s, DL.OW_bin, DL.OW_un, DL.OW_tr, DL.OW_te, DL.OW_notT, DL.OW_andT, DL.OW_orT, DL.OW_and, DL.OW_or, DL.OW_not, DL.OW_if, DL.OW_nil, DL.OW_cons, DL.OW_lst, DL.OW_tup, DL.OW_chain, DL.OW_oNo, DL.OW_oSo, DL.OW_sl, DL.OW_new, DL.OW_newO_v, DL.OW_newO_f, DL.OW_newO_s, DL.OW_retO_v, DL.OW_retO_f, DL.OW_retO_s, DL.OW_nNil, DL.OW_nCons, DL.OW_call, DL.OW_iNil, DL.OW_iCons, DL.OW_iLnd, DL.OW_gI, DL.OW_itF, DL.OW_it, DL.OW_rng1, DL.OW_rng2, DL.OW_zipK, DL.OW_enum, DL.OW_enumV, DL.OW_lc, DL.OW_yes, DL.SL_d, DL.SL_o, DL.SL_b, DL.SF_d, DL.SF_o, DL.SRt_d, DL.SRt_o, DL.TB_v, DL.TI_i, DL.L2_2, DL.L3_3, DL.SI_i, DL.SX_o, DL.SX_b, DL.IF_t, DL.IF_f, reduceCtorEq, DL.isi_int_int, DL.isi_int_bl, DL.isi_int_str, DL.isi_int_lst, DL.isi_int_tup, DL.isi_int_non, DL.isi_bool_int, DL.isi_bool_bl, DL.isi_bool_str, DL.isi_bool_lst, DL.isi_bool_tup, DL.isi_bool_non, DL.isi_str_int, DL.isi_str_bl, DL.isi_str_str, DL.isi_str_lst, DL.isi_str_tup, DL.isi_str_non, DL.isi_list_int, DL.isi_list_bl, DL.isi_list_str, DL.isi_list_lst, DL.isi_list_tup, DL.isi_list_non, DL.isi_tuple_int, DL.isi_tuple_bl, DL.isi_tuple_str, DL.isi_tuple_lst, DL.isi_tuple_tup, DL.isi_tuple_non, DL.isi2_int, DL.isi2_bl, DL.isi2_str, DL.isi2_lst, DL.isi2_tup, DL.isi2_non, DL.OB_tuple_l, DL.OB_tuple_t, DL.OB_list_l, DL.OB_list_t, DL.OB_sum, DL.OB_all, DL.OB_any, DL.bls_nil, DL.bls_cons, DL.blsOf_map, DL.ints_nil, DL.ints_cons, DL.intsOf_map, DL.OB_map, DL.OW_lc0, DL.OW_lcY, id, List.all_map, DL.tru_bl, DL.tru_int, DL.tru_lst, DL.tru_tup, DL.tru_non, DL.IF_n, DL.IF_d, DL.OB_some, DL.OB_none, DL.OB_ite, DL.fzT_v, DL.fzT_f, DL.fzT_s, DL.dr_v, DL.dr_f, DL.dr_s, DL.slot_z, DL.slot_s, DL.Sc_v, DL.Sc_s, DL.argsSV_nil, DL.argsSV_d, DL.argsSV_i', DL.SMt_o, DL.SMt_b, DL.pb_nil, DL.pb_nil2, DL.pb_cons, DL.SPt_o, DL.SPt_b, DL.retT_d, DL.retT_o, DL.lS_nil, DL.lS_d, DL.lS_i, DL.lP_nil, DL.lP_d, DL.lP_i, DL.SVl_d, DL.SVl_o, DL.SVl_b, DL.backOf_nil, DL.backOf_cons, DL.sqOf_l, DL.sqOf_t, DL.seqD_l, DL.seqD_t, DL.items_l, DL.items_t, DL.srcOk_n, DL.OB_gN, DL.OB_gK, DL.OB_gCons, DL.OB_gNil, DL.OB_add, DL.OB_sub, DL.OB_mul, DL.OB_mulL, DL.OB_fdiv, DL.OB_mod, DL.OB_pow, DL.OB_shl, DL.OB_bits, DL.OB_sl_l, DL.OB_sl_f, DL.OB_neg, DL.OB_lt, DL.OB_le, DL.OB_gt, DL.OB_ge, DL.OB_eq, DL.OB_ne, DL.eqB_int, DL.eqB_str, DL.OB_is, DL.OB_isn, DL.OB_len_l, DL.OB_len_t, DL.OB_abs, DL.OB_int, DL.OB_intb, DL.OB_ix_l, DL.OB_ix_t, DL.OB_gcd, DL.OB_lcm, DL.OB_max2, DL.OB_min2, DL.isNon, false_implies, implies_true, DL.rng_len, DL.enum_len, DL.zip_len, Int.toNat_natCast, DL.atI0, DL.atI1, DL.nd0, DL.nd1, DL.atI2, DL.ixN_b, DL.ixN_1, DL.ixN_2, DL.wipeE, DL.restE, DL.ownFree, Option.map_some, Option.isSome_some, DL.put_o, DL.put_b, DL.val_o, DL.val_b, DL.val_d, DL.ends, List.map_cons, List.map_nil, List.cons_append, List.nil_append, List.length_cons, List.length_nil, List.set_cons_zero, List.set_cons_succ, List.set_nil, List.replicate_zero, List.replicate_succ, List.all_cons, List.all_nil, Bool.and_true, Bool.and_self, true_and, and_true, and_self, Nat.reduceAdd, Nat.reduceLT, Nat.reduceLeDiff, Nat.reduceSub, Nat.zero_le, Nat.zero_add]
  | int i => simp only [DL.SW_nx, DL.SW_rt, DL.SW_pass, DL.SW_brk, DL.SW_cnt, DL.SW_seq, DL.SW_drop, DL.SW_set, DL.SW_ret, DL.SW_ifS, DL.SW_asg, DL.SW_par2, DL.SW_par3, DL.SW_aug, DL.SW_raise, DL.SW_setIx, DL.SW_for, DL.SW_for0, DL.SW_forS, DL.SW_while, DL.OW_ok, DL.OW_no, DL.OW_var, DL.OW_c, DL.OW_fz, DL.OW_fa, DL.OW_faO_v, DL.OW_faO_f, DL.OW_faO_s, DL.OW_bin, DL.OW_un, DL.OW_tr, DL.OW_te, DL.OW_notT, DL.OW_andT, DL.OW_orT, DL.OW_and, DL.OW_or, DL.OW_not, DL.OW_if, DL.OW_nil, DL.OW_cons, DL.OW_lst, DL.OW_tup, DL.OW_chain, DL.OW_oNo, DL.OW_oSo, DL.OW_sl, DL.OW_new, DL.OW_newO_v, DL.OW_newO_f, DL.OW_newO_s, DL.OW_retO_v, DL.OW_retO_f, DL.OW_retO_s, DL.OW_nNil, DL.OW_nCons, DL.OW_call, DL.OW_iNil, DL.OW_iCons, DL.OW_iLnd, DL.OW_gI, DL.OW_itF, DL.OW_it, DL.OW_rng1, DL.OW_rng2, DL.OW_zipK, DL.OW_enum, DL.OW_enumV, DL.OW_lc, DL.OW_yes, DL.SL_d, DL.SL_o, DL.SL_b, DL.SF_d, DL.SF_o, DL.SRt_d, DL.SRt_o, DL.TB_v, DL.TI_i, DL.L2_2, DL.L3_3, DL.SI_i, DL.SX_o, DL.SX_b, DL.IF_t, DL.IF_f, reduceCtorEq, DL.isi_int_int, DL.isi_int_bl, DL.isi_int_str, DL.isi_int_lst, DL.isi_int_tup, DL.isi_int_non, DL.isi_bool_int, DL.isi_bool_bl, DL.isi_bool_str, DL.isi_bool_lst, DL.isi_bool_tup, DL.isi_bool_non, DL.isi_str_int, DL.isi_str_bl, DL.isi_str_str, DL.isi_str_lst, DL.isi_str_tup, DL.isi_str_non, DL.isi_list_int, DL.isi_list_bl, DL.isi_list_str, DL.isi_list_lst, DL.isi_list_tup, DL.isi_list_non, DL.isi_tuple_int, DL.isi_tuple_bl, DL.isi_tuple_str, DL.isi_tuple_lst, DL.isi_tuple_tup, DL.isi_tuple_non, DL.isi2_int, DL.isi2_bl, DL.isi2_str, DL.isi2_lst, DL.isi2_tup, DL.isi2_non, DL.OB_tuple_l, DL.OB_tuple_t, DL.OB_list_l, DL.OB_list_t, DL.OB_sum, DL.OB_all, DL.OB_any, DL.bls_nil, DL.bls_cons, DL.blsOf_map, DL.ints_nil, DL.ints_cons, DL.intsOf_map, DL.OB_map, DL.OW_lc0, DL.OW_lcY, id, List.all_map, DL.tru_bl, DL.tru_int, DL.tru_lst, DL.tru_tup, DL.tru_non, DL.IF_n, DL.IF_d, DL.OB_some, DL.OB_none, DL.OB_ite, DL.fzT_v, DL.fzT_f, DL.fzT_s, DL.dr_v, DL.dr_f, DL.dr_s, DL.slot_z, DL.slot_s, DL.Sc_v, DL.Sc_s, DL.argsSV_nil, DL.argsSV_d, DL.argsSV_i', DL.SMt_o, DL.SMt_b, DL.pb_nil, DL.pb_nil2, DL.pb_cons, DL.SPt_o, DL.SPt_b, DL.retT_d, DL.retT_o, DL.lS_nil, DL.lS_d, DL.lS_i, DL.lP_nil, DL.lP_d, DL.lP_i, DL.SVl_d, DL.SVl_o, DL.SVl_b, DL.backOf_nil, DL.backOf_cons, DL.sqOf_l, DL.sqOf_t, DL.seqD_l, DL.seqD_t, DL.items_l, DL.items_t, DL.srcOk_n, DL.OB_gN, DL.OB_gK, DL.OB_gCons, DL.OB_gNil, DL.OB_add, DL.OB_sub, DL.OB_mul, DL.OB_mulL, DL.OB_fdiv, DL.OB_mod, DL.OB_pow, DL.OB_shl, DL.OB_bits, DL.OB_sl_l, DL.OB_sl_f, DL.OB_neg, DL.OB_lt, DL.OB_le, DL.OB_gt, DL.OB_ge, DL.OB_eq, DL.OB_ne, DL.eqB_int, DL.eqB_str, DL.OB_is, DL.OB_isn, DL.OB_len_l, DL.OB_len_t, DL.OB_abs, DL.OB_int, DL.OB_intb, DL.OB_ix_l, DL.OB_ix_t, DL.OB_gcd, DL.OB_lcm, DL.OB_max2, DL.OB_min2, DL.isNon, false_implies, implies_true, DL.rng_len, DL.enum_len, DL.zip_len, Int.toNat_natCast, DL.atI0, DL.atI1, DL.nd0, DL.nd1, DL.atI2, DL.ixN_b, DL.ixN_1, DL.ixN_2, DL.wipeE, DL.restE, DL.ownFree, Option.map_some, Option.isSome_some, DL.put_o, DL.put_b, DL.val_o, DL.val_b, DL.val_d, DL.ends, List.map_cons, List.map_nil, List.cons_append, List.nil_append, List.length_cons, List.length_nil, List.set_cons_zero, List.set_cons_succ, List.set_nil, List.replicate_zero, List.replicate_succ, List.all_cons, List.all_nil, Bool.and_true, Bool.and_self, true_and, and_true, and_self, Nat.reduceAdd, Nat.reduceLT, Nat.reduceLeDiff, Nat.reduceSub, Nat.zero_le, Nat.zero_add]
  | str x => simp only [DL.SW_nx, DL.SW_rt, DL.SW_pass, DL.SW_brk, DL.SW_cnt, DL.SW_seq, DL.SW_drop, DL.SW_set, DL.SW_ret, DL.SW_ifS, DL.SW_asg, DL.SW_par2, DL.SW_par3, DL.SW_aug, DL.SW_raise, DL.SW_setIx, DL.SW_for, DL.SW_for0, DL.SW_forS, DL.SW_while, DL.OW_ok, DL.OW_no, DL.OW_var, DL.OW_c, DL.OW_fz, DL.OW_fa, DL.OW_faO_v, DL.OW_faO_f, DL.OW_faO_s, DL.OW_bin, DL.OW_un, DL.OW_tr, DL.OW_te, DL.OW_notT, DL.OW_andT, DL.OW_orT, DL.OW_and, DL.OW_or, DL.OW_not, DL.OW_if, DL.OW_nil, DL.OW_cons, DL.OW_lst, DL.OW_tup, DL.OW_chain, DL.OW_oNo, DL.OW_oSo, DL.OW_sl, DL.OW_new, DL.OW_newO_v, DL.OW_newO_f, DL.OW_newO_s, DL.OW_retO_v, DL.OW_retO_f, DL.OW_retO_s, DL.OW_nNil, DL.OW_nCons, DL.OW_call, DL.OW_iNil, DL.OW_iCons, DL.OW_iLnd, DL.OW_gI, DL.OW_itF, DL.OW_it, DL.OW_rng1, DL.OW_rng2, DL.OW_zipK, DL.OW_enum, DL.OW_enumV, DL.OW_lc, DL.OW_yes, DL.SL_d, DL.SL_o, DL.SL_b, DL.SF_d, DL.SF_o, DL.SRt_d, DL.SRt_o, DL.TB_v, DL.TI_i, DL.L2_2, DL.L3_3, DL.SI_i, DL.SX_o, DL.SX_b, DL.IF_t, DL.IF_f, reduceCtorEq, DL.isi_int_int, DL.isi_int_bl, DL.isi_int_str, DL.isi_int_lst, DL.isi_int_tup, DL.isi_int_non, DL.isi_bool_int, DL.isi_bool_bl, DL.isi_bool_str, DL.isi_bool_lst, DL.isi_bool_tup, DL.isi_bool_non, DL.isi_str_int, DL.isi_str_bl, DL.isi_str_str, DL.isi_str_lst, DL.isi_str_tup, DL.isi_str_non, DL.isi_list_int, DL.isi_list_bl, DL.isi_list_str, DL.isi_list_lst, DL.isi_list_tup, DL.isi_list_non, DL.isi_tuple_int, DL.isi_tuple_bl, DL.isi_tuple_str, DL.isi_tuple_lst, DL.isi_tuple_tup, DL.isi_tuple_non, DL.isi2_int, DL.isi2_bl, DL.isi2_str, DL.isi2_lst, DL.isi2_tup, DL.isi2_non, DL.OB_tuple_l, DL.OB_tuple_t, DL.OB_list_l, DL.OB_list_t, DL.OB_sum, DL.OB_all, DL.OB_any, DL.bls_nil, DL.bls_cons, DL.blsOf_map, DL.ints_nil, DL.ints_cons, DL.intsOf_map, DL.OB_map, DL.OW_lc0, DL.OW_lcY, id, List.all_map, DL.tru_bl, DL.tru_int, DL.tru_lst, DL.tru_tup, DL.tru_non, DL.IF_n, DL.IF_d, DL.OB_some, DL.OB_none, DL.OB_ite, DL.fzT_v, DL.fzT_f, DL.fzT_s, DL.dr_v, DL.dr_f, DL.dr_s, DL.slot_z, DL.slot_s, DL.Sc_v, DL.Sc_s, DL.argsSV_nil, DL.argsSV_d, DL.argsSV_i', DL.SMt_o, DL.SMt_b, DL.pb_nil, DL.pb_nil2, DL.pb_cons, DL.SPt_o, DL.SPt_b, DL.retT_d, DL.retT_o, DL.lS_nil, DL.lS_d, DL.lS_i, DL.lP_nil, DL.lP_d, DL.lP_i, DL.SVl_d, DL.SVl_o, DL.SVl_b, DL.backOf_nil, DL.backOf_cons, DL.sqOf_l, DL.sqOf_t, DL.seqD_l, DL.seqD_t, DL.items_l, DL.items_t, DL.srcOk_n, DL.OB_gN, DL.OB_gK, DL.OB_gCons, DL.OB_gNil, DL.OB_add, DL.OB_sub, DL.OB_mul, DL.OB_mulL, DL.OB_fdiv, DL.OB_mod, DL.OB_pow, DL.OB_shl, DL.OB_bits, DL.OB_sl_l, DL.OB_sl_f, DL.OB_neg, DL.OB_lt, DL.OB_le, DL.OB_gt, DL.OB_ge, DL.OB_eq, DL.OB_ne, DL.eqB_int, DL.eqB_str, DL.OB_is, DL.OB_isn, DL.OB_len_l, DL.OB_len_t, DL.OB_abs, DL.OB_int, DL.OB_intb, DL.OB_ix_l, DL.OB_ix_t, DL.OB_gcd, DL.OB_lcm, DL.OB_max2, DL.OB_min2, DL.isNon, false_implies, implies_true, DL.rng_len, DL.enum_len, DL.zip_len, Int.toNat_natCast, DL.atI0, DL.atI1, DL.nd0, DL.nd1, DL.atI2, DL.ixN_b, DL.ixN_1, DL.ixN_2, DL.wipeE, DL.restE, DL.ownFree, Option.map_some, Option.isSome_some, DL.put_o, DL.put_b, DL.val_o, DL.val_b, DL.val_d, DL.ends, List.map_cons, List.map_nil, List.cons_append, List.nil_append, List.length_cons, List.length_nil, List.set_cons_zero, List.set_cons_succ, List.set_nil, List.replicate_zero, List.replicate_succ, List.all_cons, List.all_nil, Bool.and_true, Bool.and_self, true_and, and_true, and_self, Nat.reduceAdd, Nat.reduceLT, Nat.reduceLeDiff, Nat.reduceSub, Nat.zero_le, Nat.zero_add]
  | lst ds => exact (h2 ds (.inl rfl)).elim
  | tup ds => exact (h2 ds (.inr rfl)).elim
  | _ => exact h.elim
/-- what is_row_within says -/
def rowOk (ds : List D) : Bool := decide (1 ≤ ds.length) && decide (ds.length ≤ 40) && ds.all (okD 1 30)
theorem row_within_s {d : D} {ds : List D} (h : Sq d ds) (hk : ∀ x ∈ ds, Kd x) (hl : ds.length ≤ 1000) : FW (mf_is_row_within [.d d, .d (.int 40), .d (.int 1), .d (.int 30)]) Q E = Q (.d (.bl (rowOk ds))) [] := by
  unfold mf_is_row_within
  rw [FW_run]
  unfold m_is_row_within
  simp only [show N_is_row_within.length = 5 from rfl]
  simp only [DL.SW_nx, DL.SW_rt, DL.SW_pass, DL.SW_brk, DL.SW_cnt, DL.SW_seq, DL.SW_drop, DL.SW_set, DL.SW_ret, DL.SW_ifS, DL.SW_asg, DL.SW_par2, DL.SW_par3, DL.SW_aug, DL.SW_raise, DL.SW_setIx, DL.SW_for, DL.SW_for0, DL.SW_forS, DL.SW_while, DL.OW_ok, DL.OW_no, DL.OW_var, DL.OW_c, DL.OW_fz, DL.OW_fa, DL.OW_faO_v, DL.OW_faO_f, DL.OW_faO_s, DL.OW_bin, DL.OW_un, DL.OW_tr, DL.OW_te, DL.OW_notT, DL.OW_andT, DL.OW_orT, DL.OW_and, DL.OW_or, DL.OW_not, DL.OW_if, DL.OW_nil, DL.OW_cons, DL.OW_lst, DL.OW_tup, DL.OW_chain, DL.OW_oNo, DL.OW_oSo, DL.OW_sl, DL.OW_new, DL.OW_newO_v, DL.OW_newO_f, DL.OW_newO_s, DL.OW_retO_v, DL.OW_retO_f, DL.OW_retO_s, DL.OW_nNil, DL.OW_nCons, DL.OW_call, DL.OW_iNil, DL.OW_iCons, DL.OW_iLnd, DL.OW_gI, DL.OW_itF, DL.OW_it, DL.OW_rng1, DL.OW_rng2, DL.OW_zipK, DL.OW_enum, DL.OW_enumV, DL.OW_lc, DL.OW_yes, DL.SL_d, DL.SL_o, DL.SL_b, DL.SF_d, DL.SF_o, DL.SRt_d, DL.SRt_o, DL.TB_v, DL.TI_i, DL.L2_2, DL.L3_3, DL.SI_i, DL.SX_o, DL.SX_b, DL.IF_t, DL.IF_f, reduceCtorEq, DL.isi_int_int, DL.isi_int_bl, DL.isi_int_str, DL.isi_int_lst, DL.isi_int_tup, DL.isi_int_non, DL.isi_bool_int, DL.isi_bool_bl, DL.isi_bool_str, DL.isi_bool_lst, DL.isi_bool_tup, DL.isi_bool_non, DL.isi_str_int, DL.isi_str_bl, DL.isi_str_str, DL.isi_str_lst, DL.isi_str_tup, DL.isi_str_non, DL.isi_list_int, DL.isi_list_bl, DL.isi_list_str, DL.isi_list_lst, DL.isi_list_tup, DL.isi_list_non, DL.isi_tuple_int, DL.isi_tuple_bl, DL.isi_tuple_str, DL.isi_tuple_lst, DL.isi_tuple_tup, DL.isi_tuple_non, DL.isi2_int, DL.isi2_bl, DL.isi2_str, DL.isi2_lst, DL.isi2_tup, DL.isi2_non, DL.OB_tuple_l, DL.OB_tuple_t, DL.OB_list_l, DL.OB_list_t, DL.OB_sum, DL.OB_all, DL.OB_any, DL.bls_nil, DL.bls_cons, DL.blsOf_map, DL.ints_nil, DL.ints_cons, DL.intsOf_map, DL.OB_map, DL.OW_lc0, DL.OW_lcY, id, List.all_map, DL.tru_bl, DL.tru_int, DL.tru_lst, DL.tru_tup, DL.tru_non, DL.IF_n, DL.IF_d, DL.OB_some, DL.OB_none, DL.OB_ite, DL.fzT_v, DL.fzT_f, DL.fzT_s, DL.dr_v, DL.dr_f, DL.dr_s, DL.slot_z, DL.slot_s, DL.Sc_v, DL.Sc_s, DL.argsSV_nil, DL.argsSV_d, DL.argsSV_i', DL.SMt_o, DL.SMt_b, DL.pb_nil, DL.pb_nil2, DL.pb_cons, DL.SPt_o, DL.SPt_b, DL.retT_d, DL.retT_o, DL.lS_nil, DL.lS_d, DL.lS_i, DL.lP_nil, DL.lP_d, DL.lP_i, DL.SVl_d, DL.SVl_o, DL.SVl_b, DL.backOf_nil, DL.backOf_cons, DL.sqOf_l, DL.sqOf_t, DL.seqD_l, DL.seqD_t, DL.items_l, DL.items_t, DL.srcOk_n, DL.OB_gN, DL.OB_gK, DL.OB_gCons, DL.OB_gNil, DL.OB_add, DL.OB_sub, DL.OB_mul, DL.OB_mulL, DL.OB_fdiv, DL.OB_mod, DL.OB_pow, DL.OB_shl, DL.OB_bits, DL.OB_sl_l, DL.OB_sl_f, DL.OB_neg, DL.OB_lt, DL.OB_le, DL.OB_gt, DL.OB_ge, DL.OB_eq, DL.OB_ne, DL.eqB_int, DL.eqB_str, DL.OB_is, DL.OB_isn, DL.OB_len_l, DL.OB_len_t, DL.OB_abs, DL.OB_int, DL.OB_intb, DL.OB_ix_l, DL.OB_ix_t, DL.OB_gcd, DL.OB_lcm, DL.OB_max2, DL.OB_min2, DL.isNon, false_implies, implies_true, DL.rng_len, DL.enum_len, DL.zip_len, Int.toNat_natCast, DL.atI0, DL.atI1, DL.nd0, DL.nd1, DL.atI2, DL.ixN_b, DL.ixN_1, DL.ixN_2, DL.wipeE, DL.restE, DL.ownFree, Option.map_some, Option.isSome_some, DL.put_o, DL.put_b, DL.val_o, DL.val_b, DL.val_d, DL.ends, List.map_cons, List.map_nil, List.cons_append, List.nil_append, List.length_cons, List.length_nil, List.set_cons_zero, List.set_cons_succ, List.set_nil, List.replicate_zero, List.replicate_succ, List.all_cons, List.all_nil, Bool.and_true, Bool.and_self, true_and, and_true, and_self, Nat.reduceAdd, Nat.reduceLT, Nat.reduceLeDiff, Nat.reduceSub, Nat.zero_le, Nat.zero_add, is_row_s h, h.items]
  rw [OW_lcPE (fun x => .bl (okD 1 30 x)) _ ds fun x hx => ?_]
  · simp only [DL.SW_nx, DL.SW_rt, DL.SW_pass, DL.SW_brk, DL.SW_cnt, DL.SW_seq, DL.SW_drop, DL.SW_set, DL.SW_ret, DL.SW_ifS, DL.SW_asg, DL.SW_par2, DL.SW_par3, DL.SW_aug, DL.SW_raise, DL.SW_setIx, DL.SW_for, DL.SW_for0, DL.SW_forS, DL.SW_while, DL.OW_ok, DL.OW_no, DL.OW_var, DL.OW_c, DL.OW_fz, DL.OW_fa, DL.OW_faO_v, DL.OW_faO_f, DL.OW_faO_s, DL.OW_bin, DL.OW_un, DL.OW_tr, DL.OW_te, DL.OW_notT, DL.OW_andT, DL.OW_orT, DL.OW_and, DL.OW_or, DL.OW_not, DL.OW_if, DL.OW_nil, DL.OW_cons, DL.OW_lst, DL.OW_tup, DL.OW_chain, DL.OW_oNo, DL.OW_oSo, DL.OW_sl, DL.OW_new, DL.OW_newO_v, DL.OW_newO_f, DL.OW_newO_s, DL.OW_retO_v, DL.OW_retO_f, DL.OW_retO_s, DL.OW_nNil, DL.OW_nCons, DL.OW_call, DL.OW_iNil, DL.OW_iCons, DL.OW_iLnd, DL.OW_gI, DL.OW_itF, DL.OW_it, DL.OW_rng1, DL.OW_rng2, DL.OW_zipK, DL.OW_enum, DL.OW_enumV, DL.OW_lc, DL.OW_yes, DL.SL_d, DL.SL_o, DL.SL_b, DL.SF_d, DL.SF_o, DL.SRt_d, DL.SRt_o, DL.TB_v, DL.TI_i, DL.L2_2, DL.L3_3, DL.SI_i, DL.SX_o, DL.SX_b, DL.IF_t, DL.IF_f, reduceCtorEq, DL.isi_int_int, DL.isi_int_bl, DL.isi_int_str, DL.isi_int_lst, DL.isi_int_tup, DL.isi_int_non, DL.isi_bool_int, DL.isi_bool_bl, DL.isi_bool_str, DL.isi_bool_lst, DL.isi_bool_tup, DL.isi_bool_non, DL.isi_str_int, DL.isi_str_bl, DL.isi_str_str, DL.isi_str_lst, DL.isi_str_tup, DL.isi_str_non, DL.isi_list_int, DL.isi_list_bl, DL.isi_list_str, DL.isi_list_lst, DL.isi_list_tup, DL.isi_list_non, DL.isi_tuple_int, DL.isi_tuple_bl, DL.isi_tuple_str, DL.isi_tuple_lst, DL.isi_tuple_tup, DL.isi_tuple_non, DL.isi2_int, DL.isi2_bl, DL.isi2_str, DL.isi2_lst, DL.isi2_tup, DL.isi2_non, DL.OB_tuple_l, DL.OB_tuple_t, DL.OB_list_l, DL.OB_list_t, DL.OB_sum, DL.OB_all, DL.OB_any, DL.bls_nil, DL.bls_cons, DL.blsOf_map, DL.ints_nil, DL.ints_cons, DL.intsOf_map, DL.OB_map, DL.OW_lc0, DL.OW_lcY, id, List.all_map, DL.tru_bl, DL.tru_int, DL.tru_lst, DL.tru_tup, DL.tru_non, DL.IF_n, DL.IF_d, DL.OB_some, DL.OB_none, DL.OB_ite, DL.fzT_v, DL.fzT_f, DL.fzT_s, DL.dr_v, DL.dr_f, DL.dr_s, DL.slot_z, DL.slot_s, DL.Sc_v, DL.Sc_s, DL.argsSV_nil, DL.argsSV_d, DL.argsSV_i', DL.SMt_o, DL.SMt_b, DL.pb_nil, DL.pb_nil2, DL.pb_cons, DL.SPt_o, DL.SPt_b, DL.retT_d, DL.retT_o, DL.lS_nil, DL.lS_d, DL.lS_i, DL.lP_nil, DL.lP_d, DL.lP_i, DL.SVl_d, DL.SVl_o, DL.SVl_b, DL.backOf_nil, DL.backOf_cons, DL.sqOf_l, DL.sqOf_t, DL.seqD_l, DL.seqD_t, DL.items_l, DL.items_t, DL.srcOk_n, DL.OB_gN, DL.OB_gK, DL.OB_gCons, DL.OB_gNil, DL.OB_add, DL.OB_sub, DL.OB_mul, DL.OB_mulL, DL.OB_fdiv, DL.OB_mod, DL.OB_pow, DL.OB_shl, DL.OB_bits, DL.OB_sl_l, DL.OB_sl_f, DL.OB_neg, DL.OB_lt, DL.OB_le, DL.OB_gt, DL.OB_ge, DL.OB_eq, DL.OB_ne, DL.eqB_int, DL.eqB_str, DL.OB_is, DL.OB_isn, DL.OB_len_l, DL.OB_len_t, DL.OB_abs, DL.OB_int, DL.OB_intb, DL.OB_ix_l, DL.OB_ix_t, DL.OB_gcd, DL.OB_lcm, DL.OB_max2, DL.OB_min2, DL.isNon, false_implies, implies_true, DL.rng_len, DL.enum_len, DL.zip_len, Int.toNat_natCast, DL.atI0, DL.atI1, DL.nd0, DL.nd1, DL.atI2, DL.ixN_b, DL.ixN_1, DL.ixN_2, DL.wipeE, DL.restE, DL.ownFree, Option.map_some, Option.isSome_some, DL.put_o, DL.put_b, DL.val_o, DL.val_b, DL.val_d, DL.ends, List.map_cons, List.map_nil, List.cons_append, List.nil_append, List.length_cons, List.length_nil, List.set_cons_zero, List.set_cons_succ, List.set_nil, List.replicate_zero, List.replicate_succ, List.all_cons, List.all_nil, Bool.and_true, Bool.and_self, true_and, and_true, and_self, Nat.reduceAdd, Nat.reduceLT, Nat.reduceLeDiff, Nat.reduceSub, Nat.zero_le, Nat.zero_add]
    rw [show (ds.map fun x => D.bl (okD 1 30 x)) = (ds.map (okD 1 30)).map D.bl by rw [List.map_map]; rfl, blsOf_map]
    simp only [DL.SW_nx, DL.SW_rt, DL.SW_pass, DL.SW_brk, DL.SW_cnt, DL.SW_seq, DL.SW_drop, DL.SW_set, DL.SW_ret, DL.SW_ifS, DL.SW_asg, DL.SW_par2, DL.SW_par3, DL.SW_aug, DL.SW_raise, DL.SW_setIx, DL.SW_for, DL.SW_for0, DL.SW_forS, DL.SW_while, DL.OW_ok, DL.OW_no, DL.OW_var, DL.OW_c, DL.OW_fz, DL.OW_fa, DL.OW_faO_v, DL.OW_faO_f, DL.OW_faO_s, DL.OW_bin, DL.OW_un, DL.OW_tr, DL.OW_te, DL.OW_notT, DL.OW_andT, DL.OW_orT, DL.OW_and, DL.OW_or, DL.OW_not, DL.OW_if, DL.OW_nil, DL.OW_cons, DL.OW_lst, DL.OW_tup, DL.OW_chain, DL.OW_oNo, DL.OW_oSo, DL.OW_sl, DL.OW_new, DL.OW_newO_v, DL.OW_newO_f, DL.OW_newO_s, DL.OW_retO_v, DL.OW_retO_f, DL.OW_retO_s, DL.OW_nNil, DL.OW_nCons, DL.OW_call, DL.OW_iNil, DL.OW_iCons, DL.OW_iLnd, DL.OW_gI, DL.OW_itF, DL.OW_it, DL.OW_rng1, DL.OW_rng2, DL.OW_zipK, DL.OW_enum, DL.OW_enumV, DL.OW_lc, DL.OW_yes, DL.SL_d, DL.SL_o, DL.SL_b, DL.SF_d, DL.SF_o, DL.SRt_d, DL.SRt_o, DL.TB_v, DL.TI_i, DL.L2_2, DL.L3_3, DL.SI_i, DL.SX_o, DL.SX_b, DL.IF_t, DL.IF_f, reduceCtorEq, DL.isi_int_int, DL.isi_int_bl, DL.isi_int_str, DL.isi_int_lst, DL.isi_int_tup, DL.isi_int_non, DL.isi_bool_int, DL.isi_bool_bl, DL.isi_bool_str, DL.isi_bool_lst, DL.isi_bool_tup, DL.isi_bool_non, DL.isi_str_int, DL.isi_str_bl, DL.isi_str_str, DL.isi_str_lst, DL.isi_str_tup, DL.isi_str_non, DL.isi_list_int, DL.isi_list_bl, DL.isi_list_str, DL.isi_list_lst, DL.isi_list_tup, DL.isi_list_non, DL.isi_tuple_int, DL.isi_tuple_bl, DL.isi_tuple_str, DL.isi_tuple_lst, DL.isi_tuple_tup, DL.isi_tuple_non, DL.isi2_int, DL.isi2_bl, DL.isi2_str, DL.isi2_lst, DL.isi2_tup, DL.isi2_non, DL.OB_tuple_l, DL.OB_tuple_t, DL.OB_list_l, DL.OB_list_t, DL.OB_sum, DL.OB_all, DL.OB_any, DL.bls_nil, DL.bls_cons, DL.blsOf_map, DL.ints_nil, DL.ints_cons, DL.intsOf_map, DL.OB_map, DL.OW_lc0, DL.OW_lcY, id, List.all_map, DL.tru_bl, DL.tru_int, DL.tru_lst, DL.tru_tup, DL.tru_non, DL.IF_n, DL.IF_d, DL.OB_some, DL.OB_none, DL.OB_ite, DL.fzT_v, DL.fzT_f, DL.fzT_s, DL.dr_v, DL.dr_f, DL.dr_s, DL.slot_z, DL.slot_s, DL.Sc_v, DL.Sc_s, DL.argsSV_nil, DL.argsSV_d, DL.argsSV_i', DL.SMt_o, DL.SMt_b, DL.pb_nil, DL.pb_nil2, DL.pb_cons, DL.SPt_o, DL.SPt_b, DL.retT_d, DL.retT_o, DL.lS_nil, DL.lS_d, DL.lS_i, DL.lP_nil, DL.lP_d, DL.lP_i, DL.SVl_d, DL.SVl_o, DL.SVl_b, DL.backOf_nil, DL.backOf_cons, DL.sqOf_l, DL.sqOf_t, DL.seqD_l, DL.seqD_t, DL.items_l, DL.items_t, DL.srcOk_n, DL.OB_gN, DL.OB_gK, DL.OB_gCons, DL.OB_gNil, DL.OB_add, DL.OB_sub, DL.OB_mul, DL.OB_mulL, DL.OB_fdiv, DL.OB_mod, DL.OB_pow, DL.OB_shl, DL.OB_bits, DL.OB_sl_l, DL.OB_sl_f, DL.OB_neg, DL.OB_lt, DL.OB_le, DL.OB_gt, DL.OB_ge, DL.OB_eq, DL.OB_ne, DL.eqB_int, DL.eqB_str, DL.OB_is, DL.OB_isn, DL.OB_len_l, DL.OB_len_t, DL.OB_abs, DL.OB_int, DL.OB_intb, DL.OB_ix_l, DL.OB_ix_t, DL.OB_gcd, DL.OB_lcm, DL.OB_max2, DL.OB_min2, DL.isNon, false_implies, implies_true, DL.rng_len, DL.enum_len, DL.zip_len, Int.toNat_natCast, DL.atI0, DL.atI1, DL.nd0, DL.nd1, DL.atI2, DL.ixN_b, DL.ixN_1, DL.ixN_2, DL.wipeE, DL.restE, DL.ownFree, Option.map_some, Option.isSome_some, DL.put_o, DL.put_b, DL.val_o, DL.val_b, DL.val_d, DL.ends, List.map_cons, List.map_nil, List.cons_append, List.nil_append, List.length_cons, List.length_nil, List.set_cons_zero, List.set_cons_succ, List.set_nil, List.replicate_zero, List.replicate_succ, List.all_cons, List.all_nil, Bool.and_true, Bool.and_self, true_and, and_true, and_self, Nat.reduceAdd, Nat.reduceLT, Nat.reduceLeDiff, Nat.reduceSub, Nat.zero_le, Nat.zero_add]
    have e : (ds.all (id ∘ okD 1 30)) = ds.all (okD 1 30) := rfl
    rw [e]
    unfold rowOk
    have c1 : decide ((1 : Int) ≤ (ds.length : Nat)) = decide (1 ≤ ds.length) := by
      by_cases h : 1 ≤ ds.length
      · rw [decide_eq_true h, decide_eq_true (by omega)]
      · rw [decide_eq_false h, decide_eq_false (by omega)]
    have c2 : decide (((ds.length : Nat) : Int) ≤ 40) = decide (ds.length ≤ 40) := by
      by_cases h : ds.length ≤ 40
      · rw [decide_eq_true h, decide_eq_true (by omega)]
      · rw [decide_eq_false h, decide_eq_false (by omega)]
    rw [c1, c2]
    cases decide (1 ≤ ds.length) && decide (ds.length ≤ 40)
    · rw [IF_f, Bool.false_and]
    · rw [IF_t, Bool.true_and]
      exact propext ⟨fun z => z.2, fun z => ⟨by omega, z⟩⟩
  · simp only [DL.SW_nx, DL.SW_rt, DL.SW_pass, DL.SW_brk, DL.SW_cnt, DL.SW_seq, DL.SW_drop, DL.SW_set, DL.SW_ret, DL.SW_ifS, DL.SW_asg, DL.SW_par2, DL.SW_par3, DL.SW_aug, DL.SW_raise, DL.SW_setIx, DL.SW_for, DL.SW_for0, DL.SW_forS, DL.SW_while, DL.OW_ok, DL.OW_no, DL.OW_var, DL.OW_c, DL.OW_fz, DL.OW_fa, DL.OW_faO_v, DL.OW_faO_f, DL.OW_faO_s, DL.OW_bin, DL.OW_un, DL.OW_tr, DL.OW_te, DL.OW_notT, DL.OW_andT, DL.OW_orT, DL.OW_and, DL.OW_or, DL.OW_not, DL.OW_if, DL.OW_nil, DL.OW_cons, DL.OW_lst, DL.OW_tup, DL.OW_chain, DL.OW_oNo, DL.OW_oSo, DL.OW_sl, DL.OW_new, DL.OW_newO_v, DL.OW_newO_f, DL.OW_newO_s, DL.OW_retO_v, DL.OW_retO_f, DL.OW_retO_s, DL.OW_nNil, DL.OW_nCons, DL.OW_call, DL.OW_iNil, DL.OW_iCons, DL.OW_iLnd, DL.OW_gI, DL.OW_itF, DL.OW_it, DL.OW_rng1, DL.OW_rng2, DL.OW_zipK, DL.OW_enum, DL.OW_enumV, DL.OW_lc, DL.OW_yes, DL.SL_d, DL.SL_o, DL.SL_b, DL.SF_d, DL.SF_o, DL.SRt_d, DL.SRt_o, DL.TB_v, DL.TI_i, DL.L2_2, DL.L3_3, DL.SI_i, DL.SX_o, DL.SX_b, DL.IF_t, DL.IF_f, reduceCtorEq, DL.isi_int_int, DL.isi_int_bl, DL.isi_int_str, DL.isi_int_lst, DL.isi_int_tup, DL.isi_int_non, DL.isi_bool_int, DL.isi_bool_bl, DL.isi_bool_str, DL.isi_bool_lst, DL.isi_bool_tup, DL.isi_bool_non, DL.isi_str_int, DL.isi_str_bl, DL.isi_str_str, DL.isi_str_lst, DL.isi_str_tup, DL.isi_str_non, DL.isi_list_int, DL.isi_list_bl, DL.isi_list_str, DL.isi_list_lst, DL.isi_list_tup, DL.isi_list_non, DL.isi_tuple_int, DL.isi_tuple_bl, DL.isi_tuple_str, DL.isi_tuple_lst, DL.isi_tuple_tup, DL.isi_tuple_non, DL.isi2_int, DL.isi2_bl, DL.isi2_str, DL.isi2_lst, DL.isi2_tup, DL.isi2_non, DL.OB_tuple_l, DL.OB_tuple_t, DL.OB_list_l, DL.OB_list_t, DL.OB_sum, DL.OB_all, DL.OB_any, DL.bls_nil, DL.bls_cons, DL.blsOf_map, DL.ints_nil, DL.ints_cons, DL.intsOf_map, DL.OB_map, DL.OW_lc0, DL.OW_lcY, id, List.all_map, DL.tru_bl, DL.tru_int, DL.tru_lst, DL.tru_tup, DL.tru_non, DL.IF_n, DL.IF_d, DL.OB_some, DL.OB_none, DL.OB_ite, DL.fzT_v, DL.fzT_f, DL.fzT_s, DL.dr_v, DL.dr_f, DL.dr_s, DL.slot_z, DL.slot_s, DL.Sc_v, DL.Sc_s, DL.argsSV_nil, DL.argsSV_d, DL.argsSV_i', DL.SMt_o, DL.SMt_b, DL.pb_nil, DL.pb_nil2, DL.pb_cons, DL.SPt_o, DL.SPt_b, DL.retT_d, DL.retT_o, DL.lS_nil, DL.lS_d, DL.lS_i, DL.lP_nil, DL.lP_d, DL.lP_i, DL.SVl_d, DL.SVl_o, DL.SVl_b, DL.backOf_nil, DL.backOf_cons, DL.sqOf_l, DL.sqOf_t, DL.seqD_l, DL.seqD_t, DL.items_l, DL.items_t, DL.srcOk_n, DL.OB_gN, DL.OB_gK, DL.OB_gCons, DL.OB_gNil, DL.OB_add, DL.OB_sub, DL.OB_mul, DL.OB_mulL, DL.OB_fdiv, DL.OB_mod, DL.OB_pow, DL.OB_shl, DL.OB_bits, DL.OB_sl_l, DL.OB_sl_f, DL.OB_neg, DL.OB_lt, DL.OB_le, DL.OB_gt, DL.OB_ge, DL.OB_eq, DL.OB_ne, DL.eqB_int, DL.eqB_str, DL.OB_is, DL.OB_isn, DL.OB_len_l, DL.OB_len_t, DL.OB_abs, DL.OB_int, DL.OB_intb, DL.OB_ix_l, DL.OB_ix_t, DL.OB_gcd, DL.OB_lcm, DL.OB_max2, DL.OB_min2, DL.isNon, false_implies, implies_true, DL.rng_len, DL.enum_len, DL.zip_len, Int.toNat_natCast, DL.atI0, DL.atI1, DL.nd0, DL.nd1, DL.atI2, DL.ixN_b, DL.ixN_1, DL.ixN_2, DL.wipeE, DL.restE, DL.ownFree, Option.map_some, Option.isSome_some, DL.put_o, DL.put_b, DL.val_o, DL.val_b, DL.val_d, DL.ends, List.map_cons, List.map_nil, List.cons_append, List.nil_append, List.length_cons, List.length_nil, List.set_cons_zero, List.set_cons_succ, List.set_nil, List.replicate_zero, List.replicate_succ, List.all_cons, List.all_nil, Bool.and_true, Bool.and_self, true_and, and_true, and_self, Nat.reduceAdd, Nat.reduceLT, Nat.reduceLeDiff, Nat.reduceSub, Nat.zero_le, Nat.zero_add, is_within_d (hk x hx)]
theorem row_within_n {d : D} (h : Kd d) (h2 : ∀ ds, ¬ Sq d ds) : FW (mf_is_row_within [.d d, .d (.int 40), .d (.int 1), .d (.int 30)]) Q E = Q (.d (.bl false)) [] := by
  unfold mf_is_row_within
  rw [FW_run]
  unfold m_is_row_within
  simp only [show N_is_row_within.length = 5 from rfl]
  simp only [DL.SW_nx, DL.SW_rt, DL.SW_pass, DL.SW_brk, DL.SW_cnt, DL.SW_seq, DL.SW_drop, DL.SW_set, DL.SW_ret, DL.SW_ifS, DL.SW_asg, DL.SW_par2, DL.SW_par3, DL.SW_aug, DL.SW_raise, DL.SW_setIx, DL.SW_for, DL.SW_for0, DL.SW_forS, DL.SW_while, DL.OW_ok, DL.OW_no, DL.OW_var, DL.OW_c, DL.OW_fz, DL.OW_fa, DL.OW_faO_v, DL.OW_faO_f, DL.OW_faO_s, DL.OW_bin, DL.OW_un, DL.OW_tr, DL.OW_te, DL.OW_notT, DL.OW_andT, DL.OW_orT, DL.OW_and, DL.OW_or, DL.OW_not, DL.OW_if, DL.OW_nil, DL.OW_cons, DL.OW_lst, DL.OW_tup, DL.OW_chain, DL.OW_oNo, DL.OW_oSo, DL.OW_sl, DL.OW_new, DL.OW_newO_v, DL.OW_newO_f, DL.OW_newO_s, DL.OW_retO_v, DL.OW_retO_f, DL.OW_retO_s, DL.OW_nNil, DL.OW_nCons, DL.OW_call, DL.OW_iNil, DL.OW_iCons, DL.OW_iLnd, DL.OW_gI, DL.OW_itF, DL.OW_it, DL.OW_rng1, DL.OW_rng2, DL.OW_zipK, DL.OW_enum, DL.OW_enumV, DL.OW_lc, DL.OW_yes, DL.SL_d, DL.SL_o, DL.SL_b, DL.SF_d, DL.SF_o, DL.SRt_d, DL.SRt_o, DL.TB_v, DL.TI_i, DL.L2_2, DL.L3_3, DL.SI_i, DL.SX_o, DL.SX_b, DL.IF_t, DL.IF_f, reduceCtorEq, DL.isi_int_int, DL.isi_int_bl, DL.isi_int_str, DL.isi_int_lst, DL.isi_int_tup, DL.isi_int_non, DL.isi_bool_int, DL.isi_bool_bl, DL.isi_bool_str, DL.isi_bool_lst, DL.isi_bool_tup, DL.isi_bool_non, DL.isi_str_int, DL.isi_str_bl, DL.isi_str_str, DL.isi_str_lst, DL.isi_str_tup, DL.isi_str_non, DL.isi_list_int, DL.isi_list_bl, DL.isi_list_str, DL.isi_list_lst, DL.isi_list_tup, DL.isi_list_non, DL.isi_tuple_int, DL.isi_tuple_bl, DL.isi_tuple_str, DL.isi_tuple_lst, DL.isi_tuple_tup, DL.isi_tuple_non, DL.isi2_int, DL.isi2_bl, DL.isi2_str, DL.isi2_lst, DL.isi2_tup, DL.isi2_non, DL.OB_tuple_l, DL.OB_tuple_t, DL.OB_list_l, DL.OB_list_t, DL.OB_sum, DL.OB_all, DL.OB_any, DL.bls_nil, DL.bls_cons, DL.blsOf_map, DL.ints_nil, DL.ints_cons, DL.intsOf_map, DL.OB_map, DL.OW_lc0, DL.OW_lcY, id, List.all_map, DL.tru_bl, DL.tru_int, DL.tru_lst, DL.tru_tup, DL.tru_non, DL.IF_n, DL.IF_d, DL.OB_some, DL.OB_none, DL.OB_ite, DL.fzT_v, DL.fzT_f, DL.fzT_s, DL.dr_v, DL.dr_f, DL.dr_s, DL.slot_z, DL.slot_s, DL.Sc_v, DL.Sc_s, DL.argsSV_nil, DL.argsSV_d, DL.argsSV_i', DL.SMt_o, DL.SMt_b, DL.pb_nil, DL.pb_nil2, DL.pb_cons, DL.SPt_o, DL.SPt_b, DL.retT_d, DL.retT_o, DL.lS_nil, DL.lS_d, DL.lS_i, DL.lP_nil, DL.lP_d, DL.lP_i, DL.SVl_d, DL.SVl_o, DL.SVl_b, DL.backOf_nil, DL.backOf_cons, DL.sqOf_l, DL.sqOf_t, DL.seqD_l, DL.seqD_t, DL.items_l, DL.items_t, DL.srcOk_n, DL.OB_gN, DL.OB_gK, DL.OB_gCons, DL.OB_gNil, DL.OB_add, DL.OB_sub, DL.OB_mul, DL.OB_mulL, DL.OB_fdiv, DL.OB_mod, DL.OB_pow, DL.OB_shl, DL.OB_bits, DL.OB_sl_l, DL.OB_sl_f, DL.OB_neg, DL.OB_lt, DL.OB_le, DL.OB_gt, DL.OB_ge, DL.OB_eq, DL.OB_ne, DL.eqB_int, DL.eqB_str, DL.OB_is, DL.OB_isn, DL.OB_len_l, DL.OB_len_t, DL.OB_abs, DL.OB_int, DL.OB_intb, DL.OB_ix_l, DL.OB_ix_t, DL.OB_gcd, DL.OB_lcm, DL.OB_max2, DL.OB_min2, DL.isNon, false_implies, implies_true, DL.rng_len, DL.enum_len, DL.zip_len, Int.toNat_natCast, DL.atI0, DL.atI1, DL.nd0, DL.nd1, DL.atI2, DL.ixN_b, DL.ixN_1, DL.ixN_2, DL.wipeE, DL.restE, DL.ownFree, Option.map_some, Option.isSome_some, DL.put_o, DL.put_b, DL.val_o, DL.val_b, DL.val_d, DL.ends, List.map_cons, List.map_nil, List.cons_append, List.nil_append, List.length_cons, List.length_nil, List.set_cons_zero, List.set_cons_succ, List.set_nil, List.replicate_zero, List.replicate_succ, List.all_cons, List.all_nil, Bool.and_true, Bool.and_self, true_and, and_true, and_self, Nat.reduceAdd, Nat.reduceLT, Nat.reduceLeDiff, Nat.reduceSub, Nat.zero_le, Nat.zero_add, is_row_n h h2]
/-- lengths that are right -/
structure Len (d : D) (ls : List Nat) : Prop where
  s : Sq d (ls.map nD)
  n0 : 1 ≤ ls.length
  n1 : ls.length ≤ 40
  ok : ∀ l ∈ ls, 1 ≤ l ∧ l ≤ 30
theorem Len.row {d : D} {ls : List Nat} (h : Len d ls) : rowOk (ls.map nD) = true := by
  unfold rowOk
  rw [List.length_map, decide_eq_true h.n0, decide_eq_true h.n1, Bool.and_self, Bool.true_and, List.all_eq_true]
  intro x hx
  obtain ⟨l, hl, rfl⟩ := List.mem_map.mp hx
  have := h.ok l hl
  show (decide ((1 : Int) ≤ (l : Nat)) && decide (((l : Nat) : Int) ≤ 30)) = true
  rw [decide_eq_true (by omega), decide_eq_true (by omega)]
  rfl
theorem need_lengths_t {d : D} {ls : List Nat} (h : Len d ls) : FW (mf_need_lengths [.d d]) Q E = Q (.d .non) [] := by
  unfold mf_need_lengths
  rw [FW_run]
  unfold m_need_lengths
  simp only [show N_need_lengths.length = 1 from rfl]
  have hk : ∀ x ∈ ls.map nD, Kd x := fun x hx => by
    obtain ⟨l, _, rfl⟩ := List.mem_map.mp hx
    trivial
  have hl : (ls.map nD).length ≤ 1000 := by
    rw [List.length_map]
    have := h.n1
    omega
  simp only [DL.SW_nx, DL.SW_rt, DL.SW_pass, DL.SW_brk, DL.SW_cnt, DL.SW_seq, DL.SW_drop, DL.SW_set, DL.SW_ret, DL.SW_ifS, DL.SW_asg, DL.SW_par2, DL.SW_par3, DL.SW_aug, DL.SW_raise, DL.SW_setIx, DL.SW_for, DL.SW_for0, DL.SW_forS, DL.SW_while, DL.OW_ok, DL.OW_no, DL.OW_var, DL.OW_c, DL.OW_fz, DL.OW_fa, DL.OW_faO_v, DL.OW_faO_f, DL.OW_faO_s, DL.OW_bin, DL.OW_un, DL.OW_tr, DL.OW_te, DL.OW_notT, DL.OW_andT, DL.OW_orT, DL.OW_and, DL.OW_or, DL.OW_not, DL.OW_if, DL.OW_nil, DL.OW_cons, DL.OW_lst, DL.OW_tup, DL.OW_chain, DL.OW_oNo, DL.OW_oSo, DL.OW_sl, DL.OW_new, DL.OW_newO_v, DL.OW_newO_f, DL.OW_newO_s, DL.OW_retO_v, DL.OW_retO_f, DL.OW_retO_s, DL.OW_nNil, DL.OW_nCons, DL.OW_call, DL.OW_iNil, DL.OW_iCons, DL.OW_iLnd, DL.OW_gI, DL.OW_itF, DL.OW_it, DL.OW_rng1, DL.OW_rng2, DL.OW_zipK, DL.OW_enum, DL.OW_enumV, DL.OW_lc, DL.OW_yes, DL.SL_d, DL.SL_o, DL.SL_b, DL.SF_d, DL.SF_o, DL.SRt_d, DL.SRt_o, DL.TB_v, DL.TI_i, DL.L2_2, DL.L3_3, DL.SI_i, DL.SX_o, DL.SX_b, DL.IF_t, DL.IF_f, reduceCtorEq, DL.isi_int_int, DL.isi_int_bl, DL.isi_int_str, DL.isi_int_lst, DL.isi_int_tup, DL.isi_int_non, DL.isi_bool_int, DL.isi_bool_bl, DL.isi_bool_str, DL.isi_bool_lst, DL.isi_bool_tup, DL.isi_bool_non, DL.isi_str_int, DL.isi_str_bl, DL.isi_str_str, DL.isi_str_lst, DL.isi_str_tup, DL.isi_str_non, DL.isi_list_int, DL.isi_list_bl, DL.isi_list_str, DL.isi_list_lst, DL.isi_list_tup, DL.isi_list_non, DL.isi_tuple_int, DL.isi_tuple_bl, DL.isi_tuple_str, DL.isi_tuple_lst, DL.isi_tuple_tup, DL.isi_tuple_non, DL.isi2_int, DL.isi2_bl, DL.isi2_str, DL.isi2_lst, DL.isi2_tup, DL.isi2_non, DL.OB_tuple_l, DL.OB_tuple_t, DL.OB_list_l, DL.OB_list_t, DL.OB_sum, DL.OB_all, DL.OB_any, DL.bls_nil, DL.bls_cons, DL.blsOf_map, DL.ints_nil, DL.ints_cons, DL.intsOf_map, DL.OB_map, DL.OW_lc0, DL.OW_lcY, id, List.all_map, DL.tru_bl, DL.tru_int, DL.tru_lst, DL.tru_tup, DL.tru_non, DL.IF_n, DL.IF_d, DL.OB_some, DL.OB_none, DL.OB_ite, DL.fzT_v, DL.fzT_f, DL.fzT_s, DL.dr_v, DL.dr_f, DL.dr_s, DL.slot_z, DL.slot_s, DL.Sc_v, DL.Sc_s, DL.argsSV_nil, DL.argsSV_d, DL.argsSV_i', DL.SMt_o, DL.SMt_b, DL.pb_nil, DL.pb_nil2, DL.pb_cons, DL.SPt_o, DL.SPt_b, DL.retT_d, DL.retT_o, DL.lS_nil, DL.lS_d, DL.lS_i, DL.lP_nil, DL.lP_d, DL.lP_i, DL.SVl_d, DL.SVl_o, DL.SVl_b, DL.backOf_nil, DL.backOf_cons, DL.sqOf_l, DL.sqOf_t, DL.seqD_l, DL.seqD_t, DL.items_l, DL.items_t, DL.srcOk_n, DL.OB_gN, DL.OB_gK, DL.OB_gCons, DL.OB_gNil, DL.OB_add, DL.OB_sub, DL.OB_mul, DL.OB_mulL, DL.OB_fdiv, DL.OB_mod, DL.OB_pow, DL.OB_shl, DL.OB_bits, DL.OB_sl_l, DL.OB_sl_f, DL.OB_neg, DL.OB_lt, DL.OB_le, DL.OB_gt, DL.OB_ge, DL.OB_eq, DL.OB_ne, DL.eqB_int, DL.eqB_str, DL.OB_is, DL.OB_isn, DL.OB_len_l, DL.OB_len_t, DL.OB_abs, DL.OB_int, DL.OB_intb, DL.OB_ix_l, DL.OB_ix_t, DL.OB_gcd, DL.OB_lcm, DL.OB_max2, DL.OB_min2, DL.isNon, false_implies, implies_true, DL.rng_len, DL.enum_len, DL.zip_len, Int.toNat_natCast, DL.atI0, DL.atI1, DL.nd0, DL.nd1, DL.atI2, DL.ixN_b, DL.ixN_1, DL.ixN_2, DL.wipeE, DL.restE, DL.ownFree, Option.map_some, Option.isSome_some, DL.put_o, DL.put_b, DL.val_o, DL.val_b, DL.val_d, DL.ends, List.map_cons, List.map_nil, List.cons_append, List.nil_append, List.length_cons, List.length_nil, List.set_cons_zero, List.set_cons_succ, List.set_nil, List.replicate_zero, List.replicate_succ, List.all_cons, List.all_nil, Bool.and_true, Bool.and_self, true_and, and_true, and_self, Nat.reduceAdd, Nat.reduceLT, Nat.reduceLeDiff, Nat.reduceSub, Nat.zero_le, Nat.zero_add, row_within_s h.s hk hl, h.row, Bool.not_true]
/-- what is_row_within says of any value -/
theorem need_lengths_x {d : D} (h : ∀ {Q : SV → List D → Prop} {E : Str → List (Str × D) → List D → Prop}, FW (mf_is_row_within [.d d, .d (.int 40), .d (.int 1), .d (.int 30)]) Q E = Q (.d (.bl false)) []) : FW (mf_need_lengths [.d d]) Q E = E "BadNumber" [("part", .str "lengths")] [] := by
  unfold mf_need_lengths
  rw [FW_run]
  unfold m_need_lengths
  simp only [show N_need_lengths.length = 1 from rfl]
  simp only [DL.SW_nx, DL.SW_rt, DL.SW_pass, DL.SW_brk, DL.SW_cnt, DL.SW_seq, DL.SW_drop, DL.SW_set, DL.SW_ret, DL.SW_ifS, DL.SW_asg, DL.SW_par2, DL.SW_par3, DL.SW_aug, DL.SW_raise, DL.SW_setIx, DL.SW_for, DL.SW_for0, DL.SW_forS, DL.SW_while, DL.OW_ok, DL.OW_no, DL.OW_var, DL.OW_c, DL.OW_fz, DL.OW_fa, DL.OW_faO_v, DL.OW_faO_f, DL.OW_faO_s, DL.OW_bin, DL.OW_un, DL.OW_tr, DL.OW_te, DL.OW_notT, DL.OW_andT, DL.OW_orT, DL.OW_and, DL.OW_or, DL.OW_not, DL.OW_if, DL.OW_nil, DL.OW_cons, DL.OW_lst, DL.OW_tup, DL.OW_chain, DL.OW_oNo, DL.OW_oSo, DL.OW_sl, DL.OW_new, DL.OW_newO_v, DL.OW_newO_f, DL.OW_newO_s, DL.OW_retO_v, DL.OW_retO_f, DL.OW_retO_s, DL.OW_nNil, DL.OW_nCons, DL.OW_call, DL.OW_iNil, DL.OW_iCons, DL.OW_iLnd, DL.OW_gI, DL.OW_itF, DL.OW_it, DL.OW_rng1, DL.OW_rng2, DL.OW_zipK, DL.OW_enum, DL.OW_enumV, DL.OW_lc, DL.OW_yes, DL.SL_d, DL.SL_o, DL.SL_b, DL.SF_d, DL.SF_o, DL.SRt_d, DL.SRt_o, DL.TB_v, DL.TI_i, DL.L2_2, DL.L3_3, DL.SI_i, DL.SX_o, DL.SX_b, DL.IF_t, DL.IF_f, reduceCtorEq, DL.isi_int_int, DL.isi_int_bl, DL.isi_int_str, DL.isi_int_lst, DL.isi_int_tup, DL.isi_int_non, DL.isi_bool_int, DL.isi_bool_bl, DL.isi_bool_str, DL.isi_bool_lst, DL.isi_bool_tup, DL.isi_bool_non, DL.isi_str_int, DL.isi_str_bl, DL.isi_str_str, DL.isi_str_lst, DL.isi_str_tup, DL.isi_str_non, DL.isi_list_int, DL.isi_list_bl, DL.isi_list_str, DL.isi_list_lst, DL.isi_list_tup, DL.isi_list_non, DL.isi_tuple_int, DL.isi_tuple_bl, DL.isi_tuple_str, DL.isi_tuple_lst, DL.isi_tuple_tup, DL.isi_tuple_non, DL.isi2_int, DL.isi2_bl, DL.isi2_str, DL.isi2_lst, DL.isi2_tup, DL.isi2_non, DL.OB_tuple_l, DL.OB_tuple_t, DL.OB_list_l, DL.OB_list_t, DL.OB_sum, DL.OB_all, DL.OB_any, DL.bls_nil, DL.bls_cons, DL.blsOf_map, DL.ints_nil, DL.ints_cons, DL.intsOf_map, DL.OB_map, DL.OW_lc0, DL.OW_lcY, id, List.all_map, DL.tru_bl, DL.tru_int, DL.tru_lst, DL.tru_tup, DL.tru_non, DL.IF_n, DL.IF_d, DL.OB_some, DL.OB_none, DL.OB_ite, DL.fzT_v, DL.fzT_f, DL.fzT_s, DL.dr_v, DL.dr_f, DL.dr_s, DL.slot_z, DL.slot_s, DL.Sc_v, DL.Sc_s, DL.argsSV_nil, DL.argsSV_d, DL.argsSV_i', DL.SMt_o, DL.SMt_b, DL.pb_nil, DL.pb_nil2, DL.pb_cons, DL.SPt_o, DL.SPt_b, DL.retT_d, DL.retT_o, DL.lS_nil, DL.lS_d, DL.lS_i, DL.lP_nil, DL.lP_d, DL.lP_i, DL.SVl_d, DL.SVl_o, DL.SVl_b, DL.backOf_nil, DL.backOf_cons, DL.sqOf_l, DL.sqOf_t, DL.seqD_l, DL.seqD_t, DL.items_l, DL.items_t, DL.srcOk_n, DL.OB_gN, DL.OB_gK, DL.OB_gCons, DL.OB_gNil, DL.OB_add, DL.OB_sub, DL.OB_mul, DL.OB_mulL, DL.OB_fdiv, DL.OB_mod, DL.OB_pow, DL.OB_shl, DL.OB_bits, DL.OB_sl_l, DL.OB_sl_f, DL.OB_neg, DL.OB_lt, DL.OB_le, DL.OB_gt, DL.OB_ge, DL.OB_eq, DL.OB_ne, DL.eqB_int, DL.eqB_str, DL.OB_is, DL.OB_isn, DL.OB_len_l, DL.OB_len_t, DL.OB_abs, DL.OB_int, DL.OB_intb, DL.OB_ix_l, DL.OB_ix_t, DL.OB_gcd, DL.OB_lcm, DL.OB_max2, DL.OB_min2, DL.isNon, false_implies, implies_true, DL.rng_len, DL.enum_len, DL.zip_len, Int.toNat_natCast, DL.atI0, DL.atI1, DL.nd0, DL.nd1, DL.atI2, DL.ixN_b, DL.ixN_1, DL.ixN_2, DL.wipeE, DL.restE, DL.ownFree, Option.map_some, Option.isSome_some, DL.put_o, DL.put_b, DL.val_o, DL.val_b, DL.val_d, DL.ends, List.map_cons, List.map_nil, List.cons_append, List.nil_append, List.length_cons, List.length_nil, List.set_cons_zero, List.set_cons_succ, List.set_nil, List.replicate_zero, List.replicate_succ, List.all_cons, List.all_nil, Bool.and_true, Bool.and_self, true_and, and_true, and_self, Nat.reduceAdd, Nat.reduceLT, Nat.reduceLeDiff, Nat.reduceSub, Nat.zero_le, Nat.zero_add, h, Bool.not_false]
theorem need_within_t {v a b : Int} {x : D} (ha : a ≤ v) (hb : v ≤ b) : FW (mf_need_within [.d (.int v), .d (.int a), .d (.int b), .d x]) Q E = Q (.d .non) [] := by
  unfold mf_need_within
  rw [FW_run]
  unfold m_need_within
  simp only [show N_need_within.length = 4 from rfl]
  simp only [DL.SW_nx, DL.SW_rt, DL.SW_pass, DL.SW_brk, DL.SW_cnt, DL.SW_seq, DL.SW_drop, DL.SW_set, DL.SW_ret, DL.SW_ifS, DL.SW_asg, DL.SW_par2, DL.SW_par3, DL.SW_aug, DL.SW_raise, DL.SW_setIx, DL.SW_for, DL.SW_for0, DL.SW_forS, DL.SW_while, DL.OW_ok, DL.OW_no, DL.OW_var, DL.OW_c, DL.OW_fz, DL.OW_fa, DL.OW_faO_v, DL.OW_faO_f, DL.OW_faO_s, DL.OW_bin, DL.OW_un, DL.OW_tr, DL.OW_te, DL.OW_notT, DL.OW_andT, DL.OW_orT, DL.OW_and, DL.OW_or, DL.OW_not, DL.OW_if, DL.OW_nil, DL.OW_cons, DL.OW_lst, DL.OW_tup, DL.OW_chain, DL.OW_oNo, DL.OW_oSo, DL.OW_sl, DL.OW_new, DL.OW_newO_v, DL.OW_newO_f, DL.OW_newO_s, DL.OW_retO_v, DL.OW_retO_f, DL.OW_retO_s, DL.OW_nNil, DL.OW_nCons, DL.OW_call, DL.OW_iNil, DL.OW_iCons, DL.OW_iLnd, DL.OW_gI, DL.OW_itF, DL.OW_it, DL.OW_rng1, DL.OW_rng2, DL.OW_zipK, DL.OW_enum, DL.OW_enumV, DL.OW_lc, DL.OW_yes, DL.SL_d, DL.SL_o, DL.SL_b, DL.SF_d, DL.SF_o, DL.SRt_d, DL.SRt_o, DL.TB_v, DL.TI_i, DL.L2_2, DL.L3_3, DL.SI_i, DL.SX_o, DL.SX_b, DL.IF_t, DL.IF_f, reduceCtorEq, DL.isi_int_int, DL.isi_int_bl, DL.isi_int_str, DL.isi_int_lst, DL.isi_int_tup, DL.isi_int_non, DL.isi_bool_int, DL.isi_bool_bl, DL.isi_bool_str, DL.isi_bool_lst, DL.isi_bool_tup, DL.isi_bool_non, DL.isi_str_int, DL.isi_str_bl, DL.isi_str_str, DL.isi_str_lst, DL.isi_str_tup, DL.isi_str_non, DL.isi_list_int, DL.isi_list_bl, DL.isi_list_str, DL.isi_list_lst, DL.isi_list_tup, DL.isi_list_non, DL.isi_tuple_int, DL.isi_tuple_bl, DL.isi_tuple_str, DL.isi_tuple_lst, DL.isi_tuple_tup, DL.isi_tuple_non, DL.isi2_int, DL.isi2_bl, DL.isi2_str, DL.isi2_lst, DL.isi2_tup, DL.isi2_non, DL.OB_tuple_l, DL.OB_tuple_t, DL.OB_list_l, DL.OB_list_t, DL.OB_sum, DL.OB_all, DL.OB_any, DL.bls_nil, DL.bls_cons, DL.blsOf_map, DL.ints_nil, DL.ints_cons, DL.intsOf_map, DL.OB_map, DL.OW_lc0, DL.OW_lcY, id, List.all_map, DL.tru_bl, DL.tru_int, DL.tru_lst, DL.tru_tup, DL.tru_non, DL.IF_n, DL.IF_d, DL.OB_some, DL.OB_none, DL.OB_ite, DL.fzT_v, DL.fzT_f, DL.fzT_s, DL.dr_v, DL.dr_f, DL.dr_s, DL.slot_z, DL.slot_s, DL.Sc_v, DL.Sc_s, DL.argsSV_nil, DL.argsSV_d, DL.argsSV_i', DL.SMt_o, DL.SMt_b, DL.pb_nil, DL.pb_nil2, DL.pb_cons, DL.SPt_o, DL.SPt_b, DL.retT_d, DL.retT_o, DL.lS_nil, DL.lS_d, DL.lS_i, DL.lP_nil, DL.lP_d, DL.lP_i, DL.SVl_d, DL.SVl_o, DL.SVl_b, DL.backOf_nil, DL.backOf_cons, DL.sqOf_l, DL.sqOf_t, DL.seqD_l, DL.seqD_t, DL.items_l, DL.items_t, DL.srcOk_n, DL.OB_gN, DL.OB_gK, DL.OB_gCons, DL.OB_gNil, DL.OB_add, DL.OB_sub, DL.OB_mul, DL.OB_mulL, DL.OB_fdiv, DL.OB_mod, DL.OB_pow, DL.OB_shl, DL.OB_bits, DL.OB_sl_l, DL.OB_sl_f, DL.OB_neg, DL.OB_lt, DL.OB_le, DL.OB_gt, DL.OB_ge, DL.OB_eq, DL.OB_ne, DL.eqB_int, DL.eqB_str, DL.OB_is, DL.OB_isn, DL.OB_len_l, DL.OB_len_t, DL.OB_abs, DL.OB_int, DL.OB_intb, DL.OB_ix_l, DL.OB_ix_t, DL.OB_gcd, DL.OB_lcm, DL.OB_max2, DL.OB_min2, DL.isNon, false_implies, implies_true, DL.rng_len, DL.enum_len, DL.zip_len, Int.toNat_natCast, DL.atI0, DL.atI1, DL.nd0, DL.nd1, DL.atI2, DL.ixN_b, DL.ixN_1, DL.ixN_2, DL.wipeE, DL.restE, DL.ownFree, Option.map_some, Option.isSome_some, DL.put_o, DL.put_b, DL.val_o, DL.val_b, DL.val_d, DL.ends, List.map_cons, List.map_nil, List.cons_append, List.nil_append, List.length_cons, List.length_nil, List.set_cons_zero, List.set_cons_succ, List.set_nil, List.replicate_zero, List.replicate_succ, List.all_cons, List.all_nil, Bool.and_true, Bool.and_self, true_and, and_true, and_self, Nat.reduceAdd, Nat.reduceLT, Nat.reduceLeDiff, Nat.reduceSub, Nat.zero_le, Nat.zero_add, is_within_d (d := .int v) trivial, okD]
  simp [ha, hb, IF_t]
def stp (i l : Nat) : Nat := if l ≤ i then 2 ^ (i - l) else 0
theorem steps_in_ok {d : D} {ls : List Nat} {i : Nat} (h : Len d ls) (hi : i ≤ 100) : FW (mf_steps_in [.d d, .d (nD i)]) Q E = Q (.o (.lst (ls.map fun l => nD (stp i l)))) [] := by
  unfold mf_steps_in
  rw [FW_run]
  unfold m_steps_in
  simp only [show N_steps_in.length = 3 from rfl]
  simp only [DL.SW_nx, DL.SW_rt, DL.SW_pass, DL.SW_brk, DL.SW_cnt, DL.SW_seq, DL.SW_drop, DL.SW_set, DL.SW_ret, DL.SW_ifS, DL.SW_asg, DL.SW_par2, DL.SW_par3, DL.SW_aug, DL.SW_raise, DL.SW_setIx, DL.SW_for, DL.SW_for0, DL.SW_forS, DL.SW_while, DL.OW_ok, DL.OW_no, DL.OW_var, DL.OW_c, DL.OW_fz, DL.OW_fa, DL.OW_faO_v, DL.OW_faO_f, DL.OW_faO_s, DL.OW_bin, DL.OW_un, DL.OW_tr, DL.OW_te, DL.OW_notT, DL.OW_andT, DL.OW_orT, DL.OW_and, DL.OW_or, DL.OW_not, DL.OW_if, DL.OW_nil, DL.OW_cons, DL.OW_lst, DL.OW_tup, DL.OW_chain, DL.OW_oNo, DL.OW_oSo, DL.OW_sl, DL.OW_new, DL.OW_newO_v, DL.OW_newO_f, DL.OW_newO_s, DL.OW_retO_v, DL.OW_retO_f, DL.OW_retO_s, DL.OW_nNil, DL.OW_nCons, DL.OW_call, DL.OW_iNil, DL.OW_iCons, DL.OW_iLnd, DL.OW_gI, DL.OW_itF, DL.OW_it, DL.OW_rng1, DL.OW_rng2, DL.OW_zipK, DL.OW_enum, DL.OW_enumV, DL.OW_lc, DL.OW_yes, DL.SL_d, DL.SL_o, DL.SL_b, DL.SF_d, DL.SF_o, DL.SRt_d, DL.SRt_o, DL.TB_v, DL.TI_i, DL.L2_2, DL.L3_3, DL.SI_i, DL.SX_o, DL.SX_b, DL.IF_t, DL.IF_f, reduceCtorEq, DL.isi_int_int, DL.isi_int_bl, DL.isi_int_str, DL.isi_int_lst, DL.isi_int_tup, DL.isi_int_non, DL.isi_bool_int, DL.isi_bool_bl, DL.isi_bool_str, DL.isi_bool_lst, DL.isi_bool_tup, DL.isi_bool_non, DL.isi_str_int, DL.isi_str_bl, DL.isi_str_str, DL.isi_str_lst, DL.isi_str_tup, DL.isi_str_non, DL.isi_list_int, DL.isi_list_bl, DL.isi_list_str, DL.isi_list_lst, DL.isi_list_tup, DL.isi_list_non, DL.isi_tuple_int, DL.isi_tuple_bl, DL.isi_tuple_str, DL.isi_tuple_lst, DL.isi_tuple_tup, DL.isi_tuple_non, DL.isi2_int, DL.isi2_bl, DL.isi2_str, DL.isi2_lst, DL.isi2_tup, DL.isi2_non, DL.OB_tuple_l, DL.OB_tuple_t, DL.OB_list_l, DL.OB_list_t, DL.OB_sum, DL.OB_all, DL.OB_any, DL.bls_nil, DL.bls_cons, DL.blsOf_map, DL.ints_nil, DL.ints_cons, DL.intsOf_map, DL.OB_map, DL.OW_lc0, DL.OW_lcY, id, List.all_map, DL.tru_bl, DL.tru_int, DL.tru_lst, DL.tru_tup, DL.tru_non, DL.IF_n, DL.IF_d, DL.OB_some, DL.OB_none, DL.OB_ite, DL.fzT_v, DL.fzT_f, DL.fzT_s, DL.dr_v, DL.dr_f, DL.dr_s, DL.slot_z, DL.slot_s, DL.Sc_v, DL.Sc_s, DL.argsSV_nil, DL.argsSV_d, DL.argsSV_i', DL.SMt_o, DL.SMt_b, DL.pb_nil, DL.pb_nil2, DL.pb_cons, DL.SPt_o, DL.SPt_b, DL.retT_d, DL.retT_o, DL.lS_nil, DL.lS_d, DL.lS_i, DL.lP_nil, DL.lP_d, DL.lP_i, DL.SVl_d, DL.SVl_o, DL.SVl_b, DL.backOf_nil, DL.backOf_cons, DL.sqOf_l, DL.sqOf_t, DL.seqD_l, DL.seqD_t, DL.items_l, DL.items_t, DL.srcOk_n, DL.OB_gN, DL.OB_gK, DL.OB_gCons, DL.OB_gNil, DL.OB_add, DL.OB_sub, DL.OB_mul, DL.OB_mulL, DL.OB_fdiv, DL.OB_mod, DL.OB_pow, DL.OB_shl, DL.OB_bits, DL.OB_sl_l, DL.OB_sl_f, DL.OB_neg, DL.OB_lt, DL.OB_le, DL.OB_gt, DL.OB_ge, DL.OB_eq, DL.OB_ne, DL.eqB_int, DL.eqB_str, DL.OB_is, DL.OB_isn, DL.OB_len_l, DL.OB_len_t, DL.OB_abs, DL.OB_int, DL.OB_intb, DL.OB_ix_l, DL.OB_ix_t, DL.OB_gcd, DL.OB_lcm, DL.OB_max2, DL.OB_min2, DL.isNon, false_implies, implies_true, DL.rng_len, DL.enum_len, DL.zip_len, Int.toNat_natCast, DL.atI0, DL.atI1, DL.nd0, DL.nd1, DL.atI2, DL.ixN_b, DL.ixN_1, DL.ixN_2, DL.wipeE, DL.restE, DL.ownFree, Option.map_some, Option.isSome_some, DL.put_o, DL.put_b, DL.val_o, DL.val_b, DL.val_d, DL.ends, List.map_cons, List.map_nil, List.cons_append, List.nil_append, List.length_cons, List.length_nil, List.set_cons_zero, List.set_cons_succ, List.set_nil, List.replicate_zero, List.replicate_succ, List.all_cons, List.all_nil, Bool.and_true, Bool.and_self, true_and, and_true, and_self, Nat.reduceAdd, Nat.reduceLT, Nat.reduceLeDiff, Nat.reduceSub, Nat.zero_le, Nat.zero_add, h.s.items]
  rw [OW_lcPE (fun x => match x with
    | .int l => nD (stp i l.toNat)
    | _ => .non) _ _ fun x hx => ?_]
  · simp only [DL.SW_nx, DL.SW_rt, DL.SW_pass, DL.SW_brk, DL.SW_cnt, DL.SW_seq, DL.SW_drop, DL.SW_set, DL.SW_ret, DL.SW_ifS, DL.SW_asg, DL.SW_par2, DL.SW_par3, DL.SW_aug, DL.SW_raise, DL.SW_setIx, DL.SW_for, DL.SW_for0, DL.SW_forS, DL.SW_while, DL.OW_ok, DL.OW_no, DL.OW_var, DL.OW_c, DL.OW_fz, DL.OW_fa, DL.OW_faO_v, DL.OW_faO_f, DL.OW_faO_s, DL.OW_bin, DL.OW_un, DL.OW_tr, DL.OW_te, DL.OW_notT, DL.OW_andT, DL.OW_orT, DL.OW_and, DL.OW_or, DL.OW_not, DL.OW_if, DL.OW_nil, DL.OW_cons, DL.OW_lst, DL.OW_tup, DL.OW_chain, DL.OW_oNo, DL.OW_oSo, DL.OW_sl, DL.OW_new, DL.OW_newO_v, DL.OW_newO_f, DL.OW_newO_s, DL.OW_retO_v, DL.OW_retO_f, DL.OW_retO_s, DL.OW_nNil, DL.OW_nCons, DL.OW_call, DL.OW_iNil, DL.OW_iCons, DL.OW_iLnd, DL.OW_gI, DL.OW_itF, DL.OW_it, DL.OW_rng1, DL.OW_rng2, DL.OW_zipK, DL.OW_enum, DL.OW_enumV, DL.OW_lc, DL.OW_yes, DL.SL_d, DL.SL_o, DL.SL_b, DL.SF_d, DL.SF_o, DL.SRt_d, DL.SRt_o, DL.TB_v, DL.TI_i, DL.L2_2, DL.L3_3, DL.SI_i, DL.SX_o, DL.SX_b, DL.IF_t, DL.IF_f, reduceCtorEq, DL.isi_int_int, DL.isi_int_bl, DL.isi_int_str, DL.isi_int_lst, DL.isi_int_tup, DL.isi_int_non, DL.isi_bool_int, DL.isi_bool_bl, DL.isi_bool_str, DL.isi_bool_lst, DL.isi_bool_tup, DL.isi_bool_non, DL.isi_str_int, DL.isi_str_bl, DL.isi_str_str, DL.isi_str_lst, DL.isi_str_tup, DL.isi_str_non, DL.isi_list_int, DL.isi_list_bl, DL.isi_list_str, DL.isi_list_lst, DL.isi_list_tup, DL.isi_list_non, DL.isi_tuple_int, DL.isi_tuple_bl, DL.isi_tuple_str, DL.isi_tuple_lst, DL.isi_tuple_tup, DL.isi_tuple_non, DL.isi2_int, DL.isi2_bl, DL.isi2_str, DL.isi2_lst, DL.isi2_tup, DL.isi2_non, DL.OB_tuple_l, DL.OB_tuple_t, DL.OB_list_l, DL.OB_list_t, DL.OB_sum, DL.OB_all, DL.OB_any, DL.bls_nil, DL.bls_cons, DL.blsOf_map, DL.ints_nil, DL.ints_cons, DL.intsOf_map, DL.OB_map, DL.OW_lc0, DL.OW_lcY, id, List.all_map, DL.tru_bl, DL.tru_int, DL.tru_lst, DL.tru_tup, DL.tru_non, DL.IF_n, DL.IF_d, DL.OB_some, DL.OB_none, DL.OB_ite, DL.fzT_v, DL.fzT_f, DL.fzT_s, DL.dr_v, DL.dr_f, DL.dr_s, DL.slot_z, DL.slot_s, DL.Sc_v, DL.Sc_s, DL.argsSV_nil, DL.argsSV_d, DL.argsSV_i', DL.SMt_o, DL.SMt_b, DL.pb_nil, DL.pb_nil2, DL.pb_cons, DL.SPt_o, DL.SPt_b, DL.retT_d, DL.retT_o, DL.lS_nil, DL.lS_d, DL.lS_i, DL.lP_nil, DL.lP_d, DL.lP_i, DL.SVl_d, DL.SVl_o, DL.SVl_b, DL.backOf_nil, DL.backOf_cons, DL.sqOf_l, DL.sqOf_t, DL.seqD_l, DL.seqD_t, DL.items_l, DL.items_t, DL.srcOk_n, DL.OB_gN, DL.OB_gK, DL.OB_gCons, DL.OB_gNil, DL.OB_add, DL.OB_sub, DL.OB_mul, DL.OB_mulL, DL.OB_fdiv, DL.OB_mod, DL.OB_pow, DL.OB_shl, DL.OB_bits, DL.OB_sl_l, DL.OB_sl_f, DL.OB_neg, DL.OB_lt, DL.OB_le, DL.OB_gt, DL.OB_ge, DL.OB_eq, DL.OB_ne, DL.eqB_int, DL.eqB_str, DL.OB_is, DL.OB_isn, DL.OB_len_l, DL.OB_len_t, DL.OB_abs, DL.OB_int, DL.OB_intb, DL.OB_ix_l, DL.OB_ix_t, DL.OB_gcd, DL.OB_lcm, DL.OB_max2, DL.OB_min2, DL.isNon, false_implies, implies_true, DL.rng_len, DL.enum_len, DL.zip_len, Int.toNat_natCast, DL.atI0, DL.atI1, DL.nd0, DL.nd1, DL.atI2, DL.ixN_b, DL.ixN_1, DL.ixN_2, DL.wipeE, DL.restE, DL.ownFree, Option.map_some, Option.isSome_some, DL.put_o, DL.put_b, DL.val_o, DL.val_b, DL.val_d, DL.ends, List.map_cons, List.map_nil, List.cons_append, List.nil_append, List.length_cons, List.length_nil, List.set_cons_zero, List.set_cons_succ, List.set_nil, List.replicate_zero, List.replicate_succ, List.all_cons, List.all_nil, Bool.and_true, Bool.and_self, true_and, and_true, and_self, Nat.reduceAdd, Nat.reduceLT, Nat.reduceLeDiff, Nat.reduceSub, Nat.zero_le, Nat.zero_add]
    rw [List.map_map, List.length_map]
    have := h.n1
    exact propext ⟨fun z => z.2, fun z => ⟨by omega, z⟩⟩
  · obtain ⟨l, hl, rfl⟩ := List.mem_map.mp hx
    simp only [DL.SW_nx, DL.SW_rt, DL.SW_pass, DL.SW_brk, DL.SW_cnt, DL.SW_seq, DL.SW_drop, DL.SW_set, DL.SW_ret, DL.SW_ifS, DL.SW_asg, DL.SW_par2, DL.SW_par3, DL.SW_aug, DL.SW_raise, DL.SW_setIx, DL.SW_for, DL.SW_for0, DL.SW_forS, DL.SW_while, DL.OW_ok, DL.OW_no, DL.OW_var, DL.OW_c, DL.OW_fz, DL.OW_fa, DL.OW_faO_v, DL.OW_faO_f, DL.OW_faO_s, DL.OW_bin, DL.OW_un, DL.OW_tr, DL.OW_te, DL.OW_notT, DL.OW_andT, DL.OW_orT, DL.OW_and, DL.OW_or, DL.OW_not, DL.OW_if, DL.OW_nil, DL.OW_cons, DL.OW_lst, DL.OW_tup, DL.OW_chain, DL.OW_oNo, DL.OW_oSo, DL.OW_sl, DL.OW_new, DL.OW_newO_v, DL.OW_newO_f, DL.OW_newO_s, DL.OW_retO_v, DL.OW_retO_f, DL.OW_retO_s, DL.OW_nNil, DL.OW_nCons, DL.OW_call, DL.OW_iNil, DL.OW_iCons, DL.OW_iLnd, DL.OW_gI, DL.OW_itF, DL.OW_it, DL.OW_rng1, DL.OW_rng2, DL.OW_zipK, DL.OW_enum, DL.OW_enumV, DL.OW_lc, DL.OW_yes, DL.SL_d, DL.SL_o, DL.SL_b, DL.SF_d, DL.SF_o, DL.SRt_d, DL.SRt_o, DL.TB_v, DL.TI_i, DL.L2_2, DL.L3_3, DL.SI_i, DL.SX_o, DL.SX_b, DL.IF_t, DL.IF_f, reduceCtorEq, DL.isi_int_int, DL.isi_int_bl, DL.isi_int_str, DL.isi_int_lst, DL.isi_int_tup, DL.isi_int_non, DL.isi_bool_int, DL.isi_bool_bl, DL.isi_bool_str, DL.isi_bool_lst, DL.isi_bool_tup, DL.isi_bool_non, DL.isi_str_int, DL.isi_str_bl, DL.isi_str_str, DL.isi_str_lst, DL.isi_str_tup, DL.isi_str_non, DL.isi_list_int, DL.isi_list_bl, DL.isi_list_str, DL.isi_list_lst, DL.isi_list_tup, DL.isi_list_non, DL.isi_tuple_int, DL.isi_tuple_bl, DL.isi_tuple_str, DL.isi_tuple_lst, DL.isi_tuple_tup, DL.isi_tuple_non, DL.isi2_int, DL.isi2_bl, DL.isi2_str, DL.isi2_lst, DL.isi2_tup, DL.isi2_non, DL.OB_tuple_l, DL.OB_tuple_t, DL.OB_list_l, DL.OB_list_t, DL.OB_sum, DL.OB_all, DL.OB_any, DL.bls_nil, DL.bls_cons, DL.blsOf_map, DL.ints_nil, DL.ints_cons, DL.intsOf_map, DL.OB_map, DL.OW_lc0, DL.OW_lcY, id, List.all_map, DL.tru_bl, DL.tru_int, DL.tru_lst, DL.tru_tup, DL.tru_non, DL.IF_n, DL.IF_d, DL.OB_some, DL.OB_none, DL.OB_ite, DL.fzT_v, DL.fzT_f, DL.fzT_s, DL.dr_v, DL.dr_f, DL.dr_s, DL.slot_z, DL.slot_s, DL.Sc_v, DL.Sc_s, DL.argsSV_nil, DL.argsSV_d, DL.argsSV_i', DL.SMt_o, DL.SMt_b, DL.pb_nil, DL.pb_nil2, DL.pb_cons, DL.SPt_o, DL.SPt_b, DL.retT_d, DL.retT_o, DL.lS_nil, DL.lS_d, DL.lS_i, DL.lP_nil, DL.lP_d, DL.lP_i, DL.SVl_d, DL.SVl_o, DL.SVl_b, DL.backOf_nil, DL.backOf_cons, DL.sqOf_l, DL.sqOf_t, DL.seqD_l, DL.seqD_t, DL.items_l, DL.items_t, DL.srcOk_n, DL.OB_gN, DL.OB_gK, DL.OB_gCons, DL.OB_gNil, DL.OB_add, DL.OB_sub, DL.OB_mul, DL.OB_mulL, DL.OB_fdiv, DL.OB_mod, DL.OB_pow, DL.OB_shl, DL.OB_bits, DL.OB_sl_l, DL.OB_sl_f, DL.OB_neg, DL.OB_lt, DL.OB_le, DL.OB_gt, DL.OB_ge, DL.OB_eq, DL.OB_ne, DL.eqB_int, DL.eqB_str, DL.OB_is, DL.OB_isn, DL.OB_len_l, DL.OB_len_t, DL.OB_abs, DL.OB_int, DL.OB_intb, DL.OB_ix_l, DL.OB_ix_t, DL.OB_gcd, DL.OB_lcm, DL.OB_max2, DL.OB_min2, DL.isNon, false_implies, implies_true, DL.rng_len, DL.enum_len, DL.zip_len, Int.toNat_natCast, DL.atI0, DL.atI1, DL.nd0, DL.nd1, DL.atI2, DL.ixN_b, DL.ixN_1, DL.ixN_2, DL.wipeE, DL.restE, DL.ownFree, Option.map_some, Option.isSome_some, DL.put_o, DL.put_b, DL.val_o, DL.val_b, DL.val_d, DL.ends, List.map_cons, List.map_nil, List.cons_append, List.nil_append, List.length_cons, List.length_nil, List.set_cons_zero, List.set_cons_succ, List.set_nil, List.replicate_zero, List.replicate_succ, List.all_cons, List.all_nil, Bool.and_true, Bool.and_self, true_and, and_true, and_self, Nat.reduceAdd, Nat.reduceLT, Nat.reduceLeDiff, Nat.reduceSub, Nat.zero_le, Nat.zero_add]
    refine ⟨fun hle => ⟨pw_ok (by omega) (by omega) (by decide) (by decide), ?_⟩, fun hgt => ?_⟩
    · unfold stp
      rw [if_pos (by omega), show ((i : Int) - (l : Nat)).toNat = i - l by omega]
      show D.int (1 * 2 ^ (i - l)) = D.int ((2 ^ (i - l) : Nat) : Int)
      congr 1
      simp
    · unfold stp
      rw [if_neg (by omega)]
      rfl
theorem steps_before_ok {d : D} {ls : List Nat} {i : Nat} (h : Len d ls) (hi : i ≤ 100) : FW (mf_steps_before [.d d, .d (nD i)]) Q E = Q (.o (.lst (ls.map fun l => nD (stp i l - 1)))) [] := by
  unfold mf_steps_before
  rw [FW_run]
  unfold m_steps_before
  simp only [show N_steps_before.length = 3 from rfl]
  have hs : ∀ {Q : SV → List D → Prop} {E : Str → List (Str × D) → List D → Prop}, FW (mf_steps_in [.d d, .d (.int (i : Nat))]) Q E = Q (.o (.lst (ls.map fun l => nD (stp i l)))) [] := steps_in_ok h hi
  simp only [DL.SW_nx, DL.SW_rt, DL.SW_pass, DL.SW_brk, DL.SW_cnt, DL.SW_seq, DL.SW_drop, DL.SW_set, DL.SW_ret, DL.SW_ifS, DL.SW_asg, DL.SW_par2, DL.SW_par3, DL.SW_aug, DL.SW_raise, DL.SW_setIx, DL.SW_for, DL.SW_for0, DL.SW_forS, DL.SW_while, DL.OW_ok, DL.OW_no, DL.OW_var, DL.OW_c, DL.OW_fz, DL.OW_fa, DL.OW_faO_v, DL.OW_faO_f, DL.OW_faO_s, DL.OW_bin, DL.OW_un, DL.OW_tr, DL.OW_te, DL.OW_notT, DL.OW_andT, DL.OW_orT, DL.OW_and, DL.OW_or, DL.OW_not, DL.OW_if, DL.OW_nil, DL.OW_cons, DL.OW_lst, DL.OW_tup, DL.OW_chain, DL.OW_oNo, DL.OW_oSo, DL.OW_sl, DL.OW_new, DL.OW_newO_v, DL.OW_newO_f, DL.OW_newO_s, DL.OW_retO_v, DL.OW_retO_f, DL.OW_retO_s, DL.OW_nNil, DL.OW_nCons, DL.OW_call, DL.OW_iNil, DL.OW_iCons, DL.OW_iLnd, DL.OW_gI, DL.OW_itF, DL.OW_it, DL.OW_rng1, DL.OW_rng2, DL.OW_zipK, DL.OW_enum, DL.OW_enumV, DL.OW_lc, DL.OW_yes, DL.SL_d, DL.SL_o, DL.SL_b, DL.SF_d, DL.SF_o, DL.SRt_d, DL.SRt_o, DL.TB_v, DL.TI_i, DL.L2_2, DL.L3_3, DL.SI_i, DL.SX_o, DL.SX_b, DL.IF_t, DL.IF_f, reduceCtorEq, DL.isi_int_int, DL.isi_int_bl, DL.isi_int_str, DL.isi_int_lst, DL.isi_int_tup, DL.isi_int_non, DL.isi_bool_int, DL.isi_bool_bl, DL.isi_bool_str, DL.isi_bool_lst, DL.isi_bool_tup, DL.isi_bool_non, DL.isi_str_int, DL.isi_str_bl, DL.isi_str_str, DL.isi_str_lst, DL.isi_str_tup, DL.isi_str_non, DL.isi_list_int, DL.isi_list_bl, DL.isi_list_str, DL.isi_list_lst, DL.isi_list_tup, DL.isi_list_non, DL.isi_tuple_int, DL.isi_tuple_bl, DL.isi_tuple_str, DL.isi_tuple_lst, DL.isi_tuple_tup, DL.isi_tuple_non, DL.isi2_int, DL.isi2_bl, DL.isi2_str, DL.isi2_lst, DL.isi2_tup, DL.isi2_non, DL.OB_tuple_l, DL.OB_tuple_t, DL.OB_list_l, DL.OB_list_t, DL.OB_sum, DL.OB_all, DL.OB_any, DL.bls_nil, DL.bls_cons, DL.blsOf_map, DL.ints_nil, DL.ints_cons, DL.intsOf_map, DL.OB_map, DL.OW_lc0, DL.OW_lcY, id, List.all_map, DL.tru_bl, DL.tru_int, DL.tru_lst, DL.tru_tup, DL.tru_non, DL.IF_n, DL.IF_d, DL.OB_some, DL.OB_none, DL.OB_ite, DL.fzT_v, DL.fzT_f, DL.fzT_s, DL.dr_v, DL.dr_f, DL.dr_s, DL.slot_z, DL.slot_s, DL.Sc_v, DL.Sc_s, DL.argsSV_nil, DL.argsSV_d, DL.argsSV_i', DL.SMt_o, DL.SMt_b, DL.pb_nil, DL.pb_nil2, DL.pb_cons, DL.SPt_o, DL.SPt_b, DL.retT_d, DL.retT_o, DL.lS_nil, DL.lS_d, DL.lS_i, DL.lP_nil, DL.lP_d, DL.lP_i, DL.SVl_d, DL.SVl_o, DL.SVl_b, DL.backOf_nil, DL.backOf_cons, DL.sqOf_l, DL.sqOf_t, DL.seqD_l, DL.seqD_t, DL.items_l, DL.items_t, DL.srcOk_n, DL.OB_gN, DL.OB_gK, DL.OB_gCons, DL.OB_gNil, DL.OB_add, DL.OB_sub, DL.OB_mul, DL.OB_mulL, DL.OB_fdiv, DL.OB_mod, DL.OB_pow, DL.OB_shl, DL.OB_bits, DL.OB_sl_l, DL.OB_sl_f, DL.OB_neg, DL.OB_lt, DL.OB_le, DL.OB_gt, DL.OB_ge, DL.OB_eq, DL.OB_ne, DL.eqB_int, DL.eqB_str, DL.OB_is, DL.OB_isn, DL.OB_len_l, DL.OB_len_t, DL.OB_abs, DL.OB_int, DL.OB_intb, DL.OB_ix_l, DL.OB_ix_t, DL.OB_gcd, DL.OB_lcm, DL.OB_max2, DL.OB_min2, DL.isNon, false_implies, implies_true, DL.rng_len, DL.enum_len, DL.zip_len, Int.toNat_natCast, DL.atI0, DL.atI1, DL.nd0, DL.nd1, DL.atI2, DL.ixN_b, DL.ixN_1, DL.ixN_2, DL.wipeE, DL.restE, DL.ownFree, Option.map_some, Option.isSome_some, DL.put_o, DL.put_b, DL.val_o, DL.val_b, DL.val_d, DL.ends, List.map_cons, List.map_nil, List.cons_append, List.nil_append, List.length_cons, List.length_nil, List.set_cons_zero, List.set_cons_succ, List.set_nil, List.replicate_zero, List.replicate_succ, List.all_cons, List.all_nil, Bool.and_true, Bool.and_self, true_and, and_true, and_self, Nat.reduceAdd, Nat.reduceLT, Nat.reduceLeDiff, Nat.reduceSub, Nat.zero_le, Nat.zero_add, hs]
  rw [OW_lcPE (fun x => match x with
    | .int l => nD (l.toNat - 1)
    | _ => .non) _ _ fun x hx => ?_]
  · simp only [DL.SW_nx, DL.SW_rt, DL.SW_pass, DL.SW_brk, DL.SW_cnt, DL.SW_seq, DL.SW_drop, DL.SW_set, DL.SW_ret, DL.SW_ifS, DL.SW_asg, DL.SW_par2, DL.SW_par3, DL.SW_aug, DL.SW_raise, DL.SW_setIx, DL.SW_for, DL.SW_for0, DL.SW_forS, DL.SW_while, DL.OW_ok, DL.OW_no, DL.OW_var, DL.OW_c, DL.OW_fz, DL.OW_fa, DL.OW_faO_v, DL.OW_faO_f, DL.OW_faO_s, DL.OW_bin, DL.OW_un, DL.OW_tr, DL.OW_te, DL.OW_notT, DL.OW_andT, DL.OW_orT, DL.OW_and, DL.OW_or, DL.OW_not, DL.OW_if, DL.OW_nil, DL.OW_cons, DL.OW_lst, DL.OW_tup, DL.OW_chain, DL.OW_oNo, DL.OW_oSo, DL.OW_sl, DL.OW_new, DL.OW_newO_v, DL.OW_newO_f, DL.OW_newO_s, DL.OW_retO_v, DL.OW_retO_f, DL.OW_retO_s, DL.OW_nNil, DL.OW_nCons, DL.OW_call, DL.OW_iNil, DL.OW_iCons, DL.OW_iLnd, DL.OW_gI, DL.OW_itF, DL.OW_it, DL.OW_rng1, DL.OW_rng2, DL.OW_zipK, DL.OW_enum, DL.OW_enumV, DL.OW_lc, DL.OW_yes, DL.SL_d, DL.SL_o, DL.SL_b, DL.SF_d, DL.SF_o, DL.SRt_d, DL.SRt_o, DL.TB_v, DL.TI_i, DL.L2_2, DL.L3_3, DL.SI_i, DL.SX_o, DL.SX_b, DL.IF_t, DL.IF_f, reduceCtorEq, DL.isi_int_int, DL.isi_int_bl, DL.isi_int_str, DL.isi_int_lst, DL.isi_int_tup, DL.isi_int_non, DL.isi_bool_int, DL.isi_bool_bl, DL.isi_bool_str, DL.isi_bool_lst, DL.isi_bool_tup, DL.isi_bool_non, DL.isi_str_int, DL.isi_str_bl, DL.isi_str_str, DL.isi_str_lst, DL.isi_str_tup, DL.isi_str_non, DL.isi_list_int, DL.isi_list_bl, DL.isi_list_str, DL.isi_list_lst, DL.isi_list_tup, DL.isi_list_non, DL.isi_tuple_int, DL.isi_tuple_bl, DL.isi_tuple_str, DL.isi_tuple_lst, DL.isi_tuple_tup, DL.isi_tuple_non, DL.isi2_int, DL.isi2_bl, DL.isi2_str, DL.isi2_lst, DL.isi2_tup, DL.isi2_non, DL.OB_tuple_l, DL.OB_tuple_t, DL.OB_list_l, DL.OB_list_t, DL.OB_sum, DL.OB_all, DL.OB_any, DL.bls_nil, DL.bls_cons, DL.blsOf_map, DL.ints_nil, DL.ints_cons, DL.intsOf_map, DL.OB_map, DL.OW_lc0, DL.OW_lcY, id, List.all_map, DL.tru_bl, DL.tru_int, DL.tru_lst, DL.tru_tup, DL.tru_non, DL.IF_n, DL.IF_d, DL.OB_some, DL.OB_none, DL.OB_ite, DL.fzT_v, DL.fzT_f, DL.fzT_s, DL.dr_v, DL.dr_f, DL.dr_s, DL.slot_z, DL.slot_s, DL.Sc_v, DL.Sc_s, DL.argsSV_nil, DL.argsSV_d, DL.argsSV_i', DL.SMt_o, DL.SMt_b, DL.pb_nil, DL.pb_nil2, DL.pb_cons, DL.SPt_o, DL.SPt_b, DL.retT_d, DL.retT_o, DL.lS_nil, DL.lS_d, DL.lS_i, DL.lP_nil, DL.lP_d, DL.lP_i, DL.SVl_d, DL.SVl_o, DL.SVl_b, DL.backOf_nil, DL.backOf_cons, DL.sqOf_l, DL.sqOf_t, DL.seqD_l, DL.seqD_t, DL.items_l, DL.items_t, DL.srcOk_n, DL.OB_gN, DL.OB_gK, DL.OB_gCons, DL.OB_gNil, DL.OB_add, DL.OB_sub, DL.OB_mul, DL.OB_mulL, DL.OB_fdiv, DL.OB_mod, DL.OB_pow, DL.OB_shl, DL.OB_bits, DL.OB_sl_l, DL.OB_sl_f, DL.OB_neg, DL.OB_lt, DL.OB_le, DL.OB_gt, DL.OB_ge, DL.OB_eq, DL.OB_ne, DL.eqB_int, DL.eqB_str, DL.OB_is, DL.OB_isn, DL.OB_len_l, DL.OB_len_t, DL.OB_abs, DL.OB_int, DL.OB_intb, DL.OB_ix_l, DL.OB_ix_t, DL.OB_gcd, DL.OB_lcm, DL.OB_max2, DL.OB_min2, DL.isNon, false_implies, implies_true, DL.rng_len, DL.enum_len, DL.zip_len, Int.toNat_natCast, DL.atI0, DL.atI1, DL.nd0, DL.nd1, DL.atI2, DL.ixN_b, DL.ixN_1, DL.ixN_2, DL.wipeE, DL.restE, DL.ownFree, Option.map_some, Option.isSome_some, DL.put_o, DL.put_b, DL.val_o, DL.val_b, DL.val_d, DL.ends, List.map_cons, List.map_nil, List.cons_append, List.nil_append, List.length_cons, List.length_nil, List.set_cons_zero, List.set_cons_succ, List.set_nil, List.replicate_zero, List.replicate_succ, List.all_cons, List.all_nil, Bool.and_true, Bool.and_self, true_and, and_true, and_self, Nat.reduceAdd, Nat.reduceLT, Nat.reduceLeDiff, Nat.reduceSub, Nat.zero_le, Nat.zero_add]
    rw [List.map_map, List.length_map]
    have := h.n1
    exact propext ⟨fun z => z.2, fun z => ⟨by omega, z⟩⟩
  · obtain ⟨l, hl, rfl⟩ := List.mem_map.mp hx
    simp only [DL.SW_nx, DL.SW_rt, DL.SW_pass, DL.SW_brk, DL.SW_cnt, DL.SW_seq, DL.SW_drop, DL.SW_set, DL.SW_ret, DL.SW_ifS, DL.SW_asg, DL.SW_par2, DL.SW_par3, DL.SW_aug, DL.SW_raise, DL.SW_setIx, DL.SW_for, DL.SW_for0, DL.SW_forS, DL.SW_while, DL.OW_ok, DL.OW_no, DL.OW_var, DL.OW_c, DL.OW_fz, DL.OW_fa, DL.OW_faO_v, DL.OW_faO_f, DL.OW_faO_s, DL.OW_bin, DL.OW_un, DL.OW_tr, DL.OW_te, DL.OW_notT, DL.OW_andT, DL.OW_orT, DL.OW_and, DL.OW_or, DL.OW_not, DL.OW_if, DL.OW_nil, DL.OW_cons, DL.OW_lst, DL.OW_tup, DL.OW_chain, DL.OW_oNo, DL.OW_oSo, DL.OW_sl, DL.OW_new, DL.OW_newO_v, DL.OW_newO_f, DL.OW_newO_s, DL.OW_retO_v, DL.OW_retO_f, DL.OW_retO_s, DL.OW_nNil, DL.OW_nCons, DL.OW_call, DL.OW_iNil, DL.OW_iCons, DL.OW_iLnd, DL.OW_gI, DL.OW_itF, DL.OW_it, DL.OW_rng1, DL.OW_rng2, DL.OW_zipK, DL.OW_enum, DL.OW_enumV, DL.OW_lc, DL.OW_yes, DL.SL_d, DL.SL_o, DL.SL_b, DL.SF_d, DL.SF_o, DL.SRt_d, DL.SRt_o, DL.TB_v, DL.TI_i, DL.L2_2, DL.L3_3, DL.SI_i, DL.SX_o, DL.SX_b, DL.IF_t, DL.IF_f, reduceCtorEq, DL.isi_int_int, DL.isi_int_bl, DL.isi_int_str, DL.isi_int_lst, DL.isi_int_tup, DL.isi_int_non, DL.isi_bool_int, DL.isi_bool_bl, DL.isi_bool_str, DL.isi_bool_lst, DL.isi_bool_tup, DL.isi_bool_non, DL.isi_str_int, DL.isi_str_bl, DL.isi_str_str, DL.isi_str_lst, DL.isi_str_tup, DL.isi_str_non, DL.isi_list_int, DL.isi_list_bl, DL.isi_list_str, DL.isi_list_lst, DL.isi_list_tup, DL.isi_list_non, DL.isi_tuple_int, DL.isi_tuple_bl, DL.isi_tuple_str, DL.isi_tuple_lst, DL.isi_tuple_tup, DL.isi_tuple_non, DL.isi2_int, DL.isi2_bl, DL.isi2_str, DL.isi2_lst, DL.isi2_tup, DL.isi2_non, DL.OB_tuple_l, DL.OB_tuple_t, DL.OB_list_l, DL.OB_list_t, DL.OB_sum, DL.OB_all, DL.OB_any, DL.bls_nil, DL.bls_cons, DL.blsOf_map, DL.ints_nil, DL.ints_cons, DL.intsOf_map, DL.OB_map, DL.OW_lc0, DL.OW_lcY, id, List.all_map, DL.tru_bl, DL.tru_int, DL.tru_lst, DL.tru_tup, DL.tru_non, DL.IF_n, DL.IF_d, DL.OB_some, DL.OB_none, DL.OB_ite, DL.fzT_v, DL.fzT_f, DL.fzT_s, DL.dr_v, DL.dr_f, DL.dr_s, DL.slot_z, DL.slot_s, DL.Sc_v, DL.Sc_s, DL.argsSV_nil, DL.argsSV_d, DL.argsSV_i', DL.SMt_o, DL.SMt_b, DL.pb_nil, DL.pb_nil2, DL.pb_cons, DL.SPt_o, DL.SPt_b, DL.retT_d, DL.retT_o, DL.lS_nil, DL.lS_d, DL.lS_i, DL.lP_nil, DL.lP_d, DL.lP_i, DL.SVl_d, DL.SVl_o, DL.SVl_b, DL.backOf_nil, DL.backOf_cons, DL.sqOf_l, DL.sqOf_t, DL.seqD_l, DL.seqD_t, DL.items_l, DL.items_t, DL.srcOk_n, DL.OB_gN, DL.OB_gK, DL.OB_gCons, DL.OB_gNil, DL.OB_add, DL.OB_sub, DL.OB_mul, DL.OB_mulL, DL.OB_fdiv, DL.OB_mod, DL.OB_pow, DL.OB_shl, DL.OB_bits, DL.OB_sl_l, DL.OB_sl_f, DL.OB_neg, DL.OB_lt, DL.OB_le, DL.OB_gt, DL.OB_ge, DL.OB_eq, DL.OB_ne, DL.eqB_int, DL.eqB_str, DL.OB_is, DL.OB_isn, DL.OB_len_l, DL.OB_len_t, DL.OB_abs, DL.OB_int, DL.OB_intb, DL.OB_ix_l, DL.OB_ix_t, DL.OB_gcd, DL.OB_lcm, DL.OB_max2, DL.OB_min2, DL.isNon, false_implies, implies_true, DL.rng_len, DL.enum_len, DL.zip_len, Int.toNat_natCast, DL.atI0, DL.atI1, DL.nd0, DL.nd1, DL.atI2, DL.ixN_b, DL.ixN_1, DL.ixN_2, DL.wipeE, DL.restE, DL.ownFree, Option.map_some, Option.isSome_some, DL.put_o, DL.put_b, DL.val_o, DL.val_b, DL.val_d, DL.ends, List.map_cons, List.map_nil, List.cons_append, List.nil_append, List.length_cons, List.length_nil, List.set_cons_zero, List.set_cons_succ, List.set_nil, List.replicate_zero, List.replicate_succ, List.all_cons, List.all_nil, Bool.and_true, Bool.and_self, true_and, and_true, and_self, Nat.reduceAdd, Nat.reduceLT, Nat.reduceLeDiff, Nat.reduceSub, Nat.zero_le, Nat.zero_add]
    show D.int _ = D.int _
    congr 1
    split <;> omega
def W (l : Nat) : Nat := 2 ^ (30 - l)
/-- the sum of the shares, and of the lesser ones -/
def S (ls : List Nat) : Nat := (ls.map W).sum
def A (ls : List Nat) (p : Nat) : Nat := ((ls.take p).map W).sum
theorem sum_nat : ∀ ns : List Nat, (ns.map fun (n : Nat) => (n : Int)).sum = ((ns.sum : Nat) : Int)
  | [] => rfl
  | n :: ns => by
    rw [List.map_cons, List.sum_cons, List.sum_cons, sum_nat ns]
    omega
theorem ints_nat {ns : List Nat} : intsOf (ns.map nD) = some (ns.map fun (n : Nat) => (n : Int)) := by
  rw [show ns.map nD = (ns.map fun (n : Nat) => (n : Int)).map D.int by rw [List.map_map]; rfl, intsOf_map]
theorem cut_nat {ns : List Nat} {p : Nat} : DL.cutD (ns.map nD) none (some (p : Int)) = (ns.take p).map nD := by
  unfold DL.cutD
  show ((ns.map nD).drop 0).take (min (p : Int).toNat (ns.map nD).length - 0) = _
  rw [List.drop_zero, Nat.sub_zero, Int.toNat_natCast, ← List.map_take]
  congr 1
  rw [List.length_map]
  by_cases h : p ≤ ns.length
  · rw [Nat.min_eq_left h]
  · rw [Nat.min_eq_right (by omega), List.take_length, List.take_of_length_le (by omega)]
/-- the ticks ahead of lap i, those of lesser places in it, and the step's own -/
def tickN (ls : List Nat) (p s i l : Nat) : Int := ((ls.map fun l => stp i l - 1).sum : Nat) + (((ls.take p).map fun l => stp i l).sum : Nat) + (s : Nat) - ((stp i l - 1 : Nat) : Int)
theorem bits_nat {s : Nat} (h : 1 ≤ s) : Builtin.Int.intBits (s : Nat) = s.log2 + 1 := by
  unfold Builtin.Int.intBits
  rw [if_neg (by simp; omega), Int.natAbs_natCast]
theorem bits_le {s : Nat} (h0 : 1 ≤ s) (h : s ≤ 1000000000) : Builtin.Int.intBits (s : Nat) ≤ 30 := by
  rw [bits_nat h0]
  have := PySem.Flt.log2_lt_of (k := 30) (by decide) (show s < 2 ^ 30 by omega)
  omega
theorem bits_pos {s : Nat} (h : 1 ≤ s) : 1 ≤ Builtin.Int.intBits (s : Nat) := by
  rw [bits_nat h]
  omega
theorem lap_tick_ok {d : D} {ls : List Nat} {p s l : Nat} (h : Len d ls) (hp : ls[p]? = some l) (s0 : 1 ≤ s) (s1 : s ≤ 1000000000) : FW (mf_lap_tick [.d d, .d (nD p), .d (nD s)]) Q E = Q (.d (.int (tickN ls p s (l + Builtin.Int.intBits (s : Nat) - 1) l))) [] := by
  unfold mf_lap_tick
  rw [FW_run]
  unfold m_lap_tick
  simp only [show N_lap_tick.length = 5 from rfl]
  have hpl := (List.getElem?_eq_some_iff.mp hp).1
  rcases h.s with rfl | rfl
  all_goals
    have n1 : ∀ {Q : SV → List D → Prop} {E : Str → List (Str × D) → List D → Prop} {x : D}, FW (mf_need_within [.d (.int (p : Nat)), .d (.int 0), .d (.int (((ls.map nD).length : Nat) - 1)), .d x]) Q E = Q (.d .non) [] := need_within_t (by omega) (by rw [List.length_map]; omega)
    have n2 : ∀ {Q : SV → List D → Prop} {E : Str → List (Str × D) → List D → Prop} {x : D}, FW (mf_need_within [.d (.int (s : Nat)), .d (.int 1), .d (.int 1000000000), .d x]) Q E = Q (.d .non) [] := need_within_t (by omega) (by omega)
    have hat : atI (ls.map nD) (p : Nat) = some (nD l) := by rw [DL.atI_nat, List.getElem?_map, hp]; rfl
    have hl := h.ok l (List.mem_of_getElem? hp)
    have hb := bits_le s0 s1
    have hb0 := bits_pos s0
    have ei : ((l : Nat) : Int) + (Builtin.Int.intBits (s : Nat) : Nat) - 1 = ((l + Builtin.Int.intBits (s : Nat) - 1 : Nat) : Int) := by omega
    have hsb : ∀ {Q : SV → List D → Prop} {E : Str → List (Str × D) → List D → Prop}, FW (mf_steps_before [.d _, .d (.int ((l + Builtin.Int.intBits (s : Nat) - 1 : Nat) : Int))]) Q E = Q (.o (.lst (ls.map fun x => nD (stp (l + Builtin.Int.intBits (s : Nat) - 1) x - 1)))) [] := steps_before_ok h (by omega)
    have hsi : ∀ {Q : SV → List D → Prop} {E : Str → List (Str × D) → List D → Prop}, FW (mf_steps_in [.d _, .d (.int ((l + Builtin.Int.intBits (s : Nat) - 1 : Nat) : Int))]) Q E = Q (.o (.lst (ls.map fun x => nD (stp (l + Builtin.Int.intBits (s : Nat) - 1) x)))) [] := steps_in_ok h (by omega)
    simp only [DL.SW_nx, DL.SW_rt, DL.SW_pass, DL.SW_brk, DL.SW_cnt, DL.SW_seq, DL.SW_drop, DL.SW_set, DL.SW_ret, DL.SW_ifS, DL.SW_asg, DL.SW_par2, DL.SW_par3, DL.SW_aug, DL.SW_raise, DL.SW_setIx, DL.SW_for, DL.SW_for0, DL.SW_forS, DL.SW_while, DL.OW_ok, DL.OW_no, DL.OW_var, DL.OW_c, DL.OW_fz, DL.OW_fa, DL.OW_faO_v, DL.OW_faO_f, DL.OW_faO_s, DL.OW_bin, DL.OW_un, DL.OW_tr, DL.OW_te, DL.OW_notT, DL.OW_andT, DL.OW_orT, DL.OW_and, DL.OW_or, DL.OW_not, DL.OW_if, DL.OW_nil, DL.OW_cons, DL.OW_lst, DL.OW_tup, DL.OW_chain, DL.OW_oNo, DL.OW_oSo, DL.OW_sl, DL.OW_new, DL.OW_newO_v, DL.OW_newO_f, DL.OW_newO_s, DL.OW_retO_v, DL.OW_retO_f, DL.OW_retO_s, DL.OW_nNil, DL.OW_nCons, DL.OW_call, DL.OW_iNil, DL.OW_iCons, DL.OW_iLnd, DL.OW_gI, DL.OW_itF, DL.OW_it, DL.OW_rng1, DL.OW_rng2, DL.OW_zipK, DL.OW_enum, DL.OW_enumV, DL.OW_lc, DL.OW_yes, DL.SL_d, DL.SL_o, DL.SL_b, DL.SF_d, DL.SF_o, DL.SRt_d, DL.SRt_o, DL.TB_v, DL.TI_i, DL.L2_2, DL.L3_3, DL.SI_i, DL.SX_o, DL.SX_b, DL.IF_t, DL.IF_f, reduceCtorEq, DL.isi_int_int, DL.isi_int_bl, DL.isi_int_str, DL.isi_int_lst, DL.isi_int_tup, DL.isi_int_non, DL.isi_bool_int, DL.isi_bool_bl, DL.isi_bool_str, DL.isi_bool_lst, DL.isi_bool_tup, DL.isi_bool_non, DL.isi_str_int, DL.isi_str_bl, DL.isi_str_str, DL.isi_str_lst, DL.isi_str_tup, DL.isi_str_non, DL.isi_list_int, DL.isi_list_bl, DL.isi_list_str, DL.isi_list_lst, DL.isi_list_tup, DL.isi_list_non, DL.isi_tuple_int, DL.isi_tuple_bl, DL.isi_tuple_str, DL.isi_tuple_lst, DL.isi_tuple_tup, DL.isi_tuple_non, DL.isi2_int, DL.isi2_bl, DL.isi2_str, DL.isi2_lst, DL.isi2_tup, DL.isi2_non, DL.OB_tuple_l, DL.OB_tuple_t, DL.OB_list_l, DL.OB_list_t, DL.OB_sum, DL.OB_all, DL.OB_any, DL.bls_nil, DL.bls_cons, DL.blsOf_map, DL.ints_nil, DL.ints_cons, DL.intsOf_map, DL.OB_map, DL.OW_lc0, DL.OW_lcY, id, List.all_map, DL.tru_bl, DL.tru_int, DL.tru_lst, DL.tru_tup, DL.tru_non, DL.IF_n, DL.IF_d, DL.OB_some, DL.OB_none, DL.OB_ite, DL.fzT_v, DL.fzT_f, DL.fzT_s, DL.dr_v, DL.dr_f, DL.dr_s, DL.slot_z, DL.slot_s, DL.Sc_v, DL.Sc_s, DL.argsSV_nil, DL.argsSV_d, DL.argsSV_i', DL.SMt_o, DL.SMt_b, DL.pb_nil, DL.pb_nil2, DL.pb_cons, DL.SPt_o, DL.SPt_b, DL.retT_d, DL.retT_o, DL.lS_nil, DL.lS_d, DL.lS_i, DL.lP_nil, DL.lP_d, DL.lP_i, DL.SVl_d, DL.SVl_o, DL.SVl_b, DL.backOf_nil, DL.backOf_cons, DL.sqOf_l, DL.sqOf_t, DL.seqD_l, DL.seqD_t, DL.items_l, DL.items_t, DL.srcOk_n, DL.OB_gN, DL.OB_gK, DL.OB_gCons, DL.OB_gNil, DL.OB_add, DL.OB_sub, DL.OB_mul, DL.OB_mulL, DL.OB_fdiv, DL.OB_mod, DL.OB_pow, DL.OB_shl, DL.OB_bits, DL.OB_sl_l, DL.OB_sl_f, DL.OB_neg, DL.OB_lt, DL.OB_le, DL.OB_gt, DL.OB_ge, DL.OB_eq, DL.OB_ne, DL.eqB_int, DL.eqB_str, DL.OB_is, DL.OB_isn, DL.OB_len_l, DL.OB_len_t, DL.OB_abs, DL.OB_int, DL.OB_intb, DL.OB_ix_l, DL.OB_ix_t, DL.OB_gcd, DL.OB_lcm, DL.OB_max2, DL.OB_min2, DL.isNon, false_implies, implies_true, DL.rng_len, DL.enum_len, DL.zip_len, Int.toNat_natCast, DL.atI0, DL.atI1, DL.nd0, DL.nd1, DL.atI2, DL.ixN_b, DL.ixN_1, DL.ixN_2, DL.wipeE, DL.restE, DL.ownFree, Option.map_some, Option.isSome_some, DL.put_o, DL.put_b, DL.val_o, DL.val_b, DL.val_d, DL.ends, List.map_cons, List.map_nil, List.cons_append, List.nil_append, List.length_cons, List.length_nil, List.set_cons_zero, List.set_cons_succ, List.set_nil, List.replicate_zero, List.replicate_succ, List.all_cons, List.all_nil, Bool.and_true, Bool.and_self, true_and, and_true, and_self, Nat.reduceAdd, Nat.reduceLT, Nat.reduceLeDiff, Nat.reduceSub, Nat.zero_le, Nat.zero_add, need_lengths_t h, n1, n2, hat, ei, hsb, hsi]
    generalize l + Builtin.Int.intBits (s : Nat) - 1 = i at *
    have e1 : (ls.map fun x => nD (stp i x - 1)) = (ls.map fun x => stp i x - 1).map nD := by rw [List.map_map]; rfl
    have e2 : (ls.map fun x => nD (stp i x)) = (ls.map fun x => stp i x).map nD := by rw [List.map_map]; rfl
    have hat2 : atI ((ls.map fun x => stp i x - 1).map nD) (p : Nat) = some (nD (stp i l - 1)) := by rw [DL.atI_nat, List.getElem?_map, List.getElem?_map, hp]; rfl
    rw [e1, e2, cut_nat, ints_nat, ints_nat, OB_some, OB_some, hat2]
    simp only [DL.SW_nx, DL.SW_rt, DL.SW_pass, DL.SW_brk, DL.SW_cnt, DL.SW_seq, DL.SW_drop, DL.SW_set, DL.SW_ret, DL.SW_ifS, DL.SW_asg, DL.SW_par2, DL.SW_par3, DL.SW_aug, DL.SW_raise, DL.SW_setIx, DL.SW_for, DL.SW_for0, DL.SW_forS, DL.SW_while, DL.OW_ok, DL.OW_no, DL.OW_var, DL.OW_c, DL.OW_fz, DL.OW_fa, DL.OW_faO_v, DL.OW_faO_f, DL.OW_faO_s, DL.OW_bin, DL.OW_un, DL.OW_tr, DL.OW_te, DL.OW_notT, DL.OW_andT, DL.OW_orT, DL.OW_and, DL.OW_or, DL.OW_not, DL.OW_if, DL.OW_nil, DL.OW_cons, DL.OW_lst, DL.OW_tup, DL.OW_chain, DL.OW_oNo, DL.OW_oSo, DL.OW_sl, DL.OW_new, DL.OW_newO_v, DL.OW_newO_f, DL.OW_newO_s, DL.OW_retO_v, DL.OW_retO_f, DL.OW_retO_s, DL.OW_nNil, DL.OW_nCons, DL.OW_call, DL.OW_iNil, DL.OW_iCons, DL.OW_iLnd, DL.OW_gI, DL.OW_itF, DL.OW_it, DL.OW_rng1, DL.OW_rng2, DL.OW_zipK, DL.OW_enum, DL.OW_enumV, DL.OW_lc, DL.OW_yes, DL.SL_d, DL.SL_o, DL.SL_b, DL.SF_d, DL.SF_o, DL.SRt_d, DL.SRt_o, DL.TB_v, DL.TI_i, DL.L2_2, DL.L3_3, DL.SI_i, DL.SX_o, DL.SX_b, DL.IF_t, DL.IF_f, reduceCtorEq, DL.isi_int_int, DL.isi_int_bl, DL.isi_int_str, DL.isi_int_lst, DL.isi_int_tup, DL.isi_int_non, DL.isi_bool_int, DL.isi_bool_bl, DL.isi_bool_str, DL.isi_bool_lst, DL.isi_bool_tup, DL.isi_bool_non, DL.isi_str_int, DL.isi_str_bl, DL.isi_str_str, DL.isi_str_lst, DL.isi_str_tup, DL.isi_str_non, DL.isi_list_int, DL.isi_list_bl, DL.isi_list_str, DL.isi_list_lst, DL.isi_list_tup, DL.isi_list_non, DL.isi_tuple_int, DL.isi_tuple_bl, DL.isi_tuple_str, DL.isi_tuple_lst, DL.isi_tuple_tup, DL.isi_tuple_non, DL.isi2_int, DL.isi2_bl, DL.isi2_str, DL.isi2_lst, DL.isi2_tup, DL.isi2_non, DL.OB_tuple_l, DL.OB_tuple_t, DL.OB_list_l, DL.OB_list_t, DL.OB_sum, DL.OB_all, DL.OB_any, DL.bls_nil, DL.bls_cons, DL.blsOf_map, DL.ints_nil, DL.ints_cons, DL.intsOf_map, DL.OB_map, DL.OW_lc0, DL.OW_lcY, id, List.all_map, DL.tru_bl, DL.tru_int, DL.tru_lst, DL.tru_tup, DL.tru_non, DL.IF_n, DL.IF_d, DL.OB_some, DL.OB_none, DL.OB_ite, DL.fzT_v, DL.fzT_f, DL.fzT_s, DL.dr_v, DL.dr_f, DL.dr_s, DL.slot_z, DL.slot_s, DL.Sc_v, DL.Sc_s, DL.argsSV_nil, DL.argsSV_d, DL.argsSV_i', DL.SMt_o, DL.SMt_b, DL.pb_nil, DL.pb_nil2, DL.pb_cons, DL.SPt_o, DL.SPt_b, DL.retT_d, DL.retT_o, DL.lS_nil, DL.lS_d, DL.lS_i, DL.lP_nil, DL.lP_d, DL.lP_i, DL.SVl_d, DL.SVl_o, DL.SVl_b, DL.backOf_nil, DL.backOf_cons, DL.sqOf_l, DL.sqOf_t, DL.seqD_l, DL.seqD_t, DL.items_l, DL.items_t, DL.srcOk_n, DL.OB_gN, DL.OB_gK, DL.OB_gCons, DL.OB_gNil, DL.OB_add, DL.OB_sub, DL.OB_mul, DL.OB_mulL, DL.OB_fdiv, DL.OB_mod, DL.OB_pow, DL.OB_shl, DL.OB_bits, DL.OB_sl_l, DL.OB_sl_f, DL.OB_neg, DL.OB_lt, DL.OB_le, DL.OB_gt, DL.OB_ge, DL.OB_eq, DL.OB_ne, DL.eqB_int, DL.eqB_str, DL.OB_is, DL.OB_isn, DL.OB_len_l, DL.OB_len_t, DL.OB_abs, DL.OB_int, DL.OB_intb, DL.OB_ix_l, DL.OB_ix_t, DL.OB_gcd, DL.OB_lcm, DL.OB_max2, DL.OB_min2, DL.isNon, false_implies, implies_true, DL.rng_len, DL.enum_len, DL.zip_len, Int.toNat_natCast, DL.atI0, DL.atI1, DL.nd0, DL.nd1, DL.atI2, DL.ixN_b, DL.ixN_1, DL.ixN_2, DL.wipeE, DL.restE, DL.ownFree, Option.map_some, Option.isSome_some, DL.put_o, DL.put_b, DL.val_o, DL.val_b, DL.val_d, DL.ends, List.map_cons, List.map_nil, List.cons_append, List.nil_append, List.length_cons, List.length_nil, List.set_cons_zero, List.set_cons_succ, List.set_nil, List.replicate_zero, List.replicate_succ, List.all_cons, List.all_nil, Bool.and_true, Bool.and_self, true_and, and_true, and_self, Nat.reduceAdd, Nat.reduceLT, Nat.reduceLeDiff, Nat.reduceSub, Nat.zero_le, Nat.zero_add]
    rw [sum_nat, sum_nat, ← List.map_take]
    rfl
theorem upto_ok {ls : List Nat} {p : Nat} : ((((ls.map W).take p).sum : Nat) : Int) = (A ls p : Nat) := by
  unfold A
  rw [List.map_take]
theorem reduced_ok {a b : Nat} (b0 : 0 < b) (b1 : b < 2 ^ 900) : FW (mf_reduced [.d (nD a), .d (nD b)]) Q E = Q (.d (.tup [nD (a / a.gcd b), nD (b / a.gcd b)])) [] := by
  unfold mf_reduced
  rw [FW_run]
  unfold m_reduced
  simp only [show N_reduced.length = 3 from rfl]
  simp only [DL.SW_nx, DL.SW_rt, DL.SW_pass, DL.SW_brk, DL.SW_cnt, DL.SW_seq, DL.SW_drop, DL.SW_set, DL.SW_ret, DL.SW_ifS, DL.SW_asg, DL.SW_par2, DL.SW_par3, DL.SW_aug, DL.SW_raise, DL.SW_setIx, DL.SW_for, DL.SW_for0, DL.SW_forS, DL.SW_while, DL.OW_ok, DL.OW_no, DL.OW_var, DL.OW_c, DL.OW_fz, DL.OW_fa, DL.OW_faO_v, DL.OW_faO_f, DL.OW_faO_s, DL.OW_bin, DL.OW_un, DL.OW_tr, DL.OW_te, DL.OW_notT, DL.OW_andT, DL.OW_orT, DL.OW_and, DL.OW_or, DL.OW_not, DL.OW_if, DL.OW_nil, DL.OW_cons, DL.OW_lst, DL.OW_tup, DL.OW_chain, DL.OW_oNo, DL.OW_oSo, DL.OW_sl, DL.OW_new, DL.OW_newO_v, DL.OW_newO_f, DL.OW_newO_s, DL.OW_retO_v, DL.OW_retO_f, DL.OW_retO_s, DL.OW_nNil, DL.OW_nCons, DL.OW_call, DL.OW_iNil, DL.OW_iCons, DL.OW_iLnd, DL.OW_gI, DL.OW_itF, DL.OW_it, DL.OW_rng1, DL.OW_rng2, DL.OW_zipK, DL.OW_enum, DL.OW_enumV, DL.OW_lc, DL.OW_yes, DL.SL_d, DL.SL_o, DL.SL_b, DL.SF_d, DL.SF_o, DL.SRt_d, DL.SRt_o, DL.TB_v, DL.TI_i, DL.L2_2, DL.L3_3, DL.SI_i, DL.SX_o, DL.SX_b, DL.IF_t, DL.IF_f, reduceCtorEq, DL.isi_int_int, DL.isi_int_bl, DL.isi_int_str, DL.isi_int_lst, DL.isi_int_tup, DL.isi_int_non, DL.isi_bool_int, DL.isi_bool_bl, DL.isi_bool_str, DL.isi_bool_lst, DL.isi_bool_tup, DL.isi_bool_non, DL.isi_str_int, DL.isi_str_bl, DL.isi_str_str, DL.isi_str_lst, DL.isi_str_tup, DL.isi_str_non, DL.isi_list_int, DL.isi_list_bl, DL.isi_list_str, DL.isi_list_lst, DL.isi_list_tup, DL.isi_list_non, DL.isi_tuple_int, DL.isi_tuple_bl, DL.isi_tuple_str, DL.isi_tuple_lst, DL.isi_tuple_tup, DL.isi_tuple_non, DL.isi2_int, DL.isi2_bl, DL.isi2_str, DL.isi2_lst, DL.isi2_tup, DL.isi2_non, DL.OB_tuple_l, DL.OB_tuple_t, DL.OB_list_l, DL.OB_list_t, DL.OB_sum, DL.OB_all, DL.OB_any, DL.bls_nil, DL.bls_cons, DL.blsOf_map, DL.ints_nil, DL.ints_cons, DL.intsOf_map, DL.OB_map, DL.OW_lc0, DL.OW_lcY, id, List.all_map, DL.tru_bl, DL.tru_int, DL.tru_lst, DL.tru_tup, DL.tru_non, DL.IF_n, DL.IF_d, DL.OB_some, DL.OB_none, DL.OB_ite, DL.fzT_v, DL.fzT_f, DL.fzT_s, DL.dr_v, DL.dr_f, DL.dr_s, DL.slot_z, DL.slot_s, DL.Sc_v, DL.Sc_s, DL.argsSV_nil, DL.argsSV_d, DL.argsSV_i', DL.SMt_o, DL.SMt_b, DL.pb_nil, DL.pb_nil2, DL.pb_cons, DL.SPt_o, DL.SPt_b, DL.retT_d, DL.retT_o, DL.lS_nil, DL.lS_d, DL.lS_i, DL.lP_nil, DL.lP_d, DL.lP_i, DL.SVl_d, DL.SVl_o, DL.SVl_b, DL.backOf_nil, DL.backOf_cons, DL.sqOf_l, DL.sqOf_t, DL.seqD_l, DL.seqD_t, DL.items_l, DL.items_t, DL.srcOk_n, DL.OB_gN, DL.OB_gK, DL.OB_gCons, DL.OB_gNil, DL.OB_add, DL.OB_sub, DL.OB_mul, DL.OB_mulL, DL.OB_fdiv, DL.OB_mod, DL.OB_pow, DL.OB_shl, DL.OB_bits, DL.OB_sl_l, DL.OB_sl_f, DL.OB_neg, DL.OB_lt, DL.OB_le, DL.OB_gt, DL.OB_ge, DL.OB_eq, DL.OB_ne, DL.eqB_int, DL.eqB_str, DL.OB_is, DL.OB_isn, DL.OB_len_l, DL.OB_len_t, DL.OB_abs, DL.OB_int, DL.OB_intb, DL.OB_ix_l, DL.OB_ix_t, DL.OB_gcd, DL.OB_lcm, DL.OB_max2, DL.OB_min2, DL.isNon, false_implies, implies_true, DL.rng_len, DL.enum_len, DL.zip_len, Int.toNat_natCast, DL.atI0, DL.atI1, DL.nd0, DL.nd1, DL.atI2, DL.ixN_b, DL.ixN_1, DL.ixN_2, DL.wipeE, DL.restE, DL.ownFree, Option.map_some, Option.isSome_some, DL.put_o, DL.put_b, DL.val_o, DL.val_b, DL.val_d, DL.ends, List.map_cons, List.map_nil, List.cons_append, List.nil_append, List.length_cons, List.length_nil, List.set_cons_zero, List.set_cons_succ, List.set_nil, List.replicate_zero, List.replicate_succ, List.all_cons, List.all_nil, Bool.and_true, Bool.and_self, true_and, and_true, and_self, Nat.reduceAdd, Nat.reduceLT, Nat.reduceLeDiff, Nat.reduceSub, Nat.zero_le, Nat.zero_add]
  have g0 : 0 < a.gcd b := Nat.gcd_pos_of_pos_right a b0
  have g1 : a.gcd b ≤ b := Nat.le_of_dvd b0 (Nat.gcd_dvd_right a b)
  rw [Int.natAbs_natCast, Int.natAbs_natCast]
  have dv : ∀ i : Int, CDivW i ((a.gcd b : Nat) : Int) := fun i => div_n (b := 900) (by omega) (by rw [Int.natAbs_natCast]; omega) (by decide) (by decide)
  exact propext ⟨fun h => h.2.2, fun h => ⟨dv _, dv _, h⟩⟩
/-- the factor of a place -/
def fac (ls : List Nat) (p l : Nat) : Nat × Nat := ((S ls + A ls p) / (S ls + A ls p).gcd (W l), W l / (S ls + A ls p).gcd (W l))
def facD (q : Nat × Nat) : D := .tup [nD q.1, nD q.2]
theorem lap_factors_ok {d : D} {ls : List Nat} (h : Len d ls) : FW (mf_lap_factors [.d d]) Q E = Q (.d (.tup (ls.mapIdx fun p l => facD (fac ls p l)))) [] := by
  unfold mf_lap_factors
  rw [FW_run]
  unfold m_lap_factors
  simp only [show N_lap_factors.length = 7 from rfl]
  have hn := h.n1
  simp only [DL.SW_nx, DL.SW_rt, DL.SW_pass, DL.SW_brk, DL.SW_cnt, DL.SW_seq, DL.SW_drop, DL.SW_set, DL.SW_ret, DL.SW_ifS, DL.SW_asg, DL.SW_par2, DL.SW_par3, DL.SW_aug, DL.SW_raise, DL.SW_setIx, DL.SW_for, DL.SW_for0, DL.SW_forS, DL.SW_while, DL.OW_ok, DL.OW_no, DL.OW_var, DL.OW_c, DL.OW_fz, DL.OW_fa, DL.OW_faO_v, DL.OW_faO_f, DL.OW_faO_s, DL.OW_bin, DL.OW_un, DL.OW_tr, DL.OW_te, DL.OW_notT, DL.OW_andT, DL.OW_orT, DL.OW_and, DL.OW_or, DL.OW_not, DL.OW_if, DL.OW_nil, DL.OW_cons, DL.OW_lst, DL.OW_tup, DL.OW_chain, DL.OW_oNo, DL.OW_oSo, DL.OW_sl, DL.OW_new, DL.OW_newO_v, DL.OW_newO_f, DL.OW_newO_s, DL.OW_retO_v, DL.OW_retO_f, DL.OW_retO_s, DL.OW_nNil, DL.OW_nCons, DL.OW_call, DL.OW_iNil, DL.OW_iCons, DL.OW_iLnd, DL.OW_gI, DL.OW_itF, DL.OW_it, DL.OW_rng1, DL.OW_rng2, DL.OW_zipK, DL.OW_enum, DL.OW_enumV, DL.OW_lc, DL.OW_yes, DL.SL_d, DL.SL_o, DL.SL_b, DL.SF_d, DL.SF_o, DL.SRt_d, DL.SRt_o, DL.TB_v, DL.TI_i, DL.L2_2, DL.L3_3, DL.SI_i, DL.SX_o, DL.SX_b, DL.IF_t, DL.IF_f, reduceCtorEq, DL.isi_int_int, DL.isi_int_bl, DL.isi_int_str, DL.isi_int_lst, DL.isi_int_tup, DL.isi_int_non, DL.isi_bool_int, DL.isi_bool_bl, DL.isi_bool_str, DL.isi_bool_lst, DL.isi_bool_tup, DL.isi_bool_non, DL.isi_str_int, DL.isi_str_bl, DL.isi_str_str, DL.isi_str_lst, DL.isi_str_tup, DL.isi_str_non, DL.isi_list_int, DL.isi_list_bl, DL.isi_list_str, DL.isi_list_lst, DL.isi_list_tup, DL.isi_list_non, DL.isi_tuple_int, DL.isi_tuple_bl, DL.isi_tuple_str, DL.isi_tuple_lst, DL.isi_tuple_tup, DL.isi_tuple_non, DL.isi2_int, DL.isi2_bl, DL.isi2_str, DL.isi2_lst, DL.isi2_tup, DL.isi2_non, DL.OB_tuple_l, DL.OB_tuple_t, DL.OB_list_l, DL.OB_list_t, DL.OB_sum, DL.OB_all, DL.OB_any, DL.bls_nil, DL.bls_cons, DL.blsOf_map, DL.ints_nil, DL.ints_cons, DL.intsOf_map, DL.OB_map, DL.OW_lc0, DL.OW_lcY, id, List.all_map, DL.tru_bl, DL.tru_int, DL.tru_lst, DL.tru_tup, DL.tru_non, DL.IF_n, DL.IF_d, DL.OB_some, DL.OB_none, DL.OB_ite, DL.fzT_v, DL.fzT_f, DL.fzT_s, DL.dr_v, DL.dr_f, DL.dr_s, DL.slot_z, DL.slot_s, DL.Sc_v, DL.Sc_s, DL.argsSV_nil, DL.argsSV_d, DL.argsSV_i', DL.SMt_o, DL.SMt_b, DL.pb_nil, DL.pb_nil2, DL.pb_cons, DL.SPt_o, DL.SPt_b, DL.retT_d, DL.retT_o, DL.lS_nil, DL.lS_d, DL.lS_i, DL.lP_nil, DL.lP_d, DL.lP_i, DL.SVl_d, DL.SVl_o, DL.SVl_b, DL.backOf_nil, DL.backOf_cons, DL.sqOf_l, DL.sqOf_t, DL.seqD_l, DL.seqD_t, DL.items_l, DL.items_t, DL.srcOk_n, DL.OB_gN, DL.OB_gK, DL.OB_gCons, DL.OB_gNil, DL.OB_add, DL.OB_sub, DL.OB_mul, DL.OB_mulL, DL.OB_fdiv, DL.OB_mod, DL.OB_pow, DL.OB_shl, DL.OB_bits, DL.OB_sl_l, DL.OB_sl_f, DL.OB_neg, DL.OB_lt, DL.OB_le, DL.OB_gt, DL.OB_ge, DL.OB_eq, DL.OB_ne, DL.eqB_int, DL.eqB_str, DL.OB_is, DL.OB_isn, DL.OB_len_l, DL.OB_len_t, DL.OB_abs, DL.OB_int, DL.OB_intb, DL.OB_ix_l, DL.OB_ix_t, DL.OB_gcd, DL.OB_lcm, DL.OB_max2, DL.OB_min2, DL.isNon, false_implies, implies_true, DL.rng_len, DL.enum_len, DL.zip_len, Int.toNat_natCast, DL.atI0, DL.atI1, DL.nd0, DL.nd1, DL.atI2, DL.ixN_b, DL.ixN_1, DL.ixN_2, DL.wipeE, DL.restE, DL.ownFree, Option.map_some, Option.isSome_some, DL.put_o, DL.put_b, DL.val_o, DL.val_b, DL.val_d, DL.ends, List.map_cons, List.map_nil, List.cons_append, List.nil_append, List.length_cons, List.length_nil, List.set_cons_zero, List.set_cons_succ, List.set_nil, List.replicate_zero, List.replicate_succ, List.all_cons, List.all_nil, Bool.and_true, Bool.and_self, true_and, and_true, and_self, Nat.reduceAdd, Nat.reduceLT, Nat.reduceLeDiff, Nat.reduceSub, Nat.zero_le, Nat.zero_add, need_lengths_t h, h.s.items]
  rw [OW_lcPE (fun x => match x with
    | .int l => nD (W l.toNat)
    | _ => .non) _ _ fun x hx => ?_]
  · have eW : ((ls.map nD).map fun x => match x with
      | .int l => nD (W l.toNat)
      | _ => .non) = (ls.map W).map nD := by
      rw [List.map_map, List.map_map]
      rfl
    rw [eW]
    simp only [DL.SW_nx, DL.SW_rt, DL.SW_pass, DL.SW_brk, DL.SW_cnt, DL.SW_seq, DL.SW_drop, DL.SW_set, DL.SW_ret, DL.SW_ifS, DL.SW_asg, DL.SW_par2, DL.SW_par3, DL.SW_aug, DL.SW_raise, DL.SW_setIx, DL.SW_for, DL.SW_for0, DL.SW_forS, DL.SW_while, DL.OW_ok, DL.OW_no, DL.OW_var, DL.OW_c, DL.OW_fz, DL.OW_fa, DL.OW_faO_v, DL.OW_faO_f, DL.OW_faO_s, DL.OW_bin, DL.OW_un, DL.OW_tr, DL.OW_te, DL.OW_notT, DL.OW_andT, DL.OW_orT, DL.OW_and, DL.OW_or, DL.OW_not, DL.OW_if, DL.OW_nil, DL.OW_cons, DL.OW_lst, DL.OW_tup, DL.OW_chain, DL.OW_oNo, DL.OW_oSo, DL.OW_sl, DL.OW_new, DL.OW_newO_v, DL.OW_newO_f, DL.OW_newO_s, DL.OW_retO_v, DL.OW_retO_f, DL.OW_retO_s, DL.OW_nNil, DL.OW_nCons, DL.OW_call, DL.OW_iNil, DL.OW_iCons, DL.OW_iLnd, DL.OW_gI, DL.OW_itF, DL.OW_it, DL.OW_rng1, DL.OW_rng2, DL.OW_zipK, DL.OW_enum, DL.OW_enumV, DL.OW_lc, DL.OW_yes, DL.SL_d, DL.SL_o, DL.SL_b, DL.SF_d, DL.SF_o, DL.SRt_d, DL.SRt_o, DL.TB_v, DL.TI_i, DL.L2_2, DL.L3_3, DL.SI_i, DL.SX_o, DL.SX_b, DL.IF_t, DL.IF_f, reduceCtorEq, DL.isi_int_int, DL.isi_int_bl, DL.isi_int_str, DL.isi_int_lst, DL.isi_int_tup, DL.isi_int_non, DL.isi_bool_int, DL.isi_bool_bl, DL.isi_bool_str, DL.isi_bool_lst, DL.isi_bool_tup, DL.isi_bool_non, DL.isi_str_int, DL.isi_str_bl, DL.isi_str_str, DL.isi_str_lst, DL.isi_str_tup, DL.isi_str_non, DL.isi_list_int, DL.isi_list_bl, DL.isi_list_str, DL.isi_list_lst, DL.isi_list_tup, DL.isi_list_non, DL.isi_tuple_int, DL.isi_tuple_bl, DL.isi_tuple_str, DL.isi_tuple_lst, DL.isi_tuple_tup, DL.isi_tuple_non, DL.isi2_int, DL.isi2_bl, DL.isi2_str, DL.isi2_lst, DL.isi2_tup, DL.isi2_non, DL.OB_tuple_l, DL.OB_tuple_t, DL.OB_list_l, DL.OB_list_t, DL.OB_sum, DL.OB_all, DL.OB_any, DL.bls_nil, DL.bls_cons, DL.blsOf_map, DL.ints_nil, DL.ints_cons, DL.intsOf_map, DL.OB_map, DL.OW_lc0, DL.OW_lcY, id, List.all_map, DL.tru_bl, DL.tru_int, DL.tru_lst, DL.tru_tup, DL.tru_non, DL.IF_n, DL.IF_d, DL.OB_some, DL.OB_none, DL.OB_ite, DL.fzT_v, DL.fzT_f, DL.fzT_s, DL.dr_v, DL.dr_f, DL.dr_s, DL.slot_z, DL.slot_s, DL.Sc_v, DL.Sc_s, DL.argsSV_nil, DL.argsSV_d, DL.argsSV_i', DL.SMt_o, DL.SMt_b, DL.pb_nil, DL.pb_nil2, DL.pb_cons, DL.SPt_o, DL.SPt_b, DL.retT_d, DL.retT_o, DL.lS_nil, DL.lS_d, DL.lS_i, DL.lP_nil, DL.lP_d, DL.lP_i, DL.SVl_d, DL.SVl_o, DL.SVl_b, DL.backOf_nil, DL.backOf_cons, DL.sqOf_l, DL.sqOf_t, DL.seqD_l, DL.seqD_t, DL.items_l, DL.items_t, DL.srcOk_n, DL.OB_gN, DL.OB_gK, DL.OB_gCons, DL.OB_gNil, DL.OB_add, DL.OB_sub, DL.OB_mul, DL.OB_mulL, DL.OB_fdiv, DL.OB_mod, DL.OB_pow, DL.OB_shl, DL.OB_bits, DL.OB_sl_l, DL.OB_sl_f, DL.OB_neg, DL.OB_lt, DL.OB_le, DL.OB_gt, DL.OB_ge, DL.OB_eq, DL.OB_ne, DL.eqB_int, DL.eqB_str, DL.OB_is, DL.OB_isn, DL.OB_len_l, DL.OB_len_t, DL.OB_abs, DL.OB_int, DL.OB_intb, DL.OB_ix_l, DL.OB_ix_t, DL.OB_gcd, DL.OB_lcm, DL.OB_max2, DL.OB_min2, DL.isNon, false_implies, implies_true, DL.rng_len, DL.enum_len, DL.zip_len, Int.toNat_natCast, DL.atI0, DL.atI1, DL.nd0, DL.nd1, DL.atI2, DL.ixN_b, DL.ixN_1, DL.ixN_2, DL.wipeE, DL.restE, DL.ownFree, Option.map_some, Option.isSome_some, DL.put_o, DL.put_b, DL.val_o, DL.val_b, DL.val_d, DL.ends, List.map_cons, List.map_nil, List.cons_append, List.nil_append, List.length_cons, List.length_nil, List.set_cons_zero, List.set_cons_succ, List.set_nil, List.replicate_zero, List.replicate_succ, List.all_cons, List.all_nil, Bool.and_true, Bool.and_self, true_and, and_true, and_self, Nat.reduceAdd, Nat.reduceLT, Nat.reduceLeDiff, Nat.reduceSub, Nat.zero_le, Nat.zero_add]
    rw [List.length_map, List.length_map]
    rw [OW_lcPE (fun x => match x with
      | .int i => nD (S ls + A ls i.toNat)
      | _ => .non) _ _ fun x hx => ?_]
    · have eS : ((rngD 0 ((ls.map W).length)).map fun x => match x with
        | .int i => nD (S ls + A ls i.toNat)
        | _ => .non) = (List.range ls.length).map fun i => nD (S ls + A ls i) := by
        unfold rngD
        rw [List.map_map, List.length_map]
        refine List.map_congr_left fun i _ => ?_
        simp [Function.comp]
      rw [eS]
      simp only [DL.SW_nx, DL.SW_rt, DL.SW_pass, DL.SW_brk, DL.SW_cnt, DL.SW_seq, DL.SW_drop, DL.SW_set, DL.SW_ret, DL.SW_ifS, DL.SW_asg, DL.SW_par2, DL.SW_par3, DL.SW_aug, DL.SW_raise, DL.SW_setIx, DL.SW_for, DL.SW_for0, DL.SW_forS, DL.SW_while, DL.OW_ok, DL.OW_no, DL.OW_var, DL.OW_c, DL.OW_fz, DL.OW_fa, DL.OW_faO_v, DL.OW_faO_f, DL.OW_faO_s, DL.OW_bin, DL.OW_un, DL.OW_tr, DL.OW_te, DL.OW_notT, DL.OW_andT, DL.OW_orT, DL.OW_and, DL.OW_or, DL.OW_not, DL.OW_if, DL.OW_nil, DL.OW_cons, DL.OW_lst, DL.OW_tup, DL.OW_chain, DL.OW_oNo, DL.OW_oSo, DL.OW_sl, DL.OW_new, DL.OW_newO_v, DL.OW_newO_f, DL.OW_newO_s, DL.OW_retO_v, DL.OW_retO_f, DL.OW_retO_s, DL.OW_nNil, DL.OW_nCons, DL.OW_call, DL.OW_iNil, DL.OW_iCons, DL.OW_iLnd, DL.OW_gI, DL.OW_itF, DL.OW_it, DL.OW_rng1, DL.OW_rng2, DL.OW_zipK, DL.OW_enum, DL.OW_enumV, DL.OW_lc, DL.OW_yes, DL.SL_d, DL.SL_o, DL.SL_b, DL.SF_d, DL.SF_o, DL.SRt_d, DL.SRt_o, DL.TB_v, DL.TI_i, DL.L2_2, DL.L3_3, DL.SI_i, DL.SX_o, DL.SX_b, DL.IF_t, DL.IF_f, reduceCtorEq, DL.isi_int_int, DL.isi_int_bl, DL.isi_int_str, DL.isi_int_lst, DL.isi_int_tup, DL.isi_int_non, DL.isi_bool_int, DL.isi_bool_bl, DL.isi_bool_str, DL.isi_bool_lst, DL.isi_bool_tup, DL.isi_bool_non, DL.isi_str_int, DL.isi_str_bl, DL.isi_str_str, DL.isi_str_lst, DL.isi_str_tup, DL.isi_str_non, DL.isi_list_int, DL.isi_list_bl, DL.isi_list_str, DL.isi_list_lst, DL.isi_list_tup, DL.isi_list_non, DL.isi_tuple_int, DL.isi_tuple_bl, DL.isi_tuple_str, DL.isi_tuple_lst, DL.isi_tuple_tup, DL.isi_tuple_non, DL.isi2_int, DL.isi2_bl, DL.isi2_str, DL.isi2_lst, DL.isi2_tup, DL.isi2_non, DL.OB_tuple_l, DL.OB_tuple_t, DL.OB_list_l, DL.OB_list_t, DL.OB_sum, DL.OB_all, DL.OB_any, DL.bls_nil, DL.bls_cons, DL.blsOf_map, DL.ints_nil, DL.ints_cons, DL.intsOf_map, DL.OB_map, DL.OW_lc0, DL.OW_lcY, id, List.all_map, DL.tru_bl, DL.tru_int, DL.tru_lst, DL.tru_tup, DL.tru_non, DL.IF_n, DL.IF_d, DL.OB_some, DL.OB_none, DL.OB_ite, DL.fzT_v, DL.fzT_f, DL.fzT_s, DL.dr_v, DL.dr_f, DL.dr_s, DL.slot_z, DL.slot_s, DL.Sc_v, DL.Sc_s, DL.argsSV_nil, DL.argsSV_d, DL.argsSV_i', DL.SMt_o, DL.SMt_b, DL.pb_nil, DL.pb_nil2, DL.pb_cons, DL.SPt_o, DL.SPt_b, DL.retT_d, DL.retT_o, DL.lS_nil, DL.lS_d, DL.lS_i, DL.lP_nil, DL.lP_d, DL.lP_i, DL.SVl_d, DL.SVl_o, DL.SVl_b, DL.backOf_nil, DL.backOf_cons, DL.sqOf_l, DL.sqOf_t, DL.seqD_l, DL.seqD_t, DL.items_l, DL.items_t, DL.srcOk_n, DL.OB_gN, DL.OB_gK, DL.OB_gCons, DL.OB_gNil, DL.OB_add, DL.OB_sub, DL.OB_mul, DL.OB_mulL, DL.OB_fdiv, DL.OB_mod, DL.OB_pow, DL.OB_shl, DL.OB_bits, DL.OB_sl_l, DL.OB_sl_f, DL.OB_neg, DL.OB_lt, DL.OB_le, DL.OB_gt, DL.OB_ge, DL.OB_eq, DL.OB_ne, DL.eqB_int, DL.eqB_str, DL.OB_is, DL.OB_isn, DL.OB_len_l, DL.OB_len_t, DL.OB_abs, DL.OB_int, DL.OB_intb, DL.OB_ix_l, DL.OB_ix_t, DL.OB_gcd, DL.OB_lcm, DL.OB_max2, DL.OB_min2, DL.isNon, false_implies, implies_true, DL.rng_len, DL.enum_len, DL.zip_len, Int.toNat_natCast, DL.atI0, DL.atI1, DL.nd0, DL.nd1, DL.atI2, DL.ixN_b, DL.ixN_1, DL.ixN_2, DL.wipeE, DL.restE, DL.ownFree, Option.map_some, Option.isSome_some, DL.put_o, DL.put_b, DL.val_o, DL.val_b, DL.val_d, DL.ends, List.map_cons, List.map_nil, List.cons_append, List.nil_append, List.length_cons, List.length_nil, List.set_cons_zero, List.set_cons_succ, List.set_nil, List.replicate_zero, List.replicate_succ, List.all_cons, List.all_nil, Bool.and_true, Bool.and_self, true_and, and_true, and_self, Nat.reduceAdd, Nat.reduceLT, Nat.reduceLeDiff, Nat.reduceSub, Nat.zero_le, Nat.zero_add]
      rw [OW_lcPE (fun x => match x with
        | .tup [.int a, .int b] => facD (a.toNat / a.toNat.gcd b.toNat, b.toNat / a.toNat.gcd b.toNat)
        | _ => .non) _ _ fun x hx => ?_]
      · simp only [DL.SW_nx, DL.SW_rt, DL.SW_pass, DL.SW_brk, DL.SW_cnt, DL.SW_seq, DL.SW_drop, DL.SW_set, DL.SW_ret, DL.SW_ifS, DL.SW_asg, DL.SW_par2, DL.SW_par3, DL.SW_aug, DL.SW_raise, DL.SW_setIx, DL.SW_for, DL.SW_for0, DL.SW_forS, DL.SW_while, DL.OW_ok, DL.OW_no, DL.OW_var, DL.OW_c, DL.OW_fz, DL.OW_fa, DL.OW_faO_v, DL.OW_faO_f, DL.OW_faO_s, DL.OW_bin, DL.OW_un, DL.OW_tr, DL.OW_te, DL.OW_notT, DL.OW_andT, DL.OW_orT, DL.OW_and, DL.OW_or, DL.OW_not, DL.OW_if, DL.OW_nil, DL.OW_cons, DL.OW_lst, DL.OW_tup, DL.OW_chain, DL.OW_oNo, DL.OW_oSo, DL.OW_sl, DL.OW_new, DL.OW_newO_v, DL.OW_newO_f, DL.OW_newO_s, DL.OW_retO_v, DL.OW_retO_f, DL.OW_retO_s, DL.OW_nNil, DL.OW_nCons, DL.OW_call, DL.OW_iNil, DL.OW_iCons, DL.OW_iLnd, DL.OW_gI, DL.OW_itF, DL.OW_it, DL.OW_rng1, DL.OW_rng2, DL.OW_zipK, DL.OW_enum, DL.OW_enumV, DL.OW_lc, DL.OW_yes, DL.SL_d, DL.SL_o, DL.SL_b, DL.SF_d, DL.SF_o, DL.SRt_d, DL.SRt_o, DL.TB_v, DL.TI_i, DL.L2_2, DL.L3_3, DL.SI_i, DL.SX_o, DL.SX_b, DL.IF_t, DL.IF_f, reduceCtorEq, DL.isi_int_int, DL.isi_int_bl, DL.isi_int_str, DL.isi_int_lst, DL.isi_int_tup, DL.isi_int_non, DL.isi_bool_int, DL.isi_bool_bl, DL.isi_bool_str, DL.isi_bool_lst, DL.isi_bool_tup, DL.isi_bool_non, DL.isi_str_int, DL.isi_str_bl, DL.isi_str_str, DL.isi_str_lst, DL.isi_str_tup, DL.isi_str_non, DL.isi_list_int, DL.isi_list_bl, DL.isi_list_str, DL.isi_list_lst, DL.isi_list_tup, DL.isi_list_non, DL.isi_tuple_int, DL.isi_tuple_bl, DL.isi_tuple_str, DL.isi_tuple_lst, DL.isi_tuple_tup, DL.isi_tuple_non, DL.isi2_int, DL.isi2_bl, DL.isi2_str, DL.isi2_lst, DL.isi2_tup, DL.isi2_non, DL.OB_tuple_l, DL.OB_tuple_t, DL.OB_list_l, DL.OB_list_t, DL.OB_sum, DL.OB_all, DL.OB_any, DL.bls_nil, DL.bls_cons, DL.blsOf_map, DL.ints_nil, DL.ints_cons, DL.intsOf_map, DL.OB_map, DL.OW_lc0, DL.OW_lcY, id, List.all_map, DL.tru_bl, DL.tru_int, DL.tru_lst, DL.tru_tup, DL.tru_non, DL.IF_n, DL.IF_d, DL.OB_some, DL.OB_none, DL.OB_ite, DL.fzT_v, DL.fzT_f, DL.fzT_s, DL.dr_v, DL.dr_f, DL.dr_s, DL.slot_z, DL.slot_s, DL.Sc_v, DL.Sc_s, DL.argsSV_nil, DL.argsSV_d, DL.argsSV_i', DL.SMt_o, DL.SMt_b, DL.pb_nil, DL.pb_nil2, DL.pb_cons, DL.SPt_o, DL.SPt_b, DL.retT_d, DL.retT_o, DL.lS_nil, DL.lS_d, DL.lS_i, DL.lP_nil, DL.lP_d, DL.lP_i, DL.SVl_d, DL.SVl_o, DL.SVl_b, DL.backOf_nil, DL.backOf_cons, DL.sqOf_l, DL.sqOf_t, DL.seqD_l, DL.seqD_t, DL.items_l, DL.items_t, DL.srcOk_n, DL.OB_gN, DL.OB_gK, DL.OB_gCons, DL.OB_gNil, DL.OB_add, DL.OB_sub, DL.OB_mul, DL.OB_mulL, DL.OB_fdiv, DL.OB_mod, DL.OB_pow, DL.OB_shl, DL.OB_bits, DL.OB_sl_l, DL.OB_sl_f, DL.OB_neg, DL.OB_lt, DL.OB_le, DL.OB_gt, DL.OB_ge, DL.OB_eq, DL.OB_ne, DL.eqB_int, DL.eqB_str, DL.OB_is, DL.OB_isn, DL.OB_len_l, DL.OB_len_t, DL.OB_abs, DL.OB_int, DL.OB_intb, DL.OB_ix_l, DL.OB_ix_t, DL.OB_gcd, DL.OB_lcm, DL.OB_max2, DL.OB_min2, DL.isNon, false_implies, implies_true, DL.rng_len, DL.enum_len, DL.zip_len, Int.toNat_natCast, DL.atI0, DL.atI1, DL.nd0, DL.nd1, DL.atI2, DL.ixN_b, DL.ixN_1, DL.ixN_2, DL.wipeE, DL.restE, DL.ownFree, Option.map_some, Option.isSome_some, DL.put_o, DL.put_b, DL.val_o, DL.val_b, DL.val_d, DL.ends, List.map_cons, List.map_nil, List.cons_append, List.nil_append, List.length_cons, List.length_nil, List.set_cons_zero, List.set_cons_succ, List.set_nil, List.replicate_zero, List.replicate_succ, List.all_cons, List.all_nil, Bool.and_true, Bool.and_self, true_and, and_true, and_self, Nat.reduceAdd, Nat.reduceLT, Nat.reduceLeDiff, Nat.reduceSub, Nat.zero_le, Nat.zero_add]
        have eZ : (zipD ((List.range ls.length).map fun i => nD (S ls + A ls i)) ((ls.map W).map nD)).map (fun x => match x with
            | .tup [.int a, .int b] => facD (a.toNat / a.toNat.gcd b.toNat, b.toNat / a.toNat.gcd b.toNat)
            | _ => .non) = ls.mapIdx fun p l => facD (fac ls p l) := by
          refine List.ext_getElem? fun i => ?_
          unfold zipD
          rw [List.getElem?_map, List.getElem?_mapIdx, List.getElem?_zipWith, List.getElem?_map, List.getElem?_map, List.getElem?_map]
          by_cases hi : i < ls.length
          · rw [List.getElem?_range hi, List.getElem?_eq_getElem hi]
            simp [fac]
            rw [show (((S ls : Nat) : Int) + (A ls i : Nat)).toNat = S ls + A ls i by omega]
          · rw [List.getElem?_eq_none (l := ls) (by omega)]
            simp
        rw [eZ, List.length_map, List.length_map, List.length_map, List.length_range, List.length_map]
        exact propext ⟨fun z => z.2.2.2.2, fun z => ⟨by omega, by omega, by omega, by omega, z⟩⟩
      · obtain ⟨i, hi⟩ := List.getElem?_of_mem hx
        obtain ⟨a, b, ha, hb, rfl⟩ := DL.zip_get hi
        rw [List.getElem?_map] at ha hb
        obtain ⟨k, hk, rfl⟩ := Option.map_eq_some_iff.mp ha
        rw [List.getElem?_map] at hb
        obtain ⟨w, hw, rfl⟩ := Option.map_eq_some_iff.mp hb
        obtain ⟨l, hl, rfl⟩ := Option.map_eq_some_iff.mp hw
        have w0 : 0 < W l := Nat.two_pow_pos _
        have w1 : W l < 2 ^ 900 := Nat.pow_lt_pow_right (by decide) (by omega)
        have hr : ∀ {Q : SV → List D → Prop} {E : Str → List (Str × D) → List D → Prop}, FW (mf_reduced [.d (.int ((S ls + A ls k : Nat) : Int)), .d (.int ((W l : Nat) : Int))]) Q E = Q (.d (.tup [nD ((S ls + A ls k) / (S ls + A ls k).gcd (W l)), nD (W l / (S ls + A ls k).gcd (W l))])) [] := reduced_ok w0 w1
        simp only [DL.SW_nx, DL.SW_rt, DL.SW_pass, DL.SW_brk, DL.SW_cnt, DL.SW_seq, DL.SW_drop, DL.SW_set, DL.SW_ret, DL.SW_ifS, DL.SW_asg, DL.SW_par2, DL.SW_par3, DL.SW_aug, DL.SW_raise, DL.SW_setIx, DL.SW_for, DL.SW_for0, DL.SW_forS, DL.SW_while, DL.OW_ok, DL.OW_no, DL.OW_var, DL.OW_c, DL.OW_fz, DL.OW_fa, DL.OW_faO_v, DL.OW_faO_f, DL.OW_faO_s, DL.OW_bin, DL.OW_un, DL.OW_tr, DL.OW_te, DL.OW_notT, DL.OW_andT, DL.OW_orT, DL.OW_and, DL.OW_or, DL.OW_not, DL.OW_if, DL.OW_nil, DL.OW_cons, DL.OW_lst, DL.OW_tup, DL.OW_chain, DL.OW_oNo, DL.OW_oSo, DL.OW_sl, DL.OW_new, DL.OW_newO_v, DL.OW_newO_f, DL.OW_newO_s, DL.OW_retO_v, DL.OW_retO_f, DL.OW_retO_s, DL.OW_nNil, DL.OW_nCons, DL.OW_call, DL.OW_iNil, DL.OW_iCons, DL.OW_iLnd, DL.OW_gI, DL.OW_itF, DL.OW_it, DL.OW_rng1, DL.OW_rng2, DL.OW_zipK, DL.OW_enum, DL.OW_enumV, DL.OW_lc, DL.OW_yes, DL.SL_d, DL.SL_o, DL.SL_b, DL.SF_d, DL.SF_o, DL.SRt_d, DL.SRt_o, DL.TB_v, DL.TI_i, DL.L2_2, DL.L3_3, DL.SI_i, DL.SX_o, DL.SX_b, DL.IF_t, DL.IF_f, reduceCtorEq, DL.isi_int_int, DL.isi_int_bl, DL.isi_int_str, DL.isi_int_lst, DL.isi_int_tup, DL.isi_int_non, DL.isi_bool_int, DL.isi_bool_bl, DL.isi_bool_str, DL.isi_bool_lst, DL.isi_bool_tup, DL.isi_bool_non, DL.isi_str_int, DL.isi_str_bl, DL.isi_str_str, DL.isi_str_lst, DL.isi_str_tup, DL.isi_str_non, DL.isi_list_int, DL.isi_list_bl, DL.isi_list_str, DL.isi_list_lst, DL.isi_list_tup, DL.isi_list_non, DL.isi_tuple_int, DL.isi_tuple_bl, DL.isi_tuple_str, DL.isi_tuple_lst, DL.isi_tuple_tup, DL.isi_tuple_non, DL.isi2_int, DL.isi2_bl, DL.isi2_str, DL.isi2_lst, DL.isi2_tup, DL.isi2_non, DL.OB_tuple_l, DL.OB_tuple_t, DL.OB_list_l, DL.OB_list_t, DL.OB_sum, DL.OB_all, DL.OB_any, DL.bls_nil, DL.bls_cons, DL.blsOf_map, DL.ints_nil, DL.ints_cons, DL.intsOf_map, DL.OB_map, DL.OW_lc0, DL.OW_lcY, id, List.all_map, DL.tru_bl, DL.tru_int, DL.tru_lst, DL.tru_tup, DL.tru_non, DL.IF_n, DL.IF_d, DL.OB_some, DL.OB_none, DL.OB_ite, DL.fzT_v, DL.fzT_f, DL.fzT_s, DL.dr_v, DL.dr_f, DL.dr_s, DL.slot_z, DL.slot_s, DL.Sc_v, DL.Sc_s, DL.argsSV_nil, DL.argsSV_d, DL.argsSV_i', DL.SMt_o, DL.SMt_b, DL.pb_nil, DL.pb_nil2, DL.pb_cons, DL.SPt_o, DL.SPt_b, DL.retT_d, DL.retT_o, DL.lS_nil, DL.lS_d, DL.lS_i, DL.lP_nil, DL.lP_d, DL.lP_i, DL.SVl_d, DL.SVl_o, DL.SVl_b, DL.backOf_nil, DL.backOf_cons, DL.sqOf_l, DL.sqOf_t, DL.seqD_l, DL.seqD_t, DL.items_l, DL.items_t, DL.srcOk_n, DL.OB_gN, DL.OB_gK, DL.OB_gCons, DL.OB_gNil, DL.OB_add, DL.OB_sub, DL.OB_mul, DL.OB_mulL, DL.OB_fdiv, DL.OB_mod, DL.OB_pow, DL.OB_shl, DL.OB_bits, DL.OB_sl_l, DL.OB_sl_f, DL.OB_neg, DL.OB_lt, DL.OB_le, DL.OB_gt, DL.OB_ge, DL.OB_eq, DL.OB_ne, DL.eqB_int, DL.eqB_str, DL.OB_is, DL.OB_isn, DL.OB_len_l, DL.OB_len_t, DL.OB_abs, DL.OB_int, DL.OB_intb, DL.OB_ix_l, DL.OB_ix_t, DL.OB_gcd, DL.OB_lcm, DL.OB_max2, DL.OB_min2, DL.isNon, false_implies, implies_true, DL.rng_len, DL.enum_len, DL.zip_len, Int.toNat_natCast, DL.atI0, DL.atI1, DL.nd0, DL.nd1, DL.atI2, DL.ixN_b, DL.ixN_1, DL.ixN_2, DL.wipeE, DL.restE, DL.ownFree, Option.map_some, Option.isSome_some, DL.put_o, DL.put_b, DL.val_o, DL.val_b, DL.val_d, DL.ends, List.map_cons, List.map_nil, List.cons_append, List.nil_append, List.length_cons, List.length_nil, List.set_cons_zero, List.set_cons_succ, List.set_nil, List.replicate_zero, List.replicate_succ, List.all_cons, List.all_nil, Bool.and_true, Bool.and_self, true_and, and_true, and_self, Nat.reduceAdd, Nat.reduceLT, Nat.reduceLeDiff, Nat.reduceSub, Nat.zero_le, Nat.zero_add, hr]
        rfl
    · obtain ⟨i, hi⟩ := List.getElem?_of_mem hx
      obtain ⟨_, rfl⟩ := rng_get hi
      have ec : DL.cutD ((ls.map W).map nD) none (some (0 + (i : Int))) = ((ls.map W).take i).map nD := by
        rw [Int.zero_add]
        exact cut_nat
      simp only [DL.SW_nx, DL.SW_rt, DL.SW_pass, DL.SW_brk, DL.SW_cnt, DL.SW_seq, DL.SW_drop, DL.SW_set, DL.SW_ret, DL.SW_ifS, DL.SW_asg, DL.SW_par2, DL.SW_par3, DL.SW_aug, DL.SW_raise, DL.SW_setIx, DL.SW_for, DL.SW_for0, DL.SW_forS, DL.SW_while, DL.OW_ok, DL.OW_no, DL.OW_var, DL.OW_c, DL.OW_fz, DL.OW_fa, DL.OW_faO_v, DL.OW_faO_f, DL.OW_faO_s, DL.OW_bin, DL.OW_un, DL.OW_tr, DL.OW_te, DL.OW_notT, DL.OW_andT, DL.OW_orT, DL.OW_and, DL.OW_or, DL.OW_not, DL.OW_if, DL.OW_nil, DL.OW_cons, DL.OW_lst, DL.OW_tup, DL.OW_chain, DL.OW_oNo, DL.OW_oSo, DL.OW_sl, DL.OW_new, DL.OW_newO_v, DL.OW_newO_f, DL.OW_newO_s, DL.OW_retO_v, DL.OW_retO_f, DL.OW_retO_s, DL.OW_nNil, DL.OW_nCons, DL.OW_call, DL.OW_iNil, DL.OW_iCons, DL.OW_iLnd, DL.OW_gI, DL.OW_itF, DL.OW_it, DL.OW_rng1, DL.OW_rng2, DL.OW_zipK, DL.OW_enum, DL.OW_enumV, DL.OW_lc, DL.OW_yes, DL.SL_d, DL.SL_o, DL.SL_b, DL.SF_d, DL.SF_o, DL.SRt_d, DL.SRt_o, DL.TB_v, DL.TI_i, DL.L2_2, DL.L3_3, DL.SI_i, DL.SX_o, DL.SX_b, DL.IF_t, DL.IF_f, reduceCtorEq, DL.isi_int_int, DL.isi_int_bl, DL.isi_int_str, DL.isi_int_lst, DL.isi_int_tup, DL.isi_int_non, DL.isi_bool_int, DL.isi_bool_bl, DL.isi_bool_str, DL.isi_bool_lst, DL.isi_bool_tup, DL.isi_bool_non, DL.isi_str_int, DL.isi_str_bl, DL.isi_str_str, DL.isi_str_lst, DL.isi_str_tup, DL.isi_str_non, DL.isi_list_int, DL.isi_list_bl, DL.isi_list_str, DL.isi_list_lst, DL.isi_list_tup, DL.isi_list_non, DL.isi_tuple_int, DL.isi_tuple_bl, DL.isi_tuple_str, DL.isi_tuple_lst, DL.isi_tuple_tup, DL.isi_tuple_non, DL.isi2_int, DL.isi2_bl, DL.isi2_str, DL.isi2_lst, DL.isi2_tup, DL.isi2_non, DL.OB_tuple_l, DL.OB_tuple_t, DL.OB_list_l, DL.OB_list_t, DL.OB_sum, DL.OB_all, DL.OB_any, DL.bls_nil, DL.bls_cons, DL.blsOf_map, DL.ints_nil, DL.ints_cons, DL.intsOf_map, DL.OB_map, DL.OW_lc0, DL.OW_lcY, id, List.all_map, DL.tru_bl, DL.tru_int, DL.tru_lst, DL.tru_tup, DL.tru_non, DL.IF_n, DL.IF_d, DL.OB_some, DL.OB_none, DL.OB_ite, DL.fzT_v, DL.fzT_f, DL.fzT_s, DL.dr_v, DL.dr_f, DL.dr_s, DL.slot_z, DL.slot_s, DL.Sc_v, DL.Sc_s, DL.argsSV_nil, DL.argsSV_d, DL.argsSV_i', DL.SMt_o, DL.SMt_b, DL.pb_nil, DL.pb_nil2, DL.pb_cons, DL.SPt_o, DL.SPt_b, DL.retT_d, DL.retT_o, DL.lS_nil, DL.lS_d, DL.lS_i, DL.lP_nil, DL.lP_d, DL.lP_i, DL.SVl_d, DL.SVl_o, DL.SVl_b, DL.backOf_nil, DL.backOf_cons, DL.sqOf_l, DL.sqOf_t, DL.seqD_l, DL.seqD_t, DL.items_l, DL.items_t, DL.srcOk_n, DL.OB_gN, DL.OB_gK, DL.OB_gCons, DL.OB_gNil, DL.OB_add, DL.OB_sub, DL.OB_mul, DL.OB_mulL, DL.OB_fdiv, DL.OB_mod, DL.OB_pow, DL.OB_shl, DL.OB_bits, DL.OB_sl_l, DL.OB_sl_f, DL.OB_neg, DL.OB_lt, DL.OB_le, DL.OB_gt, DL.OB_ge, DL.OB_eq, DL.OB_ne, DL.eqB_int, DL.eqB_str, DL.OB_is, DL.OB_isn, DL.OB_len_l, DL.OB_len_t, DL.OB_abs, DL.OB_int, DL.OB_intb, DL.OB_ix_l, DL.OB_ix_t, DL.OB_gcd, DL.OB_lcm, DL.OB_max2, DL.OB_min2, DL.isNon, false_implies, implies_true, DL.rng_len, DL.enum_len, DL.zip_len, Int.toNat_natCast, DL.atI0, DL.atI1, DL.nd0, DL.nd1, DL.atI2, DL.ixN_b, DL.ixN_1, DL.ixN_2, DL.wipeE, DL.restE, DL.ownFree, Option.map_some, Option.isSome_some, DL.put_o, DL.put_b, DL.val_o, DL.val_b, DL.val_d, DL.ends, List.map_cons, List.map_nil, List.cons_append, List.nil_append, List.length_cons, List.length_nil, List.set_cons_zero, List.set_cons_succ, List.set_nil, List.replicate_zero, List.replicate_succ, List.all_cons, List.all_nil, Bool.and_true, Bool.and_self, true_and, and_true, and_self, Nat.reduceAdd, Nat.reduceLT, Nat.reduceLeDiff, Nat.reduceSub, Nat.zero_le, Nat.zero_add, ints_nat, ec]
      rw [sum_nat, sum_nat]
      show D.int _ = D.int _
      congr 1
      rw [← List.map_take, show (0 + (i : Int)).toNat = i by omega]
      unfold S A
      omega
  · obtain ⟨l, hl, rfl⟩ := List.mem_map.mp hx
    have := h.ok l hl
    simp only [DL.SW_nx, DL.SW_rt, DL.SW_pass, DL.SW_brk, DL.SW_cnt, DL.SW_seq, DL.SW_drop, DL.SW_set, DL.SW_ret, DL.SW_ifS, DL.SW_asg, DL.SW_par2, DL.SW_par3, DL.SW_aug, DL.SW_raise, DL.SW_setIx, DL.SW_for, DL.SW_for0, DL.SW_forS, DL.SW_while, DL.OW_ok, DL.OW_no, DL.OW_var, DL.OW_c, DL.OW_fz, DL.OW_fa, DL.OW_faO_v, DL.OW_faO_f, DL.OW_faO_s, DL.OW_bin, DL.OW_un, DL.OW_tr, DL.OW_te, DL.OW_notT, DL.OW_andT, DL.OW_orT, DL.OW_and, DL.OW_or, DL.OW_not, DL.OW_if, DL.OW_nil, DL.OW_cons, DL.OW_lst, DL.OW_tup, DL.OW_chain, DL.OW_oNo, DL.OW_oSo, DL.OW_sl, DL.OW_new, DL.OW_newO_v, DL.OW_newO_f, DL.OW_newO_s, DL.OW_retO_v, DL.OW_retO_f, DL.OW_retO_s, DL.OW_nNil, DL.OW_nCons, DL.OW_call, DL.OW_iNil, DL.OW_iCons, DL.OW_iLnd, DL.OW_gI, DL.OW_itF, DL.OW_it, DL.OW_rng1, DL.OW_rng2, DL.OW_zipK, DL.OW_enum, DL.OW_enumV, DL.OW_lc, DL.OW_yes, DL.SL_d, DL.SL_o, DL.SL_b, DL.SF_d, DL.SF_o, DL.SRt_d, DL.SRt_o, DL.TB_v, DL.TI_i, DL.L2_2, DL.L3_3, DL.SI_i, DL.SX_o, DL.SX_b, DL.IF_t, DL.IF_f, reduceCtorEq, DL.isi_int_int, DL.isi_int_bl, DL.isi_int_str, DL.isi_int_lst, DL.isi_int_tup, DL.isi_int_non, DL.isi_bool_int, DL.isi_bool_bl, DL.isi_bool_str, DL.isi_bool_lst, DL.isi_bool_tup, DL.isi_bool_non, DL.isi_str_int, DL.isi_str_bl, DL.isi_str_str, DL.isi_str_lst, DL.isi_str_tup, DL.isi_str_non, DL.isi_list_int, DL.isi_list_bl, DL.isi_list_str, DL.isi_list_lst, DL.isi_list_tup, DL.isi_list_non, DL.isi_tuple_int, DL.isi_tuple_bl, DL.isi_tuple_str, DL.isi_tuple_lst, DL.isi_tuple_tup, DL.isi_tuple_non, DL.isi2_int, DL.isi2_bl, DL.isi2_str, DL.isi2_lst, DL.isi2_tup, DL.isi2_non, DL.OB_tuple_l, DL.OB_tuple_t, DL.OB_list_l, DL.OB_list_t, DL.OB_sum, DL.OB_all, DL.OB_any, DL.bls_nil, DL.bls_cons, DL.blsOf_map, DL.ints_nil, DL.ints_cons, DL.intsOf_map, DL.OB_map, DL.OW_lc0, DL.OW_lcY, id, List.all_map, DL.tru_bl, DL.tru_int, DL.tru_lst, DL.tru_tup, DL.tru_non, DL.IF_n, DL.IF_d, DL.OB_some, DL.OB_none, DL.OB_ite, DL.fzT_v, DL.fzT_f, DL.fzT_s, DL.dr_v, DL.dr_f, DL.dr_s, DL.slot_z, DL.slot_s, DL.Sc_v, DL.Sc_s, DL.argsSV_nil, DL.argsSV_d, DL.argsSV_i', DL.SMt_o, DL.SMt_b, DL.pb_nil, DL.pb_nil2, DL.pb_cons, DL.SPt_o, DL.SPt_b, DL.retT_d, DL.retT_o, DL.lS_nil, DL.lS_d, DL.lS_i, DL.lP_nil, DL.lP_d, DL.lP_i, DL.SVl_d, DL.SVl_o, DL.SVl_b, DL.backOf_nil, DL.backOf_cons, DL.sqOf_l, DL.sqOf_t, DL.seqD_l, DL.seqD_t, DL.items_l, DL.items_t, DL.srcOk_n, DL.OB_gN, DL.OB_gK, DL.OB_gCons, DL.OB_gNil, DL.OB_add, DL.OB_sub, DL.OB_mul, DL.OB_mulL, DL.OB_fdiv, DL.OB_mod, DL.OB_pow, DL.OB_shl, DL.OB_bits, DL.OB_sl_l, DL.OB_sl_f, DL.OB_neg, DL.OB_lt, DL.OB_le, DL.OB_gt, DL.OB_ge, DL.OB_eq, DL.OB_ne, DL.eqB_int, DL.eqB_str, DL.OB_is, DL.OB_isn, DL.OB_len_l, DL.OB_len_t, DL.OB_abs, DL.OB_int, DL.OB_intb, DL.OB_ix_l, DL.OB_ix_t, DL.OB_gcd, DL.OB_lcm, DL.OB_max2, DL.OB_min2, DL.isNon, false_implies, implies_true, DL.rng_len, DL.enum_len, DL.zip_len, Int.toNat_natCast, DL.atI0, DL.atI1, DL.nd0, DL.nd1, DL.atI2, DL.ixN_b, DL.ixN_1, DL.ixN_2, DL.wipeE, DL.restE, DL.ownFree, Option.map_some, Option.isSome_some, DL.put_o, DL.put_b, DL.val_o, DL.val_b, DL.val_d, DL.ends, List.map_cons, List.map_nil, List.cons_append, List.nil_append, List.length_cons, List.length_nil, List.set_cons_zero, List.set_cons_succ, List.set_nil, List.replicate_zero, List.replicate_succ, List.all_cons, List.all_nil, Bool.and_true, Bool.and_self, true_and, and_true, and_self, Nat.reduceAdd, Nat.reduceLT, Nat.reduceLeDiff, Nat.reduceSub, Nat.zero_le, Nat.zero_add]
    refine ⟨pw_ok (by omega) (by omega) (by decide) (by decide), ?_⟩
    show D.int (1 * 2 ^ ((30 : Int) - (l : Nat)).toNat) = D.int ((2 ^ (30 - l) : Nat) : Int)
    rw [show ((30 : Int) - (l : Nat)).toNat = 30 - l by omega]
    congr 1
    simp
end
end K61
set_option Elab.async false
set_option linter.all false
set_option maxRecDepth 100000
set_option maxHeartbeats 4000000
set_option exponentiation.threshold 20000
namespace K61
open PySem PySem.Spec PyProof.Rows L2 Own DL
theorem cop2 {u : Nat} (h : u % 2 = 1) : Nat.Coprime u 2 := by
  show u.gcd 2 = 1
  rw [Nat.gcd_comm, Nat.gcd_rec, h]
  rfl
theorem cop_of {u v g k : Nat} (hv : v * g = 2 ^ k) (h : u % 2 = 1 ∨ v % 2 = 1) : u.gcd v = 1 := by
  have dv : v ∣ 2 ^ k := ⟨g, hv.symm⟩
  rcases h with h | h
  · exact Nat.Coprime.coprime_dvd_right dv ((cop2 h).pow_right k)
  · have : v = 1 := Nat.Coprime.eq_one_of_dvd ((cop2 h).pow_right k) dv
    rw [this, Nat.gcd_one_right]
section
variable {Q : SV → List D → Prop} {E : Str → List (Str × D) → List D → Prop}
theorem halved_ok {a k : Nat} (hk : k ≤ 30) : FW (mf__law_halved [.d (nD a), .d (nD (2 ^ k))]) Q E = Q (.d (facD (a / a.gcd (2 ^ k), 2 ^ k / a.gcd (2 ^ k)))) [] := by
  refine FW_det (fun Q E q => ?_) Q E
  unfold mf__law_halved
  rw [FW_run]
  unfold m__law_halved
  simp only [show N__law_halved.length = 3 from rfl]
  simp only [DL.SW_nx, DL.SW_rt, DL.SW_pass, DL.SW_brk, DL.SW_cnt, DL.SW_seq, DL.SW_drop, DL.SW_set, DL.SW_ret, DL.SW_ifS, DL.SW_asg, DL.SW_par2, DL.SW_par3, DL.SW_aug, DL.SW_raise, DL.SW_setIx, DL.SW_for, DL.SW_for0, DL.SW_forS, DL.SW_while, DL.OW_ok, DL.OW_no, DL.OW_var, DL.OW_c, DL.OW_fz, DL.OW_fa, DL.OW_faO_v, DL.OW_faO_f, DL.OW_faO_s, DL.OW_bin, DL.OW_un, DL.OW_tr, DL.OW_te, DL.OW_notT, DL.OW_andT, DL.OW_orT, DL.OW_and, DL.OW_or, DL.OW_not, DL.OW_if, DL.OW_nil, DL.OW_cons, DL.OW_lst, DL.OW_tup, DL.OW_chain, DL.OW_oNo, DL.OW_oSo, DL.OW_sl, DL.OW_new, DL.OW_newO_v, DL.OW_newO_f, DL.OW_newO_s, DL.OW_retO_v, DL.OW_retO_f, DL.OW_retO_s, DL.OW_nNil, DL.OW_nCons, DL.OW_call, DL.OW_iNil, DL.OW_iCons, DL.OW_iLnd, DL.OW_gI, DL.OW_itF, DL.OW_it, DL.OW_rng1, DL.OW_rng2, DL.OW_zipK, DL.OW_enum, DL.OW_enumV, DL.OW_lc, DL.OW_yes, DL.SL_d, DL.SL_o, DL.SL_b, DL.SF_d, DL.SF_o, DL.SRt_d, DL.SRt_o, DL.TB_v, DL.TI_i, DL.L2_2, DL.L3_3, DL.SI_i, DL.SX_o, DL.SX_b, DL.IF_t, DL.IF_f, reduceCtorEq, DL.isi_int_int, DL.isi_int_bl, DL.isi_int_str, DL.isi_int_lst, DL.isi_int_tup, DL.isi_int_non, DL.isi_bool_int, DL.isi_bool_bl, DL.isi_bool_str, DL.isi_bool_lst, DL.isi_bool_tup, DL.isi_bool_non, DL.isi_str_int, DL.isi_str_bl, DL.isi_str_str, DL.isi_str_lst, DL.isi_str_tup, DL.isi_str_non, DL.isi_list_int, DL.isi_list_bl, DL.isi_list_str, DL.isi_list_lst, DL.isi_list_tup, DL.isi_list_non, DL.isi_tuple_int, DL.isi_tuple_bl, DL.isi_tuple_str, DL.isi_tuple_lst, DL.isi_tuple_tup, DL.isi_tuple_non, DL.isi2_int, DL.isi2_bl, DL.isi2_str, DL.isi2_lst, DL.isi2_tup, DL.isi2_non, DL.OB_tuple_l, DL.OB_tuple_t, DL.OB_list_l, DL.OB_list_t, DL.OB_sum, DL.OB_all, DL.OB_any, DL.bls_nil, DL.bls_cons, DL.blsOf_map, DL.ints_nil, DL.ints_cons, DL.intsOf_map, DL.OB_map, DL.OW_lc0, DL.OW_lcY, id, List.all_map, DL.tru_bl, DL.tru_int, DL.tru_lst, DL.tru_tup, DL.tru_non, DL.IF_n, DL.IF_d, DL.OB_some, DL.OB_none, DL.OB_ite, DL.fzT_v, DL.fzT_f, DL.fzT_s, DL.dr_v, DL.dr_f, DL.dr_s, DL.slot_z, DL.slot_s, DL.Sc_v, DL.Sc_s, DL.argsSV_nil, DL.argsSV_d, DL.argsSV_i', DL.SMt_o, DL.SMt_b, DL.pb_nil, DL.pb_nil2, DL.pb_cons, DL.SPt_o, DL.SPt_b, DL.retT_d, DL.retT_o, DL.lS_nil, DL.lS_d, DL.lS_i, DL.lP_nil, DL.lP_d, DL.lP_i, DL.SVl_d, DL.SVl_o, DL.SVl_b, DL.backOf_nil, DL.backOf_cons, DL.sqOf_l, DL.sqOf_t, DL.seqD_l, DL.seqD_t, DL.items_l, DL.items_t, DL.srcOk_n, DL.OB_gN, DL.OB_gK, DL.OB_gCons, DL.OB_gNil, DL.OB_add, DL.OB_sub, DL.OB_mul, DL.OB_mulL, DL.OB_fdiv, DL.OB_mod, DL.OB_pow, DL.OB_shl, DL.OB_bits, DL.OB_sl_l, DL.OB_sl_f, DL.OB_neg, DL.OB_lt, DL.OB_le, DL.OB_gt, DL.OB_ge, DL.OB_eq, DL.OB_ne, DL.eqB_int, DL.eqB_str, DL.OB_is, DL.OB_isn, DL.OB_len_l, DL.OB_len_t, DL.OB_abs, DL.OB_int, DL.OB_intb, DL.OB_ix_l, DL.OB_ix_t, DL.OB_gcd, DL.OB_lcm, DL.OB_max2, DL.OB_min2, DL.isNon, false_implies, implies_true, DL.rng_len, DL.enum_len, DL.zip_len, Int.toNat_natCast, DL.atI0, DL.atI1, DL.nd0, DL.nd1, DL.atI2, DL.ixN_b, DL.ixN_1, DL.ixN_2, DL.wipeE, DL.restE, DL.ownFree, Option.map_some, Option.isSome_some, DL.put_o, DL.put_b, DL.val_o, DL.val_b, DL.val_d, DL.ends, List.map_cons, List.map_nil, List.cons_append, List.nil_append, List.length_cons, List.length_nil, List.set_cons_zero, List.set_cons_succ, List.set_nil, List.replicate_zero, List.replicate_succ, List.all_cons, List.all_nil, Bool.and_true, Bool.and_self, true_and, and_true, and_self, Nat.reduceAdd, Nat.reduceLT, Nat.reduceLeDiff, Nat.reduceSub, Nat.zero_le, Nat.zero_add]
  refine ⟨by decide, ?_⟩
  refine SW_forI (fun t e => ∃ u v g x, e = [some (.d (nD u)), some (.d (nD v)), x] ∧ u * g = a ∧ v * g = 2 ^ k ∧ (g = 2 ^ t ∨ u % 2 = 1 ∨ v % 2 = 1)) _ 0 _ ⟨a, 2 ^ k, 1, none, rfl, by omega, by omega, .inl rfl⟩ (fun t x e hx he => ?_) fun e he => ?_
  · rw [Nat.zero_add] at he ⊢
    obtain ⟨u, v, g, y, rfl, h1, h2, h3⟩ := he
    obtain ⟨_, rfl⟩ := rng_get hx
    simp only [DL.SW_nx, DL.SW_rt, DL.SW_pass, DL.SW_brk, DL.SW_cnt, DL.SW_seq, DL.SW_drop, DL.SW_set, DL.SW_ret, DL.SW_ifS, DL.SW_asg, DL.SW_par2, DL.SW_par3, DL.SW_aug, DL.SW_raise, DL.SW_setIx, DL.SW_for, DL.SW_for0, DL.SW_forS, DL.SW_while, DL.OW_ok, DL.OW_no, DL.OW_var, DL.OW_c, DL.OW_fz, DL.OW_fa, DL.OW_faO_v, DL.OW_faO_f, DL.OW_faO_s, DL.OW_bin, DL.OW_un, DL.OW_tr, DL.OW_te, DL.OW_notT, DL.OW_andT, DL.OW_orT, DL.OW_and, DL.OW_or, DL.OW_not, DL.OW_if, DL.OW_nil, DL.OW_cons, DL.OW_lst, DL.OW_tup, DL.OW_chain, DL.OW_oNo, DL.OW_oSo, DL.OW_sl, DL.OW_new, DL.OW_newO_v, DL.OW_newO_f, DL.OW_newO_s, DL.OW_retO_v, DL.OW_retO_f, DL.OW_retO_s, DL.OW_nNil, DL.OW_nCons, DL.OW_call, DL.OW_iNil, DL.OW_iCons, DL.OW_iLnd, DL.OW_gI, DL.OW_itF, DL.OW_it, DL.OW_rng1, DL.OW_rng2, DL.OW_zipK, DL.OW_enum, DL.OW_enumV, DL.OW_lc, DL.OW_yes, DL.SL_d, DL.SL_o, DL.SL_b, DL.SF_d, DL.SF_o, DL.SRt_d, DL.SRt_o, DL.TB_v, DL.TI_i, DL.L2_2, DL.L3_3, DL.SI_i, DL.SX_o, DL.SX_b, DL.IF_t, DL.IF_f, reduceCtorEq, DL.isi_int_int, DL.isi_int_bl, DL.isi_int_str, DL.isi_int_lst, DL.isi_int_tup, DL.isi_int_non, DL.isi_bool_int, DL.isi_bool_bl, DL.isi_bool_str, DL.isi_bool_lst, DL.isi_bool_tup, DL.isi_bool_non, DL.isi_str_int, DL.isi_str_bl, DL.isi_str_str, DL.isi_str_lst, DL.isi_str_tup, DL.isi_str_non, DL.isi_list_int, DL.isi_list_bl, DL.isi_list_str, DL.isi_list_lst, DL.isi_list_tup, DL.isi_list_non, DL.isi_tuple_int, DL.isi_tuple_bl, DL.isi_tuple_str, DL.isi_tuple_lst, DL.isi_tuple_tup, DL.isi_tuple_non, DL.isi2_int, DL.isi2_bl, DL.isi2_str, DL.isi2_lst, DL.isi2_tup, DL.isi2_non, DL.OB_tuple_l, DL.OB_tuple_t, DL.OB_list_l, DL.OB_list_t, DL.OB_sum, DL.OB_all, DL.OB_any, DL.bls_nil, DL.bls_cons, DL.blsOf_map, DL.ints_nil, DL.ints_cons, DL.intsOf_map, DL.OB_map, DL.OW_lc0, DL.OW_lcY, id, List.all_map, DL.tru_bl, DL.tru_int, DL.tru_lst, DL.tru_tup, DL.tru_non, DL.IF_n, DL.IF_d, DL.OB_some, DL.OB_none, DL.OB_ite, DL.fzT_v, DL.fzT_f, DL.fzT_s, DL.dr_v, DL.dr_f, DL.dr_s, DL.slot_z, DL.slot_s, DL.Sc_v, DL.Sc_s, DL.argsSV_nil, DL.argsSV_d, DL.argsSV_i', DL.SMt_o, DL.SMt_b, DL.pb_nil, DL.pb_nil2, DL.pb_cons, DL.SPt_o, DL.SPt_b, DL.retT_d, DL.retT_o, DL.lS_nil, DL.lS_d, DL.lS_i, DL.lP_nil, DL.lP_d, DL.lP_i, DL.SVl_d, DL.SVl_o, DL.SVl_b, DL.backOf_nil, DL.backOf_cons, DL.sqOf_l, DL.sqOf_t, DL.seqD_l, DL.seqD_t, DL.items_l, DL.items_t, DL.srcOk_n, DL.OB_gN, DL.OB_gK, DL.OB_gCons, DL.OB_gNil, DL.OB_add, DL.OB_sub, DL.OB_mul, DL.OB_mulL, DL.OB_fdiv, DL.OB_mod, DL.OB_pow, DL.OB_shl, DL.OB_bits, DL.OB_sl_l, DL.OB_sl_f, DL.OB_neg, DL.OB_lt, DL.OB_le, DL.OB_gt, DL.OB_ge, DL.OB_eq, DL.OB_ne, DL.eqB_int, DL.eqB_str, DL.OB_is, DL.OB_isn, DL.OB_len_l, DL.OB_len_t, DL.OB_abs, DL.OB_int, DL.OB_intb, DL.OB_ix_l, DL.OB_ix_t, DL.OB_gcd, DL.OB_lcm, DL.OB_max2, DL.OB_min2, DL.isNon, false_implies, implies_true, DL.rng_len, DL.enum_len, DL.zip_len, Int.toNat_natCast, DL.atI0, DL.atI1, DL.nd0, DL.nd1, DL.atI2, DL.ixN_b, DL.ixN_1, DL.ixN_2, DL.wipeE, DL.restE, DL.ownFree, Option.map_some, Option.isSome_some, DL.put_o, DL.put_b, DL.val_o, DL.val_b, DL.val_d, DL.ends, List.map_cons, List.map_nil, List.cons_append, List.nil_append, List.length_cons, List.length_nil, List.set_cons_zero, List.set_cons_succ, List.set_nil, List.replicate_zero, List.replicate_succ, List.all_cons, List.all_nil, Bool.and_true, Bool.and_self, true_and, and_true, and_self, Nat.reduceAdd, Nat.reduceLT, Nat.reduceLeDiff, Nat.reduceSub, Nat.zero_le, Nat.zero_add]
    refine ⟨by decide, fun hu => ⟨by decide, fun hv => ?_, fun hv => ⟨u, v, g, _, rfl, h1, h2, .inr (.inr (by omega))⟩⟩, fun hu => ⟨u, v, g, _, rfl, h1, h2, .inr (.inl (by omega))⟩⟩
    have hg : g = 2 ^ t := by
      rcases h3 with h3 | h3 | h3
      · exact h3
      · omega
      · omega
    obtain ⟨u', rfl⟩ : ∃ u', u = 2 * u' := ⟨u / 2, by omega⟩
    obtain ⟨v', rfl⟩ : ∃ v', v = 2 * v' := ⟨v / 2, by omega⟩
    refine ⟨div_s (by decide) (by decide), div_s (by decide) (by decide), by decide, u', v', 2 * g, some (.d (.int (0 + (t : Int)))), ?_, by rw [← h1]; ac_rfl, by rw [← h2]; ac_rfl, .inl (by rw [hg, Nat.pow_succ, Nat.mul_comm])⟩
    rw [show (((2 * u' : Nat) : Int) / 2) = (u' : Nat) by omega, show (((2 * v' : Nat) : Int) / 2) = (v' : Nat) by omega]
  · rw [Nat.zero_add, rng_len] at he
    obtain ⟨u, v, g, y, rfl, h1, h2, h3⟩ := he
    simp only [DL.SW_nx, DL.SW_rt, DL.SW_pass, DL.SW_brk, DL.SW_cnt, DL.SW_seq, DL.SW_drop, DL.SW_set, DL.SW_ret, DL.SW_ifS, DL.SW_asg, DL.SW_par2, DL.SW_par3, DL.SW_aug, DL.SW_raise, DL.SW_setIx, DL.SW_for, DL.SW_for0, DL.SW_forS, DL.SW_while, DL.OW_ok, DL.OW_no, DL.OW_var, DL.OW_c, DL.OW_fz, DL.OW_fa, DL.OW_faO_v, DL.OW_faO_f, DL.OW_faO_s, DL.OW_bin, DL.OW_un, DL.OW_tr, DL.OW_te, DL.OW_notT, DL.OW_andT, DL.OW_orT, DL.OW_and, DL.OW_or, DL.OW_not, DL.OW_if, DL.OW_nil, DL.OW_cons, DL.OW_lst, DL.OW_tup, DL.OW_chain, DL.OW_oNo, DL.OW_oSo, DL.OW_sl, DL.OW_new, DL.OW_newO_v, DL.OW_newO_f, DL.OW_newO_s, DL.OW_retO_v, DL.OW_retO_f, DL.OW_retO_s, DL.OW_nNil, DL.OW_nCons, DL.OW_call, DL.OW_iNil, DL.OW_iCons, DL.OW_iLnd, DL.OW_gI, DL.OW_itF, DL.OW_it, DL.OW_rng1, DL.OW_rng2, DL.OW_zipK, DL.OW_enum, DL.OW_enumV, DL.OW_lc, DL.OW_yes, DL.SL_d, DL.SL_o, DL.SL_b, DL.SF_d, DL.SF_o, DL.SRt_d, DL.SRt_o, DL.TB_v, DL.TI_i, DL.L2_2, DL.L3_3, DL.SI_i, DL.SX_o, DL.SX_b, DL.IF_t, DL.IF_f, reduceCtorEq, DL.isi_int_int, DL.isi_int_bl, DL.isi_int_str, DL.isi_int_lst, DL.isi_int_tup, DL.isi_int_non, DL.isi_bool_int, DL.isi_bool_bl, DL.isi_bool_str, DL.isi_bool_lst, DL.isi_bool_tup, DL.isi_bool_non, DL.isi_str_int, DL.isi_str_bl, DL.isi_str_str, DL.isi_str_lst, DL.isi_str_tup, DL.isi_str_non, DL.isi_list_int, DL.isi_list_bl, DL.isi_list_str, DL.isi_list_lst, DL.isi_list_tup, DL.isi_list_non, DL.isi_tuple_int, DL.isi_tuple_bl, DL.isi_tuple_str, DL.isi_tuple_lst, DL.isi_tuple_tup, DL.isi_tuple_non, DL.isi2_int, DL.isi2_bl, DL.isi2_str, DL.isi2_lst, DL.isi2_tup, DL.isi2_non, DL.OB_tuple_l, DL.OB_tuple_t, DL.OB_list_l, DL.OB_list_t, DL.OB_sum, DL.OB_all, DL.OB_any, DL.bls_nil, DL.bls_cons, DL.blsOf_map, DL.ints_nil, DL.ints_cons, DL.intsOf_map, DL.OB_map, DL.OW_lc0, DL.OW_lcY, id, List.all_map, DL.tru_bl, DL.tru_int, DL.tru_lst, DL.tru_tup, DL.tru_non, DL.IF_n, DL.IF_d, DL.OB_some, DL.OB_none, DL.OB_ite, DL.fzT_v, DL.fzT_f, DL.fzT_s, DL.dr_v, DL.dr_f, DL.dr_s, DL.slot_z, DL.slot_s, DL.Sc_v, DL.Sc_s, DL.argsSV_nil, DL.argsSV_d, DL.argsSV_i', DL.SMt_o, DL.SMt_b, DL.pb_nil, DL.pb_nil2, DL.pb_cons, DL.SPt_o, DL.SPt_b, DL.retT_d, DL.retT_o, DL.lS_nil, DL.lS_d, DL.lS_i, DL.lP_nil, DL.lP_d, DL.lP_i, DL.SVl_d, DL.SVl_o, DL.SVl_b, DL.backOf_nil, DL.backOf_cons, DL.sqOf_l, DL.sqOf_t, DL.seqD_l, DL.seqD_t, DL.items_l, DL.items_t, DL.srcOk_n, DL.OB_gN, DL.OB_gK, DL.OB_gCons, DL.OB_gNil, DL.OB_add, DL.OB_sub, DL.OB_mul, DL.OB_mulL, DL.OB_fdiv, DL.OB_mod, DL.OB_pow, DL.OB_shl, DL.OB_bits, DL.OB_sl_l, DL.OB_sl_f, DL.OB_neg, DL.OB_lt, DL.OB_le, DL.OB_gt, DL.OB_ge, DL.OB_eq, DL.OB_ne, DL.eqB_int, DL.eqB_str, DL.OB_is, DL.OB_isn, DL.OB_len_l, DL.OB_len_t, DL.OB_abs, DL.OB_int, DL.OB_intb, DL.OB_ix_l, DL.OB_ix_t, DL.OB_gcd, DL.OB_lcm, DL.OB_max2, DL.OB_min2, DL.isNon, false_implies, implies_true, DL.rng_len, DL.enum_len, DL.zip_len, Int.toNat_natCast, DL.atI0, DL.atI1, DL.nd0, DL.nd1, DL.atI2, DL.ixN_b, DL.ixN_1, DL.ixN_2, DL.wipeE, DL.restE, DL.ownFree, Option.map_some, Option.isSome_some, DL.put_o, DL.put_b, DL.val_o, DL.val_b, DL.val_d, DL.ends, List.map_cons, List.map_nil, List.cons_append, List.nil_append, List.length_cons, List.length_nil, List.set_cons_zero, List.set_cons_succ, List.set_nil, List.replicate_zero, List.replicate_succ, List.all_cons, List.all_nil, Bool.and_true, Bool.and_self, true_and, and_true, and_self, Nat.reduceAdd, Nat.reduceLT, Nat.reduceLeDiff, Nat.reduceSub, Nat.zero_le, Nat.zero_add]
    have hv0 : 0 < v := Nat.pos_of_ne_zero fun z => by
      rw [z, Nat.zero_mul] at h2
      have := Nat.two_pow_pos k
      omega
    have odd : u % 2 = 1 ∨ v % 2 = 1 := by
      rcases h3 with h3 | h3
      · exfalso
        have e60 : g = 2 ^ 60 := h3
        have l1 : (2 : Nat) ^ k ≤ 2 ^ 30 := Nat.pow_le_pow_right (by decide) hk
        have l2 : 1 * 2 ^ 60 ≤ v * g := by
          rw [e60]
          exact Nat.mul_le_mul_right _ hv0
        rw [h2] at l2
        omega
      · exact h3
    have c := cop_of h2 odd
    have hg : a.gcd (2 ^ k) = g := by
      rw [← h1, ← h2, Nat.gcd_mul_right, c, Nat.one_mul]
    have g0 : 0 < g := by
      rw [← hg]
      exact Nat.gcd_pos_of_pos_right _ (Nat.two_pow_pos k)
    rw [hg, ← h1, ← h2, Nat.mul_div_cancel _ g0, Nat.mul_div_cancel _ g0] at q
    exact q
theorem take_sumW {ls : List Nat} {i l : Nat} (h : ls[i]? = some l) : ((ls.take (i + 1)).map W).sum = ((ls.take i).map W).sum + W l := by
  rw [List.take_add_one, h, List.map_append, List.sum_append]
  simp
theorem shl_W {l : Nat} (h : l ≤ 30) : (1 : Int) * 2 ^ ((30 : Int) - (l : Nat)).toNat = (W l : Nat) := by
  rw [show ((30 : Int) - (l : Nat)).toNat = 30 - l by omega]
  unfold W
  simp
theorem due_ok {d : D} {ls : List Nat} {p l : Nat} (h : Len d ls) (hp : ls[p]? = some l) : FW (mf__law_due [.d d, .d (nD p)]) Q E = Q (.d (facD (fac ls p l))) [] := by
  refine FW_det (fun Q E q => ?_) Q E
  have hpl := (List.getElem?_eq_some_iff.mp hp).1
  have hl := h.ok l (List.mem_of_getElem? hp)
  have hat : atI (ls.map nD) (p : Nat) = some (nD l) := by rw [DL.atI_nat, List.getElem?_map, hp]; rfl
  unfold mf__law_due
  rw [FW_run]
  unfold m__law_due
  simp only [show N__law_due.length = 6 from rfl]
  simp only [DL.SW_nx, DL.SW_rt, DL.SW_pass, DL.SW_brk, DL.SW_cnt, DL.SW_seq, DL.SW_drop, DL.SW_set, DL.SW_ret, DL.SW_ifS, DL.SW_asg, DL.SW_par2, DL.SW_par3, DL.SW_aug, DL.SW_raise, DL.SW_setIx, DL.SW_for, DL.SW_for0, DL.SW_forS, DL.SW_while, DL.OW_ok, DL.OW_no, DL.OW_var, DL.OW_c, DL.OW_fz, DL.OW_fa, DL.OW_faO_v, DL.OW_faO_f, DL.OW_faO_s, DL.OW_bin, DL.OW_un, DL.OW_tr, DL.OW_te, DL.OW_notT, DL.OW_andT, DL.OW_orT, DL.OW_and, DL.OW_or, DL.OW_not, DL.OW_if, DL.OW_nil, DL.OW_cons, DL.OW_lst, DL.OW_tup, DL.OW_chain, DL.OW_oNo, DL.OW_oSo, DL.OW_sl, DL.OW_new, DL.OW_newO_v, DL.OW_newO_f, DL.OW_newO_s, DL.OW_retO_v, DL.OW_retO_f, DL.OW_retO_s, DL.OW_nNil, DL.OW_nCons, DL.OW_call, DL.OW_iNil, DL.OW_iCons, DL.OW_iLnd, DL.OW_gI, DL.OW_itF, DL.OW_it, DL.OW_rng1, DL.OW_rng2, DL.OW_zipK, DL.OW_enum, DL.OW_enumV, DL.OW_lc, DL.OW_yes, DL.SL_d, DL.SL_o, DL.SL_b, DL.SF_d, DL.SF_o, DL.SRt_d, DL.SRt_o, DL.TB_v, DL.TI_i, DL.L2_2, DL.L3_3, DL.SI_i, DL.SX_o, DL.SX_b, DL.IF_t, DL.IF_f, reduceCtorEq, DL.isi_int_int, DL.isi_int_bl, DL.isi_int_str, DL.isi_int_lst, DL.isi_int_tup, DL.isi_int_non, DL.isi_bool_int, DL.isi_bool_bl, DL.isi_bool_str, DL.isi_bool_lst, DL.isi_bool_tup, DL.isi_bool_non, DL.isi_str_int, DL.isi_str_bl, DL.isi_str_str, DL.isi_str_lst, DL.isi_str_tup, DL.isi_str_non, DL.isi_list_int, DL.isi_list_bl, DL.isi_list_str, DL.isi_list_lst, DL.isi_list_tup, DL.isi_list_non, DL.isi_tuple_int, DL.isi_tuple_bl, DL.isi_tuple_str, DL.isi_tuple_lst, DL.isi_tuple_tup, DL.isi_tuple_non, DL.isi2_int, DL.isi2_bl, DL.isi2_str, DL.isi2_lst, DL.isi2_tup, DL.isi2_non, DL.OB_tuple_l, DL.OB_tuple_t, DL.OB_list_l, DL.OB_list_t, DL.OB_sum, DL.OB_all, DL.OB_any, DL.bls_nil, DL.bls_cons, DL.blsOf_map, DL.ints_nil, DL.ints_cons, DL.intsOf_map, DL.OB_map, DL.OW_lc0, DL.OW_lcY, id, List.all_map, DL.tru_bl, DL.tru_int, DL.tru_lst, DL.tru_tup, DL.tru_non, DL.IF_n, DL.IF_d, DL.OB_some, DL.OB_none, DL.OB_ite, DL.fzT_v, DL.fzT_f, DL.fzT_s, DL.dr_v, DL.dr_f, DL.dr_s, DL.slot_z, DL.slot_s, DL.Sc_v, DL.Sc_s, DL.argsSV_nil, DL.argsSV_d, DL.argsSV_i', DL.SMt_o, DL.SMt_b, DL.pb_nil, DL.pb_nil2, DL.pb_cons, DL.SPt_o, DL.SPt_b, DL.retT_d, DL.retT_o, DL.lS_nil, DL.lS_d, DL.lS_i, DL.lP_nil, DL.lP_d, DL.lP_i, DL.SVl_d, DL.SVl_o, DL.SVl_b, DL.backOf_nil, DL.backOf_cons, DL.sqOf_l, DL.sqOf_t, DL.seqD_l, DL.seqD_t, DL.items_l, DL.items_t, DL.srcOk_n, DL.OB_gN, DL.OB_gK, DL.OB_gCons, DL.OB_gNil, DL.OB_add, DL.OB_sub, DL.OB_mul, DL.OB_mulL, DL.OB_fdiv, DL.OB_mod, DL.OB_pow, DL.OB_shl, DL.OB_bits, DL.OB_sl_l, DL.OB_sl_f, DL.OB_neg, DL.OB_lt, DL.OB_le, DL.OB_gt, DL.OB_ge, DL.OB_eq, DL.OB_ne, DL.eqB_int, DL.eqB_str, DL.OB_is, DL.OB_isn, DL.OB_len_l, DL.OB_len_t, DL.OB_abs, DL.OB_int, DL.OB_intb, DL.OB_ix_l, DL.OB_ix_t, DL.OB_gcd, DL.OB_lcm, DL.OB_max2, DL.OB_min2, DL.isNon, false_implies, implies_true, DL.rng_len, DL.enum_len, DL.zip_len, Int.toNat_natCast, DL.atI0, DL.atI1, DL.nd0, DL.nd1, DL.atI2, DL.ixN_b, DL.ixN_1, DL.ixN_2, DL.wipeE, DL.restE, DL.ownFree, Option.map_some, Option.isSome_some, DL.put_o, DL.put_b, DL.val_o, DL.val_b, DL.val_d, DL.ends, List.map_cons, List.map_nil, List.cons_append, List.nil_append, List.length_cons, List.length_nil, List.set_cons_zero, List.set_cons_succ, List.set_nil, List.replicate_zero, List.replicate_succ, List.all_cons, List.all_nil, Bool.and_true, Bool.and_self, true_and, and_true, and_self, Nat.reduceAdd, Nat.reduceLT, Nat.reduceLeDiff, Nat.reduceSub, Nat.zero_le, Nat.zero_add, h.s.seq]
  refine SW_forI (fun i e => ∃ x y z, e = [some (.d d), some (.d (nD p)), some (.d (nD (((ls.take i).map W).sum + ((ls.take (min i p)).map W).sum))), x, y, z]) _ 0 _ ⟨none, none, none, by simp⟩ (fun i x e hx he => ?_) fun e he => ?_
  · rw [Nat.zero_add] at he ⊢
    obtain ⟨a, b, c, rfl⟩ := he
    obtain ⟨x, hx2, rfl⟩ := enum_get hx
    rw [List.getElem?_map] at hx2
    obtain ⟨m, hm, rfl⟩ := Option.map_eq_some_iff.mp hx2
    have hm2 := h.ok m (List.mem_of_getElem? hm)
    simp only [DL.SW_nx, DL.SW_rt, DL.SW_pass, DL.SW_brk, DL.SW_cnt, DL.SW_seq, DL.SW_drop, DL.SW_set, DL.SW_ret, DL.SW_ifS, DL.SW_asg, DL.SW_par2, DL.SW_par3, DL.SW_aug, DL.SW_raise, DL.SW_setIx, DL.SW_for, DL.SW_for0, DL.SW_forS, DL.SW_while, DL.OW_ok, DL.OW_no, DL.OW_var, DL.OW_c, DL.OW_fz, DL.OW_fa, DL.OW_faO_v, DL.OW_faO_f, DL.OW_faO_s, DL.OW_bin, DL.OW_un, DL.OW_tr, DL.OW_te, DL.OW_notT, DL.OW_andT, DL.OW_orT, DL.OW_and, DL.OW_or, DL.OW_not, DL.OW_if, DL.OW_nil, DL.OW_cons, DL.OW_lst, DL.OW_tup, DL.OW_chain, DL.OW_oNo, DL.OW_oSo, DL.OW_sl, DL.OW_new, DL.OW_newO_v, DL.OW_newO_f, DL.OW_newO_s, DL.OW_retO_v, DL.OW_retO_f, DL.OW_retO_s, DL.OW_nNil, DL.OW_nCons, DL.OW_call, DL.OW_iNil, DL.OW_iCons, DL.OW_iLnd, DL.OW_gI, DL.OW_itF, DL.OW_it, DL.OW_rng1, DL.OW_rng2, DL.OW_zipK, DL.OW_enum, DL.OW_enumV, DL.OW_lc, DL.OW_yes, DL.SL_d, DL.SL_o, DL.SL_b, DL.SF_d, DL.SF_o, DL.SRt_d, DL.SRt_o, DL.TB_v, DL.TI_i, DL.L2_2, DL.L3_3, DL.SI_i, DL.SX_o, DL.SX_b, DL.IF_t, DL.IF_f, reduceCtorEq, DL.isi_int_int, DL.isi_int_bl, DL.isi_int_str, DL.isi_int_lst, DL.isi_int_tup, DL.isi_int_non, DL.isi_bool_int, DL.isi_bool_bl, DL.isi_bool_str, DL.isi_bool_lst, DL.isi_bool_tup, DL.isi_bool_non, DL.isi_str_int, DL.isi_str_bl, DL.isi_str_str, DL.isi_str_lst, DL.isi_str_tup, DL.isi_str_non, DL.isi_list_int, DL.isi_list_bl, DL.isi_list_str, DL.isi_list_lst, DL.isi_list_tup, DL.isi_list_non, DL.isi_tuple_int, DL.isi_tuple_bl, DL.isi_tuple_str, DL.isi_tuple_lst, DL.isi_tuple_tup, DL.isi_tuple_non, DL.isi2_int, DL.isi2_bl, DL.isi2_str, DL.isi2_lst, DL.isi2_tup, DL.isi2_non, DL.OB_tuple_l, DL.OB_tuple_t, DL.OB_list_l, DL.OB_list_t, DL.OB_sum, DL.OB_all, DL.OB_any, DL.bls_nil, DL.bls_cons, DL.blsOf_map, DL.ints_nil, DL.ints_cons, DL.intsOf_map, DL.OB_map, DL.OW_lc0, DL.OW_lcY, id, List.all_map, DL.tru_bl, DL.tru_int, DL.tru_lst, DL.tru_tup, DL.tru_non, DL.IF_n, DL.IF_d, DL.OB_some, DL.OB_none, DL.OB_ite, DL.fzT_v, DL.fzT_f, DL.fzT_s, DL.dr_v, DL.dr_f, DL.dr_s, DL.slot_z, DL.slot_s, DL.Sc_v, DL.Sc_s, DL.argsSV_nil, DL.argsSV_d, DL.argsSV_i', DL.SMt_o, DL.SMt_b, DL.pb_nil, DL.pb_nil2, DL.pb_cons, DL.SPt_o, DL.SPt_b, DL.retT_d, DL.retT_o, DL.lS_nil, DL.lS_d, DL.lS_i, DL.lP_nil, DL.lP_d, DL.lP_i, DL.SVl_d, DL.SVl_o, DL.SVl_b, DL.backOf_nil, DL.backOf_cons, DL.sqOf_l, DL.sqOf_t, DL.seqD_l, DL.seqD_t, DL.items_l, DL.items_t, DL.srcOk_n, DL.OB_gN, DL.OB_gK, DL.OB_gCons, DL.OB_gNil, DL.OB_add, DL.OB_sub, DL.OB_mul, DL.OB_mulL, DL.OB_fdiv, DL.OB_mod, DL.OB_pow, DL.OB_shl, DL.OB_bits, DL.OB_sl_l, DL.OB_sl_f, DL.OB_neg, DL.OB_lt, DL.OB_le, DL.OB_gt, DL.OB_ge, DL.OB_eq, DL.OB_ne, DL.eqB_int, DL.eqB_str, DL.OB_is, DL.OB_isn, DL.OB_len_l, DL.OB_len_t, DL.OB_abs, DL.OB_int, DL.OB_intb, DL.OB_ix_l, DL.OB_ix_t, DL.OB_gcd, DL.OB_lcm, DL.OB_max2, DL.OB_min2, DL.isNon, false_implies, implies_true, DL.rng_len, DL.enum_len, DL.zip_len, Int.toNat_natCast, DL.atI0, DL.atI1, DL.nd0, DL.nd1, DL.atI2, DL.ixN_b, DL.ixN_1, DL.ixN_2, DL.wipeE, DL.restE, DL.ownFree, Option.map_some, Option.isSome_some, DL.put_o, DL.put_b, DL.val_o, DL.val_b, DL.val_d, DL.ends, List.map_cons, List.map_nil, List.cons_append, List.nil_append, List.length_cons, List.length_nil, List.set_cons_zero, List.set_cons_succ, List.set_nil, List.replicate_zero, List.replicate_succ, List.all_cons, List.all_nil, Bool.and_true, Bool.and_self, true_and, and_true, and_self, Nat.reduceAdd, Nat.reduceLT, Nat.reduceLeDiff, Nat.reduceSub, Nat.zero_le, Nat.zero_add]
    refine ⟨pw_ok (by omega) (by omega) (by decide) (by decide), ?_⟩
    rw [shl_W hm2.2]
    refine ⟨fun hi => ⟨some (.d (.int (i : Nat))), some (.d (nD m)), some (.d (nD (W m))), ?_⟩, fun hi => ⟨some (.d (.int (i : Nat))), some (.d (nD m)), some (.d (nD (W m))), ?_⟩⟩
    · rw [Nat.min_eq_left (by omega : i ≤ p), Nat.min_eq_left (by omega : i + 1 ≤ p), take_sumW hm]
      refine congrArg (fun z : Int => [some (SV.d d), some (SV.d (nD p)), some (SV.d (D.int z)), some (.d (.int (i : Nat))), some (.d (nD m)), some (.d (nD (W m)))]) ?_
      omega
    · rw [Nat.min_eq_right (by omega : p ≤ i), Nat.min_eq_right (by omega : p ≤ i + 1), take_sumW hm]
      refine congrArg (fun z : Int => [some (SV.d d), some (SV.d (nD p)), some (SV.d (D.int z)), some (.d (.int (i : Nat))), some (.d (nD m)), some (.d (nD (W m)))]) ?_
      omega
  · rw [Nat.zero_add, enum_len, List.length_map, List.take_length, Nat.min_eq_right (by omega)] at he
    obtain ⟨a, b, c, rfl⟩ := he
    have hh : ∀ {Q : SV → List D → Prop} {E : Str → List (Str × D) → List D → Prop}, FW (mf__law_halved [.d (.int ((S ls + A ls p : Nat) : Int)), .d (.int ((W l : Nat) : Int))]) Q E = Q (.d (facD (fac ls p l))) [] := halved_ok (k := 30 - l) (by omega)
    rcases h.s with rfl | rfl
    all_goals
      simp only [DL.SW_nx, DL.SW_rt, DL.SW_pass, DL.SW_brk, DL.SW_cnt, DL.SW_seq, DL.SW_drop, DL.SW_set, DL.SW_ret, DL.SW_ifS, DL.SW_asg, DL.SW_par2, DL.SW_par3, DL.SW_aug, DL.SW_raise, DL.SW_setIx, DL.SW_for, DL.SW_for0, DL.SW_forS, DL.SW_while, DL.OW_ok, DL.OW_no, DL.OW_var, DL.OW_c, DL.OW_fz, DL.OW_fa, DL.OW_faO_v, DL.OW_faO_f, DL.OW_faO_s, DL.OW_bin, DL.OW_un, DL.OW_tr, DL.OW_te, DL.OW_notT, DL.OW_andT, DL.OW_orT, DL.OW_and, DL.OW_or, DL.OW_not, DL.OW_if, DL.OW_nil, DL.OW_cons, DL.OW_lst, DL.OW_tup, DL.OW_chain, DL.OW_oNo, DL.OW_oSo, DL.OW_sl, DL.OW_new, DL.OW_newO_v, DL.OW_newO_f, DL.OW_newO_s, DL.OW_retO_v, DL.OW_retO_f, DL.OW_retO_s, DL.OW_nNil, DL.OW_nCons, DL.OW_call, DL.OW_iNil, DL.OW_iCons, DL.OW_iLnd, DL.OW_gI, DL.OW_itF, DL.OW_it, DL.OW_rng1, DL.OW_rng2, DL.OW_zipK, DL.OW_enum, DL.OW_enumV, DL.OW_lc, DL.OW_yes, DL.SL_d, DL.SL_o, DL.SL_b, DL.SF_d, DL.SF_o, DL.SRt_d, DL.SRt_o, DL.TB_v, DL.TI_i, DL.L2_2, DL.L3_3, DL.SI_i, DL.SX_o, DL.SX_b, DL.IF_t, DL.IF_f, reduceCtorEq, DL.isi_int_int, DL.isi_int_bl, DL.isi_int_str, DL.isi_int_lst, DL.isi_int_tup, DL.isi_int_non, DL.isi_bool_int, DL.isi_bool_bl, DL.isi_bool_str, DL.isi_bool_lst, DL.isi_bool_tup, DL.isi_bool_non, DL.isi_str_int, DL.isi_str_bl, DL.isi_str_str, DL.isi_str_lst, DL.isi_str_tup, DL.isi_str_non, DL.isi_list_int, DL.isi_list_bl, DL.isi_list_str, DL.isi_list_lst, DL.isi_list_tup, DL.isi_list_non, DL.isi_tuple_int, DL.isi_tuple_bl, DL.isi_tuple_str, DL.isi_tuple_lst, DL.isi_tuple_tup, DL.isi_tuple_non, DL.isi2_int, DL.isi2_bl, DL.isi2_str, DL.isi2_lst, DL.isi2_tup, DL.isi2_non, DL.OB_tuple_l, DL.OB_tuple_t, DL.OB_list_l, DL.OB_list_t, DL.OB_sum, DL.OB_all, DL.OB_any, DL.bls_nil, DL.bls_cons, DL.blsOf_map, DL.ints_nil, DL.ints_cons, DL.intsOf_map, DL.OB_map, DL.OW_lc0, DL.OW_lcY, id, List.all_map, DL.tru_bl, DL.tru_int, DL.tru_lst, DL.tru_tup, DL.tru_non, DL.IF_n, DL.IF_d, DL.OB_some, DL.OB_none, DL.OB_ite, DL.fzT_v, DL.fzT_f, DL.fzT_s, DL.dr_v, DL.dr_f, DL.dr_s, DL.slot_z, DL.slot_s, DL.Sc_v, DL.Sc_s, DL.argsSV_nil, DL.argsSV_d, DL.argsSV_i', DL.SMt_o, DL.SMt_b, DL.pb_nil, DL.pb_nil2, DL.pb_cons, DL.SPt_o, DL.SPt_b, DL.retT_d, DL.retT_o, DL.lS_nil, DL.lS_d, DL.lS_i, DL.lP_nil, DL.lP_d, DL.lP_i, DL.SVl_d, DL.SVl_o, DL.SVl_b, DL.backOf_nil, DL.backOf_cons, DL.sqOf_l, DL.sqOf_t, DL.seqD_l, DL.seqD_t, DL.items_l, DL.items_t, DL.srcOk_n, DL.OB_gN, DL.OB_gK, DL.OB_gCons, DL.OB_gNil, DL.OB_add, DL.OB_sub, DL.OB_mul, DL.OB_mulL, DL.OB_fdiv, DL.OB_mod, DL.OB_pow, DL.OB_shl, DL.OB_bits, DL.OB_sl_l, DL.OB_sl_f, DL.OB_neg, DL.OB_lt, DL.OB_le, DL.OB_gt, DL.OB_ge, DL.OB_eq, DL.OB_ne, DL.eqB_int, DL.eqB_str, DL.OB_is, DL.OB_isn, DL.OB_len_l, DL.OB_len_t, DL.OB_abs, DL.OB_int, DL.OB_intb, DL.OB_ix_l, DL.OB_ix_t, DL.OB_gcd, DL.OB_lcm, DL.OB_max2, DL.OB_min2, DL.isNon, false_implies, implies_true, DL.rng_len, DL.enum_len, DL.zip_len, Int.toNat_natCast, DL.atI0, DL.atI1, DL.nd0, DL.nd1, DL.atI2, DL.ixN_b, DL.ixN_1, DL.ixN_2, DL.wipeE, DL.restE, DL.ownFree, Option.map_some, Option.isSome_some, DL.put_o, DL.put_b, DL.val_o, DL.val_b, DL.val_d, DL.ends, List.map_cons, List.map_nil, List.cons_append, List.nil_append, List.length_cons, List.length_nil, List.set_cons_zero, List.set_cons_succ, List.set_nil, List.replicate_zero, List.replicate_succ, List.all_cons, List.all_nil, Bool.and_true, Bool.and_self, true_and, and_true, and_self, Nat.reduceAdd, Nat.reduceLT, Nat.reduceLeDiff, Nat.reduceSub, Nat.zero_le, Nat.zero_add, hat]
      refine ⟨pw_ok (by omega) (by omega) (by decide) (by decide), ?_⟩
      rw [shl_W hl.2]
      have e : nD ((ls.map W).sum + ((ls.take p).map W).sum) = .int ((S ls + A ls p : Nat) : Int) := rfl
      rw [e, hh]
      simp only [DL.SW_nx, DL.SW_rt, DL.SW_pass, DL.SW_brk, DL.SW_cnt, DL.SW_seq, DL.SW_drop, DL.SW_set, DL.SW_ret, DL.SW_ifS, DL.SW_asg, DL.SW_par2, DL.SW_par3, DL.SW_aug, DL.SW_raise, DL.SW_setIx, DL.SW_for, DL.SW_for0, DL.SW_forS, DL.SW_while, DL.OW_ok, DL.OW_no, DL.OW_var, DL.OW_c, DL.OW_fz, DL.OW_fa, DL.OW_faO_v, DL.OW_faO_f, DL.OW_faO_s, DL.OW_bin, DL.OW_un, DL.OW_tr, DL.OW_te, DL.OW_notT, DL.OW_andT, DL.OW_orT, DL.OW_and, DL.OW_or, DL.OW_not, DL.OW_if, DL.OW_nil, DL.OW_cons, DL.OW_lst, DL.OW_tup, DL.OW_chain, DL.OW_oNo, DL.OW_oSo, DL.OW_sl, DL.OW_new, DL.OW_newO_v, DL.OW_newO_f, DL.OW_newO_s, DL.OW_retO_v, DL.OW_retO_f, DL.OW_retO_s, DL.OW_nNil, DL.OW_nCons, DL.OW_call, DL.OW_iNil, DL.OW_iCons, DL.OW_iLnd, DL.OW_gI, DL.OW_itF, DL.OW_it, DL.OW_rng1, DL.OW_rng2, DL.OW_zipK, DL.OW_enum, DL.OW_enumV, DL.OW_lc, DL.OW_yes, DL.SL_d, DL.SL_o, DL.SL_b, DL.SF_d, DL.SF_o, DL.SRt_d, DL.SRt_o, DL.TB_v, DL.TI_i, DL.L2_2, DL.L3_3, DL.SI_i, DL.SX_o, DL.SX_b, DL.IF_t, DL.IF_f, reduceCtorEq, DL.isi_int_int, DL.isi_int_bl, DL.isi_int_str, DL.isi_int_lst, DL.isi_int_tup, DL.isi_int_non, DL.isi_bool_int, DL.isi_bool_bl, DL.isi_bool_str, DL.isi_bool_lst, DL.isi_bool_tup, DL.isi_bool_non, DL.isi_str_int, DL.isi_str_bl, DL.isi_str_str, DL.isi_str_lst, DL.isi_str_tup, DL.isi_str_non, DL.isi_list_int, DL.isi_list_bl, DL.isi_list_str, DL.isi_list_lst, DL.isi_list_tup, DL.isi_list_non, DL.isi_tuple_int, DL.isi_tuple_bl, DL.isi_tuple_str, DL.isi_tuple_lst, DL.isi_tuple_tup, DL.isi_tuple_non, DL.isi2_int, DL.isi2_bl, DL.isi2_str, DL.isi2_lst, DL.isi2_tup, DL.isi2_non, DL.OB_tuple_l, DL.OB_tuple_t, DL.OB_list_l, DL.OB_list_t, DL.OB_sum, DL.OB_all, DL.OB_any, DL.bls_nil, DL.bls_cons, DL.blsOf_map, DL.ints_nil, DL.ints_cons, DL.intsOf_map, DL.OB_map, DL.OW_lc0, DL.OW_lcY, id, List.all_map, DL.tru_bl, DL.tru_int, DL.tru_lst, DL.tru_tup, DL.tru_non, DL.IF_n, DL.IF_d, DL.OB_some, DL.OB_none, DL.OB_ite, DL.fzT_v, DL.fzT_f, DL.fzT_s, DL.dr_v, DL.dr_f, DL.dr_s, DL.slot_z, DL.slot_s, DL.Sc_v, DL.Sc_s, DL.argsSV_nil, DL.argsSV_d, DL.argsSV_i', DL.SMt_o, DL.SMt_b, DL.pb_nil, DL.pb_nil2, DL.pb_cons, DL.SPt_o, DL.SPt_b, DL.retT_d, DL.retT_o, DL.lS_nil, DL.lS_d, DL.lS_i, DL.lP_nil, DL.lP_d, DL.lP_i, DL.SVl_d, DL.SVl_o, DL.SVl_b, DL.backOf_nil, DL.backOf_cons, DL.sqOf_l, DL.sqOf_t, DL.seqD_l, DL.seqD_t, DL.items_l, DL.items_t, DL.srcOk_n, DL.OB_gN, DL.OB_gK, DL.OB_gCons, DL.OB_gNil, DL.OB_add, DL.OB_sub, DL.OB_mul, DL.OB_mulL, DL.OB_fdiv, DL.OB_mod, DL.OB_pow, DL.OB_shl, DL.OB_bits, DL.OB_sl_l, DL.OB_sl_f, DL.OB_neg, DL.OB_lt, DL.OB_le, DL.OB_gt, DL.OB_ge, DL.OB_eq, DL.OB_ne, DL.eqB_int, DL.eqB_str, DL.OB_is, DL.OB_isn, DL.OB_len_l, DL.OB_len_t, DL.OB_abs, DL.OB_int, DL.OB_intb, DL.OB_ix_l, DL.OB_ix_t, DL.OB_gcd, DL.OB_lcm, DL.OB_max2, DL.OB_min2, DL.isNon, false_implies, implies_true, DL.rng_len, DL.enum_len, DL.zip_len, Int.toNat_natCast, DL.atI0, DL.atI1, DL.nd0, DL.nd1, DL.atI2, DL.ixN_b, DL.ixN_1, DL.ixN_2, DL.wipeE, DL.restE, DL.ownFree, Option.map_some, Option.isSome_some, DL.put_o, DL.put_b, DL.val_o, DL.val_b, DL.val_d, DL.ends, List.map_cons, List.map_nil, List.cons_append, List.nil_append, List.length_cons, List.length_nil, List.set_cons_zero, List.set_cons_succ, List.set_nil, List.replicate_zero, List.replicate_succ, List.all_cons, List.all_nil, Bool.and_true, Bool.and_self, true_and, and_true, and_self, Nat.reduceAdd, Nat.reduceLT, Nat.reduceLeDiff, Nat.reduceSub, Nat.zero_le, Nat.zero_add]
      exact q
end
end K61
set_option Elab.async false
set_option linter.all false
set_option maxRecDepth 100000
set_option maxHeartbeats 4000000
set_option exponentiation.threshold 20000
namespace K61
open PySem PySem.Spec PyProof.Rows L2 Own DL
theorem stp_le {i l : Nat} (hl : l ≤ 30) : stp i l * 2 ^ 30 ≤ W l * 2 ^ i := by
  unfold stp W
  split
  · rw [← Nat.pow_add, ← Nat.pow_add]
    exact Nat.pow_le_pow_right (by decide) (by omega)
  · rw [Nat.zero_mul]
    exact Nat.zero_le _
theorem stp_eq {i l : Nat} (hl : l ≤ 30) (h : l ≤ i) : stp i l * 2 ^ 30 = W l * 2 ^ i := by
  unfold stp W
  rw [if_pos h, ← Nat.pow_add, ← Nat.pow_add]
  congr 1
  omega
theorem sums_le {i : Nat} : ∀ {ls : List Nat}, (∀ l ∈ ls, l ≤ 30) → (ls.map (stp i)).sum * 2 ^ 30 ≤ (ls.map W).sum * 2 ^ i
  | [], _ => by simp
  | l :: ls, h => by
    have h1 := stp_le (i := i) (h l List.mem_cons_self)
    have h2 := sums_le (i := i) (ls := ls) fun m hm => h m (List.mem_cons_of_mem _ hm)
    rw [List.map_cons, List.map_cons, List.sum_cons, List.sum_cons, Nat.add_mul, Nat.add_mul]
    exact Nat.add_le_add h1 h2
theorem sums_eq {i : Nat} : ∀ {ls : List Nat}, (∀ l ∈ ls, l ≤ 30 ∧ l ≤ i) → (ls.map (stp i)).sum * 2 ^ 30 = (ls.map W).sum * 2 ^ i
  | [], _ => by simp
  | l :: ls, h => by
    have h1 := stp_eq (i := i) (h l List.mem_cons_self).1 (h l List.mem_cons_self).2
    have h2 := sums_eq (i := i) (ls := ls) fun m hm => h m (List.mem_cons_of_mem _ hm)
    rw [List.map_cons, List.map_cons, List.sum_cons, List.sum_cons, Nat.add_mul, Nat.add_mul, h1, h2]
theorem less_le {f : Nat → Nat} : ∀ {ls : List Nat}, (ls.map fun l => f l - 1).sum ≤ (ls.map f).sum
  | [] => by simp
  | l :: ls => by
    have := less_le (f := f) (ls := ls)
    rw [List.map_cons, List.map_cons, List.sum_cons, List.sum_cons]
    omega
theorem less_one {f : Nat → Nat} {l : Nat} (h0 : 1 ≤ f l) : ∀ {ls : List Nat}, l ∈ ls → (ls.map fun l => f l - 1).sum + 1 ≤ (ls.map f).sum
  | m :: ls, h => by
    rw [List.map_cons, List.map_cons, List.sum_cons, List.sum_cons]
    rcases List.mem_cons.mp h with rfl | h
    · have := less_le (f := f) (ls := ls)
      omega
    · have := less_one h0 (ls := ls) h
      omega
theorem less_all {f : Nat → Nat} : ∀ {ls : List Nat}, (∀ l ∈ ls, 1 ≤ f l) → (ls.map fun l => f l - 1).sum + ls.length = (ls.map f).sum
  | [], _ => by simp
  | l :: ls, h => by
    have h1 := h l List.mem_cons_self
    have h2 := less_all (f := f) (ls := ls) fun m hm => h m (List.mem_cons_of_mem _ hm)
    rw [List.map_cons, List.map_cons, List.sum_cons, List.sum_cons, List.length_cons]
    omega
theorem mem_le : ∀ {ls : List Nat} {l : Nat}, l ∈ ls → W l ≤ (ls.map W).sum
  | m :: ls, l, h => by
    rw [List.map_cons, List.sum_cons]
    rcases List.mem_cons.mp h with rfl | h
    · omega
    · have := mem_le h
      omega
section
variable {ls : List Nat} {p l b s : Nat}
/-- what the ticks come to -/
theorem z_le (h : ∀ l ∈ ls, 1 ≤ l ∧ l ≤ 30) (hp : ls[p]? = some l) (b0 : 1 ≤ b) : ((ls.map (stp (l + b - 1))).sum + ((ls.take p).map (stp (l + b - 1))).sum) * W l ≤ (S ls + A ls p) * 2 ^ (b - 1) := by
  have hl := h l (List.mem_of_getElem? hp)
  have h1 := sums_le (i := l + b - 1) (ls := ls) fun m hm => (h m hm).2
  have h2 := sums_le (i := l + b - 1) (ls := ls.take p) fun m hm => (h m (List.mem_of_mem_take hm)).2
  have h3 : ((ls.map (stp (l + b - 1))).sum + ((ls.take p).map (stp (l + b - 1))).sum) * 2 ^ 30 ≤ (S ls + A ls p) * 2 ^ (l + b - 1) := by
    unfold S A
    rw [Nat.add_mul, Nat.add_mul]
    exact Nat.add_le_add h1 h2
  have e : W l * 2 ^ (l + b - 1) = 2 ^ (b - 1) * 2 ^ 30 := by
    unfold W
    rw [← Nat.pow_add, ← Nat.pow_add]
    congr 1
    omega
  refine Nat.le_of_mul_le_mul_right ?_ (Nat.two_pow_pos 30)
  calc _ = ((ls.map (stp (l + b - 1))).sum + ((ls.take p).map (stp (l + b - 1))).sum) * 2 ^ 30 * W l := by ac_rfl
    _ ≤ (S ls + A ls p) * 2 ^ (l + b - 1) * W l := Nat.mul_le_mul_right _ h3
    _ = (S ls + A ls p) * (W l * 2 ^ (l + b - 1)) := by ac_rfl
    _ = _ := by rw [e]; ac_rfl
theorem z_ge (h : ∀ l ∈ ls, 1 ≤ l ∧ l ≤ 30) (hp : ls[p]? = some l) (b0 : 30 ≤ b) : (S ls + A ls p) * 2 ^ (b - 1) ≤ ((ls.map (stp (l + b - 1))).sum + ((ls.take p).map (stp (l + b - 1))).sum) * W l := by
  have hl := h l (List.mem_of_getElem? hp)
  have h1 := sums_eq (i := l + b - 1) (ls := ls) fun m hm => ⟨(h m hm).2, by have := h m hm; omega⟩
  have h2 := sums_eq (i := l + b - 1) (ls := ls.take p) fun m hm => ⟨(h m (List.mem_of_mem_take hm)).2, by have := h m (List.mem_of_mem_take hm); omega⟩
  have h3 : (S ls + A ls p) * 2 ^ (l + b - 1) ≤ ((ls.map (stp (l + b - 1))).sum + ((ls.take p).map (stp (l + b - 1))).sum) * 2 ^ 30 := by
    unfold S A
    rw [Nat.add_mul, Nat.add_mul, h1, h2]
    exact Nat.le_refl _
  have e : W l * 2 ^ (l + b - 1) = 2 ^ (b - 1) * 2 ^ 30 := by
    unfold W
    rw [← Nat.pow_add, ← Nat.pow_add]
    congr 1
    omega
  refine Nat.le_of_mul_le_mul_right ?_ (Nat.two_pow_pos 30)
  calc _ = (S ls + A ls p) * (2 ^ (b - 1) * 2 ^ 30) := by ac_rfl
    _ = (S ls + A ls p) * 2 ^ (l + b - 1) * W l := by rw [← e]; ac_rfl
    _ ≤ ((ls.map (stp (l + b - 1))).sum + ((ls.take p).map (stp (l + b - 1))).sum) * 2 ^ 30 * W l := Nat.mul_le_mul_right _ h3
    _ = _ := by ac_rfl
/-- the ticks of a step come by its factor -/
theorem tick_le (h : ∀ l ∈ ls, 1 ≤ l ∧ l ≤ 30) (hp : ls[p]? = some l) (b0 : 1 ≤ b) (hs : 2 ^ (b - 1) ≤ s) : tickN ls p s (l + b - 1) l * (W l : Nat) ≤ ((S ls + A ls p : Nat) : Int) * (s : Nat) := by
  have hm := List.mem_of_getElem? hp
  have sp : stp (l + b - 1) l = 2 ^ (b - 1) := by
    unfold stp
    rw [if_pos (by omega)]
    congr 1
    omega
  have hz := z_le h hp b0
  have h1 := less_one (f := stp (l + b - 1)) (by rw [sp]; exact Nat.one_le_two_pow) hm
  have hw : W l ≤ S ls + A ls p := Nat.le_trans (mem_le hm) (Nat.le_add_right _ _)
  unfold tickN
  rw [sp]
  generalize (ls.map (stp (l + b - 1))).sum = z1 at *
  generalize ((ls.take p).map (stp (l + b - 1))).sum = z2 at *
  generalize (ls.map fun m => stp (l + b - 1) m - 1).sum = z0 at *
  generalize 2 ^ (b - 1) = P at *
  generalize S ls + A ls p = C at *
  generalize W l = w at *
  obtain ⟨r, rfl⟩ : ∃ r, s = P + r := ⟨s - P, by omega⟩
  have e1 : ((z0 : Nat) : Int) + (z2 : Nat) + ((P + r : Nat) : Int) - ((P - 1 : Nat) : Int) ≤ ((z1 + z2 + r : Nat) : Int) := by omega
  have e2 : (z1 + z2 + r) * w ≤ C * (P + r) := by
    rw [Nat.add_mul, Nat.mul_add]
    refine Nat.add_le_add hz ?_
    rw [Nat.mul_comm C r]
    exact Nat.mul_le_mul_left r hw
  refine Int.le_trans (Int.mul_le_mul_of_nonneg_right e1 (by omega)) ?_
  rw [← Int.natCast_mul, ← Int.natCast_mul]
  omega
/-- in the long run they come near to it -/
theorem tick_ge (h : ∀ l ∈ ls, 1 ≤ l ∧ l ≤ 30) (hp : ls[p]? = some l) : ((S ls + A ls p : Nat) : Int) * ((2 ^ 29 : Nat) : Int) ≤ (tickN ls p (2 ^ 29) (l + 30 - 1) l + (ls.length : Nat)) * (W l : Nat) := by
  have hl := h l (List.mem_of_getElem? hp)
  have sp : stp (l + 30 - 1) l = 2 ^ 29 := by
    unfold stp
    rw [if_pos (by omega)]
    congr 1
    omega
  have hz := z_ge h hp (Nat.le_refl 30)
  have h1 := less_all (f := stp (l + 30 - 1)) (ls := ls) fun m hm => by
    have := h m hm
    unfold stp
    rw [if_pos (by omega)]
    exact Nat.one_le_two_pow
  unfold tickN
  rw [sp]
  generalize (ls.map (stp (l + 30 - 1))).sum = z1 at *
  generalize ((ls.take p).map (stp (l + 30 - 1))).sum = z2 at *
  generalize (ls.map fun m => stp (l + 30 - 1) m - 1).sum = z0 at *
  generalize S ls + A ls p = C at *
  generalize W l = w at *
  have e1 : ((z1 + z2 : Nat) : Int) ≤ ((z0 : Nat) : Int) + (z2 : Nat) + ((2 ^ 29 : Nat) : Int) - ((2 ^ 29 - 1 : Nat) : Int) + (ls.length : Nat) := by omega
  refine Int.le_trans ?_ (Int.mul_le_mul_of_nonneg_right e1 (by omega))
  rw [← Int.natCast_mul, ← Int.natCast_mul]
  have hz : C * 2 ^ 29 ≤ (z1 + z2) * w := hz
  omega
end
end K61
set_option Elab.async false
set_option linter.all false
set_option maxRecDepth 100000
set_option maxHeartbeats 4000000
set_option exponentiation.threshold 20000
namespace K61
open PySem PySem.Spec PyProof.Rows L2 Own DL
theorem SW_trySet {mb m2 : MS} {i j : Nat} {c1 fld : Str} {sub : Str → Option Bool} {env : DL.Env} {T : SE} : SW (mTrySet mb i j c1 fld sub m2 env) T = SW (mb env) { T with ex := fun c fs e => if c = c1 then OB (fs.lookup fld) (fun d => (i < e.length ∧ j < e.length) ∧ T.nx (((e.set i none).set j (some (.d d))).set i none)) else match sub c with
    | some true => SW (m2 e) T
    | some false => T.ex c fs e
    | none => False } := by
  unfold mTrySet
  cases mb env with
  | ex c fs e =>
    show SW (if c = c1 then _ else _) T = (if c = c1 then _ else _)
    by_cases h : c = c1
    · rw [if_pos h, if_pos h]
      cases fs.lookup fld with
      | none => rfl
      | some d =>
        show SW (if _ then _ else _) T = _
        rw [SW_iteP]
        rfl
    · rw [if_neg h, if_neg h]
      cases sub c with
      | none => rfl
      | some b => cases b <;> rfl
  | _ => rfl
def T (ls : List Nat) (p l : Nat) (s : Int) : Int := tickN ls p s.toNat (l + Builtin.Int.intBits (s.toNat : Nat) - 1) l
section
variable {Q : SV → List D → Prop} {E : Str → List (Str × D) → List D → Prop} {d : D} {ls : List Nat} {p l : Nat} {s : Int}
theorem lap_i (h : Len d ls) (hp : ls[p]? = some l) (s01 : 1 ≤ s ∧ s ≤ 1000000000) : FW (mf_lap_tick [.d d, .d (nD p), .d (.int s)]) Q E = Q (.d (.int (T ls p l s))) [] := by
  obtain ⟨k, rfl⟩ := Int.eq_ofNat_of_zero_le (show 0 ≤ s by omega)
  exact lap_tick_ok h hp (by omega) (by omega)
theorem fac_parts : ∃ g c w : Nat, 0 < g ∧ S ls + A ls p = g * c ∧ W l = g * w ∧ fac ls p l = (c, w) := by
  have g0 : 0 < (S ls + A ls p).gcd (W l) := Nat.gcd_pos_of_pos_right _ (Nat.two_pow_pos _)
  obtain ⟨c, hc⟩ := Nat.gcd_dvd_left (S ls + A ls p) (W l)
  obtain ⟨w, hw⟩ := Nat.gcd_dvd_right (S ls + A ls p) (W l)
  refine ⟨_, c, w, g0, hc, hw, ?_⟩
  show ((S ls + A ls p) / (S ls + A ls p).gcd (W l), W l / (S ls + A ls p).gcd (W l)) = (c, w)
  rw [Nat.div_eq_of_eq_mul_right g0 hc, Nat.div_eq_of_eq_mul_right g0 hw]
theorem T_le (h : Len d ls) (hp : ls[p]? = some l) (s01 : 1 ≤ s ∧ s ≤ 1000000000) : T ls p l s * ((fac ls p l).2 : Nat) ≤ ((fac ls p l).1 : Nat) * s := by
  obtain ⟨k, rfl⟩ := Int.eq_ofNat_of_zero_le (show 0 ≤ s by omega)
  have k0 : 1 ≤ k := by omega
  have hb := bits_nat k0
  have t := tick_le (b := Builtin.Int.intBits (k : Nat)) (s := k) h.ok hp (by omega) (by rw [hb]; exact Nat.log2_self_le (by omega))
  obtain ⟨g, c, w, g0, hc, hw, hf⟩ := fac_parts (ls := ls) (p := p) (l := l)
  rw [hf]
  rw [hc, hw] at t
  show tickN ls p k (l + Builtin.Int.intBits (k : Nat) - 1) l * (w : Nat) ≤ (c : Nat) * (k : Int)
  generalize tickN ls p k (l + Builtin.Int.intBits (k : Nat) - 1) l = tk at *
  refine Int.le_of_mul_le_mul_left (a := (g : Int)) ?_ (by omega)
  rw [Int.natCast_mul, Int.natCast_mul] at t
  calc _ = tk * ((g : Int) * (w : Nat)) := by ac_rfl
    _ ≤ (g : Int) * (c : Nat) * (k : Nat) := t
    _ = _ := by ac_rfl
theorem T_ge (h : Len d ls) (hp : ls[p]? = some l) : ((fac ls p l).1 : Nat) * (2 ^ 29 : Int) ≤ (T ls p l (2 ^ 29) + (ls.length : Nat)) * ((fac ls p l).2 : Nat) := by
  have t := tick_ge h.ok hp
  obtain ⟨g, c, w, g0, hc, hw, hf⟩ := fac_parts (ls := ls) (p := p) (l := l)
  rw [hf]
  rw [hc, hw] at t
  have e : T ls p l (2 ^ 29) = tickN ls p (2 ^ 29) (l + 30 - 1) l := by
    unfold T
    rw [show ((2 : Int) ^ 29).toNat = 2 ^ 29 by decide]
    rw [bits_nat (by decide)]
    rw [show (2 ^ 29 : Nat).log2 = 29 by rw [Nat.log2_two_pow]]
  rw [e]
  generalize tickN ls p (2 ^ 29) (l + 30 - 1) l = tk at *
  refine Int.le_of_mul_le_mul_left (a := (g : Int)) ?_ (by omega)
  rw [Int.natCast_mul, Int.natCast_mul] at t
  calc _ = (g : Int) * (c : Nat) * ((2 ^ 29 : Nat) : Int) := by
        show (g : Int) * ((c : Nat) * (2 ^ 29 : Int)) = (g : Int) * (c : Nat) * ((2 ^ 29 : Nat) : Int)
        rw [Int.mul_assoc]
        rfl
    _ ≤ (tk + (ls.length : Nat)) * ((g : Int) * (w : Nat)) := t
    _ = _ := by ac_rfl
theorem place_right_ok {n : Nat} {till : D} (hN : Nt n till) (hn : n ≤ 2 ^ 19) (h : Len d ls) (hp : ls[p]? = some l) (hd : d = .lst (ls.map nD)) (q : ∀ t', Nt (n + 2) t' → Q (.d (.bl true)) [t']) : FW (mf__law_place_right [.b till, .d d, .d (nD p), .d (facD (fac ls p l))]) Q E := by
  unfold mf__law_place_right
  rw [FW_run]
  unfold m__law_place_right facD
  simp only [show N__law_place_right.length = 7 from rfl]
  subst hd
  simp only [DL.SW_nx, DL.SW_rt, DL.SW_pass, DL.SW_brk, DL.SW_cnt, DL.SW_seq, DL.SW_drop, DL.SW_set, DL.SW_ret, DL.SW_ifS, DL.SW_asg, DL.SW_par2, DL.SW_par3, DL.SW_aug, DL.SW_raise, DL.SW_setIx, DL.SW_for, DL.SW_while, DL.OW_ok, DL.OW_no, DL.OW_var, DL.OW_c, DL.OW_fz, DL.OW_fa, DL.OW_faO_v, DL.OW_faO_f, DL.OW_faO_s, DL.OW_bin, DL.OW_un, DL.OW_tr, DL.OW_te, DL.OW_notT, DL.OW_andT, DL.OW_orT, DL.OW_and, DL.OW_or, DL.OW_not, DL.OW_if, DL.OW_nil, DL.OW_cons, DL.OW_lst, DL.OW_tup, DL.OW_chain, DL.OW_oNo, DL.OW_oSo, DL.OW_sl, DL.OW_new, DL.OW_newO_v, DL.OW_newO_f, DL.OW_newO_s, DL.OW_retO_v, DL.OW_retO_f, DL.OW_retO_s, DL.OW_nNil, DL.OW_nCons, DL.OW_call, DL.OW_iNil, DL.OW_iCons, DL.OW_iLnd, DL.OW_gI, DL.OW_itF, DL.OW_it, DL.OW_rng1, DL.OW_rng2, DL.OW_zipK, DL.OW_enum, DL.OW_enumV, DL.OW_lc, DL.OW_yes, DL.SL_d, DL.SL_o, DL.SL_b, DL.SF_d, DL.SF_o, DL.SRt_d, DL.SRt_o, DL.TB_v, DL.TI_i, DL.L2_2, DL.L3_3, DL.SI_i, DL.SX_o, DL.SX_b, DL.IF_t, DL.IF_f, reduceCtorEq, DL.isi_int_int, DL.isi_int_bl, DL.isi_int_str, DL.isi_int_lst, DL.isi_int_tup, DL.isi_int_non, DL.isi_bool_int, DL.isi_bool_bl, DL.isi_bool_str, DL.isi_bool_lst, DL.isi_bool_tup, DL.isi_bool_non, DL.isi_str_int, DL.isi_str_bl, DL.isi_str_str, DL.isi_str_lst, DL.isi_str_tup, DL.isi_str_non, DL.isi_list_int, DL.isi_list_bl, DL.isi_list_str, DL.isi_list_lst, DL.isi_list_tup, DL.isi_list_non, DL.isi_tuple_int, DL.isi_tuple_bl, DL.isi_tuple_str, DL.isi_tuple_lst, DL.isi_tuple_tup, DL.isi_tuple_non, DL.isi2_int, DL.isi2_bl, DL.isi2_str, DL.isi2_lst, DL.isi2_tup, DL.isi2_non, DL.OB_tuple_l, DL.OB_tuple_t, DL.OB_list_l, DL.OB_list_t, DL.OB_sum, DL.OB_all, DL.OB_any, DL.bls_nil, DL.bls_cons, DL.blsOf_map, DL.ints_nil, DL.ints_cons, DL.intsOf_map, DL.OB_map, DL.OW_lc0, DL.OW_lcY, id, List.all_map, DL.tru_bl, DL.tru_int, DL.tru_lst, DL.tru_tup, DL.tru_non, DL.IF_n, DL.IF_d, DL.OB_some, DL.OB_none, DL.OB_ite, DL.fzT_v, DL.fzT_f, DL.fzT_s, DL.dr_v, DL.dr_f, DL.dr_s, DL.slot_z, DL.slot_s, DL.Sc_v, DL.Sc_s, DL.argsSV_nil, DL.argsSV_d, DL.argsSV_i', DL.SMt_o, DL.SMt_b, DL.pb_nil, DL.pb_nil2, DL.pb_cons, DL.SPt_o, DL.SPt_b, DL.retT_d, DL.retT_o, DL.lS_nil, DL.lS_d, DL.lS_i, DL.lP_nil, DL.lP_d, DL.lP_i, DL.SVl_d, DL.SVl_o, DL.SVl_b, DL.backOf_nil, DL.backOf_cons, DL.sqOf_l, DL.sqOf_t, DL.seqD_l, DL.seqD_t, DL.items_l, DL.items_t, DL.srcOk_n, DL.OB_gN, DL.OB_gK, DL.OB_gCons, DL.OB_gNil, DL.OB_add, DL.OB_sub, DL.OB_mul, DL.OB_mulL, DL.OB_fdiv, DL.OB_mod, DL.OB_pow, DL.OB_shl, DL.OB_bits, DL.OB_sl_l, DL.OB_sl_f, DL.OB_neg, DL.OB_lt, DL.OB_le, DL.OB_gt, DL.OB_ge, DL.OB_eq, DL.OB_ne, DL.eqB_int, DL.eqB_str, DL.OB_is, DL.OB_isn, DL.OB_len_l, DL.OB_len_t, DL.OB_abs, DL.OB_int, DL.OB_intb, DL.OB_ix_l, DL.OB_ix_t, DL.OB_gcd, DL.OB_lcm, DL.OB_max2, DL.OB_min2, DL.isNon, false_implies, implies_true, DL.rng_len, DL.enum_len, DL.zip_len, Int.toNat_natCast, DL.atI0, DL.atI1, DL.nd0, DL.nd1, DL.atI2, DL.ixN_b, DL.ixN_1, DL.ixN_2, DL.wipeE, DL.restE, DL.ownFree, Option.map_some, Option.isSome_some, DL.put_o, DL.put_b, DL.val_o, DL.val_b, DL.val_d, DL.ends, List.map_cons, List.map_nil, List.cons_append, List.nil_append, List.length_cons, List.length_nil, List.set_cons_zero, List.set_cons_succ, List.set_nil, List.replicate_zero, List.replicate_succ, List.all_cons, List.all_nil, Bool.and_true, Bool.and_self, true_and, and_true, and_self, Nat.reduceAdd, Nat.reduceLT, Nat.reduceLeDiff, Nat.reduceSub, Nat.zero_le, Nat.zero_add]
  refine count_ok hN (by omega) (by omega) (by omega) fun r1 d1 r10 r11 h1 => ?_
  simp only [DL.SW_nx, DL.SW_rt, DL.SW_pass, DL.SW_brk, DL.SW_cnt, DL.SW_seq, DL.SW_drop, DL.SW_set, DL.SW_ret, DL.SW_ifS, DL.SW_asg, DL.SW_par2, DL.SW_par3, DL.SW_aug, DL.SW_raise, DL.SW_setIx, DL.SW_for, DL.SW_while, DL.OW_ok, DL.OW_no, DL.OW_var, DL.OW_c, DL.OW_fz, DL.OW_fa, DL.OW_faO_v, DL.OW_faO_f, DL.OW_faO_s, DL.OW_bin, DL.OW_un, DL.OW_tr, DL.OW_te, DL.OW_notT, DL.OW_andT, DL.OW_orT, DL.OW_and, DL.OW_or, DL.OW_not, DL.OW_if, DL.OW_nil, DL.OW_cons, DL.OW_lst, DL.OW_tup, DL.OW_chain, DL.OW_oNo, DL.OW_oSo, DL.OW_sl, DL.OW_new, DL.OW_newO_v, DL.OW_newO_f, DL.OW_newO_s, DL.OW_retO_v, DL.OW_retO_f, DL.OW_retO_s, DL.OW_nNil, DL.OW_nCons, DL.OW_call, DL.OW_iNil, DL.OW_iCons, DL.OW_iLnd, DL.OW_gI, DL.OW_itF, DL.OW_it, DL.OW_rng1, DL.OW_rng2, DL.OW_zipK, DL.OW_enum, DL.OW_enumV, DL.OW_lc, DL.OW_yes, DL.SL_d, DL.SL_o, DL.SL_b, DL.SF_d, DL.SF_o, DL.SRt_d, DL.SRt_o, DL.TB_v, DL.TI_i, DL.L2_2, DL.L3_3, DL.SI_i, DL.SX_o, DL.SX_b, DL.IF_t, DL.IF_f, reduceCtorEq, DL.isi_int_int, DL.isi_int_bl, DL.isi_int_str, DL.isi_int_lst, DL.isi_int_tup, DL.isi_int_non, DL.isi_bool_int, DL.isi_bool_bl, DL.isi_bool_str, DL.isi_bool_lst, DL.isi_bool_tup, DL.isi_bool_non, DL.isi_str_int, DL.isi_str_bl, DL.isi_str_str, DL.isi_str_lst, DL.isi_str_tup, DL.isi_str_non, DL.isi_list_int, DL.isi_list_bl, DL.isi_list_str, DL.isi_list_lst, DL.isi_list_tup, DL.isi_list_non, DL.isi_tuple_int, DL.isi_tuple_bl, DL.isi_tuple_str, DL.isi_tuple_lst, DL.isi_tuple_tup, DL.isi_tuple_non, DL.isi2_int, DL.isi2_bl, DL.isi2_str, DL.isi2_lst, DL.isi2_tup, DL.isi2_non, DL.OB_tuple_l, DL.OB_tuple_t, DL.OB_list_l, DL.OB_list_t, DL.OB_sum, DL.OB_all, DL.OB_any, DL.bls_nil, DL.bls_cons, DL.blsOf_map, DL.ints_nil, DL.ints_cons, DL.intsOf_map, DL.OB_map, DL.OW_lc0, DL.OW_lcY, id, List.all_map, DL.tru_bl, DL.tru_int, DL.tru_lst, DL.tru_tup, DL.tru_non, DL.IF_n, DL.IF_d, DL.OB_some, DL.OB_none, DL.OB_ite, DL.fzT_v, DL.fzT_f, DL.fzT_s, DL.dr_v, DL.dr_f, DL.dr_s, DL.slot_z, DL.slot_s, DL.Sc_v, DL.Sc_s, DL.argsSV_nil, DL.argsSV_d, DL.argsSV_i', DL.SMt_o, DL.SMt_b, DL.pb_nil, DL.pb_nil2, DL.pb_cons, DL.SPt_o, DL.SPt_b, DL.retT_d, DL.retT_o, DL.lS_nil, DL.lS_d, DL.lS_i, DL.lP_nil, DL.lP_d, DL.lP_i, DL.SVl_d, DL.SVl_o, DL.SVl_b, DL.backOf_nil, DL.backOf_cons, DL.sqOf_l, DL.sqOf_t, DL.seqD_l, DL.seqD_t, DL.items_l, DL.items_t, DL.srcOk_n, DL.OB_gN, DL.OB_gK, DL.OB_gCons, DL.OB_gNil, DL.OB_add, DL.OB_sub, DL.OB_mul, DL.OB_mulL, DL.OB_fdiv, DL.OB_mod, DL.OB_pow, DL.OB_shl, DL.OB_bits, DL.OB_sl_l, DL.OB_sl_f, DL.OB_neg, DL.OB_lt, DL.OB_le, DL.OB_gt, DL.OB_ge, DL.OB_eq, DL.OB_ne, DL.eqB_int, DL.eqB_str, DL.OB_is, DL.OB_isn, DL.OB_len_l, DL.OB_len_t, DL.OB_abs, DL.OB_int, DL.OB_intb, DL.OB_ix_l, DL.OB_ix_t, DL.OB_gcd, DL.OB_lcm, DL.OB_max2, DL.OB_min2, DL.isNon, false_implies, implies_true, DL.rng_len, DL.enum_len, DL.zip_len, Int.toNat_natCast, DL.atI0, DL.atI1, DL.nd0, DL.nd1, DL.atI2, DL.ixN_b, DL.ixN_1, DL.ixN_2, DL.wipeE, DL.restE, DL.ownFree, Option.map_some, Option.isSome_some, DL.put_o, DL.put_b, DL.val_o, DL.val_b, DL.val_d, DL.ends, List.map_cons, List.map_nil, List.cons_append, List.nil_append, List.length_cons, List.length_nil, List.set_cons_zero, List.set_cons_succ, List.set_nil, List.replicate_zero, List.replicate_succ, List.all_cons, List.all_nil, Bool.and_true, Bool.and_self, true_and, and_true, and_self, Nat.reduceAdd, Nat.reduceLT, Nat.reduceLeDiff, Nat.reduceSub, Nat.zero_le, Nat.zero_add]
  refine count_ok h1 (by omega) (by omega) (by omega) fun r2 d2 r20 r21 h2 => ?_
  simp only [DL.SW_nx, DL.SW_rt, DL.SW_pass, DL.SW_brk, DL.SW_cnt, DL.SW_seq, DL.SW_drop, DL.SW_set, DL.SW_ret, DL.SW_ifS, DL.SW_asg, DL.SW_par2, DL.SW_par3, DL.SW_aug, DL.SW_raise, DL.SW_setIx, DL.SW_for, DL.SW_while, DL.OW_ok, DL.OW_no, DL.OW_var, DL.OW_c, DL.OW_fz, DL.OW_fa, DL.OW_faO_v, DL.OW_faO_f, DL.OW_faO_s, DL.OW_bin, DL.OW_un, DL.OW_tr, DL.OW_te, DL.OW_notT, DL.OW_andT, DL.OW_orT, DL.OW_and, DL.OW_or, DL.OW_not, DL.OW_if, DL.OW_nil, DL.OW_cons, DL.OW_lst, DL.OW_tup, DL.OW_chain, DL.OW_oNo, DL.OW_oSo, DL.OW_sl, DL.OW_new, DL.OW_newO_v, DL.OW_newO_f, DL.OW_newO_s, DL.OW_retO_v, DL.OW_retO_f, DL.OW_retO_s, DL.OW_nNil, DL.OW_nCons, DL.OW_call, DL.OW_iNil, DL.OW_iCons, DL.OW_iLnd, DL.OW_gI, DL.OW_itF, DL.OW_it, DL.OW_rng1, DL.OW_rng2, DL.OW_zipK, DL.OW_enum, DL.OW_enumV, DL.OW_lc, DL.OW_yes, DL.SL_d, DL.SL_o, DL.SL_b, DL.SF_d, DL.SF_o, DL.SRt_d, DL.SRt_o, DL.TB_v, DL.TI_i, DL.L2_2, DL.L3_3, DL.SI_i, DL.SX_o, DL.SX_b, DL.IF_t, DL.IF_f, reduceCtorEq, DL.isi_int_int, DL.isi_int_bl, DL.isi_int_str, DL.isi_int_lst, DL.isi_int_tup, DL.isi_int_non, DL.isi_bool_int, DL.isi_bool_bl, DL.isi_bool_str, DL.isi_bool_lst, DL.isi_bool_tup, DL.isi_bool_non, DL.isi_str_int, DL.isi_str_bl, DL.isi_str_str, DL.isi_str_lst, DL.isi_str_tup, DL.isi_str_non, DL.isi_list_int, DL.isi_list_bl, DL.isi_list_str, DL.isi_list_lst, DL.isi_list_tup, DL.isi_list_non, DL.isi_tuple_int, DL.isi_tuple_bl, DL.isi_tuple_str, DL.isi_tuple_lst, DL.isi_tuple_tup, DL.isi_tuple_non, DL.isi2_int, DL.isi2_bl, DL.isi2_str, DL.isi2_lst, DL.isi2_tup, DL.isi2_non, DL.OB_tuple_l, DL.OB_tuple_t, DL.OB_list_l, DL.OB_list_t, DL.OB_sum, DL.OB_all, DL.OB_any, DL.bls_nil, DL.bls_cons, DL.blsOf_map, DL.ints_nil, DL.ints_cons, DL.intsOf_map, DL.OB_map, DL.OW_lc0, DL.OW_lcY, id, List.all_map, DL.tru_bl, DL.tru_int, DL.tru_lst, DL.tru_tup, DL.tru_non, DL.IF_n, DL.IF_d, DL.OB_some, DL.OB_none, DL.OB_ite, DL.fzT_v, DL.fzT_f, DL.fzT_s, DL.dr_v, DL.dr_f, DL.dr_s, DL.slot_z, DL.slot_s, DL.Sc_v, DL.Sc_s, DL.argsSV_nil, DL.argsSV_d, DL.argsSV_i', DL.SMt_o, DL.SMt_b, DL.pb_nil, DL.pb_nil2, DL.pb_cons, DL.SPt_o, DL.SPt_b, DL.retT_d, DL.retT_o, DL.lS_nil, DL.lS_d, DL.lS_i, DL.lP_nil, DL.lP_d, DL.lP_i, DL.SVl_d, DL.SVl_o, DL.SVl_b, DL.backOf_nil, DL.backOf_cons, DL.sqOf_l, DL.sqOf_t, DL.seqD_l, DL.seqD_t, DL.items_l, DL.items_t, DL.srcOk_n, DL.OB_gN, DL.OB_gK, DL.OB_gCons, DL.OB_gNil, DL.OB_add, DL.OB_sub, DL.OB_mul, DL.OB_mulL, DL.OB_fdiv, DL.OB_mod, DL.OB_pow, DL.OB_shl, DL.OB_bits, DL.OB_sl_l, DL.OB_sl_f, DL.OB_neg, DL.OB_lt, DL.OB_le, DL.OB_gt, DL.OB_ge, DL.OB_eq, DL.OB_ne, DL.eqB_int, DL.eqB_str, DL.OB_is, DL.OB_isn, DL.OB_len_l, DL.OB_len_t, DL.OB_abs, DL.OB_int, DL.OB_intb, DL.OB_ix_l, DL.OB_ix_t, DL.OB_gcd, DL.OB_lcm, DL.OB_max2, DL.OB_min2, DL.isNon, false_implies, implies_true, DL.rng_len, DL.enum_len, DL.zip_len, Int.toNat_natCast, DL.atI0, DL.atI1, DL.nd0, DL.nd1, DL.atI2, DL.ixN_b, DL.ixN_1, DL.ixN_2, DL.wipeE, DL.restE, DL.ownFree, Option.map_some, Option.isSome_some, DL.put_o, DL.put_b, DL.val_o, DL.val_b, DL.val_d, DL.ends, List.map_cons, List.map_nil, List.cons_append, List.nil_append, List.length_cons, List.length_nil, List.set_cons_zero, List.set_cons_succ, List.set_nil, List.replicate_zero, List.replicate_succ, List.all_cons, List.all_nil, Bool.and_true, Bool.and_self, true_and, and_true, and_self, Nat.reduceAdd, Nat.reduceLT, Nat.reduceLeDiff, Nat.reduceSub, Nat.zero_le, Nat.zero_add]
  have hr2 : 1 ≤ (1 : Int) * 2 ^ r2.toNat ∧ (1 : Int) * 2 ^ r2.toNat ≤ 1000000000 := by
    have : (2 : Nat) ^ r2.toNat ≤ 2 ^ 28 := Nat.pow_le_pow_right (by decide) (by omega)
    have : (1 : Nat) ≤ 2 ^ r2.toNat := Nat.one_le_two_pow
    have e : (1 : Int) * 2 ^ r2.toNat = ((2 ^ r2.toNat : Nat) : Int) := by simp
    rw [e]
    omega
  generalize (1 : Int) * 2 ^ r2.toNat = s8 at *
  refine ⟨pw_ok (by omega) (by omega) (by decide) (by decide), ?_⟩
  refine SW_forI (fun i e => ∃ x, e = [some (.b d2), some (.d (.lst (ls.map nD))), some (.d (nD p)), some (.d (facD (fac ls p l))), some (.d (nD (fac ls p l).1)), some (.d (nD (fac ls p l).2)), x]) _ 0 _ ⟨none, rfl⟩ (fun i x e hx he => ?_) fun e he => ?_
  · obtain ⟨y, rfl⟩ := he
    have hst : ∃ st : Int, x = .int st ∧ 1 ≤ st ∧ st ≤ 1000000000 := by
      have := List.mem_of_getElem? hx
      simp at this
      rcases this with rfl | rfl | rfl | rfl | rfl | rfl | rfl | rfl
      · exact ⟨1, rfl, by omega, by omega⟩
      · exact ⟨2, rfl, by omega, by omega⟩
      · exact ⟨3, rfl, by omega, by omega⟩
      · exact ⟨4, rfl, by omega, by omega⟩
      · exact ⟨7, rfl, by omega, by omega⟩
      · exact ⟨8, rfl, by omega, by omega⟩
      · exact ⟨1 + r1, rfl, by omega, by omega⟩
      · exact ⟨s8, rfl, hr2.1, hr2.2⟩
    obtain ⟨st, rfl, st0⟩ := hst
    have t := T_le h hp st0
    simp only [DL.SW_nx, DL.SW_rt, DL.SW_pass, DL.SW_brk, DL.SW_cnt, DL.SW_seq, DL.SW_drop, DL.SW_set, DL.SW_ret, DL.SW_ifS, DL.SW_asg, DL.SW_par2, DL.SW_par3, DL.SW_aug, DL.SW_raise, DL.SW_setIx, DL.SW_for, DL.SW_for0, DL.SW_forS, DL.SW_while, DL.OW_ok, DL.OW_no, DL.OW_var, DL.OW_c, DL.OW_fz, DL.OW_fa, DL.OW_faO_v, DL.OW_faO_f, DL.OW_faO_s, DL.OW_bin, DL.OW_un, DL.OW_tr, DL.OW_te, DL.OW_notT, DL.OW_andT, DL.OW_orT, DL.OW_and, DL.OW_or, DL.OW_not, DL.OW_if, DL.OW_nil, DL.OW_cons, DL.OW_lst, DL.OW_tup, DL.OW_chain, DL.OW_oNo, DL.OW_oSo, DL.OW_sl, DL.OW_new, DL.OW_newO_v, DL.OW_newO_f, DL.OW_newO_s, DL.OW_retO_v, DL.OW_retO_f, DL.OW_retO_s, DL.OW_nNil, DL.OW_nCons, DL.OW_call, DL.OW_iNil, DL.OW_iCons, DL.OW_iLnd, DL.OW_gI, DL.OW_itF, DL.OW_it, DL.OW_rng1, DL.OW_rng2, DL.OW_zipK, DL.OW_enum, DL.OW_enumV, DL.OW_lc, DL.OW_yes, DL.SL_d, DL.SL_o, DL.SL_b, DL.SF_d, DL.SF_o, DL.SRt_d, DL.SRt_o, DL.TB_v, DL.TI_i, DL.L2_2, DL.L3_3, DL.SI_i, DL.SX_o, DL.SX_b, DL.IF_t, DL.IF_f, reduceCtorEq, DL.isi_int_int, DL.isi_int_bl, DL.isi_int_str, DL.isi_int_lst, DL.isi_int_tup, DL.isi_int_non, DL.isi_bool_int, DL.isi_bool_bl, DL.isi_bool_str, DL.isi_bool_lst, DL.isi_bool_tup, DL.isi_bool_non, DL.isi_str_int, DL.isi_str_bl, DL.isi_str_str, DL.isi_str_lst, DL.isi_str_tup, DL.isi_str_non, DL.isi_list_int, DL.isi_list_bl, DL.isi_list_str, DL.isi_list_lst, DL.isi_list_tup, DL.isi_list_non, DL.isi_tuple_int, DL.isi_tuple_bl, DL.isi_tuple_str, DL.isi_tuple_lst, DL.isi_tuple_tup, DL.isi_tuple_non, DL.isi2_int, DL.isi2_bl, DL.isi2_str, DL.isi2_lst, DL.isi2_tup, DL.isi2_non, DL.OB_tuple_l, DL.OB_tuple_t, DL.OB_list_l, DL.OB_list_t, DL.OB_sum, DL.OB_all, DL.OB_any, DL.bls_nil, DL.bls_cons, DL.blsOf_map, DL.ints_nil, DL.ints_cons, DL.intsOf_map, DL.OB_map, DL.OW_lc0, DL.OW_lcY, id, List.all_map, DL.tru_bl, DL.tru_int, DL.tru_lst, DL.tru_tup, DL.tru_non, DL.IF_n, DL.IF_d, DL.OB_some, DL.OB_none, DL.OB_ite, DL.fzT_v, DL.fzT_f, DL.fzT_s, DL.dr_v, DL.dr_f, DL.dr_s, DL.slot_z, DL.slot_s, DL.Sc_v, DL.Sc_s, DL.argsSV_nil, DL.argsSV_d, DL.argsSV_i', DL.SMt_o, DL.SMt_b, DL.pb_nil, DL.pb_nil2, DL.pb_cons, DL.SPt_o, DL.SPt_b, DL.retT_d, DL.retT_o, DL.lS_nil, DL.lS_d, DL.lS_i, DL.lP_nil, DL.lP_d, DL.lP_i, DL.SVl_d, DL.SVl_o, DL.SVl_b, DL.backOf_nil, DL.backOf_cons, DL.sqOf_l, DL.sqOf_t, DL.seqD_l, DL.seqD_t, DL.items_l, DL.items_t, DL.srcOk_n, DL.OB_gN, DL.OB_gK, DL.OB_gCons, DL.OB_gNil, DL.OB_add, DL.OB_sub, DL.OB_mul, DL.OB_mulL, DL.OB_fdiv, DL.OB_mod, DL.OB_pow, DL.OB_shl, DL.OB_bits, DL.OB_sl_l, DL.OB_sl_f, DL.OB_neg, DL.OB_lt, DL.OB_le, DL.OB_gt, DL.OB_ge, DL.OB_eq, DL.OB_ne, DL.eqB_int, DL.eqB_str, DL.OB_is, DL.OB_isn, DL.OB_len_l, DL.OB_len_t, DL.OB_abs, DL.OB_int, DL.OB_intb, DL.OB_ix_l, DL.OB_ix_t, DL.OB_gcd, DL.OB_lcm, DL.OB_max2, DL.OB_min2, DL.isNon, false_implies, implies_true, DL.rng_len, DL.enum_len, DL.zip_len, Int.toNat_natCast, DL.atI0, DL.atI1, DL.nd0, DL.nd1, DL.atI2, DL.ixN_b, DL.ixN_1, DL.ixN_2, DL.wipeE, DL.restE, DL.ownFree, Option.map_some, Option.isSome_some, DL.put_o, DL.put_b, DL.val_o, DL.val_b, DL.val_d, DL.ends, List.map_cons, List.map_nil, List.cons_append, List.nil_append, List.length_cons, List.length_nil, List.set_cons_zero, List.set_cons_succ, List.set_nil, List.replicate_zero, List.replicate_succ, List.all_cons, List.all_nil, Bool.and_true, Bool.and_self, true_and, and_true, and_self, Nat.reduceAdd, Nat.reduceLT, Nat.reduceLeDiff, Nat.reduceSub, Nat.zero_le, Nat.zero_add, lap_i h hp st0]
    have hw : (fac ls p l).2 ≤ 2 ^ 30 := Nat.le_trans (Nat.div_le_self _ _) (Nat.pow_le_pow_right (by decide) (by omega))
    exact ⟨mul_r (by omega) (by omega), mul_r (by omega) (by omega), fun z => absurd t (by omega), fun _ => ⟨_, rfl⟩⟩
  · obtain ⟨y, rfl⟩ := he
    have e29 : (1 : Int) * 2 ^ Int.toNat 29 = 536870912 := by decide
    have hl9 : ∀ {Q : SV → List D → Prop} {E : Str → List (Str × D) → List D → Prop}, FW (mf_lap_tick [.d (.lst (ls.map nD)), .d (nD p), .d (.int 536870912)]) Q E = Q (.d (.int (T ls p l 536870912))) [] := lap_i h hp (by omega)
    have t := T_ge h hp
    have e2 : (2 : Int) ^ 29 = 536870912 := by decide
    rw [e2] at t
    have hw : (fac ls p l).2 ≤ 2 ^ 30 := Nat.le_trans (Nat.div_le_self _ _) (Nat.pow_le_pow_right (by decide) (by omega))
    simp only [DL.SW_nx, DL.SW_rt, DL.SW_pass, DL.SW_brk, DL.SW_cnt, DL.SW_seq, DL.SW_drop, DL.SW_set, DL.SW_ret, DL.SW_ifS, DL.SW_asg, DL.SW_par2, DL.SW_par3, DL.SW_aug, DL.SW_raise, DL.SW_setIx, DL.SW_for, DL.SW_for0, DL.SW_forS, DL.SW_while, DL.OW_ok, DL.OW_no, DL.OW_var, DL.OW_c, DL.OW_fz, DL.OW_fa, DL.OW_faO_v, DL.OW_faO_f, DL.OW_faO_s, DL.OW_bin, DL.OW_un, DL.OW_tr, DL.OW_te, DL.OW_notT, DL.OW_andT, DL.OW_orT, DL.OW_and, DL.OW_or, DL.OW_not, DL.OW_if, DL.OW_nil, DL.OW_cons, DL.OW_lst, DL.OW_tup, DL.OW_chain, DL.OW_oNo, DL.OW_oSo, DL.OW_sl, DL.OW_new, DL.OW_newO_v, DL.OW_newO_f, DL.OW_newO_s, DL.OW_retO_v, DL.OW_retO_f, DL.OW_retO_s, DL.OW_nNil, DL.OW_nCons, DL.OW_call, DL.OW_iNil, DL.OW_iCons, DL.OW_iLnd, DL.OW_gI, DL.OW_itF, DL.OW_it, DL.OW_rng1, DL.OW_rng2, DL.OW_zipK, DL.OW_enum, DL.OW_enumV, DL.OW_lc, DL.OW_yes, DL.SL_d, DL.SL_o, DL.SL_b, DL.SF_d, DL.SF_o, DL.SRt_d, DL.SRt_o, DL.TB_v, DL.TI_i, DL.L2_2, DL.L3_3, DL.SI_i, DL.SX_o, DL.SX_b, DL.IF_t, DL.IF_f, reduceCtorEq, DL.isi_int_int, DL.isi_int_bl, DL.isi_int_str, DL.isi_int_lst, DL.isi_int_tup, DL.isi_int_non, DL.isi_bool_int, DL.isi_bool_bl, DL.isi_bool_str, DL.isi_bool_lst, DL.isi_bool_tup, DL.isi_bool_non, DL.isi_str_int, DL.isi_str_bl, DL.isi_str_str, DL.isi_str_lst, DL.isi_str_tup, DL.isi_str_non, DL.isi_list_int, DL.isi_list_bl, DL.isi_list_str, DL.isi_list_lst, DL.isi_list_tup, DL.isi_list_non, DL.isi_tuple_int, DL.isi_tuple_bl, DL.isi_tuple_str, DL.isi_tuple_lst, DL.isi_tuple_tup, DL.isi_tuple_non, DL.isi2_int, DL.isi2_bl, DL.isi2_str, DL.isi2_lst, DL.isi2_tup, DL.isi2_non, DL.OB_tuple_l, DL.OB_tuple_t, DL.OB_list_l, DL.OB_list_t, DL.OB_sum, DL.OB_all, DL.OB_any, DL.bls_nil, DL.bls_cons, DL.blsOf_map, DL.ints_nil, DL.ints_cons, DL.intsOf_map, DL.OB_map, DL.OW_lc0, DL.OW_lcY, id, List.all_map, DL.tru_bl, DL.tru_int, DL.tru_lst, DL.tru_tup, DL.tru_non, DL.IF_n, DL.IF_d, DL.OB_some, DL.OB_none, DL.OB_ite, DL.fzT_v, DL.fzT_f, DL.fzT_s, DL.dr_v, DL.dr_f, DL.dr_s, DL.slot_z, DL.slot_s, DL.Sc_v, DL.Sc_s, DL.argsSV_nil, DL.argsSV_d, DL.argsSV_i', DL.SMt_o, DL.SMt_b, DL.pb_nil, DL.pb_nil2, DL.pb_cons, DL.SPt_o, DL.SPt_b, DL.retT_d, DL.retT_o, DL.lS_nil, DL.lS_d, DL.lS_i, DL.lP_nil, DL.lP_d, DL.lP_i, DL.SVl_d, DL.SVl_o, DL.SVl_b, DL.backOf_nil, DL.backOf_cons, DL.sqOf_l, DL.sqOf_t, DL.seqD_l, DL.seqD_t, DL.items_l, DL.items_t, DL.srcOk_n, DL.OB_gN, DL.OB_gK, DL.OB_gCons, DL.OB_gNil, DL.OB_add, DL.OB_sub, DL.OB_mul, DL.OB_mulL, DL.OB_fdiv, DL.OB_mod, DL.OB_pow, DL.OB_shl, DL.OB_bits, DL.OB_sl_l, DL.OB_sl_f, DL.OB_neg, DL.OB_lt, DL.OB_le, DL.OB_gt, DL.OB_ge, DL.OB_eq, DL.OB_ne, DL.eqB_int, DL.eqB_str, DL.OB_is, DL.OB_isn, DL.OB_len_l, DL.OB_len_t, DL.OB_abs, DL.OB_int, DL.OB_intb, DL.OB_ix_l, DL.OB_ix_t, DL.OB_gcd, DL.OB_lcm, DL.OB_max2, DL.OB_min2, DL.isNon, false_implies, implies_true, DL.rng_len, DL.enum_len, DL.zip_len, Int.toNat_natCast, DL.atI0, DL.atI1, DL.nd0, DL.nd1, DL.atI2, DL.ixN_b, DL.ixN_1, DL.ixN_2, DL.wipeE, DL.restE, DL.ownFree, Option.map_some, Option.isSome_some, DL.put_o, DL.put_b, DL.val_o, DL.val_b, DL.val_d, DL.ends, List.map_cons, List.map_nil, List.cons_append, List.nil_append, List.length_cons, List.length_nil, List.set_cons_zero, List.set_cons_succ, List.set_nil, List.replicate_zero, List.replicate_succ, List.all_cons, List.all_nil, Bool.and_true, Bool.and_self, true_and, and_true, and_self, Nat.reduceAdd, Nat.reduceLT, Nat.reduceLeDiff, Nat.reduceSub, Nat.zero_le, Nat.zero_add]
    rw [e29]
    simp only [DL.SW_nx, DL.SW_rt, DL.SW_pass, DL.SW_brk, DL.SW_cnt, DL.SW_seq, DL.SW_drop, DL.SW_set, DL.SW_ret, DL.SW_ifS, DL.SW_asg, DL.SW_par2, DL.SW_par3, DL.SW_aug, DL.SW_raise, DL.SW_setIx, DL.SW_for, DL.SW_for0, DL.SW_forS, DL.SW_while, DL.OW_ok, DL.OW_no, DL.OW_var, DL.OW_c, DL.OW_fz, DL.OW_fa, DL.OW_faO_v, DL.OW_faO_f, DL.OW_faO_s, DL.OW_bin, DL.OW_un, DL.OW_tr, DL.OW_te, DL.OW_notT, DL.OW_andT, DL.OW_orT, DL.OW_and, DL.OW_or, DL.OW_not, DL.OW_if, DL.OW_nil, DL.OW_cons, DL.OW_lst, DL.OW_tup, DL.OW_chain, DL.OW_oNo, DL.OW_oSo, DL.OW_sl, DL.OW_new, DL.OW_newO_v, DL.OW_newO_f, DL.OW_newO_s, DL.OW_retO_v, DL.OW_retO_f, DL.OW_retO_s, DL.OW_nNil, DL.OW_nCons, DL.OW_call, DL.OW_iNil, DL.OW_iCons, DL.OW_iLnd, DL.OW_gI, DL.OW_itF, DL.OW_it, DL.OW_rng1, DL.OW_rng2, DL.OW_zipK, DL.OW_enum, DL.OW_enumV, DL.OW_lc, DL.OW_yes, DL.SL_d, DL.SL_o, DL.SL_b, DL.SF_d, DL.SF_o, DL.SRt_d, DL.SRt_o, DL.TB_v, DL.TI_i, DL.L2_2, DL.L3_3, DL.SI_i, DL.SX_o, DL.SX_b, DL.IF_t, DL.IF_f, reduceCtorEq, DL.isi_int_int, DL.isi_int_bl, DL.isi_int_str, DL.isi_int_lst, DL.isi_int_tup, DL.isi_int_non, DL.isi_bool_int, DL.isi_bool_bl, DL.isi_bool_str, DL.isi_bool_lst, DL.isi_bool_tup, DL.isi_bool_non, DL.isi_str_int, DL.isi_str_bl, DL.isi_str_str, DL.isi_str_lst, DL.isi_str_tup, DL.isi_str_non, DL.isi_list_int, DL.isi_list_bl, DL.isi_list_str, DL.isi_list_lst, DL.isi_list_tup, DL.isi_list_non, DL.isi_tuple_int, DL.isi_tuple_bl, DL.isi_tuple_str, DL.isi_tuple_lst, DL.isi_tuple_tup, DL.isi_tuple_non, DL.isi2_int, DL.isi2_bl, DL.isi2_str, DL.isi2_lst, DL.isi2_tup, DL.isi2_non, DL.OB_tuple_l, DL.OB_tuple_t, DL.OB_list_l, DL.OB_list_t, DL.OB_sum, DL.OB_all, DL.OB_any, DL.bls_nil, DL.bls_cons, DL.blsOf_map, DL.ints_nil, DL.ints_cons, DL.intsOf_map, DL.OB_map, DL.OW_lc0, DL.OW_lcY, id, List.all_map, DL.tru_bl, DL.tru_int, DL.tru_lst, DL.tru_tup, DL.tru_non, DL.IF_n, DL.IF_d, DL.OB_some, DL.OB_none, DL.OB_ite, DL.fzT_v, DL.fzT_f, DL.fzT_s, DL.dr_v, DL.dr_f, DL.dr_s, DL.slot_z, DL.slot_s, DL.Sc_v, DL.Sc_s, DL.argsSV_nil, DL.argsSV_d, DL.argsSV_i', DL.SMt_o, DL.SMt_b, DL.pb_nil, DL.pb_nil2, DL.pb_cons, DL.SPt_o, DL.SPt_b, DL.retT_d, DL.retT_o, DL.lS_nil, DL.lS_d, DL.lS_i, DL.lP_nil, DL.lP_d, DL.lP_i, DL.SVl_d, DL.SVl_o, DL.SVl_b, DL.backOf_nil, DL.backOf_cons, DL.sqOf_l, DL.sqOf_t, DL.seqD_l, DL.seqD_t, DL.items_l, DL.items_t, DL.srcOk_n, DL.OB_gN, DL.OB_gK, DL.OB_gCons, DL.OB_gNil, DL.OB_add, DL.OB_sub, DL.OB_mul, DL.OB_mulL, DL.OB_fdiv, DL.OB_mod, DL.OB_pow, DL.OB_shl, DL.OB_bits, DL.OB_sl_l, DL.OB_sl_f, DL.OB_neg, DL.OB_lt, DL.OB_le, DL.OB_gt, DL.OB_ge, DL.OB_eq, DL.OB_ne, DL.eqB_int, DL.eqB_str, DL.OB_is, DL.OB_isn, DL.OB_len_l, DL.OB_len_t, DL.OB_abs, DL.OB_int, DL.OB_intb, DL.OB_ix_l, DL.OB_ix_t, DL.OB_gcd, DL.OB_lcm, DL.OB_max2, DL.OB_min2, DL.isNon, false_implies, implies_true, DL.rng_len, DL.enum_len, DL.zip_len, Int.toNat_natCast, DL.atI0, DL.atI1, DL.nd0, DL.nd1, DL.atI2, DL.ixN_b, DL.ixN_1, DL.ixN_2, DL.wipeE, DL.restE, DL.ownFree, Option.map_some, Option.isSome_some, DL.put_o, DL.put_b, DL.val_o, DL.val_b, DL.val_d, DL.ends, List.map_cons, List.map_nil, List.cons_append, List.nil_append, List.length_cons, List.length_nil, List.set_cons_zero, List.set_cons_succ, List.set_nil, List.replicate_zero, List.replicate_succ, List.all_cons, List.all_nil, Bool.and_true, Bool.and_self, true_and, and_true, and_self, Nat.reduceAdd, Nat.reduceLT, Nat.reduceLeDiff, Nat.reduceSub, Nat.zero_le, Nat.zero_add, hl9]
    refine ⟨pw_ok (by decide) (by decide) (by decide) (by decide), mul_r (by omega) (by omega), mul_r (by omega) (by omega), ?_⟩
    rw [List.length_map, decide_eq_true t]
    exact q _ h2
theorem no_lengths_ok {x : D} (hx : ∀ {Q : SV → List D → Prop} {E : Str → List (Str × D) → List D → Prop}, FW (mf_is_row_within [.d x, .d (.int 40), .d (.int 1), .d (.int 30)]) Q E = Q (.d (.bl false)) []) : FW (mf__law_no_lengths [.d x]) Q E = Q (.d (.str "lengths")) [] := by
  have hf : ∀ {Q : SV → List D → Prop} {E : Str → List (Str × D) → List D → Prop}, FW (mf_lap_factors [.d x]) Q E = E "BadNumber" [("part", .str "lengths")] [] := by
    intro Q E
    unfold mf_lap_factors
    rw [FW_run]
    unfold m_lap_factors
    simp only [show N_lap_factors.length = 7 from rfl]
    simp only [DL.SW_nx, DL.SW_rt, DL.SW_pass, DL.SW_brk, DL.SW_cnt, DL.SW_seq, DL.SW_drop, DL.SW_set, DL.SW_ret, DL.SW_ifS, DL.SW_asg, DL.SW_par2, DL.SW_par3, DL.SW_aug, DL.SW_raise, DL.SW_setIx, DL.SW_for, DL.SW_for0, DL.SW_forS, DL.SW_while, DL.OW_ok, DL.OW_no, DL.OW_var, DL.OW_c, DL.OW_fz, DL.OW_fa, DL.OW_faO_v, DL.OW_faO_f, DL.OW_faO_s, DL.OW_bin, DL.OW_un, DL.OW_tr, DL.OW_te, DL.OW_notT, DL.OW_andT, DL.OW_orT, DL.OW_and, DL.OW_or, DL.OW_not, DL.OW_if, DL.OW_nil, DL.OW_cons, DL.OW_lst, DL.OW_tup, DL.OW_chain, DL.OW_oNo, DL.OW_oSo, DL.OW_sl, DL.OW_new, DL.OW_newO_v, DL.OW_newO_f, DL.OW_newO_s, DL.OW_retO_v, DL.OW_retO_f, DL.OW_retO_s, DL.OW_nNil, DL.OW_nCons, DL.OW_call, DL.OW_iNil, DL.OW_iCons, DL.OW_iLnd, DL.OW_gI, DL.OW_itF, DL.OW_it, DL.OW_rng1, DL.OW_rng2, DL.OW_zipK, DL.OW_enum, DL.OW_enumV, DL.OW_lc, DL.OW_yes, DL.SL_d, DL.SL_o, DL.SL_b, DL.SF_d, DL.SF_o, DL.SRt_d, DL.SRt_o, DL.TB_v, DL.TI_i, DL.L2_2, DL.L3_3, DL.SI_i, DL.SX_o, DL.SX_b, DL.IF_t, DL.IF_f, reduceCtorEq, DL.isi_int_int, DL.isi_int_bl, DL.isi_int_str, DL.isi_int_lst, DL.isi_int_tup, DL.isi_int_non, DL.isi_bool_int, DL.isi_bool_bl, DL.isi_bool_str, DL.isi_bool_lst, DL.isi_bool_tup, DL.isi_bool_non, DL.isi_str_int, DL.isi_str_bl, DL.isi_str_str, DL.isi_str_lst, DL.isi_str_tup, DL.isi_str_non, DL.isi_list_int, DL.isi_list_bl, DL.isi_list_str, DL.isi_list_lst, DL.isi_list_tup, DL.isi_list_non, DL.isi_tuple_int, DL.isi_tuple_bl, DL.isi_tuple_str, DL.isi_tuple_lst, DL.isi_tuple_tup, DL.isi_tuple_non, DL.isi2_int, DL.isi2_bl, DL.isi2_str, DL.isi2_lst, DL.isi2_tup, DL.isi2_non, DL.OB_tuple_l, DL.OB_tuple_t, DL.OB_list_l, DL.OB_list_t, DL.OB_sum, DL.OB_all, DL.OB_any, DL.bls_nil, DL.bls_cons, DL.blsOf_map, DL.ints_nil, DL.ints_cons, DL.intsOf_map, DL.OB_map, DL.OW_lc0, DL.OW_lcY, id, List.all_map, DL.tru_bl, DL.tru_int, DL.tru_lst, DL.tru_tup, DL.tru_non, DL.IF_n, DL.IF_d, DL.OB_some, DL.OB_none, DL.OB_ite, DL.fzT_v, DL.fzT_f, DL.fzT_s, DL.dr_v, DL.dr_f, DL.dr_s, DL.slot_z, DL.slot_s, DL.Sc_v, DL.Sc_s, DL.argsSV_nil, DL.argsSV_d, DL.argsSV_i', DL.SMt_o, DL.SMt_b, DL.pb_nil, DL.pb_nil2, DL.pb_cons, DL.SPt_o, DL.SPt_b, DL.retT_d, DL.retT_o, DL.lS_nil, DL.lS_d, DL.lS_i, DL.lP_nil, DL.lP_d, DL.lP_i, DL.SVl_d, DL.SVl_o, DL.SVl_b, DL.backOf_nil, DL.backOf_cons, DL.sqOf_l, DL.sqOf_t, DL.seqD_l, DL.seqD_t, DL.items_l, DL.items_t, DL.srcOk_n, DL.OB_gN, DL.OB_gK, DL.OB_gCons, DL.OB_gNil, DL.OB_add, DL.OB_sub, DL.OB_mul, DL.OB_mulL, DL.OB_fdiv, DL.OB_mod, DL.OB_pow, DL.OB_shl, DL.OB_bits, DL.OB_sl_l, DL.OB_sl_f, DL.OB_neg, DL.OB_lt, DL.OB_le, DL.OB_gt, DL.OB_ge, DL.OB_eq, DL.OB_ne, DL.eqB_int, DL.eqB_str, DL.OB_is, DL.OB_isn, DL.OB_len_l, DL.OB_len_t, DL.OB_abs, DL.OB_int, DL.OB_intb, DL.OB_ix_l, DL.OB_ix_t, DL.OB_gcd, DL.OB_lcm, DL.OB_max2, DL.OB_min2, DL.isNon, false_implies, implies_true, DL.rng_len, DL.enum_len, DL.zip_len, Int.toNat_natCast, DL.atI0, DL.atI1, DL.nd0, DL.nd1, DL.atI2, DL.ixN_b, DL.ixN_1, DL.ixN_2, DL.wipeE, DL.restE, DL.ownFree, Option.map_some, Option.isSome_some, DL.put_o, DL.put_b, DL.val_o, DL.val_b, DL.val_d, DL.ends, List.map_cons, List.map_nil, List.cons_append, List.nil_append, List.length_cons, List.length_nil, List.set_cons_zero, List.set_cons_succ, List.set_nil, List.replicate_zero, List.replicate_succ, List.all_cons, List.all_nil, Bool.and_true, Bool.and_self, true_and, and_true, and_self, Nat.reduceAdd, Nat.reduceLT, Nat.reduceLeDiff, Nat.reduceSub, Nat.zero_le, Nat.zero_add, need_lengths_x hx]
  unfold mf__law_no_lengths
  rw [FW_run]
  unfold m__law_no_lengths
  simp only [show N__law_no_lengths.length = 3 from rfl]
  simp only [DL.SW_nx, DL.SW_rt, DL.SW_pass, DL.SW_brk, DL.SW_cnt, DL.SW_seq, DL.SW_drop, DL.SW_set, DL.SW_ret, DL.SW_ifS, DL.SW_asg, DL.SW_par2, DL.SW_par3, DL.SW_aug, DL.SW_raise, DL.SW_setIx, DL.SW_for, DL.SW_for0, DL.SW_forS, DL.SW_while, DL.OW_ok, DL.OW_no, DL.OW_var, DL.OW_c, DL.OW_fz, DL.OW_fa, DL.OW_faO_v, DL.OW_faO_f, DL.OW_faO_s, DL.OW_bin, DL.OW_un, DL.OW_tr, DL.OW_te, DL.OW_notT, DL.OW_andT, DL.OW_orT, DL.OW_and, DL.OW_or, DL.OW_not, DL.OW_if, DL.OW_nil, DL.OW_cons, DL.OW_lst, DL.OW_tup, DL.OW_chain, DL.OW_oNo, DL.OW_oSo, DL.OW_sl, DL.OW_new, DL.OW_newO_v, DL.OW_newO_f, DL.OW_newO_s, DL.OW_retO_v, DL.OW_retO_f, DL.OW_retO_s, DL.OW_nNil, DL.OW_nCons, DL.OW_call, DL.OW_iNil, DL.OW_iCons, DL.OW_iLnd, DL.OW_gI, DL.OW_itF, DL.OW_it, DL.OW_rng1, DL.OW_rng2, DL.OW_zipK, DL.OW_enum, DL.OW_enumV, DL.OW_lc, DL.OW_yes, DL.SL_d, DL.SL_o, DL.SL_b, DL.SF_d, DL.SF_o, DL.SRt_d, DL.SRt_o, DL.TB_v, DL.TI_i, DL.L2_2, DL.L3_3, DL.SI_i, DL.SX_o, DL.SX_b, DL.IF_t, DL.IF_f, reduceCtorEq, DL.isi_int_int, DL.isi_int_bl, DL.isi_int_str, DL.isi_int_lst, DL.isi_int_tup, DL.isi_int_non, DL.isi_bool_int, DL.isi_bool_bl, DL.isi_bool_str, DL.isi_bool_lst, DL.isi_bool_tup, DL.isi_bool_non, DL.isi_str_int, DL.isi_str_bl, DL.isi_str_str, DL.isi_str_lst, DL.isi_str_tup, DL.isi_str_non, DL.isi_list_int, DL.isi_list_bl, DL.isi_list_str, DL.isi_list_lst, DL.isi_list_tup, DL.isi_list_non, DL.isi_tuple_int, DL.isi_tuple_bl, DL.isi_tuple_str, DL.isi_tuple_lst, DL.isi_tuple_tup, DL.isi_tuple_non, DL.isi2_int, DL.isi2_bl, DL.isi2_str, DL.isi2_lst, DL.isi2_tup, DL.isi2_non, DL.OB_tuple_l, DL.OB_tuple_t, DL.OB_list_l, DL.OB_list_t, DL.OB_sum, DL.OB_all, DL.OB_any, DL.bls_nil, DL.bls_cons, DL.blsOf_map, DL.ints_nil, DL.ints_cons, DL.intsOf_map, DL.OB_map, DL.OW_lc0, DL.OW_lcY, id, List.all_map, DL.tru_bl, DL.tru_int, DL.tru_lst, DL.tru_tup, DL.tru_non, DL.IF_n, DL.IF_d, DL.OB_some, DL.OB_none, DL.OB_ite, DL.fzT_v, DL.fzT_f, DL.fzT_s, DL.dr_v, DL.dr_f, DL.dr_s, DL.slot_z, DL.slot_s, DL.Sc_v, DL.Sc_s, DL.argsSV_nil, DL.argsSV_d, DL.argsSV_i', DL.SMt_o, DL.SMt_b, DL.pb_nil, DL.pb_nil2, DL.pb_cons, DL.SPt_o, DL.SPt_b, DL.retT_d, DL.retT_o, DL.lS_nil, DL.lS_d, DL.lS_i, DL.lP_nil, DL.lP_d, DL.lP_i, DL.SVl_d, DL.SVl_o, DL.SVl_b, DL.backOf_nil, DL.backOf_cons, DL.sqOf_l, DL.sqOf_t, DL.seqD_l, DL.seqD_t, DL.items_l, DL.items_t, DL.srcOk_n, DL.OB_gN, DL.OB_gK, DL.OB_gCons, DL.OB_gNil, DL.OB_add, DL.OB_sub, DL.OB_mul, DL.OB_mulL, DL.OB_fdiv, DL.OB_mod, DL.OB_pow, DL.OB_shl, DL.OB_bits, DL.OB_sl_l, DL.OB_sl_f, DL.OB_neg, DL.OB_lt, DL.OB_le, DL.OB_gt, DL.OB_ge, DL.OB_eq, DL.OB_ne, DL.eqB_int, DL.eqB_str, DL.OB_is, DL.OB_isn, DL.OB_len_l, DL.OB_len_t, DL.OB_abs, DL.OB_int, DL.OB_intb, DL.OB_ix_l, DL.OB_ix_t, DL.OB_gcd, DL.OB_lcm, DL.OB_max2, DL.OB_min2, DL.isNon, false_implies, implies_true, DL.rng_len, DL.enum_len, DL.zip_len, Int.toNat_natCast, DL.atI0, DL.atI1, DL.nd0, DL.nd1, DL.atI2, DL.ixN_b, DL.ixN_1, DL.ixN_2, DL.wipeE, DL.restE, DL.ownFree, Option.map_some, Option.isSome_some, DL.put_o, DL.put_b, DL.val_o, DL.val_b, DL.val_d, DL.ends, List.map_cons, List.map_nil, List.cons_append, List.nil_append, List.length_cons, List.length_nil, List.set_cons_zero, List.set_cons_succ, List.set_nil, List.replicate_zero, List.replicate_succ, List.all_cons, List.all_nil, Bool.and_true, Bool.and_self, true_and, and_true, and_self, Nat.reduceAdd, Nat.reduceLT, Nat.reduceLeDiff, Nat.reduceSub, Nat.zero_le, Nat.zero_add, SW_trySet, hf]
  rw [if_pos trivial]
  rfl
end
end K61
set_option Elab.async false
set_option linter.all false
set_option maxRecDepth 100000
set_option maxHeartbeats 4000000
set_option exponentiation.threshold 20000
namespace K61
open PySem PySem.Spec PyProof.Rows L2 Own DL
section
variable {Q : SV → List D → Prop} {E : Str → List (Str × D) → List D → Prop}
theorem cut_ints {ns : List Int} {lo hi : Option Int} : ∃ ms : List Int, DL.cutD (ns.map D.int) lo hi = ms.map D.int := by
  unfold DL.cutD
  rw [← List.map_drop, ← List.map_take]
  exact ⟨_, rfl⟩
theorem till_ok {ns : List Int} (hn : ns.length ≤ 63) (q : ∀ d, Nt 0 d → Q (.o d) []) : FW (mf__law_sower [.d (.lsf (ns.map D.int))]) Q E := by
  unfold mf__law_sower
  rw [FW_run]
  unfold m__law_sower
  simp only [show N__law_sower.length = 2 from rfl]
  simp only [DL.SW_nx, DL.SW_rt, DL.SW_pass, DL.SW_brk, DL.SW_cnt, DL.SW_seq, DL.SW_drop, DL.SW_set, DL.SW_ret, DL.SW_ifS, DL.SW_asg, DL.SW_par2, DL.SW_par3, DL.SW_aug, DL.SW_raise, DL.SW_setIx, DL.SW_for, DL.SW_for0, DL.SW_forS, DL.SW_while, DL.OW_ok, DL.OW_no, DL.OW_var, DL.OW_c, DL.OW_fz, DL.OW_fa, DL.OW_faO_v, DL.OW_faO_f, DL.OW_faO_s, DL.OW_bin, DL.OW_un, DL.OW_tr, DL.OW_te, DL.OW_notT, DL.OW_andT, DL.OW_orT, DL.OW_and, DL.OW_or, DL.OW_not, DL.OW_if, DL.OW_nil, DL.OW_cons, DL.OW_lst, DL.OW_tup, DL.OW_chain, DL.OW_oNo, DL.OW_oSo, DL.OW_sl, DL.OW_new, DL.OW_newO_v, DL.OW_newO_f, DL.OW_newO_s, DL.OW_retO_v, DL.OW_retO_f, DL.OW_retO_s, DL.OW_nNil, DL.OW_nCons, DL.OW_call, DL.OW_iNil, DL.OW_iCons, DL.OW_iLnd, DL.OW_gI, DL.OW_itF, DL.OW_it, DL.OW_rng1, DL.OW_rng2, DL.OW_zipK, DL.OW_enum, DL.OW_enumV, DL.OW_lc, DL.OW_yes, DL.SL_d, DL.SL_o, DL.SL_b, DL.SF_d, DL.SF_o, DL.SRt_d, DL.SRt_o, DL.TB_v, DL.TI_i, DL.L2_2, DL.L3_3, DL.SI_i, DL.SX_o, DL.SX_b, DL.IF_t, DL.IF_f, reduceCtorEq, DL.isi_int_int, DL.isi_int_bl, DL.isi_int_str, DL.isi_int_lst, DL.isi_int_tup, DL.isi_int_non, DL.isi_bool_int, DL.isi_bool_bl, DL.isi_bool_str, DL.isi_bool_lst, DL.isi_bool_tup, DL.isi_bool_non, DL.isi_str_int, DL.isi_str_bl, DL.isi_str_str, DL.isi_str_lst, DL.isi_str_tup, DL.isi_str_non, DL.isi_list_int, DL.isi_list_bl, DL.isi_list_str, DL.isi_list_lst, DL.isi_list_tup, DL.isi_list_non, DL.isi_tuple_int, DL.isi_tuple_bl, DL.isi_tuple_str, DL.isi_tuple_lst, DL.isi_tuple_tup, DL.isi_tuple_non, DL.isi2_int, DL.isi2_bl, DL.isi2_str, DL.isi2_lst, DL.isi2_tup, DL.isi2_non, DL.OB_tuple_l, DL.OB_tuple_t, DL.OB_list_l, DL.OB_list_t, DL.OB_sum, DL.OB_all, DL.OB_any, DL.bls_nil, DL.bls_cons, DL.blsOf_map, DL.ints_nil, DL.ints_cons, DL.intsOf_map, DL.OB_map, DL.OW_lc0, DL.OW_lcY, id, List.all_map, DL.tru_bl, DL.tru_int, DL.tru_lst, DL.tru_tup, DL.tru_non, DL.IF_n, DL.IF_d, DL.OB_some, DL.OB_none, DL.OB_ite, DL.fzT_v, DL.fzT_f, DL.fzT_s, DL.dr_v, DL.dr_f, DL.dr_s, DL.slot_z, DL.slot_s, DL.Sc_v, DL.Sc_s, DL.argsSV_nil, DL.argsSV_d, DL.argsSV_i', DL.SMt_o, DL.SMt_b, DL.pb_nil, DL.pb_nil2, DL.pb_cons, DL.SPt_o, DL.SPt_b, DL.retT_d, DL.retT_o, DL.lS_nil, DL.lS_d, DL.lS_i, DL.lP_nil, DL.lP_d, DL.lP_i, DL.SVl_d, DL.SVl_o, DL.SVl_b, DL.backOf_nil, DL.backOf_cons, DL.sqOf_l, DL.sqOf_t, DL.seqD_l, DL.seqD_t, DL.items_l, DL.items_t, DL.srcOk_n, DL.OB_gN, DL.OB_gK, DL.OB_gCons, DL.OB_gNil, DL.OB_add, DL.OB_sub, DL.OB_mul, DL.OB_mulL, DL.OB_fdiv, DL.OB_mod, DL.OB_pow, DL.OB_shl, DL.OB_bits, DL.OB_sl_l, DL.OB_sl_f, DL.OB_neg, DL.OB_lt, DL.OB_le, DL.OB_gt, DL.OB_ge, DL.OB_eq, DL.OB_ne, DL.eqB_int, DL.eqB_str, DL.OB_is, DL.OB_isn, DL.OB_len_l, DL.OB_len_t, DL.OB_abs, DL.OB_int, DL.OB_intb, DL.OB_ix_l, DL.OB_ix_t, DL.OB_gcd, DL.OB_lcm, DL.OB_max2, DL.OB_min2, DL.isNon, false_implies, implies_true, DL.rng_len, DL.enum_len, DL.zip_len, Int.toNat_natCast, DL.atI0, DL.atI1, DL.nd0, DL.nd1, DL.atI2, DL.ixN_b, DL.ixN_1, DL.ixN_2, DL.wipeE, DL.restE, DL.ownFree, Option.map_some, Option.isSome_some, DL.put_o, DL.put_b, DL.val_o, DL.val_b, DL.val_d, DL.ends, List.map_cons, List.map_nil, List.cons_append, List.nil_append, List.length_cons, List.length_nil, List.set_cons_zero, List.set_cons_succ, List.set_nil, List.replicate_zero, List.replicate_succ, List.all_cons, List.all_nil, Bool.and_true, Bool.and_self, true_and, and_true, and_self, Nat.reduceAdd, Nat.reduceLT, Nat.reduceLeDiff, Nat.reduceSub, Nat.zero_le, Nat.zero_add]
  obtain ⟨ms, hms⟩ := cut_ints (ns := ns) (lo := none) (hi := some 60)
  have hl : (DL.cutD (ns.map D.int) none (some 60)).length ≤ 63 := by
    unfold DL.cutD
    rw [List.length_take, List.length_drop, List.length_map]
    omega
  rw [hms] at hl ⊢
  refine ⟨by omega, ?_⟩
  refine OW_lcP (fun x => x) _ _ (fun x hx => ?_) ?_
  · obtain ⟨i, hi, rfl⟩ := List.mem_map.mp hx
    simp only [DL.SW_nx, DL.SW_rt, DL.SW_pass, DL.SW_brk, DL.SW_cnt, DL.SW_seq, DL.SW_drop, DL.SW_set, DL.SW_ret, DL.SW_ifS, DL.SW_asg, DL.SW_par2, DL.SW_par3, DL.SW_aug, DL.SW_raise, DL.SW_setIx, DL.SW_for, DL.SW_for0, DL.SW_forS, DL.SW_while, DL.OW_ok, DL.OW_no, DL.OW_var, DL.OW_c, DL.OW_fz, DL.OW_fa, DL.OW_faO_v, DL.OW_faO_f, DL.OW_faO_s, DL.OW_bin, DL.OW_un, DL.OW_tr, DL.OW_te, DL.OW_notT, DL.OW_andT, DL.OW_orT, DL.OW_and, DL.OW_or, DL.OW_not, DL.OW_if, DL.OW_nil, DL.OW_cons, DL.OW_lst, DL.OW_tup, DL.OW_chain, DL.OW_oNo, DL.OW_oSo, DL.OW_sl, DL.OW_new, DL.OW_newO_v, DL.OW_newO_f, DL.OW_newO_s, DL.OW_retO_v, DL.OW_retO_f, DL.OW_retO_s, DL.OW_nNil, DL.OW_nCons, DL.OW_call, DL.OW_iNil, DL.OW_iCons, DL.OW_iLnd, DL.OW_gI, DL.OW_itF, DL.OW_it, DL.OW_rng1, DL.OW_rng2, DL.OW_zipK, DL.OW_enum, DL.OW_enumV, DL.OW_lc, DL.OW_yes, DL.SL_d, DL.SL_o, DL.SL_b, DL.SF_d, DL.SF_o, DL.SRt_d, DL.SRt_o, DL.TB_v, DL.TI_i, DL.L2_2, DL.L3_3, DL.SI_i, DL.SX_o, DL.SX_b, DL.IF_t, DL.IF_f, reduceCtorEq, DL.isi_int_int, DL.isi_int_bl, DL.isi_int_str, DL.isi_int_lst, DL.isi_int_tup, DL.isi_int_non, DL.isi_bool_int, DL.isi_bool_bl, DL.isi_bool_str, DL.isi_bool_lst, DL.isi_bool_tup, DL.isi_bool_non, DL.isi_str_int, DL.isi_str_bl, DL.isi_str_str, DL.isi_str_lst, DL.isi_str_tup, DL.isi_str_non, DL.isi_list_int, DL.isi_list_bl, DL.isi_list_str, DL.isi_list_lst, DL.isi_list_tup, DL.isi_list_non, DL.isi_tuple_int, DL.isi_tuple_bl, DL.isi_tuple_str, DL.isi_tuple_lst, DL.isi_tuple_tup, DL.isi_tuple_non, DL.isi2_int, DL.isi2_bl, DL.isi2_str, DL.isi2_lst, DL.isi2_tup, DL.isi2_non, DL.OB_tuple_l, DL.OB_tuple_t, DL.OB_list_l, DL.OB_list_t, DL.OB_sum, DL.OB_all, DL.OB_any, DL.bls_nil, DL.bls_cons, DL.blsOf_map, DL.ints_nil, DL.ints_cons, DL.intsOf_map, DL.OB_map, DL.OW_lc0, DL.OW_lcY, id, List.all_map, DL.tru_bl, DL.tru_int, DL.tru_lst, DL.tru_tup, DL.tru_non, DL.IF_n, DL.IF_d, DL.OB_some, DL.OB_none, DL.OB_ite, DL.fzT_v, DL.fzT_f, DL.fzT_s, DL.dr_v, DL.dr_f, DL.dr_s, DL.slot_z, DL.slot_s, DL.Sc_v, DL.Sc_s, DL.argsSV_nil, DL.argsSV_d, DL.argsSV_i', DL.SMt_o, DL.SMt_b, DL.pb_nil, DL.pb_nil2, DL.pb_cons, DL.SPt_o, DL.SPt_b, DL.retT_d, DL.retT_o, DL.lS_nil, DL.lS_d, DL.lS_i, DL.lP_nil, DL.lP_d, DL.lP_i, DL.SVl_d, DL.SVl_o, DL.SVl_b, DL.backOf_nil, DL.backOf_cons, DL.sqOf_l, DL.sqOf_t, DL.seqD_l, DL.seqD_t, DL.items_l, DL.items_t, DL.srcOk_n, DL.OB_gN, DL.OB_gK, DL.OB_gCons, DL.OB_gNil, DL.OB_add, DL.OB_sub, DL.OB_mul, DL.OB_mulL, DL.OB_fdiv, DL.OB_mod, DL.OB_pow, DL.OB_shl, DL.OB_bits, DL.OB_sl_l, DL.OB_sl_f, DL.OB_neg, DL.OB_lt, DL.OB_le, DL.OB_gt, DL.OB_ge, DL.OB_eq, DL.OB_ne, DL.eqB_int, DL.eqB_str, DL.OB_is, DL.OB_isn, DL.OB_len_l, DL.OB_len_t, DL.OB_abs, DL.OB_int, DL.OB_intb, DL.OB_ix_l, DL.OB_ix_t, DL.OB_gcd, DL.OB_lcm, DL.OB_max2, DL.OB_min2, DL.isNon, false_implies, implies_true, DL.rng_len, DL.enum_len, DL.zip_len, Int.toNat_natCast, DL.atI0, DL.atI1, DL.nd0, DL.nd1, DL.atI2, DL.ixN_b, DL.ixN_1, DL.ixN_2, DL.wipeE, DL.restE, DL.ownFree, Option.map_some, Option.isSome_some, DL.put_o, DL.put_b, DL.val_o, DL.val_b, DL.val_d, DL.ends, List.map_cons, List.map_nil, List.cons_append, List.nil_append, List.length_cons, List.length_nil, List.set_cons_zero, List.set_cons_succ, List.set_nil, List.replicate_zero, List.replicate_succ, List.all_cons, List.all_nil, Bool.and_true, Bool.and_self, true_and, and_true, and_self, Nat.reduceAdd, Nat.reduceLT, Nat.reduceLeDiff, Nat.reduceSub, Nat.zero_le, Nat.zero_add]
  · simp only [DL.SW_nx, DL.SW_rt, DL.SW_pass, DL.SW_brk, DL.SW_cnt, DL.SW_seq, DL.SW_drop, DL.SW_set, DL.SW_ret, DL.SW_ifS, DL.SW_asg, DL.SW_par2, DL.SW_par3, DL.SW_aug, DL.SW_raise, DL.SW_setIx, DL.SW_for, DL.SW_for0, DL.SW_forS, DL.SW_while, DL.OW_ok, DL.OW_no, DL.OW_var, DL.OW_c, DL.OW_fz, DL.OW_fa, DL.OW_faO_v, DL.OW_faO_f, DL.OW_faO_s, DL.OW_bin, DL.OW_un, DL.OW_tr, DL.OW_te, DL.OW_notT, DL.OW_andT, DL.OW_orT, DL.OW_and, DL.OW_or, DL.OW_not, DL.OW_if, DL.OW_nil, DL.OW_cons, DL.OW_lst, DL.OW_tup, DL.OW_chain, DL.OW_oNo, DL.OW_oSo, DL.OW_sl, DL.OW_new, DL.OW_newO_v, DL.OW_newO_f, DL.OW_newO_s, DL.OW_retO_v, DL.OW_retO_f, DL.OW_retO_s, DL.OW_nNil, DL.OW_nCons, DL.OW_call, DL.OW_iNil, DL.OW_iCons, DL.OW_iLnd, DL.OW_gI, DL.OW_itF, DL.OW_it, DL.OW_rng1, DL.OW_rng2, DL.OW_zipK, DL.OW_enum, DL.OW_enumV, DL.OW_lc, DL.OW_yes, DL.SL_d, DL.SL_o, DL.SL_b, DL.SF_d, DL.SF_o, DL.SRt_d, DL.SRt_o, DL.TB_v, DL.TI_i, DL.L2_2, DL.L3_3, DL.SI_i, DL.SX_o, DL.SX_b, DL.IF_t, DL.IF_f, reduceCtorEq, DL.isi_int_int, DL.isi_int_bl, DL.isi_int_str, DL.isi_int_lst, DL.isi_int_tup, DL.isi_int_non, DL.isi_bool_int, DL.isi_bool_bl, DL.isi_bool_str, DL.isi_bool_lst, DL.isi_bool_tup, DL.isi_bool_non, DL.isi_str_int, DL.isi_str_bl, DL.isi_str_str, DL.isi_str_lst, DL.isi_str_tup, DL.isi_str_non, DL.isi_list_int, DL.isi_list_bl, DL.isi_list_str, DL.isi_list_lst, DL.isi_list_tup, DL.isi_list_non, DL.isi_tuple_int, DL.isi_tuple_bl, DL.isi_tuple_str, DL.isi_tuple_lst, DL.isi_tuple_tup, DL.isi_tuple_non, DL.isi2_int, DL.isi2_bl, DL.isi2_str, DL.isi2_lst, DL.isi2_tup, DL.isi2_non, DL.OB_tuple_l, DL.OB_tuple_t, DL.OB_list_l, DL.OB_list_t, DL.OB_sum, DL.OB_all, DL.OB_any, DL.bls_nil, DL.bls_cons, DL.blsOf_map, DL.ints_nil, DL.ints_cons, DL.intsOf_map, DL.OB_map, DL.OW_lc0, DL.OW_lcY, id, List.all_map, DL.tru_bl, DL.tru_int, DL.tru_lst, DL.tru_tup, DL.tru_non, DL.IF_n, DL.IF_d, DL.OB_some, DL.OB_none, DL.OB_ite, DL.fzT_v, DL.fzT_f, DL.fzT_s, DL.dr_v, DL.dr_f, DL.dr_s, DL.slot_z, DL.slot_s, DL.Sc_v, DL.Sc_s, DL.argsSV_nil, DL.argsSV_d, DL.argsSV_i', DL.SMt_o, DL.SMt_b, DL.pb_nil, DL.pb_nil2, DL.pb_cons, DL.SPt_o, DL.SPt_b, DL.retT_d, DL.retT_o, DL.lS_nil, DL.lS_d, DL.lS_i, DL.lP_nil, DL.lP_d, DL.lP_i, DL.SVl_d, DL.SVl_o, DL.SVl_b, DL.backOf_nil, DL.backOf_cons, DL.sqOf_l, DL.sqOf_t, DL.seqD_l, DL.seqD_t, DL.items_l, DL.items_t, DL.srcOk_n, DL.OB_gN, DL.OB_gK, DL.OB_gCons, DL.OB_gNil, DL.OB_add, DL.OB_sub, DL.OB_mul, DL.OB_mulL, DL.OB_fdiv, DL.OB_mod, DL.OB_pow, DL.OB_shl, DL.OB_bits, DL.OB_sl_l, DL.OB_sl_f, DL.OB_neg, DL.OB_lt, DL.OB_le, DL.OB_gt, DL.OB_ge, DL.OB_eq, DL.OB_ne, DL.eqB_int, DL.eqB_str, DL.OB_is, DL.OB_isn, DL.OB_len_l, DL.OB_len_t, DL.OB_abs, DL.OB_int, DL.OB_intb, DL.OB_ix_l, DL.OB_ix_t, DL.OB_gcd, DL.OB_lcm, DL.OB_max2, DL.OB_min2, DL.isNon, false_implies, implies_true, DL.rng_len, DL.enum_len, DL.zip_len, Int.toNat_natCast, DL.atI0, DL.atI1, DL.nd0, DL.nd1, DL.atI2, DL.ixN_b, DL.ixN_1, DL.ixN_2, DL.wipeE, DL.restE, DL.ownFree, Option.map_some, Option.isSome_some, DL.put_o, DL.put_b, DL.val_o, DL.val_b, DL.val_d, DL.ends, List.map_cons, List.map_nil, List.cons_append, List.nil_append, List.length_cons, List.length_nil, List.set_cons_zero, List.set_cons_succ, List.set_nil, List.replicate_zero, List.replicate_succ, List.all_cons, List.all_nil, Bool.and_true, Bool.and_self, true_and, and_true, and_self, Nat.reduceAdd, Nat.reduceLT, Nat.reduceLeDiff, Nat.reduceSub, Nat.zero_le, Nat.zero_add]
    rw [List.map_id']
    exact q _ ⟨ms, 0, 0, rfl, by omega, by omega⟩
/-- what is told, and what the law reckons -/
def facs (ls : List Nat) : List D := ls.mapIdx fun p l => facD (fac ls p l)
theorem facs_map {ls : List Nat} : ((rngD 0 ls.length).map fun x => match x with
    | .int p => facD (fac ls p.toNat (ls.getD p.toNat 0))
    | _ => .non) = facs ls := by
  unfold facs
  refine List.ext_getElem? fun i => ?_
  unfold rngD
  rw [List.getElem?_map, List.getElem?_map, List.getElem?_mapIdx]
  by_cases hi : i < ls.length
  · rw [List.getElem?_range hi, List.getElem?_eq_getElem hi]
    simp [hi]
  · rw [List.getElem?_eq_none (l := ls) (by omega), List.getElem?_eq_none (by rw [List.length_range]; omega)]
    rfl
def pdP (q : Nat × Nat) : PyData := .tuple [.int (q.1 : Nat), .int (q.2 : Nat)]
theorem pys_facD : ∀ l : List (Nat × Nat), pys (l.map facD) = some (l.map pdP)
  | [] => rfl
  | q :: l => by
    rw [List.map_cons, pys, pys_facD l]
    rfl
theorem lay_pdP : ∀ l : List (Nat × Nat), PyData.canLayAll0 (l.map pdP) = true ∧ PyData.depthAll (l.map pdP) ≤ 1
  | [] => by simp [PyData.canLayAll0, PyData.depthAll]
  | q :: l => by
    obtain ⟨h1, h2⟩ := lay_pdP l
    refine ⟨by simp [PyData.canLayAll0, PyData.canLay0, pdP, h1], ?_⟩
    simp only [List.map_cons, PyData.depthAll, pdP, PyData.depth]
    omega
theorem facs_eq {ls : List Nat} : facs ls = (ls.mapIdx fun p l => fac ls p l).map facD := by
  unfold facs
  refine List.ext_getElem? fun i => ?_
  rw [List.getElem?_map, List.getElem?_mapIdx, List.getElem?_mapIdx, Option.map_map]
  rfl
theorem facs_self {ls : List Nat} : eqB (.tup (facs ls)) (.tup (facs ls)) = some true := by
  have e : py (.tup (facs ls)) = some (.tuple ((ls.mapIdx fun p l => fac ls p l).map pdP)) := by
    rw [py_t, facs_eq, pys_facD]
    rfl
  obtain ⟨h1, h2⟩ := lay_pdP (ls.mapIdx fun p l => fac ls p l)
  refine eqB_data e e rfl ?_
  unfold SeqAt.shaped
  rw [Bool.and_eq_true]
  refine ⟨by simpa [PyData.canLay0] using h1, decide_eq_true ?_⟩
  simp only [PyData.depth]
  omega
theorem facs_rep {ls : List Nat} (hl : ls.length ≤ 40) : ∃ s, reprD (.tup (facs ls)) = some (.v (.str s)) := by
  have hw : ∀ l, W l ≤ 2 ^ 30 := fun l => Nat.pow_le_pow_right (by decide) (by omega)
  have hs : ∀ ms : List Nat, (ms.map W).sum ≤ ms.length * 2 ^ 30 := by
    intro ms
    induction ms with
    | nil => simp
    | cons m ms ih =>
      rw [List.map_cons, List.sum_cons, List.length_cons, Nat.succ_mul]
      have := hw m
      omega
  have h1 : S ls ≤ 40 * 2 ^ 30 := Nat.le_trans (hs ls) (Nat.mul_le_mul_right _ hl)
  have h2 : ∀ p, A ls p ≤ 40 * 2 ^ 30 := fun p => Nat.le_trans (hs _) (Nat.mul_le_mul_right _ (by rw [List.length_take]; omega))
  have r1 : ∀ x ∈ facs ls, Rp 1 100 x := fun x hx => by
    rw [facs_eq] at hx
    obtain ⟨q, hq, rfl⟩ := List.mem_map.mp hx
    obtain ⟨i, hi, rfl⟩ := List.mem_mapIdx.mp hq
    have b1 : (fac ls i ls[i]).1 ≤ S ls + A ls i := Nat.div_le_self _ _
    have b2 : (fac ls i ls[i]).2 ≤ W ls[i] := Nat.div_le_self _ _
    have b3 := h2 i
    have b4 := hw ls[i]
    refine Rp.mono (Rp.tup (n := 0) (l := 21) (k := 2) (fun y hy => ?_) (by simp)) (by omega) (by omega)
    simp at hy
    rcases hy with rfl | rfl
    · exact Rp.int (by decide) (by decide) (by rw [Int.natAbs_natCast]; omega)
    · exact Rp.int (by decide) (by decide) (by rw [Int.natAbs_natCast]; omega)
  exact (Rp.tup (k := 40) r1 (by unfold facs; rw [List.length_mapIdx]; exact hl)).repr (by decide) (by decide)
theorem ints_self {ns : List Int} : eqB (.lst (ns.map D.int)) (.lst (ns.map D.int)) = some true := by
  refine eqB_data (p := .list (ns.map PyData.int)) ?_ ?_ rfl (Own.shaped_ints ns)
  · rw [py_l, pys_ints]
    rfl
  · rw [py_l, pys_ints]
    rfl
end
end K61
set_option Elab.async false
set_option linter.all false
set_option maxRecDepth 100000
set_option maxHeartbeats 4000000
set_option exponentiation.threshold 20000
namespace K61
open PySem PySem.Spec PyProof.Rows L2 Own DL
section
variable {Q : SV → List D → Prop} {E : Str → List (Str × D) → List D → Prop}
theorem OB_addL {xs ys : List D} {Q : DL.T → Prop} : OB (addD (.lst xs) (.lst ys)) Q = (xs.length + ys.length ≤ sizeLine ∧ Q (.f (.lst (xs ++ ys)))) := by
  show OB (if _ then _ else _) Q = _
  rw [OB_ite]
def Bad (z : D) : Prop := ∀ {Q : SV → List D → Prop} {E : Str → List (Str × D) → List D → Prop}, FW (mf_is_row_within [.d z, .d (.int 40), .d (.int 1), .d (.int 30)]) Q E = Q (.d (.bl false)) []
theorem bad_row {xs : List D} (hk : ∀ x ∈ xs, Kd x) (hl : xs.length ≤ 1000) (h : rowOk xs = false) : Bad (.lst xs) := by
  intro Q E
  rw [row_within_s (.inl rfl) hk hl, h]
theorem cut_mem {ds : List D} {lo hi : Option Int} : (∀ x ∈ DL.cutD ds lo hi, x ∈ ds) ∧ (DL.cutD ds lo hi).length ≤ ds.length := by
  unfold DL.cutD
  refine ⟨fun x hx => List.mem_of_mem_drop (List.mem_of_mem_take hx), ?_⟩
  rw [List.length_take, List.length_drop]
  omega
theorem law_ok {ns : List Int} (hn : ns.length ≤ 63) : FW (mf_law [.d (.lsf (ns.map D.int))]) (fun r _ => r = .d (.bl true)) E := by
  unfold mf_law
  rw [FW_runG]
  unfold m_law
  simp only [show N_law.length = 14 from rfl]
  simp only [DL.SW_nx, DL.SW_rt, DL.SW_pass, DL.SW_brk, DL.SW_cnt, DL.SW_seq, DL.SW_drop, DL.SW_set, DL.SW_ret, DL.SW_ifS, DL.SW_asg, DL.SW_par2, DL.SW_par3, DL.SW_aug, DL.SW_raise, DL.SW_setIx, DL.SW_for, DL.SW_while, DL.OW_ok, DL.OW_no, DL.OW_var, DL.OW_c, DL.OW_fz, DL.OW_fa, DL.OW_faO_v, DL.OW_faO_f, DL.OW_faO_s, DL.OW_bin, DL.OW_un, DL.OW_tr, DL.OW_te, DL.OW_notT, DL.OW_andT, DL.OW_orT, DL.OW_and, DL.OW_or, DL.OW_not, DL.OW_if, DL.OW_nil, DL.OW_cons, DL.OW_lst, DL.OW_tup, DL.OW_chain, DL.OW_oNo, DL.OW_oSo, DL.OW_sl, DL.OW_new, DL.OW_newO_v, DL.OW_newO_f, DL.OW_newO_s, DL.OW_retO_v, DL.OW_retO_f, DL.OW_retO_s, DL.OW_nNil, DL.OW_nCons, DL.OW_call, DL.OW_iNil, DL.OW_iCons, DL.OW_iLnd, DL.OW_gI, DL.OW_itF, DL.OW_it, DL.OW_rng1, DL.OW_rng2, DL.OW_zipK, DL.OW_enum, DL.OW_enumV, DL.OW_lc, DL.OW_yes, DL.SL_d, DL.SL_o, DL.SL_b, DL.SF_d, DL.SF_o, DL.SRt_d, DL.SRt_o, DL.TB_v, DL.TI_i, DL.L2_2, DL.L3_3, DL.SI_i, DL.SX_o, DL.SX_b, DL.IF_t, DL.IF_f, reduceCtorEq, DL.isi_int_int, DL.isi_int_bl, DL.isi_int_str, DL.isi_int_lst, DL.isi_int_tup, DL.isi_int_non, DL.isi_bool_int, DL.isi_bool_bl, DL.isi_bool_str, DL.isi_bool_lst, DL.isi_bool_tup, DL.isi_bool_non, DL.isi_str_int, DL.isi_str_bl, DL.isi_str_str, DL.isi_str_lst, DL.isi_str_tup, DL.isi_str_non, DL.isi_list_int, DL.isi_list_bl, DL.isi_list_str, DL.isi_list_lst, DL.isi_list_tup, DL.isi_list_non, DL.isi_tuple_int, DL.isi_tuple_bl, DL.isi_tuple_str, DL.isi_tuple_lst, DL.isi_tuple_tup, DL.isi_tuple_non, DL.isi2_int, DL.isi2_bl, DL.isi2_str, DL.isi2_lst, DL.isi2_tup, DL.isi2_non, DL.OB_tuple_l, DL.OB_tuple_t, DL.OB_list_l, DL.OB_list_t, DL.OB_sum, DL.OB_all, DL.OB_any, DL.bls_nil, DL.bls_cons, DL.blsOf_map, DL.ints_nil, DL.ints_cons, DL.intsOf_map, DL.OB_map, DL.OW_lc0, DL.OW_lcY, id, List.all_map, DL.tru_bl, DL.tru_int, DL.tru_lst, DL.tru_tup, DL.tru_non, DL.IF_n, DL.IF_d, DL.OB_some, DL.OB_none, DL.OB_ite, DL.fzT_v, DL.fzT_f, DL.fzT_s, DL.dr_v, DL.dr_f, DL.dr_s, DL.slot_z, DL.slot_s, DL.Sc_v, DL.Sc_s, DL.argsSV_nil, DL.argsSV_d, DL.argsSV_i', DL.SMt_o, DL.SMt_b, DL.pb_nil, DL.pb_nil2, DL.pb_cons, DL.SPt_o, DL.SPt_b, DL.retT_d, DL.retT_o, DL.lS_nil, DL.lS_d, DL.lS_i, DL.lP_nil, DL.lP_d, DL.lP_i, DL.SVl_d, DL.SVl_o, DL.SVl_b, DL.backOf_nil, DL.backOf_cons, DL.sqOf_l, DL.sqOf_t, DL.seqD_l, DL.seqD_t, DL.items_l, DL.items_t, DL.srcOk_n, DL.OB_gN, DL.OB_gK, DL.OB_gCons, DL.OB_gNil, DL.OB_add, DL.OB_sub, DL.OB_mul, DL.OB_mulL, DL.OB_fdiv, DL.OB_mod, DL.OB_pow, DL.OB_shl, DL.OB_bits, DL.OB_sl_l, DL.OB_sl_f, DL.OB_neg, DL.OB_lt, DL.OB_le, DL.OB_gt, DL.OB_ge, DL.OB_eq, DL.OB_ne, DL.eqB_int, DL.eqB_str, DL.OB_is, DL.OB_isn, DL.OB_len_l, DL.OB_len_t, DL.OB_abs, DL.OB_int, DL.OB_intb, DL.OB_ix_l, DL.OB_ix_t, DL.OB_gcd, DL.OB_lcm, DL.OB_max2, DL.OB_min2, DL.isNon, false_implies, implies_true, DL.rng_len, DL.enum_len, DL.zip_len, Int.toNat_natCast, DL.atI0, DL.atI1, DL.nd0, DL.nd1, DL.atI2, DL.ixN_b, DL.ixN_1, DL.ixN_2, DL.wipeE, DL.restE, DL.ownFree, Option.map_some, Option.isSome_some, DL.put_o, DL.put_b, DL.val_o, DL.val_b, DL.val_d, DL.ends, List.map_cons, List.map_nil, List.cons_append, List.nil_append, List.length_cons, List.length_nil, List.set_cons_zero, List.set_cons_succ, List.set_nil, List.replicate_zero, List.replicate_succ, List.all_cons, List.all_nil, Bool.and_true, Bool.and_self, true_and, and_true, and_self, Nat.reduceAdd, Nat.reduceLT, Nat.reduceLeDiff, Nat.reduceSub, Nat.zero_le, Nat.zero_add]
  refine till_ok hn fun d0 h0 => ?_
  simp only [DL.SW_nx, DL.SW_rt, DL.SW_pass, DL.SW_brk, DL.SW_cnt, DL.SW_seq, DL.SW_drop, DL.SW_set, DL.SW_ret, DL.SW_ifS, DL.SW_asg, DL.SW_par2, DL.SW_par3, DL.SW_aug, DL.SW_raise, DL.SW_setIx, DL.SW_for, DL.SW_while, DL.OW_ok, DL.OW_no, DL.OW_var, DL.OW_c, DL.OW_fz, DL.OW_fa, DL.OW_faO_v, DL.OW_faO_f, DL.OW_faO_s, DL.OW_bin, DL.OW_un, DL.OW_tr, DL.OW_te, DL.OW_notT, DL.OW_andT, DL.OW_orT, DL.OW_and, DL.OW_or, DL.OW_not, DL.OW_if, DL.OW_nil, DL.OW_cons, DL.OW_lst, DL.OW_tup, DL.OW_chain, DL.OW_oNo, DL.OW_oSo, DL.OW_sl, DL.OW_new, DL.OW_newO_v, DL.OW_newO_f, DL.OW_newO_s, DL.OW_retO_v, DL.OW_retO_f, DL.OW_retO_s, DL.OW_nNil, DL.OW_nCons, DL.OW_call, DL.OW_iNil, DL.OW_iCons, DL.OW_iLnd, DL.OW_gI, DL.OW_itF, DL.OW_it, DL.OW_rng1, DL.OW_rng2, DL.OW_zipK, DL.OW_enum, DL.OW_enumV, DL.OW_lc, DL.OW_yes, DL.SL_d, DL.SL_o, DL.SL_b, DL.SF_d, DL.SF_o, DL.SRt_d, DL.SRt_o, DL.TB_v, DL.TI_i, DL.L2_2, DL.L3_3, DL.SI_i, DL.SX_o, DL.SX_b, DL.IF_t, DL.IF_f, reduceCtorEq, DL.isi_int_int, DL.isi_int_bl, DL.isi_int_str, DL.isi_int_lst, DL.isi_int_tup, DL.isi_int_non, DL.isi_bool_int, DL.isi_bool_bl, DL.isi_bool_str, DL.isi_bool_lst, DL.isi_bool_tup, DL.isi_bool_non, DL.isi_str_int, DL.isi_str_bl, DL.isi_str_str, DL.isi_str_lst, DL.isi_str_tup, DL.isi_str_non, DL.isi_list_int, DL.isi_list_bl, DL.isi_list_str, DL.isi_list_lst, DL.isi_list_tup, DL.isi_list_non, DL.isi_tuple_int, DL.isi_tuple_bl, DL.isi_tuple_str, DL.isi_tuple_lst, DL.isi_tuple_tup, DL.isi_tuple_non, DL.isi2_int, DL.isi2_bl, DL.isi2_str, DL.isi2_lst, DL.isi2_tup, DL.isi2_non, DL.OB_tuple_l, DL.OB_tuple_t, DL.OB_list_l, DL.OB_list_t, DL.OB_sum, DL.OB_all, DL.OB_any, DL.bls_nil, DL.bls_cons, DL.blsOf_map, DL.ints_nil, DL.ints_cons, DL.intsOf_map, DL.OB_map, DL.OW_lc0, DL.OW_lcY, id, List.all_map, DL.tru_bl, DL.tru_int, DL.tru_lst, DL.tru_tup, DL.tru_non, DL.IF_n, DL.IF_d, DL.OB_some, DL.OB_none, DL.OB_ite, DL.fzT_v, DL.fzT_f, DL.fzT_s, DL.dr_v, DL.dr_f, DL.dr_s, DL.slot_z, DL.slot_s, DL.Sc_v, DL.Sc_s, DL.argsSV_nil, DL.argsSV_d, DL.argsSV_i', DL.SMt_o, DL.SMt_b, DL.pb_nil, DL.pb_nil2, DL.pb_cons, DL.SPt_o, DL.SPt_b, DL.retT_d, DL.retT_o, DL.lS_nil, DL.lS_d, DL.lS_i, DL.lP_nil, DL.lP_d, DL.lP_i, DL.SVl_d, DL.SVl_o, DL.SVl_b, DL.backOf_nil, DL.backOf_cons, DL.sqOf_l, DL.sqOf_t, DL.seqD_l, DL.seqD_t, DL.items_l, DL.items_t, DL.srcOk_n, DL.OB_gN, DL.OB_gK, DL.OB_gCons, DL.OB_gNil, DL.OB_add, DL.OB_sub, DL.OB_mul, DL.OB_mulL, DL.OB_fdiv, DL.OB_mod, DL.OB_pow, DL.OB_shl, DL.OB_bits, DL.OB_sl_l, DL.OB_sl_f, DL.OB_neg, DL.OB_lt, DL.OB_le, DL.OB_gt, DL.OB_ge, DL.OB_eq, DL.OB_ne, DL.eqB_int, DL.eqB_str, DL.OB_is, DL.OB_isn, DL.OB_len_l, DL.OB_len_t, DL.OB_abs, DL.OB_int, DL.OB_intb, DL.OB_ix_l, DL.OB_ix_t, DL.OB_gcd, DL.OB_lcm, DL.OB_max2, DL.OB_min2, DL.isNon, false_implies, implies_true, DL.rng_len, DL.enum_len, DL.zip_len, Int.toNat_natCast, DL.atI0, DL.atI1, DL.nd0, DL.nd1, DL.atI2, DL.ixN_b, DL.ixN_1, DL.ixN_2, DL.wipeE, DL.restE, DL.ownFree, Option.map_some, Option.isSome_some, DL.put_o, DL.put_b, DL.val_o, DL.val_b, DL.val_d, DL.ends, List.map_cons, List.map_nil, List.cons_append, List.nil_append, List.length_cons, List.length_nil, List.set_cons_zero, List.set_cons_succ, List.set_nil, List.replicate_zero, List.replicate_succ, List.all_cons, List.all_nil, Bool.and_true, Bool.and_self, true_and, and_true, and_self, Nat.reduceAdd, Nat.reduceLT, Nat.reduceLeDiff, Nat.reduceSub, Nat.zero_le, Nat.zero_add]
  refine ⟨by omega, ?_⟩
  refine SW_forI (fun i e => ∃ d' a b c x5 x6 x7 x8 x9 x10 x11 x12, e = [some (.d (.lsf (ns.map D.int))), some (.o d'), a, b, c, x5, x6, x7, x8, x9, x10, x11, x12, none] ∧ Nt (i * 200) d' ∧ (x5 = none ∨ ∃ z, x5 = some (.d z))) _ 0 _ ⟨d0, none, none, none, none, none, none, none, none, none, none, none, rfl, by simpa using h0, .inl rfl⟩ (fun i d e hd he => ?_) fun e he => ?_
  · rw [Nat.zero_add] at he ⊢
    obtain ⟨d1, a, b, c, x5, x6, x7, x8, x9, x10, x11, x12, rfl, h1, hx5⟩ := he
    obtain ⟨hi, rfl⟩ := rng_get hd
    have hi : i < 4 := hi
    simp only [DL.SW_nx, DL.SW_rt, DL.SW_pass, DL.SW_brk, DL.SW_cnt, DL.SW_seq, DL.SW_drop, DL.SW_set, DL.SW_ret, DL.SW_ifS, DL.SW_asg, DL.SW_par2, DL.SW_par3, DL.SW_aug, DL.SW_raise, DL.SW_setIx, DL.SW_for, DL.SW_while, DL.OW_ok, DL.OW_no, DL.OW_var, DL.OW_c, DL.OW_fz, DL.OW_fa, DL.OW_faO_v, DL.OW_faO_f, DL.OW_faO_s, DL.OW_bin, DL.OW_un, DL.OW_tr, DL.OW_te, DL.OW_notT, DL.OW_andT, DL.OW_orT, DL.OW_and, DL.OW_or, DL.OW_not, DL.OW_if, DL.OW_nil, DL.OW_cons, DL.OW_lst, DL.OW_tup, DL.OW_chain, DL.OW_oNo, DL.OW_oSo, DL.OW_sl, DL.OW_new, DL.OW_newO_v, DL.OW_newO_f, DL.OW_newO_s, DL.OW_retO_v, DL.OW_retO_f, DL.OW_retO_s, DL.OW_nNil, DL.OW_nCons, DL.OW_call, DL.OW_iNil, DL.OW_iCons, DL.OW_iLnd, DL.OW_gI, DL.OW_itF, DL.OW_it, DL.OW_rng1, DL.OW_rng2, DL.OW_zipK, DL.OW_enum, DL.OW_enumV, DL.OW_lc, DL.OW_yes, DL.SL_d, DL.SL_o, DL.SL_b, DL.SF_d, DL.SF_o, DL.SRt_d, DL.SRt_o, DL.TB_v, DL.TI_i, DL.L2_2, DL.L3_3, DL.SI_i, DL.SX_o, DL.SX_b, DL.IF_t, DL.IF_f, reduceCtorEq, DL.isi_int_int, DL.isi_int_bl, DL.isi_int_str, DL.isi_int_lst, DL.isi_int_tup, DL.isi_int_non, DL.isi_bool_int, DL.isi_bool_bl, DL.isi_bool_str, DL.isi_bool_lst, DL.isi_bool_tup, DL.isi_bool_non, DL.isi_str_int, DL.isi_str_bl, DL.isi_str_str, DL.isi_str_lst, DL.isi_str_tup, DL.isi_str_non, DL.isi_list_int, DL.isi_list_bl, DL.isi_list_str, DL.isi_list_lst, DL.isi_list_tup, DL.isi_list_non, DL.isi_tuple_int, DL.isi_tuple_bl, DL.isi_tuple_str, DL.isi_tuple_lst, DL.isi_tuple_tup, DL.isi_tuple_non, DL.isi2_int, DL.isi2_bl, DL.isi2_str, DL.isi2_lst, DL.isi2_tup, DL.isi2_non, DL.OB_tuple_l, DL.OB_tuple_t, DL.OB_list_l, DL.OB_list_t, DL.OB_sum, DL.OB_all, DL.OB_any, DL.bls_nil, DL.bls_cons, DL.blsOf_map, DL.ints_nil, DL.ints_cons, DL.intsOf_map, DL.OB_map, DL.OW_lc0, DL.OW_lcY, id, List.all_map, DL.tru_bl, DL.tru_int, DL.tru_lst, DL.tru_tup, DL.tru_non, DL.IF_n, DL.IF_d, DL.OB_some, DL.OB_none, DL.OB_ite, DL.fzT_v, DL.fzT_f, DL.fzT_s, DL.dr_v, DL.dr_f, DL.dr_s, DL.slot_z, DL.slot_s, DL.Sc_v, DL.Sc_s, DL.argsSV_nil, DL.argsSV_d, DL.argsSV_i', DL.SMt_o, DL.SMt_b, DL.pb_nil, DL.pb_nil2, DL.pb_cons, DL.SPt_o, DL.SPt_b, DL.retT_d, DL.retT_o, DL.lS_nil, DL.lS_d, DL.lS_i, DL.lP_nil, DL.lP_d, DL.lP_i, DL.SVl_d, DL.SVl_o, DL.SVl_b, DL.backOf_nil, DL.backOf_cons, DL.sqOf_l, DL.sqOf_t, DL.seqD_l, DL.seqD_t, DL.items_l, DL.items_t, DL.srcOk_n, DL.OB_gN, DL.OB_gK, DL.OB_gCons, DL.OB_gNil, DL.OB_add, DL.OB_sub, DL.OB_mul, DL.OB_mulL, DL.OB_fdiv, DL.OB_mod, DL.OB_pow, DL.OB_shl, DL.OB_bits, DL.OB_sl_l, DL.OB_sl_f, DL.OB_neg, DL.OB_lt, DL.OB_le, DL.OB_gt, DL.OB_ge, DL.OB_eq, DL.OB_ne, DL.eqB_int, DL.eqB_str, DL.OB_is, DL.OB_isn, DL.OB_len_l, DL.OB_len_t, DL.OB_abs, DL.OB_int, DL.OB_intb, DL.OB_ix_l, DL.OB_ix_t, DL.OB_gcd, DL.OB_lcm, DL.OB_max2, DL.OB_min2, DL.isNon, false_implies, implies_true, DL.rng_len, DL.enum_len, DL.zip_len, Int.toNat_natCast, DL.atI0, DL.atI1, DL.nd0, DL.nd1, DL.atI2, DL.ixN_b, DL.ixN_1, DL.ixN_2, DL.wipeE, DL.restE, DL.ownFree, Option.map_some, Option.isSome_some, DL.put_o, DL.put_b, DL.val_o, DL.val_b, DL.val_d, DL.ends, List.map_cons, List.map_nil, List.cons_append, List.nil_append, List.length_cons, List.length_nil, List.set_cons_zero, List.set_cons_succ, List.set_nil, List.replicate_zero, List.replicate_succ, List.all_cons, List.all_nil, Bool.and_true, Bool.and_self, true_and, and_true, and_self, Nat.reduceAdd, Nat.reduceLT, Nat.reduceLeDiff, Nat.reduceSub, Nat.zero_le, Nat.zero_add]
    refine pick_ok h1 (by simp) (by simp) (by omega) fun y d2 hy h2 => ?_
    have : ∃ m : Int, y = .int m ∧ 1 ≤ m ∧ m ≤ 30 := by
      simp at hy
      rcases hy with rfl | rfl | rfl | rfl
      · exact ⟨4, rfl, by omega, by omega⟩
      · exact ⟨2, rfl, by omega, by omega⟩
      · exact ⟨9, rfl, by omega, by omega⟩
      · exact ⟨30, rfl, by omega, by omega⟩
    obtain ⟨m, rfl, m0, m1⟩ := this
    simp only [DL.SW_nx, DL.SW_rt, DL.SW_pass, DL.SW_brk, DL.SW_cnt, DL.SW_seq, DL.SW_drop, DL.SW_set, DL.SW_ret, DL.SW_ifS, DL.SW_asg, DL.SW_par2, DL.SW_par3, DL.SW_aug, DL.SW_raise, DL.SW_setIx, DL.SW_for, DL.SW_while, DL.OW_ok, DL.OW_no, DL.OW_var, DL.OW_c, DL.OW_fz, DL.OW_fa, DL.OW_faO_v, DL.OW_faO_f, DL.OW_faO_s, DL.OW_bin, DL.OW_un, DL.OW_tr, DL.OW_te, DL.OW_notT, DL.OW_andT, DL.OW_orT, DL.OW_and, DL.OW_or, DL.OW_not, DL.OW_if, DL.OW_nil, DL.OW_cons, DL.OW_lst, DL.OW_tup, DL.OW_chain, DL.OW_oNo, DL.OW_oSo, DL.OW_sl, DL.OW_new, DL.OW_newO_v, DL.OW_newO_f, DL.OW_newO_s, DL.OW_retO_v, DL.OW_retO_f, DL.OW_retO_s, DL.OW_nNil, DL.OW_nCons, DL.OW_call, DL.OW_iNil, DL.OW_iCons, DL.OW_iLnd, DL.OW_gI, DL.OW_itF, DL.OW_it, DL.OW_rng1, DL.OW_rng2, DL.OW_zipK, DL.OW_enum, DL.OW_enumV, DL.OW_lc, DL.OW_yes, DL.SL_d, DL.SL_o, DL.SL_b, DL.SF_d, DL.SF_o, DL.SRt_d, DL.SRt_o, DL.TB_v, DL.TI_i, DL.L2_2, DL.L3_3, DL.SI_i, DL.SX_o, DL.SX_b, DL.IF_t, DL.IF_f, reduceCtorEq, DL.isi_int_int, DL.isi_int_bl, DL.isi_int_str, DL.isi_int_lst, DL.isi_int_tup, DL.isi_int_non, DL.isi_bool_int, DL.isi_bool_bl, DL.isi_bool_str, DL.isi_bool_lst, DL.isi_bool_tup, DL.isi_bool_non, DL.isi_str_int, DL.isi_str_bl, DL.isi_str_str, DL.isi_str_lst, DL.isi_str_tup, DL.isi_str_non, DL.isi_list_int, DL.isi_list_bl, DL.isi_list_str, DL.isi_list_lst, DL.isi_list_tup, DL.isi_list_non, DL.isi_tuple_int, DL.isi_tuple_bl, DL.isi_tuple_str, DL.isi_tuple_lst, DL.isi_tuple_tup, DL.isi_tuple_non, DL.isi2_int, DL.isi2_bl, DL.isi2_str, DL.isi2_lst, DL.isi2_tup, DL.isi2_non, DL.OB_tuple_l, DL.OB_tuple_t, DL.OB_list_l, DL.OB_list_t, DL.OB_sum, DL.OB_all, DL.OB_any, DL.bls_nil, DL.bls_cons, DL.blsOf_map, DL.ints_nil, DL.ints_cons, DL.intsOf_map, DL.OB_map, DL.OW_lc0, DL.OW_lcY, id, List.all_map, DL.tru_bl, DL.tru_int, DL.tru_lst, DL.tru_tup, DL.tru_non, DL.IF_n, DL.IF_d, DL.OB_some, DL.OB_none, DL.OB_ite, DL.fzT_v, DL.fzT_f, DL.fzT_s, DL.dr_v, DL.dr_f, DL.dr_s, DL.slot_z, DL.slot_s, DL.Sc_v, DL.Sc_s, DL.argsSV_nil, DL.argsSV_d, DL.argsSV_i', DL.SMt_o, DL.SMt_b, DL.pb_nil, DL.pb_nil2, DL.pb_cons, DL.SPt_o, DL.SPt_b, DL.retT_d, DL.retT_o, DL.lS_nil, DL.lS_d, DL.lS_i, DL.lP_nil, DL.lP_d, DL.lP_i, DL.SVl_d, DL.SVl_o, DL.SVl_b, DL.backOf_nil, DL.backOf_cons, DL.sqOf_l, DL.sqOf_t, DL.seqD_l, DL.seqD_t, DL.items_l, DL.items_t, DL.srcOk_n, DL.OB_gN, DL.OB_gK, DL.OB_gCons, DL.OB_gNil, DL.OB_add, DL.OB_sub, DL.OB_mul, DL.OB_mulL, DL.OB_fdiv, DL.OB_mod, DL.OB_pow, DL.OB_shl, DL.OB_bits, DL.OB_sl_l, DL.OB_sl_f, DL.OB_neg, DL.OB_lt, DL.OB_le, DL.OB_gt, DL.OB_ge, DL.OB_eq, DL.OB_ne, DL.eqB_int, DL.eqB_str, DL.OB_is, DL.OB_isn, DL.OB_len_l, DL.OB_len_t, DL.OB_abs, DL.OB_int, DL.OB_intb, DL.OB_ix_l, DL.OB_ix_t, DL.OB_gcd, DL.OB_lcm, DL.OB_max2, DL.OB_min2, DL.isNon, false_implies, implies_true, DL.rng_len, DL.enum_len, DL.zip_len, Int.toNat_natCast, DL.atI0, DL.atI1, DL.nd0, DL.nd1, DL.atI2, DL.ixN_b, DL.ixN_1, DL.ixN_2, DL.wipeE, DL.restE, DL.ownFree, Option.map_some, Option.isSome_some, DL.put_o, DL.put_b, DL.val_o, DL.val_b, DL.val_d, DL.ends, List.map_cons, List.map_nil, List.cons_append, List.nil_append, List.length_cons, List.length_nil, List.set_cons_zero, List.set_cons_succ, List.set_nil, List.replicate_zero, List.replicate_succ, List.all_cons, List.all_nil, Bool.and_true, Bool.and_self, true_and, and_true, and_self, Nat.reduceAdd, Nat.reduceLT, Nat.reduceLeDiff, Nat.reduceSub, Nat.zero_le, Nat.zero_add]
    refine count_ok h2 (by omega) (by omega) (by omega) fun r3 d3 r30 r31 h3 => ?_
    simp only [DL.SW_nx, DL.SW_rt, DL.SW_pass, DL.SW_brk, DL.SW_cnt, DL.SW_seq, DL.SW_drop, DL.SW_set, DL.SW_ret, DL.SW_ifS, DL.SW_asg, DL.SW_par2, DL.SW_par3, DL.SW_aug, DL.SW_raise, DL.SW_setIx, DL.SW_for, DL.SW_while, DL.OW_ok, DL.OW_no, DL.OW_var, DL.OW_c, DL.OW_fz, DL.OW_fa, DL.OW_faO_v, DL.OW_faO_f, DL.OW_faO_s, DL.OW_bin, DL.OW_un, DL.OW_tr, DL.OW_te, DL.OW_notT, DL.OW_andT, DL.OW_orT, DL.OW_and, DL.OW_or, DL.OW_not, DL.OW_if, DL.OW_nil, DL.OW_cons, DL.OW_lst, DL.OW_tup, DL.OW_chain, DL.OW_oNo, DL.OW_oSo, DL.OW_sl, DL.OW_new, DL.OW_newO_v, DL.OW_newO_f, DL.OW_newO_s, DL.OW_retO_v, DL.OW_retO_f, DL.OW_retO_s, DL.OW_nNil, DL.OW_nCons, DL.OW_call, DL.OW_iNil, DL.OW_iCons, DL.OW_iLnd, DL.OW_gI, DL.OW_itF, DL.OW_it, DL.OW_rng1, DL.OW_rng2, DL.OW_zipK, DL.OW_enum, DL.OW_enumV, DL.OW_lc, DL.OW_yes, DL.SL_d, DL.SL_o, DL.SL_b, DL.SF_d, DL.SF_o, DL.SRt_d, DL.SRt_o, DL.TB_v, DL.TI_i, DL.L2_2, DL.L3_3, DL.SI_i, DL.SX_o, DL.SX_b, DL.IF_t, DL.IF_f, reduceCtorEq, DL.isi_int_int, DL.isi_int_bl, DL.isi_int_str, DL.isi_int_lst, DL.isi_int_tup, DL.isi_int_non, DL.isi_bool_int, DL.isi_bool_bl, DL.isi_bool_str, DL.isi_bool_lst, DL.isi_bool_tup, DL.isi_bool_non, DL.isi_str_int, DL.isi_str_bl, DL.isi_str_str, DL.isi_str_lst, DL.isi_str_tup, DL.isi_str_non, DL.isi_list_int, DL.isi_list_bl, DL.isi_list_str, DL.isi_list_lst, DL.isi_list_tup, DL.isi_list_non, DL.isi_tuple_int, DL.isi_tuple_bl, DL.isi_tuple_str, DL.isi_tuple_lst, DL.isi_tuple_tup, DL.isi_tuple_non, DL.isi2_int, DL.isi2_bl, DL.isi2_str, DL.isi2_lst, DL.isi2_tup, DL.isi2_non, DL.OB_tuple_l, DL.OB_tuple_t, DL.OB_list_l, DL.OB_list_t, DL.OB_sum, DL.OB_all, DL.OB_any, DL.bls_nil, DL.bls_cons, DL.blsOf_map, DL.ints_nil, DL.ints_cons, DL.intsOf_map, DL.OB_map, DL.OW_lc0, DL.OW_lcY, id, List.all_map, DL.tru_bl, DL.tru_int, DL.tru_lst, DL.tru_tup, DL.tru_non, DL.IF_n, DL.IF_d, DL.OB_some, DL.OB_none, DL.OB_ite, DL.fzT_v, DL.fzT_f, DL.fzT_s, DL.dr_v, DL.dr_f, DL.dr_s, DL.slot_z, DL.slot_s, DL.Sc_v, DL.Sc_s, DL.argsSV_nil, DL.argsSV_d, DL.argsSV_i', DL.SMt_o, DL.SMt_b, DL.pb_nil, DL.pb_nil2, DL.pb_cons, DL.SPt_o, DL.SPt_b, DL.retT_d, DL.retT_o, DL.lS_nil, DL.lS_d, DL.lS_i, DL.lP_nil, DL.lP_d, DL.lP_i, DL.SVl_d, DL.SVl_o, DL.SVl_b, DL.backOf_nil, DL.backOf_cons, DL.sqOf_l, DL.sqOf_t, DL.seqD_l, DL.seqD_t, DL.items_l, DL.items_t, DL.srcOk_n, DL.OB_gN, DL.OB_gK, DL.OB_gCons, DL.OB_gNil, DL.OB_add, DL.OB_sub, DL.OB_mul, DL.OB_mulL, DL.OB_fdiv, DL.OB_mod, DL.OB_pow, DL.OB_shl, DL.OB_bits, DL.OB_sl_l, DL.OB_sl_f, DL.OB_neg, DL.OB_lt, DL.OB_le, DL.OB_gt, DL.OB_ge, DL.OB_eq, DL.OB_ne, DL.eqB_int, DL.eqB_str, DL.OB_is, DL.OB_isn, DL.OB_len_l, DL.OB_len_t, DL.OB_abs, DL.OB_int, DL.OB_intb, DL.OB_ix_l, DL.OB_ix_t, DL.OB_gcd, DL.OB_lcm, DL.OB_max2, DL.OB_min2, DL.isNon, false_implies, implies_true, DL.rng_len, DL.enum_len, DL.zip_len, Int.toNat_natCast, DL.atI0, DL.atI1, DL.nd0, DL.nd1, DL.atI2, DL.ixN_b, DL.ixN_1, DL.ixN_2, DL.wipeE, DL.restE, DL.ownFree, Option.map_some, Option.isSome_some, DL.put_o, DL.put_b, DL.val_o, DL.val_b, DL.val_d, DL.ends, List.map_cons, List.map_nil, List.cons_append, List.nil_append, List.length_cons, List.length_nil, List.set_cons_zero, List.set_cons_succ, List.set_nil, List.replicate_zero, List.replicate_succ, List.all_cons, List.all_nil, Bool.and_true, Bool.and_self, true_and, and_true, and_self, Nat.reduceAdd, Nat.reduceLT, Nat.reduceLeDiff, Nat.reduceSub, Nat.zero_le, Nat.zero_add]
    refine ⟨by omega, by omega, ?_⟩
    refine OW_lcD (fun d' => [some (.d (.lsf (ns.map D.int))), some (.o d'), some (.d (.int (0 + (i : Int)))), some (.d (.int m)), c, x5, x6, x7, x8, x9, x10, x11, x12, none]) (fun x => ∃ l : Nat, x = nD l ∧ 1 ≤ l ∧ l ≤ 30) (i * 200 + 1 + 1) 1 h3 (fun j x d' hx hd => ?_) fun r4 d4 hl hP h4 => ?_
    · have hj := (rng_get hx).1
      simp only [DL.SW_nx, DL.SW_rt, DL.SW_pass, DL.SW_brk, DL.SW_cnt, DL.SW_seq, DL.SW_drop, DL.SW_set, DL.SW_ret, DL.SW_ifS, DL.SW_asg, DL.SW_par2, DL.SW_par3, DL.SW_aug, DL.SW_raise, DL.SW_setIx, DL.SW_for, DL.SW_while, DL.OW_ok, DL.OW_no, DL.OW_var, DL.OW_c, DL.OW_fz, DL.OW_fa, DL.OW_faO_v, DL.OW_faO_f, DL.OW_faO_s, DL.OW_bin, DL.OW_un, DL.OW_tr, DL.OW_te, DL.OW_notT, DL.OW_andT, DL.OW_orT, DL.OW_and, DL.OW_or, DL.OW_not, DL.OW_if, DL.OW_nil, DL.OW_cons, DL.OW_lst, DL.OW_tup, DL.OW_chain, DL.OW_oNo, DL.OW_oSo, DL.OW_sl, DL.OW_new, DL.OW_newO_v, DL.OW_newO_f, DL.OW_newO_s, DL.OW_retO_v, DL.OW_retO_f, DL.OW_retO_s, DL.OW_nNil, DL.OW_nCons, DL.OW_call, DL.OW_iNil, DL.OW_iCons, DL.OW_iLnd, DL.OW_gI, DL.OW_itF, DL.OW_it, DL.OW_rng1, DL.OW_rng2, DL.OW_zipK, DL.OW_enum, DL.OW_enumV, DL.OW_lc, DL.OW_yes, DL.SL_d, DL.SL_o, DL.SL_b, DL.SF_d, DL.SF_o, DL.SRt_d, DL.SRt_o, DL.TB_v, DL.TI_i, DL.L2_2, DL.L3_3, DL.SI_i, DL.SX_o, DL.SX_b, DL.IF_t, DL.IF_f, reduceCtorEq, DL.isi_int_int, DL.isi_int_bl, DL.isi_int_str, DL.isi_int_lst, DL.isi_int_tup, DL.isi_int_non, DL.isi_bool_int, DL.isi_bool_bl, DL.isi_bool_str, DL.isi_bool_lst, DL.isi_bool_tup, DL.isi_bool_non, DL.isi_str_int, DL.isi_str_bl, DL.isi_str_str, DL.isi_str_lst, DL.isi_str_tup, DL.isi_str_non, DL.isi_list_int, DL.isi_list_bl, DL.isi_list_str, DL.isi_list_lst, DL.isi_list_tup, DL.isi_list_non, DL.isi_tuple_int, DL.isi_tuple_bl, DL.isi_tuple_str, DL.isi_tuple_lst, DL.isi_tuple_tup, DL.isi_tuple_non, DL.isi2_int, DL.isi2_bl, DL.isi2_str, DL.isi2_lst, DL.isi2_tup, DL.isi2_non, DL.OB_tuple_l, DL.OB_tuple_t, DL.OB_list_l, DL.OB_list_t, DL.OB_sum, DL.OB_all, DL.OB_any, DL.bls_nil, DL.bls_cons, DL.blsOf_map, DL.ints_nil, DL.ints_cons, DL.intsOf_map, DL.OB_map, DL.OW_lc0, DL.OW_lcY, id, List.all_map, DL.tru_bl, DL.tru_int, DL.tru_lst, DL.tru_tup, DL.tru_non, DL.IF_n, DL.IF_d, DL.OB_some, DL.OB_none, DL.OB_ite, DL.fzT_v, DL.fzT_f, DL.fzT_s, DL.dr_v, DL.dr_f, DL.dr_s, DL.slot_z, DL.slot_s, DL.Sc_v, DL.Sc_s, DL.argsSV_nil, DL.argsSV_d, DL.argsSV_i', DL.SMt_o, DL.SMt_b, DL.pb_nil, DL.pb_nil2, DL.pb_cons, DL.SPt_o, DL.SPt_b, DL.retT_d, DL.retT_o, DL.lS_nil, DL.lS_d, DL.lS_i, DL.lP_nil, DL.lP_d, DL.lP_i, DL.SVl_d, DL.SVl_o, DL.SVl_b, DL.backOf_nil, DL.backOf_cons, DL.sqOf_l, DL.sqOf_t, DL.seqD_l, DL.seqD_t, DL.items_l, DL.items_t, DL.srcOk_n, DL.OB_gN, DL.OB_gK, DL.OB_gCons, DL.OB_gNil, DL.OB_add, DL.OB_sub, DL.OB_mul, DL.OB_mulL, DL.OB_fdiv, DL.OB_mod, DL.OB_pow, DL.OB_shl, DL.OB_bits, DL.OB_sl_l, DL.OB_sl_f, DL.OB_neg, DL.OB_lt, DL.OB_le, DL.OB_gt, DL.OB_ge, DL.OB_eq, DL.OB_ne, DL.eqB_int, DL.eqB_str, DL.OB_is, DL.OB_isn, DL.OB_len_l, DL.OB_len_t, DL.OB_abs, DL.OB_int, DL.OB_intb, DL.OB_ix_l, DL.OB_ix_t, DL.OB_gcd, DL.OB_lcm, DL.OB_max2, DL.OB_min2, DL.isNon, false_implies, implies_true, DL.rng_len, DL.enum_len, DL.zip_len, Int.toNat_natCast, DL.atI0, DL.atI1, DL.nd0, DL.nd1, DL.atI2, DL.ixN_b, DL.ixN_1, DL.ixN_2, DL.wipeE, DL.restE, DL.ownFree, Option.map_some, Option.isSome_some, DL.put_o, DL.put_b, DL.val_o, DL.val_b, DL.val_d, DL.ends, List.map_cons, List.map_nil, List.cons_append, List.nil_append, List.length_cons, List.length_nil, List.set_cons_zero, List.set_cons_succ, List.set_nil, List.replicate_zero, List.replicate_succ, List.all_cons, List.all_nil, Bool.and_true, Bool.and_self, true_and, and_true, and_self, Nat.reduceAdd, Nat.reduceLT, Nat.reduceLeDiff, Nat.reduceSub, Nat.zero_le, Nat.zero_add]
      refine count_ok hd (by omega) (by omega) (by omega) fun r5 d5 r50 r51 h5 => ?_
      simp only [DL.SW_nx, DL.SW_rt, DL.SW_pass, DL.SW_brk, DL.SW_cnt, DL.SW_seq, DL.SW_drop, DL.SW_set, DL.SW_ret, DL.SW_ifS, DL.SW_asg, DL.SW_par2, DL.SW_par3, DL.SW_aug, DL.SW_raise, DL.SW_setIx, DL.SW_for, DL.SW_while, DL.OW_ok, DL.OW_no, DL.OW_var, DL.OW_c, DL.OW_fz, DL.OW_fa, DL.OW_faO_v, DL.OW_faO_f, DL.OW_faO_s, DL.OW_bin, DL.OW_un, DL.OW_tr, DL.OW_te, DL.OW_notT, DL.OW_andT, DL.OW_orT, DL.OW_and, DL.OW_or, DL.OW_not, DL.OW_if, DL.OW_nil, DL.OW_cons, DL.OW_lst, DL.OW_tup, DL.OW_chain, DL.OW_oNo, DL.OW_oSo, DL.OW_sl, DL.OW_new, DL.OW_newO_v, DL.OW_newO_f, DL.OW_newO_s, DL.OW_retO_v, DL.OW_retO_f, DL.OW_retO_s, DL.OW_nNil, DL.OW_nCons, DL.OW_call, DL.OW_iNil, DL.OW_iCons, DL.OW_iLnd, DL.OW_gI, DL.OW_itF, DL.OW_it, DL.OW_rng1, DL.OW_rng2, DL.OW_zipK, DL.OW_enum, DL.OW_enumV, DL.OW_lc, DL.OW_yes, DL.SL_d, DL.SL_o, DL.SL_b, DL.SF_d, DL.SF_o, DL.SRt_d, DL.SRt_o, DL.TB_v, DL.TI_i, DL.L2_2, DL.L3_3, DL.SI_i, DL.SX_o, DL.SX_b, DL.IF_t, DL.IF_f, reduceCtorEq, DL.isi_int_int, DL.isi_int_bl, DL.isi_int_str, DL.isi_int_lst, DL.isi_int_tup, DL.isi_int_non, DL.isi_bool_int, DL.isi_bool_bl, DL.isi_bool_str, DL.isi_bool_lst, DL.isi_bool_tup, DL.isi_bool_non, DL.isi_str_int, DL.isi_str_bl, DL.isi_str_str, DL.isi_str_lst, DL.isi_str_tup, DL.isi_str_non, DL.isi_list_int, DL.isi_list_bl, DL.isi_list_str, DL.isi_list_lst, DL.isi_list_tup, DL.isi_list_non, DL.isi_tuple_int, DL.isi_tuple_bl, DL.isi_tuple_str, DL.isi_tuple_lst, DL.isi_tuple_tup, DL.isi_tuple_non, DL.isi2_int, DL.isi2_bl, DL.isi2_str, DL.isi2_lst, DL.isi2_tup, DL.isi2_non, DL.OB_tuple_l, DL.OB_tuple_t, DL.OB_list_l, DL.OB_list_t, DL.OB_sum, DL.OB_all, DL.OB_any, DL.bls_nil, DL.bls_cons, DL.blsOf_map, DL.ints_nil, DL.ints_cons, DL.intsOf_map, DL.OB_map, DL.OW_lc0, DL.OW_lcY, id, List.all_map, DL.tru_bl, DL.tru_int, DL.tru_lst, DL.tru_tup, DL.tru_non, DL.IF_n, DL.IF_d, DL.OB_some, DL.OB_none, DL.OB_ite, DL.fzT_v, DL.fzT_f, DL.fzT_s, DL.dr_v, DL.dr_f, DL.dr_s, DL.slot_z, DL.slot_s, DL.Sc_v, DL.Sc_s, DL.argsSV_nil, DL.argsSV_d, DL.argsSV_i', DL.SMt_o, DL.SMt_b, DL.pb_nil, DL.pb_nil2, DL.pb_cons, DL.SPt_o, DL.SPt_b, DL.retT_d, DL.retT_o, DL.lS_nil, DL.lS_d, DL.lS_i, DL.lP_nil, DL.lP_d, DL.lP_i, DL.SVl_d, DL.SVl_o, DL.SVl_b, DL.backOf_nil, DL.backOf_cons, DL.sqOf_l, DL.sqOf_t, DL.seqD_l, DL.seqD_t, DL.items_l, DL.items_t, DL.srcOk_n, DL.OB_gN, DL.OB_gK, DL.OB_gCons, DL.OB_gNil, DL.OB_add, DL.OB_sub, DL.OB_mul, DL.OB_mulL, DL.OB_fdiv, DL.OB_mod, DL.OB_pow, DL.OB_shl, DL.OB_bits, DL.OB_sl_l, DL.OB_sl_f, DL.OB_neg, DL.OB_lt, DL.OB_le, DL.OB_gt, DL.OB_ge, DL.OB_eq, DL.OB_ne, DL.eqB_int, DL.eqB_str, DL.OB_is, DL.OB_isn, DL.OB_len_l, DL.OB_len_t, DL.OB_abs, DL.OB_int, DL.OB_intb, DL.OB_ix_l, DL.OB_ix_t, DL.OB_gcd, DL.OB_lcm, DL.OB_max2, DL.OB_min2, DL.isNon, false_implies, implies_true, DL.rng_len, DL.enum_len, DL.zip_len, Int.toNat_natCast, DL.atI0, DL.atI1, DL.nd0, DL.nd1, DL.atI2, DL.ixN_b, DL.ixN_1, DL.ixN_2, DL.wipeE, DL.restE, DL.ownFree, Option.map_some, Option.isSome_some, DL.put_o, DL.put_b, DL.val_o, DL.val_b, DL.val_d, DL.ends, List.map_cons, List.map_nil, List.cons_append, List.nil_append, List.length_cons, List.length_nil, List.set_cons_zero, List.set_cons_succ, List.set_nil, List.replicate_zero, List.replicate_succ, List.all_cons, List.all_nil, Bool.and_true, Bool.and_self, true_and, and_true, and_self, Nat.reduceAdd, Nat.reduceLT, Nat.reduceLeDiff, Nat.reduceSub, Nat.zero_le, Nat.zero_add]
      exact ⟨⟨(1 + r5).toNat, by show D.int _ = D.int _; congr 1; omega, by omega, by omega⟩, _, h5, rfl⟩
    · rw [rng_len] at hl h4
      obtain ⟨ls, rfl, hls⟩ := map_of (f := nD) (P := fun l => 1 ≤ l ∧ l ≤ 30) hP
      rw [List.length_map] at hl
      have hL : Len (.lst (ls.map nD)) ls := ⟨.inl rfl, by omega, by omega, hls⟩
      have hLt : Len (.tup (ls.map nD)) ls := ⟨.inr rfl, by omega, by omega, hls⟩
      simp only [DL.SW_nx, DL.SW_rt, DL.SW_pass, DL.SW_brk, DL.SW_cnt, DL.SW_seq, DL.SW_drop, DL.SW_set, DL.SW_ret, DL.SW_ifS, DL.SW_asg, DL.SW_par2, DL.SW_par3, DL.SW_aug, DL.SW_raise, DL.SW_setIx, DL.SW_for, DL.SW_while, DL.OW_ok, DL.OW_no, DL.OW_var, DL.OW_c, DL.OW_fz, DL.OW_fa, DL.OW_faO_v, DL.OW_faO_f, DL.OW_faO_s, DL.OW_bin, DL.OW_un, DL.OW_tr, DL.OW_te, DL.OW_notT, DL.OW_andT, DL.OW_orT, DL.OW_and, DL.OW_or, DL.OW_not, DL.OW_if, DL.OW_nil, DL.OW_cons, DL.OW_lst, DL.OW_tup, DL.OW_chain, DL.OW_oNo, DL.OW_oSo, DL.OW_sl, DL.OW_new, DL.OW_newO_v, DL.OW_newO_f, DL.OW_newO_s, DL.OW_retO_v, DL.OW_retO_f, DL.OW_retO_s, DL.OW_nNil, DL.OW_nCons, DL.OW_call, DL.OW_iNil, DL.OW_iCons, DL.OW_iLnd, DL.OW_gI, DL.OW_itF, DL.OW_it, DL.OW_rng1, DL.OW_rng2, DL.OW_zipK, DL.OW_enum, DL.OW_enumV, DL.OW_lc, DL.OW_yes, DL.SL_d, DL.SL_o, DL.SL_b, DL.SF_d, DL.SF_o, DL.SRt_d, DL.SRt_o, DL.TB_v, DL.TI_i, DL.L2_2, DL.L3_3, DL.SI_i, DL.SX_o, DL.SX_b, DL.IF_t, DL.IF_f, reduceCtorEq, DL.isi_int_int, DL.isi_int_bl, DL.isi_int_str, DL.isi_int_lst, DL.isi_int_tup, DL.isi_int_non, DL.isi_bool_int, DL.isi_bool_bl, DL.isi_bool_str, DL.isi_bool_lst, DL.isi_bool_tup, DL.isi_bool_non, DL.isi_str_int, DL.isi_str_bl, DL.isi_str_str, DL.isi_str_lst, DL.isi_str_tup, DL.isi_str_non, DL.isi_list_int, DL.isi_list_bl, DL.isi_list_str, DL.isi_list_lst, DL.isi_list_tup, DL.isi_list_non, DL.isi_tuple_int, DL.isi_tuple_bl, DL.isi_tuple_str, DL.isi_tuple_lst, DL.isi_tuple_tup, DL.isi_tuple_non, DL.isi2_int, DL.isi2_bl, DL.isi2_str, DL.isi2_lst, DL.isi2_tup, DL.isi2_non, DL.OB_tuple_l, DL.OB_tuple_t, DL.OB_list_l, DL.OB_list_t, DL.OB_sum, DL.OB_all, DL.OB_any, DL.bls_nil, DL.bls_cons, DL.blsOf_map, DL.ints_nil, DL.ints_cons, DL.intsOf_map, DL.OB_map, DL.OW_lc0, DL.OW_lcY, id, List.all_map, DL.tru_bl, DL.tru_int, DL.tru_lst, DL.tru_tup, DL.tru_non, DL.IF_n, DL.IF_d, DL.OB_some, DL.OB_none, DL.OB_ite, DL.fzT_v, DL.fzT_f, DL.fzT_s, DL.dr_v, DL.dr_f, DL.dr_s, DL.slot_z, DL.slot_s, DL.Sc_v, DL.Sc_s, DL.argsSV_nil, DL.argsSV_d, DL.argsSV_i', DL.SMt_o, DL.SMt_b, DL.pb_nil, DL.pb_nil2, DL.pb_cons, DL.SPt_o, DL.SPt_b, DL.retT_d, DL.retT_o, DL.lS_nil, DL.lS_d, DL.lS_i, DL.lP_nil, DL.lP_d, DL.lP_i, DL.SVl_d, DL.SVl_o, DL.SVl_b, DL.backOf_nil, DL.backOf_cons, DL.sqOf_l, DL.sqOf_t, DL.seqD_l, DL.seqD_t, DL.items_l, DL.items_t, DL.srcOk_n, DL.OB_gN, DL.OB_gK, DL.OB_gCons, DL.OB_gNil, DL.OB_add, DL.OB_sub, DL.OB_mul, DL.OB_mulL, DL.OB_fdiv, DL.OB_mod, DL.OB_pow, DL.OB_shl, DL.OB_bits, DL.OB_sl_l, DL.OB_sl_f, DL.OB_neg, DL.OB_lt, DL.OB_le, DL.OB_gt, DL.OB_ge, DL.OB_eq, DL.OB_ne, DL.eqB_int, DL.eqB_str, DL.OB_is, DL.OB_isn, DL.OB_len_l, DL.OB_len_t, DL.OB_abs, DL.OB_int, DL.OB_intb, DL.OB_ix_l, DL.OB_ix_t, DL.OB_gcd, DL.OB_lcm, DL.OB_max2, DL.OB_min2, DL.isNon, false_implies, implies_true, DL.rng_len, DL.enum_len, DL.zip_len, Int.toNat_natCast, DL.atI0, DL.atI1, DL.nd0, DL.nd1, DL.atI2, DL.ixN_b, DL.ixN_1, DL.ixN_2, DL.wipeE, DL.restE, DL.ownFree, Option.map_some, Option.isSome_some, DL.put_o, DL.put_b, DL.val_o, DL.val_b, DL.val_d, DL.ends, List.map_cons, List.map_nil, List.cons_append, List.nil_append, List.length_cons, List.length_nil, List.set_cons_zero, List.set_cons_succ, List.set_nil, List.replicate_zero, List.replicate_succ, List.all_cons, List.all_nil, Bool.and_true, Bool.and_self, true_and, and_true, and_self, Nat.reduceAdd, Nat.reduceLT, Nat.reduceLeDiff, Nat.reduceSub, Nat.zero_le, Nat.zero_add]
      refine ⟨by rw [List.length_map]; omega, ⟨by rcases hx5 with rfl | ⟨z, rfl⟩ <;> rfl, by rw [List.length_map]; omega⟩, ?_⟩
      rw [List.length_map]
      have hfl : facs ls = (rngD 0 ls.length).map (fun x => match x with
        | .int p => facD (fac ls p.toNat (ls.getD p.toNat 0))
        | _ => .non) := facs_map.symm
      refine OW_lcI (fun j acc e => acc = ((rngD 0 ls.length).take j).map (fun x => match x with
        | .int p => facD (fac ls p.toNat (ls.getD p.toNat 0))
        | _ => .non) ∧ ∃ o, (o = SV.o (.lst (ls.map nD)) ∨ o = SV.d (.lst (ls.map nD))) ∧ e = [some (.d (.lsf (ns.map D.int))), some (.o d4), some (.d (.int (0 + (i : Int)))), some (.d (.int m)), some o, none, x6, x7, x8, x9, x10, x11, x12, none]) _ 0 [] _ ⟨rfl, _, .inl rfl, rfl⟩ (fun j x acc e hx hj => ?_) fun acc' e hj r hr => ?_
      · rw [Nat.zero_add] at hj ⊢
        obtain ⟨rfl, o, ho, rfl⟩ := hj
        obtain ⟨hjl, rfl⟩ := rng_get hx
        have hlj : ls[j]? = some ls[j] := List.getElem?_eq_getElem hjl
        have hdu : ∀ {Q : SV → List D → Prop} {E : Str → List (Str × D) → List D → Prop}, FW (mf__law_due [.d (.lst (ls.map nD)), .d (.int (0 + (j : Int)))]) Q E = Q (.d (facD (fac ls j ls[j]))) [] := by
          intro Q E
          rw [Int.zero_add]
          exact due_ok hL hlj
        have ej : ((rngD 0 ls.length).take (j + 1)).map (fun x => match x with
          | .int p => facD (fac ls p.toNat (ls.getD p.toNat 0))
          | _ => .non) = ((rngD 0 ls.length).take j).map (fun x => match x with
          | .int p => facD (fac ls p.toNat (ls.getD p.toNat 0))
          | _ => .non) ++ [facD (fac ls j ls[j])] := by
          rw [List.take_add_one, hx, List.map_append]
          simp [hjl]
        rcases ho with rfl | rfl
        all_goals
          simp only [DL.SW_nx, DL.SW_rt, DL.SW_pass, DL.SW_brk, DL.SW_cnt, DL.SW_seq, DL.SW_drop, DL.SW_set, DL.SW_ret, DL.SW_ifS, DL.SW_asg, DL.SW_par2, DL.SW_par3, DL.SW_aug, DL.SW_raise, DL.SW_setIx, DL.SW_for, DL.SW_for0, DL.SW_forS, DL.SW_while, DL.OW_ok, DL.OW_no, DL.OW_var, DL.OW_c, DL.OW_fz, DL.OW_fa, DL.OW_faO_v, DL.OW_faO_f, DL.OW_faO_s, DL.OW_bin, DL.OW_un, DL.OW_tr, DL.OW_te, DL.OW_notT, DL.OW_andT, DL.OW_orT, DL.OW_and, DL.OW_or, DL.OW_not, DL.OW_if, DL.OW_nil, DL.OW_cons, DL.OW_lst, DL.OW_tup, DL.OW_chain, DL.OW_oNo, DL.OW_oSo, DL.OW_sl, DL.OW_new, DL.OW_newO_v, DL.OW_newO_f, DL.OW_newO_s, DL.OW_retO_v, DL.OW_retO_f, DL.OW_retO_s, DL.OW_nNil, DL.OW_nCons, DL.OW_call, DL.OW_iNil, DL.OW_iCons, DL.OW_iLnd, DL.OW_gI, DL.OW_itF, DL.OW_it, DL.OW_rng1, DL.OW_rng2, DL.OW_zipK, DL.OW_enum, DL.OW_enumV, DL.OW_lc, DL.OW_yes, DL.SL_d, DL.SL_o, DL.SL_b, DL.SF_d, DL.SF_o, DL.SRt_d, DL.SRt_o, DL.TB_v, DL.TI_i, DL.L2_2, DL.L3_3, DL.SI_i, DL.SX_o, DL.SX_b, DL.IF_t, DL.IF_f, reduceCtorEq, DL.isi_int_int, DL.isi_int_bl, DL.isi_int_str, DL.isi_int_lst, DL.isi_int_tup, DL.isi_int_non, DL.isi_bool_int, DL.isi_bool_bl, DL.isi_bool_str, DL.isi_bool_lst, DL.isi_bool_tup, DL.isi_bool_non, DL.isi_str_int, DL.isi_str_bl, DL.isi_str_str, DL.isi_str_lst, DL.isi_str_tup, DL.isi_str_non, DL.isi_list_int, DL.isi_list_bl, DL.isi_list_str, DL.isi_list_lst, DL.isi_list_tup, DL.isi_list_non, DL.isi_tuple_int, DL.isi_tuple_bl, DL.isi_tuple_str, DL.isi_tuple_lst, DL.isi_tuple_tup, DL.isi_tuple_non, DL.isi2_int, DL.isi2_bl, DL.isi2_str, DL.isi2_lst, DL.isi2_tup, DL.isi2_non, DL.OB_tuple_l, DL.OB_tuple_t, DL.OB_list_l, DL.OB_list_t, DL.OB_sum, DL.OB_all, DL.OB_any, DL.bls_nil, DL.bls_cons, DL.blsOf_map, DL.ints_nil, DL.ints_cons, DL.intsOf_map, DL.OB_map, DL.OW_lc0, DL.OW_lcY, id, List.all_map, DL.tru_bl, DL.tru_int, DL.tru_lst, DL.tru_tup, DL.tru_non, DL.IF_n, DL.IF_d, DL.OB_some, DL.OB_none, DL.OB_ite, DL.fzT_v, DL.fzT_f, DL.fzT_s, DL.dr_v, DL.dr_f, DL.dr_s, DL.slot_z, DL.slot_s, DL.Sc_v, DL.Sc_s, DL.argsSV_nil, DL.argsSV_d, DL.argsSV_i', DL.SMt_o, DL.SMt_b, DL.pb_nil, DL.pb_nil2, DL.pb_cons, DL.SPt_o, DL.SPt_b, DL.retT_d, DL.retT_o, DL.lS_nil, DL.lS_d, DL.lS_i, DL.lP_nil, DL.lP_d, DL.lP_i, DL.SVl_d, DL.SVl_o, DL.SVl_b, DL.backOf_nil, DL.backOf_cons, DL.sqOf_l, DL.sqOf_t, DL.seqD_l, DL.seqD_t, DL.items_l, DL.items_t, DL.srcOk_n, DL.OB_gN, DL.OB_gK, DL.OB_gCons, DL.OB_gNil, DL.OB_add, DL.OB_sub, DL.OB_mul, DL.OB_mulL, DL.OB_fdiv, DL.OB_mod, DL.OB_pow, DL.OB_shl, DL.OB_bits, DL.OB_sl_l, DL.OB_sl_f, DL.OB_neg, DL.OB_lt, DL.OB_le, DL.OB_gt, DL.OB_ge, DL.OB_eq, DL.OB_ne, DL.eqB_int, DL.eqB_str, DL.OB_is, DL.OB_isn, DL.OB_len_l, DL.OB_len_t, DL.OB_abs, DL.OB_int, DL.OB_intb, DL.OB_ix_l, DL.OB_ix_t, DL.OB_gcd, DL.OB_lcm, DL.OB_max2, DL.OB_min2, DL.isNon, false_implies, implies_true, DL.rng_len, DL.enum_len, DL.zip_len, Int.toNat_natCast, DL.atI0, DL.atI1, DL.nd0, DL.nd1, DL.atI2, DL.ixN_b, DL.ixN_1, DL.ixN_2, DL.wipeE, DL.restE, DL.ownFree, Option.map_some, Option.isSome_some, DL.put_o, DL.put_b, DL.val_o, DL.val_b, DL.val_d, DL.ends, List.map_cons, List.map_nil, List.cons_append, List.nil_append, List.length_cons, List.length_nil, List.set_cons_zero, List.set_cons_succ, List.set_nil, List.replicate_zero, List.replicate_succ, List.all_cons, List.all_nil, Bool.and_true, Bool.and_self, true_and, and_true, and_self, Nat.reduceAdd, Nat.reduceLT, Nat.reduceLeDiff, Nat.reduceSub, Nat.zero_le, Nat.zero_add, hdu]
          exact ⟨ej.symm, _, .inr rfl, rfl⟩
      · rw [Nat.zero_add, rng_len] at hj
        obtain ⟨rfl, o, ho, rfl⟩ := hj
        rw [List.nil_append] at hr
        rw [List.take_of_length_le (by rw [rng_len]; omega), ← hfl] at hr
        subst hr
        obtain ⟨sF, hsF⟩ := facs_rep (ls := ls) (by omega)
        have hlf : ∀ {Q : SV → List D → Prop} {E : Str → List (Str × D) → List D → Prop}, FW (mf_lap_factors [.d (.lst (ls.map nD))]) Q E = Q (.d (.tup (facs ls))) [] := lap_factors_ok hL
        have hlt : ∀ {Q : SV → List D → Prop} {E : Str → List (Str × D) → List D → Prop}, FW (mf_lap_factors [.d (.tup (ls.map nD))]) Q E = Q (.d (.tup (facs ls))) [] := lap_factors_ok hLt
        have hlk : eqB (.lst (ls.map nD)) (.lst (ls.map nD)) = some true := by
          rw [show ls.map nD = (ls.map fun (n : Nat) => (n : Int)).map D.int by rw [List.map_map]; rfl]
          exact ints_self
        rcases ho with rfl | rfl
        all_goals
          simp only [DL.SW_nx, DL.SW_rt, DL.SW_pass, DL.SW_brk, DL.SW_cnt, DL.SW_seq, DL.SW_drop, DL.SW_set, DL.SW_ret, DL.SW_ifS, DL.SW_asg, DL.SW_par2, DL.SW_par3, DL.SW_aug, DL.SW_raise, DL.SW_setIx, DL.SW_for, DL.SW_for0, DL.SW_forS, DL.SW_while, DL.OW_ok, DL.OW_no, DL.OW_var, DL.OW_c, DL.OW_fz, DL.OW_fa, DL.OW_faO_v, DL.OW_faO_f, DL.OW_faO_s, DL.OW_bin, DL.OW_un, DL.OW_tr, DL.OW_te, DL.OW_notT, DL.OW_andT, DL.OW_orT, DL.OW_and, DL.OW_or, DL.OW_not, DL.OW_if, DL.OW_nil, DL.OW_cons, DL.OW_lst, DL.OW_tup, DL.OW_chain, DL.OW_oNo, DL.OW_oSo, DL.OW_sl, DL.OW_new, DL.OW_newO_v, DL.OW_newO_f, DL.OW_newO_s, DL.OW_retO_v, DL.OW_retO_f, DL.OW_retO_s, DL.OW_nNil, DL.OW_nCons, DL.OW_call, DL.OW_iNil, DL.OW_iCons, DL.OW_iLnd, DL.OW_gI, DL.OW_itF, DL.OW_it, DL.OW_rng1, DL.OW_rng2, DL.OW_zipK, DL.OW_enum, DL.OW_enumV, DL.OW_lc, DL.OW_yes, DL.SL_d, DL.SL_o, DL.SL_b, DL.SF_d, DL.SF_o, DL.SRt_d, DL.SRt_o, DL.TB_v, DL.TI_i, DL.L2_2, DL.L3_3, DL.SI_i, DL.SX_o, DL.SX_b, DL.IF_t, DL.IF_f, reduceCtorEq, DL.isi_int_int, DL.isi_int_bl, DL.isi_int_str, DL.isi_int_lst, DL.isi_int_tup, DL.isi_int_non, DL.isi_bool_int, DL.isi_bool_bl, DL.isi_bool_str, DL.isi_bool_lst, DL.isi_bool_tup, DL.isi_bool_non, DL.isi_str_int, DL.isi_str_bl, DL.isi_str_str, DL.isi_str_lst, DL.isi_str_tup, DL.isi_str_non, DL.isi_list_int, DL.isi_list_bl, DL.isi_list_str, DL.isi_list_lst, DL.isi_list_tup, DL.isi_list_non, DL.isi_tuple_int, DL.isi_tuple_bl, DL.isi_tuple_str, DL.isi_tuple_lst, DL.isi_tuple_tup, DL.isi_tuple_non, DL.isi2_int, DL.isi2_bl, DL.isi2_str, DL.isi2_lst, DL.isi2_tup, DL.isi2_non, DL.OB_tuple_l, DL.OB_tuple_t, DL.OB_list_l, DL.OB_list_t, DL.OB_sum, DL.OB_all, DL.OB_any, DL.bls_nil, DL.bls_cons, DL.blsOf_map, DL.ints_nil, DL.ints_cons, DL.intsOf_map, DL.OB_map, DL.OW_lc0, DL.OW_lcY, id, List.all_map, DL.tru_bl, DL.tru_int, DL.tru_lst, DL.tru_tup, DL.tru_non, DL.IF_n, DL.IF_d, DL.OB_some, DL.OB_none, DL.OB_ite, DL.fzT_v, DL.fzT_f, DL.fzT_s, DL.dr_v, DL.dr_f, DL.dr_s, DL.slot_z, DL.slot_s, DL.Sc_v, DL.Sc_s, DL.argsSV_nil, DL.argsSV_d, DL.argsSV_i', DL.SMt_o, DL.SMt_b, DL.pb_nil, DL.pb_nil2, DL.pb_cons, DL.SPt_o, DL.SPt_b, DL.retT_d, DL.retT_o, DL.lS_nil, DL.lS_d, DL.lS_i, DL.lP_nil, DL.lP_d, DL.lP_i, DL.SVl_d, DL.SVl_o, DL.SVl_b, DL.backOf_nil, DL.backOf_cons, DL.sqOf_l, DL.sqOf_t, DL.seqD_l, DL.seqD_t, DL.items_l, DL.items_t, DL.srcOk_n, DL.OB_gN, DL.OB_gK, DL.OB_gCons, DL.OB_gNil, DL.OB_add, DL.OB_sub, DL.OB_mul, DL.OB_mulL, DL.OB_fdiv, DL.OB_mod, DL.OB_pow, DL.OB_shl, DL.OB_bits, DL.OB_sl_l, DL.OB_sl_f, DL.OB_neg, DL.OB_lt, DL.OB_le, DL.OB_gt, DL.OB_ge, DL.OB_eq, DL.OB_ne, DL.eqB_int, DL.eqB_str, DL.OB_is, DL.OB_isn, DL.OB_len_l, DL.OB_len_t, DL.OB_abs, DL.OB_int, DL.OB_intb, DL.OB_ix_l, DL.OB_ix_t, DL.OB_gcd, DL.OB_lcm, DL.OB_max2, DL.OB_min2, DL.isNon, false_implies, implies_true, DL.rng_len, DL.enum_len, DL.zip_len, Int.toNat_natCast, DL.atI0, DL.atI1, DL.nd0, DL.nd1, DL.atI2, DL.ixN_b, DL.ixN_1, DL.ixN_2, DL.wipeE, DL.restE, DL.ownFree, Option.map_some, Option.isSome_some, DL.put_o, DL.put_b, DL.val_o, DL.val_b, DL.val_d, DL.ends, List.map_cons, List.map_nil, List.cons_append, List.nil_append, List.length_cons, List.length_nil, List.set_cons_zero, List.set_cons_succ, List.set_nil, List.replicate_zero, List.replicate_succ, List.all_cons, List.all_nil, Bool.and_true, Bool.and_self, true_and, and_true, and_self, Nat.reduceAdd, Nat.reduceLT, Nat.reduceLeDiff, Nat.reduceSub, Nat.zero_le, Nat.zero_add, hlf, hlt, hsF, facs_self, hlk, gId, Bool.not_true, Bool.not_false]
        all_goals
          refine ⟨by decide, fun _ => ?_, fun z => absurd trivial z⟩
          refine SW_forI (fun j e => ∃ d' a5 a9, e = [some (.d (.lsf (ns.map D.int))), some (.o d'), some (.d (.int (0 + (i : Int)))), some (.d (.int m)), some (.d (.lst (ls.map nD))), a5, some (.d (.tup (facs ls))), some (.d (.tup (facs ls))), some (.o (.lst (ls.map nD))), a9, x10, x11, x12, none] ∧ Nt (i * 200 + 20 + 2 * j) d' ∧ (a5 = none ∨ ∃ z, a5 = some (.d z))) _ 0 _ ⟨d4, x5, x9, rfl, h4.mono (by omega), hx5⟩ (fun j x e hx he => ?_) fun e he => ?_
          · rw [Nat.zero_add] at he ⊢
            obtain ⟨d5, a5, a9, rfl, h5, ha5⟩ := he
            obtain ⟨x', hx', rfl⟩ := enum_get hx
            unfold facs at hx'
            rw [List.getElem?_mapIdx] at hx'
            obtain ⟨l, hlj, rfl⟩ := Option.map_eq_some_iff.mp hx'
            have hjl := (List.getElem?_eq_some_iff.mp hlj).1
            simp only [DL.SW_nx, DL.SW_rt, DL.SW_pass, DL.SW_brk, DL.SW_cnt, DL.SW_seq, DL.SW_drop, DL.SW_set, DL.SW_ret, DL.SW_ifS, DL.SW_asg, DL.SW_par2, DL.SW_par3, DL.SW_aug, DL.SW_raise, DL.SW_setIx, DL.SW_for, DL.SW_for0, DL.SW_forS, DL.SW_while, DL.OW_ok, DL.OW_no, DL.OW_var, DL.OW_c, DL.OW_fz, DL.OW_fa, DL.OW_faO_v, DL.OW_faO_f, DL.OW_faO_s, DL.OW_bin, DL.OW_un, DL.OW_tr, DL.OW_te, DL.OW_notT, DL.OW_andT, DL.OW_orT, DL.OW_and, DL.OW_or, DL.OW_not, DL.OW_if, DL.OW_nil, DL.OW_cons, DL.OW_lst, DL.OW_tup, DL.OW_chain, DL.OW_oNo, DL.OW_oSo, DL.OW_sl, DL.OW_new, DL.OW_newO_v, DL.OW_newO_f, DL.OW_newO_s, DL.OW_retO_v, DL.OW_retO_f, DL.OW_retO_s, DL.OW_nNil, DL.OW_nCons, DL.OW_call, DL.OW_iNil, DL.OW_iCons, DL.OW_iLnd, DL.OW_gI, DL.OW_itF, DL.OW_it, DL.OW_rng1, DL.OW_rng2, DL.OW_zipK, DL.OW_enum, DL.OW_enumV, DL.OW_lc, DL.OW_yes, DL.SL_d, DL.SL_o, DL.SL_b, DL.SF_d, DL.SF_o, DL.SRt_d, DL.SRt_o, DL.TB_v, DL.TI_i, DL.L2_2, DL.L3_3, DL.SI_i, DL.SX_o, DL.SX_b, DL.IF_t, DL.IF_f, reduceCtorEq, DL.isi_int_int, DL.isi_int_bl, DL.isi_int_str, DL.isi_int_lst, DL.isi_int_tup, DL.isi_int_non, DL.isi_bool_int, DL.isi_bool_bl, DL.isi_bool_str, DL.isi_bool_lst, DL.isi_bool_tup, DL.isi_bool_non, DL.isi_str_int, DL.isi_str_bl, DL.isi_str_str, DL.isi_str_lst, DL.isi_str_tup, DL.isi_str_non, DL.isi_list_int, DL.isi_list_bl, DL.isi_list_str, DL.isi_list_lst, DL.isi_list_tup, DL.isi_list_non, DL.isi_tuple_int, DL.isi_tuple_bl, DL.isi_tuple_str, DL.isi_tuple_lst, DL.isi_tuple_tup, DL.isi_tuple_non, DL.isi2_int, DL.isi2_bl, DL.isi2_str, DL.isi2_lst, DL.isi2_tup, DL.isi2_non, DL.OB_tuple_l, DL.OB_tuple_t, DL.OB_list_l, DL.OB_list_t, DL.OB_sum, DL.OB_all, DL.OB_any, DL.bls_nil, DL.bls_cons, DL.blsOf_map, DL.ints_nil, DL.ints_cons, DL.intsOf_map, DL.OB_map, DL.OW_lc0, DL.OW_lcY, id, List.all_map, DL.tru_bl, DL.tru_int, DL.tru_lst, DL.tru_tup, DL.tru_non, DL.IF_n, DL.IF_d, DL.OB_some, DL.OB_none, DL.OB_ite, DL.fzT_v, DL.fzT_f, DL.fzT_s, DL.dr_v, DL.dr_f, DL.dr_s, DL.slot_z, DL.slot_s, DL.Sc_v, DL.Sc_s, DL.argsSV_nil, DL.argsSV_d, DL.argsSV_i', DL.SMt_o, DL.SMt_b, DL.pb_nil, DL.pb_nil2, DL.pb_cons, DL.SPt_o, DL.SPt_b, DL.retT_d, DL.retT_o, DL.lS_nil, DL.lS_d, DL.lS_i, DL.lP_nil, DL.lP_d, DL.lP_i, DL.SVl_d, DL.SVl_o, DL.SVl_b, DL.backOf_nil, DL.backOf_cons, DL.sqOf_l, DL.sqOf_t, DL.seqD_l, DL.seqD_t, DL.items_l, DL.items_t, DL.srcOk_n, DL.OB_gN, DL.OB_gK, DL.OB_gCons, DL.OB_gNil, DL.OB_add, DL.OB_sub, DL.OB_mul, DL.OB_mulL, DL.OB_fdiv, DL.OB_mod, DL.OB_pow, DL.OB_shl, DL.OB_bits, DL.OB_sl_l, DL.OB_sl_f, DL.OB_neg, DL.OB_lt, DL.OB_le, DL.OB_gt, DL.OB_ge, DL.OB_eq, DL.OB_ne, DL.eqB_int, DL.eqB_str, DL.OB_is, DL.OB_isn, DL.OB_len_l, DL.OB_len_t, DL.OB_abs, DL.OB_int, DL.OB_intb, DL.OB_ix_l, DL.OB_ix_t, DL.OB_gcd, DL.OB_lcm, DL.OB_max2, DL.OB_min2, DL.isNon, false_implies, implies_true, DL.rng_len, DL.enum_len, DL.zip_len, Int.toNat_natCast, DL.atI0, DL.atI1, DL.nd0, DL.nd1, DL.atI2, DL.ixN_b, DL.ixN_1, DL.ixN_2, DL.wipeE, DL.restE, DL.ownFree, Option.map_some, Option.isSome_some, DL.put_o, DL.put_b, DL.val_o, DL.val_b, DL.val_d, DL.ends, List.map_cons, List.map_nil, List.cons_append, List.nil_append, List.length_cons, List.length_nil, List.set_cons_zero, List.set_cons_succ, List.set_nil, List.replicate_zero, List.replicate_succ, List.all_cons, List.all_nil, Bool.and_true, Bool.and_self, true_and, and_true, and_self, Nat.reduceAdd, Nat.reduceLT, Nat.reduceLeDiff, Nat.reduceSub, Nat.zero_le, Nat.zero_add]
            refine ⟨fun hm => ?_, fun hm => ⟨d5, _, _, rfl, h5.mono (by omega), .inr ⟨_, rfl⟩⟩⟩
            refine place_right_ok h5 (by omega) hL hlj rfl fun t' ht => ?_
            simp only [DL.SW_nx, DL.SW_rt, DL.SW_pass, DL.SW_brk, DL.SW_cnt, DL.SW_seq, DL.SW_drop, DL.SW_set, DL.SW_ret, DL.SW_ifS, DL.SW_asg, DL.SW_par2, DL.SW_par3, DL.SW_aug, DL.SW_raise, DL.SW_setIx, DL.SW_for, DL.SW_for0, DL.SW_forS, DL.SW_while, DL.OW_ok, DL.OW_no, DL.OW_var, DL.OW_c, DL.OW_fz, DL.OW_fa, DL.OW_faO_v, DL.OW_faO_f, DL.OW_faO_s, DL.OW_bin, DL.OW_un, DL.OW_tr, DL.OW_te, DL.OW_notT, DL.OW_andT, DL.OW_orT, DL.OW_and, DL.OW_or, DL.OW_not, DL.OW_if, DL.OW_nil, DL.OW_cons, DL.OW_lst, DL.OW_tup, DL.OW_chain, DL.OW_oNo, DL.OW_oSo, DL.OW_sl, DL.OW_new, DL.OW_newO_v, DL.OW_newO_f, DL.OW_newO_s, DL.OW_retO_v, DL.OW_retO_f, DL.OW_retO_s, DL.OW_nNil, DL.OW_nCons, DL.OW_call, DL.OW_iNil, DL.OW_iCons, DL.OW_iLnd, DL.OW_gI, DL.OW_itF, DL.OW_it, DL.OW_rng1, DL.OW_rng2, DL.OW_zipK, DL.OW_enum, DL.OW_enumV, DL.OW_lc, DL.OW_yes, DL.SL_d, DL.SL_o, DL.SL_b, DL.SF_d, DL.SF_o, DL.SRt_d, DL.SRt_o, DL.TB_v, DL.TI_i, DL.L2_2, DL.L3_3, DL.SI_i, DL.SX_o, DL.SX_b, DL.IF_t, DL.IF_f, reduceCtorEq, DL.isi_int_int, DL.isi_int_bl, DL.isi_int_str, DL.isi_int_lst, DL.isi_int_tup, DL.isi_int_non, DL.isi_bool_int, DL.isi_bool_bl, DL.isi_bool_str, DL.isi_bool_lst, DL.isi_bool_tup, DL.isi_bool_non, DL.isi_str_int, DL.isi_str_bl, DL.isi_str_str, DL.isi_str_lst, DL.isi_str_tup, DL.isi_str_non, DL.isi_list_int, DL.isi_list_bl, DL.isi_list_str, DL.isi_list_lst, DL.isi_list_tup, DL.isi_list_non, DL.isi_tuple_int, DL.isi_tuple_bl, DL.isi_tuple_str, DL.isi_tuple_lst, DL.isi_tuple_tup, DL.isi_tuple_non, DL.isi2_int, DL.isi2_bl, DL.isi2_str, DL.isi2_lst, DL.isi2_tup, DL.isi2_non, DL.OB_tuple_l, DL.OB_tuple_t, DL.OB_list_l, DL.OB_list_t, DL.OB_sum, DL.OB_all, DL.OB_any, DL.bls_nil, DL.bls_cons, DL.blsOf_map, DL.ints_nil, DL.ints_cons, DL.intsOf_map, DL.OB_map, DL.OW_lc0, DL.OW_lcY, id, List.all_map, DL.tru_bl, DL.tru_int, DL.tru_lst, DL.tru_tup, DL.tru_non, DL.IF_n, DL.IF_d, DL.OB_some, DL.OB_none, DL.OB_ite, DL.fzT_v, DL.fzT_f, DL.fzT_s, DL.dr_v, DL.dr_f, DL.dr_s, DL.slot_z, DL.slot_s, DL.Sc_v, DL.Sc_s, DL.argsSV_nil, DL.argsSV_d, DL.argsSV_i', DL.SMt_o, DL.SMt_b, DL.pb_nil, DL.pb_nil2, DL.pb_cons, DL.SPt_o, DL.SPt_b, DL.retT_d, DL.retT_o, DL.lS_nil, DL.lS_d, DL.lS_i, DL.lP_nil, DL.lP_d, DL.lP_i, DL.SVl_d, DL.SVl_o, DL.SVl_b, DL.backOf_nil, DL.backOf_cons, DL.sqOf_l, DL.sqOf_t, DL.seqD_l, DL.seqD_t, DL.items_l, DL.items_t, DL.srcOk_n, DL.OB_gN, DL.OB_gK, DL.OB_gCons, DL.OB_gNil, DL.OB_add, DL.OB_sub, DL.OB_mul, DL.OB_mulL, DL.OB_fdiv, DL.OB_mod, DL.OB_pow, DL.OB_shl, DL.OB_bits, DL.OB_sl_l, DL.OB_sl_f, DL.OB_neg, DL.OB_lt, DL.OB_le, DL.OB_gt, DL.OB_ge, DL.OB_eq, DL.OB_ne, DL.eqB_int, DL.eqB_str, DL.OB_is, DL.OB_isn, DL.OB_len_l, DL.OB_len_t, DL.OB_abs, DL.OB_int, DL.OB_intb, DL.OB_ix_l, DL.OB_ix_t, DL.OB_gcd, DL.OB_lcm, DL.OB_max2, DL.OB_min2, DL.isNon, false_implies, implies_true, DL.rng_len, DL.enum_len, DL.zip_len, Int.toNat_natCast, DL.atI0, DL.atI1, DL.nd0, DL.nd1, DL.atI2, DL.ixN_b, DL.ixN_1, DL.ixN_2, DL.wipeE, DL.restE, DL.ownFree, Option.map_some, Option.isSome_some, DL.put_o, DL.put_b, DL.val_o, DL.val_b, DL.val_d, DL.ends, List.map_cons, List.map_nil, List.cons_append, List.nil_append, List.length_cons, List.length_nil, List.set_cons_zero, List.set_cons_succ, List.set_nil, List.replicate_zero, List.replicate_succ, List.all_cons, List.all_nil, Bool.and_true, Bool.and_self, true_and, and_true, and_self, Nat.reduceAdd, Nat.reduceLT, Nat.reduceLeDiff, Nat.reduceSub, Nat.zero_le, Nat.zero_add, Bool.not_true, Bool.not_false]
            exact ⟨t', _, _, rfl, ht.mono (by omega), .inr ⟨_, rfl⟩⟩
          · rw [Nat.zero_add, enum_len] at he
            obtain ⟨d5, a5, a9, rfl, h5, ha5⟩ := he
            have h5 : Nt (i * 200 + 40) d5 := h5.mono (by unfold facs; rw [List.length_mapIdx]; omega)
            simp only [DL.SW_nx, DL.SW_rt, DL.SW_pass, DL.SW_brk, DL.SW_cnt, DL.SW_seq, DL.SW_drop, DL.SW_set, DL.SW_ret, DL.SW_ifS, DL.SW_asg, DL.SW_par2, DL.SW_par3, DL.SW_aug, DL.SW_raise, DL.SW_setIx, DL.SW_for, DL.SW_for0, DL.SW_forS, DL.SW_while, DL.OW_ok, DL.OW_no, DL.OW_var, DL.OW_c, DL.OW_fz, DL.OW_fa, DL.OW_faO_v, DL.OW_faO_f, DL.OW_faO_s, DL.OW_bin, DL.OW_un, DL.OW_tr, DL.OW_te, DL.OW_notT, DL.OW_andT, DL.OW_orT, DL.OW_and, DL.OW_or, DL.OW_not, DL.OW_if, DL.OW_nil, DL.OW_cons, DL.OW_lst, DL.OW_tup, DL.OW_chain, DL.OW_oNo, DL.OW_oSo, DL.OW_sl, DL.OW_new, DL.OW_newO_v, DL.OW_newO_f, DL.OW_newO_s, DL.OW_retO_v, DL.OW_retO_f, DL.OW_retO_s, DL.OW_nNil, DL.OW_nCons, DL.OW_call, DL.OW_iNil, DL.OW_iCons, DL.OW_iLnd, DL.OW_gI, DL.OW_itF, DL.OW_it, DL.OW_rng1, DL.OW_rng2, DL.OW_zipK, DL.OW_enum, DL.OW_enumV, DL.OW_lc, DL.OW_yes, DL.SL_d, DL.SL_o, DL.SL_b, DL.SF_d, DL.SF_o, DL.SRt_d, DL.SRt_o, DL.TB_v, DL.TI_i, DL.L2_2, DL.L3_3, DL.SI_i, DL.SX_o, DL.SX_b, DL.IF_t, DL.IF_f, reduceCtorEq, DL.isi_int_int, DL.isi_int_bl, DL.isi_int_str, DL.isi_int_lst, DL.isi_int_tup, DL.isi_int_non, DL.isi_bool_int, DL.isi_bool_bl, DL.isi_bool_str, DL.isi_bool_lst, DL.isi_bool_tup, DL.isi_bool_non, DL.isi_str_int, DL.isi_str_bl, DL.isi_str_str, DL.isi_str_lst, DL.isi_str_tup, DL.isi_str_non, DL.isi_list_int, DL.isi_list_bl, DL.isi_list_str, DL.isi_list_lst, DL.isi_list_tup, DL.isi_list_non, DL.isi_tuple_int, DL.isi_tuple_bl, DL.isi_tuple_str, DL.isi_tuple_lst, DL.isi_tuple_tup, DL.isi_tuple_non, DL.isi2_int, DL.isi2_bl, DL.isi2_str, DL.isi2_lst, DL.isi2_tup, DL.isi2_non, DL.OB_tuple_l, DL.OB_tuple_t, DL.OB_list_l, DL.OB_list_t, DL.OB_sum, DL.OB_all, DL.OB_any, DL.bls_nil, DL.bls_cons, DL.blsOf_map, DL.ints_nil, DL.ints_cons, DL.intsOf_map, DL.OB_map, DL.OW_lc0, DL.OW_lcY, id, List.all_map, DL.tru_bl, DL.tru_int, DL.tru_lst, DL.tru_tup, DL.tru_non, DL.IF_n, DL.IF_d, DL.OB_some, DL.OB_none, DL.OB_ite, DL.fzT_v, DL.fzT_f, DL.fzT_s, DL.dr_v, DL.dr_f, DL.dr_s, DL.slot_z, DL.slot_s, DL.Sc_v, DL.Sc_s, DL.argsSV_nil, DL.argsSV_d, DL.argsSV_i', DL.SMt_o, DL.SMt_b, DL.pb_nil, DL.pb_nil2, DL.pb_cons, DL.SPt_o, DL.SPt_b, DL.retT_d, DL.retT_o, DL.lS_nil, DL.lS_d, DL.lS_i, DL.lP_nil, DL.lP_d, DL.lP_i, DL.SVl_d, DL.SVl_o, DL.SVl_b, DL.backOf_nil, DL.backOf_cons, DL.sqOf_l, DL.sqOf_t, DL.seqD_l, DL.seqD_t, DL.items_l, DL.items_t, DL.srcOk_n, DL.OB_gN, DL.OB_gK, DL.OB_gCons, DL.OB_gNil, DL.OB_add, DL.OB_sub, DL.OB_mul, DL.OB_mulL, DL.OB_fdiv, DL.OB_mod, DL.OB_pow, DL.OB_shl, DL.OB_bits, DL.OB_sl_l, DL.OB_sl_f, DL.OB_neg, DL.OB_lt, DL.OB_le, DL.OB_gt, DL.OB_ge, DL.OB_eq, DL.OB_ne, DL.eqB_int, DL.eqB_str, DL.OB_is, DL.OB_isn, DL.OB_len_l, DL.OB_len_t, DL.OB_abs, DL.OB_int, DL.OB_intb, DL.OB_ix_l, DL.OB_ix_t, DL.OB_gcd, DL.OB_lcm, DL.OB_max2, DL.OB_min2, DL.isNon, false_implies, implies_true, DL.rng_len, DL.enum_len, DL.zip_len, Int.toNat_natCast, DL.atI0, DL.atI1, DL.nd0, DL.nd1, DL.atI2, DL.ixN_b, DL.ixN_1, DL.ixN_2, DL.wipeE, DL.restE, DL.ownFree, Option.map_some, Option.isSome_some, DL.put_o, DL.put_b, DL.val_o, DL.val_b, DL.val_d, DL.ends, List.map_cons, List.map_nil, List.cons_append, List.nil_append, List.length_cons, List.length_nil, List.set_cons_zero, List.set_cons_succ, List.set_nil, List.replicate_zero, List.replicate_succ, List.all_cons, List.all_nil, Bool.and_true, Bool.and_self, true_and, and_true, and_self, Nat.reduceAdd, Nat.reduceLT, Nat.reduceLeDiff, Nat.reduceSub, Nat.zero_le, Nat.zero_add]
            rw [List.length_map]
            refine count_ok h5 (by omega) (by omega) (by omega) fun r6 d6 r60 r61 h6 => ?_
            simp only [DL.SW_nx, DL.SW_rt, DL.SW_pass, DL.SW_brk, DL.SW_cnt, DL.SW_seq, DL.SW_drop, DL.SW_set, DL.SW_ret, DL.SW_ifS, DL.SW_asg, DL.SW_par2, DL.SW_par3, DL.SW_aug, DL.SW_raise, DL.SW_setIx, DL.SW_for, DL.SW_for0, DL.SW_forS, DL.SW_while, DL.OW_ok, DL.OW_no, DL.OW_var, DL.OW_c, DL.OW_fz, DL.OW_fa, DL.OW_faO_v, DL.OW_faO_f, DL.OW_faO_s, DL.OW_bin, DL.OW_un, DL.OW_tr, DL.OW_te, DL.OW_notT, DL.OW_andT, DL.OW_orT, DL.OW_and, DL.OW_or, DL.OW_not, DL.OW_if, DL.OW_nil, DL.OW_cons, DL.OW_lst, DL.OW_tup, DL.OW_chain, DL.OW_oNo, DL.OW_oSo, DL.OW_sl, DL.OW_new, DL.OW_newO_v, DL.OW_newO_f, DL.OW_newO_s, DL.OW_retO_v, DL.OW_retO_f, DL.OW_retO_s, DL.OW_nNil, DL.OW_nCons, DL.OW_call, DL.OW_iNil, DL.OW_iCons, DL.OW_iLnd, DL.OW_gI, DL.OW_itF, DL.OW_it, DL.OW_rng1, DL.OW_rng2, DL.OW_zipK, DL.OW_enum, DL.OW_enumV, DL.OW_lc, DL.OW_yes, DL.SL_d, DL.SL_o, DL.SL_b, DL.SF_d, DL.SF_o, DL.SRt_d, DL.SRt_o, DL.TB_v, DL.TI_i, DL.L2_2, DL.L3_3, DL.SI_i, DL.SX_o, DL.SX_b, DL.IF_t, DL.IF_f, reduceCtorEq, DL.isi_int_int, DL.isi_int_bl, DL.isi_int_str, DL.isi_int_lst, DL.isi_int_tup, DL.isi_int_non, DL.isi_bool_int, DL.isi_bool_bl, DL.isi_bool_str, DL.isi_bool_lst, DL.isi_bool_tup, DL.isi_bool_non, DL.isi_str_int, DL.isi_str_bl, DL.isi_str_str, DL.isi_str_lst, DL.isi_str_tup, DL.isi_str_non, DL.isi_list_int, DL.isi_list_bl, DL.isi_list_str, DL.isi_list_lst, DL.isi_list_tup, DL.isi_list_non, DL.isi_tuple_int, DL.isi_tuple_bl, DL.isi_tuple_str, DL.isi_tuple_lst, DL.isi_tuple_tup, DL.isi_tuple_non, DL.isi2_int, DL.isi2_bl, DL.isi2_str, DL.isi2_lst, DL.isi2_tup, DL.isi2_non, DL.OB_tuple_l, DL.OB_tuple_t, DL.OB_list_l, DL.OB_list_t, DL.OB_sum, DL.OB_all, DL.OB_any, DL.bls_nil, DL.bls_cons, DL.blsOf_map, DL.ints_nil, DL.ints_cons, DL.intsOf_map, DL.OB_map, DL.OW_lc0, DL.OW_lcY, id, List.all_map, DL.tru_bl, DL.tru_int, DL.tru_lst, DL.tru_tup, DL.tru_non, DL.IF_n, DL.IF_d, DL.OB_some, DL.OB_none, DL.OB_ite, DL.fzT_v, DL.fzT_f, DL.fzT_s, DL.dr_v, DL.dr_f, DL.dr_s, DL.slot_z, DL.slot_s, DL.Sc_v, DL.Sc_s, DL.argsSV_nil, DL.argsSV_d, DL.argsSV_i', DL.SMt_o, DL.SMt_b, DL.pb_nil, DL.pb_nil2, DL.pb_cons, DL.SPt_o, DL.SPt_b, DL.retT_d, DL.retT_o, DL.lS_nil, DL.lS_d, DL.lS_i, DL.lP_nil, DL.lP_d, DL.lP_i, DL.SVl_d, DL.SVl_o, DL.SVl_b, DL.backOf_nil, DL.backOf_cons, DL.sqOf_l, DL.sqOf_t, DL.seqD_l, DL.seqD_t, DL.items_l, DL.items_t, DL.srcOk_n, DL.OB_gN, DL.OB_gK, DL.OB_gCons, DL.OB_gNil, DL.OB_add, DL.OB_sub, DL.OB_mul, DL.OB_mulL, DL.OB_fdiv, DL.OB_mod, DL.OB_pow, DL.OB_shl, DL.OB_bits, DL.OB_sl_l, DL.OB_sl_f, DL.OB_neg, DL.OB_lt, DL.OB_le, DL.OB_gt, DL.OB_ge, DL.OB_eq, DL.OB_ne, DL.eqB_int, DL.eqB_str, DL.OB_is, DL.OB_isn, DL.OB_len_l, DL.OB_len_t, DL.OB_abs, DL.OB_int, DL.OB_intb, DL.OB_ix_l, DL.OB_ix_t, DL.OB_gcd, DL.OB_lcm, DL.OB_max2, DL.OB_min2, DL.isNon, false_implies, implies_true, DL.rng_len, DL.enum_len, DL.zip_len, Int.toNat_natCast, DL.atI0, DL.atI1, DL.nd0, DL.nd1, DL.atI2, DL.ixN_b, DL.ixN_1, DL.ixN_2, DL.wipeE, DL.restE, DL.ownFree, Option.map_some, Option.isSome_some, DL.put_o, DL.put_b, DL.val_o, DL.val_b, DL.val_d, DL.ends, List.map_cons, List.map_nil, List.cons_append, List.nil_append, List.length_cons, List.length_nil, List.set_cons_zero, List.set_cons_succ, List.set_nil, List.replicate_zero, List.replicate_succ, List.all_cons, List.all_nil, Bool.and_true, Bool.and_self, true_and, and_true, and_self, Nat.reduceAdd, Nat.reduceLT, Nat.reduceLeDiff, Nat.reduceSub, Nat.zero_le, Nat.zero_add]
            refine pick_ok h6 (by simp) (by simp) (by omega) fun y d7 hy h7 => ?_
            have hy2 : Kd y ∧ okD 1 30 y = false := by
              simp at hy
              rcases hy with rfl | rfl | rfl | rfl | rfl | rfl | rfl
              · exact ⟨trivial, by decide⟩
              · exact ⟨trivial, by decide⟩
              · exact ⟨trivial, rfl⟩
              · exact ⟨trivial, rfl⟩
              · exact ⟨trivial, rfl⟩
              · exact ⟨trivial, by decide⟩
              · exact ⟨trivial, rfl⟩
            have hkl : ∀ x ∈ ls.map nD, Kd x := fun x hx => by
              obtain ⟨l, _, rfl⟩ := List.mem_map.mp hx
              trivial
            simp only [DL.SW_nx, DL.SW_rt, DL.SW_pass, DL.SW_brk, DL.SW_cnt, DL.SW_seq, DL.SW_drop, DL.SW_set, DL.SW_ret, DL.SW_ifS, DL.SW_asg, DL.SW_par2, DL.SW_par3, DL.SW_aug, DL.SW_raise, DL.SW_setIx, DL.SW_for, DL.SW_for0, DL.SW_forS, DL.SW_while, DL.OW_ok, DL.OW_no, DL.OW_var, DL.OW_c, DL.OW_fz, DL.OW_fa, DL.OW_faO_v, DL.OW_faO_f, DL.OW_faO_s, DL.OW_bin, DL.OW_un, DL.OW_tr, DL.OW_te, DL.OW_notT, DL.OW_andT, DL.OW_orT, DL.OW_and, DL.OW_or, DL.OW_not, DL.OW_if, DL.OW_nil, DL.OW_cons, DL.OW_lst, DL.OW_tup, DL.OW_chain, DL.OW_oNo, DL.OW_oSo, DL.OW_sl, DL.OW_new, DL.OW_newO_v, DL.OW_newO_f, DL.OW_newO_s, DL.OW_retO_v, DL.OW_retO_f, DL.OW_retO_s, DL.OW_nNil, DL.OW_nCons, DL.OW_call, DL.OW_iNil, DL.OW_iCons, DL.OW_iLnd, DL.OW_gI, DL.OW_itF, DL.OW_it, DL.OW_rng1, DL.OW_rng2, DL.OW_zipK, DL.OW_enum, DL.OW_enumV, DL.OW_lc, DL.OW_yes, DL.SL_d, DL.SL_o, DL.SL_b, DL.SF_d, DL.SF_o, DL.SRt_d, DL.SRt_o, DL.TB_v, DL.TI_i, DL.L2_2, DL.L3_3, DL.SI_i, DL.SX_o, DL.SX_b, DL.IF_t, DL.IF_f, reduceCtorEq, DL.isi_int_int, DL.isi_int_bl, DL.isi_int_str, DL.isi_int_lst, DL.isi_int_tup, DL.isi_int_non, DL.isi_bool_int, DL.isi_bool_bl, DL.isi_bool_str, DL.isi_bool_lst, DL.isi_bool_tup, DL.isi_bool_non, DL.isi_str_int, DL.isi_str_bl, DL.isi_str_str, DL.isi_str_lst, DL.isi_str_tup, DL.isi_str_non, DL.isi_list_int, DL.isi_list_bl, DL.isi_list_str, DL.isi_list_lst, DL.isi_list_tup, DL.isi_list_non, DL.isi_tuple_int, DL.isi_tuple_bl, DL.isi_tuple_str, DL.isi_tuple_lst, DL.isi_tuple_tup, DL.isi_tuple_non, DL.isi2_int, DL.isi2_bl, DL.isi2_str, DL.isi2_lst, DL.isi2_tup, DL.isi2_non, DL.OB_tuple_l, DL.OB_tuple_t, DL.OB_list_l, DL.OB_list_t, DL.OB_sum, DL.OB_all, DL.OB_any, DL.bls_nil, DL.bls_cons, DL.blsOf_map, DL.ints_nil, DL.ints_cons, DL.intsOf_map, DL.OB_map, DL.OW_lc0, DL.OW_lcY, id, List.all_map, DL.tru_bl, DL.tru_int, DL.tru_lst, DL.tru_tup, DL.tru_non, DL.IF_n, DL.IF_d, DL.OB_some, DL.OB_none, DL.OB_ite, DL.fzT_v, DL.fzT_f, DL.fzT_s, DL.dr_v, DL.dr_f, DL.dr_s, DL.slot_z, DL.slot_s, DL.Sc_v, DL.Sc_s, DL.argsSV_nil, DL.argsSV_d, DL.argsSV_i', DL.SMt_o, DL.SMt_b, DL.pb_nil, DL.pb_nil2, DL.pb_cons, DL.SPt_o, DL.SPt_b, DL.retT_d, DL.retT_o, DL.lS_nil, DL.lS_d, DL.lS_i, DL.lP_nil, DL.lP_d, DL.lP_i, DL.SVl_d, DL.SVl_o, DL.SVl_b, DL.backOf_nil, DL.backOf_cons, DL.sqOf_l, DL.sqOf_t, DL.seqD_l, DL.seqD_t, DL.items_l, DL.items_t, DL.srcOk_n, DL.OB_gN, DL.OB_gK, DL.OB_gCons, DL.OB_gNil, DL.OB_add, DL.OB_sub, DL.OB_mul, DL.OB_mulL, DL.OB_fdiv, DL.OB_mod, DL.OB_pow, DL.OB_shl, DL.OB_bits, DL.OB_sl_l, DL.OB_sl_f, DL.OB_neg, DL.OB_lt, DL.OB_le, DL.OB_gt, DL.OB_ge, DL.OB_eq, DL.OB_ne, DL.eqB_int, DL.eqB_str, DL.OB_is, DL.OB_isn, DL.OB_len_l, DL.OB_len_t, DL.OB_abs, DL.OB_int, DL.OB_intb, DL.OB_ix_l, DL.OB_ix_t, DL.OB_gcd, DL.OB_lcm, DL.OB_max2, DL.OB_min2, DL.isNon, false_implies, implies_true, DL.rng_len, DL.enum_len, DL.zip_len, Int.toNat_natCast, DL.atI0, DL.atI1, DL.nd0, DL.nd1, DL.atI2, DL.ixN_b, DL.ixN_1, DL.ixN_2, DL.wipeE, DL.restE, DL.ownFree, Option.map_some, Option.isSome_some, DL.put_o, DL.put_b, DL.val_o, DL.val_b, DL.val_d, DL.ends, List.map_cons, List.map_nil, List.cons_append, List.nil_append, List.length_cons, List.length_nil, List.set_cons_zero, List.set_cons_succ, List.set_nil, List.replicate_zero, List.replicate_succ, List.all_cons, List.all_nil, Bool.and_true, Bool.and_self, true_and, and_true, and_self, Nat.reduceAdd, Nat.reduceLT, Nat.reduceLeDiff, Nat.reduceSub, Nat.zero_le, Nat.zero_add, OB_addL]
            obtain ⟨c1, c2⟩ := cut_mem (ds := ls.map nD) (lo := none) (hi := some r6)
            obtain ⟨c3, c4⟩ := cut_mem (ds := ls.map nD) (lo := some r6) (hi := none)
            rw [List.length_map] at c2 c4
            generalize DL.cutD (ls.map nD) none (some r6) = u1 at *
            generalize DL.cutD (ls.map nD) (some r6) none = u2 at *
            have hbX : Bad (.lst (u1 ++ [y] ++ u2)) := by
              refine bad_row (fun x hx => ?_) (by simp; omega) ?_
              · simp at hx
                rcases hx with hx | rfl | hx
                · exact hkl x (c1 x hx)
                · exact hy2.1
                · exact hkl x (c3 x hx)
              · unfold rowOk
                simp [hy2.2]
            refine ⟨by decide, Nat.le_trans (by omega : u1.length + 1 ≤ 1000) (by decide), Nat.le_trans (by simp; omega : (u1 ++ [y]).length + u2.length ≤ 1000) (by decide), by decide, ?_⟩
            refine pick_ok h7 (by simp) (by simp) (by omega) fun z d8 hz h8 => ?_
            have hbz : Bad z := by
              rcases List.mem_cons.mp hz with rfl | hz
              · exact hbX
              rcases List.mem_cons.mp hz with rfl | hz
              · exact bad_row (fun x hx => by cases hx) (by simp) rfl
              rcases List.mem_cons.mp hz with rfl | hz
              · exact row_within_n trivial fun ds h => by rcases h with h | h <;> cases h
              rcases List.mem_cons.mp hz with rfl | hz
              · exact row_within_n trivial fun ds h => by rcases h with h | h <;> cases h
              rcases List.mem_cons.mp hz with rfl | hz
              · exact row_within_n trivial fun ds h => by rcases h with h | h <;> cases h
              rw [List.mem_singleton.mp hz]
              refine bad_row (fun x hx => ?_) (by decide) (by decide)
              have : x = .int 1 := by
                simp at hx
                exact hx
              rw [this]
              trivial
            simp only [DL.SW_nx, DL.SW_rt, DL.SW_pass, DL.SW_brk, DL.SW_cnt, DL.SW_seq, DL.SW_drop, DL.SW_set, DL.SW_ret, DL.SW_ifS, DL.SW_asg, DL.SW_par2, DL.SW_par3, DL.SW_aug, DL.SW_raise, DL.SW_setIx, DL.SW_for, DL.SW_for0, DL.SW_forS, DL.SW_while, DL.OW_ok, DL.OW_no, DL.OW_var, DL.OW_c, DL.OW_fz, DL.OW_fa, DL.OW_faO_v, DL.OW_faO_f, DL.OW_faO_s, DL.OW_bin, DL.OW_un, DL.OW_tr, DL.OW_te, DL.OW_notT, DL.OW_andT, DL.OW_orT, DL.OW_and, DL.OW_or, DL.OW_not, DL.OW_if, DL.OW_nil, DL.OW_cons, DL.OW_lst, DL.OW_tup, DL.OW_chain, DL.OW_oNo, DL.OW_oSo, DL.OW_sl, DL.OW_new, DL.OW_newO_v, DL.OW_newO_f, DL.OW_newO_s, DL.OW_retO_v, DL.OW_retO_f, DL.OW_retO_s, DL.OW_nNil, DL.OW_nCons, DL.OW_call, DL.OW_iNil, DL.OW_iCons, DL.OW_iLnd, DL.OW_gI, DL.OW_itF, DL.OW_it, DL.OW_rng1, DL.OW_rng2, DL.OW_zipK, DL.OW_enum, DL.OW_enumV, DL.OW_lc, DL.OW_yes, DL.SL_d, DL.SL_o, DL.SL_b, DL.SF_d, DL.SF_o, DL.SRt_d, DL.SRt_o, DL.TB_v, DL.TI_i, DL.L2_2, DL.L3_3, DL.SI_i, DL.SX_o, DL.SX_b, DL.IF_t, DL.IF_f, reduceCtorEq, DL.isi_int_int, DL.isi_int_bl, DL.isi_int_str, DL.isi_int_lst, DL.isi_int_tup, DL.isi_int_non, DL.isi_bool_int, DL.isi_bool_bl, DL.isi_bool_str, DL.isi_bool_lst, DL.isi_bool_tup, DL.isi_bool_non, DL.isi_str_int, DL.isi_str_bl, DL.isi_str_str, DL.isi_str_lst, DL.isi_str_tup, DL.isi_str_non, DL.isi_list_int, DL.isi_list_bl, DL.isi_list_str, DL.isi_list_lst, DL.isi_list_tup, DL.isi_list_non, DL.isi_tuple_int, DL.isi_tuple_bl, DL.isi_tuple_str, DL.isi_tuple_lst, DL.isi_tuple_tup, DL.isi_tuple_non, DL.isi2_int, DL.isi2_bl, DL.isi2_str, DL.isi2_lst, DL.isi2_tup, DL.isi2_non, DL.OB_tuple_l, DL.OB_tuple_t, DL.OB_list_l, DL.OB_list_t, DL.OB_sum, DL.OB_all, DL.OB_any, DL.bls_nil, DL.bls_cons, DL.blsOf_map, DL.ints_nil, DL.ints_cons, DL.intsOf_map, DL.OB_map, DL.OW_lc0, DL.OW_lcY, id, List.all_map, DL.tru_bl, DL.tru_int, DL.tru_lst, DL.tru_tup, DL.tru_non, DL.IF_n, DL.IF_d, DL.OB_some, DL.OB_none, DL.OB_ite, DL.fzT_v, DL.fzT_f, DL.fzT_s, DL.dr_v, DL.dr_f, DL.dr_s, DL.slot_z, DL.slot_s, DL.Sc_v, DL.Sc_s, DL.argsSV_nil, DL.argsSV_d, DL.argsSV_i', DL.SMt_o, DL.SMt_b, DL.pb_nil, DL.pb_nil2, DL.pb_cons, DL.SPt_o, DL.SPt_b, DL.retT_d, DL.retT_o, DL.lS_nil, DL.lS_d, DL.lS_i, DL.lP_nil, DL.lP_d, DL.lP_i, DL.SVl_d, DL.SVl_o, DL.SVl_b, DL.backOf_nil, DL.backOf_cons, DL.sqOf_l, DL.sqOf_t, DL.seqD_l, DL.seqD_t, DL.items_l, DL.items_t, DL.srcOk_n, DL.OB_gN, DL.OB_gK, DL.OB_gCons, DL.OB_gNil, DL.OB_add, DL.OB_sub, DL.OB_mul, DL.OB_mulL, DL.OB_fdiv, DL.OB_mod, DL.OB_pow, DL.OB_shl, DL.OB_bits, DL.OB_sl_l, DL.OB_sl_f, DL.OB_neg, DL.OB_lt, DL.OB_le, DL.OB_gt, DL.OB_ge, DL.OB_eq, DL.OB_ne, DL.eqB_int, DL.eqB_str, DL.OB_is, DL.OB_isn, DL.OB_len_l, DL.OB_len_t, DL.OB_abs, DL.OB_int, DL.OB_intb, DL.OB_ix_l, DL.OB_ix_t, DL.OB_gcd, DL.OB_lcm, DL.OB_max2, DL.OB_min2, DL.isNon, false_implies, implies_true, DL.rng_len, DL.enum_len, DL.zip_len, Int.toNat_natCast, DL.atI0, DL.atI1, DL.nd0, DL.nd1, DL.atI2, DL.ixN_b, DL.ixN_1, DL.ixN_2, DL.wipeE, DL.restE, DL.ownFree, Option.map_some, Option.isSome_some, DL.put_o, DL.put_b, DL.val_o, DL.val_b, DL.val_d, DL.ends, List.map_cons, List.map_nil, List.cons_append, List.nil_append, List.length_cons, List.length_nil, List.set_cons_zero, List.set_cons_succ, List.set_nil, List.replicate_zero, List.replicate_succ, List.all_cons, List.all_nil, Bool.and_true, Bool.and_self, true_and, and_true, and_self, Nat.reduceAdd, Nat.reduceLT, Nat.reduceLeDiff, Nat.reduceSub, Nat.zero_le, Nat.zero_add, no_lengths_ok hbz]
            exact ⟨fun _ => ⟨d8, _, _, _, a5, _, _, _, _, _, _, _, rfl, h8.mono (by omega), ha5⟩, fun z => absurd trivial z⟩
  · obtain ⟨d1, a, b, c, x5, x6, x7, x8, x9, x10, x11, x12, rfl, h1, hx5⟩ := he
    have hA : Len (.lst ((List.replicate 40 30).map nD)) (List.replicate 40 30) := ⟨.inl rfl, by simp, by simp, fun l hl => by rw [(List.mem_replicate.mp hl).2]; omega⟩
    have hB : Len (.lst ([30, 1].map nD)) [30, 1] := ⟨.inl rfl, by simp, by simp, fun l hl => by simp at hl; omega⟩
    have e40 : (List.replicate (Int.toNat 40) [D.int 30]).flatten = (List.replicate 40 30).map nD := rfl
    have hlA : ∀ {Q : SV → List D → Prop} {E : Str → List (Str × D) → List D → Prop}, FW (mf_lap_factors [.d (.lst ((List.replicate 40 30).map nD))]) Q E = Q (.d (.tup (facs (List.replicate 40 30)))) [] := lap_factors_ok hA
    have hlB : ∀ {Q : SV → List D → Prop} {E : Str → List (Str × D) → List D → Prop}, FW (mf_lap_factors [.d (.lst [.int 30, .int 1])]) Q E = Q (.d (.tup (facs [30, 1]))) [] := lap_factors_ok hB
    have hh : ∀ {Q : SV → List D → Prop} {E : Str → List (Str × D) → List D → Prop}, FW (mf__law_halved [.d (.int (536870912 + 2)), .d (.int 536870912)]) Q E = Q (.d (facD (536870914 / Nat.gcd 536870914 (2 ^ 29), 2 ^ 29 / Nat.gcd 536870914 (2 ^ 29)))) [] := halved_ok (a := 536870914) (k := 29) (by decide)
    have ef : facs [30, 1] = [.tup [.int 536870913, .int 1], facD (536870914 / Nat.gcd 536870914 (2 ^ 29), 2 ^ 29 / Nat.gcd 536870914 (2 ^ 29))] := rfl
    have l40 : (facs (List.replicate 40 30)).length = 40 := by unfold facs; rw [List.length_mapIdx, List.length_replicate]
    have es := facs_self (ls := [30, 1])
    simp only [DL.SW_nx, DL.SW_rt, DL.SW_pass, DL.SW_brk, DL.SW_cnt, DL.SW_seq, DL.SW_drop, DL.SW_set, DL.SW_ret, DL.SW_ifS, DL.SW_asg, DL.SW_par2, DL.SW_par3, DL.SW_aug, DL.SW_raise, DL.SW_setIx, DL.SW_for, DL.SW_while, DL.OW_ok, DL.OW_no, DL.OW_var, DL.OW_c, DL.OW_fz, DL.OW_fa, DL.OW_faO_v, DL.OW_faO_f, DL.OW_faO_s, DL.OW_bin, DL.OW_un, DL.OW_tr, DL.OW_te, DL.OW_notT, DL.OW_andT, DL.OW_orT, DL.OW_and, DL.OW_or, DL.OW_not, DL.OW_if, DL.OW_nil, DL.OW_cons, DL.OW_lst, DL.OW_tup, DL.OW_chain, DL.OW_oNo, DL.OW_oSo, DL.OW_sl, DL.OW_new, DL.OW_newO_v, DL.OW_newO_f, DL.OW_newO_s, DL.OW_retO_v, DL.OW_retO_f, DL.OW_retO_s, DL.OW_nNil, DL.OW_nCons, DL.OW_call, DL.OW_iNil, DL.OW_iCons, DL.OW_iLnd, DL.OW_gI, DL.OW_itF, DL.OW_it, DL.OW_rng1, DL.OW_rng2, DL.OW_zipK, DL.OW_enum, DL.OW_enumV, DL.OW_lc, DL.OW_yes, DL.SL_d, DL.SL_o, DL.SL_b, DL.SF_d, DL.SF_o, DL.SRt_d, DL.SRt_o, DL.TB_v, DL.TI_i, DL.L2_2, DL.L3_3, DL.SI_i, DL.SX_o, DL.SX_b, DL.IF_t, DL.IF_f, reduceCtorEq, DL.isi_int_int, DL.isi_int_bl, DL.isi_int_str, DL.isi_int_lst, DL.isi_int_tup, DL.isi_int_non, DL.isi_bool_int, DL.isi_bool_bl, DL.isi_bool_str, DL.isi_bool_lst, DL.isi_bool_tup, DL.isi_bool_non, DL.isi_str_int, DL.isi_str_bl, DL.isi_str_str, DL.isi_str_lst, DL.isi_str_tup, DL.isi_str_non, DL.isi_list_int, DL.isi_list_bl, DL.isi_list_str, DL.isi_list_lst, DL.isi_list_tup, DL.isi_list_non, DL.isi_tuple_int, DL.isi_tuple_bl, DL.isi_tuple_str, DL.isi_tuple_lst, DL.isi_tuple_tup, DL.isi_tuple_non, DL.isi2_int, DL.isi2_bl, DL.isi2_str, DL.isi2_lst, DL.isi2_tup, DL.isi2_non, DL.OB_tuple_l, DL.OB_tuple_t, DL.OB_list_l, DL.OB_list_t, DL.OB_sum, DL.OB_all, DL.OB_any, DL.bls_nil, DL.bls_cons, DL.blsOf_map, DL.ints_nil, DL.ints_cons, DL.intsOf_map, DL.OB_map, DL.OW_lc0, DL.OW_lcY, id, List.all_map, DL.tru_bl, DL.tru_int, DL.tru_lst, DL.tru_tup, DL.tru_non, DL.IF_n, DL.IF_d, DL.OB_some, DL.OB_none, DL.OB_ite, DL.fzT_v, DL.fzT_f, DL.fzT_s, DL.dr_v, DL.dr_f, DL.dr_s, DL.slot_z, DL.slot_s, DL.Sc_v, DL.Sc_s, DL.argsSV_nil, DL.argsSV_d, DL.argsSV_i', DL.SMt_o, DL.SMt_b, DL.pb_nil, DL.pb_nil2, DL.pb_cons, DL.SPt_o, DL.SPt_b, DL.retT_d, DL.retT_o, DL.lS_nil, DL.lS_d, DL.lS_i, DL.lP_nil, DL.lP_d, DL.lP_i, DL.SVl_d, DL.SVl_o, DL.SVl_b, DL.backOf_nil, DL.backOf_cons, DL.sqOf_l, DL.sqOf_t, DL.seqD_l, DL.seqD_t, DL.items_l, DL.items_t, DL.srcOk_n, DL.OB_gN, DL.OB_gK, DL.OB_gCons, DL.OB_gNil, DL.OB_add, DL.OB_sub, DL.OB_mul, DL.OB_mulL, DL.OB_fdiv, DL.OB_mod, DL.OB_pow, DL.OB_shl, DL.OB_bits, DL.OB_sl_l, DL.OB_sl_f, DL.OB_neg, DL.OB_lt, DL.OB_le, DL.OB_gt, DL.OB_ge, DL.OB_eq, DL.OB_ne, DL.eqB_int, DL.eqB_str, DL.OB_is, DL.OB_isn, DL.OB_len_l, DL.OB_len_t, DL.OB_abs, DL.OB_int, DL.OB_intb, DL.OB_ix_l, DL.OB_ix_t, DL.OB_gcd, DL.OB_lcm, DL.OB_max2, DL.OB_min2, DL.isNon, false_implies, implies_true, DL.rng_len, DL.enum_len, DL.zip_len, Int.toNat_natCast, DL.atI0, DL.atI1, DL.nd0, DL.nd1, DL.atI2, DL.ixN_b, DL.ixN_1, DL.ixN_2, DL.wipeE, DL.restE, DL.ownFree, Option.map_some, Option.isSome_some, DL.put_o, DL.put_b, DL.val_o, DL.val_b, DL.val_d, DL.ends, List.map_cons, List.map_nil, List.cons_append, List.nil_append, List.length_cons, List.length_nil, List.set_cons_zero, List.set_cons_succ, List.set_nil, List.replicate_zero, List.replicate_succ, List.all_cons, List.all_nil, Bool.and_true, Bool.and_self, true_and, and_true, and_self, Nat.reduceAdd, Nat.reduceLT, Nat.reduceLeDiff, Nat.reduceSub, Nat.zero_le, Nat.zero_add]
    refine ⟨by decide, ?_⟩
    show FW (mf_lap_factors [.d (.lst ((List.replicate 40 30).map nD))]) _ _
    rw [hlA]
    generalize facs (List.replicate 40 30) = fA at *
    simp only [DL.SW_nx, DL.SW_rt, DL.SW_pass, DL.SW_brk, DL.SW_cnt, DL.SW_seq, DL.SW_drop, DL.SW_set, DL.SW_ret, DL.SW_ifS, DL.SW_asg, DL.SW_par2, DL.SW_par3, DL.SW_aug, DL.SW_raise, DL.SW_setIx, DL.SW_for, DL.SW_for0, DL.SW_forS, DL.SW_while, DL.OW_ok, DL.OW_no, DL.OW_var, DL.OW_c, DL.OW_fz, DL.OW_fa, DL.OW_faO_v, DL.OW_faO_f, DL.OW_faO_s, DL.OW_bin, DL.OW_un, DL.OW_tr, DL.OW_te, DL.OW_notT, DL.OW_andT, DL.OW_orT, DL.OW_and, DL.OW_or, DL.OW_not, DL.OW_if, DL.OW_nil, DL.OW_cons, DL.OW_lst, DL.OW_tup, DL.OW_chain, DL.OW_oNo, DL.OW_oSo, DL.OW_sl, DL.OW_new, DL.OW_newO_v, DL.OW_newO_f, DL.OW_newO_s, DL.OW_retO_v, DL.OW_retO_f, DL.OW_retO_s, DL.OW_nNil, DL.OW_nCons, DL.OW_call, DL.OW_iNil, DL.OW_iCons, DL.OW_iLnd, DL.OW_gI, DL.OW_itF, DL.OW_it, DL.OW_rng1, DL.OW_rng2, DL.OW_zipK, DL.OW_enum, DL.OW_enumV, DL.OW_lc, DL.OW_yes, DL.SL_d, DL.SL_o, DL.SL_b, DL.SF_d, DL.SF_o, DL.SRt_d, DL.SRt_o, DL.TB_v, DL.TI_i, DL.L2_2, DL.L3_3, DL.SI_i, DL.SX_o, DL.SX_b, DL.IF_t, DL.IF_f, reduceCtorEq, DL.isi_int_int, DL.isi_int_bl, DL.isi_int_str, DL.isi_int_lst, DL.isi_int_tup, DL.isi_int_non, DL.isi_bool_int, DL.isi_bool_bl, DL.isi_bool_str, DL.isi_bool_lst, DL.isi_bool_tup, DL.isi_bool_non, DL.isi_str_int, DL.isi_str_bl, DL.isi_str_str, DL.isi_str_lst, DL.isi_str_tup, DL.isi_str_non, DL.isi_list_int, DL.isi_list_bl, DL.isi_list_str, DL.isi_list_lst, DL.isi_list_tup, DL.isi_list_non, DL.isi_tuple_int, DL.isi_tuple_bl, DL.isi_tuple_str, DL.isi_tuple_lst, DL.isi_tuple_tup, DL.isi_tuple_non, DL.isi2_int, DL.isi2_bl, DL.isi2_str, DL.isi2_lst, DL.isi2_tup, DL.isi2_non, DL.OB_tuple_l, DL.OB_tuple_t, DL.OB_list_l, DL.OB_list_t, DL.OB_sum, DL.OB_all, DL.OB_any, DL.bls_nil, DL.bls_cons, DL.blsOf_map, DL.ints_nil, DL.ints_cons, DL.intsOf_map, DL.OB_map, DL.OW_lc0, DL.OW_lcY, id, List.all_map, DL.tru_bl, DL.tru_int, DL.tru_lst, DL.tru_tup, DL.tru_non, DL.IF_n, DL.IF_d, DL.OB_some, DL.OB_none, DL.OB_ite, DL.fzT_v, DL.fzT_f, DL.fzT_s, DL.dr_v, DL.dr_f, DL.dr_s, DL.slot_z, DL.slot_s, DL.Sc_v, DL.Sc_s, DL.argsSV_nil, DL.argsSV_d, DL.argsSV_i', DL.SMt_o, DL.SMt_b, DL.pb_nil, DL.pb_nil2, DL.pb_cons, DL.SPt_o, DL.SPt_b, DL.retT_d, DL.retT_o, DL.lS_nil, DL.lS_d, DL.lS_i, DL.lP_nil, DL.lP_d, DL.lP_i, DL.SVl_d, DL.SVl_o, DL.SVl_b, DL.backOf_nil, DL.backOf_cons, DL.sqOf_l, DL.sqOf_t, DL.seqD_l, DL.seqD_t, DL.items_l, DL.items_t, DL.srcOk_n, DL.OB_gN, DL.OB_gK, DL.OB_gCons, DL.OB_gNil, DL.OB_add, DL.OB_sub, DL.OB_mul, DL.OB_mulL, DL.OB_fdiv, DL.OB_mod, DL.OB_pow, DL.OB_shl, DL.OB_bits, DL.OB_sl_l, DL.OB_sl_f, DL.OB_neg, DL.OB_lt, DL.OB_le, DL.OB_gt, DL.OB_ge, DL.OB_eq, DL.OB_ne, DL.eqB_int, DL.eqB_str, DL.OB_is, DL.OB_isn, DL.OB_len_l, DL.OB_len_t, DL.OB_abs, DL.OB_int, DL.OB_intb, DL.OB_ix_l, DL.OB_ix_t, DL.OB_gcd, DL.OB_lcm, DL.OB_max2, DL.OB_min2, DL.isNon, false_implies, implies_true, DL.rng_len, DL.enum_len, DL.zip_len, Int.toNat_natCast, DL.atI0, DL.atI1, DL.nd0, DL.nd1, DL.atI2, DL.ixN_b, DL.ixN_1, DL.ixN_2, DL.wipeE, DL.restE, DL.ownFree, Option.map_some, Option.isSome_some, DL.put_o, DL.put_b, DL.val_o, DL.val_b, DL.val_d, DL.ends, List.map_cons, List.map_nil, List.cons_append, List.nil_append, List.length_cons, List.length_nil, List.set_cons_zero, List.set_cons_succ, List.set_nil, List.replicate_zero, List.replicate_succ, List.all_cons, List.all_nil, Bool.and_true, Bool.and_self, true_and, and_true, and_self, Nat.reduceAdd, Nat.reduceLT, Nat.reduceLeDiff, Nat.reduceSub, Nat.zero_le, Nat.zero_add, hlB, hh, ← ef, es, l40]
    exact fun z => absurd rfl z
end
end K61
set_option Elab.async false
set_option linter.all false
set_option maxRecDepth 100000
set_option maxHeartbeats 4000000
namespace K61
open PySem PySem.Spec PyProof.Rows L2 Own DL
theorem ok_BadNumber {P : Program} {w : World} {K : PySem.W.Frag} {mg : Str → Option Value} {base : Heap} {f : Addr} {fd : FuncData} (F : Fun K "__init__" "BadNumber.__init__" s_BadNumber_init f fd) : FnOk P w K mg base CX0 1 f fd ["self", "part"] (spI1 K "part") := by
  refine F.ok sc_BadNumber_init (fun vs H Q E h => ?_) (fun cdv A outer s H vs Q E hr h => ?_)
  · obtain ⟨a, C, y, rfl, _⟩ := h
    rfl
  · obtain ⟨a, C, y, rfl, T, no, ha, k⟩ := h
    refine ⟨_, pss_one (ps_ost (pv 0) (pv 1)), ?_⟩
    exact ⟨_, rfl, _, rfl, a, C, rfl, T, no, .inl ⟨ha, fun dx n ne => k dx n ne⟩⟩
theorem all_mk {l : PySem.W.OpenLaw} {w : World} {K : PySem.W.Frag} {h : Heap} {mg : Str → Option Value} {fa : Addr} (X : K.In h) (G : h.Ns mainGlobals mg) (hfa : mg "law" = some (.ref fa))
    {od_is_integer an_is_integer : Option Addr} {sl_is_integer : Array (Option Value)} {oc_is_integer kV_is_integer dc_is_integer pm_is_integer cd_is_integer ct_is_integer : Value} {f_is_integer : Addr}
    (a_is_integer : PySem.W.nsIn K mainGlobals "is_integer" = some (some (.ref f_is_integer))) (l_is_integer : K.lookup f_is_integer = some ⟨oc_is_integer, od_is_integer, .func (PySem.W.fnOf "is_integer" "is_integer" (defArgs s_is_integer) (defBody s_is_integer) (defScope s_is_integer) .none kV_is_integer dc_is_integer pm_is_integer an_is_integer cd_is_integer ct_is_integer), sl_is_integer⟩) (c_is_integer : PySem.W.codeIn K cd_is_integer "is_integer" = true) (k_is_integer : PySem.W.keepIn K (.ref f_is_integer) = true)
    {od_is_within an_is_within : Option Addr} {sl_is_within : Array (Option Value)} {oc_is_within kV_is_within dc_is_within pm_is_within cd_is_within ct_is_within : Value} {f_is_within : Addr}
    (a_is_within : PySem.W.nsIn K mainGlobals "is_within" = some (some (.ref f_is_within))) (l_is_within : K.lookup f_is_within = some ⟨oc_is_within, od_is_within, .func (PySem.W.fnOf "is_within" "is_within" (defArgs s_is_within) (defBody s_is_within) (defScope s_is_within) .none kV_is_within dc_is_within pm_is_within an_is_within cd_is_within ct_is_within), sl_is_within⟩) (c_is_within : PySem.W.codeIn K cd_is_within "is_within" = true) (k_is_within : PySem.W.keepIn K (.ref f_is_within) = true)
    {od_is_row an_is_row : Option Addr} {sl_is_row : Array (Option Value)} {oc_is_row kV_is_row dc_is_row pm_is_row cd_is_row ct_is_row : Value} {f_is_row : Addr}
    (a_is_row : PySem.W.nsIn K mainGlobals "is_row" = some (some (.ref f_is_row))) (l_is_row : K.lookup f_is_row = some ⟨oc_is_row, od_is_row, .func (PySem.W.fnOf "is_row" "is_row" (defArgs s_is_row) (defBody s_is_row) (defScope s_is_row) .none kV_is_row dc_is_row pm_is_row an_is_row cd_is_row ct_is_row), sl_is_row⟩) (c_is_row : PySem.W.codeIn K cd_is_row "is_row" = true) (k_is_row : PySem.W.keepIn K (.ref f_is_row) = true)
    {od_is_row_within an_is_row_within : Option Addr} {sl_is_row_within : Array (Option Value)} {oc_is_row_within kV_is_row_within dc_is_row_within pm_is_row_within cd_is_row_within ct_is_row_within : Value} {f_is_row_within : Addr}
    (a_is_row_within : PySem.W.nsIn K mainGlobals "is_row_within" = some (some (.ref f_is_row_within))) (l_is_row_within : K.lookup f_is_row_within = some ⟨oc_is_row_within, od_is_row_within, .func (PySem.W.fnOf "is_row_within" "is_row_within" (defArgs s_is_row_within) (defBody s_is_row_within) (defScope s_is_row_within) .none kV_is_row_within dc_is_row_within pm_is_row_within an_is_row_within cd_is_row_within ct_is_row_within), sl_is_row_within⟩) (c_is_row_within : PySem.W.codeIn K cd_is_row_within "is_row_within" = true) (k_is_row_within : PySem.W.keepIn K (.ref f_is_row_within) = true)
    {od_need_within an_need_within : Option Addr} {sl_need_within : Array (Option Value)} {oc_need_within kV_need_within dc_need_within pm_need_within cd_need_within ct_need_within : Value} {f_need_within : Addr}
    (a_need_within : PySem.W.nsIn K mainGlobals "need_within" = some (some (.ref f_need_within))) (l_need_within : K.lookup f_need_within = some ⟨oc_need_within, od_need_within, .func (PySem.W.fnOf "need_within" "need_within" (defArgs s_need_within) (defBody s_need_within) (defScope s_need_within) .none kV_need_within dc_need_within pm_need_within an_need_within cd_need_within ct_need_within), sl_need_within⟩) (c_need_within : PySem.W.codeIn K cd_need_within "need_within" = true) (k_need_within : PySem.W.keepIn K (.ref f_need_within) = true)
    {od_reduced an_reduced : Option Addr} {sl_reduced : Array (Option Value)} {oc_reduced kV_reduced dc_reduced pm_reduced cd_reduced ct_reduced : Value} {f_reduced : Addr}
    (a_reduced : PySem.W.nsIn K mainGlobals "reduced" = some (some (.ref f_reduced))) (l_reduced : K.lookup f_reduced = some ⟨oc_reduced, od_reduced, .func (PySem.W.fnOf "reduced" "reduced" (defArgs s_reduced) (defBody s_reduced) (defScope s_reduced) .none kV_reduced dc_reduced pm_reduced an_reduced cd_reduced ct_reduced), sl_reduced⟩) (c_reduced : PySem.W.codeIn K cd_reduced "reduced" = true) (k_reduced : PySem.W.keepIn K (.ref f_reduced) = true)
    {od_need_lengths an_need_lengths : Option Addr} {sl_need_lengths : Array (Option Value)} {oc_need_lengths kV_need_lengths dc_need_lengths pm_need_lengths cd_need_lengths ct_need_lengths : Value} {f_need_lengths : Addr}
    (a_need_lengths : PySem.W.nsIn K mainGlobals "need_lengths" = some (some (.ref f_need_lengths))) (l_need_lengths : K.lookup f_need_lengths = some ⟨oc_need_lengths, od_need_lengths, .func (PySem.W.fnOf "need_lengths" "need_lengths" (defArgs s_need_lengths) (defBody s_need_lengths) (defScope s_need_lengths) .none kV_need_lengths dc_need_lengths pm_need_lengths an_need_lengths cd_need_lengths ct_need_lengths), sl_need_lengths⟩) (c_need_lengths : PySem.W.codeIn K cd_need_lengths "need_lengths" = true) (k_need_lengths : PySem.W.keepIn K (.ref f_need_lengths) = true)
    {od_steps_in an_steps_in : Option Addr} {sl_steps_in : Array (Option Value)} {oc_steps_in kV_steps_in dc_steps_in pm_steps_in cd_steps_in ct_steps_in : Value} {f_steps_in : Addr}
    (a_steps_in : PySem.W.nsIn K mainGlobals "steps_in" = some (some (.ref f_steps_in))) (l_steps_in : K.lookup f_steps_in = some ⟨oc_steps_in, od_steps_in, .func (PySem.W.fnOf "steps_in" "steps_in" (defArgs s_steps_in) (defBody s_steps_in) (defScope s_steps_in) .none kV_steps_in dc_steps_in pm_steps_in an_steps_in cd_steps_in ct_steps_in), sl_steps_in⟩) (c_steps_in : PySem.W.codeIn K cd_steps_in "steps_in" = true) (k_steps_in : PySem.W.keepIn K (.ref f_steps_in) = true)
    {od_steps_before an_steps_before : Option Addr} {sl_steps_before : Array (Option Value)} {oc_steps_before kV_steps_before dc_steps_before pm_steps_before cd_steps_before ct_steps_before : Value} {f_steps_before : Addr}
    (a_steps_before : PySem.W.nsIn K mainGlobals "steps_before" = some (some (.ref f_steps_before))) (l_steps_before : K.lookup f_steps_before = some ⟨oc_steps_before, od_steps_before, .func (PySem.W.fnOf "steps_before" "steps_before" (defArgs s_steps_before) (defBody s_steps_before) (defScope s_steps_before) .none kV_steps_before dc_steps_before pm_steps_before an_steps_before cd_steps_before ct_steps_before), sl_steps_before⟩) (c_steps_before : PySem.W.codeIn K cd_steps_before "steps_before" = true) (k_steps_before : PySem.W.keepIn K (.ref f_steps_before) = true)
    {od_lap_tick an_lap_tick : Option Addr} {sl_lap_tick : Array (Option Value)} {oc_lap_tick kV_lap_tick dc_lap_tick pm_lap_tick cd_lap_tick ct_lap_tick : Value} {f_lap_tick : Addr}
    (a_lap_tick : PySem.W.nsIn K mainGlobals "lap_tick" = some (some (.ref f_lap_tick))) (l_lap_tick : K.lookup f_lap_tick = some ⟨oc_lap_tick, od_lap_tick, .func (PySem.W.fnOf "lap_tick" "lap_tick" (defArgs s_lap_tick) (defBody s_lap_tick) (defScope s_lap_tick) .none kV_lap_tick dc_lap_tick pm_lap_tick an_lap_tick cd_lap_tick ct_lap_tick), sl_lap_tick⟩) (c_lap_tick : PySem.W.codeIn K cd_lap_tick "lap_tick" = true) (k_lap_tick : PySem.W.keepIn K (.ref f_lap_tick) = true)
    {od_lap_factors an_lap_factors : Option Addr} {sl_lap_factors : Array (Option Value)} {oc_lap_factors kV_lap_factors dc_lap_factors pm_lap_factors cd_lap_factors ct_lap_factors : Value} {f_lap_factors : Addr}
    (a_lap_factors : PySem.W.nsIn K mainGlobals "lap_factors" = some (some (.ref f_lap_factors))) (l_lap_factors : K.lookup f_lap_factors = some ⟨oc_lap_factors, od_lap_factors, .func (PySem.W.fnOf "lap_factors" "lap_factors" (defArgs s_lap_factors) (defBody s_lap_factors) (defScope s_lap_factors) .none kV_lap_factors dc_lap_factors pm_lap_factors an_lap_factors cd_lap_factors ct_lap_factors), sl_lap_factors⟩) (c_lap_factors : PySem.W.codeIn K cd_lap_factors "lap_factors" = true) (k_lap_factors : PySem.W.keepIn K (.ref f_lap_factors) = true)
    {od__law_sower an__law_sower : Option Addr} {sl__law_sower : Array (Option Value)} {oc__law_sower kV__law_sower dc__law_sower pm__law_sower cd__law_sower ct__law_sower : Value} {f__law_sower : Addr}
    (a__law_sower : PySem.W.nsIn K mainGlobals "_law_sower" = some (some (.ref f__law_sower))) (l__law_sower : K.lookup f__law_sower = some ⟨oc__law_sower, od__law_sower, .func (PySem.W.fnOf "_law_sower" "_law_sower" (defArgs s__law_sower) (defBody s__law_sower) (defScope s__law_sower) .none kV__law_sower dc__law_sower pm__law_sower an__law_sower cd__law_sower ct__law_sower), sl__law_sower⟩) (c__law_sower : PySem.W.codeIn K cd__law_sower "_law_sower" = true) (k__law_sower : PySem.W.keepIn K (.ref f__law_sower) = true)
    {od__law_scatter an__law_scatter : Option Addr} {sl__law_scatter : Array (Option Value)} {oc__law_scatter kV__law_scatter dc__law_scatter pm__law_scatter cd__law_scatter ct__law_scatter : Value} {f__law_scatter : Addr}
    (a__law_scatter : PySem.W.nsIn K mainGlobals "_law_scatter" = some (some (.ref f__law_scatter))) (l__law_scatter : K.lookup f__law_scatter = some ⟨oc__law_scatter, od__law_scatter, .func (PySem.W.fnOf "_law_scatter" "_law_scatter" (defArgs s__law_scatter) (defBody s__law_scatter) (defScope s__law_scatter) .none kV__law_scatter dc__law_scatter pm__law_scatter an__law_scatter cd__law_scatter ct__law_scatter), sl__law_scatter⟩) (c__law_scatter : PySem.W.codeIn K cd__law_scatter "_law_scatter" = true) (k__law_scatter : PySem.W.keepIn K (.ref f__law_scatter) = true)
    {od__law_grain an__law_grain : Option Addr} {sl__law_grain : Array (Option Value)} {oc__law_grain kV__law_grain dc__law_grain pm__law_grain cd__law_grain ct__law_grain : Value} {f__law_grain : Addr}
    (a__law_grain : PySem.W.nsIn K mainGlobals "_law_grain" = some (some (.ref f__law_grain))) (l__law_grain : K.lookup f__law_grain = some ⟨oc__law_grain, od__law_grain, .func (PySem.W.fnOf "_law_grain" "_law_grain" (defArgs s__law_grain) (defBody s__law_grain) (defScope s__law_grain) .none kV__law_grain dc__law_grain pm__law_grain an__law_grain cd__law_grain ct__law_grain), sl__law_grain⟩) (c__law_grain : PySem.W.codeIn K cd__law_grain "_law_grain" = true) (k__law_grain : PySem.W.keepIn K (.ref f__law_grain) = true)
    {od__law_halved an__law_halved : Option Addr} {sl__law_halved : Array (Option Value)} {oc__law_halved kV__law_halved dc__law_halved pm__law_halved cd__law_halved ct__law_halved : Value} {f__law_halved : Addr}
    (a__law_halved : PySem.W.nsIn K mainGlobals "_law_halved" = some (some (.ref f__law_halved))) (l__law_halved : K.lookup f__law_halved = some ⟨oc__law_halved, od__law_halved, .func (PySem.W.fnOf "_law_halved" "_law_halved" (defArgs s__law_halved) (defBody s__law_halved) (defScope s__law_halved) .none kV__law_halved dc__law_halved pm__law_halved an__law_halved cd__law_halved ct__law_halved), sl__law_halved⟩) (c__law_halved : PySem.W.codeIn K cd__law_halved "_law_halved" = true) (k__law_halved : PySem.W.keepIn K (.ref f__law_halved) = true)
    {od__law_due an__law_due : Option Addr} {sl__law_due : Array (Option Value)} {oc__law_due kV__law_due dc__law_due pm__law_due cd__law_due ct__law_due : Value} {f__law_due : Addr}
    (a__law_due : PySem.W.nsIn K mainGlobals "_law_due" = some (some (.ref f__law_due))) (l__law_due : K.lookup f__law_due = some ⟨oc__law_due, od__law_due, .func (PySem.W.fnOf "_law_due" "_law_due" (defArgs s__law_due) (defBody s__law_due) (defScope s__law_due) .none kV__law_due dc__law_due pm__law_due an__law_due cd__law_due ct__law_due), sl__law_due⟩) (c__law_due : PySem.W.codeIn K cd__law_due "_law_due" = true) (k__law_due : PySem.W.keepIn K (.ref f__law_due) = true)
    {od__law_place_right an__law_place_right : Option Addr} {sl__law_place_right : Array (Option Value)} {oc__law_place_right kV__law_place_right dc__law_place_right pm__law_place_right cd__law_place_right ct__law_place_right : Value} {f__law_place_right : Addr}
    (a__law_place_right : PySem.W.nsIn K mainGlobals "_law_place_right" = some (some (.ref f__law_place_right))) (l__law_place_right : K.lookup f__law_place_right = some ⟨oc__law_place_right, od__law_place_right, .func (PySem.W.fnOf "_law_place_right" "_law_place_right" (defArgs s__law_place_right) (defBody s__law_place_right) (defScope s__law_place_right) .none kV__law_place_right dc__law_place_right pm__law_place_right an__law_place_right cd__law_place_right ct__law_place_right), sl__law_place_right⟩) (c__law_place_right : PySem.W.codeIn K cd__law_place_right "_law_place_right" = true) (k__law_place_right : PySem.W.keepIn K (.ref f__law_place_right) = true)
    {od__law_no_lengths an__law_no_lengths : Option Addr} {sl__law_no_lengths : Array (Option Value)} {oc__law_no_lengths kV__law_no_lengths dc__law_no_lengths pm__law_no_lengths cd__law_no_lengths ct__law_no_lengths : Value} {f__law_no_lengths : Addr}
    (a__law_no_lengths : PySem.W.nsIn K mainGlobals "_law_no_lengths" = some (some (.ref f__law_no_lengths))) (l__law_no_lengths : K.lookup f__law_no_lengths = some ⟨oc__law_no_lengths, od__law_no_lengths, .func (PySem.W.fnOf "_law_no_lengths" "_law_no_lengths" (defArgs s__law_no_lengths) (defBody s__law_no_lengths) (defScope s__law_no_lengths) .none kV__law_no_lengths dc__law_no_lengths pm__law_no_lengths an__law_no_lengths cd__law_no_lengths ct__law_no_lengths), sl__law_no_lengths⟩) (c__law_no_lengths : PySem.W.codeIn K cd__law_no_lengths "_law_no_lengths" = true) (k__law_no_lengths : PySem.W.keepIn K (.ref f__law_no_lengths) = true)
    {od_law an_law : Option Addr} {sl_law : Array (Option Value)} {oc_law kV_law dc_law pm_law cd_law ct_law : Value} {f_law : Addr}
    (a_law : PySem.W.nsIn K mainGlobals "law" = some (some (.ref f_law))) (l_law : K.lookup f_law = some ⟨oc_law, od_law, .func (PySem.W.fnOf "law" "law" (defArgs s_law) (defBody s_law) (defScope s_law) .none kV_law dc_law pm_law an_law cd_law ct_law), sl_law⟩) (c_law : PySem.W.codeIn K cd_law "law" = true) (k_law : PySem.W.keepIn K (.ref f_law) = true)
    (z_isinstance : PySem.W.nsIn K mainGlobals "isinstance" = some none)
    (z_int : PySem.W.nsIn K mainGlobals "int" = some none)
    (z_bool : PySem.W.nsIn K mainGlobals "bool" = some none)
    (z_list : PySem.W.nsIn K mainGlobals "list" = some none)
    (z_tuple : PySem.W.nsIn K mainGlobals "tuple" = some none)
    (z_len : PySem.W.nsIn K mainGlobals "len" = some none)
    (z_all : PySem.W.nsIn K mainGlobals "all" = some none)
    (z_gcd : PySem.W.nsIn K mainGlobals "gcd" = some (some (.builtin "math.gcd")))
    (z_sum : PySem.W.nsIn K mainGlobals "sum" = some none)
    (z_range : PySem.W.nsIn K mainGlobals "range" = some none)
    (z_zip : PySem.W.nsIn K mainGlobals "zip" = some none)
    (z_abs : PySem.W.nsIn K mainGlobals "abs" = some none)
    (z_enumerate : PySem.W.nsIn K mainGlobals "enumerate" = some none)
    (z_repr : PySem.W.nsIn K mainGlobals "repr" = some none)
    (z_ValueError : PySem.W.nsIn K mainGlobals "ValueError" = some none)
    (z_max : PySem.W.nsIn K mainGlobals "max" = some none)
    {t_MOST_PLACES : Tok} (g_MOST_PLACES : PySem.W.nsIn K mainGlobals "MOST_PLACES" = some (some (.int 40 t_MOST_PLACES)))
    {t_MOST_LENGTH : Tok} (g_MOST_LENGTH : PySem.W.nsIn K mainGlobals "MOST_LENGTH" = some (some (.int 30 t_MOST_LENGTH)))
    {t_MOST_STEP : Tok} (g_MOST_STEP : PySem.W.nsIn K mainGlobals "MOST_STEP" = some (some (.int 1000000000 t_MOST_STEP)))
    {nm_BadNumber q_BadNumber : Str} {N_BadNumber_ : Addr} {bs_BadNumber bm_BadNumber : List Value} {sn_BadNumber : List Str} {sub_BadNumber : List Value} {ab_BadNumber : Bool} {col_BadNumber : Option Bool} {dd_BadNumber : Option Addr} {m0_BadNumber m1_BadNumber m2_BadNumber m3_BadNumber m5_BadNumber : Option Value} {c_BadNumber f_BadNumber : Addr}
    {od_BadNumber an_BadNumber : Option Addr} {sl_BadNumber : Array (Option Value)} {oc_BadNumber kV_BadNumber dc_BadNumber pm_BadNumber cd_BadNumber ct_BadNumber : Value}
    (at_BadNumber : PySem.W.nsIn K mainGlobals "BadNumber" = some (some (.ref c_BadNumber)))
    (xL_BadNumber : K.lookup c_BadNumber = some (excClassObj nm_BadNumber q_BadNumber c_BadNumber N_BadNumber_ bs_BadNumber bm_BadNumber true sn_BadNumber sub_BadNumber ab_BadNumber col_BadNumber dd_BadNumber m0_BadNumber m1_BadNumber m2_BadNumber m3_BadNumber m5_BadNumber "ValueError.__new__"))
    (rv_BadNumber : PySem.HandSPX.refsVE bm_BadNumber = true)
    (sa_BadNumber : PySem.W.findIn K (.ref c_BadNumber) "__setattr__" = some (some (.builtin "object.__setattr__")))
    (eC_BadNumber : PySem.W.subIn K (.ref c_BadNumber) (.type "BaseException") = some true)
    (tC_BadNumber : PySem.W.typeIn K (.ref c_BadNumber) = some (.type "type"))
    (kC_BadNumber : PySem.W.keepIn K (.ref c_BadNumber) = true)
    (ga_BadNumber : PySem.W.findIn K (.ref c_BadNumber) "__getattribute__" = some (some (.builtin "BaseException.__getattribute__")))
    (gg_BadNumber : PySem.W.findIn K (.ref c_BadNumber) "__getattr__" = some none)
    (hd_BadNumber : PySem.W.hasDictIn K c_BadNumber = true)
    (cA_BadNumber : PySem.W.findIn K (.ref c_BadNumber) "__class__" = some (some (.builtin "object.__class__")))
    (cm_BadNumber : PySem.W.mroIn K c_BadNumber (.type "object") = some true)
    (no_BadNumber : PySem.W.findIn K (.ref c_BadNumber) "part" = some none)
    (ai_BadNumber : PySem.W.findIn K (.ref c_BadNumber) "__init__" = some (some (.ref f_BadNumber)))
    (ti_BadNumber : PySem.W.typeIn K (.ref f_BadNumber) = some (.type "function"))
    (li_BadNumber : K.lookup f_BadNumber = some ⟨oc_BadNumber, od_BadNumber, .func (PySem.W.fnOf "__init__" "BadNumber.__init__" (defArgs s_BadNumber_init) (defBody s_BadNumber_init) (defScope s_BadNumber_init) .none kV_BadNumber dc_BadNumber pm_BadNumber an_BadNumber cd_BadNumber ct_BadNumber), sl_BadNumber⟩)
    (ci_BadNumber : PySem.W.codeIn K cd_BadNumber "BadNumber.__init__" = true)
    (ki_BadNumber : PySem.W.keepIn K (.ref f_BadNumber) = true)
    (cg : PySem.W.specialIn K (.builtin "object.__class__") "__get__" = some (some (.builtin "getset_descriptor.__get__")))
    (ct : PySem.W.takesIn K (.builtin "object.__class__") = some true)
    (ek_BadNumber : PySem.W.kitCls K (.ref c_BadNumber) (.ref c_BadNumber) = some true)
    {c_TickError : Addr}
    (at_TickError : PySem.W.nsIn K mainGlobals "TickError" = some (some (.ref c_TickError)))
    : ∃ fd : FuncData, (∀ (s : Shared) (v : Value), BindsTo s fd ⟨[v], []⟩ [("script", v)]) ∧ ∀ base : Heap, K.In base → base.Ns mainGlobals mg → FnG l.prog w K mg base CX0 7 fa fd ["script"] (spLawD K) := by
  have e := hfa.symm.trans (PySem.W.mg_of X G a_law)
  cases e
  have T : Txt mg := ⟨PySem.W.mg_none_of X G z_isinstance, PySem.W.mg_none_of X G z_int, PySem.W.mg_none_of X G z_bool, PySem.W.mg_none_of X G z_list, PySem.W.mg_none_of X G z_tuple, PySem.W.mg_none_of X G z_len, PySem.W.mg_none_of X G z_all, PySem.W.mg_none_of X G z_sum, PySem.W.mg_none_of X G z_range, PySem.W.mg_none_of X G z_zip, PySem.W.mg_none_of X G z_abs, PySem.W.mg_none_of X G z_enumerate, PySem.W.mg_none_of X G z_repr, PySem.W.mg_none_of X G z_ValueError, PySem.W.mg_none_of X G z_max, ⟨_, PySem.W.mg_of X G g_MOST_PLACES⟩, ⟨_, PySem.W.mg_of X G g_MOST_LENGTH⟩, ⟨_, PySem.W.mg_of X G g_MOST_STEP⟩, PySem.W.mg_of X G z_gcd⟩
  have F_is_integer := fun_mk (st := s_is_integer) l_is_integer c_is_integer k_is_integer
  have b_is_integer := F_is_integer.binds (ps := ["value"]) fun _ _ _ _ _ _ us hl => match us, hl with | [_], _ => rfl
  have m_is_integer := PySem.W.mg_of X G a_is_integer
  have F_is_within := fun_mk (st := s_is_within) l_is_within c_is_within k_is_within
  have b_is_within := F_is_within.binds (ps := ["value", "least", "most"]) fun _ _ _ _ _ _ us hl => match us, hl with | [_, _, _], _ => rfl
  have m_is_within := PySem.W.mg_of X G a_is_within
  have F_is_row := fun_mk (st := s_is_row) l_is_row c_is_row k_is_row
  have b_is_row := F_is_row.binds (ps := ["value", "least", "most"]) fun _ _ _ _ _ _ us hl => match us, hl with | [_, _, _], _ => rfl
  have m_is_row := PySem.W.mg_of X G a_is_row
  have F_is_row_within := fun_mk (st := s_is_row_within) l_is_row_within c_is_row_within k_is_row_within
  have b_is_row_within := F_is_row_within.binds (ps := ["value", "many", "least", "most"]) fun _ _ _ _ _ _ us hl => match us, hl with | [_, _, _, _], _ => rfl
  have m_is_row_within := PySem.W.mg_of X G a_is_row_within
  have F_need_within := fun_mk (st := s_need_within) l_need_within c_need_within k_need_within
  have b_need_within := F_need_within.binds (ps := ["value", "least", "most", "part"]) fun _ _ _ _ _ _ us hl => match us, hl with | [_, _, _, _], _ => rfl
  have m_need_within := PySem.W.mg_of X G a_need_within
  have F_reduced := fun_mk (st := s_reduced) l_reduced c_reduced k_reduced
  have b_reduced := F_reduced.binds (ps := ["up", "down"]) fun _ _ _ _ _ _ us hl => match us, hl with | [_, _], _ => rfl
  have m_reduced := PySem.W.mg_of X G a_reduced
  have F_need_lengths := fun_mk (st := s_need_lengths) l_need_lengths c_need_lengths k_need_lengths
  have b_need_lengths := F_need_lengths.binds (ps := ["lengths"]) fun _ _ _ _ _ _ us hl => match us, hl with | [_], _ => rfl
  have m_need_lengths := PySem.W.mg_of X G a_need_lengths
  have F_steps_in := fun_mk (st := s_steps_in) l_steps_in c_steps_in k_steps_in
  have b_steps_in := F_steps_in.binds (ps := ["lengths", "lap"]) fun _ _ _ _ _ _ us hl => match us, hl with | [_, _], _ => rfl
  have m_steps_in := PySem.W.mg_of X G a_steps_in
  have F_steps_before := fun_mk (st := s_steps_before) l_steps_before c_steps_before k_steps_before
  have b_steps_before := F_steps_before.binds (ps := ["lengths", "lap"]) fun _ _ _ _ _ _ us hl => match us, hl with | [_, _], _ => rfl
  have m_steps_before := PySem.W.mg_of X G a_steps_before
  have F_lap_tick := fun_mk (st := s_lap_tick) l_lap_tick c_lap_tick k_lap_tick
  have b_lap_tick := F_lap_tick.binds (ps := ["lengths", "place", "step"]) fun _ _ _ _ _ _ us hl => match us, hl with | [_, _, _], _ => rfl
  have m_lap_tick := PySem.W.mg_of X G a_lap_tick
  have F_lap_factors := fun_mk (st := s_lap_factors) l_lap_factors c_lap_factors k_lap_factors
  have b_lap_factors := F_lap_factors.binds (ps := ["lengths"]) fun _ _ _ _ _ _ us hl => match us, hl with | [_], _ => rfl
  have m_lap_factors := PySem.W.mg_of X G a_lap_factors
  have F__law_sower := fun_mk (st := s__law_sower) l__law_sower c__law_sower k__law_sower
  have b__law_sower := F__law_sower.binds (ps := ["script"]) fun _ _ _ _ _ _ us hl => match us, hl with | [_], _ => rfl
  have m__law_sower := PySem.W.mg_of X G a__law_sower
  have F__law_scatter := fun_mk (st := s__law_scatter) l__law_scatter c__law_scatter k__law_scatter
  have b__law_scatter := F__law_scatter.binds (ps := ["sower", "many"]) fun _ _ _ _ _ _ us hl => match us, hl with | [_, _], _ => rfl
  have m__law_scatter := PySem.W.mg_of X G a__law_scatter
  have F__law_grain := fun_mk (st := s__law_grain) l__law_grain c__law_grain k__law_grain
  have b__law_grain := F__law_grain.binds (ps := ["sower", "some"]) fun _ _ _ _ _ _ us hl => match us, hl with | [_, _], _ => rfl
  have m__law_grain := PySem.W.mg_of X G a__law_grain
  have F__law_halved := fun_mk (st := s__law_halved) l__law_halved c__law_halved k__law_halved
  have b__law_halved := F__law_halved.binds (ps := ["up", "down"]) fun _ _ _ _ _ _ us hl => match us, hl with | [_, _], _ => rfl
  have m__law_halved := PySem.W.mg_of X G a__law_halved
  have F__law_due := fun_mk (st := s__law_due) l__law_due c__law_due k__law_due
  have b__law_due := F__law_due.binds (ps := ["lengths", "place"]) fun _ _ _ _ _ _ us hl => match us, hl with | [_, _], _ => rfl
  have m__law_due := PySem.W.mg_of X G a__law_due
  have F__law_place_right := fun_mk (st := s__law_place_right) l__law_place_right c__law_place_right k__law_place_right
  have b__law_place_right := F__law_place_right.binds (ps := ["sower", "lengths", "place", "pair"]) fun _ _ _ _ _ _ us hl => match us, hl with | [_, _, _, _], _ => rfl
  have m__law_place_right := PySem.W.mg_of X G a__law_place_right
  have F__law_no_lengths := fun_mk (st := s__law_no_lengths) l__law_no_lengths c__law_no_lengths k__law_no_lengths
  have b__law_no_lengths := F__law_no_lengths.binds (ps := ["value"]) fun _ _ _ _ _ _ us hl => match us, hl with | [_], _ => rfl
  have m__law_no_lengths := PySem.W.mg_of X G a__law_no_lengths
  have F_law := fun_mk (st := s_law) l_law c_law k_law
  have O_BadNumber : OexC K c_BadNumber := ⟨⟨nm_BadNumber, q_BadNumber, N_BadNumber_, bs_BadNumber, bm_BadNumber, sn_BadNumber, sub_BadNumber, ab_BadNumber, col_BadNumber, dd_BadNumber, m0_BadNumber, m1_BadNumber, m2_BadNumber, m3_BadNumber, m5_BadNumber, xL_BadNumber, rv_BadNumber⟩, sa_BadNumber, eC_BadNumber, tC_BadNumber, kC_BadNumber⟩
  have E_BadNumber : ExC K c_BadNumber := ⟨O_BadNumber, ga_BadNumber, gg_BadNumber, hd_BadNumber, cA_BadNumber, cg, ct, cm_BadNumber⟩
  have F_BadNumber := fun_mk (st := s_BadNumber_init) li_BadNumber ci_BadNumber ki_BadNumber
  have M_BadNumber := PySem.W.mg_of X G at_BadNumber

  refine ⟨PySem.W.fnOf "law" "law" (defArgs s_law) (defBody s_law) (defScope s_law) .none kV_law dc_law pm_law an_law cd_law ct_law, fun s v => .of_eq rfl, fun base _ _ => ?_⟩
  let cl : Str → Addr := fun x => if x = "BadNumber" then c_BadNumber else 0
  have hcl_BadNumber : cl "BadNumber" = c_BadNumber := if_pos rfl
  have R0_BadNumber : Rcl l.prog w K mg base "BadNumber" c_BadNumber "part" := ⟨O_BadNumber, M_BadNumber, no_BadNumber, f_BadNumber, _, _, ai_BadNumber, ti_BadNumber, ok_BadNumber F_BadNumber, F_BadNumber.binds (ps := ["self", "part"]) fun _ _ _ _ _ _ us hl => match us, hl with | [_, _], _ => rfl⟩
  have R_BadNumber : Rcl l.prog w K mg base "BadNumber" (cl "BadNumber") "part" := hcl_BadNumber ▸ R0_BadNumber
  have X_BadNumber : XfC K (cl "BadNumber") ∧ PySem.W.exmOne K (.ref (cl "BadNumber")) (.ref (cl "BadNumber")) = some true := by
    rw [hcl_BadNumber]
    refine ⟨⟨ga_BadNumber, gg_BadNumber, eC_BadNumber, hd_BadNumber⟩, ?_⟩
    unfold PySem.W.exmOne
    rw [eC_BadNumber]
    exact ek_BadNumber
  have C_is_integer : CalX l.prog w K mg base 1 "is_integer" ["value"] (spF K cl [] 1 mf_is_integer) := ⟨_, _, ok_is_integer F_is_integer T , m_is_integer, k_is_integer, b_is_integer⟩
  have C_is_within : CalX l.prog w K mg base 2 "is_within" ["value", "least", "most"] (spF K cl [] 3 mf_is_within) := ⟨_, _, ok_is_within F_is_within T C_is_integer, m_is_within, k_is_within, b_is_within⟩
  have C_is_row : CalX l.prog w K mg base 1 "is_row" ["value", "least", "most"] (spF K cl [] 3 mf_is_row) := ⟨_, _, ok_is_row F_is_row T , m_is_row, k_is_row, b_is_row⟩
  have C_is_row_within : CalX l.prog w K mg base 3 "is_row_within" ["value", "many", "least", "most"] (spF K cl [] 4 mf_is_row_within) := ⟨_, _, ok_is_row_within F_is_row_within T C_is_within C_is_row, m_is_row_within, k_is_row_within, b_is_row_within⟩
  have C_need_within : CalX l.prog w K mg base 3 "need_within" ["value", "least", "most", "part"] (spF K cl [] 4 mf_need_within) := ⟨_, _, ok_need_within F_need_within T C_is_within R_BadNumber, m_need_within, k_need_within, b_need_within⟩
  have C_reduced : CalX l.prog w K mg base 1 "reduced" ["up", "down"] (spF K cl [] 2 mf_reduced) := ⟨_, _, ok_reduced F_reduced T , m_reduced, k_reduced, b_reduced⟩
  have C_need_lengths : CalX l.prog w K mg base 4 "need_lengths" ["lengths"] (spF K cl [] 1 mf_need_lengths) := ⟨_, _, ok_need_lengths F_need_lengths T C_is_row_within R_BadNumber, m_need_lengths, k_need_lengths, b_need_lengths⟩
  have C_steps_in : CalX l.prog w K mg base 1 "steps_in" ["lengths", "lap"] (spF K cl [] 2 mf_steps_in) := ⟨_, _, ok_steps_in F_steps_in T , m_steps_in, k_steps_in, b_steps_in⟩
  have C_steps_before : CalX l.prog w K mg base 2 "steps_before" ["lengths", "lap"] (spF K cl [] 2 mf_steps_before) := ⟨_, _, ok_steps_before F_steps_before T C_steps_in, m_steps_before, k_steps_before, b_steps_before⟩
  have C_lap_tick : CalX l.prog w K mg base 5 "lap_tick" ["lengths", "place", "step"] (spF K cl [] 3 mf_lap_tick) := ⟨_, _, ok_lap_tick F_lap_tick T C_need_lengths C_need_within C_steps_before C_steps_in, m_lap_tick, k_lap_tick, b_lap_tick⟩
  have C_lap_factors : CalX l.prog w K mg base 5 "lap_factors" ["lengths"] (spF K cl [] 1 mf_lap_factors) := ⟨_, _, ok_lap_factors F_lap_factors T C_need_lengths C_reduced, m_lap_factors, k_lap_factors, b_lap_factors⟩
  have CK_lap_factors_l : CalXK l.prog w K mg base 5 "lap_factors" ["lengths"] ["lengths"] (fun zs => gId zs) (spF K cl [] 1 mf_lap_factors) := ⟨_, _, _, ok_lap_factors F_lap_factors T C_need_lengths C_reduced, m_lap_factors, k_lap_factors, Fun.kb F_lap_factors (@gId) (fun h => vals_id h) fun _ _ _ _ _ _ ws hl => match ws, hl with | [_], _ => rfl⟩
  have C__law_sower : CalX l.prog w K mg base 1 "_law_sower" ["script"] (spF K cl [] 1 mf__law_sower) := ⟨_, _, ok__law_sower F__law_sower T , m__law_sower, k__law_sower, b__law_sower⟩
  have C__law_scatter : CalX l.prog w K mg base 1 "_law_scatter" ["sower", "many"] (spF K cl [0] 2 mf__law_scatter) := ⟨_, _, ok__law_scatter F__law_scatter T , m__law_scatter, k__law_scatter, b__law_scatter⟩
  have C__law_grain : CalX l.prog w K mg base 2 "_law_grain" ["sower", "some"] (spF K cl [0] 2 mf__law_grain) := ⟨_, _, ok__law_grain F__law_grain T C__law_scatter, m__law_grain, k__law_grain, b__law_grain⟩
  have C__law_halved : CalX l.prog w K mg base 1 "_law_halved" ["up", "down"] (spF K cl [] 2 mf__law_halved) := ⟨_, _, ok__law_halved F__law_halved T , m__law_halved, k__law_halved, b__law_halved⟩
  have C__law_due : CalX l.prog w K mg base 2 "_law_due" ["lengths", "place"] (spF K cl [] 2 mf__law_due) := ⟨_, _, ok__law_due F__law_due T C__law_halved, m__law_due, k__law_due, b__law_due⟩
  have C__law_place_right : CalX l.prog w K mg base 6 "_law_place_right" ["sower", "lengths", "place", "pair"] (spF K cl [0] 4 mf__law_place_right) := ⟨_, _, ok__law_place_right F__law_place_right T C__law_scatter C_lap_tick, m__law_place_right, k__law_place_right, b__law_place_right⟩
  have C__law_no_lengths : CalX l.prog w K mg base 6 "_law_no_lengths" ["value"] (spF K cl [] 1 mf__law_no_lengths) := ⟨_, _, ok__law_no_lengths F__law_no_lengths T C_lap_factors R_BadNumber X_BadNumber (PySem.W.mg_of X G at_TickError), m__law_no_lengths, k__law_no_lengths, b__law_no_lengths⟩
  exact fnG_imp (ok_law F_law T C__law_sower C__law_grain C__law_scatter C__law_due C_lap_factors CK_lap_factors_l C__law_place_right C__law_no_lengths C__law_halved) (spLaw_of fun ns hn => law_ok hn)

theorem walk {l : PySem.W.OpenLaw} {q : Program} {loose : List Str} {XP : (Str → Option Value) → Heap → Prop} {YP : World → Heap → Prop} {d : DefRec} {K : Params → PySem.W.Frag} (hn : l.most = some 63) (hdf : d.params.defaults = [])
    (hY : ∀ (w : World) (h : Heap), YP w h → (K w.params).In h)
    (F : ∀ (w : World) (mg : Str → Option Value) (fa : Addr) (h : Heap), (K w.params).In h → h.Ns mainGlobals mg → mg d.name = some (.ref fa) →
      ∃ fd : FuncData, (∀ (s : Shared) (u : Value), BindsTo s fd ⟨[u], []⟩ [("script", u)]) ∧ ∀ base : Heap, (K w.params).In base → base.Ns mainGlobals mg → FnG l.prog w (K w.params) mg base CX0 7 fa fd ["script"] ((fun K => spLawD K) (K w.params))) :
    PySem.W.WalkO q loose XP YP l.row.toRowW d [] (fun f vs => PySem.call f vs) :=
  Own.walk_ofG (n := 63) (k := 7) (x := "script") (sp := fun K => spLawD K) hn (by decide) hdf ⟨rfl, by decide, by decide⟩ hY F fun _ _ a ns hl hb _ hS => ⟨a, ns, rfl, hS, ⟨hl, fun _ => rfl⟩⟩
end K61

open PySem PySem.W PyProof.Rows in
set_option maxRecDepth 100000 in
set_option maxHeartbeats 0 in
theorem PySem.Challenge.cw_duetickers_k61_what_laps_keep_holds : PySem.Challenge.rw_duetickers_k61_what_laps_keep.Holds := by
  w_on; o_law; k_head; (case hw => w_witness2)
  k_fill
  refine K61.walk (l := PySem.Challenge.rw_duetickers_k61_what_laps_keep) rfl rfl (fun w h Y => PySem.W.kIn_of Y) ?F
  case F =>
    intro w mg fa h KX G hmg
    refine' K61.all_mk KX G hmg ?a_is_integer ?l_is_integer ?c_is_integer ?k_is_integer ?a_is_within ?l_is_within ?c_is_within ?k_is_within ?a_is_row ?l_is_row ?c_is_row ?k_is_row ?a_is_row_within ?l_is_row_within ?c_is_row_within ?k_is_row_within ?a_need_within ?l_need_within ?c_need_within ?k_need_within ?a_reduced ?l_reduced ?c_reduced ?k_reduced ?a_need_lengths ?l_need_lengths ?c_need_lengths ?k_need_lengths ?a_steps_in ?l_steps_in ?c_steps_in ?k_steps_in ?a_steps_before ?l_steps_before ?c_steps_before ?k_steps_before ?a_lap_tick ?l_lap_tick ?c_lap_tick ?k_lap_tick ?a_lap_factors ?l_lap_factors ?c_lap_factors ?k_lap_factors ?a__law_sower ?l__law_sower ?c__law_sower ?k__law_sower ?a__law_scatter ?l__law_scatter ?c__law_scatter ?k__law_scatter ?a__law_grain ?l__law_grain ?c__law_grain ?k__law_grain ?a__law_halved ?l__law_halved ?c__law_halved ?k__law_halved ?a__law_due ?l__law_due ?c__law_due ?k__law_due ?a__law_place_right ?l__law_place_right ?c__law_place_right ?k__law_place_right ?a__law_no_lengths ?l__law_no_lengths ?c__law_no_lengths ?k__law_no_lengths ?a_law ?l_law ?c_law ?k_law ?z_isinstance ?z_int ?z_bool ?z_list ?z_tuple ?z_len ?z_all ?z_gcd ?z_sum ?z_range ?z_zip ?z_abs ?z_enumerate ?z_repr ?z_ValueError ?z_max ?g_MOST_PLACES ?g_MOST_LENGTH ?g_MOST_STEP ?at_BadNumber ?xL_BadNumber ?rv_BadNumber ?sa_BadNumber ?eC_BadNumber ?tC_BadNumber ?kC_BadNumber ?ga_BadNumber ?gg_BadNumber ?hd_BadNumber ?cA_BadNumber ?cm_BadNumber ?no_BadNumber ?ai_BadNumber ?ti_BadNumber ?li_BadNumber ?ci_BadNumber ?ki_BadNumber ?cg ?ct ?ek_BadNumber ?at_TickError
    (case a_is_integer => k_is)
    (case l_is_integer => k_is)
    (case c_is_integer => k_is)
    (case k_is_integer => k_is)
    (case a_is_within => k_is)
    (case l_is_within => k_is)
    (case c_is_within => k_is)
    (case k_is_within => k_is)
    (case a_is_row => k_is)
    (case l_is_row => k_is)
    (case c_is_row => k_is)
    (case k_is_row => k_is)
    (case a_is_row_within => k_is)
    (case l_is_row_within => k_is)
    (case c_is_row_within => k_is)
    (case k_is_row_within => k_is)
    (case a_need_within => k_is)
    (case l_need_within => k_is)
    (case c_need_within => k_is)
    (case k_need_within => k_is)
    (case a_reduced => k_is)
    (case l_reduced => k_is)
    (case c_reduced => k_is)
    (case k_reduced => k_is)
    (case a_need_lengths => k_is)
    (case l_need_lengths => k_is)
    (case c_need_lengths => k_is)
    (case k_need_lengths => k_is)
    (case a_steps_in => k_is)
    (case l_steps_in => k_is)
    (case c_steps_in => k_is)
    (case k_steps_in => k_is)
    (case a_steps_before => k_is)
    (case l_steps_before => k_is)
    (case c_steps_before => k_is)
    (case k_steps_before => k_is)
    (case a_lap_tick => k_is)
    (case l_lap_tick => k_is)
    (case c_lap_tick => k_is)
    (case k_lap_tick => k_is)
    (case a_lap_factors => k_is)
    (case l_lap_factors => k_is)
    (case c_lap_factors => k_is)
    (case k_lap_factors => k_is)
    (case a__law_sower => k_is)
    (case l__law_sower => k_is)
    (case c__law_sower => k_is)
    (case k__law_sower => k_is)
    (case a__law_scatter => k_is)
    (case l__law_scatter => k_is)
    (case c__law_scatter => k_is)
    (case k__law_scatter => k_is)
    (case a__law_grain => k_is)
    (case l__law_grain => k_is)
    (case c__law_grain => k_is)
    (case k__law_grain => k_is)
    (case a__law_halved => k_is)
    (case l__law_halved => k_is)
    (case c__law_halved => k_is)
    (case k__law_halved => k_is)
    (case a__law_due => k_is)
    (case l__law_due => k_is)
    (case c__law_due => k_is)
    (case k__law_due => k_is)
    (case a__law_place_right => k_is)
    (case l__law_place_right => k_is)
    (case c__law_place_right => k_is)
    (case k__law_place_right => k_is)
    (case a__law_no_lengths => k_is)
    (case l__law_no_lengths => k_is)
    (case c__law_no_lengths => k_is)
    (case k__law_no_lengths => k_is)
    (case a_law => k_is)
    (case l_law => k_is)
    (case c_law => k_is)
    (case k_law => k_is)
    (case z_isinstance => k_is)
    (case z_int => k_is)
    (case z_bool => k_is)
    (case z_list => k_is)
    (case z_tuple => k_is)
    (case z_len => k_is)
    (case z_all => k_is)
    (case z_gcd => k_is)
    (case z_sum => k_is)
    (case z_range => k_is)
    (case z_zip => k_is)
    (case z_abs => k_is)
    (case z_enumerate => k_is)
    (case z_repr => k_is)
    (case z_ValueError => k_is)
    (case z_max => k_is)
    (case g_MOST_PLACES => k_is)
    (case g_MOST_LENGTH => k_is)
    (case g_MOST_STEP => k_is)
    (case at_BadNumber => k_is)
    (case xL_BadNumber => k_is)
    (case rv_BadNumber => first | decide +kernel | rfl)
    (case sa_BadNumber => k_is)
    (case eC_BadNumber => k_is)
    (case tC_BadNumber => k_is)
    (case kC_BadNumber => k_is)
    (case ga_BadNumber => k_is)
    (case gg_BadNumber => k_is)
    (case hd_BadNumber => k_is)
    (case cA_BadNumber => k_is)
    (case cm_BadNumber => k_is)
    (case no_BadNumber => k_is)
    (case ai_BadNumber => k_is)
    (case ti_BadNumber => k_is)
    (case li_BadNumber => k_is)
    (case ci_BadNumber => k_is)
    (case ki_BadNumber => k_is)
    (case cg => k_is)
    (case ct => k_is)
    (case ek_BadNumber => first | k_is | kernel_rfl)
    (case at_TickError => k_is)
